/- All states of a run: plain facts that its being in memory needs. -/
import Derived.Test.YtblbkfdhjfppkaaGreatDoorB11
import Derived.Test.YtblbkfdhjfppkaaGreatDoorP22
set_option maxRecDepth 100000
set_option maxHeartbeats 4000000
namespace Go.Proofs.YtblbkfdhjfppkaaGreatDoor
open Hs
open Tryz(prog)
open Go.RowKit
theorem sS:∀(l:List aI) (a v:aI),(cI l a v).2<=9
 |[],_,_=>by simp[cI]
 |i::l,a,v=>by
  unfold cI;have:=sS l (a.l.getD i.n.toNat bL) v;repeat' split
  all_goals first|(simp;done)|exact this
theorem xX{r:aI × Nat}(h:r.2<=9):(iA r).2<=9:=by
 unfold iA;split
 ·split
  ·simp
  ·exact h
 ·exact h
theorem WV(op:List UInt8)(a b:aI):(eM op a b).2<=9:=by
 unfold eM jB jA;repeat' split
 all_goals first|(simp;done)|(simp only[];split<;>simp)
theorem YD(op:List UInt8)(a:aI):(fG op a).2<=9:=by
 unfold fG;repeat' split
 all_goals simp
theorem PC(a b:aI):(dB a b).2<=9:=by
 unfold dB;repeat' split
 all_goals simp
theorem KV(a:aI):(eC a).2<=9:=by
 unfold eC;repeat' split
 all_goals simp
theorem LB(i:aH)(f:aK):(aN i f).2<=9:=by
 cases i<;>simp only[aN]
 case assign k n=>
  have:=xX (sS (f.pop.many n) (f.vars[k]?.getD bL) f.last);split
  ·simp
  ·exact this
 case unary op=>
  have:=YD (op++[120]) f.last;split
  ·simp
  ·exact this
 case binary op=>
  have:=WV op f.pop.last f.last;split
  ·simp
  ·exact this
 case index=>
  have:=PC f.pop.last f.last;split
  ·simp
  ·exact this
 case list n=>
  have:=xX (r:=(aR (f.many n),0)) (by simp)
  split
  ·simp
  ·exact this
 case length=>
  have:=KV f.last;split
  ·simp
  ·exact this
 all_goals (repeat' split)<;>simp
theorem L3(tab:List eP)(i:aH)(below:List aK)(f:aK)(t:List Int)(o:List (List UInt8)):(cD tab i below f t o).2<=9:=by
 cases i<;>simp only[cD]<;>first|exact LB _ _|skip
 case read=>cases t<;>simp
 case call=>split<;>simp
 case give=>simp
 case print=>split<;>simp
structure Rest(n:Nat)(m:cP):Prop where
 utf:fR m
 out:m.out.length<=50
 tape:m.tape.length<=n
theorem pP{tab:List eP}(ht:jM tab){n:Nat}:∀(k:Nat) (m:cP) (r:cP × Nat),Rest n m->dU tab k m=some r->Rest n r.1/\r.2<=9
 |0,_,_,_,h=>by cases h
 |k+1,m,r,hm,h=>by
  rw[dU] at h;cases hl:m.frames.getLast? with
  |none=>
   rw[hl] at h;simp only[Option.some.injEq] at h;subst h;exact⟨hm,by simp⟩
  |some f=>
   rw[hl] at h;simp only at h;cases hf:f.fetch with
   |none=>rw[hf] at h;cases h
   |some ig=>
    obtain⟨i,g⟩:=ig;rw[hf] at h;simp only at h
    have hfr:m.frames=m.frames.dropLast++[f]:=by
     obtain⟨ys,hy⟩:=List.getLast?_eq_some_iff.1 hl;rw[hy];simp
    have hutf:fR ⟨m.frames.dropLast++[f],m.tape,m.out⟩:=by
     have:=hm.utf;unfold fR at this ⊢
     rw[<-hfr];exact this
    have hr:Rest n (cD tab i m.frames.dropLast g m.tape m.out).1:=⟨DR ht hutf hf,WG hm.out,p7 QD hm.tape⟩;have hs:=L3 tab i m.frames.dropLast g m.tape m.out;split at h
    ·simp only[Option.some.injEq] at h;subst h;exact⟨hr,hs⟩
    ·split at h
     ·simp only[Option.some.injEq] at h;subst h;exact⟨hr,hs⟩
     ·exact pP ht k _ _ hr h
theorem GT{tab:List eP}(ht:jM tab){n:Nat}{m0:cP}(h0:Rest n m0):∀(t:Nat) (s:bW),fM tab m0 t=some s->Rest n s.m/\s.stop<=9
 |0,s,h=>by
  rw[fM] at h;cases hr:dU tab jP m0 with
  |none=>rw[hr] at h;cases h
  |some r=>
   rw[hr] at h;simp only[aL_,Option.some.injEq] at h;subst h;obtain⟨h1,h2⟩:=pP ht _ _ _ h0 hr;exact⟨h1,by simp only[bR];split<;>omega⟩
 |t+1,s,h=>by
  rw[fM] at h;cases hs:fM tab m0 t with
  |none=>rw[hs] at h;cases h
  |some s0=>
   rw[hs] at h;simp only at h;split at h
   ·cases hr:dU tab jP s0.m with
    |none=>rw[hr] at h;cases h
    |some r=>
     rw[hr] at h;simp only[aL_,Option.some.injEq] at h;subst h;obtain⟨h1,h2⟩:=pP ht _ _ _ (GT ht h0 t s0 hs).1 hr;exact⟨h1,by simp only[bR];split<;>omega⟩
   ·cases h
theorem A9(s:ByteArray)(w:World)(hs:s.size<=281474976710656):Calls prog 69 #[.string s] w fun e w'=>e=.returned (.string s)/\Below w.heap.size w w':=by
 have HC:=aB (Tryz.stringslite_Clone s w hs);go_enter Tryz.func69,Tryz.ntmps69;go_wp2_with fail;refine HC.out.mono ?_;rintro e w1 ⟨rfl,hb⟩;have HB:=aB hb;clear hb;go_wp2_with fail;go_ret;exact⟨rfl,HB.out⟩
theorem SE(src:ByteArray)(b p:Nat)(w:World)(hT:lN w)(hs:src.size<=281474976710656)(hb:w.cell? ⟨b,0,none⟩=some (.string src))(hp:w.heap[p]?=some (.cells #[.slice none 0 0] 86 (0,0))):
 Calls prog 68 #[.pointer (some ⟨b,0,none⟩),.pointer (some ⟨p,0,none⟩)] w fun e w'=>
  (dL src.data.toList=(0,0)/\e=.returned (.tuple #[])/\∃w1 v ks,Below w.heap.size w w1/\cX src.data.toList=.ok ks/\FSl (Btw w.heap.size w1.heap.size) w1 v ks/\w'=w1.setCell ⟨p,0,none⟩ v)\/
  ((dL src.data.toList).1≠0/\e=dC (dL src.data.toList).1 (dL src.data.toList).2/\Below w.heap.size w w'):=by
 have HC:=aB (A9 src w hs);have HR:Hid (∀W,Below w.heap.size w W->Calls prog 44 #[.string src] W (GW src.data.toList W)):=fun W hW=>XT src W (hT.below hW) (by unfold maxLen;omega)
 have HP:=aB hp;have hl:=aD hp;clear hT hp;go_enter Tryz.func68,Tryz.ntmps68;go_wp2_with fail;refine HC.out.mono ?_;rintro e w1 ⟨rfl,hb1⟩;have HRR:=aB (HR.out w1 hb1);have HB1:=aB hb1;clear HR HC hb1;go_wp2_with fail;refine HRR.out.mono ?_;rintro e w2 ⟨hb2,⟨h0,v,ks,rfl,h1,h2⟩|⟨h0,rfl⟩⟩
 ·have hbb:=HB1.out.trans (hb2.mono HB1.out.size);have HP2:w2.heap[p]?=some (.cells #[.slice none 0 0] 86 (0,0)):=by rw[hbb.block _ hl];exact HP.out
  have c0:=aA HP2 (i:=0) rfl;have f0:=aE HP2 (i:=0);have l0:=aD HP2
  obtain⟨x,c,rfl⟩:∃x c,v=.slice x ks.length c:=by
   rcases h2 with ⟨rfl,rfl⟩|⟨g,cap,cur,us,rfl,_⟩
   ·exact⟨none,0,rfl⟩
   ·exact⟨_,_,rfl⟩
  have HF:=aB (And.intro h0 (And.intro h1 (And.intro hbb (h2.grow (G:=Btw w.heap.size w2.heap.size) (fun _ _=>rfl) (fun k hk=>⟨p7 HB1.out.size hk.1,hk.2⟩)))))
  clear h0 h1 h2 hb2 hbb HP2 HRR HB1 HP;go_wp2_with fail;go_end0;exact Or.inl ⟨HF.out.1,rfl,w2,_,ks,HF.out.2.2.1,HF.out.2.1,HF.out.2.2.2,rfl⟩
 ·have HF:=aB (And.intro h0 (HB1.out.trans (hb2.mono HB1.out.size)));clear h0 hb2 HRR HB1 HP;go_wp2_with fail;exact⟨rfl,Or.inr ⟨HF.out.1,rfl,HF.out.2⟩⟩
theorem J7(w:World):(Instr.makeMap 112 none).run prog w=.ok (.map (some w.heap.size)) (w.alloc (.map #[] 0)):=rfl
theorem PD(w:World)(src:ByteArray)(x:Option Addr)(n c:Nat)(P:Value->World->Prop)(A:World->Prop)(S:Nat->Value->Value->Value->Nat->World->Prop)
 (HF:Hid (Calls prog 42 #[.func (.func 68) #[] #[.pointer (some ⟨w.heap.size,0,none⟩),.pointer (some ⟨w.heap.size+1,0,none⟩)]] ((w.alloc (.cells #[.string src] 9)).alloc (.cells #[.slice none 0 0] 86)) fun e w'=>(e=.returned (.tuple #[.int .i64 0,.int .i64 0])/\A w')\/∃k l:Nat,k≠0/\e=.returned (.tuple #[.int .i64 k,.int .i64 l])/\P (.tuple #[.pointer none,.int .i64 k,.int .i64 l]) w'))
 (HM:Hid (∀W,A W->∃px pn pc,W.cell? ⟨w.heap.size+1,0,none⟩=some (.slice px pn pc)/\w.heap.size+1<W.heap.size/\Calls prog 70 #[.slice px pn pc,.slice x n c] W fun e w'=>∃(a:Nat) (x1 x2 x3:Option Addr) (n1 n2 n3 c1 c2 c3 q:Nat),e=.returned (.agg #[.int .i64 a,.slice x1 n1 c1,.slice x2 n2 c2,.slice x3 n3 c3,.int .i64 q])/\S a (.slice x1 n1 c1) (.slice x2 n2 c2) (.slice x3 n3 c3) q w'))
 (HK:Hid (∀(a:Nat) (x1 x2 x3:Option Addr) (n1 n2 n3 c1 c2 c3 q:Nat) W,S a (.slice x1 n1 c1) (.slice x2 n2 c2) (.slice x3 n3 c3) q W->Calls prog 71 #[.pointer (some ⟨W.heap.size+1,0,none⟩),.agg #[.int .i64 a,.slice x1 n1 c1,.slice x2 n2 c2,.slice x3 n3 c3,.int .i64 q]] ((W.alloc (.map #[] 0)).alloc (.cells #[.int .i64 a,.slice x1 n1 c1,.slice x2 n2 c2,.slice x3 n3 c3,.int .i64 q,.slice none 0 0,.map (some W.heap.size)] 114)) fun e w'=>e=.returned (.tuple #[])/\P (.tuple #[.pointer (some ⟨W.heap.size+1,0,none⟩),.int .i64 0,.int .i64 0]) w')):
 Calls prog 32 #[.string src,.slice x n c] w fun e w'=>∃v,e=.returned v/\P v w':=by
 have hmf:=J8;have hmm:=J7;go_enter Tryz.func32,Tryz.ntmps32;go_wp2_with fail;refine HF.out.mono ?_;rintro e w1 (⟨rfl,h1⟩|⟨k,l,hk,rfl,h1⟩)
 ·obtain⟨px,pn,pc,q1,q2,q3⟩:=HM.out _ h1;have HS:=aB q3;clear h1 q3 HF HM;go_wp2_with fail;refine HS.out.mono ?_;rintro e w2 ⟨a,x1,x2,x3,n1,n2,n3,c1,c2,c3,q,rfl,h2⟩;have HKK:=aB (HK.out _ _ _ _ _ _ _ _ _ _ _ _ h2);clear h2 HK HS q1;go_wp2_with fail;refine HKK.out.mono ?_;rintro e w3 ⟨rfl,h3⟩;have H3:=aB h3;clear h3;go_wp2_with fail;go_ret3
  exact⟨_,rfl,H3.out⟩
 ·have H1:=aB h1;have hk':¬(k:Int)=0:=by omega
  clear h1 HF HM HK;go_wp2_with fail;go_ret3
  exact⟨_,rfl,H1.out⟩
structure Good(ks:List aC):Prop where
 fl:ks.length<=90000
 ok:∀f∈ks,jV ks 2001 f
 lit:∀f∈ks,∀k∈f.kids,mD k
 kl:∀f∈ks,f.kids.length<=90000
 main:fO ks (dA ks [109,97,105,110])=some 0
 utf:jM (dR ks 2001)
noncomputable def dH(ks:List aC)(tape:List Int):Nat->Option bW:=fM (dR ks 2001) (gZ ks 2001 tape)
theorem Good.rest0{ks:List aC}(h:Good ks)(tape:List Int):Rest tape.length (gZ ks 2001 tape):=by
 refine⟨?_,by simp[gZ],by simp[gZ]⟩
 intro f hf;simp only[gZ,o8] at hf;subst hf;refine⟨?_,fun v hv=>by simp at hv,fun v hv=>by simp at hv⟩
 show vG ((dR ks 2001)[dA ks [109,97,105,110]]?.getD ⟨[],[]⟩)
 cases hx:(dR ks 2001)[dA ks [109,97,105,110]]? with
 |none=>exact⟨fun v hv=>by simp at hv,fun v hv=>by simp at hv⟩
 |some f=>exact h.utf f (aq_ hx)
theorem Good.first{ks:List aC}(h:Good ks)(tape:List Int):∃r,dU (dR ks 2001) jP (gZ ks 2001 tape)=some r/\r.2<=9/\dH ks tape 0=some ⟨0,r.1,bR 0 r.2⟩:=by
 obtain⟨r,hr,_⟩:=oH (lE h.ok) (tL h.ok h.main tape);exact⟨r,hr,(pP h.utf _ _ _ (h.rest0 tape) hr).2,by simp[dH,fM,hr]⟩
theorem W8(a b:Value)(W:World):(callFunc 68 #[a,b]).run prog W=.ok (.enter 68 #[a,b]) W:=by kernel_rfl
def M3(src:List UInt8)(tape:List Int)(w:World)(v:Value)(w':World):Prop:=
 Below w.heap.size w w'/\
 ((dL src=(0,0)/\∃ks fp G sb mb,cX src=.ok ks/\v=.tuple #[.pointer (some ⟨sb,0,none⟩),.int .i64 0,.int .i64 0]/\w.heap.size<=sb/\w.heap.size<=mb/\kX fp G w' (dR ks 2001)/\∃s,kO fp G w' sb mb (.map #[] 0) (dH ks tape) s 1/\s.time=0)\/
  ((dL src).1≠0/\v=.tuple #[.pointer none,.int .i64 (dL src).1,.int .i64 (dL src).2]))
theorem UI(src:ByteArray)(tv:Value)(tape:List Int)(w:World)(hT:lN w)(hp:kY w)(hs:src.size<=281474976710656)(ht:WJ w tv tape)(htl:tape.length<=1000000)
 (hg:∀ks,cX src.data.toList=.ok ks->dL src.data.toList=(0,0)->Good ks):
 Calls prog 32 #[.string src,tv] w fun e w'=>∃v,e=.returned v/\M3 src.data.toList tape w v w':=by
 obtain⟨tx,tn,tc,rfl⟩:∃x n c,tv=.slice x n c:=by
  rcases ht with ⟨_,rfl⟩|⟨g,o,c,rfl,_⟩
  ·exact⟨_,_,_,rfl⟩
  ·exact⟨_,_,_,rfl⟩
 obtain⟨w2,hw2⟩:∃w2,w2=(w.alloc (.cells #[.string src] 9)).alloc (.cells #[.slice none 0 0] 86):=⟨_,rfl⟩;have hb2:Below w.heap.size w w2:=by rw[hw2];exact((m8 _ _).alloc (l9 _) _).alloc (by simp) _
 have hs2:w2.heap.size=w.heap.size+2:=by rw[hw2];simp
 have hB0:w2.heap[w.heap.size]?=some (.cells #[.string src] 9 (0,0)):=by rw[hw2];exact oC _ _ _
 have hB1:w2.heap[w.heap.size+1]?=some (.cells #[.slice none 0 0] 86 (0,0)):=by rw[hw2];exact lG _ _ _
 generalize hrd:dL src.data.toList=rd at*
 refine(PD w src tx tn tc (fun v w'=>M3 src.data.toList tape w v w')
  (fun W=>rd=(0,0)/\∃lo px pn pc ks,cX src.data.toList=.ok ks/\Below w.heap.size w W/\W.cell? ⟨w.heap.size+1,0,none⟩=some (.slice px pn pc)/\w.heap.size+1<W.heap.size/\FSl (Btw lo W.heap.size) W (.slice px pn pc) ks)
  (fun a v1 v2 v3 q W=>rd=(0,0)/\∃(ks:List aC) (fp:Nat->Value) (G:Nat->Prop) (r:cP × Nat),cX src.data.toList=.ok ks/\Below w.heap.size w W/\(∀b,G b->b<W.heap.size)/\kX fp G W (dR ks 2001)/\a=0/\q=bR 0 r.2/\nQ fp G W (.agg #[.int .i64 ((0:Nat):Int),v1,v2,v3,.int .i64 (bR 0 r.2)]) ⟨0,r.1,bR 0 r.2⟩/\dH ks tape 0=some ⟨0,r.1,bR 0 r.2⟩)
  ?_ (fun W hA=>?_) (fun a x1 x2 x3 n1 n2 n3 c1 c2 c3 q W hS=>?_))
 ·show Calls _ _ _ _ _
  rw[<-hw2]
  refine(PL 68 (some ⟨w.heap.size,0,none⟩) (some ⟨w.heap.size+1,0,none⟩) w2
   (fun W=>rd=(0,0)/\∃px pn pc ks w1,cX src.data.toList=.ok ks/\Below (w2.heap.size+2) ((w2.alloc (.cells #[.int .i64 0] 22)).alloc (.cells #[.int .i64 0] 3)) w1/\FSl (Btw (w2.heap.size+2) w1.heap.size) w1 (.slice px pn pc) ks/\W=w1.setCell ⟨w.heap.size+1,0,none⟩ (.slice px pn pc))
   (fun k l=>rd=(k,l)) (fun W=>W8 _ _ W) (fun W hW=>?_)).mono ?_
  ·have hbW:Below w2.heap.size w2 W:=by rw[hW];exact((m8 _ _).alloc (l9 _) _).alloc (by simp) _
   have hsW:W.heap.size=w2.heap.size+2:=by rw[hW];simp
   have hK:W.heap[w2.heap.size]?=some (.cells #[.int .i64 0] 22 (0,0)):=by rw[hW];exact oC _ _ _
   have hI:W.heap[w2.heap.size+1]?=some (.cells #[.int .i64 0] 3 (0,0)):=by rw[hW];exact lG _ _ _
   refine(SE src w.heap.size (w.heap.size+1) W ((hT.below hb2).below hbW) hs (aA (by rw[hbW.block _ (by omega)];exact hB0) rfl) (by rw[hbW.block _ (by omega)];exact hB1)).mono ?_
   rintro e w' (⟨h0,he,w1,v,ks,h1,h2,h3,h4⟩|⟨h0,he,h1⟩)
   ·obtain⟨px,pc,rfl⟩:∃x c,v=.slice x ks.length c:=by
     rcases h3 with ⟨rfl,rfl⟩|⟨g,cap,cur,us,rfl,_⟩
     ·exact⟨none,0,rfl⟩
     ·exact⟨_,_,rfl⟩
    have hne:∀k,w2.heap.size<=k->k<W.heap.size->w'.heap[k]?=W.heap[k]?:=fun k hk hk'=>by
     rw[h4,m7 _ _ _ _ (show k≠w.heap.size+1 by omega),h1.block k hk']
    refine Or.inl ⟨he,by rw[hne _ (l9 _) (by omega)];exact hK,by rw[hne _ (by omega) (by omega)];exact hI,by rw[<-hrd];exact h0,px,_,pc,ks,w1,h2,?_,?_,h4⟩
    ·rw[<-hW,<-hsW];exact h1
    ·rw[<-hsW];exact h3
   ·refine Or.inr ⟨_,_,h0,he,h1,?_⟩;rw[<-hrd]
  ·rintro e w' (⟨he,w1,⟨h0,px,pn,pc,ks,w0,h1,h2,h3,h4⟩,h5⟩|⟨k,l,hk,he,hb,hE⟩)
   ·refine Or.inl ⟨he,h0,w2.heap.size+2,px,pn,pc,ks,h1,?_⟩;have hb0:Below w.heap.size w w0:=hb2.trans ((((m8 w2.heap.size w2).alloc (l9 _) _).alloc (by simp) _).mono (by omega) |>.trans (h2.mono (by omega)))
    have hsz:w'.heap.size=w0.heap.size:=by rw[h5,h4];simp
    have hs0:=h2.size;simp only[World.size_alloc] at hs0
    have hkk:∀k,k≠w.heap.size+1->k≠w2.heap.size->k≠w2.heap.size+1->w'.heap[k]?=w0.heap[k]?:=fun k q1 q2 q3=>by
     rw[h5,m7 _ _ _ _ (show k≠w2.heap.size+1 from q3),m7 _ _ _ _ (show k≠w2.heap.size from q2),h4,m7 _ _ _ _ (show k≠w.heap.size+1 from q1)]
    have hB:w'.heap[w.heap.size+1]?=some (.cells #[.slice px pn pc] 86 (0,0)):=by
     rw[h5,m7 _ _ _ _ (show w.heap.size+1≠w2.heap.size+1 by omega),m7 _ _ _ _ (show w.heap.size+1≠w2.heap.size by omega),h4]
     have:w0.heap[w.heap.size+1]?=some (.cells #[.slice none 0 0] 86 (0,0)):=by
      rw[h2.block _ (by omega),o9 _ _ _ (by simp;omega),o9 _ _ _ (by omega)];exact hB1
     rw[aS this];rfl
    refine⟨?_,aA hB rfl,by omega,?_⟩
    ·rw[h5,h4];exact((hb0.setCell (show w.heap.size<=w.heap.size+1 by omega) _).setCell (show w.heap.size<=w2.heap.size by omega) _).setCell (show w.heap.size<=w2.heap.size+1 by omega) _
    ·exact h3.grow (fun b hb=>hkk b (by have:=hb.1;omega) (by have:=hb.1;omega) (by have:=hb.1;omega)) (fun b hb=>⟨hb.1,by rw[hsz];exact hb.2⟩)
   ·refine Or.inr ⟨k,l,hk,he,hb2.trans (hb.mono (by omega)),Or.inr ?_⟩
    rw[hrd,hE];exact⟨hk,rfl⟩
 ·obtain⟨h0,lo,px,pn,pc,ks,h1,h2,h3,h4,h5⟩:=hA;refine⟨px,pn,pc,h3,h4,?_⟩;have hgood:=hg ks h1 h0;obtain⟨r,hr1,hr2,hr3⟩:=hgood.first tape
  refine(TL (lo:=lo) (d:=2001) _ _ W h5 hgood.fl hgood.ok hgood.lit hgood.kl hgood.main ?_ htl (hp.below h2) hgood.utf hr1 (by omega)).mono ?_
  ·rcases ht with ht|⟨g,o,c,e,hgl,hc⟩
   ·exact Or.inl ht
   ·exact Or.inr ⟨g,o,c,e,m9 hgl h2.size,fun i hi=>⟨(h2.cell (p:=⟨g,o+i,none⟩) hgl).trans (hc i hi).1,(hc i hi).2⟩⟩
  ·rintro e w' ⟨v',he,hb,fp,G,hG,hTab,hSt⟩;obtain⟨f',t',o',rfl,⟨x1,n1,c1,rfl⟩,⟨x2,n2,c2,rfl⟩,⟨x3,n3,c3,rfl⟩⟩:=hSt.form;exact⟨0,x1,x2,x3,n1,n2,n3,c1,c2,c3,_,he,h0,ks,fp,G,r,h1,h2.trans (hb.mono h2.size),hG,hTab,rfl,rfl,hSt,hr3⟩
 ·obtain⟨h0,ks,fp,G,r,h1,h2,hG,hTab,rfl,rfl,hSt,hst0⟩:=hS;obtain⟨W',hW'⟩:∃W',W'=(W.alloc (.map #[] 0)).alloc (.cells #[.int .i64 ((0:Nat):Int),.slice x1 n1 c1,.slice x2 n2 c2,.slice x3 n3 c3,.int .i64 (bR 0 r.2),.slice none 0 0,.map (some W.heap.size)] 114):=⟨_,rfl⟩;have hbW:Below W.heap.size W W':=by rw[hW'];exact((m8 _ _).alloc (l9 _) _).alloc (by simp) _
  have hsW:W'.heap.size=W.heap.size+2:=by rw[hW'];simp
  have hM:W'.heap[W.heap.size]?=some (.map #[] 0):=by rw[hW'];exact oC _ _ _
  have hB:W'.heap[W.heap.size+1]?=some (.cells #[.int .i64 ((0:Nat):Int),.slice x1 n1 c1,.slice x2 n2 c2,.slice x3 n3 c3,.int .i64 (bR 0 r.2),.slice none 0 0,.map (some W.heap.size)] 114 (0,0)):=by rw[hW'];exact lG _ _ _
  rw[<-hW'];have hStW:=hSt.keep (fun k hk=>hbW.block k (hG k hk)) fun _ h=>h
  have hses:kO fp G W' (W.heap.size+1) W.heap.size (.map #[] 0) (dH ks tape) ⟨0,r.1,bR 0 r.2⟩ 0:=by
   refine⟨⟨_,_,_,.slice none 0 0,[],hB,hStW,World.ownsRow_nil _ _ _ _,rfl,fun i hi=>by simp at hi,fun k hk e=>?_,fun e=>?_⟩,hst0,fun k hk=>?_,hM,by omega⟩
   ·simp[Value.ownBlock] at e
   ·simp[Value.ownBlock] at e
   ·have:=hG k hk;exact⟨by omega,by omega,by omega⟩
  refine(GU hses _ ⟨0,r.1,bR 0 r.2⟩ hStW hst0 (fun _=>by simp) (by omega) (by simp)).mono ?_
  rintro e w' ⟨he,hf,hs'⟩;have hTabW:=hTab.keep (fun k hk=>hbW.block k (hG k hk)) (fun _ h=>h)
  refine⟨he,?_,Or.inl ⟨by rw[hrd];exact h0,ks,fp,G,W.heap.size+1,W.heap.size,h1,rfl,by have:=h2.size;omega,h2.size,?_,⟨0,r.1,bR 0 r.2⟩,by simpa using hs',rfl⟩⟩
  ·have hbb:Below w.heap.size w W':=h2.trans (hbW.mono h2.size);have hrow:lT (W.heap.size+1) W'=none:=by rw[lX hB rfl];rfl
   exact⟨hf.os.trans hbb.os,hf.tape.trans hbb.tape,hf.output.trans hbb.output,p7 hbb.size hf.size,fun k hk=>by
    have:=h2.size;rw[hf.blk k (by omega) (by omega) (by rw[hrow];simp),hbb.block k hk]⟩
  ·refine hTabW.keep (fun k hk=>?_) fun _ h=>h
   have hrow:lT (W.heap.size+1) W'=none:=by rw[lX hB rfl];rfl
   have:=hG k hk;exact hf.blk k (by omega) (by omega) (by rw[hrow];simp)
theorem Y8:prog.globalNamed "internal/strconv.uint64pow10"=some 1:=by kernel_rfl
theorem kY.low{w w':World}(h:kY w)(hk:∀k,k<11->w'.heap[k]?=w.heap[k]?):kY w':=h.keep Y8 (hk _ (by decide))
theorem nQ.sv{fp:Nat->Value}{F:Nat->Prop}{w:World}{v:Value}{σ:bW}(h:nQ fp F w v σ):∃s:SV,v=s.val/\s.t=σ.time/\s.q=σ.stop:=by
 obtain⟨f,t,o,rfl,⟨x1,n1,c1,rfl⟩,⟨x2,n2,c2,rfl⟩,⟨x3,n3,c3,rfl⟩⟩:=h.form;exact⟨⟨σ.time,x1,x2,x3,n1,n2,n3,c1,c2,c3,σ.stop⟩,rfl,rfl,rfl⟩
section
variable {fp:Nat->Value} {F G:Nat->Prop} {w w':World} {sb mb n n':Nat} {mo:Obj} {st:Nat->Option bW} {s:bW}
theorem kO.same(h:kO fp F w sb mb mo st s n)(hsz:w.heap.size<=w'.heap.size)(hk:∀k,F k\/k=sb\/k=mb\/lT sb w=some k->w'.heap[k]?=w.heap[k]?):kO fp F w' sb mb mo st s n:=by
 obtain⟨fv,tv,ov,ev,es,h1,h2,h3,h4,h5,h6,h7⟩:=h.blk;have hF:∀b,F b->w'.heap[b]?=w.heap[b]?:=fun b hb=>hk b (Or.inl hb)
 have hr:lT sb w=ev.ownBlock:=lX h1 rfl;refine⟨⟨fv,tv,ov,ev,es,by rw[hk sb (Or.inr (Or.inl rfl))];exact h1,h2.keep hF fun _ h=>h,bA h3 fun k hk'=>hk k (Or.inr (Or.inr (Or.inr (by rw[hr];exact hk')))),h4,fun i hi=>(h5 i hi).keep hF fun _ h=>h,h6,h7⟩,h.now,fun k hk'=>⟨m9 (h.fix k hk').1 hsz,(h.fix k hk').2⟩,by rw[hk mb (Or.inr (Or.inr (Or.inl rfl)))];exact h.map.1,h.map.2⟩
theorem FS.other{b:Nat}(h:FS sb w w')(hb:w.heap.size<=b)(hsb:sb<w.heap.size){w3:World}(hsz:w3.heap.size=w'.heap.size)(hos:w3.os=w'.os/\w3.tape=w'.tape/\w3.output=w'.output)(hk:∀k,k≠b->w3.heap[k]?=w'.heap[k]?):FS sb w w3:=
 ⟨hos.1.trans h.os,hos.2.1.trans h.tape,hos.2.2.trans h.output,by rw[hsz];exact h.size,fun k h1 h2 h3=>by rw[hk k (by omega)];exact h.blk k h1 h2 h3,fun k e=>h.row k (by rw[<-oJ (hk sb (by omega))];exact e)⟩
end
structure Live(fp:Nat->Value)(F:Nat->Prop)(w:World)(sb mb:Nat)(mo:Obj)(ks:List aC)(tape:List Int)(s:bW)(n:Nat)(L:List Nat):Prop where
 ses:kO fp F w sb mb mo (dH ks tape) s n
 tab:kX fp F w (dR ks 2001)
 pow:kY w
 low:11<=sb/\11<=mb
 hn:s.time/20<n
 loc:∀b∈L,11<=b/\b<w.heap.size/\¬F b/\lT sb w≠some b/\b≠sb/\b≠mb
section
variable {fp:Nat->Value} {F G:Nat->Prop} {w w':World} {sb mb n n':Nat} {mo:Obj} {ks:List aC} {tape:List Int} {s:bW} {L:List Nat}
theorem Live.row(h:Live fp F w sb mb mo ks tape s n L){k:Nat}(hk:lT sb w=some k):sb<k/\k<w.heap.size/\¬F k/\k≠mb:=h.ses.row k hk
theorem Live.keep(h:Live fp F w sb mb mo ks tape s n L)(L':List Nat)(hL:∀b∈L',b∈L)(hsz:w.heap.size<=w'.heap.size)(hk:∀k,k<w.heap.size->k∉L'->w'.heap[k]?=w.heap[k]?):Live fp F w' sb mb mo ks tape s n L:=by
 have hlt:=h.ses.lt;have hsb:w'.heap[sb]?=w.heap[sb]?:=hk sb hlt fun hm=>(h.loc sb (hL sb hm)).2.2.2.2.1 rfl
 have hF:∀b,F b->w'.heap[b]?=w.heap[b]?:=fun b hb=>hk b (h.ses.fix b hb).1 fun hm=>(h.loc b (hL b hm)).2.2.1 hb
 refine⟨h.ses.same hsz fun k hk'=>?_,h.tab.keep hF fun _ h=>h,h.pow.low fun k hk'=>hk k (by have:=h.low;omega) fun hm=>by have:=(h.loc k (hL k hm)).1;omega,h.low,h.hn,fun b hb=>?_⟩
 ·rcases hk' with h1|rfl|rfl|h1
  ·exact hF k h1
  ·exact hsb
  ·exact hk _ (aD h.ses.map.1) fun hm=>(h.loc _ (hL _ hm)).2.2.2.2.2 rfl
  ·exact hk k (h.row h1).2.1 fun hm=>(h.loc k (hL k hm)).2.2.2.1 h1
 ·obtain⟨a1,a2,a3,a4,a5⟩:=h.loc b hb;exact⟨a1,m9 a2 hsz,a3,by rw[oJ hsb];exact a4,a5⟩
theorem Live.alloc(h:Live fp F w sb mb mo ks tape s n L)(o:Obj):Live fp F (w.alloc o) sb mb mo ks tape s n (w.heap.size::L):=by
 have h0:Live fp F (w.alloc o) sb mb mo ks tape s n L:=h.keep [] (fun b hb=>by cases hb) (by simp) fun k hk _=>o9 _ _ _ hk
 refine⟨h0.ses,h0.tab,h0.pow,h0.low,h0.hn,fun b hb=>?_⟩
 rcases p8.1 hb with rfl|hb
 ·have h1:=h.ses.lt;have h2:=h.low;refine⟨by omega,by simp,fun hF=>by have:=(h.ses.fix _ hF).1;omega,fun e=>?_,by omega,by have:=aD h.ses.map.1;omega⟩
  rw[oJ (o9 _ _ _ h1)] at e;have:=(h.row e).2.1;omega
 ·exact h0.loc b hb
theorem Live.drop(h:Live fp F w sb mb mo ks tape s n L){L':List Nat}(hL:∀b∈L',b∈L):Live fp F w sb mb mo ks tape s n L':=⟨h.ses,h.tab,h.pow,h.low,h.hn,fun b hb=>h.loc b (hL b hb)⟩
theorem Live.fs(h:Live fp F w sb mb mo ks tape s n L)(hf:FS sb w w')(hs:kO fp G w' sb mb mo (dH ks tape) s n')(hx:Ext F G w.heap.size)(hn:n<=n'):Live fp G w' sb mb mo ks tape s n' L:=by
 have hF:∀b,F b->w'.heap[b]?=w.heap[b]?:=fun b hb=>hf.blk b (h.ses.fix b hb).1 (h.ses.fix b hb).2.1 fun e=>(h.row e).2.2.1 hb
 refine⟨hs,h.tab.keep hF hx.sub,h.pow.low fun k hk=>hf.blk k (by have:=h.low;have:=h.ses.lt;omega) (by have:=h.low;omega) fun e=>by have:=(h.row e).1;have:=h.low;omega,h.low,m9 h.hn hn,fun b hb=>?_⟩
 obtain⟨a1,a2,a3,a4,a5⟩:=h.loc b hb;refine⟨a1,m9 a2 hf.size,fun hG=>?_,fun e=>?_,a5⟩
 ·rcases hx.new b hG with h1|h1
  ·exact a3 h1
  ·omega
 ·rcases hf.row b e with h1|h1
  ·exact a4 h1
  ·omega
theorem Live.blk(h:Live fp F w sb mb mo ks tape s n L)(hf:FS sb w w'){b:Nat}(hb:b∈L):w'.heap[b]?=w.heap[b]?:=by
 obtain⟨a1,a2,a3,a4,a5,a6⟩:=h.loc b hb;exact hf.blk b a2 a5 a4
theorem Live.stR(h:Live fp F w sb mb mo ks tape s n L)(hf:FS sb w w')(hx:Ext F G w.heap.size){v:Value}{σ:bW}(hv:nQ fp F w v σ):nQ fp G w' v σ:=
 hv.keep (fun b hb=>hf.blk b (h.ses.fix b hb).1 (h.ses.fix b hb).2.1 fun e=>(h.row e).2.2.1 hb) hx.sub
theorem Good.sta(hg:Good ks){t:Nat}{σ:bW}(h:dH ks tape t=some σ):RC (fO ks) σ/\σ.time=t/\Rest tape.length σ.m/\σ.stop<=9:=by
 obtain⟨h1,h2⟩:=BP (lE hg.ok) (tL hg.ok hg.main tape) t σ h;obtain⟨h3,h4⟩:=GT hg.utf (hg.rest0 tape) t σ h;exact⟨h1,h2,h3,h4⟩
theorem Live.count(hg:Good ks)(h:Live fp F w sb mb mo ks tape s n L):n<=26:=by
 obtain⟨_,_,_,_,es,_,_,_,h4,h5,_⟩:=h.ses.blk;rcases a4_ n with h0|h0
 ·omega
 obtain⟨_,σ,h6,_⟩:=h5 (n-1) (by omega)
 obtain⟨h7,h8,_⟩:=hg.sta h6;have:=h7.time;omega
theorem Good.next(hg:Good ks){σ:bW}{t:Nat}(h:dH ks tape t=some σ)(hz:σ.stop=0):∃r,dU (dR ks 2001) jP σ.m=some r/\r.2<=9/\dH ks tape (σ.time+1)=some ⟨σ.time+1,r.1,bR (σ.time+1) r.2⟩:=by
 obtain⟨h1,h2,h3,h4⟩:=hg.sta h;obtain⟨r,hr,_⟩:=oH (lE hg.ok) (h1.ok hz).1;refine⟨r,hr,(pP hg.utf _ _ _ h3 hr).2,?_⟩;unfold dH at h ⊢
 rw[h2,fM,h];simp[hz,hr]
def AD:SV:=⟨0,none,none,none,0,0,0,0,0,0,0⟩
def M9(fp:Nat->Value)(F:Nat->Prop)(w:World)(sb mb:Nat)(mo:Obj)(ks:List aC)(tape:List Int)(s:bW)(n:Nat)(L:List Nat)(σ:bW)(v':SV)(ok:Bool)(w':World):Prop:=
 ∃G n',n<=n'/\Ext F G w.heap.size/\FS sb w w'/\Live fp G w' sb mb mo ks tape s n' L/\(ok=true->σ.stop=0/\∃σ',dH ks tape (σ.time+1)=some σ'/\σ'.time=σ.time+1/\nQ fp G w' v'.val σ'/\σ'.time/20<n')/\(ok=false->σ.stop≠0)
theorem XF(hg:Good ks)(h:Live fp F w sb mb mo ks tape s n L)(htl:tape.length<=1000000)(v:SV)(σ:bW)(hv:nQ fp F w v.val σ)(hσ:dH ks tape σ.time=some σ)(hσn:σ.time/20<n):
 Calls prog 111 #[.pointer (some ⟨sb,0,none⟩),v.val] w fun e w'=>∃v' ok,e=.returned (.tuple #[SV.val v',.bool ok])/\M9 fp F w sb mb mo ks tape s n L σ v' ok w':=by
 obtain⟨w2,hw2⟩:∃w2,w2=(w.alloc (.cells v.cells 108)).alloc (.cells #[.int .i64 0,.slice none 0 0,.slice none 0 0,.slice none 0 0,.int .i64 0] 108):=⟨_,rfl⟩;have hb2:Below w.heap.size w w2:=by rw[hw2];exact((m8 _ _).alloc (l9 _) _).alloc (by simp) _
 have hs2:w2.heap.size=w.heap.size+2:=by rw[hw2];simp
 have hB1:w2.heap[w.heap.size+1]?=some (.cells #[.int .i64 0,.slice none 0 0,.slice none 0 0,.slice none 0 0,.int .i64 0] 108 (0,0)):=by rw[hw2];exact lG _ _ _
 have hFw:∀b,F b->b<w.heap.size:=fun b hb=>(h.ses.fix b hb).1
 have hlt:=h.ses.lt;have hmlt:=aD h.ses.map.1;obtain⟨ho1,ho2,ho3,ho4⟩:=hg.sta hσ;have hcnt:=h.count hg;by_cases hz:σ.stop=0
 ·obtain⟨r,hr1,hr2,hr3⟩:=hg.next hσ hz
  refine BS w sb v (M9 fp F w sb mb mo ks tape s n L σ)
   (fun s' ok W=>ok=true/\Below w2.heap.size w2 W/\∃G1,Ext F G1 w2.heap.size/\(∀b,G1 b->b<W.heap.size)/\nQ fp G1 W s'.val ⟨σ.time+1,r.1,bR (σ.time+1) r.2⟩) ?_ (fun s' W hN=>?_) (fun s' W hN=>?_)
  ·show Calls _ _ _ _ _
   rw[<-hw2];refine(SG (lE hg.ok) hg.utf (hv.keep (fun b hb=>hb2.block b (hFw b hb)) fun _ h=>h) (fun b hb=>m9 (hFw b hb) hb2.size) (h.tab.keep (fun b hb=>hb2.block b (hFw b hb)) fun _ h=>h) (h.pow.below hb2) hz (ho1.ok hz).1 (ho1.ok hz).2 ho3.utf ho3.out (by have:=ho3.tape;omega) hr1 (by have:=ho1.time;omega) (by omega)).mono ?_
   rintro e w' ⟨v',rfl,hb,G1,hx,hG,hS⟩;obtain⟨s',rfl,_⟩:=hS.sv;exact⟨s',true,rfl,rfl,hb,G1,hx,hG,hS⟩
  ·cases hN.1
  ·obtain⟨_,hb,G1,hx,hG,hS⟩:=hN;have hbs:=hb.size;obtain⟨W',hW'⟩:∃W',W'=W.alloc (.cells s'.cells 108):=⟨_,rfl⟩;have hbW:Below W.heap.size W W':=by rw[hW'];exact(m8 _ _).alloc (l9 _) _
   have hsW:W'.heap.size=W.heap.size+1:=by rw[hW'];simp
   have hBW:W'.heap[W.heap.size]?=some (.cells s'.cells 108 (0,0)):=by rw[hW'];exact aT _ _ rfl _
   have hbw:Below w.heap.size w W':=hb2.trans ((hb.mono hb2.size).trans (hbW.mono (by omega)))
   show Calls _ _ _ _ _
   rw[<-hW']
   have hses:kO fp G1 W' sb mb mo (dH ks tape) s n:=h.ses.grow hbw hx.sub fun k hk=>by
    rcases hx.new k hk with h1|h1
    ·exact Or.inl h1
    ·exact Or.inr ⟨by omega,by have:=hG k hk;omega⟩
   refine(GU hses s'.val ⟨σ.time+1,r.1,bR (σ.time+1) r.2⟩ (hS.keep (fun b hb'=>hbW.block b (hG b hb')) fun _ h=>h) hr3 (fun hm=>by simp only at hm ⊢;omega) (by omega) (by have:=ho1.time;simp only;omega)).mono ?_
   rintro e w' ⟨he,hf,hs'⟩;have hrow:lT sb W'=lT sb w:=oJ (hbw.block _ hlt);have hne:∀k,w.heap.size<=k->k<W'.heap.size->w'.heap[k]?=W'.heap[k]?:=fun k h1 h2=>hf.blk k h2 (by omega) fun e=>by rw[hrow] at e;have:=(h.row e).2.1;omega
   refine⟨he,by rw[hne _ (by omega) (by omega)];exact hBW,⟨_,by rw[hne _ (by omega) (by omega),hbW.block _ (by omega),hb.block _ (by omega)];exact hB1,by simp⟩,by omega,?_⟩
   obtain⟨z1,z2,z3,z4⟩:=iG w' (w.heap.size+1) s';have hfw:FS sb w w':=(FS.of_below hbw hlt).trans hf;have hf3:FS sb w (fA w' (w.heap.size+1) s'):=hfw.other (b:=w.heap.size+1) (by omega) hlt z1 ⟨z2,z3,z4⟩ fun k hk=>dY _ _ _ k hk
   have hnG:¬G1 (w.heap.size+1):=fun hq=>by
    rcases hx.new _ hq with h1|h1
    ·have:=hFw _ h1;omega
    ·omega
   have hk3:∀k,G1 k\/k=sb\/k=mb\/lT sb w'=some k->(fA w' (w.heap.size+1) s').heap[k]?=w'.heap[k]?:=fun k hk=>dY _ _ _ k (by
    rintro rfl;rcases hk with h1|h1|h1|h1
    ·exact hnG h1
    ·omega
    ·omega
    ·rcases hf.row _ h1 with h2|h2
     ·rw[hrow] at h2;have:=(h.row h2).2.1;omega
     ·omega)
   have hs3:=hs'.same (by rw[z1];exact l9 _) hk3
   have hext:Ext F G1 w.heap.size:=⟨hx.sub,fun k hk=>(hx.new k hk).imp_right fun h1=>by omega⟩
   refine⟨G1,_,?_,hext,hf3,h.fs hf3 hs3 hext ?_,fun _=>⟨hz,⟨σ.time+1,r.1,bR (σ.time+1) r.2⟩,hr3,rfl,?_,?_⟩,fun e=>by cases e⟩
   ·split<;>omega
   ·split<;>omega
   ·refine hS.keep (fun b hb'=>?_) fun _ h=>h
    have hbG:=hG b hb';have hbsb:b≠sb:=(hses.fix b hb').2.1;rw[hk3 b (Or.inl hb'),hf.blk b (by omega) hbsb (fun e=>(hses.row b e).2.2.1 hb'),hbW.block b hbG]
   ·simp only;split<;>omega
 ·refine BS w sb v (M9 fp F w sb mb mo ks tape s n L σ) (fun s' ok W=>ok=false/\s'=AD/\Below w2.heap.size w2 W) ?_ (fun s' W hN=>?_) (fun s' W hN=>?_)
  ·show Calls _ _ _ _ _
   rw[<-hw2];obtain⟨fv,tv,xo,he,f1,f2,f3⟩:=hv.form;rw[he];refine(YJ w2 σ.time σ.stop fv tv xo hz f1 f2 f3).mono ?_;rintro e w' ⟨rfl,hb⟩;exact⟨AD,false,rfl,rfl,rfl,hb⟩
  ·obtain⟨_,rfl,hb⟩:=hN;have hbs:=hb.size;refine⟨⟨_,by rw[hb.block _ (by omega)];exact hB1,by simp⟩,?_⟩
   obtain⟨z1,z2,z3,z4⟩:=iG W (w.heap.size+1) AD
   have hbw:Below w.heap.size w (fA W (w.heap.size+1) AD):=by
    have h0:Below w.heap.size w W:=hb2.trans (hb.mono hb2.size);exact⟨z2.trans h0.os,z3.trans h0.tape,z4.trans h0.output,by rw[z1];exact h0.size,fun k hk=>by rw[dY _ _ _ k (by omega)];exact h0.block k hk⟩
   have hbw':=hbw.alloc hbw.size (.cells AD.cells 108);exact⟨F,n,l9 _,Ext.refl _ _,FS.of_below hbw' hlt,h.fs (FS.of_below hbw' hlt) (h.ses.grow hbw' (fun _ h=>h) fun _ h=>Or.inl h) (Ext.refl _ _) (l9 _),fun e=>(by cases e),fun _=>hz⟩
  ·cases hN.1
end
def C3(st:Nat->Option bW)(p:bW->Bool)(s τ:bW)(fd:Bool):Prop:=
 (fd=false/\τ=s/\s.stop≠0)\/(fd=true/\s.time<τ.time/\st τ.time=some τ/\(∀t x,s.time<t->t<τ.time->st t=some x->p x=false)/\(p τ=true\/τ.stop≠0))
structure But(L:List Nat)(w w':World):Prop where
 os:w'.os=w.os
 tape:w'.tape=w.tape
 output:w'.output=w.output
 size:w.heap.size<=w'.heap.size
 blk:∀k,k<w.heap.size->k∉L->w'.heap[k]?=w.heap[k]?
theorem But.below{w w':World}(h:Below w.heap.size w w')(L:List Nat):But L w w':=⟨h.os,h.tape,h.output,h.size,fun k hk _=>h.block k hk⟩
theorem But.alloc(w:World)(o:Obj)(L:List Nat):But L w (w.alloc o):=But.below ((m8 _ w).alloc (l9 _) o) L
theorem But.drew(w:World)(L:List Nat):But L w w.drew:=⟨rfl,rfl,rfl,l9 _,fun _ _ _=>rfl⟩
theorem But.put(w:World)(b:Nat)(o:Obj):But [b] w (w.putObj b o):=⟨rfl,rfl,rfl,by simp,fun k _ hk=>World.putObj_heap_other (by simpa using hk)⟩
theorem But.set5(w:World)(b:Nat)(s:SV):But [b] w (fA w b s):=by
 obtain⟨z1,z2,z3,z4⟩:=iG w b s;exact⟨z2,z3,z4,by rw[z1];exact l9 _,fun k _ hk=>dY _ _ _ k (by simpa using hk)⟩
theorem But.set(w:World)(b:Nat)(v:Value):But [b] w (w.setCell ⟨b,0,none⟩ v):=⟨rfl,rfl,rfl,by simp,fun k _ hk=>m7 _ _ _ _ (by simpa using hk)⟩
theorem But.trans{L M:List Nat}{a b c:World}(h:But L a b)(k:But M b c):But (L++M) a c:=
 ⟨k.os.trans h.os,k.tape.trans h.tape,k.output.trans h.output,p7 h.size k.size,fun i hi hm=>by
   rw[o7,not_or] at hm;rw[k.blk i (m9 hi h.size) hm.2,h.blk i hi hm.1]⟩
theorem FS.but{sb:Nat}{w0 w w':World}{L:List Nat}(h:FS sb w0 w)(hb:But L w w')(hL:∀b∈L,w0.heap.size<=b)(hsb:sb<w0.heap.size):FS sb w0 w':=by
 have hsz:=h.size;have hs:w'.heap[sb]?=w.heap[sb]?:=hb.blk sb (by omega) fun hm=>by have:=hL sb hm;omega
 exact⟨hb.os.trans h.os,hb.tape.trans h.tape,hb.output.trans h.output,p7 h.size hb.size,fun k h1 h2 h3=>by rw[hb.blk k (by omega) fun hm=>by have:=hL k hm;omega];exact h.blk k h1 h2 h3,fun k e=>h.row k (by rw[<-oJ hs];exact e)⟩
theorem nQ.but{fp:Nat->Value}{F:Nat->Prop}{w w':World}{sb mb n:Nat}{mo:Obj}{ks:List aC}{tape:List Int}{s σ:bW}{L L':List Nat}{v:Value}(hv:nQ fp F w v σ)(h:Live fp F w sb mb mo ks tape s n L)(hb:But L' w w')(hL:∀b∈L',b∈L):nQ fp F w' v σ:=
 hv.keep (fun b hF=>hb.blk b (h.ses.fix b hF).1 fun hm=>(h.loc b (hL b hm)).2.2.1 hF) fun _ h=>h
theorem Live.but{fp:Nat->Value}{F:Nat->Prop}{w w':World}{sb mb n:Nat}{mo:Obj}{ks:List aC}{tape:List Int}{s:bW}{L L':List Nat}(h:Live fp F w sb mb mo ks tape s n L)(hb:But L' w w')(hL:∀b∈L',b∈L):Live fp F w' sb mb mo ks tape s n L:=h.keep L' hL hb.size hb.blk
theorem kO.cells{fp:Nat->Value}{F:Nat->Prop}{w:World}{sb mb n:Nat}{mo:Obj}{st:Nat->Option bW}{s:bW}(h:kO fp F w sb mb mo st s n):∃s1:SV,nQ fp F w s1.val s/\w.cell? ⟨sb,0,none⟩=some (.int .i64 s1.t)/\w.cell? ⟨sb,1,none⟩=some (.slice s1.x1 s1.n1 s1.c1)/\w.cell? ⟨sb,2,none⟩=some (.slice s1.x2 s1.n2 s1.c2)/\w.cell? ⟨sb,3,none⟩=some (.slice s1.x3 s1.n3 s1.c3)/\w.cell? ⟨sb,4,none⟩=some (.int .i64 s1.q)/\∃c,w.heap[sb]?=some (.cells c 114 (0,0))/\5<=c.size:=by
 obtain⟨fv,tv,ov,ev,es,b1,b2,_⟩:=h.blk;obtain⟨s0',e0,e01,e02⟩:=b2.sv;refine⟨s0',by rw[<-e0];exact b2,?_⟩
 simp only[SV.val,Value.agg.injEq] at e0;simp at e0;obtain⟨a1,a2,a3,a4,a5⟩:=e0;rw[a1,a2,a3,a4,a5] at b1;exact⟨aA b1 rfl,aA b1 rfl,aA b1 rfl,aA b1 rfl,aA b1 rfl,_,b1,by simp⟩
theorem kO.go{fp:Nat->Value}{F:Nat->Prop}{w:World}{sb mb n:Nat}{mo:Obj}{st:Nat->Option bW}{s τ:bW}{v:SV}(h:kO fp F w sb mb mo st s n)(hv:nQ fp F w v.val τ)(hτ:st τ.time=some τ):kO fp F (fA w sb v) sb mb mo st τ n/\FS sb w (fA w sb v)/\lT sb (fA w sb v)=lT sb w:=by
 obtain⟨fv,tv,ov,ev,es,h1,h2,h3,h4,h5,h6,h7⟩:=h.blk;obtain⟨s',e,e1,e2⟩:=hv.sv;obtain rfl:=SV.val_inj e;obtain⟨z1,z2,z3,z4⟩:=iG w sb v
 have hb:(fA w sb v).heap[sb]?=some (.cells #[.int .i64 v.t,.slice v.x1 v.n1 v.c1,.slice v.x2 v.n2 v.c2,.slice v.x3 v.n3 v.c3,.int .i64 v.q,ev,.map (some mb)] 114 (0,0)):=by
  have h0:=wA (s:=v) h1;simp only[List.setIfInBounds_toArray,List.set_cons_zero,a6_] at h0;exact h0
 have hF:∀b,F b->(fA w sb v).heap[b]?=w.heap[b]?:=fun b hb=>dY _ _ _ _ (h.fix b hb).2.1
 have hr1:lT sb w=ev.ownBlock:=lX h1 rfl;have hr2:lT sb (fA w sb v)=ev.ownBlock:=lX hb rfl;have hrow:∀k,ev.ownBlock=some k->(fA w sb v).heap[k]?=w.heap[k]?:=fun k hk=>dY _ _ _ _ (by have:=(h.row k (by rw[hr1];exact hk)).1;omega)
 refine⟨⟨⟨_,_,_,ev,es,by rw[<-e1,<-e2];exact hb,?_,bA h3 hrow,h4,fun i hi=>(h5 i hi).keep hF fun _ h=>h,h6,h7⟩,hτ,fun k hk=>?_,by rw[dY _ _ _ _ h.map.2];exact h.map.1,h.map.2⟩,⟨z2,z3,z4,by rw[z1];exact l9 _,fun k _ hk _=>dY _ _ _ _ hk,fun k hk=>Or.inl ?_⟩,?_⟩
 ·have:=hv.keep hF fun _ h=>h
  unfold SV.val at this;rw[<-e1,<-e2];exact this
 ·have:=h.fix k hk;exact⟨by rw[z1];exact this.1,this.2⟩
 ·rw[hr1,<-hr2];exact hk
 ·rw[hr1,hr2]
theorem Live.go{fp:Nat->Value}{F:Nat->Prop}{w:World}{sb mb n:Nat}{mo:Obj}{ks:List aC}{tape:List Int}{s τ:bW}{L:List Nat}{v:SV}(h:Live fp F w sb mb mo ks tape s n L)(hv:nQ fp F w v.val τ)(hτ:dH ks tape τ.time=some τ)(hn:τ.time/20<n):Live fp F (fA w sb v) sb mb mo ks tape τ n L/\FS sb w (fA w sb v):=by
 obtain⟨g1,g2,g3⟩:=h.ses.go hv hτ;obtain⟨z1,_⟩:=iG w sb v;have hlow:=h.low;refine⟨⟨g1,h.tab.keep (fun b hb=>dY _ _ _ _ (h.ses.fix b hb).2.1) fun _ h=>h,h.pow.low fun k hk=>dY _ _ _ _ (by omega),h.low,hn,fun b hb=>?_⟩,g2⟩
 have:=h.loc b hb;rw[z1,g3];exact this
structure MCtx where
 fp:Nat->Value
 sb:Nat
 mb:Nat
 mo:Obj
 ks:List aC
 tape:List Int
 s:bW
 p:bW->Bool
 bb:Nat
 fv:Value
 w:World
 L:List Nat
def MCtx.bf(C:MCtx):Nat:=C.w.heap.size
def MCtx.bt(C:MCtx):Nat:=C.w.heap.size+1
def MCtx.bo(C:MCtx):Nat:=C.w.heap.size+1+1
def MCtx.all(C:MCtx):List Nat:=(C.w.heap.size+3+1)::(C.w.heap.size+3)::C.bo::C.bt::C.bf::C.L
noncomputable def MCtx.st(C:MCtx):Nat->Option bW:=dH C.ks C.tape
structure Mvg(C:MCtx)(L:List Nat)(F:Nat->Prop)(n k:Nat)(fd:Bool)(W:World):Prop where
 live:Live C.fp F W C.sb C.mb C.mo C.ks C.tape C.s n L
 mem:∀b∈C.all,b∈L
 cf:W.heap[C.bf]?=some (.cells #[C.fv] 132 (0,0))
 cb:W.heap[C.bb]?=some (.cells #[.pointer (some ⟨C.sb,0,none⟩)] 39 (0,0))/\C.bb∈C.L
 ct:∃s2 τ,W.heap[C.bt]?=some (.cells (SV.cells s2) 108 (0,0))/\nQ C.fp F W s2.val τ/\C.st k=some τ/\k/20<n
 co:W.heap[C.bo]?=some (.cells #[.bool fd] 4 (0,0))
 le:C.s.time<=k/\(fd=true↔C.s.time<k)
 fr:FS C.sb C.w W/\C.sb<C.w.heap.size/\∀b∈C.L,b<C.w.heap.size
section
variable {C:MCtx} {L L':List Nat} {F G:Nat->Prop} {n n' k:Nat} {fd:Bool} {W W':World}
theorem Mvg.lt(h:Mvg C L F n k fd W):C.w.heap.size+3+1<W.heap.size:=(h.live.loc _ (h.mem _ (by simp[MCtx.all]))).2.1
theorem Mvg.but(h:Mvg C L F n k fd W)(hb:But L' W W')(hL:∀b∈L',b∈L/\C.bo<b):Mvg C L F n k fd W':=by
 have hsb:=h.fr.2.1;have hlt:=h.lt;have hk:∀b,b<=C.bo->W'.heap[b]?=W.heap[b]?:=fun b hb'=>hb.blk b (by simp only[MCtx.bo] at hb';omega) fun hm=>by have:=(hL b hm).2;omega
 obtain⟨s2,τ,a1,a2,a3,a4⟩:=h.ct;have hbb:=h.fr.2.2 _ h.cb.2;refine⟨h.live.but hb fun b hm=>(hL b hm).1,h.mem,by rw[hk _ (by simp only[MCtx.bo,MCtx.bf];omega)];exact h.cf,⟨by rw[hk _ (by simp only[MCtx.bo];omega)];exact h.cb.1,h.cb.2⟩,⟨s2,τ,by rw[hk _ (by simp only[MCtx.bo,MCtx.bt];omega)];exact a1,a2.but h.live hb fun b hm=>(hL b hm).1,a3,a4⟩,by rw[hk _ (l9 _)];exact h.co,h.le,h.fr.1.but hb (fun b hm=>by have:=(hL b hm).2;simp only[MCtx.bo] at this;omega) hsb,hsb,h.fr.2.2⟩
theorem Mvg.more(h:Mvg C L F n k fd W)(hl:Live C.fp F W C.sb C.mb C.mo C.ks C.tape C.s n L')(hm:∀b∈C.all,b∈L'):Mvg C L' F n k fd W:=⟨hl,hm,h.cf,h.cb,h.ct,h.co,h.le,h.fr⟩
theorem Mvg.alloc(h:Mvg C L F n k fd W)(o:Obj):Mvg C (W.heap.size::L) F n k fd (W.alloc o):=
 (h.but (L':=[]) (But.alloc W o []) fun b hm=>by cases hm).more (h.live.alloc o) fun b hb=>r9 _ (h.mem b hb)
theorem Mvg.fs(h:Mvg C L F n k fd W)(hf:FS C.sb W W')(hl:Live C.fp G W' C.sb C.mb C.mo C.ks C.tape C.s n' L)(hx:Ext F G W.heap.size)(hn:n<=n'):Mvg C L G n' k fd W':=by
 have hk:∀b∈L,W'.heap[b]?=W.heap[b]?:=fun b hb=>h.live.blk hf hb
 obtain⟨s2,τ,a1,a2,a3,a4⟩:=h.ct;exact⟨hl,h.mem,by rw[hk _ (h.mem _ (by simp[MCtx.all]))];exact h.cf,⟨by rw[hk _ (h.mem _ (by simp[MCtx.all,h.cb.2]))];exact h.cb.1,h.cb.2⟩,⟨s2,τ,by rw[hk _ (h.mem _ (by simp[MCtx.all]))];exact a1,h.live.stR hf hx a2,a3,by omega⟩,by rw[hk _ (h.mem _ (by simp[MCtx.all]))];exact h.co,h.le,h.fr.1.trans hf,h.fr.2⟩
theorem Mvg.set(h:Mvg C L F n k fd W){v:SV}{σ:bW}(hv:nQ C.fp F W v.val σ)(hσ:C.st σ.time=some σ)(hn:σ.time/20<n)(hlt:C.s.time<σ.time):Mvg C L F n σ.time true ((fA W C.bt v).setCell ⟨C.bo,0,none⟩ (.bool true)):=by
 have hb:But ([C.bt]++[C.bo]) W ((fA W C.bt v).setCell ⟨C.bo,0,none⟩ (.bool true)):=(But.set5 W C.bt v).trans (But.set _ _ _);have hmL:∀b∈[C.bt]++[C.bo],b∈L:=fun b hm=>h.mem b (by simp at hm;rcases hm with rfl|rfl<;>simp[MCtx.all])
 have hsb:=h.fr.2.1;have hl:=h.lt;have hbb:=h.fr.2.2 _ h.cb.2;obtain⟨s2,τ,a1,a2,a3,a4⟩:=h.ct;have hne:C.bt≠C.bo:=by simp only[MCtx.bt,MCtx.bo];omega
 refine⟨h.live.but hb hmL,h.mem,by rw[hb.blk _ (by simp only[MCtx.bf];omega) (by simp only[MCtx.bf,MCtx.bt,MCtx.bo,s9,ar_,p8,s7,or_false];omega)];exact h.cf,⟨by rw[hb.blk _ (by omega) (by simp only[MCtx.bt,MCtx.bo,s9,ar_,p8,s7,or_false];omega)];exact h.cb.1,h.cb.2⟩,⟨v,σ,?_,hv.but h.live hb hmL,hσ,hn⟩,?_,⟨by omega,by simp[hlt]⟩,h.fr.1.but hb (fun b hm=>by simp[MCtx.bt,MCtx.bo] at hm;omega) hsb,hsb,h.fr.2.2⟩
 ·rw[m7 _ _ _ _ hne];exact BU a1 rfl
 ·have h0:(fA W C.bt v).heap[C.bo]?=some (.cells #[.bool fd] 4 (0,0)):=by rw[dY _ _ _ _ (fun e=>hne e.symm)];exact h.co
  exact aS h0
end
def EB(C:MCtx)(k:Nat):Prop:=∀t x,C.s.time<t->t<=k->C.st t=some x->C.p x=false
def Z5(C:MCtx)(M:List Nat)(t:Nat)(s':SV)(W:World):Prop:=∃F n σ k fd,Mvg C M F n k fd W/\nQ C.fp F W s'.val σ/\C.st σ.time=some σ/\σ.time=k+1/\σ.time/20<n/\W.heap[t]?=some (.cells s'.cells 108 (0,0))/\C.w.heap.size+3+1<t/\EB C k
def Z9(C:MCtx)(t:Nat)(s':SV)(W:World):Prop:=∃F n σ,Mvg C (t::C.all) F n σ.time true W/\nQ C.fp F W s'.val σ/\C.st σ.time=some σ/\σ.time/20<n/\W.heap[t]?=some (.cells s'.cells 108 (0,0))/\C.w.heap.size+3+1<t/\EB C σ.time
def X1(C:MCtx)(W:World):Prop:=∃F n k fd τ,Mvg C C.all F n k fd W/\C.st k=some τ/\C3 C.st C.p C.s τ fd
section
variable {C:MCtx}
theorem Z3:∀b∈[C.w.heap.size+3+1],C.bo<b:=fun b hb=>by simp at hb;simp only[MCtx.bo];omega
theorem Mvg.put{L:List Nat}{F:Nat->Prop}{n k:Nat}{fd:Bool}{W:World}(h:Mvg C L F n k fd W)(o:Obj):Mvg C L F n k fd (W.putObj (C.w.heap.size+3+1) o):=
 h.but (But.put _ _ _) fun b hb=>⟨h.mem b (by simp at hb;simp[MCtx.all,hb]),Z3 b hb⟩
theorem Mvg.putS{L:List Nat}{F:Nat->Prop}{n k:Nat}{fd:Bool}{W:World}{σ:bW}{v:Value}(h:Mvg C L F n k fd W)(hv:nQ C.fp F W v σ)(o:Obj):nQ C.fp F (W.putObj (C.w.heap.size+3+1) o) v σ:=
 hv.but h.live (But.put _ _ _) fun b hb=>h.mem b (by simp at hb;simp[MCtx.all,hb])
theorem Z5.put{M:List Nat}{t:Nat}{s':SV}{W:World}(h:Z5 C M t s' W)(o:Obj):Z5 C M t s' (W.putObj (C.w.heap.size+3+1) o):=by
 obtain⟨F,n,σ,k,fd,h1,h2,h3,h4,h5,h6,h7,h8⟩:=h;exact⟨F,n,σ,k,fd,h1.put o,h1.putS h2 o,h3,h4,h5,by rw[World.putObj_heap_other (by omega)];exact h6,h7,h8⟩
theorem Z9.put{t:Nat}{s':SV}{W:World}(h:Z9 C t s' W)(o:Obj):Z9 C t s' (W.putObj (C.w.heap.size+3+1) o):=by
 obtain⟨F,n,σ,h1,h2,h3,h5,h6,h7,h8⟩:=h;exact⟨F,n,σ,h1.put o,h1.putS h2 o,h3,h5,by rw[World.putObj_heap_other (by omega)];exact h6,h7,h8⟩
theorem X1.put{W:World}(h:X1 C W)(o:Obj):X1 C (W.putObj (C.w.heap.size+3+1) o):=by
 obtain⟨F,n,k,fd,τ,h1,h2,h3⟩:=h;exact⟨F,n,k,fd,τ,h1.put o,h2,h3⟩
theorem EB.succ{k:Nat}{σ:bW}(h:EB C k)(hk:σ.time=k+1)(hσ:C.st σ.time=some σ)(hp:C.p σ=false):EB C σ.time:=fun t x h1 h2 h3=>by
 rcases ag_ k t with h4|h4
 ·obtain rfl:t=σ.time:=by omega
  rw[hσ] at h3;cases h3;exact hp
 ·exact h t x h1 h4 h3
theorem Mvg.next{L:List Nat}{F:Nat->Prop}{n k:Nat}{fd:Bool}{W:World}(hg:Good C.ks)(htl:C.tape.length<=1000000)(h:Mvg C L F n k fd W)(v:SV)(σ:bW)(hv:nQ C.fp F W v.val σ)(hσ:C.st σ.time=some σ)(hσk:σ.time=k)(hσn:σ.time/20<n)(hh:EB C k):
 Calls prog 111 #[.pointer (some ⟨C.sb,0,none⟩),v.val] W fun e w'=>∃v' ok,e=.returned (.tuple #[SV.val v',.bool ok])/\(∀b∈L,w'.heap[b]?=W.heap[b]?)/\
  ∃G n',Mvg C L G n' k fd w'/\(ok=true->∃σ',nQ C.fp G w' v'.val σ'/\C.st σ'.time=some σ'/\σ'.time=k+1/\σ'.time/20<n'/\v'.t=k+1/\k<500)/\(ok=false->C3 C.st C.p C.s σ fd):=by
 refine(XF hg h.live htl v σ hv hσ hσn).mono ?_;rintro e w' ⟨v',ok,rfl,G,n',h1,h2,h3,h4,h5,h6⟩;refine⟨v',ok,rfl,fun b hb=>h.live.blk h3 hb,G,n',h.fs h3 h4 h2 h1,fun e=>?_,fun e=>?_⟩
 ·obtain⟨_,σ',q1,q2,q3,q4⟩:=h5 e;obtain⟨s2,e1,e2,_⟩:=q3.sv;obtain rfl:=SV.val_inj e1;have ht:=(hg.sta q1).1.time;exact⟨σ',q3,by rw[q2];exact q1,by omega,q4,by omega,by omega⟩
 ·have hz:=h6 e;subst hσk;cases fd with
  |true=>
   exact Or.inr ⟨rfl,h.le.2.1 rfl,hσ,fun t x a1 a2 a3=>hh t x a1 (by omega) a3,Or.inr hz⟩
  |false=>
   have h7:¬C.s.time<σ.time:=fun hq=>by have:=h.le.2.2 hq;cases this
   have h8:C.s.time=σ.time:=by have:=h.le.1;omega
   have h9:=h.live.ses.now;unfold MCtx.st at hσ;rw[h8,hσ] at h9;cases h9;exact Or.inl ⟨rfl,rfl,hz⟩
end
theorem UB{C:MCtx}(hg:Good C.ks)(htl:C.tape.length<=1000000)(s0:SV){F:Nat->Prop}{n:Nat}(W0:World)(hsz:W0.heap.size=C.w.heap.size+3)
 (hM:∀R0,Mvg C C.all F n C.s.time false ((W0.alloc (.deferred (some []))).alloc (.loop R0))) (hs0:∀R0,nQ C.fp F ((W0.alloc (.deferred (some []))).alloc (.loop R0)) s0.val C.s):
 N2 prog 118 #[.pointer (some ⟨C.bb,0,none⟩)] W0 (fun t=>Z5 C (t::C.all) t) (Z9 C) (X1 C) (X1 C):=by
 intro R0 Rdy Don hR hRl hR0 hY;rw[hsz] at hR hRl hY ⊢
 have hm:=hM R0;have hs:=hs0 R0;generalize (W0.alloc (.deferred (some []))).alloc (.loop R0)=W1 at hm hs hR0 ⊢
 have hnow:=hm.live.ses.now;have hst0:EB C C.s.time:=fun t x h1 h2 _=>by omega
 have hlow:∀b,b=C.w.heap.size+3\/b=C.w.heap.size+3+1->b∈C.all:=fun b hb=>by rcases hb with rfl|rfl<;>simp[MCtx.all]
 obtain⟨s1,hs1,k0,k1,k2,k3,k4,_⟩:=hm.live.ses.cells;have hlt:=hm.lt;have hall:∀b∈C.all,b<W1.heap.size:=fun b hb=>(hm.live.loc b hb).2.1
 refine(OW (C.w.heap.size+3+1) C.bb C.sb s1 W1
  (fun gk b s' ok wr=>Rdy wr/\(ok=true->Z5 C (b::C.all) b s' wr/\gk+s'.t=502)/\(ok=false->X1 C wr))
  (fun gk b s' wr=>Rdy wr/\Z9 C b s' wr/\gk+s'.t=502)
  (fun wr=>(X1 C wr/\Rdy wr)\/(X1 C wr/\Don wr)) (aA hm.cb.1 rfl) (aD hm.cb.1) hm.live.ses.lt k0 k1 k2 k3 k4 (501-C.s.time) ?_ (fun c hc=>?_) (fun gk b s' wr h=>?_) (fun gk b s' wr h=>?_) (fun gk b s' wr h=>?_)).mono ?_
 ·have hmd:=hm.but (L':=[]) (But.drew W1 []) fun b hb=>by cases hb
  refine(hmd.next hg htl s1 C.s (hs1.but hm.live (But.drew W1 []) fun b hb=>by cases hb) hnow rfl hm.live.hn hst0).mono ?_
  rintro e w' ⟨v',ok,rfl,hk,G,n',h1,h2,h3⟩;have hlt':=h1.lt;refine⟨v',ok,rfl,hR W1 _ hR0 ?_ ?_,fun e=>?_,fun e=>?_⟩
  ·rw[o9 _ _ _ (by omega)];exact hk _ (hlow _ (Or.inl rfl))
  ·rw[o9 _ _ _ (by omega)];exact hk _ (hlow _ (Or.inr rfl))
  ·obtain⟨σ',q1,q2,q3,q4,q5,q6⟩:=h2 e;refine⟨⟨G,n',σ',C.s.time,false,h1.alloc _,?_,q2,q3,q4,aT _ _ rfl _,hlt',hst0⟩,by omega⟩
   exact q1.but h1.live (But.alloc _ _ []) fun b hb=>by cases hb
  ·have:=h1.but (L':=[]) (But.alloc w' (.cells v'.cells 108) []) fun b hb=>by cases hb
   exact⟨G,n',C.s.time,false,C.s,this,hnow,h3 e⟩
 ·have hmd:=(hm.but (L':=[]) (But.drew W1 []) fun b hb=>by cases hb).alloc (.cells c 108)
  have hbu:But [] W1 (W1.drew.alloc (.cells c 108)):=(But.drew W1 []).trans (But.alloc _ _ []);refine(hmd.next hg htl s1 C.s (hs1.but hm.live hbu fun b hb=>by cases hb) hnow rfl hm.live.hn hst0).mono ?_
  rintro e w' ⟨v',ok,rfl,hk,G,n',h1,h2,h3⟩;have hlt':=h1.lt;have hb0:w'.heap[W1.heap.size]?=some (.cells c 108 (0,0)):=by rw[hk W1.heap.size (x9 ..)];exact aT W1.drew _ rfl _
  have hsame:∀b∈C.all,(fA w' W1.heap.size v').heap[b]?=W1.heap[b]?:=fun b hb=>by
   have:=hall b hb;rw[dY _ _ _ _ (by omega),hk b (r9 _ hb)];exact o9 W1.drew _ _ this
  have hin:∀b∈[W1.heap.size],b∈(W1.heap.size::C.all)/\C.bo<b:=fun b hb=>by
   obtain rfl:=o8.1 hb;exact⟨x9 ..,by simp only[MCtx.bo];omega⟩
  have h1':Mvg C (W1.heap.size::C.all) G n' C.s.time false (fA w' W1.heap.size v'):=h1.but (But.set5 _ _ _) hin;refine⟨v',ok,rfl,hb0,hR W1 _ hR0 (hsame _ (hlow _ (Or.inl rfl))) (hsame _ (hlow _ (Or.inr rfl))),fun e=>?_,fun e=>?_⟩
  ·obtain⟨σ',q1,q2,q3,q4,q5,q6⟩:=h2 e;exact⟨⟨G,n',σ',C.s.time,false,h1',q1.but h1.live (But.set5 _ _ _) fun b hb=>(hin b hb).1,q2,q3,q4,BU hb0 hc,hlt,hst0⟩,by omega⟩
  ·exact⟨G,n',C.s.time,false,C.s,h1'.more (h1'.live.drop fun b hb=>r9 _ hb) (fun _ h=>h),hnow,h3 e⟩
 ·obtain⟨hr,ha,_⟩:=h;obtain⟨ha,hgk⟩:=ha rfl;obtain⟨fn,tmps,assign,body,hy,hr'⟩:=hY b s' wr ha hr;refine⟨?_,fn,tmps,assign,body,hy,hr'.mono ?_⟩
  ·obtain⟨F,n,σ,k,fd,_,_,_,_,_,h6,_⟩:=ha;exact h6
  ·rintro e W' (⟨rfl,hB,hR'⟩|⟨rfl,hE,hD⟩)
   ·exact Or.inl ⟨rfl,hR',hB,hgk⟩
   ·exact Or.inr ⟨rfl,Or.inr ⟨hE,hD⟩⟩
 ·exact Or.inl ⟨h.2.2 rfl,h.1⟩
 ·obtain⟨hr,⟨F,n,σ,h1,h2,h3,h4,h5,h6,h7⟩,hgk⟩:=h
  have hst:s'.t=σ.time:=by
   obtain⟨s2,e1,e2,_⟩:=h2.sv;obtain rfl:=SV.val_inj e1;exact e2
  have h500:=(hg.sta h3).1.time;refine⟨aA h1.cb.1 rfl,h5,gk-1,by omega,?_⟩
  refine(h1.next hg htl s' σ h2 h3 rfl h4 h7).mono ?_
  rintro e w' ⟨v',ok,rfl,hk,G,n',q1,q2,q3⟩;have hb0:w'.heap[b]?=some (.cells s'.cells 108 (0,0)):=by rw[hk b (x9 ..)];exact h5
  have hin:∀x∈[b],x∈(b::C.all)/\C.bo<x:=fun x hx=>by
   obtain rfl:=o8.1 hx;exact⟨x9 ..,by simp only[MCtx.bo];omega⟩
  have hsame:∀x∈[C.w.heap.size+3,C.w.heap.size+3+1],(fA w' b v').heap[x]?=wr.heap[x]?:=fun x hx=>by
   have hx':x∈C.all:=by simp at hx;rcases hx with rfl|rfl<;>simp[MCtx.all]
   rw[dY _ _ _ _ (by simp at hx;omega),hk x (r9 _ hx')]
  have q1':Mvg C (b::C.all) G n' σ.time true (fA w' b v'):=q1.but (But.set5 _ _ _) hin;refine⟨v',ok,rfl,⟨_,hb0,rfl⟩,hR wr _ hr (hsame _ (by simp)) (hsame _ (by simp)),fun e=>?_,fun e=>?_⟩
  ·obtain⟨σ',a1,a2,a3,a4,a5,a6⟩:=q2 e;exact⟨⟨G,n',σ',σ.time,true,q1',a1.but q1.live (But.set5 _ _ _) fun x hx=>(hin x hx).1,a2,a3,a4,BU hb0 rfl,h6,h7⟩,by omega⟩
  ·exact⟨G,n',σ.time,true,σ,q1'.more (q1'.live.drop fun x hx=>r9 _ hx) (fun _ h=>h),h3,q3 e⟩
 ·rintro e W' ⟨rfl,h|h⟩
  ·exact⟨⟨_,rfl⟩,Or.inl h⟩
  ·exact⟨⟨_,rfl⟩,Or.inr h⟩
theorem Z1(args:Array Value)(W:World):(callFunc 118 args).run prog W=.ok (.enter 118 args) W:=(enters_of Tryz.func118 (by kernel_rfl) rfl) args W
theorem W9(args:Array Value)(W:World):(callFunc 66 args).run prog W=.ok (.enter 66 args) W:=(enters_of Tryz.func66 (by kernel_rfl) rfl) args W
section
variable {fp:Nat->Value} {F:Nat->Prop} {w:World} {sb mb n:Nat} {mo:Obj} {ks:List aC} {tape:List Int} {s:bW} {L:List Nat}
def N1(fp:Nat->Value)(sb mb:Nat)(mo:Obj)(ks:List aC)(tape:List Int)(L:List Nat)(T:bW->Bool->Prop)(w:World)(b:Bool)(w':World):Prop:=∃G n' τ,Live fp G w' sb mb mo ks tape τ n' L/\T τ b/\FS sb w w'
def j2(fp:Nat->Value)(sb mb:Nat)(mo:Obj)(ks:List aC)(tape:List Int)(s:bW)(p:bW->Bool)(gn:Nat)(lf:Array Value):Prop:=
 ∀(F:Nat->Prop) (n:Nat) (L:List Nat) (W:World) (v:SV) (σ:bW),Live fp F W sb mb mo ks tape s n L->nQ fp F W v.val σ->dH ks tape σ.time=some σ->Calls prog gn (#[v.val]++lf) W fun e W'=>e=.returned (.bool (p σ))/\Below W.heap.size W W'
theorem PF(hg:Good ks)(htl:tape.length<=1000000)(h:Live fp F w sb mb mo ks tape s n L)(bb:Nat)(hbL:bb∈L)(hbb:w.heap[bb]?=some (.cells #[.pointer (some ⟨sb,0,none⟩)] 39 (0,0)))
 (p:bW->Bool) (gn:Nat) (lf:Array Value) (hcn:∀args W,(callFunc gn args).run prog W=.ok (.enter gn args) W) (hfit:j2 fp sb mb mo ks tape s p gn lf):
 Calls prog 64 #[.pointer (some ⟨sb,0,none⟩),.func (.func 118) #[] #[.pointer (some ⟨bb,0,none⟩)],.func (.func gn) #[] lf] w fun e w'=>∃b,e=.returned (.bool b)/\N1 fp sb mb mo ks tape L (C3 (dH ks tape) p s) w b w':=by
 obtain⟨s0,hs0,k0,k1,k2,k3,k4,_⟩:=h.ses.cells;have hlt:=h.ses.lt;obtain⟨C,hC⟩:∃C:MCtx,C=⟨fp,sb,mb,mo,ks,tape,s,p,bb,.func (.func gn) #[] lf,w,L⟩:=⟨_,rfl⟩;have hgC:Good C.ks:=by rw[hC];exact hg
 have e_w:C.w=w:=by rw[hC]
 have e_s:C.s=s:=by rw[hC]
 have e_p:C.p=p:=by rw[hC]
 have e_st:C.st=dH ks tape:=by rw[hC];rfl
 refine ZK (τ:=Nat) w sb 118 gn #[.pointer (some ⟨bb,0,none⟩)] lf s0 (fun b w'=>N1 fp sb mb mo ks tape L (C3 (dH ks tape) p s) w b w')
  (fun t=>Z5 C (t::C.all) t) (Z9 C) (fun t s' b W=>Z5 C (b::t::C.all) t s' W/\W.heap[b]?=some (.cells s'.cells 108 (0,0))/\C.w.heap.size+3+1<b) (X1 C) hlt k0 k1 k2 k3 k4 Z1 hcn
  (fun t s' b W r h=>?_) (fun t s' W r h=>?_) (fun W r h=>?_) (fun t s' W h=>?_) (fun t s' b W h=>?_) (fun W hE=>?_) (fun W0 hW0=>?_)
 ·obtain⟨h1,h2,h3⟩:=h;rw[<-e_w];exact⟨h1.put _,by rw[World.putObj_heap_other (by omega)];exact h2,h3⟩
 ·rw[<-e_w];exact h.put _
 ·rw[<-e_w];exact h.put _
 ·obtain⟨F,n,σ,k,fd,h1,h2,h3,h4,h5,h6,h7,h8⟩:=h;have hl:=h1.lt;rw[<-e_w];refine⟨⟨⟨F,n,σ,k,fd,h1.alloc _,h2.but h1.live (But.alloc _ _ []) fun b hb=>(by cases hb),h3,h4,h5,by rw[o9 _ _ _ (aD h6)];exact h6,h7,h8⟩,aT _ _ rfl _,hl⟩,hl⟩
 ·obtain⟨⟨F,n,σ,k,fd,h1,h2,h3,h4,h5,h6,h7,h8⟩,h9,h10⟩:=h;have hl:=h1.lt;have hcf:=h1.cf;have hco:=h1.co;obtain⟨s2,τ,a1,a2,a3,a4⟩:=h1.ct;have hset:=h1.set h2 h3 h5 (by have:=h1.le.1;omega)
  have ebt:C.bt=w.heap.size+1:=by rw[<-e_w];rfl
  have ebo:C.bo=w.heap.size+1+1:=by rw[<-e_w];rfl
  have ebf:C.bf=w.heap.size:=by rw[<-e_w];rfl
  rw[e_w] at hl h7 h10;rw[ebf] at hcf;rw[ebo] at hco;rw[ebt] at a1;have hfv:C.fv=.func (.func gn) #[] lf:=by rw[hC]
  rw[hfv] at hcf;refine⟨h9,hcf,⟨_,a1,by simp[SV.cells]⟩,⟨_,hco⟩,by omega,by omega,by omega,?_⟩
  have hbt:But ([C.bt]++[C.bo]) W ((fA W C.bt s').setCell ⟨C.bo,0,none⟩ (.bool true)):=(But.set5 W C.bt s').trans (But.set _ _ _);have h2s:=h2.but h1.live hbt fun x hm=>h1.mem x (by simp at hm;rcases hm with rfl|rfl<;>simp[MCtx.all])
  have hW6:((fA W C.bt s').setCell ⟨C.bo,0,none⟩ (.bool true)).heap[t]?=some (.cells s'.cells 108 (0,0)):=by
   rw[hbt.blk t (aD h6) (by simp[ebt,ebo];omega)];exact h6
  have hkD:∀x,x=w.heap.size+3\/x=w.heap.size+3+1->((fA W C.bt s').setCell ⟨C.bo,0,none⟩ (.bool true)).heap[x]?=W.heap[x]?:=fun x hx=>hbt.blk x (by omega) (by simp[ebt,ebo];omega)
  rw[<-ebo,<-ebt];generalize (fA W C.bt s').setCell ⟨C.bo,0,none⟩ (.bool true)=V at hset h2s hW6 hkD ⊢
  have hVs:=hset.lt;rw[e_w] at hVs;have hlv:=hset.live;rw[hC] at hlv h2s;have h3':=h3;rw[e_st] at h3';refine(hfit F n _ V s' σ hlv h2s h3').mono ?_;rintro e W' ⟨rfl,hb⟩;refine⟨p σ,rfl,⟨by rw[hb.block _ (by omega)];exact hkD _ (Or.inl rfl),by rw[hb.block _ (by omega)];exact hkD _ (Or.inr rfl)⟩,fun hp=>?_,fun hp=>?_⟩
  ·refine⟨F,n,σ.time,true,σ,(hset.but (But.below hb []) fun b hb=>by cases hb).more ((hset.live.but (But.below hb []) fun b hb=>(by cases hb)).drop fun x hx=>by simp[hx]) (fun _ h=>h),h3,Or.inr ⟨rfl,by have:=h1.le.1;omega,h3,fun t' x q1 q2 q3=>h8 t' x q1 (by omega) q3,Or.inl (by rw[e_p];exact hp)⟩⟩
  ·refine⟨F,n,σ,(hset.but (But.below hb []) fun b hb=>by cases hb).more ((hset.live.but (But.below hb []) fun b hb=>(by cases hb)).drop fun x hx=>r9 _ hx) (fun x hx=>r9 _ hx),?_,h3,h5,by rw[hb.block _ (aD hW6)];exact hW6,by rw[e_w];exact h7,h8.succ h4 h3 (by rw[e_p];exact hp)⟩
   rw[hC];exact h2s.but hlv (But.below hb []) fun b hb=>by cases hb
 ·obtain⟨F,n,k,fd,τ,h1,h2,h3⟩:=hE;obtain⟨s2,τ',a1,a2,a3,a4⟩:=h1.ct;obtain rfl:τ'=τ:=by rw[h2] at a3;cases a3;rfl
  have hτt:=(hgC.sta a3).2.1;have hco:=h1.co;have hl:=h1.lt;have hlv:=h1.live;have hfr:=h1.fr.1;have hLw:=h1.fr.2.2;have ebt:C.bt=w.heap.size+1:=by rw[<-e_w];rfl
  have ebo:C.bo=w.heap.size+1+1:=by rw[<-e_w];rfl
  rw[ebt] at a1;rw[ebo] at hco;rw[e_w] at hl;rw[hC] at hlv hfr hLw;rw[e_st] at a3;rw[hC] at a2;obtain⟨_,_,_,_,_,_,_,c,hc1,hc2⟩:=hlv.ses.cells;refine⟨s2,fd,a1,hco,⟨c,_,hc1,hc2⟩,?_⟩;obtain⟨g1,g2⟩:=hlv.go a2 (by rw[hτt];exact a3) (by rw[hτt];exact a4)
  have hin:∀b∈[w.heap.size+3],b∈C.all:=fun b hb=>by
   obtain rfl:=o8.1 hb;simp[MCtx.all,e_w]
  rw[e_st,e_p,e_s] at h3;rw[hC] at hin;refine⟨F,n,τ',(g1.but (But.put _ (w.heap.size+3) _) hin).drop fun b hb=>by simp[MCtx.all,hb],h3,(hfr.trans g2).but (But.put _ (w.heap.size+3) _) (fun b hb=>?_) hlt⟩
  obtain rfl:=o8.1 hb;show w.heap.size<=w.heap.size+3
  omega
 ·have hW0s:W0.heap.size=w.heap.size+3:=by rw[hW0];simp
  have hFw:∀b,F b->b<w.heap.size:=fun b hb=>(h.ses.fix b hb).1
  have hbel:∀R0,Below w.heap.size w ((W0.alloc (.deferred (some []))).alloc (.loop R0)):=fun R0=>by
   rw[hW0];exact(((((m8 _ w).alloc (l9 _) _).alloc (by simp only[World.size_alloc];omega) _).alloc (by simp only[World.size_alloc];omega) _).alloc (by simp only[World.size_alloc];omega) _).alloc (by simp only[World.size_alloc];omega) _
  have hst:∀R0,nQ fp F ((W0.alloc (.deferred (some []))).alloc (.loop R0)) s0.val s:=fun R0=>hs0.keep (fun b hb=>(hbel R0).block b (hFw b hb)) fun _ h=>h
  have hup:∀R0 k,k<W0.heap.size->((W0.alloc (.deferred (some []))).alloc (.loop R0)).heap[k]?=W0.heap[k]?:=fun R0 k hk=>by rw[o9 _ _ _ (by simp only[World.size_alloc];omega),o9 _ _ _ hk]
  have e_bb:C.bb=bb:=by rw[hC]
  rw[<-e_bb];refine UB (C:=C) (F:=F) (n:=n) hgC (by rw[hC];exact htl) s0 W0 (by rw[e_w];exact hW0s) (fun R0=>?_) (fun R0=>?_)
  clear e_bb
  ·have hlive:=((((h.alloc (.cells #[.func (.func gn) #[] lf] 132)).alloc (.cells s0.cells 108)).alloc (.cells #[.bool false] 4)).alloc (.deferred (some []))).alloc (.loop R0);simp only[World.size_alloc] at hlive;rw[<-hW0] at hlive;have hLw:∀b∈L,b<w.heap.size:=fun b hb=>(h.loc b hb).2.1
   have c1:W0.heap[w.heap.size]?=some (.cells #[.func (.func gn) #[] lf] 132 (0,0)):=by
    rw[hW0,o9 _ _ _ (by simp only[World.size_alloc];omega),o9 _ _ _ (by simp only[World.size_alloc];omega)];exact aT _ _ rfl _
   have c2:W0.heap[w.heap.size+1]?=some (.cells s0.cells 108 (0,0)):=by
    rw[hW0,o9 _ _ _ (by simp only[World.size_alloc];omega)];exact aT _ _ (by simp only[World.size_alloc]) _
   have c3:W0.heap[w.heap.size+1+1]?=some (.cells #[.bool false] 4 (0,0)):=by
    rw[hW0];exact aT _ _ (by simp only[World.size_alloc]) _
   rw[hC];exact⟨hlive,fun _ h=>h,by rw[hup R0 _ (by simp only[MCtx.bf];omega)];exact c1,⟨by rw[(hbel R0).block _ (aD hbb)];exact hbb,hbL⟩,⟨s0,s,by rw[hup R0 _ (by simp only[MCtx.bt];omega)];exact c2,hst R0,h.ses.now,h.hn⟩,by rw[hup R0 _ (by simp only[MCtx.bo];omega)];exact c3,⟨l9 _,by simp⟩,FS.of_below (hbel R0) hlt,hlt,hLw⟩
  ·rw[hC];exact hst R0
theorem ME(v:SV)(W:World):Calls prog 66 (#[v.val]++ #[]) W fun e W'=>e=.returned (.bool true)/\Below W.heap.size W W':=by
 show Calls _ _ #[v.val] _ _
 unfold SV.val;go_enter Tryz.func66,Tryz.ntmps66;go_wp2_with fail;go_ret;exact⟨rfl,(m8 _ W).alloc (l9 _) _⟩
theorem ZF(sb:Nat)(W:World):Calls prog 65 #[.pointer (some ⟨sb,0,none⟩)] W fun e W'=>e=.returned (.func (.func 118) #[] #[.pointer (some ⟨W.heap.size,0,none⟩)])/\W'=W.alloc (.cells #[.pointer (some ⟨sb,0,none⟩)] 39):=by
 have hmf:∀(a:Value) (w:World),(Instr.makeFunc (.func 118) #[] #[a]).run prog w=.ok (.func (.func 118) #[] #[a]) w:=fun _ _=>rfl
 go_enter Tryz.func65,Tryz.ntmps65;go_wp2_with fail;go_ret;exact⟨rfl,rfl⟩
theorem XC(sb:Nat)(w:World)(P:Bool->World->Prop)
 (HG:Hid (Calls prog 64 #[.pointer (some ⟨sb,0,none⟩),.func (.func 118) #[] #[.pointer (some ⟨w.heap.size,0,none⟩)],.func (.func 66) #[] #[]] (w.alloc (.cells #[.pointer (some ⟨sb,0,none⟩)] 39)) fun e w'=>∃b,e=.returned (.bool b)/\P b w')):
 Calls prog 28 #[.pointer (some ⟨sb,0,none⟩)] w fun e w'=>∃b,e=.returned (.bool b)/\P b w':=by
 have HL:=aB (ZF sb w);go_enter Tryz.func28,Tryz.ntmps28;go_wp2_with fail;refine HL.out.mono ?_;rintro e w1 ⟨rfl,rfl⟩;clear HL;go_wp2_with fail;refine HG.out.mono ?_;rintro e w2 ⟨b,rfl,h2⟩;have H2:=aB h2;clear h2 HG;go_wp2_with fail;go_ret;exact⟨b,rfl,H2.out⟩
theorem E5(hg:Good ks)(htl:tape.length<=1000000)(h:Live fp F w sb mb mo ks tape s n L):
 Calls prog 28 #[.pointer (some ⟨sb,0,none⟩)] w fun e w'=>∃b,e=.returned (.bool b)/\N1 fp sb mb mo ks tape L (C3 (dH ks tape) (fun _=>true) s) w b w':=by
 refine XC sb w _ ((PF hg htl (h.alloc (.cells #[.pointer (some ⟨sb,0,none⟩)] 39)) w.heap.size (x9 ..) (aT _ _ rfl _) (fun _=>true) 66 #[] W9 fun F n L W v σ _ _ _=>ME v W).mono ?_)
 rintro e w' ⟨b,rfl,G,n',τ,h1,h2,h3⟩;have hbl:Below w.heap.size w (w.alloc (.cells #[.pointer (some ⟨sb,0,none⟩)] 39)):=(m8 _ w).alloc (l9 _) _;exact⟨b,rfl,G,n',τ,h1.drop fun b hb=>r9 _ hb,h2,(FS.of_below hbl h.ses.lt).trans h3⟩
end
end Go.Proofs.YtblbkfdhjfppkaaGreatDoor
