/- Contracts of the program: names: calls, declarations. -/
import Derived.Test.YtblbkfdhjfppkaaGreatDoorB03
import Derived.Test.YtblbkfdhjfppkaaGreatDoorP08
set_option maxRecDepth 100000
set_option maxHeartbeats 4000000
namespace Go.Proofs.YtblbkfdhjfppkaaGreatDoor
open Hs
open Go.RowKit
theorem TK(cb lo:Nat)(fs:List aC)(fv:Value)(hfl:fs.length≤90000)(hfk:∀f∈fs,f.kids.length≤90000)(d:Nat)(HN:lN cb lo fs fv d)(c:aC)(v:Value)(seen:List (List UInt8))(w:World)(h:CK cb lo fs fv w seen)(hk:PKid (Btw lo cb) w v c.kids)(hd:∀k∈c.kids,eS d k)(hwt:seen.length+(c.kids.map (bS d)).sum≤90000):
 Calls Tryz.prog 167 #[.pointer (some ⟨cb,0,none⟩),.iface 341 (.agg #[.int .i64 c.line,.string (bs c.text),v])] w (cS cb lo fs fv w (foldL fs d c.kids (dX fs false ⟨seen,0,0⟩ c))):=by
 obtain⟨vx,vc,rfl⟩:=hk.slice;have q0:=xI;have q1:=zN;have q2:=PG;have q3:=CT;have q4:=zM;have q5:=CU;have q6:=GL;obtain⟨hl0,hk0⟩:=Loc.new h (.cells #[.int .i64 c.line,.string (bs c.text),.slice vx c.kids.length vc] 341);have HL0:=aB hl0;have HX:=aB (SK cb lo fs fv hfl hfk d HN c (.slice vx c.kids.length vc) seen (w.alloc (.cells #[.int .i64 c.line,.string (bs c.text),.slice vx c.kids.length vc] 341)) hk0 (hk.below hl0.fb.bel) hd hwt (by have:=tN hd;omega))
 clear h hl0 hk0;generalize foldL fs d c.kids (dX fs false ⟨seen,0,0⟩ c)=c at*;go_enter Tryz.func167,Tryz.ntmps167;go_wp2_with fail;refine HX.out.mono ?_;rintro e w1 ⟨hb,⟨s,hc,rfl,hck⟩|⟨hk,rfl⟩⟩
 ·have HB:=aB (HL0.out.fb.trans hb);have HK:=aB hck;subst hc;clear hb hck;go_wp2_with fail;go_end0;exact cS.done HB.out rfl HK.out
 ·have HB:=aB (HL0.out.fb.trans hb);have HK:=aB hk;clear hb hk;go_wp2_with fail;exact⟨rfl,cS.fault (c1:=c) HB.out HK.out (Stk.refl _)⟩
theorem QS(cb lo:Nat)(fs:List aC)(fv:Value)(d:Nat)(IH:jA cb lo fs fv d)(seen:List (List UInt8))(w:World)(h:CK cb lo fs fv w seen)(l:Nat)(t a1:aC)(v1:Value)(h1:PN (Btw lo cb) w v1 a1)(hd1:eS d a1)(hwt:seen.length+bS d a1≤90000):
 Calls Tryz.prog 167 #[.pointer (some ⟨cb,0,none⟩),.iface 329 (.agg #[.int .i64 l,.int .i64 t.line,.string (bs t.text),v1])] w (cS cb lo fs fv w (({ aM fs false d a1 (Hs.declaresL ⟨seen,0,0⟩ t) with seen:=(aM fs false d a1 (Hs.declaresL ⟨seen,0,0⟩ t)).seen++[t.text] }:aX))):=by
 obtain⟨T1,cs1,rfl⟩:=h1.form;have q0:=sA;obtain⟨hl0,hk0⟩:=Loc.new h (.cells #[.int .i64 l,.int .i64 t.line,.string (bs t.text),.iface T1 (.agg cs1)] 329);have HL0:=aB hl0;have HX:=aB (NY cb lo fs fv d IH (w.alloc (.cells #[.int .i64 l,.int .i64 t.line,.string (bs t.text),.iface T1 (.agg cs1)] 329)) seen hk0 l t a1 (.iface T1 (.agg cs1)) (h1.below hl0.fb.bel) hd1 hwt);clear h hl0 hk0;generalize ({ aM fs false d a1 (Hs.declaresL ⟨seen,0,0⟩ t) with seen:=(aM fs false d a1 (Hs.declaresL ⟨seen,0,0⟩ t)).seen++[t.text] }:aX)=c at*
 go_enter Tryz.func167,Tryz.ntmps167;go_wp2_with fail;refine HX.out.mono ?_;rintro e w1 ⟨hb,⟨s,hc,rfl,hck⟩|⟨hk,rfl⟩⟩
 ·have HB:=aB (HL0.out.fb.trans hb);have HK:=aB hck;subst hc;clear hb hck;go_wp2_with fail;go_end0;exact cS.done HB.out rfl HK.out
 ·have HB:=aB (HL0.out.fb.trans hb);have HK:=aB hk;clear hb hk;go_wp2_with fail;exact⟨rfl,cS.fault (c1:=c) HB.out HK.out (Stk.refl _)⟩
theorem QR(cb lo:Nat)(fs:List aC)(fv:Value)(seen:List (List UInt8))(w:World)(h:CK cb lo fs fv w seen)(l m:Nat):
 Calls Tryz.prog 167 #[.pointer (some ⟨cb,0,none⟩),.iface 338 (.agg #[.int .i64 l,.iface 397 (.agg #[.int .i64 m,.int .i64 0])])] w (cS cb lo fs fv w ((⟨seen,0,0⟩:aX))):=by
 have q0:=mM;have q1:=nC;have q2:=sY;have q3:=oG;have q4:=nB;obtain⟨hl0,hk0⟩:=Loc.new h (.cells #[.int .i64 l,.iface 397 (.agg #[.int .i64 m,.int .i64 0])] 338);have HL0:=aB hl0;have HX:=aB (FC cb lo fs fv seen (w.alloc (.cells #[.int .i64 l,.iface 397 (.agg #[.int .i64 m,.int .i64 0])] 338)) hk0 m 0);clear h hl0 hk0;generalize (⟨seen,0,0⟩:aX)=c at*;go_enter Tryz.func167,Tryz.ntmps167;go_wp2_with fail;refine HX.out.mono ?_;rintro e w1 ⟨hb,⟨s,hc,rfl,hck⟩|⟨hk,rfl⟩⟩
 ·have HB:=aB (HL0.out.fb.trans hb);have HK:=aB hck;subst hc;clear hb hck;go_wp2_with fail;go_end0;exact cS.done HB.out rfl HK.out
 ·have HB:=aB (HL0.out.fb.trans hb);have HK:=aB hk;clear hb hk;go_wp2_with fail;exact⟨rfl,cS.fault (c1:=c) HB.out HK.out (Stk.refl _)⟩
theorem dQ{fs:List aC}{d:Nat}{a:aC}{s:aX}(hv:(a.op==[118,97,114])=false)(hb:(a.op==[98,108,111,99,107])=false):aM fs false (d+1) a s=foldL fs d a.kids (bY fs false s a):=by
 rw[aM,if_neg (by rw[hv];simp)]
 simp only[hb];rfl
theorem look_plain{fs:List aC}{a:aC}{s:aX}(h1:(a.op==[115,101,116])=false)(h2:(a.op==[110,97,109,101])=false)(h3:(a.op==[99,97,108,108])=false):bY fs false s a=s:=by
 unfold bY;rw[h1,h2,h3];rfl
theorem MG{fs:List aC}{a:aC}{s:aX}(h:(a.op==[115,101,116] || a.op==[110,97,109,101])=true):bY fs false s a=yR s a.line a.text:=by
 unfold bY;rw[h];rfl
theorem FE{fs:List aC}{a:aC}{s:aX}(h:a.op=[99,97,108,108]):bY fs false s a=dX fs false s a:=by
 unfold bY;rw[h];rfl
theorem LV{x y:List UInt8}(h:bV x≠9)(hy:bV y=9):(x==y)=false:=by
 rw[beq_eq_false_iff_ne];intro e;rw[e] at h;exact h hy
theorem VX(cb lo:Nat)(fs:List aC)(fv:Value)(hfl:fs.length≤90000)(hfk:∀f∈fs,f.kids.length≤90000)(d:Nat)(IHs:∀e,e≤d→jA cb lo fs fv e):jA cb lo fs fv (d+1):=by
 intro v a seen w h hn hdp hwt;obtain⟨T,cs,ps,rfl,hsh,hps⟩:=hn.parts;have IH:=IHs d (Nat.le_refl _);have HN:=qI cb lo fs fv d IH
 have HBK:qQ cb lo fs fv d:=by
  cases d with
  |zero=>exact fun _ _ _ _ _ _ _ hd _=>hd.elim
  |succ e=>exact ON (qI cb lo fs fv e (IHs e (by omega)))
 rw[bS] at hwt;have hdk:∀k∈a.kids,eS d k:=hdp;clear hn hdp;rcases hsh with ⟨rfl,k,rfl,hop,hk,hkids,rfl⟩|⟨rfl,rfl,hop,hkids,rfl⟩|⟨rfl,rfl,hop,hkids,rfl⟩|⟨rfl,sv,rfl,hop,rfl⟩|⟨rfl,sv,rfl,hop,rfl⟩|⟨rfl,rfl,hop,hkids,rfl⟩|⟨rfl,l,v1,v2,a1,a2,rfl,hop,hkids,rfl⟩|⟨rfl,o,v1,a1,rfl,ho,hop,hkids,rfl⟩|⟨rfl,l,v1,v2,a1,a2,rfl,hop,hkids,rfl⟩|⟨rfl,v1,t,a1,rfl,hop,hkids,rfl⟩|⟨rfl,sv,v1,l,a1,rfl,hop,hkids,rfl⟩|⟨rfl,v1,s1,a1,b1,rfl,hop,hb1,hkids,rfl⟩|⟨rfl,v1,s1,s2,a1,b1,b2,rfl,hop,hb1,hb2,hkids,rfl⟩|⟨rfl,v1,s1,a1,b1,rfl,hop,hb1,hkids,rfl⟩|⟨rfl,l,rfl,hop,hkids,rfl⟩|⟨rfl,v1,a1,rfl,hop,hkids,rfl⟩|⟨rfl,v1,a1,rfl,hop,hkids,rfl⟩|⟨rfl,sv,c,rfl,hop,hln,htx,hkids,hcop,rfl⟩
 ·have e:aM fs false (d+1) a ⟨seen,0,0⟩=⟨seen,0,0⟩:=by rw[dQ (by rw[hop];decide) (by rw[hop];decide),look_plain (by rw[hop];decide) (by rw[hop];decide) (by rw[hop];decide),hkids];rfl
  rw[e];exact FC cb lo fs fv seen w h _ k
 ·have e:aM fs false (d+1) a ⟨seen,0,0⟩=⟨seen,0,0⟩:=by rw[dQ (by rw[hop];decide) (by rw[hop];decide),look_plain (by rw[hop];decide) (by rw[hop];decide) (by rw[hop];decide),hkids];rfl
  rw[e];exact WC cb lo fs fv seen w h _ _
 ·have e:aM fs false (d+1) a ⟨seen,0,0⟩=⟨seen,0,0⟩:=by rw[dQ (by rw[hop];decide) (by rw[hop];decide),look_plain (by rw[hop];decide) (by rw[hop];decide) (by rw[hop];decide),hkids];rfl
  rw[e];exact J6 cb lo fs fv seen w h _ _
 ·rw[dQ (by rw[hop];decide) (by rw[hop];decide),look_plain (by rw[hop];decide) (by rw[hop];decide) (by rw[hop];decide)]
  exact J5 cb lo fs fv d HN seen w h _ sv a.kids (hps _ (List.mem_singleton.2 rfl)).many hdk (by omega)
 ·rw[dQ (by rw[hop];decide) (by rw[hop];decide),FE hop]
  exact TK cb lo fs fv hfl hfk d HN a sv seen w h (hps _ (List.mem_singleton.2 rfl)).many hdk (by omega)
 ·have e:aM fs false (d+1) a ⟨seen,0,0⟩=yR ⟨seen,0,0⟩ a.line a.text:=by rw[dQ (by rw[hop];decide) (by rw[hop];decide),MG (by rw[hop];decide),hkids];rfl
  rw[e];exact MC cb lo fs fv seen w h _ _ (by omega)
 ·rw[dQ (by rw[hop];decide) (by rw[hop];decide),look_plain (by rw[hop];decide) (by rw[hop];decide) (by rw[hop];decide),hkids]
  rw[hkids] at hwt hdk;simp only[List.map_cons,List.map_nil,List.sum_cons,List.sum_nil] at hwt;exact B1 cb lo fs fv d IH seen w h l v1 a1 (hps _ (by simp)).one' (hdk a1 (by simp)) v2 a2 (hps ⟨v2,[a2],true⟩ (by simp)).one' (hdk a2 (by simp)) (by omega)
 ·have hop':a.op=[45,120]∨a.op=[33,120]:=by rcases ho with rfl|rfl<;>simp[hop]
  have e:aM fs false (d+1) a ⟨seen,0,0⟩=aM fs false d a1 ⟨seen,0,0⟩:=by
   rcases hop' with hop|hop<;>(rw[dQ (by rw[hop];decide) (by rw[hop];decide),look_plain (by rw[hop];decide) (by rw[hop];decide) (by rw[hop];decide),hkids];rfl)
  rw[e];rw[hkids] at hwt hdk;simp only[List.map_cons,List.map_nil,List.sum_cons,List.sum_nil] at hwt;exact A9 cb lo fs fv d IH seen w h _ _ v1 a1 (hps _ (by simp)).one' (hdk a1 (by simp)) (by omega)
 ·rw[dQ (LV hop (by decide)) (LV hop (by decide)),look_plain (LV hop (by decide)) (LV hop (by decide)) (LV hop (by decide)),hkids]
  rw[hkids] at hwt hdk;simp only[List.map_cons,List.map_nil,List.sum_cons,List.sum_nil] at hwt;exact WE cb lo fs fv d IH seen w h l _ v1 a1 (hps _ (by simp)).one' (hdk a1 (by simp)) v2 a2 (hps ⟨v2,[a2],true⟩ (by simp)).one' (hdk a2 (by simp)) (by omega)
 ·have e:aM fs false (d+1) a ⟨seen,0,0⟩={ aM fs false d a1 (Hs.declaresL ⟨seen,0,0⟩ t) with seen:=(aM fs false d a1 (Hs.declaresL ⟨seen,0,0⟩ t)).seen++[t.text] }:=by
   rw[aM,if_pos (by rw[hop];rfl),hkids]
  rw[e];rw[hkids] at hwt hdk;simp only[List.map_cons,List.map_nil,List.sum_cons,List.sum_nil] at hwt;exact QS cb lo fs fv d IH seen w h _ t a1 v1 (hps _ (by simp)).one' (hdk a1 (by simp)) (by omega)
 ·rw[dQ (by rw[hop];decide) (by rw[hop];decide),MG (by rw[hop];decide),hkids]
  rw[hkids] at hwt hdk;simp only[List.map_append,List.map_cons,List.map_nil,List.sum_append,List.sum_cons,List.sum_nil] at hwt
  have e:foldL fs d (l++[a1]) (yR ⟨seen,0,0⟩ a.line a.text)=aM fs false d a1 (foldL fs d l (yR ⟨seen,0,0⟩ a.line a.text)):=by
   show List.foldl _ _ (l++[a1])=_
   rw[List.foldl_append];rfl
  rw[e];exact WF cb lo fs fv d IH HN seen w h _ _ sv l (hps ⟨sv,l,false⟩ (by simp)).many (fun k hk=>hdk k (List.mem_append_left _ hk)) v1 a1 (hps ⟨v1,[a1],true⟩ (by simp)).one' (hdk a1 (by simp)) (by omega)
 ·rw[dQ (by rw[hop];decide) (by rw[hop];decide),look_plain (by rw[hop];decide) (by rw[hop];decide) (by rw[hop];decide),hkids]
  rw[hkids] at hwt hdk;simp only[List.map_cons,List.map_nil,List.sum_cons,List.sum_nil] at hwt;exact P4 cb lo fs fv d IH HN HBK seen w h _ v1 a1 (hps ⟨v1,[a1],true⟩ (by simp)).one' (hdk a1 (by simp)) s1 b1 hb1 (hps ⟨s1,b1.kids,false⟩ (by simp)).many (hdk b1 (by simp)) (by omega)
 ·rw[dQ (by rw[hop];decide) (by rw[hop];decide),look_plain (by rw[hop];decide) (by rw[hop];decide) (by rw[hop];decide),hkids]
  rw[hkids] at hwt hdk;simp only[List.map_cons,List.map_nil,List.sum_cons,List.sum_nil] at hwt;exact S4 cb lo fs fv d IH HBK seen w h _ v1 a1 (hps ⟨v1,[a1],true⟩ (by simp)).one' (hdk a1 (by simp)) s1 b1 hb1 (hps ⟨s1,b1.kids,false⟩ (by simp)).many (hdk b1 (by simp)) s2 b2 hb2 (hps ⟨s2,b2.kids,false⟩ (by simp)).many (hdk b2 (by simp)) (by omega)
 ·rw[dQ (by rw[hop];decide) (by rw[hop];decide),look_plain (by rw[hop];decide) (by rw[hop];decide) (by rw[hop];decide),hkids]
  rw[hkids] at hwt hdk;simp only[List.map_cons,List.map_nil,List.sum_cons,List.sum_nil] at hwt;exact A8 cb lo fs fv d IH HBK seen w h _ v1 a1 (hps ⟨v1,[a1],true⟩ (by simp)).one' (hdk a1 (by simp)) s1 b1 hb1 (hps ⟨s1,b1.kids,false⟩ (by simp)).many (hdk b1 (by simp)) (by omega)
 ·have e:aM fs false (d+1) a ⟨seen,0,0⟩=⟨seen,0,0⟩:=by rw[dQ (by rw[hop];decide) (by rw[hop];decide),look_plain (by rw[hop];decide) (by rw[hop];decide) (by rw[hop];decide),hkids];rfl
  rw[e];exact QR cb lo fs fv seen w h _ l
 ·rw[dQ (by rw[hop];decide) (by rw[hop];decide),look_plain (by rw[hop];decide) (by rw[hop];decide) (by rw[hop];decide),hkids]
  rw[hkids] at hwt hdk;simp only[List.map_cons,List.map_nil,List.sum_cons,List.sum_nil] at hwt;exact WD cb lo fs fv d IH seen w h _ v1 a1 (hps _ (by simp)).one' (hdk a1 (by simp)) (by omega)
 ·rw[dQ (by rw[hop];decide) (by rw[hop];decide),look_plain (by rw[hop];decide) (by rw[hop];decide) (by rw[hop];decide),hkids]
  rw[hkids] at hwt hdk;simp only[List.map_cons,List.map_nil,List.sum_cons,List.sum_nil] at hwt;exact B0 cb lo fs fv d IH seen w h _ v1 a1 (hps _ (by simp)).one' (hdk a1 (by simp)) (by omega)
 ·rw[dQ (by rw[hop];decide) (by rw[hop];decide),look_plain (by rw[hop];decide) (by rw[hop];decide) (by rw[hop];decide),hkids]
  rw[hkids] at hwt hdk;simp only[List.map_cons,List.map_nil,List.sum_cons,List.sum_nil] at hwt;have hdc:=hdk c (by simp)
  cases d with
  |zero=>exact hdc.elim
  |succ e=>
   show Calls _ _ _ _ (cS cb lo fs fv w (aM fs false (e+1) c ⟨seen,0,0⟩))
   rw[bS] at hwt;rw[dQ (by rw[hcop];decide) (by rw[hcop];decide),FE hcop]
   exact TK cb lo fs fv hfl hfk e (qI cb lo fs fv e (IHs e (by omega))) c sv seen w h (hps ⟨sv,c.kids,false⟩ (by simp)).many hdc (by omega)
theorem A6(cb lo:Nat)(fs:List aC)(fv:Value)(hfl:fs.length≤90000)(hfk:∀f∈fs,f.kids.length≤90000)(d:Nat):jA cb lo fs fv d:=by
 induction d using Nat.strongRecOn with
 |_ d ih=>
  cases d with
  |zero=>exact fun _ _ _ _ _ _ hd _=>hd.elim
  |succ d=>exact VX cb lo fs fv hfl hfk d fun e he=>ih e (by omega)
theorem O1{ps:List aC}(k:Nat)(hk:k<ps.length):(YP ps)[k*2]?=some (.int .i64 ps[k].line)∧(YP ps)[k*2+1]?=some (.string (bs ps[k].text)):=by
 induction ps generalizing k with
 |nil=>simp at hk
 |cons a ps ih=>
  cases k with
  |zero=>exact⟨rfl,rfl⟩
  |succ k=>
   have:=ih k (by simpa using hk)
   have e:∀j,(YP (a::ps))[(k+1)*2+j]?=(YP ps)[k*2+j]?:=fun j=>by
    rw[YP,show (k+1)*2+j=k*2+j+1+1 by omega];rfl
   exact⟨(e 0).trans this.1,(e 1).trans this.2⟩
theorem PNm.get{F:Nat→Prop}{w:World}{v:Value}{ps:List aC}(h:PNm F w v ps):(v=.slice none 0 0∧ps=[])∨∃g cap,v=.slice (some ⟨g,0,none⟩) ps.length cap∧F g∧g<w.heap.size∧ps.length≤cap∧∀k (hk:k<ps.length),w.cell? ⟨g,k*2,none⟩=some (.int .i64 ps[k].line)∧w.cell? ⟨g,k*2+1,none⟩=some (.string (bs ps[k].text)):=by
 obtain⟨_,h|⟨g,cap,cur,h1,h2,h3,h4,h5⟩⟩:=h
 ·exact Or.inl h
 ·refine Or.inr ⟨g,cap,h1,h2,aD h3,h4,fun k hk=>?_⟩
  obtain⟨e1,e2⟩:=O1 k hk
  have e:∀j u,j<ps.length*2→(YP ps)[j]?=some u→w.cell? ⟨g,j,none⟩=some u:=fun j u hj hu=>by
   refine aA h3 ?_;rw[←h5,List.getElem?_take,if_pos hj] at hu;simpa using hu
  exact⟨e _ _ (by omega) e1,e _ _ (by omega) e2⟩
theorem BC{F:Nat→Prop}{w:World}:∀{us:List Value} {fs:List aC} (i:Nat),jH (yH F w) us fs→i≤fs.length→(iX us).take (i*4)=iX (us.take i)
 |[],[],i,_,h=>by simp[iX]
 |u::us,f::fs,0,_,_=>by simp[iX]
 |u::us,f::fs,i+1,⟨⟨pv,bv,ps,b,hv,_⟩,h⟩,hi=>by
  subst hv;have ih:=BC i h (by simpa using hi)
  rw[List.take_succ_cons,iX,iX,←ih,List.take_append];have:(vN (Value.agg #[.int .i64 f.line,.string (bs f.text),pv,bv])).length=4:=rfl;rw[this,List.take_of_length_le (by rw[this];omega)]
  congr 2;omega
 |[],_::_,_,h,_=>h.elim
 |_::_,[],_,h,_=>h.elim
theorem jH.take{R:Value→aC→Prop}:∀{vs ks} (i:Nat),jH R vs ks→jH R (vs.take i) (ks.take i)
 |_,_,0,_=>by simp[jH]
 |[],[],_+1,_=>trivial
 |_::_,_::_,i+1,⟨h1,h2⟩=>⟨h1,jH.take i h2⟩
 |[],_::_,_,h=>h.elim
 |_::_,[],_,h=>h.elim
theorem FSl.take{F:Nat→Prop}{w:World}{g cap:Nat}{fs:List aC}(h:FSl F w (.slice (some ⟨g,0,none⟩) fs.length cap) fs)(i:Nat)(hi:i≤fs.length):FSl F w (.slice (some ⟨g,0,none⟩) i cap) (fs.take i):=by
 rcases h with ⟨h1,_⟩|⟨g',cap',cur,us,h1,h2,h3,h4,h5,h6⟩
 ·cases h1
 ·cases h1;have hl:(fs.take i).length=i:=by rw[List.length_take];omega
  refine Or.inr ⟨g,cap,cur,us.take i,by rw[hl],h2,h3,by omega,?_,h6.take i⟩
  rw[hl,←BC i h6 hi,←h5,List.take_take];congr 1;omega
theorem CK.reset{cb lo:Nat}{fs:List aC}{fv sv:Value}{w:World}{seen:List (List UInt8)}(h:CK cb lo fs fv w seen)(hblk:w.heap[cb]?=some (.cells #[fv,sv] 220 (0,0))):
 FB cb w (w.setCell ⟨cb,1,none⟩ (.slice none 0 0))∧CK cb lo fs fv (w.setCell ⟨cb,1,none⟩ (.slice none 0 0)) []:=by
 have hlt:=aD hblk;have hb:Below cb w (w.setCell ⟨cb,1,none⟩ (.slice none 0 0)):=(Below.refl _ _).setCell (by simp) _
 have hn:(w.setCell ⟨cb,1,none⟩ (.slice none 0 0)).heap[cb]?=some (.cells #[fv,.slice none 0 0] 220 (0,0)):=by rw[aQ hblk];rfl
 refine⟨⟨hb,fun k hk hc hr=>Below.heap_setCell _ _ _ _ (by show k≠cb;exact hc),fun k hk=>?_⟩,⟨.slice none 0 0,hn,World.ownsRow_nil _ _ _ _⟩,h.fun_.keep fun k hk=>hb.block k hk.2⟩
 rw[lX hn] at hk;cases hk
theorem QK(pre:List aC)(x:List UInt8):(kF pre x).isSome=(fK x || !(dG pre x).isNone):=by
 unfold kF fK;cases x==[108,101,110]<;>cases x==[114,101,97,100]<;>cases dG pre x<;>rfl
theorem AP(fs:List aC)(d:Nat)(s:aX)(k:aC):Stk s (eE fs d s k):=by
 unfold eE;split
 ·exact(Stk.declares s k).trans (Stk.seen _ _)
 ·exact Stk.walk fs false d k s
theorem ZW(fs:List aC)(d:Nat)(s:aX)(k:aC)(h:k.op=[112,97,114,97,109]):eE fs d s k={ Hs.declaresL s k with seen:=(Hs.declaresL s k).seen++[k.text] }:=by
 unfold eE;rw[h];rfl
theorem ZX(fs:List aC)(d:Nat)(s:aX)(k:aC)(h:k.op=[98,108,111,99,107]):eE fs d s k=aM fs false d k s:=by
 unfold eE;rw[h];rfl
def O8(cb lo:Nat)(fs:List aC)(fv:Value)(d:Nat)(w:World)(b0:Nat)(o:Obj)(ps:List aC)(b:aC)(c:aX)(gk:Nat)(i:Value)(wr:World):Prop:=
 ∃k s,k+gk=ps.length∧i=.int .i64 (k:Nat)∧Loc cb w b0 o wr∧CK cb lo fs fv wr s∧c=(ps.drop k++[b]).foldl (eE fs d) ⟨s,0,0⟩∧s.length=k
theorem SB(fs:List aC)(d:Nat)(seen:List (List UInt8))(f:aC)(first:Bool)(h:(fK f.text || !first)=true):Stk ⟨[],6,f.line⟩ (fP fs d ⟨seen,0,0⟩ f first):=by
 unfold fP;rw[h];exact Stk.fold (AP fs d) _ _
theorem M7(fs:List aC)(d:Nat)(seen:List (List UInt8))(f:aC)(first:Bool)(h:(fK f.text || !first)=false):fP fs d ⟨seen,0,0⟩ f first=f.kids.foldl (eE fs d) ⟨[],0,0⟩:=by
 unfold fP;rw[h];rfl
theorem XZ(cb lo:Nat)(fs:List aC)(g cap:Nat)(hfl:fs.length≤90000)(hfk:∀f∈fs,f.kids.length≤90000)(d i:Nat)(hi:i<fs.length)(seen:List (List UInt8))(w:World)(h:CK cb lo fs (FV (.slice (some ⟨g,0,none⟩) fs.length cap)) w seen)
 (hd:∀k∈fs[i].kids,eS d k) (hw:fs[i].kids.length+(fs[i].kids.map (bS d)).sum≤90000):
 Calls Tryz.prog 137 #[.pointer (some ⟨cb,0,none⟩),.slice (some ⟨g,0,none⟩) fs.length cap,.int .i64 i] w (cS cb lo fs (FV (.slice (some ⟨g,0,none⟩) fs.length cap)) w (fP fs d ⟨seen,0,0⟩ fs[i] (dG (fs.take i) fs[i].text).isNone)):=by
 obtain⟨_,hpe,hfs⟩:=h.fun_;cases hpe;rcases hfs.cells with ⟨h1,_⟩|⟨g',cap',h1,hgF,hgl,hcap,hc⟩
 ·cases h1
 cases h1;obtain⟨pv,bv,ps,b,e0,e1,e2,e3,hkids,hps,hbo,hbk⟩:=hc i hi;obtain⟨px,pc,rfl⟩:=hps.slice;obtain⟨bx,bc,rfl⟩:=hbk.slice;have HPT:=aB (QK (fs.take i) fs[i].text);have hfi:=hfk fs[i] (List.getElem_mem hi);have HFT:=aB (hfs.take i (by omega))
 generalize hff:fs[i]=f at*;have HNT:=aB (fun hx=>SB fs d seen f (dG (fs.take i) f.text).isNone hx)
 have HNG:=aB (fun hx=>M7 fs d seen f (dG (fs.take i) f.text).isNone hx)
 have hcb:=h.lt;obtain⟨hl0,hk0⟩:=Loc.new h (.cells #[.int .i64 f.line,.string (bs f.text),.slice px ps.length pc,.slice bx b.kids.length bc] 215);obtain⟨sx,sc,hblk,hsc,hscm,hown⟩:=h.cut;obtain⟨hlt,c0,c1,f1⟩:=iO hblk;have HL0:=aB hl0;have HC0:=aB hk0;have HPS:=aB hps;have HBK:=aB hbk;have HBO:=aB hbo;have HKD:=aB hkids;have HD:=aB hd;have HW:=aB hw;have HFK:=aB hfk;have hicap:i≤cap:=by omega
 have HBLK:Hid (qQ cb lo fs (FV (.slice (some ⟨g,0,none⟩) fs.length cap)) d):=by
  cases d with
  |zero=>exact fun _ _ _ _ _ _ _ hd _=>hd.elim
  |succ e=>exact ON (qI cb lo fs _ e (A6 cb lo fs _ hfl hfk e))
 have hpsl:ps.length≤90000:=by rw[hkids] at hfi;simp at hfi;omega
 have HB0:Hid (Below w.heap.size w (w.alloc (.cells #[.int .i64 f.line,.string (bs f.text),.slice px ps.length pc,.slice bx b.kids.length bc] 215))):=(Below.refl _ _).alloc (Nat.le_refl _) _;have HPP:=aB (AS (fs.take i) (Btw lo cb) (.slice (some ⟨g,0,none⟩) i cap) f.text (w.alloc (.cells #[.int .i64 f.line,.string (bs f.text),.slice px ps.length pc,.slice bx b.kids.length bc] 215)).drew (by rw[List.length_take];omega) (fun f hf=>hfk f (List.mem_of_mem_take hf)) (HFT.out.keep fun k hk=>by have:=hk.2;exact Below.heap_alloc _ _ _ (by omega)))
 rw[HPT.out] at HPP;generalize hpn:((kF (List.take i fs) f.text).getD 0)=pn at HPP;obtain⟨tk,htk⟩:∃tk,tk=(fK f.text || !(dG (fs.take i) f.text).isNone):=⟨_,rfl⟩
 rw[←htk] at HPP;have HTK:=aB htk;obtain⟨cc,hcc⟩:∃cc,cc=fP fs d ⟨seen,0,0⟩ f (dG (fs.take i) f.text).isNone:=⟨_,rfl⟩;rw[←hcc];have HCC:=aB hcc;clear hpn htk hcc h hl0 hk0 hps hbk hbo hkids hd hw hfk hfs hc hblk hown HPT HFT hgF;go_enter Tryz.func137,Tryz.ntmps137;go_wp2_with fail;go_cut [7,8] (fun _ tv wc=>tv=.bool tk∧Below w.heap.size w wc∧Loc cb w w.heap.size (.cells #[.int .i64 f.line,.string (bs f.text),.slice px ps.length pc,.slice bx b.kids.length bc] 215) wc∧CK cb lo fs (FV (.slice (some ⟨g,0,none⟩) fs.length cap)) wc seen)
 case first=>
  go_region_law (go_simp;go_at_call 135;refine HPP.out.mono ?_;rintro e w1 ⟨rfl,hb1⟩;have HB1:=aB ((Below.refl (w.alloc (.cells #[.int .i64 f.line,.string (bs f.text),.slice px ps.length pc,.slice bx b.kids.length bc] 215)).heap.size (w.alloc (.cells #[.int .i64 f.line,.string (bs f.text),.slice px ps.length pc,.slice bx b.kids.length bc] 215))).drew.trans hb1);clear hb1)
  all_goals
   go_wp2_with fail;go_meet
   case rel=>exact⟨rfl,HB0.out.trans (HB1.out.mono (by simp)),HL0.out.step (FB.of_below HB1.out (by simp;omega)),HC0.out.grow HB1.out⟩
 case rest=>
  obtain⟨rfl,hbb,hL1,hC1⟩:=hcut;clear c0 c1 f1 hlt e0 e1 e2 e3;obtain⟨sx1,sc1,hblk1,hsc1,hscm1,hown1⟩:=hC1.cut;obtain⟨hlt,c0,c1,f1⟩:=iO hblk1;have HL1:=aB hL1;have HC1:=aB hC1;have m0:=aA hL1.blk (i:=0) rfl;have m1:=aA hL1.blk (i:=1) rfl;have m2:=aA hL1.blk (i:=2) rfl;have m3:=aA hL1.blk (i:=3) rfl;have hz1:=aD hL1.blk;have HRS:=aB (hC1.reset hblk1);have HBB:=aB hbb;clear hL1 hC1 hblk1 hown1 hbb HPP;cases tk;rotate_left
  ·go_wp2_with fail;refine(pQ f.line _).mono ?_;rintro e w2 ⟨rfl,hb2⟩;have HB2:=aB (HBB.out.trans (hb2.mono HBB.out.size));clear hb2;go_wp2_with (go_at_call 136;refine(fZ 6 f.line _).mono ?_;rintro e w3 ⟨rfl,hw⟩;obtain rfl:=hw.symm)
   exact⟨rfl,cS.fault (c1:=⟨[],6,f.line⟩) (FB.of_below HB2.out hcb) (by simp) (by rw[HCC.out];exact HNT.out HTK.out.symm)⟩
  have HI:Hid (O8 cb lo fs (FV (.slice (some ⟨g,0,none⟩) fs.length cap)) d w w.heap.size (.cells #[.int .i64 f.line,.string (bs f.text),.slice px ps.length pc,.slice bx b.kids.length bc] 215) ps b cc ps.length (.int .i64 (0:Nat)) (wc.setCell ⟨cb,1,none⟩ (.slice none 0 0))):=
   ⟨0,[],by omega,rfl,HL1.out.step HRS.out.1,HRS.out.2,by rw[HCC.out,HNG.out HTK.out.symm,HKD.out];rfl,rfl⟩
  have hcbb:¬cb=w.heap.size:=by omega
  have hcbb2:¬w.heap.size=cb:=by omega
  obtain⟨i0,hi0,hz0,hz1',hz2⟩:=info_parts TO;go_wp2_with fail;go_loopg [10,37] ps.length (fun gk _ iv wr=>O8 cb lo fs (FV (.slice (some ⟨g,0,none⟩) fs.length cap)) d w w.heap.size (.cells #[.int .i64 f.line,.string (bs f.text),.slice px ps.length pc,.slice bx b.kids.length bc] 215) ps b cc gk iv wr)
  case atStart=>exact HI.out
  case round=>
   obtain⟨k,s,hk,rfl,hLr,hCr,hcc,hsl⟩:=hrel;have HSL:=aB hsl;have hsle:s.length≤90000:=by omega
   clear hsl;have HLR:=aB hLr;have HCR:=aB hCr;have HCS:=aB hcc;clear m0 m1 m2 m3 hz1 c0 c1 f1 hlt HI HRS;have m0:=aA hLr.blk (i:=0) rfl;have m1:=aA hLr.blk (i:=1) rfl;have m2:=aA hLr.blk (i:=2) rfl;have m3:=aA hLr.blk (i:=3) rfl;have hz1:=aD hLr.blk;have hcr:=hCr.lt;by_cases hlt:k<ps.length
   ·obtain⟨j,rfl⟩:∃j,gk=j+1:=⟨gk-1,by omega⟩
    rcases HPS.out.get with ⟨_,hnil⟩|⟨pg,pcap,hpe,hpF,hpl,hpc,hcell⟩
    ·rw[hnil] at hlt;simp at hlt
    obtain⟨hp1,hp2⟩:=hcell k hlt;have hop:=HPS.out.1 ps[k] (List.getElem_mem hlt);have hdk:ps.drop k=ps[k]::ps.drop (k+1):=(List.getElem_cons_drop hlt).symm;have hcc':cc=(ps.drop (k+1)++[b]).foldl (eE fs d) (eE fs d ⟨s,0,0⟩ ps[k]):=by rw[hcc,hdk];rfl
    generalize ps[k]=a at*;cases hpe;have r0:wr.cell? ⟨pg,k*2,none⟩=some (.int .i64 a.line):=(hLr.fb.bel.cell (p:=⟨pg,k*2,none⟩) hpF.2).trans hp1;have r1:wr.cell? ⟨pg,k*2+1,none⟩=some (.string (bs a.text)):=(hLr.fb.bel.cell (p:=⟨pg,k*2+1,none⟩) hpF.2).trans hp2;have hpgl:pg<wr.heap.size:=Nat.lt_of_lt_of_le (Nat.lt_trans hpF.2 hcb) hLr.fb.bel.size;obtain⟨hl2,hc2⟩:=Loc.new hCr (.cells #[.int .i64 a.line,.string (bs a.text)] 211);have HL2:=aB hl2;have HM:=aB (pN cb lo fs _ (wr.alloc (.cells #[.int .i64 a.line,.string (bs a.text)] 211)) s hc2 (by omega) a.line a.text)
    have HDL:Hid (Hs.declaresL ⟨s,0,0⟩ a=if fK a.text || s.contains a.text then aX.found ⟨s,0,0⟩ a.line 6 else ⟨s,0,0⟩):=rfl
    rw[←HDL.out] at HM;have HPP2:=aB (ZW fs d ⟨s,0,0⟩ a hop);have hds:=mF ⟨s,0,0⟩ a;have HDS:=aB hds;have HCC2:=aB hcc';clear hcc hcc' hdk hp1 hp2 hcell hpc hpl HCS hds HDL hl2 hc2 hLr hCr hop;generalize Hs.declaresL ⟨s,0,0⟩ a=c1 at*;go_wp2_with fail;refine HM.out.mono ?_;rintro e w2 ⟨hb2,⟨s2,rfl,rfl,hck2⟩|⟨hk2,rfl⟩⟩
    rotate_left
    ·have HBF:=aB (HLR.out.fb.trans (HL2.out.fb.trans hb2));have HK:=aB hk2;clear hb2 hk2;go_wp2_with fail;exact⟨rfl,cS.fault (c1:=c1) HBF.out HK.out (by rw[HCC2.out,HPP2.out];exact(Stk.seen _ _).trans (Stk.fold (AP fs d) _ _))⟩
    obtain rfl:s2=s:=HDS.out;have HL3:=aB (HL2.out.step hb2);have HLb:=aB ((HLR.out.step HL2.out.fb).step hb2);obtain⟨sx2,sc2,hblk2,hsc2,hscm2,hown2⟩:=hck2.cut;obtain⟨hlt2,c0,c1,f1⟩:=iO hblk2;have n0:=aA HL3.out.blk (i:=0) rfl;have n1:=aA HL3.out.blk (i:=1) rfl;have hy3:=aD HL3.out.blk;clear m0 m1 m2 m3 hz1 r0 r1;have m0:=aA HLb.out.blk (i:=0) rfl;have m1:=aA HLb.out.blk (i:=1) rfl;have m2:=aA HLb.out.blk (i:=2) rfl;have m3:=aA HLb.out.blk (i:=3) rfl;have hz1:=aD HLb.out.blk;have HB2:=aB (show w2.drew.heap[cb]?=_ from hblk2)
    have HO2:=aB (show w2.drew.ownsRow _ _ _ _ _ _ from hown2)
    have HK2:=aB (show CK cb lo fs (FV (.slice (some ⟨g,0,none⟩) fs.length cap)) w2.drew s2 from hck2.grow (Below.refl _ _).drew)
    have HFD:=aB (FB.of_below (cb:=cb) (Below.refl w2.heap.size w2).drew hlt2);clear hblk2 hown2 hck2 hb2 HM;go_wp2_with fail;go_region_law (refine step_append_lies _ (by rfl) _ _ 60 (by rfl) (cb+1) 9 i0 _ 1 16 Tryz.underlying60 hi0 hz0 hz1' hz2 rfl (by decide) (.slice sx2 s2.length sc2) s2.length (jR s2) (by rfl) (HO2.out.alloc _) ⟨w2.heap.size,0,none⟩ 1 1 [.string (bs a.text)] (by rfl) (by rfl) (MB w2.drew _) (TH _) (by decide) (by unfold maxLen;omega) (by omega) (by simp;omega) (w2.heap.size+1) (by simp) ?_;intro g5 cap5 w5 hown5 hgrow5 hat5 hg5;have hB5:=BV HB2.out HO2.out hgrow5;obtain⟨hz5, -,q1,fz5⟩:=iO hB5;clear hB5)
    all_goals
     go_wp2_with fail;go_roundg j
     case measure=>omega
     case rel=>
      have hfin:=HK2.out.add HB2.out HO2.out hown5 hgrow5 (hat5.imp_right fun e=>by show w2.heap.size≤g5;omega)
      exact⟨k+1,s2++[a.text],by omega,by go_num,(HLb.out.step HFD.out).step hfin.1,hfin.2,by rw[HCC2.out,HPP2.out],by have:=HSL.out;simp;omega⟩
   ·have hkl:k=ps.length:=by omega
    have hwb:eS d b∧s.length+bS d b≤90000:=by
     have h1:=HW.out;have h2:=HD.out b (by rw[HKD.out];simp)
     rw[HKD.out] at h1;simp only[List.length_append,List.map_append,List.sum_append,List.map_cons,List.map_nil,List.sum_cons,List.sum_nil,List.length_cons,List.length_nil] at h1;have:=HSL.out;exact⟨h2,by omega⟩
    have HX:=aB (HBLK.out (.slice bx b.kids.length bc) b s wr hCr HBO.out (HBK.out.below hLr.fb.bel) hwb.1 hwb.2)
    have HCC2:Hid (cc=aM fs false d b ⟨s,0,0⟩):=by
     show _=_
     rw[hcc,List.drop_eq_nil_of_le (by omega)]
     exact ZX fs d _ b HBO.out
    rw[←HCC2.out] at HX;clear hLr hCr hcc HCS HCC2 hwb;go_wp2_with fail;refine HX.out.mono ?_;rintro e w2 ⟨hb2,⟨s2,hc2,rfl,hck2⟩|⟨hk2,rfl⟩⟩
    ·have HB2:=aB (HLR.out.fb.trans hb2);have HK2:=aB hck2;have HC2:=aB hc2;clear hb2 hck2 hc2;go_wp2_with fail;go_end0;exact cS.done HB2.out HC2.out HK2.out
    ·have HB2:=aB (HLR.out.fb.trans hb2);have HK2:=aB hk2;clear hb2 hk2;go_wp2_with fail;exact⟨rfl,cS.fault (c1:=cc) HB2.out HK2.out (Stk.refl _)⟩
def pO(fs:List aC):Bool:=kF fs [109,97,105,110]==some 0
theorem SJ(fs:List aC)(F:Nat→Prop)(fv:Value)(w:World)(hfl:fs.length≤90000)(hfk:∀f∈fs,f.kids.length≤90000)(h:FSl F w fv fs):
 Calls Tryz.prog 78 #[fv] w fun e w'=>Below w.heap.size w w'∧((pO fs=true∧e=.returned (.tuple #[]))∨(pO fs=false∧e=cW 5 0)):=by
 have HP:=aB (AS fs F fv [109,97,105,110] w (by omega) hfk h)
 have HM:Hid (pO fs=(kF fs [109,97,105,110]==some 0)):=rfl;have HLE:=aB (fun n hn=>TG hfk (x:=[109,97,105,110]) (n:=n) hn)
 clear h hfk;rw[show bs [109,97,105,110]=⟨#[109,97,105,110]⟩ from rfl] at HP
 obtain⟨mo,hmo⟩:∃mo,mo=pO fs:=⟨_,rfl⟩;rw[←hmo] at HM ⊢
 clear hmo;cases hp:kF fs [109,97,105,110] with
 |none=>
  obtain rfl:mo=false:=by rw[HM.out,hp];rfl
  rw[hp] at HP;simp only[Option.getD_none,Option.isSome_none] at HP;clear hp HM HLE;go_enter Tryz.func78,Tryz.ntmps78;go_wp2_with fail;refine HP.out.mono ?_;rintro e w1 ⟨rfl,hb1⟩;have HB:=aB hb1;clear hb1;go_wp2_with (go_at_call 136;refine(fZ 5 0 _).mono ?_;rintro e w3 ⟨rfl,hw⟩;obtain rfl:=hw.symm)
  exact⟨rfl,HB.out,Or.inr ⟨trivial,rfl⟩⟩
 |some n=>
  have hn:=HLE.out n hp;rw[hp] at HP;simp only[Option.getD_some,Option.isSome_some] at HP;cases n with
  |zero=>
   obtain rfl:mo=true:=by rw[HM.out,hp];rfl
   clear hp HM HLE;go_enter Tryz.func78,Tryz.ntmps78;go_wp2_with fail;refine HP.out.mono ?_;rintro e w1 ⟨rfl,hb1⟩;have HB:=aB hb1;clear hb1;go_wp2_with fail;go_end0;exact⟨HB.out,Or.inl ⟨trivial,rfl⟩⟩
  |succ n=>
   obtain rfl:mo=false:=by rw[HM.out,hp];rfl
   clear hp HM HLE;have hpos:decide ((0:Int)<((n:Int)+1))=true:=decide_eq_true (by omega)
   go_enter Tryz.func78,Tryz.ntmps78;go_wp2_with fail;refine HP.out.mono ?_;rintro e w1 ⟨rfl,hb1⟩;have HB:=aB hb1;clear hb1;go_wp2_with (go_at_call 136;refine(fZ 5 0 _).mono ?_;rintro e w3 ⟨rfl,hw⟩;obtain rfl:=hw.symm)
   exact⟨rfl,HB.out,Or.inr ⟨trivial,rfl⟩⟩
theorem TW(fs:List aC)(d:Nat):∀(rest pre:List aC) (s:aX),Stk s (eP fs d pre rest s)
 |[],_,s=>Stk.refl s
 |n::rest,pre,s=>by
  rw[eP];refine Stk.trans ?_ (TW fs d rest _ _);unfold fP;refine Stk.trans ?_ (Stk.fold (AP fs d) _ _);refine Stk.trans ?_ (Stk.seen _ _);split
  ·exact Stk.found _ _ _
  ·exact Stk.refl _
def SW(cb lo:Nat)(fs:List aC)(fv:Value)(d:Nat)(w:World)(c:aX)(gk:Nat)(i:Value)(wr:World):Prop:=
 ∃k s,k+gk=fs.length∧i=.int .i64 (k:Nat)∧Below cb w wr∧CK cb lo fs fv wr s∧c=eP fs d (fs.take k) (fs.drop k) ⟨s,0,0⟩
theorem OE(lo:Nat)(fs:List aC)(fv:Value)(w:World)(d:Nat)(hfl:fs.length≤90000)(hfk:∀f∈fs,f.kids.length≤90000)(h:FSl (Btw lo w.heap.size) w fv fs)(hd:∀f∈fs,∀k∈f.kids,eS d k)(hw:∀f∈fs,f.kids.length+(f.kids.map (bS d)).sum≤90000):
 Calls Tryz.prog 79 #[fv] w fun e w'=>Below w.heap.size w w'∧(((eP fs d [] fs ⟨[],0,0⟩).kind=0∧(eP fs d [] fs ⟨[],0,0⟩).line=0∧e=.returned (.tuple #[]))∨((eP fs d [] fs ⟨[],0,0⟩).kind≠0∧e=cW (eP fs d [] fs ⟨[],0,0⟩).kind (eP fs d [] fs ⟨[],0,0⟩).line)):=by
 obtain⟨fx,fc,rfl⟩:∃x c,fv=.slice x fs.length c:=by
  rcases h.cells with ⟨h1,h2⟩|⟨g,cap,h1,_⟩
  ·exact⟨none,0,by rw[h1,h2];rfl⟩
  ·exact⟨_,_,h1⟩
 obtain⟨c,hc⟩:∃c,c=eP fs d [] fs ⟨[],0,0⟩:=⟨_,rfl⟩;have hb0:Below w.heap.size w (w.alloc (.cells #[FV (.slice fx fs.length fc),.slice none 0 0] 220)):=(Below.refl _ _).alloc (Nat.le_refl _) _
 have HI:Hid (SW w.heap.size lo fs (FV (.slice fx fs.length fc)) d w c fs.length (.int .i64 (0:Nat)) (w.alloc (.cells #[FV (.slice fx fs.length fc),.slice none 0 0] 220))):=
  ⟨0,[],by omega,rfl,hb0,⟨⟨.slice none 0 0,aR _ _ rfl _,World.ownsRow_nil _ _ _ _⟩,⟨_,rfl,h.keep fun k hk=>hb0.block k hk.2⟩⟩,by rw[hc];rfl⟩
 rw[←hc];have HF:=aB h;have HFK:=aB hfk;have HD:=aB hd;have HW:=aB hw;clear h hb0 hc hfk hd hw;go_enter Tryz.func79,Tryz.ntmps79;go_wp2_with fail;go_loopg [3,9] fs.length (fun gk _ i wr=>SW w.heap.size lo fs (FV (.slice fx fs.length fc)) d w c gk i wr)
 case atStart=>exact HI.out
 case round=>
  obtain⟨k,s,hk,rfl,hb,hck,hcc⟩:=hrel;have HB:=aB hb;by_cases hlt:k<fs.length
  ·obtain⟨j,rfl⟩:∃j,gk=j+1:=⟨gk-1,by omega⟩
   obtain⟨g,rfl⟩:∃g,fx=some ⟨g,0,none⟩:=by
    rcases HF.out.cells with ⟨h1,h2⟩|⟨g,cap,h1,_⟩
    ·rw[h2] at hlt;simp at hlt
    ·cases h1;exact⟨g,rfl⟩
   have hm:fs[k]∈fs:=List.getElem_mem hlt;have HX:=aB (XZ w.heap.size lo fs g fc hfl HFK.out d k hlt s wr hck (HD.out _ hm) (HW.out _ hm));have hdk:fs.drop k=fs[k]::fs.drop (k+1):=(List.getElem_cons_drop hlt).symm
   have hcc':c=eP fs d (fs.take (k+1)) (fs.drop (k+1)) (fP fs d ⟨s,0,0⟩ fs[k] (dG (fs.take k) fs[k].text).isNone):=by
    rw[hcc,hdk,eP,List.take_succ_eq_append_getElem hlt]
   have HCC:=aB hcc';clear hb hck hcc hcc' hdk hm;generalize fP fs d ⟨s,0,0⟩ fs[k] (dG (fs.take k) fs[k].text).isNone=c1 at*;go_wp2_with fail;refine HX.out.mono ?_;rintro e w1 ⟨hb1,⟨s1,rfl,rfl,hck1⟩|⟨hk1,rfl⟩⟩
   rotate_left
   ·have HB1:=aB (HB.out.trans hb1.bel);have HK1:=aB hk1;have HST:Hid (Stk c1 c):=by show Stk _ _;rw[HCC.out];exact TW fs d _ _ _
    clear hb1 hk1;go_wp2_with fail;obtain⟨e1,e2⟩:=HST.out HK1.out;exact⟨rfl,HB1.out,Or.inr ⟨by rw[e1];exact HK1.out,by rw[e1,e2]⟩⟩
   have HI1:Hid (SW w.heap.size lo fs (FV (.slice (some ⟨g,0,none⟩) fs.length fc)) d w c j (.int .i64 ((k+1:Nat):Int)) w1):=⟨k+1,s1,by omega,rfl,HB.out.trans hb1.bel,hck1,HCC.out⟩
   clear hb1 hck1 HX;go_wp2_with fail;go_roundg j
   case measure=>omega
   case rel=>exact HI1.out
  ·have hcc':c=⟨s,0,0⟩:=by rw[hcc,List.drop_eq_nil_of_le (by omega)];rfl
   have HCC:=aB hcc';clear hb hck hcc hcc';go_wp2_with fail;go_end0;rw[HCC.out];exact⟨HB.out,Or.inl ⟨rfl,rfl,rfl⟩⟩
structure NTabs(w:World):Prop where
 er:∃te pe,w.cell? ⟨10,0,none⟩=some (.iface te pe)
 big:11≤w.heap.size
theorem NTabs.fr{w w':World}{sb:Nat}(h:NTabs w)(hf:Fr sb w w')(hs:11≤sb):NTabs w':=by
 obtain⟨te,pe,h1⟩:=h.er;have:=h.big;have:=hf.size;exact⟨⟨te,pe,by rw[vO (hf.block 10 (by omega) (by omega))];exact h1⟩,by omega⟩
theorem VP(l:List UInt8)(hd:∀c∈l,dW c=true)(hne:l≠[])(hl:l.length≤100000)(w:World)(hg:NTabs w):
 Calls Tryz.prog 300 #[.string (bs l),.int .i64 10,.int .i64 64] w fun e w'=>Below w.heap.size w w'∧((∃v,dA 0 l=some v∧e=.returned (.tuple #[.int .i64 (v:Nat),.nilIface]))∨(dA 0 l=none∧∃x T p,e=.returned (.tuple #[.int .i64 x,.iface T p]))):=by
 have hsz:(bs l).size=l.length:=gX l;rcases WZ l hd hne with ⟨v,h1,h2⟩|⟨h1,h2⟩
 ·refine(Tryz.strconv_ParseInt_10_at64_ok (bs l) (by omega) v (by rw[iV];exact h2) w).mono ?_
  rintro e w' ⟨rfl,hw⟩;refine⟨?_,Or.inl ⟨v,h1,rfl⟩⟩;rcases hw with rfl|⟨t,rfl⟩
  ·exact Below.refl _ _
  ·exact Lib.bytesWorld_below _ _ _
 ·obtain⟨te,pe,he⟩:=hg.er;refine(Tryz.strconv_ParseInt_10_at64_range (bs l) (by omega) (by rw[iV];exact h2) (.iface te pe) w he (Or.inr ⟨te,pe,rfl⟩)).mono ?_
  rintro e w' ⟨N,rfl,_,_,hb⟩;exact⟨hb,Or.inr ⟨h1,_,_,_,rfl⟩⟩
theorem rS(c:UInt8):dY false c=dW c:=by unfold dY;simp
theorem KM(sb:Nat)(src:ByteArray)(n L:Nat)(w:World)(h:SC sb src n L w)(hg:NTabs w)(hsbN:11≤sb)(hs:src.size≤100000)(hn:n<src.size)(hdn:dW src[n]=true):
 Calls Tryz.prog 253 #[.pointer (some ⟨sb,0,none⟩)] w (E9 sb src n L w (gB (src.data.toList.drop n) false)):=by
 obtain⟨sp,hsp⟩:∃sp,sp=bI (dY false) (src.data.toList.drop n):=⟨_,rfl⟩
 have hle:sp≤src.size-n:=by
  have:=jS (dY false) (src.data.toList.drop n);rw[hsp];simpa using this
 have hpos:1≤sp:=by
  rw[hsp,jW src n hn,qE _ _ _ (by rw[rS];exact hdn)];omega
 have hn2:n≤src.size:=by omega
 have hsb:=(SC.cells h).1;have hrb:w.heap.size≠sb:=by omega
 have h1:SC sb src n L (w.alloc (.cells #[.int .i64 0,.string ⟨#[]⟩,.int .i64 0,.int .i64 0] 206)):=by unfold SC;rw[Below.heap_alloc _ _ _ hsb];exact h
 obtain⟨h0,c0,c1,c2,f1,f2⟩:=h1.cells;have HZD:Hid (ZTok (w.alloc (.cells #[.int .i64 0,.string ⟨#[]⟩,.int .i64 0,.int .i64 0] 206)).drew w.heap.size):=aR _ _ rfl _;have HSP:=aB (fun w=>tE (dY false) 252 (fun _ _=>rfl) (fun c w=>by rw[rS];exact sG c w) (src.extract n src.size) w (by rw[qH];omega))
 rw[mC,←hsp] at HSP;have HTK:=aB (nA sb src n L sp (w.alloc (.cells #[.int .i64 0,.string ⟨#[]⟩,.int .i64 0,.int .i64 0] 206)).drew h1 (by omega) (by omega))
 obtain⟨tx,htx⟩:∃tx,tx=(src.data.toList.drop n).take sp:=⟨_,rfl⟩;rw[←htx] at HTK;have hlen:tx.length=sp:=by rw[htx,List.length_take];simp;omega
 have HPI:=aB (fun W (hW:NTabs W)=>VP tx (fun c hc=>by
  rw[htx,hsp] at hc;rw[←rS];exact qF _ _ c hc) (fun e=>by rw[e] at hlen;simp at hlen;omega) (by omega) W hW)
 have HW:Hid (gB (src.data.toList.drop n) false={ sort:=48,text:=tx,size:=sp,ok:=(dA 0 tx).isSome }):=by
  show _=_
  unfold gB;rw[←hsp,←htx];rfl
 rw[HW.out];have HF0:Hid (Fr sb w (w.alloc (.cells #[.int .i64 0,.string ⟨#[]⟩,.int .i64 0,.int .i64 0] 206))):=(Fr.refl _ _).alloc _;have HG:=aB hg;have hbs:(bs tx).size=sp:=by rw[gX];exact hlen
 clear h h1 hsp htx HW hg hlen hdn;obtain⟨rr,hrr⟩:∃rr:oC,rr={ sort:=48,text:=tx,size:=sp,ok:=(dA 0 tx).isSome }:=⟨_,rfl⟩;rw[←hrr];have HRR:=aB hrr;clear hrr;go_enter Tryz.func253,Tryz.ntmps253;go_wp2_with fail;go_cut [3] (fun v wc=>v=.string (bs tx)∧SC sb src (n+sp) L wc∧Fr sb w wc∧ZTok wc w.heap.size)
 case first=>
  go_region_law (first|(go_simp;go_at_call 248;refine(HSP.out _).mono ?_;rintro e w1 ⟨rfl,hw⟩;obtain rfl:=hw.symm)|(go_simp;go_at_call 296;refine HTK.out.mono ?_;rintro e w2 ⟨rfl,hs2,hf2⟩;have HS2:=aB hs2;have HF2:=aB (HF0.out.drew.trans hf2);have HZ2:=aB (hf2.keepS HZD.out hrb);clear hs2 hf2))
  all_goals
   go_wp2_with fail;go_meet
   case rel=>exact⟨rfl,HS2.out,HF2.out,HZ2.out⟩
 case rest=>
  obtain⟨rfl,hs2,hf2,hz2⟩:=hcut;have HS2:=aB hs2;have HF2:=aB hf2;have HZ2:=aB hz2;have HPC:=aB (HPI.out wc (HG.out.fr hf2 hsbN));clear c0 c1 c2 f1 f2 h0 hs2 hf2 hz2 HTK HSP HZD HPI;go_wp2_with fail;refine HPC.out.mono ?_;rintro e w3 ⟨hb3,⟨v,hv,rfl⟩|⟨hv,x,T,p,rfl⟩⟩
  ·have HS3:Hid (SC sb src (n+sp) L w3):=(hb3.block sb (aD HS2.out)).trans HS2.out;have HZ3:Hid (ZTok w3 w.heap.size):=(hb3.block _ (aD HZ2.out)).trans HZ2.out;have HF3:=aB (HF2.out.trans (Fr.below hb3));obtain⟨h0,c0,c1,c2,f1,f2⟩:=HS3.out.cells;have z0:=aA HZ3.out (i:=0) rfl;have z1:=aA HZ3.out (i:=1) rfl;have z2:=aA HZ3.out (i:=2) rfl;have z3:=aA HZ3.out (i:=3) rfl;have y0:=aE (i:=0) HZ3.out;have y1:=aE (i:=1) HZ3.out;have y2:=aE (i:=2) HZ3.out;have y3:=aE (i:=3) HZ3.out;have hzz:=aD HZ3.out;have HV:=aB hv;clear hb3 hv HPC;go_wp2_with fail;rw[HRR.out];refine bodyPost_ret (v:=.agg #[.int .i64 2,.string (bs tx),.int .i64 v,.int .i64 L]) (by simp[results,Tryz.results253,go_sem,z0,z1,z2,z3]) rfl ?_
   have hfin:=lI HF3.out HS3.out (Nat.le_refl _) hrb (.int .i64 2) (.string (bs tx)) (.int .i64 v) (.int .i64 L);refine⟨hfin.1,Or.inl ⟨by show (dA 0 tx).isSome=true;rw[HV.out];rfl,?_,hfin.2⟩⟩
   show _=Ending.returned (.agg #[.int .i64 2,.string (bs tx),.int .i64 (pval ⟨48,tx,L⟩),.int .i64 L])
   have e:pval ⟨48,tx,L⟩=v:=by unfold pval;rw[if_pos rfl,HV.out];rfl
   rw[e]
  ·have HS3:Hid (SC sb src (n+sp) L w3):=(hb3.block sb (aD HS2.out)).trans HS2.out;have HF3:=aB (HF2.out.trans (Fr.below hb3));have HFL:=aB (qG sb src (n+sp) L w3 HS3.out);have HV:=aB hv;clear hb3 hv HPC;go_wp2_with fail;refine HFL.out.mono ?_;rintro e w4 ⟨rfl,hw⟩;obtain rfl:=hw.symm;go_wp2_with fail;rw[HRR.out];exact⟨rfl,HF3.out,Or.inr ⟨by show (dA 0 tx).isSome=false;rw[HV.out];rfl,rfl⟩⟩
theorem UM(sb:Nat)(src:ByteArray)(n L:Nat)(w:World)(h:SC sb src n L w)(hg:NTabs w)(hm:PTabs w)(hsbN:11≤sb)(hs:src.size≤100000)(hn:n<src.size):
 Calls Tryz.prog 183 #[.pointer (some ⟨sb,0,none⟩)] w (E9 sb src n L w (bU (src.data.toList.drop n))):=by
 have hsb:=(SC.cells h).1;have hrb:w.heap.size≠sb:=by omega
 have hb:(src[n].toNat:Int)≤255:=mR _;have h1:SC sb src n L (w.alloc (.cells #[.int .i64 0,.string ⟨#[]⟩,.int .i64 0,.int .i64 0] 206)):=by unfold SC;rw[Below.heap_alloc _ _ _ hsb];exact h
 obtain⟨h0,c0,c1,c2,f1,f2⟩:=h1.cells;have HZD:Hid (∀q,ZTok ((w.alloc (.cells #[.int .i64 0,.string ⟨#[]⟩,.int .i64 0,.int .i64 0] 206)).drewN q) w.heap.size):=fun _=>aR _ _ rfl _
 have hF0:Fr sb w (w.alloc (.cells #[.int .i64 0,.string ⟨#[]⟩,.int .i64 0,.int .i64 0] 206)):=(Fr.refl _ _).alloc _;have HF0:=aB hF0;have HG:Hid (∀q,NTabs ((w.alloc (.cells #[.int .i64 0,.string ⟨#[]⟩,.int .i64 0,.int .i64 0] 206)).drewN q)):=fun q=>hg.fr (hF0.drewN q) hsbN
 have HMT:Hid (∀q,PTabs ((w.alloc (.cells #[.int .i64 0,.string ⟨#[]⟩,.int .i64 0,.int .i64 0] 206)).drewN q)):=fun q=>hm.fr (hF0.drewN q) hsbN
 have H1:=aB h1;obtain⟨rr,hrr⟩:∃rr,rr=bU (src.data.toList.drop n):=⟨_,rfl⟩;rw[←hrr];have hrr2:rr=if dW src[n] || eV src[n] then gB (src.data.toList.drop n) (eV src[n]) else if src[n].toNat=34 then mN (src.data.toList.drop (n+1)) else gA (src.data.toList.drop n):=by rw[hrr,jW src n hn];rfl
 have HRR:=aB hrr2;have HPL:=aB (wD src[n]);have HPD:=aB (sG src[n]);clear h h1 hg hm hrr hrr2 hF0;cases hl:eV src[n]
 ·cases hd:dW src[n]
  ·by_cases h34:src[n].toNat=34
   ·have e:rr=mN (src.data.toList.drop (n+1)):=by rw[HRR.out,hl,hd];simp[h34]
    have HX:=aB (fun q=>UL sb src n L ((w.alloc (.cells #[.int .i64 0,.string ⟨#[]⟩,.int .i64 0,.int .i64 0] 206)).drewN q) H1.out (by omega) hn)
    rw[←e] at HX;rw[hl] at HPL;rw[hd] at HPD;have h34':((src[n].toNat:Int)==34)=true:=by simp;omega
    clear hl hd e HRR h34;go_enter Tryz.func183,Tryz.ntmps183;go_wp2_with fail;go_quiet (fail)
    go_wp2_with fail;refine(HPL.out _).mono ?_;rintro e w1 ⟨rfl,hw⟩;obtain rfl:=hw.symm;go_wp2_with fail;refine(HPD.out _).mono ?_;rintro e w1 ⟨rfl,hw⟩;obtain rfl:=hw.symm;go_wp2_with fail;refine(HX.out _).mono ?_;rintro e w2 ⟨hf2,⟨hok,rfl,hs2⟩|⟨hok,rfl⟩⟩
    ·have HF2:=aB ((HF0.out.drewN _).trans hf2);have HS2:=aB hs2;have HZ2:=aB (hf2.keepS (HZD.out _) hrb);have HOK:=aB hok;have z0:=aA HZ2.out (i:=0) rfl;have z1:=aA HZ2.out (i:=1) rfl;have z2:=aA HZ2.out (i:=2) rfl;have z3:=aA HZ2.out (i:=3) rfl;have y0:=aE (i:=0) HZ2.out;have y1:=aE (i:=1) HZ2.out;have y2:=aE (i:=2) HZ2.out;have y3:=aE (i:=3) HZ2.out;have hzz:=aD HZ2.out;clear hf2 hs2 hok;simp only[nE];go_wp2_with fail;refine bodyPost_ret (v:=.agg #[.int .i64 (psort rr.sort),.string (bs rr.text),.int .i64 (pval ⟨rr.sort,rr.text,L⟩),.int .i64 L]) (by clear HG HMT HZD HF0 HF2 HS2 HZ2 HOK;generalize psort rr.sort=pa;generalize pval ⟨rr.sort,rr.text,L⟩=pb;simp[results,Tryz.results183,go_sem,z0,z1,z2,z3]) rfl ?_
     have hfin:=lI HF2.out HS2.out (Nat.le_refl _) hrb (.int .i64 (psort rr.sort)) (.string (bs rr.text)) (.int .i64 (pval ⟨rr.sort,rr.text,L⟩)) (.int .i64 L);exact⟨hfin.1,Or.inl ⟨HOK.out,rfl,hfin.2⟩⟩
    ·have HF2:=aB ((HF0.out.drewN _).trans hf2);have HOK:=aB hok;clear hf2 hok;go_wp2_with fail;exact⟨rfl,HF2.out,Or.inr ⟨HOK.out,rfl⟩⟩
   ·have e:gA (src.data.toList.drop n)=rr:=by rw[HRR.out,hl,hd];simp[h34]
    have HX:=aB (fun q=>UP sb src n L ((w.alloc (.cells #[.int .i64 0,.string ⟨#[]⟩,.int .i64 0,.int .i64 0] 206)).drewN q) H1.out (HMT.out q) (by omega) hn rr e)
    rw[hl] at HPL;rw[hd] at HPD;have h34':((src[n].toNat:Int)==34)=false:=by simp;omega
    clear hl hd e HRR h34;go_enter Tryz.func183,Tryz.ntmps183;go_wp2_with fail;go_quiet (fail)
    go_wp2_with fail;refine(HPL.out _).mono ?_;rintro e w1 ⟨rfl,hw⟩;obtain rfl:=hw.symm;go_wp2_with fail;refine(HPD.out _).mono ?_;rintro e w1 ⟨rfl,hw⟩;obtain rfl:=hw.symm;go_wp2_with fail;refine(HX.out _).mono ?_;rintro e w2 ⟨hf2,⟨hok,rfl,hs2⟩|⟨hok,rfl⟩⟩
    ·have HF2:=aB ((HF0.out.drewN _).trans hf2);have HS2:=aB hs2;have HZ2:=aB (hf2.keepS (HZD.out _) hrb);have HOK:=aB hok;have z0:=aA HZ2.out (i:=0) rfl;have z1:=aA HZ2.out (i:=1) rfl;have z2:=aA HZ2.out (i:=2) rfl;have z3:=aA HZ2.out (i:=3) rfl;have y0:=aE (i:=0) HZ2.out;have y1:=aE (i:=1) HZ2.out;have y2:=aE (i:=2) HZ2.out;have y3:=aE (i:=3) HZ2.out;have hzz:=aD HZ2.out;clear hf2 hs2 hok;simp only[nE];go_wp2_with fail;refine bodyPost_ret (v:=.agg #[.int .i64 (psort rr.sort),.string (bs rr.text),.int .i64 (pval ⟨rr.sort,rr.text,L⟩),.int .i64 L]) (by clear HG HMT HZD HF0 HF2 HS2 HZ2 HOK;generalize psort rr.sort=pa;generalize pval ⟨rr.sort,rr.text,L⟩=pb;simp[results,Tryz.results183,go_sem,z0,z1,z2,z3]) rfl ?_
     have hfin:=lI HF2.out HS2.out (Nat.le_refl _) hrb (.int .i64 (psort rr.sort)) (.string (bs rr.text)) (.int .i64 (pval ⟨rr.sort,rr.text,L⟩)) (.int .i64 L);exact⟨hfin.1,Or.inl ⟨HOK.out,rfl,hfin.2⟩⟩
    ·have HF2:=aB ((HF0.out.drewN _).trans hf2);have HOK:=aB hok;clear hf2 hok;go_wp2_with fail;exact⟨rfl,HF2.out,Or.inr ⟨HOK.out,rfl⟩⟩
  ·have e:rr=gB (src.data.toList.drop n) false:=by rw[HRR.out,hl,hd];rfl
   have HX:=aB (fun q=>KM sb src n L ((w.alloc (.cells #[.int .i64 0,.string ⟨#[]⟩,.int .i64 0,.int .i64 0] 206)).drewN q) H1.out (HG.out q) hsbN hs hn hd)
   rw[←e] at HX;rw[hl] at HPL;rw[hd] at HPD;clear hl hd e HRR;go_enter Tryz.func183,Tryz.ntmps183;go_wp2_with fail;go_quiet (fail)
   go_wp2_with fail;refine(HPL.out _).mono ?_;rintro e w1 ⟨rfl,hw⟩;obtain rfl:=hw.symm;go_wp2_with fail;refine(HPD.out _).mono ?_;rintro e w1 ⟨rfl,hw⟩;obtain rfl:=hw.symm;go_wp2_with fail;refine(HX.out _).mono ?_;rintro e w2 ⟨hf2,⟨hok,rfl,hs2⟩|⟨hok,rfl⟩⟩
   ·have HF2:=aB ((HF0.out.drewN _).trans hf2);have HS2:=aB hs2;have HZ2:=aB (hf2.keepS (HZD.out _) hrb);have HOK:=aB hok;have z0:=aA HZ2.out (i:=0) rfl;have z1:=aA HZ2.out (i:=1) rfl;have z2:=aA HZ2.out (i:=2) rfl;have z3:=aA HZ2.out (i:=3) rfl;have y0:=aE (i:=0) HZ2.out;have y1:=aE (i:=1) HZ2.out;have y2:=aE (i:=2) HZ2.out;have y3:=aE (i:=3) HZ2.out;have hzz:=aD HZ2.out;clear hf2 hs2 hok;simp only[nE];go_wp2_with fail;refine bodyPost_ret (v:=.agg #[.int .i64 (psort rr.sort),.string (bs rr.text),.int .i64 (pval ⟨rr.sort,rr.text,L⟩),.int .i64 L]) (by clear HG HMT HZD HF0 HF2 HS2 HZ2 HOK;generalize psort rr.sort=pa;generalize pval ⟨rr.sort,rr.text,L⟩=pb;simp[results,Tryz.results183,go_sem,z0,z1,z2,z3]) rfl ?_
    have hfin:=lI HF2.out HS2.out (Nat.le_refl _) hrb (.int .i64 (psort rr.sort)) (.string (bs rr.text)) (.int .i64 (pval ⟨rr.sort,rr.text,L⟩)) (.int .i64 L);exact⟨hfin.1,Or.inl ⟨HOK.out,rfl,hfin.2⟩⟩
   ·have HF2:=aB ((HF0.out.drewN _).trans hf2);have HOK:=aB hok;clear hf2 hok;go_wp2_with fail;exact⟨rfl,HF2.out,Or.inr ⟨HOK.out,rfl⟩⟩
 ·have e:rr=gB (src.data.toList.drop n) true:=by rw[HRR.out,hl,Bool.or_true];rfl
  have HX:=aB (fun q=>UO sb src n L ((w.alloc (.cells #[.int .i64 0,.string ⟨#[]⟩,.int .i64 0,.int .i64 0] 206)).drewN q) H1.out (by omega) (by omega))
  rw[←e] at HX;rw[hl] at HPL;clear hl e HRR HPD;go_enter Tryz.func183,Tryz.ntmps183;go_wp2_with fail;go_quiet (fail)
  go_wp2_with fail;refine(HPL.out _).mono ?_;rintro e w1 ⟨rfl,hw⟩;obtain rfl:=hw.symm;go_wp2_with fail;refine(HX.out _).mono ?_;rintro e w2 ⟨hf2,⟨hok,rfl,hs2⟩|⟨hok,rfl⟩⟩
  ·have HF2:=aB ((HF0.out.drewN _).trans hf2);have HS2:=aB hs2;have HZ2:=aB (hf2.keepS (HZD.out _) hrb);have HOK:=aB hok;have z0:=aA HZ2.out (i:=0) rfl;have z1:=aA HZ2.out (i:=1) rfl;have z2:=aA HZ2.out (i:=2) rfl;have z3:=aA HZ2.out (i:=3) rfl;have y0:=aE (i:=0) HZ2.out;have y1:=aE (i:=1) HZ2.out;have y2:=aE (i:=2) HZ2.out;have y3:=aE (i:=3) HZ2.out;have hzz:=aD HZ2.out;clear hf2 hs2 hok;simp only[nE];go_wp2_with fail;refine bodyPost_ret (v:=.agg #[.int .i64 (psort rr.sort),.string (bs rr.text),.int .i64 (pval ⟨rr.sort,rr.text,L⟩),.int .i64 L]) (by clear HG HMT HZD HF0 HF2 HS2 HZ2 HOK;generalize psort rr.sort=pa;generalize pval ⟨rr.sort,rr.text,L⟩=pb;simp[results,Tryz.results183,go_sem,z0,z1,z2,z3]) rfl ?_
   have hfin:=lI HF2.out HS2.out (Nat.le_refl _) hrb (.int .i64 (psort rr.sort)) (.string (bs rr.text)) (.int .i64 (pval ⟨rr.sort,rr.text,L⟩)) (.int .i64 L);exact⟨hfin.1,Or.inl ⟨HOK.out,rfl,hfin.2⟩⟩
  ·have HF2:=aB ((HF0.out.drewN _).trans hf2);have HOK:=aB hok;clear hf2 hok;go_wp2_with fail;exact⟨rfl,HF2.out,Or.inr ⟨HOK.out,rfl⟩⟩
theorem C3:(Tryz.prog.info? 206).map (fun i=>(i.zero,i.size,i.bytes))=some (some (.agg #[.int .i64 0,.string (bs []),.int .i64 0,.int .i64 0]),4,40):=by kernel_rfl
theorem EZ(w:World)(a b c d:Value):∀j u,([a,b,c,d]:List Value)[j]?=some u→(w.alloc (.cells #[a,b,c,d] 206)).cell? ((⟨w.heap.size,0,none⟩:Addr).add j)=some u:=by
 intro j u hj;match j,hj with
 |0,hj=>simp at hj;subst hj;simp[Addr.add,go_sem]
 |1,hj=>simp at hj;subst hj;simp[Addr.add,go_sem]
 |2,hj=>simp at hj;subst hj;simp[Addr.add,go_sem]
 |3,hj=>simp at hj;subst hj;simp[Addr.add,go_sem]
 |j+4,hj=>simp at hj
theorem LX(l m n:Int)(b:ByteArray):∀u∈([.int .i64 l,.string b,.int .i64 m,.int .i64 n]:List Value),u.oneCell'=true:=by
 intro u hu;simp at hu;rcases hu with rfl|rfl|rfl|rfl<;>rfl
theorem UZ{w:World}{b:Nat}{e:TypeId}{size:Nat}{v:Value}{n:Nat}{xs:List Value}(h:w.ownsRow b e size v n xs):∃x c,v=.slice x n c:=by
 rcases h.2 with ⟨r1,r2⟩|⟨g,cap,cur,r1,_⟩
 ·exact⟨none,0,by rw[r1,r2]⟩
 ·exact⟨_,cap,r1⟩
theorem sN{l:List UInt8}(h:∀c∈l,c≠10):l.count 10=0:=List.count_eq_zero.2 fun hm=>h 10 hm rfl
theorem PD(l:List UInt8)(h:(bU l).ok=true):(l.take (bU l).size).count 10=0:=by
 cases l with
 |nil=>simp[bU] at h
 |cons c r=>
  rw[bU] at h ⊢
  split
  ·rename_i hd;rw[qU];refine sN fun x hx=>?_
   have:=qF _ _ x hx;intro e;subst e;revert this
   cases eV c<;>decide
  ·rename_i hd;rw[if_neg hd] at h;split
   ·rename_i h34;rw[if_pos h34] at h;have h':(decide (r[bI eU r]?=some 34) && decide (bI eU r≤100))=true:=h;rw[Bool.and_eq_true,decide_eq_true_eq] at h'
    have hlt:bI eU r<r.length:=by
     by_cases hx:bI eU r<r.length
     ·exact hx
     ·rw[List.getElem?_eq_none (by omega)] at h';exact absurd h'.1 (by simp)
    show ((c::r).take (bI eU r+1+1)).count 10=0
    rw[List.take_succ_cons,List.take_add_one,h'.1];refine sN fun x hx=>?_
    rcases List.mem_cons.1 hx with rfl|hx
    ·intro e;rw[e] at h34;exact absurd h34 (by decide)
    rcases List.mem_append.1 hx with hx|hx
    ·have:=qF _ _ x hx;intro e;subst e;exact absurd this (by decide)
    ·intro e;rw[e] at hx;exact absurd hx (by decide)
   ·rename_i h34;rw[if_neg h34] at h;unfold gA at h ⊢
    cases ho:cI.find? (fun o=>cJ (c::r) o) with
    |none=>rw[ho] at h;simp at h
    |some o=>
     have h1:=List.find?_some ho;have h2:=List.mem_of_find?_eq_some ho
     have h3:(c::r).take o.length=o:=by
      have h4:=h1;unfold cJ at h4;rw[lE _ _ (kD h1)] at h4;simpa using h4
     show ((c::r).take o.length).count 10=0
     rw[h3];have:∀o∈cI,o.count 10=0:=by decide
     exact this o h2
def ZQ(x:Except Nat (List aV))(w:World)(e:Ending)(w':World):Prop:=
 Below w.heap.size w w'∧
  match x with
  |.error n=>e=cW 3 n
  |.ok ts=>∃v,e=.returned v∧w'.ownsRow (w.heap.size+1) 206 4 v ts.length (ptoks ts)
def F2(src:ByteArray)(w:World)(TS:Except Nat (List aV))(gk:Nat)(v:Value)(wr:World):Prop:=
 ∃(k f:Nat) (ts:List aV),k≤src.size∧src.size+1≤k+f∧src.size≤k+gk∧ts.length≤k∧SC w.heap.size src k (aZ (src.data.toList.take k)) wr∧Fr w.heap.size w wr∧wr.ownsRow (w.heap.size+1) 206 4 v ts.length (ptoks ts)∧TS=gV ts (eD f (src.data.toList.take k) (src.data.toList.drop k))
theorem Fr.to_below{w w':World}(h:Fr w.heap.size w w'):Below w.heap.size w w':=⟨h.os,h.tape,h.output,h.size,fun k hk=>h.block k hk (by omega)⟩
theorem ZP(src:ByteArray)(w:World)(hg:NTabs w)(hm:PTabs w)(hs:src.size≤2000):
 Calls Tryz.prog 132 #[.string src] w (ZQ (fY src.data.toList) w):=by
 obtain⟨i0,hi,hz0,hz1,hz2⟩:=info_parts C3;have hbig:=hg.big;have h0:SC w.heap.size src 0 (aZ (src.data.toList.take 0)) (w.alloc (.cells #[.string src,.int .i64 0,.int .i64 1] 290)):=aR _ _ rfl _;have HSK:=aB (LB w.heap.size src 0 (w.alloc (.cells #[.string src,.int .i64 0,.int .i64 1] 290)) h0 (by omega) (Nat.zero_le _))
 simp only[List.drop_zero,Nat.zero_add] at HSK;obtain⟨b0,hb0⟩:∃b0,b0=Hs.blankL src.size src.data.toList:=⟨_,rfl⟩;have hb0l:b0≤src.size:=by have:=tV src.size src.data.toList;rw[hb0];simpa using this
 rw[←hb0] at HSK;obtain⟨TS,hTS⟩:∃TS,TS=fY src.data.toList:=⟨_,rfl⟩
 have HTS:Hid (TS=eD (src.size+1) (src.data.toList.take b0) (src.data.toList.drop b0)):=by
  show _=_
  rw[hTS];unfold fY;rw[show src.data.toList.length=src.size by simp,←hb0]
 rw[←hTS];have HF0:Hid (Fr w.heap.size w (w.alloc (.cells #[.string src,.int .i64 0,.int .i64 1] 290))):=(Fr.refl _ _).alloc _;have HG:=aB hg;have HM:=aB hm;clear h0 hg hm hb0 hTS;go_enter Tryz.func132,Tryz.ntmps132;go_wp2_with fail;refine HSK.out.mono ?_;rintro e w1 ⟨rfl,hs1,hf1⟩;have HI:Hid (F2 src w TS src.size (.slice none 0 0) w1):=⟨b0,src.size+1,[],hb0l,by omega,by omega,by simp,hs1,HF0.out.trans hf1,World.ownsRow_nil _ _ _ _,by rw[HTS.out,AL]⟩
 clear hs1 hf1 HSK HTS HF0;go_wp2_with fail;go_loopg [4] src.size (fun gk v wr=>F2 src w TS gk v wr)
 case atStart=>exact HI.out
 case round=>
  obtain⟨k,f,ts,hk,hf,hgk,htl,hsc,hfr,hown,hTS⟩:=hrel
  have hL:aZ (src.data.toList.take k)≤k+1:=by
   have:=nT (src.data.toList.take k);have:=List.length_take_le k src.data.toList;omega
  obtain⟨h0,c0,c1,c2,f1,f2⟩:=hsc.cells;have hwz:=hfr.size;have HSC:=aB hsc;have HFR:=aB hfr;have HTS:=aB hTS;obtain⟨x,c,rfl⟩:=UZ hown;have hge:∀k,(Value.slice x ts.length c).ownBlock=some k→w.heap.size+1≤k:=bX hown;clear HI hsc hfr hTS;by_cases hlt:k<src.size
  ·obtain⟨f,rfl⟩:∃f',f=f'+1:=⟨f-1,by omega⟩
   obtain⟨j,rfl⟩:∃j,gk=j+1:=⟨gk-1,by omega⟩
   have hlt':decide ((k:Int)<(src.size:Int))=true:=decide_eq_true (by omega)
   have hl:(src.data.toList.drop k).length=src.size-k:=by simp
   have HTK:=aB (UM w.heap.size src k (aZ (src.data.toList.take k)) wr HSC.out (HG.out.fr HFR.out hbig) (HM.out.fr HFR.out hbig) hbig (by omega) hlt)
   cases hok:(bU (src.data.toList.drop k)).ok
   ·have HF:Hid (TS=.error (aZ (src.data.toList.take k))):=by
     show _=_
     rw[HTS.out,lH _ _ _ (by omega) hok];rfl
    have HOK:=aB hok;clear HTS hl hok;generalize aZ (src.data.toList.take k)=L at*;go_wp2_with fail;refine HTK.out.mono ?_;rintro e w2 ⟨hf2,⟨hk2,_,_⟩|⟨hk2,rfl⟩⟩
    ·rw[HOK.out] at hk2;cases hk2
    have HF2:=aB (HFR.out.trans hf2);clear hf2 hk2 HTK;go_wp2_with fail;rw[HF.out];exact⟨rfl,HF2.out.to_below,rfl⟩
   ·have hsz:=sS _ hok;rw[hl] at hsz;have hnl:=PD _ hok;obtain⟨m,hm⟩:∃m,m=k+(bU (src.data.toList.drop k)).size+Hs.blankL src.size (src.data.toList.drop (k+(bU (src.data.toList.drop k)).size)):=⟨_,rfl⟩
    have hml:m≤src.size:=by
     have:=tV src.size (src.data.toList.drop (k+(bU (src.data.toList.drop k)).size));rw[List.length_drop,show src.data.toList.length=src.size by simp] at this
     omega
    have HT:=ZA src k f hlt hok m hm
    have HF:Hid (TS=gV (ts++[{ sort:=(bU (src.data.toList.drop k)).sort,text:=(bU (src.data.toList.drop k)).text,line:=aZ (src.data.toList.take k) }]) (eD f (src.data.toList.take m) (src.data.toList.drop m))):=by
     show _=_
     rw[HTS.out,HT,xV]
    have hln:aZ (src.data.toList.take (k+(bU (src.data.toList.drop k)).size))=aZ (src.data.toList.take k):=by
     rw[List.take_add,iR,hnl];rfl
    have HSK:=aB (fun W (hW:SC w.heap.size src (k+(bU (src.data.toList.drop k)).size) (aZ (src.data.toList.take (k+(bU (src.data.toList.drop k)).size))) W)=>LB w.heap.size src _ W hW (by omega) (by omega))
    rw[hln] at HSK;simp only[←hm] at HSK;have HOK:=aB hok;have hkm:k<m:=by omega
    clear HTS hl hok HT hnl hln hm;generalize bU (src.data.toList.drop k)=r at*;obtain⟨pa,hpa⟩:∃pa,pa=psort r.sort:=⟨_,rfl⟩;obtain⟨pb,hpb⟩:∃pb,pb=pval ⟨r.sort,r.text,aZ (src.data.toList.take k)⟩:=⟨_,rfl⟩;have HPT:Hid (nE ⟨r.sort,r.text,aZ (src.data.toList.take k)⟩=.agg #[.int .i64 pa,.string (bs r.text),.int .i64 pb,.int .i64 (aZ (src.data.toList.take k))]):=by show _=_;rw[hpa,hpb];rfl
    have HPK:Hid (ptok ⟨r.sort,r.text,aZ (src.data.toList.take k)⟩=[.int .i64 pa,.string (bs r.text),.int .i64 pb,.int .i64 (aZ (src.data.toList.take k))]):=by show _=_;rw[hpa,hpb];rfl
    clear hpa hpb;generalize aZ (src.data.toList.take k)=L at*;have HGE:=aB hge;have HOW:=aB hown;clear hown hge;go_wp2_with fail;refine HTK.out.mono ?_;rintro e w2 ⟨hf2,⟨hk2,rfl,hs2⟩|⟨hk2,rfl⟩⟩
    rotate_left
    ·rw[HOK.out] at hk2;cases hk2
    rw[HPT.out];have hown2:=aY (w1:=w2) HOW.out fun i hi=>hf2.block i (cG HOW.out i hi) (by have:=HGE.out i hi;omega)
    have HF2:=aB (HFR.out.trans hf2);have HS2:=aB hs2;have hwz2:=HF2.out.size;have hsb2:=aD hs2;clear hf2 hk2 hs2 HTK HPT;go_wp2_with (at_builtin;refine wpList_append_lies _ (by rfl) _ _ 142 (by rfl) (w.heap.size+1) 206 i0 _ 4 40 Tryz.underlying142 hi hz0 hz1 hz2 rfl (by decide) _ _ _ (by rfl) (hown2.alloc _) ⟨w2.heap.size,0,none⟩ 1 1 [.int .i64 pa,.string (bs r.text),.int .i64 pb,.int .i64 L] (by rfl) (by rfl) (EZ _ _ _ _ _) (LX _ _ _ _) (by decide) (by unfold maxLen;omega) (by omega) (by simp;omega) (w2.heap.size+1) (by simp) ?_)
    intro g7 cap7 w7 hown7 hgrow7 hat7 hg7;have HF7:=aB ((HF2.out.alloc _).grown hgrow7 (fun k hk=>by have:=HGE.out k hk;omega))
    have HS7:Hid (SC w.heap.size src (k+r.size) L w7):=by
     show _=_
     rw[hgrow7.block _ (by simp;omega) (fun e=>by have:=HGE.out _ e.symm;omega),Below.heap_alloc _ _ _ hsb2]
     exact HS2.out
    have HO7:Hid (w7.ownsRow (w.heap.size+1) 206 4 (.slice (some ⟨g7,0,none⟩) (ts.length+1) cap7) (ts++[(⟨r.sort,r.text,L⟩:aV)]).length (ptoks (ts++[⟨r.sort,r.text,L⟩]))):=by
     rw[AJ,HPK.out,List.length_append];exact hown7
    have HK7:=aB (HSK.out w7 HS7.out);clear hown2 hown7 hgrow7 hat7 HS2 HF2 HSK;go_wp2_with fail;refine HK7.out.mono ?_;rintro e w8 ⟨rfl,hs8,hf8⟩
    have HI8:Hid (F2 src w TS j (.slice (some ⟨g7,0,none⟩) (ts.length+1) cap7) w8):=by
     refine⟨m,f,ts++[⟨r.sort,r.text,L⟩],hml,by omega,by omega,by simp;omega,hs8,HF7.out.trans hf8,?_,HF.out⟩
     exact aY HO7.out fun i hi=>hf8.block i (cG HO7.out i hi) (by have:=bX HO7.out i hi;omega)
    clear hs8 hf8 HK7;go_wp2_with fail;go_roundg j
    case measure=>omega
    case rel=>exact HI8.out
  ·obtain⟨f,rfl⟩:∃f',f=f'+1:=⟨f-1,by omega⟩
   have HF:Hid (TS=.ok (ts++[{ sort:=101,text:=[],line:=aZ (src.data.toList.take k) }])):=by
    show _=_
    rw[HTS.out,lG _ _ _ (by simp;omega)];rfl
   have hlt':decide ((k:Int)<(src.size:Int))=false:=decide_eq_false (by omega)
   clear HTS;generalize aZ (src.data.toList.take k)=L at*;go_wp2_with (at_builtin;refine wpList_append_lies _ (by rfl) _ _ 142 (by rfl) (w.heap.size+1) 206 i0 _ 4 40 Tryz.underlying142 hi hz0 hz1 hz2 rfl (by decide) _ _ _ (by rfl) (hown.alloc _) ⟨wr.heap.size,0,none⟩ 1 1 [.int .i64 4,.string ⟨#[]⟩,.int .i64 0,.int .i64 L] (by rfl) (by rfl) (EZ _ _ _ _ _) (LX _ _ _ _) (by decide) (by unfold maxLen;omega) (by omega) (by simp;omega) (wr.heap.size+1) (by simp) ?_)
   intro g7 cap7 w7 hown7 hgrow7 hat7 hg7;have HF7:=aB ((HFR.out.alloc _).grown hgrow7 (fun k hk=>by have:=hge k hk;omega))
   have HO7:Hid (w7.ownsRow (w.heap.size+1) 206 4 (.slice (some ⟨g7,0,none⟩) (ts.length+1) cap7) (ts++[(⟨101,[],L⟩:aV)]).length (ptoks (ts++[⟨101,[],L⟩]))):=by
    rw[AJ,List.length_append];exact hown7
   clear hown hown7 hgrow7 hat7 hge;go_wp2_with fail;go_ret;rw[HF.out];exact⟨HF7.out.to_below,_,rfl,HO7.out⟩
end Go.Proofs.YtblbkfdhjfppkaaGreatDoor
