/- Contracts of the program: names: calls, declarations. -/
import Derived.Test.YtblbkfdhjfppkaaGreatDoorB05
import Derived.Test.YtblbkfdhjfppkaaGreatDoorP11
import Derived.Test.YtblbkfdhjfppkaaGreatDoorP03
set_option maxRecDepth 100000
set_option maxHeartbeats 4000000
namespace Go.Proofs.YtblbkfdhjfppkaaGreatDoor
open Hs
open Tryz(prog)
open Go.RowKit
theorem VY(cb lo:Nat)(fs:List aC)(fv:Value)(hfl:fs.length<=90000)(hfk:∀f∈fs,f.kids.length<=90000)(d:Nat)(HN:mC cb lo fs fv d)(c:aC)(v:Value)(seen:List (List UInt8))(w:World)(h:CK cb lo fs fv w seen)(hk:PKid (Btw lo cb) w v c.kids)(hd:∀k∈c.kids,eZ d k)(hwt:seen.length+(c.kids.map (bT d)).sum<=90000):
 Calls prog 167 #[.pointer (some ⟨cb,0,none⟩),.iface 341 (.agg #[.int .i64 c.line,.string (bs c.text),v])] w (cY cb lo fs fv w (foldL fs d c.kids (eF fs false ⟨seen,0,0⟩ c))):=by
 obtain⟨vx,vc,rfl⟩:=hk.slice;have q0:=yX;have q1:=BF;have q2:=RV;have q3:=EQ;have q4:=BE;have q5:=ER;have q6:=JO;obtain⟨hl0,hk0⟩:=Loc.new h (.cells #[.int .i64 c.line,.string (bs c.text),.slice vx c.kids.length vc] 341);have HL0:=aB hl0;have HX:=aB (VA cb lo fs fv hfl hfk d HN c (.slice vx c.kids.length vc) seen (w.alloc (.cells #[.int .i64 c.line,.string (bs c.text),.slice vx c.kids.length vc] 341)) hk0 (hk.below hl0.fb.bel) hd hwt (by have:=uS hd;omega))
 clear h hl0 hk0;generalize foldL fs d c.kids (eF fs false ⟨seen,0,0⟩ c)=c at*;go_enter Tryz.func167,Tryz.ntmps167;go_wp2_with fail;refine HX.out.mono ?_;rintro e w1 ⟨hb,⟨s,hc,rfl,hck⟩|⟨hk,rfl⟩⟩
 ·have HB:=aB (HL0.out.fb.trans hb);have HK:=aB hck;subst hc;clear hb hck;go_wp2_with fail;go_end0;exact cY.done HB.out rfl HK.out
 ·have HB:=aB (HL0.out.fb.trans hb);have HK:=aB hk;clear hb hk;go_wp2_with fail;exact⟨rfl,cY.fault (c1:=c) HB.out HK.out (Stk.refl _)⟩
theorem TI(cb lo:Nat)(fs:List aC)(fv:Value)(d:Nat)(IH:jQ cb lo fs fv d)(seen:List (List UInt8))(w:World)(h:CK cb lo fs fv w seen)(l:Nat)(t a1:aC)(v1:Value)(h1:PN (Btw lo cb) w v1 a1)(hd1:eZ d a1)(hwt:seen.length+bT d a1<=90000):
 Calls prog 167 #[.pointer (some ⟨cb,0,none⟩),.iface 329 (.agg #[.int .i64 l,.int .i64 t.line,.string (bs t.text),v1])] w (cY cb lo fs fv w (({ aM fs false d a1 (Hs.declaresL ⟨seen,0,0⟩ t) with seen:=(aM fs false d a1 (Hs.declaresL ⟨seen,0,0⟩ t)).seen++[t.text] }:aZ))):=by
 obtain⟨T1,cs1,rfl⟩:=h1.form;have q0:=tD;obtain⟨hl0,hk0⟩:=Loc.new h (.cells #[.int .i64 l,.int .i64 t.line,.string (bs t.text),.iface T1 (.agg cs1)] 329);have HL0:=aB hl0;have HX:=aB (QJ cb lo fs fv d IH (w.alloc (.cells #[.int .i64 l,.int .i64 t.line,.string (bs t.text),.iface T1 (.agg cs1)] 329)) seen hk0 l t a1 (.iface T1 (.agg cs1)) (h1.below hl0.fb.bel) hd1 hwt);clear h hl0 hk0;generalize ({ aM fs false d a1 (Hs.declaresL ⟨seen,0,0⟩ t) with seen:=(aM fs false d a1 (Hs.declaresL ⟨seen,0,0⟩ t)).seen++[t.text] }:aZ)=c at*
 go_enter Tryz.func167,Tryz.ntmps167;go_wp2_with fail;refine HX.out.mono ?_;rintro e w1 ⟨hb,⟨s,hc,rfl,hck⟩|⟨hk,rfl⟩⟩
 ·have HB:=aB (HL0.out.fb.trans hb);have HK:=aB hck;subst hc;clear hb hck;go_wp2_with fail;go_end0;exact cY.done HB.out rfl HK.out
 ·have HB:=aB (HL0.out.fb.trans hb);have HK:=aB hk;clear hb hk;go_wp2_with fail;exact⟨rfl,cY.fault (c1:=c) HB.out HK.out (Stk.refl _)⟩
theorem TH(cb lo:Nat)(fs:List aC)(fv:Value)(seen:List (List UInt8))(w:World)(h:CK cb lo fs fv w seen)(l m:Nat):
 Calls prog 167 #[.pointer (some ⟨cb,0,none⟩),.iface 338 (.agg #[.int .i64 l,.iface 397 (.agg #[.int .i64 m,.int .i64 0])])] w (cY cb lo fs fv w ((⟨seen,0,0⟩:aZ))):=by
 have q0:=nB;have q1:=nV;have q2:=uD;have q3:=pD;have q4:=nU;obtain⟨hl0,hk0⟩:=Loc.new h (.cells #[.int .i64 l,.iface 397 (.agg #[.int .i64 m,.int .i64 0])] 338);have HL0:=aB hl0;have HX:=aB (IC cb lo fs fv seen (w.alloc (.cells #[.int .i64 l,.iface 397 (.agg #[.int .i64 m,.int .i64 0])] 338)) hk0 m 0);clear h hl0 hk0;generalize (⟨seen,0,0⟩:aZ)=c at*;go_enter Tryz.func167,Tryz.ntmps167;go_wp2_with fail;refine HX.out.mono ?_;rintro e w1 ⟨hb,⟨s,hc,rfl,hck⟩|⟨hk,rfl⟩⟩
 ·have HB:=aB (HL0.out.fb.trans hb);have HK:=aB hck;subst hc;clear hb hck;go_wp2_with fail;go_end0;exact cY.done HB.out rfl HK.out
 ·have HB:=aB (HL0.out.fb.trans hb);have HK:=aB hk;clear hb hk;go_wp2_with fail;exact⟨rfl,cY.fault (c1:=c) HB.out HK.out (Stk.refl _)⟩
theorem dX{fs:List aC}{d:Nat}{a:aC}{s:aZ}(hv:(a.op==[118,97,114])=false)(hb:(a.op==[98,108,111,99,107])=false):aM fs false (d+1) a s=foldL fs d a.kids (bZ fs false s a):=by
 rw[aM,if_neg (by rw[hv];simp)]
 simp only[hb];rfl
theorem look_plain{fs:List aC}{a:aC}{s:aZ}(h1:(a.op==[115,101,116])=false)(h2:(a.op==[110,97,109,101])=false)(h3:(a.op==[99,97,108,108])=false):bZ fs false s a=s:=by
 unfold bZ;rw[h1,h2,h3];rfl
theorem OQ{fs:List aC}{a:aC}{s:aZ}(h:(a.op==[115,101,116] || a.op==[110,97,109,101])=true):bZ fs false s a=AI s a.line a.text:=by
 unfold bZ;rw[h];rfl
theorem IE{fs:List aC}{a:aC}{s:aZ}(h:a.op=[99,97,108,108]):bZ fs false s a=eF fs false s a:=by
 unfold bZ;rw[h];rfl
theorem OF{x y:List UInt8}(h:bV x≠9)(hy:bV y=9):(x==y)=false:=by
 rw[beq_eq_false_iff_ne];intro e;rw[e] at h;exact h hy
theorem YG(cb lo:Nat)(fs:List aC)(fv:Value)(hfl:fs.length<=90000)(hfk:∀f∈fs,f.kids.length<=90000)(d:Nat)(IHs:∀e,e<=d->jQ cb lo fs fv e):jQ cb lo fs fv (d+1):=by
 intro v a seen w h hn hdp hwt;obtain⟨T,cs,ps,rfl,hsh,hps⟩:=hn.parts;have IH:=IHs d (l9 _);have HN:=rK cb lo fs fv d IH
 have HBK:rV cb lo fs fv d:=by
  cases d with
  |zero=>exact fun _ _ _ _ _ _ _ hd _=>hd.elim
  |succ e=>exact RA (rK cb lo fs fv e (IHs e (by omega)))
 rw[bT] at hwt;have hdk:∀k∈a.kids,eZ d k:=hdp;clear hn hdp;rcases hsh with ⟨rfl,k,rfl,hop,hk,hkids,rfl⟩|⟨rfl,rfl,hop,hkids,rfl⟩|⟨rfl,rfl,hop,hkids,rfl⟩|⟨rfl,sv,rfl,hop,rfl⟩|⟨rfl,sv,rfl,hop,rfl⟩|⟨rfl,rfl,hop,hkids,rfl⟩|⟨rfl,l,v1,v2,a1,a2,rfl,hop,hkids,rfl⟩|⟨rfl,o,v1,a1,rfl,ho,hop,hkids,rfl⟩|⟨rfl,l,v1,v2,a1,a2,rfl,hop,hkids,rfl⟩|⟨rfl,v1,t,a1,rfl,hop,hkids,rfl⟩|⟨rfl,sv,v1,l,a1,rfl,hop,hkids,rfl⟩|⟨rfl,v1,s1,a1,b1,rfl,hop,hb1,hkids,rfl⟩|⟨rfl,v1,s1,s2,a1,b1,b2,rfl,hop,hb1,hb2,hkids,rfl⟩|⟨rfl,v1,s1,a1,b1,rfl,hop,hb1,hkids,rfl⟩|⟨rfl,l,rfl,hop,hkids,rfl⟩|⟨rfl,v1,a1,rfl,hop,hkids,rfl⟩|⟨rfl,v1,a1,rfl,hop,hkids,rfl⟩|⟨rfl,sv,c,rfl,hop,hln,htx,hkids,hcop,rfl⟩
 ·have e:aM fs false (d+1) a ⟨seen,0,0⟩=⟨seen,0,0⟩:=by rw[dX (by rw[hop];decide) (by rw[hop];decide),look_plain (by rw[hop];decide) (by rw[hop];decide) (by rw[hop];decide),hkids];rfl
  rw[e];exact IC cb lo fs fv seen w h _ k
 ·have e:aM fs false (d+1) a ⟨seen,0,0⟩=⟨seen,0,0⟩:=by rw[dX (by rw[hop];decide) (by rw[hop];decide),look_plain (by rw[hop];decide) (by rw[hop];decide) (by rw[hop];decide),hkids];rfl
  rw[e];exact YL cb lo fs fv seen w h _ _
 ·have e:aM fs false (d+1) a ⟨seen,0,0⟩=⟨seen,0,0⟩:=by rw[dX (by rw[hop];decide) (by rw[hop];decide),look_plain (by rw[hop];decide) (by rw[hop];decide) (by rw[hop];decide),hkids];rfl
  rw[e];exact Q9 cb lo fs fv seen w h _ _
 ·rw[dX (by rw[hop];decide) (by rw[hop];decide),look_plain (by rw[hop];decide) (by rw[hop];decide) (by rw[hop];decide)]
  exact Q8 cb lo fs fv d HN seen w h _ sv a.kids (hps _ (o8.2 rfl)).many hdk (by omega)
 ·rw[dX (by rw[hop];decide) (by rw[hop];decide),IE hop]
  exact VY cb lo fs fv hfl hfk d HN a sv seen w h (hps _ (o8.2 rfl)).many hdk (by omega)
 ·have e:aM fs false (d+1) a ⟨seen,0,0⟩=AI ⟨seen,0,0⟩ a.line a.text:=by rw[dX (by rw[hop];decide) (by rw[hop];decide),OQ (by rw[hop];decide),hkids];rfl
  rw[e];exact OM cb lo fs fv seen w h _ _ (by omega)
 ·rw[dX (by rw[hop];decide) (by rw[hop];decide),look_plain (by rw[hop];decide) (by rw[hop];decide) (by rw[hop];decide),hkids]
  rw[hkids] at hwt hdk;simp only[s5,ah_,s6,ak_] at hwt;exact J1 cb lo fs fv d IH seen w h l v1 a1 (hps _ (by simp)).one' (hdk a1 (by simp)) v2 a2 (hps ⟨v2,[a2],true⟩ (by simp)).one' (hdk a2 (by simp)) (by omega)
 ·have hop':a.op=[45,120]\/a.op=[33,120]:=by rcases ho with rfl|rfl<;>simp[hop]
  have e:aM fs false (d+1) a ⟨seen,0,0⟩=aM fs false d a1 ⟨seen,0,0⟩:=by
   rcases hop' with hop|hop<;>(rw[dX (by rw[hop];decide) (by rw[hop];decide),look_plain (by rw[hop];decide) (by rw[hop];decide) (by rw[hop];decide),hkids];rfl)
  rw[e];rw[hkids] at hwt hdk;simp only[s5,ah_,s6,ak_] at hwt;exact I9 cb lo fs fv d IH seen w h _ _ v1 a1 (hps _ (by simp)).one' (hdk a1 (by simp)) (by omega)
 ·rw[dX (OF hop (by decide)) (OF hop (by decide)),look_plain (OF hop (by decide)) (OF hop (by decide)) (OF hop (by decide)),hkids]
  rw[hkids] at hwt hdk;simp only[s5,ah_,s6,ak_] at hwt;exact YN cb lo fs fv d IH seen w h l _ v1 a1 (hps _ (by simp)).one' (hdk a1 (by simp)) v2 a2 (hps ⟨v2,[a2],true⟩ (by simp)).one' (hdk a2 (by simp)) (by omega)
 ·have e:aM fs false (d+1) a ⟨seen,0,0⟩={ aM fs false d a1 (Hs.declaresL ⟨seen,0,0⟩ t) with seen:=(aM fs false d a1 (Hs.declaresL ⟨seen,0,0⟩ t)).seen++[t.text] }:=by
   rw[aM,if_pos (by rw[hop];rfl),hkids]
  rw[e];rw[hkids] at hwt hdk;simp only[s5,ah_,s6,ak_] at hwt;exact TI cb lo fs fv d IH seen w h _ t a1 v1 (hps _ (by simp)).one' (hdk a1 (by simp)) (by omega)
 ·rw[dX (by rw[hop];decide) (by rw[hop];decide),OQ (by rw[hop];decide),hkids]
  rw[hkids] at hwt hdk;simp only[af_,s5,ah_,aJ_,s6,ak_] at hwt
  have e:foldL fs d (l++[a1]) (AI ⟨seen,0,0⟩ a.line a.text)=aM fs false d a1 (foldL fs d l (AI ⟨seen,0,0⟩ a.line a.text)):=by
   show List.foldl _ _ (l++[a1])=_
   rw[List.foldl_append];rfl
  rw[e];exact YO cb lo fs fv d IH HN seen w h _ _ sv l (hps ⟨sv,l,false⟩ (by simp)).many (fun k hk=>hdk k (y9 _ hk)) v1 a1 (hps ⟨v1,[a1],true⟩ (by simp)).one' (hdk a1 (by simp)) (by omega)
 ·rw[dX (by rw[hop];decide) (by rw[hop];decide),look_plain (by rw[hop];decide) (by rw[hop];decide) (by rw[hop];decide),hkids]
  rw[hkids] at hwt hdk;simp only[s5,ah_,s6,ak_] at hwt;exact Y5 cb lo fs fv d IH HN HBK seen w h _ v1 a1 (hps ⟨v1,[a1],true⟩ (by simp)).one' (hdk a1 (by simp)) s1 b1 hb1 (hps ⟨s1,b1.kids,false⟩ (by simp)).many (hdk b1 (by simp)) (by omega)
 ·rw[dX (by rw[hop];decide) (by rw[hop];decide),look_plain (by rw[hop];decide) (by rw[hop];decide) (by rw[hop];decide),hkids]
  rw[hkids] at hwt hdk;simp only[s5,ah_,s6,ak_] at hwt;exact e7 cb lo fs fv d IH HBK seen w h _ v1 a1 (hps ⟨v1,[a1],true⟩ (by simp)).one' (hdk a1 (by simp)) s1 b1 hb1 (hps ⟨s1,b1.kids,false⟩ (by simp)).many (hdk b1 (by simp)) s2 b2 hb2 (hps ⟨s2,b2.kids,false⟩ (by simp)).many (hdk b2 (by simp)) (by omega)
 ·rw[dX (by rw[hop];decide) (by rw[hop];decide),look_plain (by rw[hop];decide) (by rw[hop];decide) (by rw[hop];decide),hkids]
  rw[hkids] at hwt hdk;simp only[s5,ah_,s6,ak_] at hwt;exact I8 cb lo fs fv d IH HBK seen w h _ v1 a1 (hps ⟨v1,[a1],true⟩ (by simp)).one' (hdk a1 (by simp)) s1 b1 hb1 (hps ⟨s1,b1.kids,false⟩ (by simp)).many (hdk b1 (by simp)) (by omega)
 ·have e:aM fs false (d+1) a ⟨seen,0,0⟩=⟨seen,0,0⟩:=by rw[dX (by rw[hop];decide) (by rw[hop];decide),look_plain (by rw[hop];decide) (by rw[hop];decide) (by rw[hop];decide),hkids];rfl
  rw[e];exact TH cb lo fs fv seen w h _ l
 ·rw[dX (by rw[hop];decide) (by rw[hop];decide),look_plain (by rw[hop];decide) (by rw[hop];decide) (by rw[hop];decide),hkids]
  rw[hkids] at hwt hdk;simp only[s5,ah_,s6,ak_] at hwt;exact YM cb lo fs fv d IH seen w h _ v1 a1 (hps _ (by simp)).one' (hdk a1 (by simp)) (by omega)
 ·rw[dX (by rw[hop];decide) (by rw[hop];decide),look_plain (by rw[hop];decide) (by rw[hop];decide) (by rw[hop];decide),hkids]
  rw[hkids] at hwt hdk;simp only[s5,ah_,s6,ak_] at hwt;exact J0 cb lo fs fv d IH seen w h _ v1 a1 (hps _ (by simp)).one' (hdk a1 (by simp)) (by omega)
 ·rw[dX (by rw[hop];decide) (by rw[hop];decide),look_plain (by rw[hop];decide) (by rw[hop];decide) (by rw[hop];decide),hkids]
  rw[hkids] at hwt hdk;simp only[s5,ah_,s6,ak_] at hwt;have hdc:=hdk c (by simp)
  cases d with
  |zero=>exact hdc.elim
  |succ e=>
   show Calls _ _ _ _ (cY cb lo fs fv w (aM fs false (e+1) c ⟨seen,0,0⟩))
   rw[bT] at hwt;rw[dX (by rw[hcop];decide) (by rw[hcop];decide),IE hcop]
   exact VY cb lo fs fv hfl hfk e (rK cb lo fs fv e (IHs e (by omega))) c sv seen w h (hps ⟨sv,c.kids,false⟩ (by simp)).many hdc (by omega)
theorem I6(cb lo:Nat)(fs:List aC)(fv:Value)(hfl:fs.length<=90000)(hfk:∀f∈fs,f.kids.length<=90000)(d:Nat):jQ cb lo fs fv d:=by
 induction d using Nat.strongRecOn with
 |_ d ih=>
  cases d with
  |zero=>exact fun _ _ _ _ _ _ hd _=>hd.elim
  |succ d=>exact YG cb lo fs fv hfl hfk d fun e he=>ih e (by omega)
theorem X2{ps:List aC}(k:Nat)(hk:k<ps.length):(C6 ps)[k*2]?=some (.int .i64 ps[k].line)/\(C6 ps)[k*2+1]?=some (.string (bs ps[k].text)):=by
 induction ps generalizing k with
 |nil=>simp at hk
 |cons a ps ih=>
  cases k with
  |zero=>exact⟨rfl,rfl⟩
  |succ k=>
   have:=ih k (by simpa using hk)
   have e:∀j,(C6 (a::ps))[(k+1)*2+j]?=(C6 ps)[k*2+j]?:=fun j=>by
    rw[C6,show (k+1)*2+j=k*2+j+1+1 by omega];rfl
   exact⟨(e 0).trans this.1,(e 1).trans this.2⟩
theorem PNm.get{F:Nat->Prop}{w:World}{v:Value}{ps:List aC}(h:PNm F w v ps):(v=.slice none 0 0/\ps=[])\/∃g cap,v=.slice (some ⟨g,0,none⟩) ps.length cap/\F g/\g<w.heap.size/\ps.length<=cap/\∀k (hk:k<ps.length),w.cell? ⟨g,k*2,none⟩=some (.int .i64 ps[k].line)/\w.cell? ⟨g,k*2+1,none⟩=some (.string (bs ps[k].text)):=by
 obtain⟨_,h|⟨g,cap,cur,h1,h2,h3,h4,h5⟩⟩:=h
 ·exact Or.inl h
 ·refine Or.inr ⟨g,cap,h1,h2,aD h3,h4,fun k hk=>?_⟩
  obtain⟨e1,e2⟩:=X2 k hk
  have e:∀j u,j<ps.length*2->(C6 ps)[j]?=some u->w.cell? ⟨g,j,none⟩=some u:=fun j u hj hu=>by
   refine aA h3 ?_;rw[<-h5,x6,if_pos hj] at hu;simpa using hu
  exact⟨e _ _ (by omega) e1,e _ _ (by omega) e2⟩
theorem DA{F:Nat->Prop}{w:World}:∀{us:List Value} {fs:List aC} (i:Nat),jW (zX F w) us fs->i<=fs.length->(jN us).take (i*4)=jN (us.take i)
 |[],[],i,_,h=>by simp[jN]
 |u::us,f::fs,0,_,_=>by simp[jN]
 |u::us,f::fs,i+1,⟨⟨pv,bv,ps,b,hv,_⟩,h⟩,hi=>by
  subst hv;have ih:=DA i h (by simpa using hi)
  rw[aw_,jN,jN,<-ih,List.take_append];have:(wY (Value.agg #[.int .i64 f.line,.string (bs f.text),pv,bv])).length=4:=rfl;rw[this,z8 (by rw[this];omega)]
  congr 2;omega
 |[],_::_,_,h,_=>h.elim
 |_::_,[],_,h,_=>h.elim
theorem jW.take{R:Value->aC->Prop}:∀{vs ks} (i:Nat),jW R vs ks->jW R (vs.take i) (ks.take i)
 |_,_,0,_=>by simp[jW]
 |[],[],_+1,_=>trivial
 |_::_,_::_,i+1,⟨h1,h2⟩=>⟨h1,jW.take i h2⟩
 |[],_::_,_,h=>h.elim
 |_::_,[],_,h=>h.elim
theorem FSl.take{F:Nat->Prop}{w:World}{g cap:Nat}{fs:List aC}(h:FSl F w (.slice (some ⟨g,0,none⟩) fs.length cap) fs)(i:Nat)(hi:i<=fs.length):FSl F w (.slice (some ⟨g,0,none⟩) i cap) (fs.take i):=by
 rcases h with ⟨h1,_⟩|⟨g',cap',cur,us,h1,h2,h3,h4,h5,h6⟩
 ·cases h1
 ·cases h1;have hl:(fs.take i).length=i:=by rw[an_];omega
  refine Or.inr ⟨g,cap,cur,us.take i,by rw[hl],h2,h3,by omega,?_,h6.take i⟩
  rw[hl,<-DA i h6 hi,<-h5,aS_];congr 1;omega
theorem CK.reset{cb lo:Nat}{fs:List aC}{fv sv:Value}{w:World}{seen:List (List UInt8)}(h:CK cb lo fs fv w seen)(hblk:w.heap[cb]?=some (.cells #[fv,sv] 220 (0,0))):
 FB cb w (w.setCell ⟨cb,1,none⟩ (.slice none 0 0))/\CK cb lo fs fv (w.setCell ⟨cb,1,none⟩ (.slice none 0 0)) []:=by
 have hlt:=aD hblk;have hb:Below cb w (w.setCell ⟨cb,1,none⟩ (.slice none 0 0)):=(m8 _ _).setCell (by simp) _
 have hn:(w.setCell ⟨cb,1,none⟩ (.slice none 0 0)).heap[cb]?=some (.cells #[fv,.slice none 0 0] 220 (0,0)):=by rw[aS hblk];rfl
 refine⟨⟨hb,fun k hk hc hr=>m7 _ _ _ _ (by show k≠cb;exact hc),fun k hk=>?_⟩,⟨.slice none 0 0,hn,World.ownsRow_nil _ _ _ _⟩,h.fun_.keep fun k hk=>hb.block k hk.2⟩
 rw[mM hn] at hk;cases hk
theorem SZ(pre:List aC)(x:List UInt8):(kV pre x).isSome=(fQ x || !(dM pre x).isNone):=by
 unfold kV fQ;cases x==[108,101,110]<;>cases x==[114,101,97,100]<;>cases dM pre x<;>rfl
theorem CJ(fs:List aC)(d:Nat)(s:aZ)(k:aC):Stk s (eK fs d s k):=by
 unfold eK;split
 ·exact(Stk.declares s k).trans (Stk.seen _ _)
 ·exact Stk.walk fs false d k s
theorem H6(fs:List aC)(d:Nat)(s:aZ)(k:aC)(h:k.op=[112,97,114,97,109]):eK fs d s k={ Hs.declaresL s k with seen:=(Hs.declaresL s k).seen++[k.text] }:=by
 unfold eK;rw[h];rfl
theorem H7(fs:List aC)(d:Nat)(s:aZ)(k:aC)(h:k.op=[98,108,111,99,107]):eK fs d s k=aM fs false d k s:=by
 unfold eK;rw[h];rfl
def X9(cb lo:Nat)(fs:List aC)(fv:Value)(d:Nat)(w:World)(b0:Nat)(o:Obj)(ps:List aC)(b:aC)(c:aZ)(gk:Nat)(i:Value)(wr:World):Prop:=
 ∃k s,k+gk=ps.length/\i=.int .i64 (k:Nat)/\Loc cb w b0 o wr/\CK cb lo fs fv wr s/\c=(ps.drop k++[b]).foldl (eK fs d) ⟨s,0,0⟩/\s.length=k
theorem UR(fs:List aC)(d:Nat)(seen:List (List UInt8))(f:aC)(first:Bool)(h:(fQ f.text || !first)=true):Stk ⟨[],6,f.line⟩ (fW fs d ⟨seen,0,0⟩ f first):=by
 unfold fW;rw[h];exact Stk.fold (CJ fs d) _ _
theorem U8(fs:List aC)(d:Nat)(seen:List (List UInt8))(f:aC)(first:Bool)(h:(fQ f.text || !first)=false):fW fs d ⟨seen,0,0⟩ f first=f.kids.foldl (eK fs d) ⟨[],0,0⟩:=by
 unfold fW;rw[h];rfl
theorem B0(cb lo:Nat)(fs:List aC)(g cap:Nat)(hfl:fs.length<=90000)(hfk:∀f∈fs,f.kids.length<=90000)(d i:Nat)(hi:i<fs.length)(seen:List (List UInt8))(w:World)(h:CK cb lo fs (FV (.slice (some ⟨g,0,none⟩) fs.length cap)) w seen)
 (hd:∀k∈fs[i].kids,eZ d k) (hw:fs[i].kids.length+(fs[i].kids.map (bT d)).sum<=90000):
 Calls prog 137 #[.pointer (some ⟨cb,0,none⟩),.slice (some ⟨g,0,none⟩) fs.length cap,.int .i64 i] w (cY cb lo fs (FV (.slice (some ⟨g,0,none⟩) fs.length cap)) w (fW fs d ⟨seen,0,0⟩ fs[i] (dM (fs.take i) fs[i].text).isNone)):=by
 obtain⟨_,hpe,hfs⟩:=h.fun_;cases hpe;rcases hfs.cells with ⟨h1,_⟩|⟨g',cap',h1,hgF,hgl,hcap,hc⟩
 ·cases h1
 cases h1;obtain⟨pv,bv,ps,b,e0,e1,e2,e3,hkids,hps,hbo,hbk⟩:=hc i hi;obtain⟨px,pc,rfl⟩:=hps.slice;obtain⟨bx,bc,rfl⟩:=hbk.slice;have HPT:=aB (SZ (fs.take i) fs[i].text);have hfi:=hfk fs[i] (u_9 hi);have HFT:=aB (hfs.take i (by omega))
 generalize hff:fs[i]=f at*;have HNT:=aB (fun hx=>UR fs d seen f (dM (fs.take i) f.text).isNone hx)
 have HNG:=aB (fun hx=>U8 fs d seen f (dM (fs.take i) f.text).isNone hx)
 have hcb:=h.lt;obtain⟨hl0,hk0⟩:=Loc.new h (.cells #[.int .i64 f.line,.string (bs f.text),.slice px ps.length pc,.slice bx b.kids.length bc] 215);obtain⟨sx,sc,hblk,hsc,hscm,hown⟩:=h.cut;obtain⟨hlt,c0,c1,f1⟩:=jE hblk;have HL0:=aB hl0;have HC0:=aB hk0;have HPS:=aB hps;have HBK:=aB hbk;have HBO:=aB hbo;have HKD:=aB hkids;have HD:=aB hd;have HW:=aB hw;have HFK:=aB hfk;have hicap:i<=cap:=by omega
 have HBLK:Hid (rV cb lo fs (FV (.slice (some ⟨g,0,none⟩) fs.length cap)) d):=by
  cases d with
  |zero=>exact fun _ _ _ _ _ _ _ hd _=>hd.elim
  |succ e=>exact RA (rK cb lo fs _ e (I6 cb lo fs _ hfl hfk e))
 have hpsl:ps.length<=90000:=by rw[hkids] at hfi;simp at hfi;omega
 have HB0:Hid (Below w.heap.size w (w.alloc (.cells #[.int .i64 f.line,.string (bs f.text),.slice px ps.length pc,.slice bx b.kids.length bc] 215))):=(m8 _ _).alloc (l9 _) _;have HPP:=aB (CN (fs.take i) (Btw lo cb) (.slice (some ⟨g,0,none⟩) i cap) f.text (w.alloc (.cells #[.int .i64 f.line,.string (bs f.text),.slice px ps.length pc,.slice bx b.kids.length bc] 215)).drew (by rw[an_];omega) (fun f hf=>hfk f (aY_ hf)) (HFT.out.keep fun k hk=>by have:=hk.2;exact o9 _ _ _ (by omega)))
 rw[HPT.out] at HPP;generalize hpn:((kV (List.take i fs) f.text).getD 0)=pn at HPP;obtain⟨tk,htk⟩:∃tk,tk=(fQ f.text || !(dM (fs.take i) f.text).isNone):=⟨_,rfl⟩
 rw[<-htk] at HPP;have HTK:=aB htk;obtain⟨cc,hcc⟩:∃cc,cc=fW fs d ⟨seen,0,0⟩ f (dM (fs.take i) f.text).isNone:=⟨_,rfl⟩;rw[<-hcc];have HCC:=aB hcc;clear hpn htk hcc h hl0 hk0 hps hbk hbo hkids hd hw hfk hfs hc hblk hown HPT HFT hgF;go_enter Tryz.func137,Tryz.ntmps137;go_wp2_with fail;go_cut [7,8] (fun _ tv wc=>tv=.bool tk/\Below w.heap.size w wc/\Loc cb w w.heap.size (.cells #[.int .i64 f.line,.string (bs f.text),.slice px ps.length pc,.slice bx b.kids.length bc] 215) wc/\CK cb lo fs (FV (.slice (some ⟨g,0,none⟩) fs.length cap)) wc seen)
 case first=>
  go_region_law (go_simp;go_at_call 135;refine HPP.out.mono ?_;rintro e w1 ⟨rfl,hb1⟩;have HB1:=aB ((m8 (w.alloc (.cells #[.int .i64 f.line,.string (bs f.text),.slice px ps.length pc,.slice bx b.kids.length bc] 215)).heap.size (w.alloc (.cells #[.int .i64 f.line,.string (bs f.text),.slice px ps.length pc,.slice bx b.kids.length bc] 215))).drew.trans hb1);clear hb1)
  all_goals
   go_wp2_with fail;go_meet
   case rel=>exact⟨rfl,HB0.out.trans (HB1.out.mono (by simp)),HL0.out.step (FB.of_below HB1.out (by simp;omega)),HC0.out.grow HB1.out⟩
 case rest=>
  obtain⟨rfl,hbb,hL1,hC1⟩:=hcut;clear c0 c1 f1 hlt e0 e1 e2 e3;obtain⟨sx1,sc1,hblk1,hsc1,hscm1,hown1⟩:=hC1.cut;obtain⟨hlt,c0,c1,f1⟩:=jE hblk1;have HL1:=aB hL1;have HC1:=aB hC1;have m0:=aA hL1.blk (i:=0) rfl;have m1:=aA hL1.blk (i:=1) rfl;have m2:=aA hL1.blk (i:=2) rfl;have m3:=aA hL1.blk (i:=3) rfl;have hz1:=aD hL1.blk;have HRS:=aB (hC1.reset hblk1);have HBB:=aB hbb;clear hL1 hC1 hblk1 hown1 hbb HPP;cases tk;rotate_left
  ·go_wp2_with fail;refine(qP f.line _).mono ?_;rintro e w2 ⟨rfl,hb2⟩;have HB2:=aB (HBB.out.trans (hb2.mono HBB.out.size));clear hb2;go_wp2_with (go_at_call 136;refine(gK 6 f.line _).mono ?_;rintro e w3 ⟨rfl,hw⟩;obtain rfl:=hw.symm)
   exact⟨rfl,cY.fault (c1:=⟨[],6,f.line⟩) (FB.of_below HB2.out hcb) (by simp) (by rw[HCC.out];exact HNT.out HTK.out.symm)⟩
  have HI:Hid (X9 cb lo fs (FV (.slice (some ⟨g,0,none⟩) fs.length cap)) d w w.heap.size (.cells #[.int .i64 f.line,.string (bs f.text),.slice px ps.length pc,.slice bx b.kids.length bc] 215) ps b cc ps.length (.int .i64 (0:Nat)) (wc.setCell ⟨cb,1,none⟩ (.slice none 0 0))):=
   ⟨0,[],by omega,rfl,HL1.out.step HRS.out.1,HRS.out.2,by rw[HCC.out,HNG.out HTK.out.symm,HKD.out];rfl,rfl⟩
  have hcbb:¬cb=w.heap.size:=by omega
  have hcbb2:¬w.heap.size=cb:=by omega
  obtain⟨i0,hi0,hz0,hz1',hz2⟩:=info_parts WC;go_wp2_with fail;go_loopg [10,37] ps.length (fun gk _ iv wr=>X9 cb lo fs (FV (.slice (some ⟨g,0,none⟩) fs.length cap)) d w w.heap.size (.cells #[.int .i64 f.line,.string (bs f.text),.slice px ps.length pc,.slice bx b.kids.length bc] 215) ps b cc gk iv wr)
  case atStart=>exact HI.out
  case round=>
   obtain⟨k,s,hk,rfl,hLr,hCr,hcc,hsl⟩:=hrel;have HSL:=aB hsl;have hsle:s.length<=90000:=by omega
   clear hsl;have HLR:=aB hLr;have HCR:=aB hCr;have HCS:=aB hcc;clear m0 m1 m2 m3 hz1 c0 c1 f1 hlt HI HRS;have m0:=aA hLr.blk (i:=0) rfl;have m1:=aA hLr.blk (i:=1) rfl;have m2:=aA hLr.blk (i:=2) rfl;have m3:=aA hLr.blk (i:=3) rfl;have hz1:=aD hLr.blk;have hcr:=hCr.lt;by_cases hlt:k<ps.length
   ·obtain⟨j,rfl⟩:∃j,gk=j+1:=⟨gk-1,by omega⟩
    rcases HPS.out.get with ⟨_,hnil⟩|⟨pg,pcap,hpe,hpF,hpl,hpc,hcell⟩
    ·rw[hnil] at hlt;simp at hlt
    obtain⟨hp1,hp2⟩:=hcell k hlt;have hop:=HPS.out.1 ps[k] (u_9 hlt);have hdk:ps.drop k=ps[k]::ps.drop (k+1):=(aE_ hlt).symm;have hcc':cc=(ps.drop (k+1)++[b]).foldl (eK fs d) (eK fs d ⟨s,0,0⟩ ps[k]):=by rw[hcc,hdk];rfl
    generalize ps[k]=a at*;cases hpe;have r0:wr.cell? ⟨pg,k*2,none⟩=some (.int .i64 a.line):=(hLr.fb.bel.cell (p:=⟨pg,k*2,none⟩) hpF.2).trans hp1;have r1:wr.cell? ⟨pg,k*2+1,none⟩=some (.string (bs a.text)):=(hLr.fb.bel.cell (p:=⟨pg,k*2+1,none⟩) hpF.2).trans hp2;have hpgl:pg<wr.heap.size:=m9 (Nat.lt_trans hpF.2 hcb) hLr.fb.bel.size;obtain⟨hl2,hc2⟩:=Loc.new hCr (.cells #[.int .i64 a.line,.string (bs a.text)] 211);have HL2:=aB hl2;have HM:=aB (qM cb lo fs _ (wr.alloc (.cells #[.int .i64 a.line,.string (bs a.text)] 211)) s hc2 (by omega) a.line a.text)
    have HDL:Hid (Hs.declaresL ⟨s,0,0⟩ a=if fQ a.text || s.contains a.text then aZ.found ⟨s,0,0⟩ a.line 6 else ⟨s,0,0⟩):=rfl
    rw[<-HDL.out] at HM;have HPP2:=aB (H6 fs d ⟨s,0,0⟩ a hop);have hds:=mV ⟨s,0,0⟩ a;have HDS:=aB hds;have HCC2:=aB hcc';clear hcc hcc' hdk hp1 hp2 hcell hpc hpl HCS hds HDL hl2 hc2 hLr hCr hop;generalize Hs.declaresL ⟨s,0,0⟩ a=c1 at*;go_wp2_with fail;refine HM.out.mono ?_;rintro e w2 ⟨hb2,⟨s2,rfl,rfl,hck2⟩|⟨hk2,rfl⟩⟩
    rotate_left
    ·have HBF:=aB (HLR.out.fb.trans (HL2.out.fb.trans hb2));have HK:=aB hk2;clear hb2 hk2;go_wp2_with fail;exact⟨rfl,cY.fault (c1:=c1) HBF.out HK.out (by rw[HCC2.out,HPP2.out];exact(Stk.seen _ _).trans (Stk.fold (CJ fs d) _ _))⟩
    obtain rfl:s2=s:=HDS.out;have HL3:=aB (HL2.out.step hb2);have HLb:=aB ((HLR.out.step HL2.out.fb).step hb2);obtain⟨sx2,sc2,hblk2,hsc2,hscm2,hown2⟩:=hck2.cut;obtain⟨hlt2,c0,c1,f1⟩:=jE hblk2;have n0:=aA HL3.out.blk (i:=0) rfl;have n1:=aA HL3.out.blk (i:=1) rfl;have hy3:=aD HL3.out.blk;clear m0 m1 m2 m3 hz1 r0 r1;have m0:=aA HLb.out.blk (i:=0) rfl;have m1:=aA HLb.out.blk (i:=1) rfl;have m2:=aA HLb.out.blk (i:=2) rfl;have m3:=aA HLb.out.blk (i:=3) rfl;have hz1:=aD HLb.out.blk;have HB2:=aB (show w2.drew.heap[cb]?=_ from hblk2)
    have HO2:=aB (show w2.drew.ownsRow _ _ _ _ _ _ from hown2)
    have HK2:=aB (show CK cb lo fs (FV (.slice (some ⟨g,0,none⟩) fs.length cap)) w2.drew s2 from hck2.grow (m8 _ _).drew)
    have HFD:=aB (FB.of_below (cb:=cb) (m8 w2.heap.size w2).drew hlt2);clear hblk2 hown2 hck2 hb2 HM;go_wp2_with fail;go_region_law (refine step_append_lies _ (by rfl) _ _ 60 (by rfl) (cb+1) 9 i0 _ 1 16 Tryz.underlying60 hi0 hz0 hz1' hz2 rfl (by decide) (.slice sx2 s2.length sc2) s2.length (kG s2) (by rfl) (HO2.out.alloc _) ⟨w2.heap.size,0,none⟩ 1 1 [.string (bs a.text)] (by rfl) (by rfl) (OL w2.drew _) (VW _) (by decide) (by unfold maxLen;omega) (by omega) (by simp;omega) (w2.heap.size+1) (by simp) ?_;intro g5 cap5 w5 hown5 hgrow5 hat5 hg5;have hB5:=DU HB2.out HO2.out hgrow5;obtain⟨hz5, -,q1,fz5⟩:=jE hB5;clear hB5)
    all_goals
     go_wp2_with fail;go_roundg j
     case measure=>omega
     case rel=>
      have hfin:=HK2.out.add HB2.out HO2.out hown5 hgrow5 (hat5.imp_right fun e=>by show w2.heap.size<=g5;omega)
      exact⟨k+1,s2++[a.text],by omega,by go_num,(HLb.out.step HFD.out).step hfin.1,hfin.2,by rw[HCC2.out,HPP2.out],by have:=HSL.out;simp;omega⟩
   ·have hkl:k=ps.length:=by omega
    have hwb:eZ d b/\s.length+bT d b<=90000:=by
     have h1:=HW.out;have h2:=HD.out b (by rw[HKD.out];simp)
     rw[HKD.out] at h1;simp only[m6,af_,aJ_,s5,ah_,s6,ak_,n8,p6] at h1;have:=HSL.out;exact⟨h2,by omega⟩
    have HX:=aB (HBLK.out (.slice bx b.kids.length bc) b s wr hCr HBO.out (HBK.out.below hLr.fb.bel) hwb.1 hwb.2)
    have HCC2:Hid (cc=aM fs false d b ⟨s,0,0⟩):=by
     show _=_
     rw[hcc,am_ (by omega)]
     exact H7 fs d _ b HBO.out
    rw[<-HCC2.out] at HX;clear hLr hCr hcc HCS HCC2 hwb;go_wp2_with fail;refine HX.out.mono ?_;rintro e w2 ⟨hb2,⟨s2,hc2,rfl,hck2⟩|⟨hk2,rfl⟩⟩
    ·have HB2:=aB (HLR.out.fb.trans hb2);have HK2:=aB hck2;have HC2:=aB hc2;clear hb2 hck2 hc2;go_wp2_with fail;go_end0;exact cY.done HB2.out HC2.out HK2.out
    ·have HB2:=aB (HLR.out.fb.trans hb2);have HK2:=aB hk2;clear hb2 hk2;go_wp2_with fail;exact⟨rfl,cY.fault (c1:=cc) HB2.out HK2.out (Stk.refl _)⟩
def qN(fs:List aC):Bool:=kV fs [109,97,105,110]==some 0
theorem UZ(fs:List aC)(F:Nat->Prop)(fv:Value)(w:World)(hfl:fs.length<=90000)(hfk:∀f∈fs,f.kids.length<=90000)(h:FSl F w fv fs):
 Calls prog 78 #[fv] w fun e w'=>Below w.heap.size w w'/\((qN fs=true/\e=.returned (.tuple #[]))\/(qN fs=false/\e=dC 5 0)):=by
 have HP:=aB (CN fs F fv [109,97,105,110] w (by omega) hfk h)
 have HM:Hid (qN fs=(kV fs [109,97,105,110]==some 0)):=rfl;have HLE:=aB (fun n hn=>VV hfk (x:=[109,97,105,110]) (n:=n) hn)
 clear h hfk;rw[show bs [109,97,105,110]=⟨#[109,97,105,110]⟩ from rfl] at HP
 obtain⟨mo,hmo⟩:∃mo,mo=qN fs:=⟨_,rfl⟩;rw[<-hmo] at HM ⊢
 clear hmo;cases hp:kV fs [109,97,105,110] with
 |none=>
  obtain rfl:mo=false:=by rw[HM.out,hp];rfl
  rw[hp] at HP;simp only[Option.getD_none,Option.isSome_none] at HP;clear hp HM HLE;go_enter Tryz.func78,Tryz.ntmps78;go_wp2_with fail;refine HP.out.mono ?_;rintro e w1 ⟨rfl,hb1⟩;have HB:=aB hb1;clear hb1;go_wp2_with (go_at_call 136;refine(gK 5 0 _).mono ?_;rintro e w3 ⟨rfl,hw⟩;obtain rfl:=hw.symm)
  exact⟨rfl,HB.out,Or.inr ⟨trivial,rfl⟩⟩
 |some n=>
  have hn:=HLE.out n hp;rw[hp] at HP;simp only[Option.getD_some,Option.isSome_some] at HP;cases n with
  |zero=>
   obtain rfl:mo=true:=by rw[HM.out,hp];rfl
   clear hp HM HLE;go_enter Tryz.func78,Tryz.ntmps78;go_wp2_with fail;refine HP.out.mono ?_;rintro e w1 ⟨rfl,hb1⟩;have HB:=aB hb1;clear hb1;go_wp2_with fail;go_end0;exact⟨HB.out,Or.inl ⟨trivial,rfl⟩⟩
  |succ n=>
   obtain rfl:mo=false:=by rw[HM.out,hp];rfl
   clear hp HM HLE;have hpos:decide ((0:Int)<((n:Int)+1))=true:=decide_eq_true (by omega)
   go_enter Tryz.func78,Tryz.ntmps78;go_wp2_with fail;refine HP.out.mono ?_;rintro e w1 ⟨rfl,hb1⟩;have HB:=aB hb1;clear hb1;go_wp2_with (go_at_call 136;refine(gK 5 0 _).mono ?_;rintro e w3 ⟨rfl,hw⟩;obtain rfl:=hw.symm)
   exact⟨rfl,HB.out,Or.inr ⟨trivial,rfl⟩⟩
theorem WI(fs:List aC)(d:Nat):∀(rest pre:List aC) (s:aZ),Stk s (eW fs d pre rest s)
 |[],_,s=>Stk.refl s
 |n::rest,pre,s=>by
  rw[eW];refine Stk.trans ?_ (WI fs d rest _ _);unfold fW;refine Stk.trans ?_ (Stk.fold (CJ fs d) _ _);refine Stk.trans ?_ (Stk.seen _ _);split
  ·exact Stk.found _ _ _
  ·exact Stk.refl _
def VK(cb lo:Nat)(fs:List aC)(fv:Value)(d:Nat)(w:World)(c:aZ)(gk:Nat)(i:Value)(wr:World):Prop:=
 ∃k s,k+gk=fs.length/\i=.int .i64 (k:Nat)/\Below cb w wr/\CK cb lo fs fv wr s/\c=eW fs d (fs.take k) (fs.drop k) ⟨s,0,0⟩
theorem QR(lo:Nat)(fs:List aC)(fv:Value)(w:World)(d:Nat)(hfl:fs.length<=90000)(hfk:∀f∈fs,f.kids.length<=90000)(h:FSl (Btw lo w.heap.size) w fv fs)(hd:∀f∈fs,∀k∈f.kids,eZ d k)(hw:∀f∈fs,f.kids.length+(f.kids.map (bT d)).sum<=90000):
 Calls prog 79 #[fv] w fun e w'=>Below w.heap.size w w'/\(((eW fs d [] fs ⟨[],0,0⟩).kind=0/\(eW fs d [] fs ⟨[],0,0⟩).line=0/\e=.returned (.tuple #[]))\/((eW fs d [] fs ⟨[],0,0⟩).kind≠0/\e=dC (eW fs d [] fs ⟨[],0,0⟩).kind (eW fs d [] fs ⟨[],0,0⟩).line)):=by
 obtain⟨fx,fc,rfl⟩:∃x c,fv=.slice x fs.length c:=by
  rcases h.cells with ⟨h1,h2⟩|⟨g,cap,h1,_⟩
  ·exact⟨none,0,by rw[h1,h2];rfl⟩
  ·exact⟨_,_,h1⟩
 obtain⟨c,hc⟩:∃c,c=eW fs d [] fs ⟨[],0,0⟩:=⟨_,rfl⟩;have hb0:Below w.heap.size w (w.alloc (.cells #[FV (.slice fx fs.length fc),.slice none 0 0] 220)):=(m8 _ _).alloc (l9 _) _
 have HI:Hid (VK w.heap.size lo fs (FV (.slice fx fs.length fc)) d w c fs.length (.int .i64 (0:Nat)) (w.alloc (.cells #[FV (.slice fx fs.length fc),.slice none 0 0] 220))):=
  ⟨0,[],by omega,rfl,hb0,⟨⟨.slice none 0 0,aT _ _ rfl _,World.ownsRow_nil _ _ _ _⟩,⟨_,rfl,h.keep fun k hk=>hb0.block k hk.2⟩⟩,by rw[hc];rfl⟩
 rw[<-hc];have HF:=aB h;have HFK:=aB hfk;have HD:=aB hd;have HW:=aB hw;clear h hb0 hc hfk hd hw;go_enter Tryz.func79,Tryz.ntmps79;go_wp2_with fail;go_loopg [3,9] fs.length (fun gk _ i wr=>VK w.heap.size lo fs (FV (.slice fx fs.length fc)) d w c gk i wr)
 case atStart=>exact HI.out
 case round=>
  obtain⟨k,s,hk,rfl,hb,hck,hcc⟩:=hrel;have HB:=aB hb;by_cases hlt:k<fs.length
  ·obtain⟨j,rfl⟩:∃j,gk=j+1:=⟨gk-1,by omega⟩
   obtain⟨g,rfl⟩:∃g,fx=some ⟨g,0,none⟩:=by
    rcases HF.out.cells with ⟨h1,h2⟩|⟨g,cap,h1,_⟩
    ·rw[h2] at hlt;simp at hlt
    ·cases h1;exact⟨g,rfl⟩
   have hm:fs[k]∈fs:=u_9 hlt;have HX:=aB (B0 w.heap.size lo fs g fc hfl HFK.out d k hlt s wr hck (HD.out _ hm) (HW.out _ hm));have hdk:fs.drop k=fs[k]::fs.drop (k+1):=(aE_ hlt).symm
   have hcc':c=eW fs d (fs.take (k+1)) (fs.drop (k+1)) (fW fs d ⟨s,0,0⟩ fs[k] (dM (fs.take k) fs[k].text).isNone):=by
    rw[hcc,hdk,eW,v7 hlt]
   have HCC:=aB hcc';clear hb hck hcc hcc' hdk hm;generalize fW fs d ⟨s,0,0⟩ fs[k] (dM (fs.take k) fs[k].text).isNone=c1 at*;go_wp2_with fail;refine HX.out.mono ?_;rintro e w1 ⟨hb1,⟨s1,rfl,rfl,hck1⟩|⟨hk1,rfl⟩⟩
   rotate_left
   ·have HB1:=aB (HB.out.trans hb1.bel);have HK1:=aB hk1;have HST:Hid (Stk c1 c):=by show Stk _ _;rw[HCC.out];exact WI fs d _ _ _
    clear hb1 hk1;go_wp2_with fail;obtain⟨e1,e2⟩:=HST.out HK1.out;exact⟨rfl,HB1.out,Or.inr ⟨by rw[e1];exact HK1.out,by rw[e1,e2]⟩⟩
   have HI1:Hid (VK w.heap.size lo fs (FV (.slice (some ⟨g,0,none⟩) fs.length fc)) d w c j (.int .i64 ((k+1:Nat):Int)) w1):=⟨k+1,s1,by omega,rfl,HB.out.trans hb1.bel,hck1,HCC.out⟩
   clear hb1 hck1 HX;go_wp2_with fail;go_roundg j
   case measure=>omega
   case rel=>exact HI1.out
  ·have hcc':c=⟨s,0,0⟩:=by rw[hcc,am_ (by omega)];rfl
   have HCC:=aB hcc';clear hb hck hcc hcc';go_wp2_with fail;go_end0;rw[HCC.out];exact⟨HB.out,Or.inl ⟨rfl,rfl,rfl⟩⟩
structure NTabs(w:World):Prop where
 er:∃te pe,w.cell? ⟨10,0,none⟩=some (.iface te pe)
 big:11<=w.heap.size
theorem NTabs.fr{w w':World}{sb:Nat}(h:NTabs w)(hf:Fr sb w w')(hs:11<=sb):NTabs w':=by
 obtain⟨te,pe,h1⟩:=h.er;have:=h.big;have:=hf.size;exact⟨⟨te,pe,by rw[wZ (hf.block 10 (by omega) (by omega))];exact h1⟩,by omega⟩
theorem XY(l:List UInt8)(hd:∀c∈l,bY c=true)(hne:l≠[])(hl:l.length<=100000)(w:World)(hg:NTabs w):
 Calls prog 300 #[.string (bs l),.int .i64 10,.int .i64 64] w fun e w'=>Below w.heap.size w w'/\((∃v,cA 0 l=some v/\e=.returned (.tuple #[.int .i64 (v:Nat),.nilIface]))\/(cA 0 l=none/\∃x T p,e=.returned (.tuple #[.int .i64 x,.iface T p]))):=by
 have hsz:(bs l).size=l.length:=gI l;rcases ZI l hd hne with ⟨v,h1,h2⟩|⟨h1,h2⟩
 ·refine(Tryz.strconv_ParseInt_10_at64_ok (bs l) (by omega) v (by rw[jL];exact h2) w).mono ?_
  rintro e w' ⟨rfl,hw⟩;refine⟨?_,Or.inl ⟨v,h1,rfl⟩⟩;rcases hw with rfl|⟨t,rfl⟩
  ·exact m8 _ _
  ·exact Lib.bytesWorld_below _ _ _
 ·obtain⟨te,pe,he⟩:=hg.er;refine(Tryz.strconv_ParseInt_10_at64_range (bs l) (by omega) (by rw[jL];exact h2) (.iface te pe) w he (Or.inr ⟨te,pe,rfl⟩)).mono ?_
  rintro e w' ⟨N,rfl,_,_,hb⟩;exact⟨hb,Or.inr ⟨h1,_,_,_,rfl⟩⟩
theorem sV(c:UInt8):dT false c=bY c:=by unfold dT;simp
theorem MU(sb:Nat)(src:ByteArray)(n L:Nat)(w:World)(h:SC sb src n L w)(hg:NTabs w)(hsbN:11<=sb)(hs:src.size<=100000)(hn:n<src.size)(hdn:bY src[n]=true):
 Calls prog 253 #[.pointer (some ⟨sb,0,none⟩)] w (M2 sb src n L w (gC (src.data.toList.drop n) false)):=by
 obtain⟨sp,hsp⟩:∃sp,sp=bF (dT false) (src.data.toList.drop n):=⟨_,rfl⟩
 have hle:sp<=src.size-n:=by
  have:=kH (dT false) (src.data.toList.drop n);rw[hsp];simpa using this
 have hpos:1<=sp:=by
  rw[hsp,kL src n hn,rG _ _ _ (by rw[sV];exact hdn)];omega
 have hn2:n<=src.size:=by omega
 have hsb:=(SC.cells h).1;have hrb:w.heap.size≠sb:=by omega
 have h1:SC sb src n L (w.alloc (.cells #[.int .i64 0,.string ⟨#[]⟩,.int .i64 0,.int .i64 0] 206)):=by unfold SC;rw[o9 _ _ _ hsb];exact h
 obtain⟨h0,c0,c1,c2,f1,f2⟩:=h1.cells;have HZD:Hid (ZTok (w.alloc (.cells #[.int .i64 0,.string ⟨#[]⟩,.int .i64 0,.int .i64 0] 206)).drew w.heap.size):=aT _ _ rfl _;have HSP:=aB (fun w=>uJ (dT false) 252 (fun _ _=>rfl) (fun c w=>by rw[sV];exact tJ c w) (src.extract n src.size) w (by rw[rJ];omega))
 rw[mR,<-hsp] at HSP;have HTK:=aB (nT sb src n L sp (w.alloc (.cells #[.int .i64 0,.string ⟨#[]⟩,.int .i64 0,.int .i64 0] 206)).drew h1 (by omega) (by omega))
 obtain⟨tx,htx⟩:∃tx,tx=(src.data.toList.drop n).take sp:=⟨_,rfl⟩;rw[<-htx] at HTK;have hlen:tx.length=sp:=by rw[htx,an_];simp;omega
 have HPI:=aB (fun W (hW:NTabs W)=>XY tx (fun c hc=>by
  rw[htx,hsp] at hc;rw[<-sV];exact rH _ _ c hc) (fun e=>by rw[e] at hlen;simp at hlen;omega) (by omega) W hW)
 have HW:Hid (gC (src.data.toList.drop n) false={ sort:=48,text:=tx,size:=sp,ok:=(cA 0 tx).isSome }):=by
  show _=_
  unfold gC;rw[<-hsp,<-htx];rfl
 rw[HW.out];have HF0:Hid (Fr sb w (w.alloc (.cells #[.int .i64 0,.string ⟨#[]⟩,.int .i64 0,.int .i64 0] 206))):=(Fr.refl _ _).alloc _;have HG:=aB hg;have hbs:(bs tx).size=sp:=by rw[gI];exact hlen
 clear h h1 hsp htx HW hg hlen hdn;obtain⟨rr,hrr⟩:∃rr:oZ,rr={ sort:=48,text:=tx,size:=sp,ok:=(cA 0 tx).isSome }:=⟨_,rfl⟩;rw[<-hrr];have HRR:=aB hrr;clear hrr;go_enter Tryz.func253,Tryz.ntmps253;go_wp2_with fail;go_cut [3] (fun v wc=>v=.string (bs tx)/\SC sb src (n+sp) L wc/\Fr sb w wc/\ZTok wc w.heap.size)
 case first=>
  go_region_law (first|(go_simp;go_at_call 248;refine(HSP.out _).mono ?_;rintro e w1 ⟨rfl,hw⟩;obtain rfl:=hw.symm)|(go_simp;go_at_call 296;refine HTK.out.mono ?_;rintro e w2 ⟨rfl,hs2,hf2⟩;have HS2:=aB hs2;have HF2:=aB (HF0.out.drew.trans hf2);have HZ2:=aB (hf2.keepS HZD.out hrb);clear hs2 hf2))
  all_goals
   go_wp2_with fail;go_meet
   case rel=>exact⟨rfl,HS2.out,HF2.out,HZ2.out⟩
 case rest=>
  obtain⟨rfl,hs2,hf2,hz2⟩:=hcut;have HS2:=aB hs2;have HF2:=aB hf2;have HZ2:=aB hz2;have HPC:=aB (HPI.out wc (HG.out.fr hf2 hsbN));clear c0 c1 c2 f1 f2 h0 hs2 hf2 hz2 HTK HSP HZD HPI;go_wp2_with fail;refine HPC.out.mono ?_;rintro e w3 ⟨hb3,⟨v,hv,rfl⟩|⟨hv,x,T,p,rfl⟩⟩
  ·have HS3:Hid (SC sb src (n+sp) L w3):=(hb3.block sb (aD HS2.out)).trans HS2.out;have HZ3:Hid (ZTok w3 w.heap.size):=(hb3.block _ (aD HZ2.out)).trans HZ2.out;have HF3:=aB (HF2.out.trans (Fr.below hb3));obtain⟨h0,c0,c1,c2,f1,f2⟩:=HS3.out.cells;have z0:=aA HZ3.out (i:=0) rfl;have z1:=aA HZ3.out (i:=1) rfl;have z2:=aA HZ3.out (i:=2) rfl;have z3:=aA HZ3.out (i:=3) rfl;have y0:=aE (i:=0) HZ3.out;have y1:=aE (i:=1) HZ3.out;have y2:=aE (i:=2) HZ3.out;have y3:=aE (i:=3) HZ3.out;have hzz:=aD HZ3.out;have HV:=aB hv;clear hb3 hv HPC;go_wp2_with fail;rw[HRR.out];refine bodyPost_ret (v:=.agg #[.int .i64 2,.string (bs tx),.int .i64 v,.int .i64 L]) (by simp[results,Tryz.results253,go_sem,z0,z1,z2,z3]) rfl ?_
   have hfin:=lW HF3.out HS3.out (l9 _) hrb (.int .i64 2) (.string (bs tx)) (.int .i64 v) (.int .i64 L);refine⟨hfin.1,Or.inl ⟨by show (cA 0 tx).isSome=true;rw[HV.out];rfl,?_,hfin.2⟩⟩
   show _=Ending.returned (.agg #[.int .i64 2,.string (bs tx),.int .i64 (pval ⟨48,tx,L⟩),.int .i64 L])
   have e:pval ⟨48,tx,L⟩=v:=by unfold pval;rw[if_pos rfl,HV.out];rfl
   rw[e]
  ·have HS3:Hid (SC sb src (n+sp) L w3):=(hb3.block sb (aD HS2.out)).trans HS2.out;have HF3:=aB (HF2.out.trans (Fr.below hb3));have HFL:=aB (rI sb src (n+sp) L w3 HS3.out);have HV:=aB hv;clear hb3 hv HPC;go_wp2_with fail;refine HFL.out.mono ?_;rintro e w4 ⟨rfl,hw⟩;obtain rfl:=hw.symm;go_wp2_with fail;rw[HRR.out];exact⟨rfl,HF3.out,Or.inr ⟨by show (cA 0 tx).isSome=false;rw[HV.out];rfl,rfl⟩⟩
theorem WX(sb:Nat)(src:ByteArray)(n L:Nat)(w:World)(h:SC sb src n L w)(hg:NTabs w)(hm:PTabs w)(hsbN:11<=sb)(hs:src.size<=100000)(hn:n<src.size):
 Calls prog 183 #[.pointer (some ⟨sb,0,none⟩)] w (M2 sb src n L w (bJ (src.data.toList.drop n))):=by
 have hsb:=(SC.cells h).1;have hrb:w.heap.size≠sb:=by omega
 have hb:(src[n].toNat:Int)<=255:=nK _;have h1:SC sb src n L (w.alloc (.cells #[.int .i64 0,.string ⟨#[]⟩,.int .i64 0,.int .i64 0] 206)):=by unfold SC;rw[o9 _ _ _ hsb];exact h
 obtain⟨h0,c0,c1,c2,f1,f2⟩:=h1.cells;have HZD:Hid (∀q,ZTok ((w.alloc (.cells #[.int .i64 0,.string ⟨#[]⟩,.int .i64 0,.int .i64 0] 206)).drewN q) w.heap.size):=fun _=>aT _ _ rfl _
 have hF0:Fr sb w (w.alloc (.cells #[.int .i64 0,.string ⟨#[]⟩,.int .i64 0,.int .i64 0] 206)):=(Fr.refl _ _).alloc _;have HF0:=aB hF0;have HG:Hid (∀q,NTabs ((w.alloc (.cells #[.int .i64 0,.string ⟨#[]⟩,.int .i64 0,.int .i64 0] 206)).drewN q)):=fun q=>hg.fr (hF0.drewN q) hsbN
 have HMT:Hid (∀q,PTabs ((w.alloc (.cells #[.int .i64 0,.string ⟨#[]⟩,.int .i64 0,.int .i64 0] 206)).drewN q)):=fun q=>hm.fr (hF0.drewN q) hsbN
 have H1:=aB h1;obtain⟨rr,hrr⟩:∃rr,rr=bJ (src.data.toList.drop n):=⟨_,rfl⟩;rw[<-hrr];have hrr2:rr=if bY src[n] || eB src[n] then gC (src.data.toList.drop n) (eB src[n]) else if src[n].toNat=34 then nC (src.data.toList.drop (n+1)) else gL (src.data.toList.drop n):=by rw[hrr,kL src n hn];rfl
 have HRR:=aB hrr2;have HPL:=aB (xQ src[n]);have HPD:=aB (tJ src[n]);clear h h1 hg hm hrr hrr2 hF0;cases hl:eB src[n]
 ·cases hd:bY src[n]
  ·by_cases h34:src[n].toNat=34
   ·have e:rr=nC (src.data.toList.drop (n+1)):=by rw[HRR.out,hl,hd];simp[h34]
    have HX:=aB (fun q=>WW sb src n L ((w.alloc (.cells #[.int .i64 0,.string ⟨#[]⟩,.int .i64 0,.int .i64 0] 206)).drewN q) H1.out (by omega) hn)
    rw[<-e] at HX;rw[hl] at HPL;rw[hd] at HPD;have h34':((src[n].toNat:Int)==34)=true:=by simp;omega
    clear hl hd e HRR h34;go_enter Tryz.func183,Tryz.ntmps183;go_wp2_with fail;go_quiet (fail)
    go_wp2_with fail;refine(HPL.out _).mono ?_;rintro e w1 ⟨rfl,hw⟩;obtain rfl:=hw.symm;go_wp2_with fail;refine(HPD.out _).mono ?_;rintro e w1 ⟨rfl,hw⟩;obtain rfl:=hw.symm;go_wp2_with fail;refine(HX.out _).mono ?_;rintro e w2 ⟨hf2,⟨hok,rfl,hs2⟩|⟨hok,rfl⟩⟩
    ·have HF2:=aB ((HF0.out.drewN _).trans hf2);have HS2:=aB hs2;have HZ2:=aB (hf2.keepS (HZD.out _) hrb);have HOK:=aB hok;have z0:=aA HZ2.out (i:=0) rfl;have z1:=aA HZ2.out (i:=1) rfl;have z2:=aA HZ2.out (i:=2) rfl;have z3:=aA HZ2.out (i:=3) rfl;have y0:=aE (i:=0) HZ2.out;have y1:=aE (i:=1) HZ2.out;have y2:=aE (i:=2) HZ2.out;have y3:=aE (i:=3) HZ2.out;have hzz:=aD HZ2.out;clear hf2 hs2 hok;simp only[nX];go_wp2_with fail;refine bodyPost_ret (v:=.agg #[.int .i64 (psort rr.sort),.string (bs rr.text),.int .i64 (pval ⟨rr.sort,rr.text,L⟩),.int .i64 L]) (by clear HG HMT HZD HF0 HF2 HS2 HZ2 HOK;generalize psort rr.sort=pa;generalize pval ⟨rr.sort,rr.text,L⟩=pb;simp[results,Tryz.results183,go_sem,z0,z1,z2,z3]) rfl ?_
     have hfin:=lW HF2.out HS2.out (l9 _) hrb (.int .i64 (psort rr.sort)) (.string (bs rr.text)) (.int .i64 (pval ⟨rr.sort,rr.text,L⟩)) (.int .i64 L);exact⟨hfin.1,Or.inl ⟨HOK.out,rfl,hfin.2⟩⟩
    ·have HF2:=aB ((HF0.out.drewN _).trans hf2);have HOK:=aB hok;clear hf2 hok;go_wp2_with fail;exact⟨rfl,HF2.out,Or.inr ⟨HOK.out,rfl⟩⟩
   ·have e:gL (src.data.toList.drop n)=rr:=by rw[HRR.out,hl,hd];simp[h34]
    have HX:=aB (fun q=>XA sb src n L ((w.alloc (.cells #[.int .i64 0,.string ⟨#[]⟩,.int .i64 0,.int .i64 0] 206)).drewN q) H1.out (HMT.out q) (by omega) hn rr e)
    rw[hl] at HPL;rw[hd] at HPD;have h34':((src[n].toNat:Int)==34)=false:=by simp;omega
    clear hl hd e HRR h34;go_enter Tryz.func183,Tryz.ntmps183;go_wp2_with fail;go_quiet (fail)
    go_wp2_with fail;refine(HPL.out _).mono ?_;rintro e w1 ⟨rfl,hw⟩;obtain rfl:=hw.symm;go_wp2_with fail;refine(HPD.out _).mono ?_;rintro e w1 ⟨rfl,hw⟩;obtain rfl:=hw.symm;go_wp2_with fail;refine(HX.out _).mono ?_;rintro e w2 ⟨hf2,⟨hok,rfl,hs2⟩|⟨hok,rfl⟩⟩
    ·have HF2:=aB ((HF0.out.drewN _).trans hf2);have HS2:=aB hs2;have HZ2:=aB (hf2.keepS (HZD.out _) hrb);have HOK:=aB hok;have z0:=aA HZ2.out (i:=0) rfl;have z1:=aA HZ2.out (i:=1) rfl;have z2:=aA HZ2.out (i:=2) rfl;have z3:=aA HZ2.out (i:=3) rfl;have y0:=aE (i:=0) HZ2.out;have y1:=aE (i:=1) HZ2.out;have y2:=aE (i:=2) HZ2.out;have y3:=aE (i:=3) HZ2.out;have hzz:=aD HZ2.out;clear hf2 hs2 hok;simp only[nX];go_wp2_with fail;refine bodyPost_ret (v:=.agg #[.int .i64 (psort rr.sort),.string (bs rr.text),.int .i64 (pval ⟨rr.sort,rr.text,L⟩),.int .i64 L]) (by clear HG HMT HZD HF0 HF2 HS2 HZ2 HOK;generalize psort rr.sort=pa;generalize pval ⟨rr.sort,rr.text,L⟩=pb;simp[results,Tryz.results183,go_sem,z0,z1,z2,z3]) rfl ?_
     have hfin:=lW HF2.out HS2.out (l9 _) hrb (.int .i64 (psort rr.sort)) (.string (bs rr.text)) (.int .i64 (pval ⟨rr.sort,rr.text,L⟩)) (.int .i64 L);exact⟨hfin.1,Or.inl ⟨HOK.out,rfl,hfin.2⟩⟩
    ·have HF2:=aB ((HF0.out.drewN _).trans hf2);have HOK:=aB hok;clear hf2 hok;go_wp2_with fail;exact⟨rfl,HF2.out,Or.inr ⟨HOK.out,rfl⟩⟩
  ·have e:rr=gC (src.data.toList.drop n) false:=by rw[HRR.out,hl,hd];rfl
   have HX:=aB (fun q=>MU sb src n L ((w.alloc (.cells #[.int .i64 0,.string ⟨#[]⟩,.int .i64 0,.int .i64 0] 206)).drewN q) H1.out (HG.out q) hsbN hs hn hd)
   rw[<-e] at HX;rw[hl] at HPL;rw[hd] at HPD;clear hl hd e HRR;go_enter Tryz.func183,Tryz.ntmps183;go_wp2_with fail;go_quiet (fail)
   go_wp2_with fail;refine(HPL.out _).mono ?_;rintro e w1 ⟨rfl,hw⟩;obtain rfl:=hw.symm;go_wp2_with fail;refine(HPD.out _).mono ?_;rintro e w1 ⟨rfl,hw⟩;obtain rfl:=hw.symm;go_wp2_with fail;refine(HX.out _).mono ?_;rintro e w2 ⟨hf2,⟨hok,rfl,hs2⟩|⟨hok,rfl⟩⟩
   ·have HF2:=aB ((HF0.out.drewN _).trans hf2);have HS2:=aB hs2;have HZ2:=aB (hf2.keepS (HZD.out _) hrb);have HOK:=aB hok;have z0:=aA HZ2.out (i:=0) rfl;have z1:=aA HZ2.out (i:=1) rfl;have z2:=aA HZ2.out (i:=2) rfl;have z3:=aA HZ2.out (i:=3) rfl;have y0:=aE (i:=0) HZ2.out;have y1:=aE (i:=1) HZ2.out;have y2:=aE (i:=2) HZ2.out;have y3:=aE (i:=3) HZ2.out;have hzz:=aD HZ2.out;clear hf2 hs2 hok;simp only[nX];go_wp2_with fail;refine bodyPost_ret (v:=.agg #[.int .i64 (psort rr.sort),.string (bs rr.text),.int .i64 (pval ⟨rr.sort,rr.text,L⟩),.int .i64 L]) (by clear HG HMT HZD HF0 HF2 HS2 HZ2 HOK;generalize psort rr.sort=pa;generalize pval ⟨rr.sort,rr.text,L⟩=pb;simp[results,Tryz.results183,go_sem,z0,z1,z2,z3]) rfl ?_
    have hfin:=lW HF2.out HS2.out (l9 _) hrb (.int .i64 (psort rr.sort)) (.string (bs rr.text)) (.int .i64 (pval ⟨rr.sort,rr.text,L⟩)) (.int .i64 L);exact⟨hfin.1,Or.inl ⟨HOK.out,rfl,hfin.2⟩⟩
   ·have HF2:=aB ((HF0.out.drewN _).trans hf2);have HOK:=aB hok;clear hf2 hok;go_wp2_with fail;exact⟨rfl,HF2.out,Or.inr ⟨HOK.out,rfl⟩⟩
 ·have e:rr=gC (src.data.toList.drop n) true:=by rw[HRR.out,hl,Bool.or_true];rfl
  have HX:=aB (fun q=>WZ sb src n L ((w.alloc (.cells #[.int .i64 0,.string ⟨#[]⟩,.int .i64 0,.int .i64 0] 206)).drewN q) H1.out (by omega) (by omega))
  rw[<-e] at HX;rw[hl] at HPL;clear hl e HRR HPD;go_enter Tryz.func183,Tryz.ntmps183;go_wp2_with fail;go_quiet (fail)
  go_wp2_with fail;refine(HPL.out _).mono ?_;rintro e w1 ⟨rfl,hw⟩;obtain rfl:=hw.symm;go_wp2_with fail;refine(HX.out _).mono ?_;rintro e w2 ⟨hf2,⟨hok,rfl,hs2⟩|⟨hok,rfl⟩⟩
  ·have HF2:=aB ((HF0.out.drewN _).trans hf2);have HS2:=aB hs2;have HZ2:=aB (hf2.keepS (HZD.out _) hrb);have HOK:=aB hok;have z0:=aA HZ2.out (i:=0) rfl;have z1:=aA HZ2.out (i:=1) rfl;have z2:=aA HZ2.out (i:=2) rfl;have z3:=aA HZ2.out (i:=3) rfl;have y0:=aE (i:=0) HZ2.out;have y1:=aE (i:=1) HZ2.out;have y2:=aE (i:=2) HZ2.out;have y3:=aE (i:=3) HZ2.out;have hzz:=aD HZ2.out;clear hf2 hs2 hok;simp only[nX];go_wp2_with fail;refine bodyPost_ret (v:=.agg #[.int .i64 (psort rr.sort),.string (bs rr.text),.int .i64 (pval ⟨rr.sort,rr.text,L⟩),.int .i64 L]) (by clear HG HMT HZD HF0 HF2 HS2 HZ2 HOK;generalize psort rr.sort=pa;generalize pval ⟨rr.sort,rr.text,L⟩=pb;simp[results,Tryz.results183,go_sem,z0,z1,z2,z3]) rfl ?_
   have hfin:=lW HF2.out HS2.out (l9 _) hrb (.int .i64 (psort rr.sort)) (.string (bs rr.text)) (.int .i64 (pval ⟨rr.sort,rr.text,L⟩)) (.int .i64 L);exact⟨hfin.1,Or.inl ⟨HOK.out,rfl,hfin.2⟩⟩
  ·have HF2:=aB ((HF0.out.drewN _).trans hf2);have HOK:=aB hok;clear hf2 hok;go_wp2_with fail;exact⟨rfl,HF2.out,Or.inr ⟨HOK.out,rfl⟩⟩
theorem K3:(prog.info? 206).map (fun i=>(i.zero,i.size,i.bytes))=some (some (.agg #[.int .i64 0,.string (bs []),.int .i64 0,.int .i64 0]),4,40):=by kernel_rfl
theorem IA(w:World)(a b c d:Value):∀j u,([a,b,c,d]:List Value)[j]?=some u->(w.alloc (.cells #[a,b,c,d] 206)).cell? ((⟨w.heap.size,0,none⟩:Addr).add j)=some u:=by
 intro j u hj;match j,hj with
 |0,hj=>simp at hj;subst hj;simp[Addr.add,go_sem]
 |1,hj=>simp at hj;subst hj;simp[Addr.add,go_sem]
 |2,hj=>simp at hj;subst hj;simp[Addr.add,go_sem]
 |3,hj=>simp at hj;subst hj;simp[Addr.add,go_sem]
 |j+4,hj=>simp at hj
theorem OH(l m n:Int)(b:ByteArray):∀u∈([.int .i64 l,.string b,.int .i64 m,.int .i64 n]:List Value),u.oneCell'=true:=by
 intro u hu;simp at hu;rcases hu with rfl|rfl|rfl|rfl<;>rfl
theorem XK{w:World}{b:Nat}{e:TypeId}{size:Nat}{v:Value}{n:Nat}{xs:List Value}(h:w.ownsRow b e size v n xs):∃x c,v=.slice x n c:=by
 rcases h.2 with ⟨r1,r2⟩|⟨g,cap,cur,r1,_⟩
 ·exact⟨none,0,by rw[r1,r2]⟩
 ·exact⟨_,cap,r1⟩
theorem tR{l:List UInt8}(h:∀c∈l,c≠10):l.count 10=0:=a5_.2 fun hm=>h 10 hm rfl
theorem RS(l:List UInt8)(h:(bJ l).ok=true):(l.take (bJ l).size).count 10=0:=by
 cases l with
 |nil=>simp[bJ] at h
 |cons c r=>
  rw[bJ] at h ⊢
  split
  ·rename_i hd;rw[rZ];refine tR fun x hx=>?_
   have:=rH _ _ x hx;intro e;subst e;revert this
   cases eB c<;>decide
  ·rename_i hd;rw[if_neg hd] at h;split
   ·rename_i h34;rw[if_pos h34] at h;have h':(decide (r[bF fB r]?=some 34) && decide (bF fB r<=100))=true:=h;rw[y6,decide_eq_true_eq] at h'
    have hlt:bF fB r<r.length:=by
     by_cases hx:bF fB r<r.length
     ·exact hx
     ·rw[aa_ (by omega)] at h';exact absurd h'.1 (by simp)
    show ((c::r).take (bF fB r+1+1)).count 10=0
    rw[aw_,List.take_add_one,h'.1];refine tR fun x hx=>?_
    rcases p8.1 hx with rfl|hx
    ·intro e;rw[e] at h34;exact absurd h34 (by decide)
    rcases o7.1 hx with hx|hx
    ·have:=rH _ _ x hx;intro e;subst e;exact absurd this (by decide)
    ·intro e;rw[e] at hx;exact absurd hx (by decide)
   ·rename_i h34;rw[if_neg h34] at h;unfold gL at h ⊢
    cases ho:cM.find? (fun o=>cJ (c::r) o) with
    |none=>rw[ho] at h;simp at h
    |some o=>
     have h1:=List.find?_some ho;have h2:=av_ ho
     have h3:(c::r).take o.length=o:=by
      have h4:=h1;unfold cJ at h4;rw[lU _ _ (kS h1)] at h4;simpa using h4
     show ((c::r).take o.length).count 10=0
     rw[h3];have:∀o∈cM,o.count 10=0:=by decide
     exact this o h2
def F8(x:Except Nat (List aP))(w:World)(e:Ending)(w':World):Prop:=
 Below w.heap.size w w'/\
  match x with
  |.error n=>e=dC 3 n
  |.ok ts=>∃v,e=.returned v/\w'.ownsRow (w.heap.size+1) 206 4 v ts.length (ptoks ts)
def M4(src:ByteArray)(w:World)(TS:Except Nat (List aP))(gk:Nat)(v:Value)(wr:World):Prop:=
 ∃(k f:Nat) (ts:List aP),k<=src.size/\src.size+1<=k+f/\src.size<=k+gk/\ts.length<=k/\SC w.heap.size src k (aU (src.data.toList.take k)) wr/\Fr w.heap.size w wr/\wr.ownsRow (w.heap.size+1) 206 4 v ts.length (ptoks ts)/\TS=cF ts (cU f (src.data.toList.take k) (src.data.toList.drop k))
theorem Fr.to_below{w w':World}(h:Fr w.heap.size w w'):Below w.heap.size w w':=⟨h.os,h.tape,h.output,h.size,fun k hk=>h.block k hk (by omega)⟩
theorem F7(src:ByteArray)(w:World)(hg:NTabs w)(hm:PTabs w)(hs:src.size<=2000):
 Calls prog 132 #[.string src] w (F8 (fI src.data.toList) w):=by
 obtain⟨i0,hi,hz0,hz1,hz2⟩:=info_parts K3;have hbig:=hg.big;have h0:SC w.heap.size src 0 (aU (src.data.toList.take 0)) (w.alloc (.cells #[.string src,.int .i64 0,.int .i64 1] 290)):=aT _ _ rfl _;have HSK:=aB (NL w.heap.size src 0 (w.alloc (.cells #[.string src,.int .i64 0,.int .i64 1] 290)) h0 (by omega) (aj_ _))
 simp only[ba_,aD_] at HSK;obtain⟨b0,hb0⟩:∃b0,b0=Hs.blankL src.size src.data.toList:=⟨_,rfl⟩;have hb0l:b0<=src.size:=by have:=vD src.size src.data.toList;rw[hb0];simpa using this
 rw[<-hb0] at HSK;obtain⟨TS,hTS⟩:∃TS,TS=fI src.data.toList:=⟨_,rfl⟩
 have HTS:Hid (TS=cU (src.size+1) (src.data.toList.take b0) (src.data.toList.drop b0)):=by
  show _=_
  rw[hTS];unfold fI;rw[show src.data.toList.length=src.size by simp,<-hb0]
 rw[<-hTS];have HF0:Hid (Fr w.heap.size w (w.alloc (.cells #[.string src,.int .i64 0,.int .i64 1] 290))):=(Fr.refl _ _).alloc _;have HG:=aB hg;have HM:=aB hm;clear h0 hg hm hb0 hTS;go_enter Tryz.func132,Tryz.ntmps132;go_wp2_with fail;refine HSK.out.mono ?_;rintro e w1 ⟨rfl,hs1,hf1⟩;have HI:Hid (M4 src w TS src.size (.slice none 0 0) w1):=⟨b0,src.size+1,[],hb0l,by omega,by omega,by simp,hs1,HF0.out.trans hf1,World.ownsRow_nil _ _ _ _,by rw[HTS.out,qK]⟩
 clear hs1 hf1 HSK HTS HF0;go_wp2_with fail;go_loopg [4] src.size (fun gk v wr=>M4 src w TS gk v wr)
 case atStart=>exact HI.out
 case round=>
  obtain⟨k,f,ts,hk,hf,hgk,htl,hsc,hfr,hown,hTS⟩:=hrel
  have hL:aU (src.data.toList.take k)<=k+1:=by
   have:=oP (src.data.toList.take k);have:=List.length_take_le k src.data.toList;omega
  obtain⟨h0,c0,c1,c2,f1,f2⟩:=hsc.cells;have hwz:=hfr.size;have HSC:=aB hsc;have HFR:=aB hfr;have HTS:=aB hTS;obtain⟨x,c,rfl⟩:=XK hown;have hge:∀k,(Value.slice x ts.length c).ownBlock=some k->w.heap.size+1<=k:=bX hown;clear HI hsc hfr hTS;by_cases hlt:k<src.size
  ·obtain⟨f,rfl⟩:∃f',f=f'+1:=⟨f-1,by omega⟩
   obtain⟨j,rfl⟩:∃j,gk=j+1:=⟨gk-1,by omega⟩
   have hlt':decide ((k:Int)<(src.size:Int))=true:=decide_eq_true (by omega)
   have hl:(src.data.toList.drop k).length=src.size-k:=by simp
   have HTK:=aB (WX w.heap.size src k (aU (src.data.toList.take k)) wr HSC.out (HG.out.fr HFR.out hbig) (HM.out.fr HFR.out hbig) hbig (by omega) hlt)
   cases hok:(bJ (src.data.toList.drop k)).ok
   ·have HF:Hid (TS=.error (aU (src.data.toList.take k))):=by
     show _=_
     rw[HTS.out,kQ _ _ _ (by omega) hok];rfl
    have HOK:=aB hok;clear HTS hl hok;generalize aU (src.data.toList.take k)=L at*;go_wp2_with fail;refine HTK.out.mono ?_;rintro e w2 ⟨hf2,⟨hk2,_,_⟩|⟨hk2,rfl⟩⟩
    ·rw[HOK.out] at hk2;cases hk2
    have HF2:=aB (HFR.out.trans hf2);clear hf2 hk2 HTK;go_wp2_with fail;rw[HF.out];exact⟨rfl,HF2.out.to_below,rfl⟩
   ·have hsz:=tX _ hok;rw[hl] at hsz;have hnl:=RS _ hok;obtain⟨m,hm⟩:∃m,m=k+(bJ (src.data.toList.drop k)).size+Hs.blankL src.size (src.data.toList.drop (k+(bJ (src.data.toList.drop k)).size)):=⟨_,rfl⟩
    have hml:m<=src.size:=by
     have:=vD src.size (src.data.toList.drop (k+(bJ (src.data.toList.drop k)).size));rw[al_,show src.data.toList.length=src.size by simp] at this
     omega
    have HT:=D8 src k f hlt hok m hm
    have HF:Hid (TS=cF (ts++[{ sort:=(bJ (src.data.toList.drop k)).sort,text:=(bJ (src.data.toList.drop k)).text,line:=aU (src.data.toList.take k) }]) (cU f (src.data.toList.take m) (src.data.toList.drop m))):=by
     show _=_
     rw[HTS.out,HT,zL]
    have hln:aU (src.data.toList.take (k+(bJ (src.data.toList.drop k)).size))=aU (src.data.toList.take k):=by
     rw[List.take_add,jH,hnl];rfl
    have HSK:=aB (fun W (hW:SC w.heap.size src (k+(bJ (src.data.toList.drop k)).size) (aU (src.data.toList.take (k+(bJ (src.data.toList.drop k)).size))) W)=>NL w.heap.size src _ W hW (by omega) (by omega))
    rw[hln] at HSK;simp only[<-hm] at HSK;have HOK:=aB hok;have hkm:k<m:=by omega
    clear HTS hl hok HT hnl hln hm;generalize bJ (src.data.toList.drop k)=r at*;obtain⟨pa,hpa⟩:∃pa,pa=psort r.sort:=⟨_,rfl⟩;obtain⟨pb,hpb⟩:∃pb,pb=pval ⟨r.sort,r.text,aU (src.data.toList.take k)⟩:=⟨_,rfl⟩;have HPT:Hid (nX ⟨r.sort,r.text,aU (src.data.toList.take k)⟩=.agg #[.int .i64 pa,.string (bs r.text),.int .i64 pb,.int .i64 (aU (src.data.toList.take k))]):=by show _=_;rw[hpa,hpb];rfl
    have HPK:Hid (ptok ⟨r.sort,r.text,aU (src.data.toList.take k)⟩=[.int .i64 pa,.string (bs r.text),.int .i64 pb,.int .i64 (aU (src.data.toList.take k))]):=by show _=_;rw[hpa,hpb];rfl
    clear hpa hpb;generalize aU (src.data.toList.take k)=L at*;have HGE:=aB hge;have HOW:=aB hown;clear hown hge;go_wp2_with fail;refine HTK.out.mono ?_;rintro e w2 ⟨hf2,⟨hk2,rfl,hs2⟩|⟨hk2,rfl⟩⟩
    rotate_left
    ·rw[HOK.out] at hk2;cases hk2
    rw[HPT.out];have hown2:=bA (w1:=w2) HOW.out fun i hi=>hf2.block i (cK HOW.out i hi) (by have:=HGE.out i hi;omega)
    have HF2:=aB (HFR.out.trans hf2);have HS2:=aB hs2;have hwz2:=HF2.out.size;have hsb2:=aD hs2;clear hf2 hk2 hs2 HTK HPT;go_wp2_with (at_builtin;refine wpList_append_lies _ (by rfl) _ _ 142 (by rfl) (w.heap.size+1) 206 i0 _ 4 40 Tryz.underlying142 hi hz0 hz1 hz2 rfl (by decide) _ _ _ (by rfl) (hown2.alloc _) ⟨w2.heap.size,0,none⟩ 1 1 [.int .i64 pa,.string (bs r.text),.int .i64 pb,.int .i64 L] (by rfl) (by rfl) (IA _ _ _ _ _) (OH _ _ _ _) (by decide) (by unfold maxLen;omega) (by omega) (by simp;omega) (w2.heap.size+1) (by simp) ?_)
    intro g7 cap7 w7 hown7 hgrow7 hat7 hg7;have HF7:=aB ((HF2.out.alloc _).grown hgrow7 (fun k hk=>by have:=HGE.out k hk;omega))
    have HS7:Hid (SC w.heap.size src (k+r.size) L w7):=by
     show _=_
     rw[hgrow7.block _ (by simp;omega) (fun e=>by have:=HGE.out _ e.symm;omega),o9 _ _ _ hsb2]
     exact HS2.out
    have HO7:Hid (w7.ownsRow (w.heap.size+1) 206 4 (.slice (some ⟨g7,0,none⟩) (ts.length+1) cap7) (ts++[(⟨r.sort,r.text,L⟩:aP)]).length (ptoks (ts++[⟨r.sort,r.text,L⟩]))):=by
     rw[CD,HPK.out,m6];exact hown7
    have HK7:=aB (HSK.out w7 HS7.out);clear hown2 hown7 hgrow7 hat7 HS2 HF2 HSK;go_wp2_with fail;refine HK7.out.mono ?_;rintro e w8 ⟨rfl,hs8,hf8⟩
    have HI8:Hid (M4 src w TS j (.slice (some ⟨g7,0,none⟩) (ts.length+1) cap7) w8):=by
     refine⟨m,f,ts++[⟨r.sort,r.text,L⟩],hml,by omega,by omega,by simp;omega,hs8,HF7.out.trans hf8,?_,HF.out⟩
     exact bA HO7.out fun i hi=>hf8.block i (cK HO7.out i hi) (by have:=bX HO7.out i hi;omega)
    clear hs8 hf8 HK7;go_wp2_with fail;go_roundg j
    case measure=>omega
    case rel=>exact HI8.out
  ·obtain⟨f,rfl⟩:∃f',f=f'+1:=⟨f-1,by omega⟩
   have HF:Hid (TS=.ok (ts++[{ sort:=101,text:=[],line:=aU (src.data.toList.take k) }])):=by
    show _=_
    rw[HTS.out,kP _ _ _ (by simp;omega)];rfl
   have hlt':decide ((k:Int)<(src.size:Int))=false:=decide_eq_false (by omega)
   clear HTS;generalize aU (src.data.toList.take k)=L at*;go_wp2_with (at_builtin;refine wpList_append_lies _ (by rfl) _ _ 142 (by rfl) (w.heap.size+1) 206 i0 _ 4 40 Tryz.underlying142 hi hz0 hz1 hz2 rfl (by decide) _ _ _ (by rfl) (hown.alloc _) ⟨wr.heap.size,0,none⟩ 1 1 [.int .i64 4,.string ⟨#[]⟩,.int .i64 0,.int .i64 L] (by rfl) (by rfl) (IA _ _ _ _ _) (OH _ _ _ _) (by decide) (by unfold maxLen;omega) (by omega) (by simp;omega) (wr.heap.size+1) (by simp) ?_)
   intro g7 cap7 w7 hown7 hgrow7 hat7 hg7;have HF7:=aB ((HFR.out.alloc _).grown hgrow7 (fun k hk=>by have:=hge k hk;omega))
   have HO7:Hid (w7.ownsRow (w.heap.size+1) 206 4 (.slice (some ⟨g7,0,none⟩) (ts.length+1) cap7) (ts++[(⟨101,[],L⟩:aP)]).length (ptoks (ts++[⟨101,[],L⟩]))):=by
    rw[CD,m6];exact hown7
   clear hown hown7 hgrow7 hat7 hge;go_wp2_with fail;go_ret;rw[HF.out];exact⟨HF7.out.to_below,_,rfl,HO7.out⟩
theorem UA(src:ByteArray)(w:World)(_hs:src.size<=maxLen):
 Calls prog 130 #[.string src] w fun e w'=>w'=w/\((src.size<=2000/\e=.returned (.tuple #[]))\/(2000<src.size/\e=dC 1 0)):=by
 by_cases h:src.size<=2000
 ·have h':decide ((2000:Int)<(src.size:Int))=false:=decide_eq_false (by omega)
  go_enter Tryz.func130,Tryz.ntmps130;go_wp2_with fail;go_end0;exact⟨rfl,Or.inl ⟨h,rfl⟩⟩
 ·have h':decide ((2000:Int)<(src.size:Int))=true:=decide_eq_true (by omega)
  go_enter Tryz.func130,Tryz.ntmps130;go_wp2_with (go_at_call 136;refine(gK 1 0 _).mono ?_;rintro e w3 ⟨rfl,hw⟩;obtain rfl:=hw.symm)
  exact⟨rfl,rfl,Or.inr ⟨by omega,rfl⟩⟩
theorem KS{l:List UInt8}{c:Nat}{x:UInt8}(h:x∈l.take c):∃i,i<c/\l[i]?=some x:=by
 obtain⟨i,hi,e⟩:=List.mem_iff_getElem.1 h;have hi':=hi;rw[an_] at hi';refine⟨i,by omega,?_⟩
 rw[List.getElem_take] at e;rw[p9 (by omega),e]
theorem wK{l:List UInt8}{i lo hi:Nat}(h:dF l i lo hi=true){x:UInt8}(hx:l[i]?=some x):lo<=x.toNat:=by
 unfold dF at h;rw[hx] at h;simp at h;exact h.1
theorem QV{l:List UInt8}(h:2<=bC l):(l.take (bC l)).count 10=0:=by
 refine tR fun x hx=>?_
 obtain⟨i,hi,e⟩:=KS hx;suffices 128<=x.toNat by intro e;rw[e] at this;exact absurd this (by decide)
 revert h hi
 unfold bC;cases h0:l[0]? with
 |none=>simp
 |some b=>
  simp only;have hb:i=0->x=b:=fun e0=>by subst e0;rw[h0] at e;exact(Option.some.inj e).symm
  split
  ·intro h;omega
  ·rename_i hb1;split
   ·rename_i hb2;split
    ·rename_i h1;intro _ hi;match i,hi with
     |0,_=>rw[hb rfl];omega
     |1,_=>exact wK h1 e
    ·intro h;omega
   ·split
    ·rename_i hb3;by_cases h1:(dF l 1 (if b.toNat=224 then 160 else 128) (if b.toNat=237 then 159 else 191) && dF l 2 128 191)=true
     ·rw[if_pos h1];rw[y6] at h1;intro _ hi;match i,hi with
      |0,_=>rw[hb rfl];omega
      |1,_=>have:=wK h1.1 e;split at this<;>omega
      |2,_=>exact wK h1.2 e
     ·rw[if_neg h1];intro h;omega
    ·split
     ·rename_i hb4;by_cases h1:(dF l 1 (if b.toNat=240 then 144 else 128) (if b.toNat=244 then 143 else 191) && dF l 2 128 191 && dF l 3 128 191)=true
      ·rw[if_pos h1];rw[y6,y6] at h1;intro _ hi;match i,hi with
       |0,_=>rw[hb rfl];omega
       |1,_=>have:=wK h1.1.1 e;split at this<;>omega
       |2,_=>exact wK h1.1.2 e
       |3,_=>exact wK h1.2 e
      ·rw[if_neg h1];intro h;omega
     ·intro h;omega
theorem U9(n b0 b1 b2 b3:Nat)(h0:b0<256):(Lib.decodeN n b0 b1 b2 b3).1<=1114111:=by
 unfold Lib.decodeN;repeat' split
 all_goals (simp only;omega)
theorem Z0(src:ByteArray)(k:Nat)(hk:k<src.size):∃r z,Lib.decodeGo (src.extract k src.size)=(r,z)/\r<=1114111/\
 ((bC (src.data.toList.drop k)=0/\r=65533/\z=1)\/(bC (src.data.toList.drop k)≠0/\z=bC (src.data.toList.drop k)/\¬(r=65533/\z=1)/\(r=10↔src[k].toNat=10))):=by
 have hsz:(src.extract k src.size).size=src.size-k:=by simp
 have hpos:0<(src.extract k src.size).size:=by omega
 have e0:((src.extract k src.size).get! 0).toNat=src[k].toNat:=by rw[oB _ 0 hpos];simp[ByteArray.getElem_extract]
 have hC:=V8 (src.extract k src.size) hpos;rw[mR] at hC
 have hD:Lib.decodeGo (src.extract k src.size)=Lib.decodeN (src.extract k src.size).size ((src.extract k src.size).get! 0).toNat ((src.extract k src.size).get! 1).toNat ((src.extract k src.size).get! 2).toNat ((src.extract k src.size).get! 3).toNat:=by
  unfold Lib.decodeGo;rw[if_neg (by omega),Lib.decode_at];rfl
 obtain⟨h1,h2⟩:=L6 (src.extract k src.size).size ((src.extract k src.size).get! 0).toNat ((src.extract k src.size).get! 1).toNat ((src.extract k src.size).get! 2).toNat ((src.extract k src.size).get! 3).toNat (aT_ _) (aT_ _) (aT_ _) (aT_ _);have hR:=U9 (src.extract k src.size).size ((src.extract k src.size).get! 0).toNat ((src.extract k src.size).get! 1).toNat ((src.extract k src.size).get! 2).toNat ((src.extract k src.size).get! 3).toNat (aT_ _);rw[<-hC] at h1 h2;rw[<-hD] at h1 h2 hR;rw[e0] at h2;clear hD hC;generalize Lib.decodeGo (src.extract k src.size)=D at*;obtain⟨r,z⟩:=D;refine⟨r,z,rfl,hR,?_⟩;by_cases hz:bC (src.data.toList.drop k)=0
 ·have:=h1 hz;cases this;exact Or.inl ⟨hz,rfl,rfl⟩
 ·obtain⟨g1,g2,g3⟩:=h2 hz;have g1':z=bC (src.data.toList.drop k):=g1;exact Or.inr ⟨hz,g1',by rw[g1'];exact g2,g3⟩
theorem AM{w w':World}(h:Lib.Utf8Tabs 4 5 w)(hb:Below w.heap.size w w')(hz:11<=w.heap.size):Lib.Utf8Tabs 4 5 w':=
 ⟨fun c hc=>(hb.cell (p:=⟨4,c,none⟩) (by show 4<_;omega)).trans (h.1 c hc),fun i hi=>⟨(hb.cell (p:=⟨5,2*i,none⟩) (by show 5<_;omega)).trans (h.2 i hi).1,(hb.cell (p:=⟨5,2*i+1,none⟩) (by show 5<_;omega)).trans (h.2 i hi).2⟩⟩
def U6(x:Option Nat)(l:List UInt8)(w:World)(e:Ending)(w':World):Prop:=
 Below w.heap.size w w'/\
  match x with
  |none=>e=.returned (.tuple #[])
  |some k=>e=dC 2 (aU (l.take k))
theorem U5(src:ByteArray)(w:World)(hT:Lib.Utf8Tabs 4 5 w)(hz:11<=w.heap.size)(hs:src.size<=2000):
 Calls prog 131 #[.string src] w (U6 (dE src.size src.data.toList 0) src.data.toList w):=by
 have HT:=aB hT;obtain⟨X,hX⟩:∃X,X=dE src.size src.data.toList 0:=⟨_,rfl⟩;rw[<-hX];have HX0:Hid (X=dE src.size (src.data.toList.drop 0) 0):=hX;clear hT hX;go_enter Tryz.func131,Tryz.ntmps131;go_wp2_with fail;go_loopg [2,3,4,5] src.size (fun gk lv iv _ _ wr=>∃k f:Nat,k<=src.size/\src.size<=k+f/\src.size<=k+gk/\iv=.int .i64 k/\lv=.int .i64 (aU (src.data.toList.take k))/\Below w.heap.size w wr/\Hid (X=dE f (src.data.toList.drop k) k))
 case atStart=>exact⟨0,src.size,aj_ _,by omega,by omega,rfl,rfl,m8 _ _,HX0⟩
 case round=>
  obtain⟨k,f,hk,hf,hgk,rfl,rfl,hb,HX⟩:=hrel
  have hL:aU (src.data.toList.take k)<=k+1:=by
   have:=oP (src.data.toList.take k);have:=List.length_take_le k src.data.toList;omega
  have HB:=aB hb;by_cases hlt:k<src.size
  ·obtain⟨f,rfl⟩:∃f',f=f'+1:=⟨f-1,by omega⟩
   obtain⟨j,rfl⟩:∃j,gk=j+1:=⟨gk-1,by omega⟩
   have hlen:0<(src.data.toList.drop k).length:=by simp;omega
   obtain⟨r,z,hD,hr,hc⟩:=Z0 src k hlt;have HD:=aB (Tryz.utf8_DecodeRuneInString (src.extract k src.size) wr (AM HT.out hb hz));rw[hD] at HD;clear hD hb;rcases hc with ⟨hc0,rfl,rfl⟩|⟨hc0,hcz,hrz,hr10⟩
   ·have HF:Hid (X=some k):=by show _=_;rw[HX.out,NI _ _ _ hlen hc0]
    generalize hLL:aU (src.data.toList.take k)=L at*;have HLL:=aB hLL;clear HX hc0 hlen hLL;go_wp2_with fail;refine HD.out.mono ?_;rintro e w1 ⟨rfl,hb1⟩;have HB1:=aB (HB.out.trans (hb1.mono HB.out.size));clear hb1 HD;go_wp2_with (go_at_call 136;refine(gK 2 L _).mono ?_;rintro e w3 ⟨rfl,hw⟩;obtain rfl:=hw.symm)
    rw[HF.out];exact⟨rfl,HB1.out,congrArg (dC 2) HLL.out.symm⟩
   ·have HF:Hid (X=dE f (src.data.toList.drop (k+z)) (k+z)):=by
     show _=_
     rw[HX.out,JX _ _ _ hlen hc0,aN_,<-hcz]
    have hzl:z<=src.size-k:=by rw[hcz];have:=B1 (src.data.toList.drop k);simpa using this
    have hz1:1<=z:=by omega
    have hln:aU (src.data.toList.take (k+z))=aU (src.data.toList.take k)+if r=10 then 1 else 0:=by
     by_cases h2:2<=z
     ·have h3:=QV (l:=src.data.toList.drop k) (by omega)
      rw[<-hcz] at h3;rw[List.take_add,jH,h3];rw[if_neg];intro e;have h4:=hr10.1 e
      have h5:src[k]∈(src.data.toList.drop k).take z:=by
       rw[kL src k hlt];obtain⟨y,rfl⟩:∃y,z=y+1:=⟨z-1,by omega⟩
       rw[aw_];exact x9 ..
      exact a5_.1 h3 (by have:src[k]=10:=aU_.1 h4;rw[this] at h5;exact h5)
     ·obtain rfl:z=1:=by omega
      rw[IG src k hlt];congr 1
      by_cases h6:r=10
      ·rw[if_pos h6,if_pos (aU_.1 (hr10.1 h6))]
      ·rw[if_neg h6,if_neg (fun e=>h6 (hr10.2 (by rw[e];rfl)))]
    have HLN:=aB hln;generalize aU (src.data.toList.take k)=L at*
    have hrz':((r:Int)==65533)=false\/((r:Int)==65533)=true/\((z:Int)==1)=false:=by
     by_cases h7:r=65533
     ·refine Or.inr ⟨by simp;omega,?_⟩
      simp;intro e;exact hrz ⟨h7,by omega⟩
     ·exact Or.inl (by simp;omega)
    have hne:(src.data.toList.drop k).length=src.size-k:=by simp
    clear HX hc0 hlen hcz hr10 hln hrz hne;by_cases h10:r=10
    ·have e1:((r:Int)==10)=true:=by simp;omega
     have e2:((r:Int)==65533)=false:=by simp;omega
     have HL2:Hid (aU (src.data.toList.take (k+z))=L+1):=by show _=_;rw[HLN.out,if_pos h10]
     clear hrz' h10 HLN;go_wp2_with fail;refine HD.out.mono ?_;rintro e w1 ⟨rfl,hb1⟩;have HB1:=aB (HB.out.trans (hb1.mono HB.out.size));clear hb1 HD;go_wp2_with fail;go_roundg j
     case measure=>omega
     case rel=>exact⟨k+z,f,by omega,by omega,by omega,by go_num,by rw[HL2.out];go_num,HB1.out,HF⟩
    ·have e1:((r:Int)==10)=false:=by simp;omega
     have HL2:Hid (aU (src.data.toList.take (k+z))=L):=by show _=_;rw[HLN.out,if_neg h10];rfl
     clear h10 HLN;rcases hrz' with e2|⟨e2,e3⟩
     all_goals
      go_wp2_with fail;refine HD.out.mono ?_;rintro e w1 ⟨rfl,hb1⟩;have HB1:=aB (HB.out.trans (hb1.mono HB.out.size));clear hb1 HD;go_wp2_with fail;go_roundg j
      case measure=>omega
      case rel=>exact⟨k+z,f,by omega,by omega,by omega,by go_num,by rw[HL2.out],HB1.out,HF⟩
  ·have HF:Hid (X=none):=by show _=_;rw[HX.out,NH _ _ _ (by simp;omega)]
   have hlt':decide ((k:Int)<(src.size:Int))=false:=decide_eq_false (by omega)
   clear HX hb;generalize aU (src.data.toList.take k)=L at*;go_wp2_with fail;go_end0;rw[HF.out];exact⟨HB.out,rfl⟩
structure lN(w:World):Prop where
 n:NTabs w
 p:PTabs w
 u:Lib.Utf8Tabs 4 5 w
theorem lN.below{w w':World}(h:lN w)(hb:Below w.heap.size w w'):lN w':=
 ⟨h.n.fr (sb:=w.heap.size) ⟨hb.os,hb.tape,hb.output,hb.size,fun k hk _=>hb.block k hk⟩ h.n.big,h.p.fr (sb:=w.heap.size) ⟨hb.os,hb.tape,hb.output,hb.size,fun k hk _=>hb.block k hk⟩ h.n.big,AM h.u hb h.n.big⟩
theorem FineA.kid{m:Nat}{f k:aC}(h:Hs.FineA m f)(hk:k∈f.kids):Hs.FineA m k:=fun d=>by
 have h1:=h (d+1);refine⟨?_,h1.2.2 k hk⟩;have h2:=h1.1;rw[bT] at h2;have:=tF (f:=bT d) hk;omega
theorem FineA.kids{m:Nat}{f:aC}(h:Hs.FineA m f)(d:Nat):f.kids.length<=m/\(f.kids.map (bT d)).sum<=m:=by
 have h1:=(h (d+1)).1;have h2:=(h 2).1;rw[bT] at h1 h2;have h3:f.kids.length<=(f.kids.map (bT 1)).sum:=oQ 0 f.kids;exact⟨by omega,by omega⟩
def rX(l:List UInt8):Except (Nat × Nat) (List aP):=
 if 2000<l.length then .error (1,0)
 else match dE l.length l 0 with
  |some k=>.error (2,aU (l.take k))
  |none=>
   match fI l with
   |.error n=>.error (3,n)
   |.ok ts=>.ok ts
theorem CL(l:List UInt8):cX l=match rX l with
 |.error f=>.error f
 |.ok ts=>match jR ts with
  |.error n=>.error (4,n)
  |.ok (ks,_)=>.ok ks:=by
 unfold cX rX;by_cases h:2000<l.length
 ·rw[if_pos h,if_pos h]
 ·rw[if_neg h,if_neg h];cases dE l.length l 0 with
  |some k=>rfl
  |none=>
   cases fI l with
   |error n=>rfl
   |ok ts=>rfl
theorem VN{l:List UInt8}{ts:List aP}(h:rX l=.ok ts):fI l=.ok ts/\l.length<=2000:=by
 unfold rX at h;split at h
 ·cases h
 ·split at h
  ·cases h
  ·split at h
   ·cases h
   ·cases h;exact⟨by assumption,by omega⟩
theorem WY{l:List UInt8}{f:Nat × Nat}(h:rX l=.error f):f.1≠0:=by
 unfold rX at h;split at h
 ·cases h;simp
 ·split at h
  ·cases h;simp
  ·split at h
   ·cases h;simp
   ·cases h
def SX(l:List UInt8)(w:World)(e:Ending)(w':World):Prop:=
 Below w.heap.size w w'/\
  match rX l with
  |.error f=>e=dC f.1 f.2
  |.ok ts=>∃v,e=.returned (.agg #[v,.int .i64 0])/\w'.ownsRow w.heap.size 206 4 v ts.length (ptoks ts)
def GW(l:List UInt8)(w:World)(e:Ending)(w':World):Prop:=
 Below w.heap.size w w'/\((dL l=(0,0)/\∃v ks,e=.returned v/\cX l=.ok ks/\FSl (Btw w.heap.size w'.heap.size) w' v ks)\/((dL l).1≠0/\e=dC (dL l).1 (dL l).2))
theorem TK{ks:List aC}(d:Nat)(h:qN ks=false)(hk:∀f∈ks,1<=f.kids.length):kJ d ks=(5,0):=by
 unfold kJ;unfold qN kV at h;cases hf:dM ks [109,97,105,110] with
 |none=>rfl
 |some m=>
  rw[hf] at h;have h1:=hk m (av_ hf)
  have h2:¬m.kids.length-1=0:=by
   intro e;rw[show (([109,97,105,110]:List UInt8)==[108,101,110])=false by decide,show (([109,97,105,110]:List UInt8)==[114,101,97,100])=false by decide] at h
   simp[e] at h
  show (if 1<m.kids.length then _ else _)=_
  rw[if_pos (by omega)]
theorem J5{ks:List aC}(d:Nat)(h:qN ks=true):kJ d ks=((eW ks d [] ks ⟨[],0,0⟩).kind,(eW ks d [] ks ⟨[],0,0⟩).line):=by
 unfold kJ;unfold qN kV at h;rw[show (([109,97,105,110]:List UInt8)==[108,101,110])=false by decide,show (([109,97,105,110]:List UInt8)==[114,101,97,100])=false by decide] at h
 cases hf:dM ks [109,97,105,110] with
 |none=>rw[hf] at h;simp at h
 |some m=>
  rw[hf] at h;simp at h;show (if 1<m.kids.length then _ else _)=_
  rw[if_neg (by omega)]
theorem FSl.grow{F G:Nat->Prop}{w w':World}{v:Value}{fs:List aC}(h:FSl F w v fs)(hk:∀b,F b->w'.heap[b]?=w.heap[b]?)(hF:∀b,F b->G b):FSl G w' v fs:=by
 rcases h with h|⟨g,cap,cur,us,h1,h2,h3,h4,h5,h6⟩
 ·exact Or.inl h
 ·exact Or.inr ⟨g,cap,cur,us,h1,hF g h2,by rw[hk g h2];exact h3,h4,h5,h6.mono fun _ _ h=>h.keep hk hF⟩
theorem Y3{w:World}{b:Nat}{v:Value}{ts:List aP}(h:w.ownsRow b 206 4 v ts.length (ptoks ts))(hp:0<ts.length):∃g cap cur,v=.slice (some ⟨g,0,none⟩) ts.length cap/\b<=g/\ts.length<=cap/\w.heap[g]?=some (.cells cur 206 (0,0))/\cur.toList.take (ts.length*4)=ptoks ts:=by
 rcases h.2 with ⟨r1,r2⟩|⟨g,cap,cur,r1,r2,r3,r4,r5,r6,r7⟩
 ·omega
 ·exact⟨g,cap,cur,r1,r2,r4,r3,r7⟩
theorem KO(src:ByteArray)(w:World)(hT:lN w)(hs:src.size<=maxLen):
 Calls prog 76 #[.string src] w (SX src.data.toList w):=by
 have hln:src.data.toList.length=src.size:=by simp
 obtain⟨l,hl⟩:∃l,l=src.data.toList:=⟨_,rfl⟩;rw[<-hl] at hln ⊢
 obtain⟨w0,hw0⟩:∃w0,w0=w.alloc (.cells #[.slice none 0 0,.int .i64 0] 144):=⟨_,rfl⟩;have hb0:Below w.heap.size w w0:=by rw[hw0];exact(m8 _ _).alloc (l9 _) _
 have hblk0:w0.heap[w.heap.size]?=some (.cells #[.slice none 0 0,.int .i64 0] 144 (0,0)):=by rw[hw0];exact aT _ _ rfl _
 have hsz0:w0.heap.size=w.heap.size+1:=by rw[hw0];simp
 have HLE:=aB (UA src w0 hs);have HL:=aB hl;have HT:=aB (hT.below hb0);have HB0:=aB hb0;have HK0:=aB hblk0;have HW0:=aB hw0;clear hl hT hb0 hblk0 hw0;go_enter Tryz.func76,Tryz.ntmps76;go_wp2_with fail;rw[<-HW0.out];refine HLE.out.mono ?_;rintro e w1 ⟨hw,⟨hsz,rfl⟩|⟨hsz,rfl⟩⟩
 rotate_left
 ·obtain rfl:=hw.symm
  have HF:Hid (rX l=.error (1,0)):=by
   show _=_
   unfold rX;rw[if_pos (by omega)]
  go_wp2_with fail;exact⟨rfl,HB0.out,by rw[HF.out];rfl⟩
 obtain rfl:=hw.symm;have HE:=aB (U5 src w0 HT.out.u HT.out.n.big hsz);rw[<-HL.out,<-hln] at HE;have hlen:¬2000<l.length:=by omega
 clear hw HLE;go_wp2_with fail;refine HE.out.mono ?_;rintro e w1 ⟨hb1,he1⟩;cases hsp:dE l.length l 0 with
 |some k=>
  rw[hsp] at he1;obtain rfl:e=dC 2 (aU (l.take k)):=he1;have HF:Hid (rX l=.error (2,aU (l.take k))):=by show _=_;unfold rX;rw[if_neg hlen,hsp]
  have HB1:=aB (HB0.out.trans (hb1.mono HB0.out.size));clear hb1 HE hsp;go_wp2_with fail;exact⟨rfl,HB1.out,by rw[HF.out];rfl⟩
 |none=>
  rw[hsp] at he1;obtain rfl:e=.returned (.tuple #[]):=he1;have HSC:=aB (F7 src w1 (HT.out.below hb1).n (HT.out.below hb1).p hsz);rw[<-HL.out] at HSC;have HB1:=aB hb1
  have hR1:rX l=match fI l with
   |.error n=>.error (3,n)
   |.ok ts=>.ok ts:=by unfold rX;rw[if_neg hlen,hsp]
  have HR1:=aB hR1;clear hb1 HE hsp hR1;go_wp2_with fail;refine HSC.out.mono ?_;rintro e w2 ⟨hb2,he2⟩;cases htk:fI l with
  |error n=>
   rw[htk] at he2;obtain rfl:e=dC 3 n:=he2;have HF:Hid (rX l=.error (3,n)):=by show _=_;rw[HR1.out,htk]
   have HB2:=aB (HB0.out.trans ((HB1.out.trans (hb2.mono HB1.out.size)).mono HB0.out.size));clear hb2 HSC htk HR1;go_wp2_with fail;exact⟨rfl,HB2.out,by rw[HF.out];rfl⟩
  |ok ts=>
   rw[htk] at he2;obtain⟨v,rfl,hown⟩:=he2
   obtain⟨x,c,rfl⟩:∃x c,v=.slice x ts.length c:=by
    rcases hown.2 with ⟨r1,r2⟩|⟨g,cap,cur,r1,_⟩
    ·exact⟨none,0,by rw[r1,r2]⟩
    ·exact⟨_,_,r1⟩
   have HF:Hid (rX l=.ok ts):=by show _=_;rw[HR1.out,htk]
   have hs12:=HB1.out.size
   have hblk2:w2.heap[w.heap.size]?=some (.cells #[.slice none 0 0,.int .i64 0] 144 (0,0)):=by
    rw[hb2.block _ (by omega),HB1.out.block _ (by omega)];exact HK0.out
   have hlt2:=aD hblk2;have m0:=aA hblk2 (i:=0) rfl;have m1:=aA hblk2 (i:=1) rfl;have fz:=aE hblk2 (i:=0);have fz1:=aE hblk2 (i:=1);have HB2:=aB (HB0.out.trans ((HB1.out.trans (hb2.mono HB1.out.size)).mono HB0.out.size));have HO2:=aB hown;clear hown hb2 HSC htk HR1 hblk2;go_wp2_with fail;refine bodyPost_ret (v:=.agg #[.slice x ts.length c,.int .i64 0]) (by simp[results,Tryz.results76,go_sem,m0,m1]) rfl ?_
   refine⟨(HB2.out.setCell (by simp) _).setCell (by simp) _,?_⟩
   rw[HF.out];refine⟨_,rfl,?_⟩;have ho:=HO2.out;rcases ho.2 with hn|⟨g,cap,cur,r1,r2,r3,r4⟩
   ·exact⟨ho.1,Or.inl hn⟩
   ·refine⟨ho.1,Or.inr ⟨g,cap,cur,r1,by omega,?_,r4⟩⟩
    rw[m7 _ _ _ _ (by show g≠w.heap.size;omega),m7 _ _ _ _ (by show g≠w.heap.size;omega)]
    exact r3
theorem XT(src:ByteArray)(w:World)(hT:lN w)(hs:src.size<=maxLen):
 Calls prog 44 #[.string src] w (GW src.data.toList w):=by
 have HPO:=aB (KO src w hT hs);obtain⟨l,hl⟩:∃l,l=src.data.toList:=⟨_,rfl⟩;rw[<-hl] at HPO ⊢
 clear hl hT;go_enter Tryz.func44,Tryz.ntmps44;go_wp2_with fail;refine HPO.out.mono ?_;rintro e w2 ⟨hb2,he2⟩
 cases htr:rX l with
  |error f=>
   rw[htr] at he2;obtain rfl:e=dC f.1 f.2:=he2;have HF:Hid (dL l=f):=by show _=_;unfold dL;rw[CL,htr]
   have HK:=aB (WY htr);have HB2:=aB hb2;clear hb2 HPO htr;go_wp2_with fail;exact⟨rfl,HB2.out,by rw[HF.out];exact Or.inr ⟨HK.out,rfl⟩⟩
  |ok ts=>
   rw[htr] at he2;obtain⟨v,rfl,hown⟩:=he2;have htk:=(VN htr).1;have hlen:=(VN htr).2;have hall:=sA htk
   have hR2:cX l=match jR ts with
    |.error n=>.error (4,n)
    |.ok (ks,_)=>.ok ks:=by rw[CL,htr]
   have HR2:=aB hR2;obtain⟨g,cap,cur,rfl,hg,hcap,hrow,hcur⟩:=Y3 hown hall.1.some_;have hgl:=aD hrow
   have hat:PAt ⟨w2.heap.size,g,cap,ts⟩ (w2.alloc (.cells #[.slice (some ⟨g,0,none⟩) ts.length cap,.int .i64 0] 144)) 0:=
    ⟨aT _ _ rfl _,⟨cur,oS _ _ hgl _ hrow,hcur⟩,by show g≠w2.heap.size;omega,hall.1.some_,by show ts.length<=3000;omega,hcap,hall.1,MT htk⟩
   have HP:=aB (NU ⟨w2.heap.size,g,cap,ts⟩ (w2.alloc (.cells #[.slice (some ⟨g,0,none⟩) ts.length cap,.int .i64 0] 144)) hat (bQ.prog hall.1.ok hall.1.some_));have HB2:=aB hb2;clear hown hb2 HPO htr htk hR2 hat hrow hcur hall;go_wp2_with fail;refine HP.out.mono ?_;rintro e w3 ⟨hf3,ho3⟩;have hb3:Below w2.heap.size w2 w3:=⟨hf3.os.trans rfl,hf3.tape.trans rfl,hf3.output.trans rfl,p7 (by simp) hf3.size,fun k hk=>by rw[hf3.block k (by simp;omega) (by show k≠w2.heap.size;omega)];exact o9 _ _ _ hk⟩
   have HB3:=aB (HB2.out.trans (hb3.mono HB2.out.size));cases hpr:jR ts with
   |error n=>
    rw[hpr] at ho3;obtain rfl:e=dC 4 n:=ho3;have HF:Hid (dL l=(4,n)):=by show _=_;unfold dL;rw[HR2.out,hpr]
    clear hf3 hb3 HP hpr HR2;go_wp2_with fail;exact⟨rfl,HB3.out,by rw[HF.out];exact Or.inr ⟨by simp,rfl⟩⟩
   |ok kq=>
    obtain⟨ks,q⟩:=kq;rw[hpr] at ho3;obtain⟨_,v3,rfl,hv3⟩:=ho3;have hpl:cX l=.ok ks:=by rw[HR2.out,hpr]
    have hfine:=kR hpl;have HF:Hid (dL l=kJ 2001 ks):=by show _=_;unfold dL;rw[hpl]
    have hfl:=FineL.len hfine;have hfk:∀f∈ks,f.kids.length<=90000:=fun f hf=>by have:=(FineA.kids (FineL.mem hfine hf) 0).1;omega
    have hdd:∀f∈ks,∀k∈f.kids,eZ 2001 k:=fun f hf k hk=>nP 2001 k (FineA.kid (FineL.mem hfine hf) hk)
    have hww:∀f∈ks,f.kids.length+(f.kids.map (bT 2001)).sum<=90000:=fun f hf=>by have:=FineA.kids (FineL.mem hfine hf) 2001;omega
    have hfs:FSl (Btw (w2.alloc (.cells #[.slice (some ⟨g,0,none⟩) ts.length cap,.int .i64 0] 144)).heap.size w3.heap.size) w3 v3 ks:=hv3
    obtain⟨fx,fc,rfl⟩:∃x c,v3=.slice x ks.length c:=by
     rcases hfs.cells with ⟨h1,h2⟩|⟨g,cap,h1,_⟩
     ·exact⟨none,0,by rw[h1,h2];rfl⟩
     ·exact⟨_,_,h1⟩
    have HKI:=aB hfs.kids;have HM:=aB (UZ ks _ _ w3 (by omega) hfk hfs)
    have HFS:=aB hfs;have HFK:=aB hfk;have HDD:=aB hdd;have HWW:=aB hww;have HPL:=aB hpl;clear hf3 hb3 HP hpr HR2 hv3 hpl hfine hfk hdd hww hfs;go_wp2_with fail;refine HM.out.mono ?_;rintro e w4 ⟨hb4,⟨hmo,rfl⟩|⟨hmo,rfl⟩⟩
    rotate_left
    ·have HB4:=aB (HB3.out.trans (hb4.mono HB3.out.size));have HF2:Hid (dL l=(5,0)):=by show _=_;rw[HF.out,TK 2001 hmo HKI.out]
     clear hb4 hmo HM;go_wp2_with fail;exact⟨rfl,HB4.out,by rw[HF2.out];exact Or.inr ⟨by decide,rfl⟩⟩
    have HB4:=aB (HB3.out.trans (hb4.mono HB3.out.size));have HF2:Hid (dL l=((eW ks 2001 [] ks ⟨[],0,0⟩).kind,(eW ks 2001 [] ks ⟨[],0,0⟩).line)):=by show _=_;rw[HF.out,J5 2001 hmo]
    have HN:=aB (QR (w2.alloc (.cells #[.slice (some ⟨g,0,none⟩) ts.length cap,.int .i64 0] 144)).heap.size ks (.slice fx ks.length fc) w4 2001 (by omega) HFK.out (HFS.out.grow (fun b hb=>hb4.block b hb.2) fun b hb=>⟨hb.1,m9 hb.2 hb4.size⟩) HDD.out HWW.out)
    have HF4:=aB (HFS.out.grow (G:=Btw w.heap.size w4.heap.size) (fun b hb=>hb4.block b hb.2) fun b hb=>⟨by have h1:=hb.1;have h2:=HB2.out.size;simp at h1;omega,m9 hb.2 hb4.size⟩)
    clear hb4 hmo HM HF HFK HDD HWW HKI HFS;generalize (eW ks 2001 [] ks ⟨[],0,0⟩).kind=kd at*;generalize (eW ks 2001 [] ks ⟨[],0,0⟩).line=ld at*;go_wp2_with fail;refine HN.out.mono ?_;rintro e w5 ⟨hb5,⟨hk5,hl5,rfl⟩|⟨hk5,rfl⟩⟩
    ·have HB5:=aB (HB4.out.trans (hb5.mono HB4.out.size));have HF3:Hid (dL l=(0,0)):=by show _=_;rw[HF2.out,hk5,hl5]
     have HF5:=aB (HF4.out.grow (G:=Btw w.heap.size w5.heap.size) (fun b hb=>hb5.block b hb.2) fun b hb=>⟨hb.1,m9 hb.2 hb5.size⟩)
     clear hb5 hk5 hl5 HN;go_wp2_with fail;go_ret;exact⟨HB5.out,Or.inl ⟨HF3.out,_,ks,rfl,HPL.out,HF5.out⟩⟩
    ·have HB5:=aB (HB4.out.trans (hb5.mono HB4.out.size));have HK5:=aB hk5;clear hb5 hk5 HN;go_wp2_with fail;exact⟨rfl,HB5.out,by rw[HF2.out];exact Or.inr ⟨HK5.out,rfl⟩⟩
end Go.Proofs.YtblbkfdhjfppkaaGreatDoor
