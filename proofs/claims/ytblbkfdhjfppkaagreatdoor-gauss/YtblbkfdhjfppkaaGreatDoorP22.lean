/- Contracts of the program: the next state: what it comes to. -/
import Derived.Test.YtblbkfdhjfppkaaGreatDoorP21
import Derived.Test.YtblbkfdhjfppkaaGreatDoorP10
set_option maxRecDepth 100000
set_option maxHeartbeats 4000000
namespace Go.Proofs.YtblbkfdhjfppkaaGreatDoor
open Hs
open Go.RowKit
theorem sH{w:World}{base n k:Nat}{t:TypeId}{v:Value}{ys:List Value}(h:w.ownsRow base t k v n ys):∃x l c,v=.slice x l c:=by
 obtain⟨x,c,e⟩:=cP h;exact⟨x,n,c,e⟩
theorem yG.of{w w':World}{own:List Nat}(h:kI w)(hb:Below w.heap.size w w')(ho:∀k∈own,w.heap.size≤k):yG own w':=fun W hW=>by
 cases hg:Tryz.prog.globalNamed "internal/strconv.uint64pow10" with
 |none=>unfold kI Lib.TabIs World.var? at h;rw[hg] at h;cases h
 |some g=>
  have hgl:g<w.heap.size:=by
   unfold kI Lib.TabIs World.var? at h;rw[hg] at h;simp only[Option.bind_some] at h;rcases Nat.lt_or_ge g w.heap.size with h1|h1
   ·exact h1
   ·rw[Array.getElem?_eq_none (by exact h1)] at h
    cases h
  refine h.keep hg ?_;rw[hW.block g (Nat.lt_of_lt_of_le hgl hb.size) (fun hm=>by have:=ho g hm;omega),hb.block g hgl]
theorem mX.form{fp:Nat→Value}{F:Nat→Prop}{w:World}{v:Value}{s:bW}(h:mX fp F w v s):∃fv tv xo,v=.agg #[.int .i64 s.time,fv,tv,xo,.int .i64 s.stop]∧(∃x l c,fv=.slice x l c)∧(∃x l c,tv=.slice x l c)∧(∃x l c,xo=.slice x l c):=by
 obtain⟨fv,tv,xo,fvs,rfl,hrow,hfs,htp,hst⟩:=h;refine⟨fv,tv,xo,rfl,?_,?_,?_⟩
 ·rcases hrow with ⟨_,x,c,e⟩|⟨g,c,cur,e,_⟩<;>exact⟨_,_,_,e⟩
 ·rcases htp with ⟨_,x,c,e⟩|⟨g,o,c,e,_⟩<;>exact⟨_,_,_,e⟩
 ·rcases hst with ⟨_,e⟩|⟨g,c,cu,e,_⟩<;>exact⟨_,_,_,e⟩
theorem OU.run{fp:Nat→Value}{F:Nat→Prop}{base:Nat}{w:World}{gf cap:Nat}{tv outv:Value}{fvs:List FVal}{m:cM}(h:OU fp F base w gf cap tv outv fvs m)(hF:∀b,F b→b<base)(hbase:base≤w.heap.size)(t0 s0:Value):
 cO fp F base (w.alloc (.cells #[t0,.slice (some ⟨gf,0,none⟩) fvs.length cap,tv,outv,s0] 108)) w.heap.size gf cap t0 tv outv s0 fvs m∧∀k∈aF w.heap.size gf outv fvs,base≤k:=by
 generalize hW:w.alloc (.cells #[t0,.slice (some ⟨gf,0,none⟩) fvs.length cap,tv,outv,s0] 108)=W;have hb:Below w.heap.size w W:=by rw[←hW];exact(Below.refl _ w).alloc (Nat.le_refl _) _
 have hsz:W.heap.size=w.heap.size+1:=by rw[←hW];simp
 have hblk:W.heap[w.heap.size]?=some (.cells #[t0,.slice (some ⟨gf,0,none⟩) fvs.length cap,tv,outv,s0] 108 (0,0)):=by rw[←hW];exact aR _ _ rfl _
 have hFk:∀b,F b→W.heap[b]?=w.heap[b]?:=fun b hb'=>hb.block b (Nat.lt_of_lt_of_le (hF b hb') hbase)
 have hin:∀k∈gf::(outv.ownBlock.toList++aS fvs),W.heap[k]?=w.heap[k]?:=fun k hk=>hb.block k (h.rng k hk).2
 refine⟨⟨hblk,aY h.row fun k e=>by cases e;exact hin gf (by simp),kS h.frs hFk fun k hk=>hin k (by simp[hk]),h.tape.keep hFk (fun _ h=>h),aY h.out fun k e=>hin k (by simp[e]),?_,fun k hk=>?_,fun k hk=>?_⟩,fun k hk=>?_⟩
 ·exact List.nodup_cons.2 ⟨fun hm=>by have:=(h.rng _ hm).2;omega,h.nodup⟩
 ·rcases List.mem_cons.1 hk with rfl|hk
  ·omega
  ·have:=(h.rng k hk).2;omega
 ·have h1:=hF k hk;refine⟨by omega,fun hm=>?_⟩
  rcases List.mem_cons.1 hm with rfl|hm
  ·omega
  ·have:=(h.rng k hm).1;omega
 ·rcases List.mem_cons.1 hk with rfl|hk
  ·exact hbase
  ·exact(h.rng k hk).1
theorem PR{fp:Nat→Value}{F:Nat→Prop}{w:World}{v:Value}{s:bW}{ar:Nat→Option Nat}{tab:List eJ}{k:Nat}{r:cM × Nat}(ht:jF ar tab)(htu:iW tab)(h:mX fp F w v s)(hF:∀b,F b→b<w.heap.size)(hT:kH fp F w tab)(hp:kI w)(hs:s.stop=0)
 (hA:fC ar s.m) (hne:s.m.frames≠[]) (hU:fL s.m) (hol:s.m.out.length≤50) (htl:s.m.tape.length≤1000000000) (hk:dN tab k s.m=some r) (htm:s.time+1≤1000000) (hr:r.2≤1000):
 Calls Tryz.prog 163 #[v] w fun e w'=>∃v',e=.returned (.tuple #[v',.bool true])∧Below w.heap.size w w'∧∃G,Ext F G w.heap.size∧(∀b,G b→b<w'.heap.size)∧mX fp G w' v' ⟨s.time+1,r.1,bQ (s.time+1) r.2⟩:=by
 obtain⟨fv,tv,xo,rfl,f1,f2,f3⟩:=h.form
 have hops:∀f∈s.m.frames,f.vars.length≤90001∧f.ops.length≤99000:=fun f hf=>by
  have hq:∃more,cE ar f more:=by
   obtain⟨b,g,e⟩:=mB hne;rw[e] at hf;have hlow:=hA.ok.low;have htop:=hA.ok.top;rw[e,fQ] at hlow;rw[e,eW] at htop;rcases List.mem_append.1 hf with h1|h1
   ·exact⟨1,hlow f h1⟩
   ·rw[List.mem_singleton.1 h1];exact⟨0,htop g rfl⟩
  obtain⟨more,⟨T,hc,hh,_⟩,hn,_,hv⟩:=hq;have h1:=(hc.ins _ _ (List.getElem?_eq_getElem hn)).2.1;have h2:=hc.len;exact⟨hv,by omega⟩
 rw[hs] at h ⊢
 generalize hW2:(w.alloc (.cells #[.int .i64 s.time,fv,tv,xo,.int .i64 (0:Nat)] 108)).alloc (.cells #[.int .i64 0,.slice none 0 0,.slice none 0 0,.slice none 0 0,.int .i64 0] 108)=w2;have hb2:Below w.heap.size w w2:=by rw[←hW2];exact((Below.refl _ w).alloc (Nat.le_refl _) _).alloc (by simp) _
 have hs2:w2.heap.size=w.heap.size+2:=by rw[←hW2];simp
 have hB2:w2.heap[w.heap.size+1]?=some (.cells #[.int .i64 0,.slice none 0 0,.slice none 0 0,.slice none 0 0,.int .i64 0] 108 (0,0)):=by
  rw[←hW2];exact aR _ _ (by simp) _
 have hF2:∀b,F b→b<w2.heap.size:=fun b hb=>Nat.lt_of_lt_of_le (hF b hb) hb2.size
 have h2:mX fp F w2 (.agg #[.int .i64 s.time,fv,tv,xo,.int .i64 (0:Nat)]) s:=by
  have:=h.keep (fun b hb=>hb2.block b (hF b hb)) (fun _ h=>h)
  exact this
 refine(VZ w w2 s.time fv tv xo (fun v' w'=>Below w.heap.size w w'∧∃G,Ext F G w.heap.size∧(∀b,G b→b<w'.heap.size)∧mX fp G w' v' ⟨s.time+1,r.1,bQ (s.time+1) r.2⟩)
  (fun gf n cap tv' xo' W=>∃fvs,n=fvs.length∧Below w2.heap.size w2 W∧OU fp F w2.heap.size W gf cap tv' xo' fvs s.m)
  (fun b W=>∃W0 gf cap tv' outv fvs G,(Below w2.heap.size w2 W∧w2.heap.size≤b)∧(w2.heap.size≤W0∧Ext F G W0)∧cO fp G w2.heap.size W b gf cap (.int .i64 ((s.time+1:Nat):Int)) tv' outv (.int .i64 (bQ (s.time+1) r.2)) fvs r.1∧∀k∈aF b gf outv fvs,w2.heap.size≤k)
  (by omega) f1 f2 f3 hW2 ?_ (fun gf n cap tv' xo' W hq=>?_) (fun b W hq=>?_))
 ·refine(SI h2 hF2 hne hA.ok.deep hops hol).mono ?_;rintro e w' ⟨v',rfl,gf,cap,tv',outv,fvs,rfl,hbw,hc⟩;rw[hs];refine⟨gf,fvs.length,cap,tv',outv,rfl,?_,sH hc.out,fvs,rfl,hbw,hc⟩;rcases hc.tape with ⟨_,x,c,e⟩|⟨g,o,c,e,_⟩<;>exact⟨_,_,_,e⟩
 ·obtain⟨fvs,rfl,hbw,hc⟩:=hq;obtain⟨hrun,hown⟩:=hc.run hF2 hbw.size (.int .i64 ((s.time+1:Nat):Int)) (.int .i64 0);generalize hW':W.alloc (.cells #[.int .i64 ((s.time+1:Nat):Int),.slice (some ⟨gf,0,none⟩) fvs.length cap,tv',xo',.int .i64 0] 108)=W' at hrun;have hbW:Below W.heap.size W W':=by rw[←hW'];exact(Below.refl _ W).alloc (Nat.le_refl _) _
  have hbw':Below w2.heap.size w2 W':=hbw.trans (hbW.mono hbw.size);have hbw0:Below w.heap.size w W':=hb2.trans (hbw'.mono hb2.size);have hTW:kH fp F W' tab:=hT.keep (fun b hb=>hbw0.block b (hF b hb)) fun _ h=>h
  refine(MU ht htu hrun hTW (yG.of hp hbw0 fun k hk=>Nat.le_trans hb2.size (hown k hk)) hbw'.size hA hU hol htl hk (by omega) hr).mono ?_
  rintro e w' ⟨he,hd1,G,gf',cap',tv'',outv',fvs',d1,d2,d3⟩
  have hsub:∀x∈aF W.heap.size gf' outv' fvs',w2.heap.size≤x:=fun x hx=>by
   rcases d3 x hx with h1|h1
   ·exact hown x h1
   ·exact Nat.le_trans hbw'.size h1
  refine⟨he,W'.heap.size,gf',cap',tv'',outv',fvs',G,⟨⟨hd1.os.trans hbw'.os,hd1.tape.trans hbw'.tape,hd1.output.trans hbw'.output,Nat.le_trans hbw'.size hd1.size,fun k hk'=>?_⟩,hbw.size⟩,⟨hbw'.size,d1⟩,d2,hsub⟩
  rw[hd1.block k (Nat.lt_of_lt_of_le hk' hbw'.size) (fun hm=>by have:=hown k hm;omega),hbw'.block k hk']
 ·obtain⟨W0,gf,cap,tv',outv,fvs,G,⟨g1,g2⟩,⟨g3,g4⟩,g5,g6⟩:=hq;have hblk:=g5.blk;refine⟨_,_,_,_,_,hblk,⟨_,_,_,rfl⟩,?_,sH g5.out,by rw[g1.block _ (by omega)];exact hB2,by omega,fun W' hkp hsz=>?_⟩
  ·rcases g5.tape with ⟨_,x,c,e⟩|⟨g,o,c,e,_⟩<;>exact⟨_,_,_,e⟩
  ·have hb0:Below w.heap.size w W:=hb2.trans (g1.mono hb2.size);have hS:=g5.kept (G:=fun k=>G k∨(k∈aF b gf outv fvs∧k≠b)) (fun _ h=>Or.inl h) (fun k hk' hn=>Or.inr ⟨hk',hn⟩)
   have hne1:∀k,(G k∨(k∈aF b gf outv fvs∧k≠b))→k≠w.heap.size+1∧k<W.heap.size:=fun k hk'=>by
    rcases hk' with h1|⟨h1,_⟩
    ·refine⟨?_,(g5.apart k h1).1⟩;rcases g4.new k h1 with h3|h3
     ·have:=hF k h3;omega
     ·omega
    ·have:=g6 k h1;exact⟨by omega,g5.lt k h1⟩
   refine⟨⟨hkp.os.trans hb0.os,hkp.tape.trans hb0.tape,hkp.output.trans hb0.output,by rw[hsz];exact hb0.size,fun k hk'=>?_⟩,fun k=>G k∨(k∈aF b gf outv fvs∧k≠b),⟨fun k hk'=>Or.inl (g4.sub k hk'),fun k hk'=>?_⟩,fun k hk'=>by rw[hsz];exact(hne1 k hk').2,hS.keep (fun k hk'=>hkp.block k (hne1 k hk').2 (by simpa using (hne1 k hk').1)) fun _ h=>h⟩
   ·rw[hkp.block k (Nat.lt_of_lt_of_le hk' hb0.size) (by simp;omega),hb0.block k hk']
   ·rcases hk' with h1|⟨h1,_⟩
    ·rcases g4.new k h1 with h3|h3
     ·exact Or.inl h3
     ·exact Or.inr (by omega)
    ·exact Or.inr (by have:=g6 k h1;omega)
theorem ND(fno:Nat)(p q:Option Addr)(w:World)(Q:World→Prop)(E:Nat→Nat→Prop)
 (hent:∀W,(callFunc fno #[.pointer p,.pointer q]).run Tryz.prog W=.ok (.enter fno #[.pointer p,.pointer q]) W)
 (hC:∀w2,w2=(w.alloc (.cells #[.int .i64 0] 22)).alloc (.cells #[.int .i64 0] 3)→Calls Tryz.prog fno #[.pointer p,.pointer q] w2 fun e w'=>
   (e=.returned (.tuple #[])∧w'.heap[w.heap.size]?=some (.cells #[.int .i64 0] 22 (0,0))∧w'.heap[w.heap.size+1]?=some (.cells #[.int .i64 0] 3 (0,0))∧Q w')∨
   ∃k n,k≠0∧e=.panicked [{ v:=.iface 141 (.agg #[.int .i64 (k:Nat),.int .i64 (n:Nat)]),recovered:=false }]∧Below w2.heap.size w2 w'∧E k n):
 Calls Tryz.prog 42 #[.func (.func fno) #[] #[.pointer p,.pointer q]] w fun e w'=>
  (e=.returned (.tuple #[.int .i64 0,.int .i64 0])∧∃w1,Q w1∧w'=(w1.setCell ⟨w.heap.size,0,none⟩ (.int .i64 0)).setCell ⟨w.heap.size+1,0,none⟩ (.int .i64 0))∨
  ∃k n,k≠0∧e=.returned (.tuple #[.int .i64 (k:Nat),.int .i64 (n:Nat)])∧Below w.heap.size w w'∧E k n:=by
 have hmf:=B8;have hb2:Below w.heap.size w ((w.alloc (.cells #[.int .i64 0] 22)).alloc (.cells #[.int .i64 0] 3)):=((Below.refl _ w).alloc (Nat.le_refl _) _).alloc (by simp) _
 have HC:=aB (hC _ rfl);have hen:=hent ((w.alloc (.cells #[.int .i64 0] 22)).alloc (.cells #[.int .i64 0] 3));clear hC hent;go_enter_defers Tryz.func42,Tryz.ntmps42
 go_wp2_with fail;refine HC.out.mono ?_;rintro e w1 (⟨rfl,hp,hq,hQ⟩|⟨k,n,hk,rfl,hb1,hE⟩)
 ·have HQ:=aB hQ;clear hQ;have c0:=lC hp (i:=0) rfl;have c1:=lC hq (i:=0) rfl;have f0:=nX (i:=0) hp;have f1:=nX (i:=0) hq;have l0:=pP hp;have l1:=pP hq;go_wp2_with fail;refine leaves_cons (f:=75) (args:= #[.pointer (some ⟨w.heap.size,0,none⟩),.pointer (some ⟨w.heap.size+1,0,none⟩)]) (by simp) (by simp[go_sem]) ?_
  refine(SP ⟨w.heap.size,0,none⟩ ⟨w.heap.size+1,0,none⟩ _).mono ?_;rintro e u' w'' ⟨rfl,rfl,rfl⟩;simp[Leaves,settle,results,Tryz.results42,go_sem,c0,c1];exact Or.inl ⟨w1,HQ.out,rfl⟩
 ·have hp:w1.heap[w.heap.size]?=some (.cells #[.int .i64 0] 22 (0,0)):=by rw[hb1.block _ (by simp;omega)];exact nI _ _ _
  have hq:w1.heap[w.heap.size+1]?=some (.cells #[.int .i64 0] 3 (0,0)):=by rw[hb1.block _ (by simp)];exact kR _ _ _
  have HB:Below w.heap.size w w1:=hb2.trans (hb1.mono (by simp;omega))
  have HE:=aB (And.intro hk hE);clear hb1 hb2 HC hE hk;go_wp2_with fail;refine leaves_cons (f:=75) (args:= #[.pointer (some ⟨w.heap.size,0,none⟩),.pointer (some ⟨w.heap.size+1,0,none⟩)]) (by simp) (by simp[go_sem]) ?_
  refine(OJ w.heap.size (w.heap.size+1) k n [] _ hp hq (Nat.lt_succ_self _)).mono ?_;rintro e u' w2 ⟨rfl,rfl,hb3,c0,c1⟩;have hbb:=HB.trans hb3;simp[Leaves,settle,results,Tryz.results42,go_sem,c0,c1];obtain⟨j,rfl⟩:∃j,k=j+1:=⟨k-1,by have:=HE.out.1;omega⟩
  exact Or.inr ⟨j,n,⟨by simp,rfl⟩,hbb,HE.out.2⟩
end Go.Proofs.YtblbkfdhjfppkaaGreatDoor
