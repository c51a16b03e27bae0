/- Contracts of the program: a stop is caught. -/
import Derived.Test.YtblbkfdhjfppkaaGreatDoorB07
import Derived.Test.YtblbkfdhjfppkaaGreatDoorP20
set_option maxRecDepth 100000
set_option maxHeartbeats 4000000
namespace Go.Proofs.YtblbkfdhjfppkaaGreatDoor
open Hs
open Go.RowKit
theorem P5(v:Value)(w:World):(Instr.typeAssert (.iface 353 v) 20 353 true).run Tryz.prog w=.ok (.tuple #[v,.bool true]) w:=by kernel_rfl
theorem TL(fn:Fn)(first cap:Array Value)(w:World):(Instr.makeFunc fn first cap).run Tryz.prog w=.ok (.func fn first cap) w:=rfl
theorem SN(p k:Nat)(older:List PanicEntry)(w:World)(hp:w.heap[p]?=some (.cells #[.int .i64 0] 61 (0,0))):
 CallsD Tryz.prog 234 #[.pointer (some ⟨p,0,none⟩)] (.panicking ({ v:=.iface 353 (.int .i64 k),recovered:=false }::older)) w fun e u' w'=>
  e=.returned (.tuple #[])∧u'=.panicking ({ v:=.iface 353 (.int .i64 k),recovered:=true }::older)∧w'=w.setCell ⟨p,0,none⟩ (.int .i64 k):=by
 have c0:w.cell? ⟨p,0,none⟩=some (.int .i64 0):=aA hp rfl;have f0:=aE (i:=0) hp;have l0:=aD hp;have hft:=P5;refine callsD_of_wpS Tryz.func234 rfl fun c₀ cs hu=>?_
 apply wpS_seq
 apply wpS_region
 simp[wpOpsS,go_sem,recoverD,hu,Tryz.ntmps234,Exit.thenS];refine wpS_of_wp ?_;clear hp;go_wp2_with fail;exact⟨rfl,_,rfl,.tuple #[],by simp[results,Tryz.results234],rfl,rfl,rfl⟩
theorem SO(p:Addr)(w:World):
 CallsD Tryz.prog 234 #[.pointer (some p)] .returning w fun e u' w'=>e=.returned (.tuple #[])∧u'=.returning∧w'=w:=by
 refine callsD_of_wpS Tryz.func234 rfl fun c₀ cs hu=>?_
 apply wpS_seq
 apply wpS_region
 simp[wpOpsS,go_sem,recoverD,hu,Tryz.ntmps234,Exit.thenS];refine wpS_of_wp ?_;go_wp2_with fail;exact⟨rfl,c₀.mode,rfl,.tuple #[],by simp[results,Tryz.results234],rfl,hu,rfl⟩
theorem PM(fno:Nat)(p:Addr)(w:World)(R:Nat→World→Prop)(hent:∀a W,(callFunc fno #[a]).run Tryz.prog W=.ok (.enter fno #[a]) W)
 (hC:Calls Tryz.prog fno #[.pointer (some p)] (w.alloc (.cells #[.int .i64 0] 61)) fun e w'=>∃k,R5 k e∧R k w'∧w'.heap[w.heap.size]?=some (.cells #[.int .i64 0] 61 (0,0))):
 Calls Tryz.prog 169 #[.func (.func fno) #[.pointer (some p)] #[]] w fun e w'=>∃(k:Nat) (w1:World),e=.returned (.int .i64 k)∧R k w1∧w'=w1.setCell ⟨w.heap.size,0,none⟩ (.int .i64 k):=by
 have hmf:=TL;have hen:=hent (.pointer (some p)) (w.alloc (.cells #[.int .i64 0] 61));have HC:=aB hC;clear hC hent;go_enter_defers Tryz.func169,Tryz.ntmps169
 go_wp2_with fail;refine HC.out.mono ?_;rintro e w1 ⟨k,hr,hR,hp⟩;have HR:=aB hR;have c0:w1.cell? ⟨w.heap.size,0,none⟩=some (.int .i64 0):=aA hp rfl;have f0:=aE (i:=0) hp;have l0:=aD hp;clear hR HC;rcases hr with ⟨rfl,rfl⟩|⟨hr,rfl⟩
 ·go_wp2_with fail;refine leaves_cons (f:=234) (args:= #[.pointer (some ⟨w.heap.size,0,none⟩)]) (by simp) (by simp[go_sem]) ?_
  refine(SO ⟨w.heap.size,0,none⟩ _).mono ?_;rintro e u' w'' ⟨rfl,rfl,rfl⟩;simp[Leaves,settle,results,Tryz.results169,go_sem,c0];exact⟨0,rfl,w1,HR.out,rfl⟩
 ·go_wp2_with fail;refine leaves_cons (f:=234) (args:= #[.pointer (some ⟨w.heap.size,0,none⟩)]) (by simp) (by simp[go_sem]) ?_
  refine(SN w.heap.size k [] _ hp).mono ?_;rintro e u' w2 ⟨rfl,rfl,rfl⟩;simp[Leaves,settle,results,Tryz.results169,go_sem,c0];exact⟨k,rfl,w1,HR.out,rfl⟩
theorem C4:(Tryz.prog.info? 3).map (fun i=>(i.zero,i.size,i.bytes))=some (some (.int .i64 0),1,8):=by kernel_rfl
theorem rJ(g off n c:Nat)(news:List Value)(w:World)(hl:news.length=n*1)(hn:n≤1000000)(hc:∀j u,news[j]?=some u→w.cell? ⟨g,off+j,none⟩=some u)(h1:∀u∈news,u.oneCell'=true):
 Calls Tryz.prog 109 #[.slice (some ⟨g,off,none⟩) n c] w fun e w'=>∃v',e=.returned v'∧w'.ownsRow w.heap.size 9 1 v' n news∧Below w.heap.size w w':=by
 obtain⟨i0,hi,hz0,hz1,hz2⟩:=info_parts AW;have HC:=aB hc;clear hc;have q22:∀(w:World) (a:Option Addr) (n c n' c':Nat),(binOp .eql 60 (.slice a n c) (.slice none n' c')).run Tryz.prog w=.ok (.bool a.isNone) w:=fun w a n c n' c'=>Lib.run_eql_slice_nil w _ _ a n c n' c' Tryz.underlying60
 go_enter Tryz.func109,Tryz.ntmps109;go_wp2_with (at_builtin;refine wpList_append_own _ (by rfl) _ _ 60 (by rfl) w.heap.size 9 i0 _ 1 16 Tryz.underlying60 hi hz0 hz1 hz2 rfl (by decide) (.slice (some ⟨w.heap.size,0,none⟩) 0 0) 0 [] (by rfl) (World.ownsRow_made w #[] 0 (Nat.le_refl _) (Nat.zero_le _) (by simp)) ⟨g,off,none⟩ n c news (by rfl) hl (fun j u hj=>by rw[Addr.add_lit];exact gZ _ (HC.out j u hj)) h1 (by unfold maxLen;omega) (by omega) (by simp) ?_)
 intro v' w1 hown hgrow _;have HO:=aB hown;have HG:=aB hgrow;obtain⟨x',c',rfl⟩:=cP hown;clear hown hgrow;go_wp2_with fail;go_ret;refine⟨_,rfl,by simpa using HO.out,?_⟩
 exact((Below.refl _ w).alloc (Nat.le_refl _) _).grown HG.out (by simp) (by intro k hk;simp[Value.ownBlock] at hk;omega)
theorem rI(w:World):
 Calls Tryz.prog 109 #[.slice none 0 0] w fun e w'=>e=.returned (.slice none 0 0)∧w'=w:=by
 have q22:∀(w:World) (a:Option Addr) (n c n' c':Nat),(binOp .eql 60 (.slice a n c) (.slice none n' c')).run Tryz.prog w=.ok (.bool a.isNone) w:=fun w a n c n' c'=>Lib.run_eql_slice_nil w _ _ a n c n' c' Tryz.underlying60
 go_enter Tryz.func109,Tryz.ntmps109;go_wp2_with fail;go_ret;exact⟨rfl,rfl⟩
theorem EA(g off n c:Nat)(news:List Value)(w:World)(hl:news.length=n*1)(hn:n≤1000000)(hc:∀j u,news[j]?=some u→w.cell? ⟨g,off+j,none⟩=some u)(h1:∀u∈news,u.oneCell'=true):
 Calls Tryz.prog 124 #[.slice (some ⟨g,off,none⟩) n c] w fun e w'=>∃v',e=.returned v'∧w'.ownsRow w.heap.size 3 1 v' n news∧Below w.heap.size w w':=by
 obtain⟨i0,hi,hz0,hz1,hz2⟩:=info_parts C4;have HC:=aB hc;clear hc;have q22:∀(w:World) (a:Option Addr) (n c n' c':Nat),(binOp .eql 31 (.slice a n c) (.slice none n' c')).run Tryz.prog w=.ok (.bool a.isNone) w:=fun w a n c n' c'=>Lib.run_eql_slice_nil w _ _ a n c n' c' Tryz.underlying31
 go_enter Tryz.func124,Tryz.ntmps124;go_wp2_with (at_builtin;refine wpList_append_own _ (by rfl) _ _ 31 (by rfl) w.heap.size 3 i0 _ 1 8 Tryz.underlying31 hi hz0 hz1 hz2 rfl (by decide) (.slice (some ⟨w.heap.size,0,none⟩) 0 0) 0 [] (by rfl) (World.ownsRow_made w #[] 0 (Nat.le_refl _) (Nat.zero_le _) (by simp)) ⟨g,off,none⟩ n c news (by rfl) hl (fun j u hj=>by rw[Addr.add_lit];exact gZ _ (HC.out j u hj)) h1 (by unfold maxLen;omega) (by omega) (by simp) ?_)
 intro v' w1 hown hgrow _;have HO:=aB hown;have HG:=aB hgrow;obtain⟨x',c',rfl⟩:=cP hown;clear hown hgrow;go_wp2_with fail;go_ret;refine⟨_,rfl,by simpa using HO.out,?_⟩
 exact((Below.refl _ w).alloc (Nat.le_refl _) _).grown HG.out (by simp) (by intro k hk;simp[Value.ownBlock] at hk;omega)
theorem DZ(w:World):
 Calls Tryz.prog 124 #[.slice none 0 0] w fun e w'=>e=.returned (.slice none 0 0)∧w'=w:=by
 have q22:∀(w:World) (a:Option Addr) (n c n' c':Nat),(binOp .eql 31 (.slice a n c) (.slice none n' c')).run Tryz.prog w=.ok (.bool a.isNone) w:=fun w a n c n' c'=>Lib.run_eql_slice_nil w _ _ a n c n' c' Tryz.underlying31
 go_enter Tryz.func124,Tryz.ntmps124;go_wp2_with fail;go_ret;exact⟨rfl,rfl⟩
theorem EB(g off n c:Nat)(news:List Value)(w:World)(hl:news.length=n*6)(hn:n≤1000000)(hc:∀j u,news[j]?=some u→w.cell? ⟨g,off+j,none⟩=some u)(h1:∀u∈news,u.oneCell'=true):
 Calls Tryz.prog 281 #[.slice (some ⟨g,off,none⟩) n c] w fun e w'=>∃v',e=.returned v'∧w'.ownsRow w.heap.size 195 6 v' n news∧Below w.heap.size w w':=by
 obtain⟨i0,hi,hz0,hz1,hz2⟩:=info_parts FI;have HC:=aB hc;clear hc;have q22:∀(w:World) (a:Option Addr) (n c n' c':Nat),(binOp .eql 106 (.slice a n c) (.slice none n' c')).run Tryz.prog w=.ok (.bool a.isNone) w:=fun w a n c n' c'=>Lib.run_eql_slice_nil w _ _ a n c n' c' Tryz.underlying106
 go_enter Tryz.func281,Tryz.ntmps281;go_wp2_with (at_builtin;refine wpList_append_own _ (by rfl) _ _ 106 (by rfl) w.heap.size 195 i0 _ 6 80 Tryz.underlying106 hi hz0 hz1 hz2 rfl (by decide) (.slice (some ⟨w.heap.size,0,none⟩) 0 0) 0 [] (by rfl) (World.ownsRow_made w #[] 0 (Nat.le_refl _) (Nat.zero_le _) (by simp)) ⟨g,off,none⟩ n c news (by rfl) hl (fun j u hj=>by rw[Addr.add_lit];exact gZ _ (HC.out j u hj)) h1 (by unfold maxLen;omega) (by omega) (by simp) ?_)
 intro v' w1 hown hgrow _;have HO:=aB hown;have HG:=aB hgrow;obtain⟨x',c',rfl⟩:=cP hown;clear hown hgrow;go_wp2_with fail;go_ret;refine⟨_,rfl,by simpa using HO.out,?_⟩
 exact((Below.refl _ w).alloc (Nat.le_refl _) _).grown HG.out (by simp) (by intro k hk;simp[Value.ownBlock] at hk;omega)
theorem XD(w:World)(sb time:Nat)(R:Nat→World→Prop)(P:World→Prop)(ht:time≤1000000)
 (HS:Hid (Calls Tryz.prog 169 #[.func (.func 175) #[.pointer (some ⟨sb,0,none⟩)] #[]] w fun e w'=>∃k:Nat,k≤1000∧e=.returned (.int .i64 k)∧R k w'))
 (HR:Hid (∀k W,R k W→(∃u,W.cell? ⟨sb,4,none⟩=some u)∧W.frozen? ⟨sb,4,none⟩=false∧sb<W.heap.size∧W.cell? ⟨sb,0,none⟩=some (.int .i64 time)))
 (HN:Hid (∀k W,R k W→¬(k=0∧time=500)→P (W.setCell ⟨sb,4,none⟩ (.int .i64 k))))
 (HE:Hid (∀W,R 0 W→time=500→P ((W.setCell ⟨sb,4,none⟩ (.int .i64 0)).setCell ⟨sb,4,none⟩ (.int .i64 9)))):
 Calls Tryz.prog 125 #[.pointer (some ⟨sb,0,none⟩)] w fun e w'=>e=.returned (.tuple #[])∧P w':=by
 have hmf:=TL;go_enter Tryz.func125,Tryz.ntmps125;go_wp2_with fail;refine HS.out.mono ?_;rintro e w1 ⟨k,hk,rfl,h1⟩;obtain⟨⟨u,c1⟩,f1,l1,c0⟩:=HR.out _ _ h1;by_cases h0:k=0
 ·subst h0;by_cases h5:time=500
  ·subst h5;have HP:=aB (HE.out _ h1 rfl);clear h1;go_wp2_with fail;go_end0;exact⟨rfl,HP.out⟩
  ·have HP:=aB (HN.out _ _ h1 (fun h=>h5 h.2))
   have e1:¬(time:Int)=500:=by omega
   clear h1;go_wp2_with fail;go_end0;exact⟨rfl,HP.out⟩
 ·have HP:=aB (HN.out _ _ h1 (fun h=>h0 h.1))
  have e1:¬(k:Int)=0:=by omega
  clear h1;go_wp2_with fail;go_end0;exact⟨rfl,HP.out⟩
section
variable {fp:Nat→Value} {F:Nat→Prop} {base:Nat} {w:World} {sb gf cap:Nat} {t0 tv outv s0:Value} {fvs:List FVal}
theorem cO.setStop{m:cM}(h:cO fp F base w sb gf cap t0 tv outv s0 fvs m)(x:Value):cO fp F base (w.setCell ⟨sb,4,none⟩ x) sb gf cap t0 tv outv x fvs m∧Kept (aF sb gf outv fvs) w (w.setCell ⟨sb,4,none⟩ x):=by
 obtain⟨n1,n2⟩:=List.nodup_cons.1 h.nodup;have hk:∀k,k≠sb→(w.setCell ⟨sb,4,none⟩ x).heap[k]?=w.heap[k]?:=fun k hk=>Below.heap_setCell _ _ _ _ hk
 have hFk:∀b,F b→(w.setCell ⟨sb,4,none⟩ x).heap[b]?=w.heap[b]?:=fun b hb=>hk b fun e=>(h.apart b hb).2 (by simp[aF,e])
 refine⟨⟨aQ h.blk,aY h.row fun k e=>hk k ?_,h.frs.keep hFk (fun _ h=>h) fun v hv k hkm=>hk k ?_,h.tape.keep hFk (fun _ h=>h),aY h.out fun k e=>hk k ?_,h.nodup,fun k hk=>by simpa using h.lt k hk,fun k hk=>by simpa using h.apart k hk⟩,⟨rfl,rfl,rfl,by simp,fun k _ hn=>hk k fun e=>hn (by simp[aF,e])⟩⟩
 ·cases e;exact fun e=>n1 (by simp[←e])
 ·have hm:k∈aS fvs:=List.mem_flatMap.2 ⟨v,hv,hkm⟩;exact fun e=>n1 (by simp[←e,hm])
 ·exact fun e2=>n1 (by simp[←e2,e])
theorem N6(a:Value)(W:World):(callFunc 175 #[a]).run Tryz.prog W=.ok (.enter 175 #[a]) W:=by kernel_rfl
theorem MU{ar:Nat→Option Nat}{tab:List eJ}{m:cM}{k time:Nat}{r:cM × Nat}(ht:jF ar tab)(htu:iW tab)(h:cO fp F base w sb gf cap (.int .i64 time) tv outv s0 fvs m)(hT:kH fp F w tab)(hp:yG (aF sb gf outv fvs) w)(hbase:base≤w.heap.size)
 (hA:fC ar m) (hU:fL m) (hol:m.out.length≤50) (htl:m.tape.length≤1000000000) (hk:dN tab k m=some r) (htm:time≤1000000) (hr9:r.2≤1000):
 Calls Tryz.prog 125 #[.pointer (some ⟨sb,0,none⟩)] w fun e w'=>e=.returned (.tuple #[])∧Done fp F base sb (.int .i64 time) (.int .i64 (bQ time r.2)) (aF sb gf outv fvs) w r.1 w':=by
 have hal:Below w.heap.size w (w.alloc (.cells #[.int .i64 0] 61)):=(Below.refl _ w).alloc (Nat.le_refl _) _;have h0:=h.grow hal (fun _ h=>h) (fun _ h=>Or.inl h)
 have hT0:kH fp F (w.alloc (.cells #[.int .i64 0] 61)) tab:=hT.keep (fun x hx=>hal.block x (h.apart x hx).1) fun _ h=>h
 have hK0:Kept (aF sb gf outv fvs) w (w.alloc (.cells #[.int .i64 0] 61)):=Kept.of_below hal;have hX:=wR ht htu h0 hT0 (hp.step hK0 fun _ h=>Or.inl h) (Nat.le_trans hbase hK0.size) hA hU hol htl hk
 have hfirst:(w.alloc (.cells #[.int .i64 0] 61)).heap[w.heap.size]?=some (.cells #[.int .i64 0] 61 (0,0)):=aR _ _ rfl _;have hnew:w.heap.size∉aF sb gf outv fvs:=fun hm=>by have:=h.lt _ hm;omega
 have hS:=PM 175 ⟨sb,0,none⟩ w (fun k W=>k=r.2∧Done fp F base sb (.int .i64 time) s0 (aF sb gf outv fvs) (w.alloc (.cells #[.int .i64 0] 61)) r.1 W) N6 (hX.mono fun e w' hd=>by
  obtain⟨he,hd⟩:=hd;refine⟨r.2,he,⟨rfl,hd⟩,?_⟩;rw[hd.1.block _ (by simp) hnew];exact hfirst)
 generalize hw0:w.alloc (.cells #[.int .i64 0] 61)=w0 at*
 have hD:∀W x,Done fp F base sb (.int .i64 time) s0 (aF sb gf outv fvs) w0 r.1 W→Done fp F base sb (.int .i64 time) s0 (aF sb gf outv fvs) w r.1 (W.setCell ⟨w.heap.size,0,none⟩ x):=fun W x hd=>by
  obtain⟨d1,G,gf',cap',tv',outv',fvs',d2,d3,d4⟩:=hd;have hsz:w.heap.size<w0.heap.size:=by rw[←hw0];simp
  have hnG:¬F w.heap.size:=fun hF=>by have:=(h.apart _ hF).1;omega
  have hno:w.heap.size∉aF sb gf' outv' fvs':=fun hm=>by
   rcases d4 _ hm with h1|h1
   ·exact hnew h1
   ·omega
  have hnG2:∀b,G b→b≠w.heap.size:=fun b hb e=>by
   subst e;rcases d2.new _ hb with h1|h1
   ·exact hnG h1
   ·omega
  have hk:∀k,k≠w.heap.size→(W.setCell ⟨w.heap.size,0,none⟩ x).heap[k]?=W.heap[k]?:=fun k hk=>Below.heap_setCell _ _ _ _ hk
  have hko:∀k∈aF sb gf' outv' fvs',(W.setCell ⟨w.heap.size,0,none⟩ x).heap[k]?=W.heap[k]?:=fun k hm=>hk k fun e=>hno (by rw[←e];exact hm)
  have hFk:∀b,G b→(W.setCell ⟨w.heap.size,0,none⟩ x).heap[b]?=W.heap[b]?:=fun b hb=>hk b (hnG2 b hb)
  refine⟨⟨d1.os.trans hK0.os,d1.tape.trans hK0.tape,d1.output.trans hK0.output,Nat.le_trans hK0.size (by simpa using d1.size),fun k h1 h2=>?_⟩,G,gf',cap',tv',outv',fvs',d2.le (Nat.le_of_lt hsz),⟨by rw[hko sb (by simp[aF])];exact d3.blk,aY d3.row fun k e=>?_,d3.frs.keep hFk (fun _ h=>h) fun v hv k hkm=>hko k ?_,d3.tape.keep hFk (fun _ h=>h),aY d3.out fun k e=>hko k (by simp[aF,e]),d3.nodup,fun k hk=>by simpa using d3.lt k hk,fun k hk=>by simpa using d3.apart k hk⟩,fun k hm=>(d4 k hm).imp_right (Nat.le_trans (Nat.le_of_lt hsz))⟩
  ·rw[hk k (by omega),d1.block k (by omega) h2,hK0.block k h1 h2]
  ·cases e;exact hko gf' (by simp[aF])
  ·have hm:k∈aS fvs':=List.mem_flatMap.2 ⟨v,hv,hkm⟩;simp[aF,hm]
 refine(XD w sb time (fun k W=>k=r.2∧Done fp F base sb (.int .i64 time) s0 (aF sb gf outv fvs) w r.1 W) (fun w'=>Done fp F base sb (.int .i64 time) (.int .i64 (bQ time r.2)) (aF sb gf outv fvs) w r.1 w') htm (hS.mono ?_) (fun k W hq=>?_) (fun k W hq hn=>?_) (fun W hq hn=>?_))
 ·rintro e w' ⟨k,w1,rfl,⟨rfl,hd⟩,rfl⟩;exact⟨r.2,hr9,rfl,rfl,hD _ _ hd⟩
 ·obtain⟨_,_,G,gf',cap',tv',outv',fvs',_,d3,_⟩:=hq;exact⟨⟨_,aA d3.blk rfl⟩,aE d3.blk,aD d3.blk,aA d3.blk rfl⟩
 ·obtain⟨rfl,d1,G,gf',cap',tv',outv',fvs',d2,d3,d4⟩:=hq;obtain⟨q1,q2⟩:=d3.setStop (.int .i64 r.2);have e:bQ time r.2=r.2:=if_neg hn;rw[e];exact⟨d1.trans q2 d4,G,gf',cap',tv',outv',fvs',d2,q1,d4⟩
 ·obtain⟨hz,d1,G,gf',cap',tv',outv',fvs',d2,d3,d4⟩:=hq;obtain⟨q1,q2⟩:=d3.setStop (.int .i64 0);obtain⟨q3,q4⟩:=q1.setStop (.int .i64 9);have e:bQ time r.2=9:=if_pos ⟨hz.symm,hn⟩;rw[e];exact⟨(d1.trans q2 d4).trans q4 d4,G,gf',cap',tv',outv',fvs',d2,q3,d4⟩
end
structure R8(fp:Nat→Value)(F:Nat→Prop)(w:World)(v:FVal)(f:aK):Prop where
 fn:YN fp F w v.fp f.fn
 nx:v.nx=.int .i64 f.next
 ln:v.ln=.int .i64 f.line
 sp:eO F w v.sp f.seen
 vars:PVs F w v.vv f.vars
 varsB:∀a∈f.vars,aJ a≤200
 ops:PVs F w v.ov f.ops
 opsB:∀a∈f.ops,aJ a≤200
theorem R8.keep{fp:Nat→Value}{F G:Nat→Prop}{w w':World}{v:FVal}{f:aK}(h:R8 fp F w v f)(hk:∀b,F b→w'.heap[b]?=w.heap[b]?)(hF:∀b,F b→G b):R8 fp G w' v f:=
 ⟨h.fn.keep hk hF,h.nx,h.ln,eO.keep hk hF h.sp,(h.vars.keep hk).mono hF,h.varsB,(h.ops.keep hk).mono hF,h.opsB⟩
def tX(fp:Nat→Value)(F:Nat→Prop)(w:World):List FVal→List aK→Prop
 |[],[]=>True
 |v::vs,f::fs=>R8 fp F w v f∧tX fp F w vs fs
 |_,_=>False
theorem tX.keep{fp:Nat→Value}{F G:Nat→Prop}{w w':World}(hk:∀b,F b→w'.heap[b]?=w.heap[b]?)(hF:∀b,F b→G b):∀{vs:List FVal} {fs:List aK},tX fp F w vs fs→tX fp G w' vs fs
 |[],[],_=>trivial
 |_::_,_::_,⟨h1,h2⟩=>⟨h1.keep hk hF,tX.keep hk hF h2⟩
 |[],_::_,h=>h.elim
 |_::_,[],h=>h.elim
theorem tX.length{fp:Nat→Value}{F:Nat→Prop}{w:World}:∀{vs:List FVal} {fs:List aK},tX fp F w vs fs→vs.length=fs.length
 |[],[],_=>rfl
 |_::_,_::_,⟨_,h⟩=>by simp[tX.length h]
 |[],_::_,h=>h.elim
 |_::_,[],h=>h.elim
theorem tX.get{fp:Nat→Value}{F:Nat→Prop}{w:World}:∀{vs:List FVal} {fs:List aK},tX fp F w vs fs→∀(i:Nat) v f,vs[i]?=some v→fs[i]?=some f→R8 fp F w v f
 |[],[],_,i,v,f,h1,_=>by simp at h1
 |_::_,_::_,⟨h,_⟩,0,v,f,h1,h2=>by simp at h1 h2;subst h1;subst h2;exact h
 |_::_,_::_,⟨_,h⟩,i+1,v,f,h1,h2=>tX.get h i v f (by simpa using h1) (by simpa using h2)
 |[],_::_,h,_,_,_,_,_=>h.elim
 |_::_,[],h,_,_,_,_,_=>h.elim
def TZ(F:Nat→Prop)(w:World)(v:Value)(fvs:List FVal):Prop:=
 (fvs=[]∧∃x c,v=.slice x 0 c)∨∃g c cur,v=.slice (some ⟨g,0,none⟩) fvs.length c∧F g∧w.heap[g]?=some (.cells cur 195 (0,0))∧fvs.length≤c∧cur.toList.take (fvs.length*6)=fS fvs
theorem TZ.keep{F G:Nat→Prop}{w w':World}{v:Value}{fvs:List FVal}(h:TZ F w v fvs)(hk:∀b,F b→w'.heap[b]?=w.heap[b]?)(hF:∀b,F b→G b):TZ G w' v fvs:=by
 rcases h with h|⟨g,c,cur,h1,h2,h3,h4⟩
 ·exact Or.inl h
 ·exact Or.inr ⟨g,c,cur,h1,hF g h2,by rw[hk g h2];exact h3,h4⟩
def GA(F:Nat→Prop)(w:World)(v:Value)(l:List (List UInt8)):Prop:=
 (l=[]∧v=.slice none 0 0)∨∃g c cur,v=.slice (some ⟨g,0,none⟩) l.length c∧F g∧w.heap[g]?=some (.cells cur 9 (0,0))∧l.length≤c∧cur.toList.take l.length=lA l
theorem GA.keep{F G:Nat→Prop}{w w':World}{v:Value}{l:List (List UInt8)}(h:GA F w v l)(hk:∀b,F b→w'.heap[b]?=w.heap[b]?)(hF:∀b,F b→G b):GA G w' v l:=by
 rcases h with h|⟨g,c,cur,h1,h2,h3,h4⟩
 ·exact Or.inl h
 ·exact Or.inr ⟨g,c,cur,h1,hF g h2,by rw[hk g h2];exact h3,h4⟩
def mX(fp:Nat→Value)(F:Nat→Prop)(w:World)(v:Value)(s:bW):Prop:=
 ∃fv tv outv fvs,v=.agg #[.int .i64 s.time,fv,tv,outv,.int .i64 s.stop]∧TZ F w fv fvs∧tX fp F w fvs s.m.frames∧qA F w tv s.m.tape∧GA F w outv s.m.out
theorem mX.keep{fp:Nat→Value}{F G:Nat→Prop}{w w':World}{v:Value}{s:bW}(h:mX fp F w v s)(hk:∀b,F b→w'.heap[b]?=w.heap[b]?)(hF:∀b,F b→G b):mX fp G w' v s:=by
 obtain⟨fv,tv,outv,fvs,h1,h2,h3,h4,h5⟩:=h;exact⟨fv,tv,outv,fvs,h1,h2.keep hk hF,h3.keep hk hF,h4.keep hk hF,h5.keep hk hF⟩
theorem iE.kept{fp:Nat→Value}{F G:Nat→Prop}{base:Nat}{w:World}(hF:∀k,F k→G k):∀{vs:List FVal} {fs:List aK},iE fp F base w vs fs→(∀v∈vs,∀k∈v.owns,G k)→tX fp G w vs fs
 |[],[],_,_=>trivial
 |v::_,_::_,⟨h1,h2⟩,ho=>by
  have hv:=ho v (List.mem_cons_self ..);obtain⟨⟨xs,a1,a2⟩,a3⟩:=h1.vars;obtain⟨⟨ys,b1,b2⟩,b3⟩:=h1.ops;exact⟨⟨h1.fn.keep (fun _ _=>rfl) hF,h1.nx,h1.ln,eO.keep (fun _ _=>rfl) hF h1.sp,PVs.ofRow a1 (a2.mono hF) fun k e=>hv k (by simp[FVal.owns,e]),a3,PVs.ofRow b1 (b2.mono hF) fun k e=>hv k (by simp[FVal.owns,e]),b3⟩,iE.kept hF h2 fun u hu=>ho u (List.mem_cons_of_mem _ hu)⟩
 |[],_::_,h,_=>h.elim
 |_::_,[],h,_=>h.elim
theorem cO.kept{fp:Nat→Value}{F G:Nat→Prop}{base:Nat}{w:World}{sb gf cap time stop:Nat}{tv outv:Value}{fvs:List FVal}{m:cM}(h:cO fp F base w sb gf cap (.int .i64 time) tv outv (.int .i64 stop) fvs m)(hF:∀k,F k→G k)(hG:∀k∈aF sb gf outv fvs,k≠sb→G k):
 mX fp G w (.agg #[.int .i64 time,.slice (some ⟨gf,0,none⟩) fvs.length cap,tv,outv,.int .i64 stop]) ⟨time,m,stop⟩:=by
 obtain⟨n1,n2⟩:=List.nodup_cons.1 h.nodup;have hne:∀k,k∈gf::(outv.ownBlock.toList++aS fvs)→k≠sb:=fun k hk e=>n1 (by rw[←e];exact hk)
 have hg:∀k,k∈gf::(outv.ownBlock.toList++aS fvs)→G k:=fun k hk=>hG k (List.mem_cons_of_mem _ hk) (hne k hk)
 refine⟨_,tv,outv,fvs,rfl,?_,iE.kept hF h.frs fun v hv k hk=>hg k ?_,h.tape.keep (fun _ _=>rfl) hF,?_⟩
 ·rcases h.row.2 with ⟨r1,_⟩|⟨g',cap',cur,r1,r2,r3,r4,r5,r6,r7⟩
  ·cases r1
  ·cases r1;exact Or.inr ⟨gf,cap,cur,rfl,hg gf (by simp),r3,r4,r7⟩
 ·have hm:k∈aS fvs:=List.mem_flatMap.2 ⟨v,hv,hk⟩;simp[hm]
 ·rcases h.out.2 with ⟨r1,r2⟩|⟨g',cap',cur,r1,r2,r3,r4,r5,r6,r7⟩
  ·exact Or.inl ⟨List.eq_nil_of_length_eq_zero r2,r1⟩
  ·exact Or.inr ⟨g',cap',cur,r1,hg g' (by rw[r1];simp[Value.ownBlock]),r3,r4,by simpa using r7⟩
theorem Kept.setCell{own:List Nat}{w W:World}(h:Kept own w W)(p:Addr)(x:Value)(hp:p.block∈own):Kept own w (W.setCell p x):=
 ⟨h.os,h.tape,h.output,by simpa using h.size,fun k hk hn=>by rw[Below.heap_setCell _ _ _ _ fun e=>hn (by rw[e];exact hp),h.block k hk hn]⟩
theorem OB(w w2:World)(time stop x0 n c0:Nat)(fv tv xo:Value)(P:Value→World→Prop)(A:Nat→Nat→World→Prop)(C E:Nat→Nat→Nat→World→Prop)(D1 D2:Nat→Nat→Nat→Option Addr→Nat→Nat→World→Prop)(O:Nat→Nat→Option Addr→Nat→Nat→World→Prop)(hn:n≤100)
 (hfv:fv=.slice (some ⟨x0,0,none⟩) n c0) (hxo:∃xa xl xc,xo=.slice xa xl xc) (htv:∃ta tl tc,tv=.slice ta tl tc)
 (hW:(w.alloc (.cells #[.int .i64 time,fv,tv,xo,.int .i64 stop] 108)).alloc (.cells #[.int .i64 0,.slice none 0 0,.slice none 0 0,.slice none 0 0,.int .i64 0] 108)=w2)
 (HC:Hid (Calls Tryz.prog 281 #[fv] w2 fun e w'=>∃g cap,e=.returned (.slice (some ⟨g,0,none⟩) n cap)∧A g cap w'))
 (HA:Hid (∀g cap W,A g cap W→(∃u,W.cell? ⟨w.heap.size,1,none⟩=some u)∧W.frozen? ⟨w.heap.size,1,none⟩=false∧w.heap.size<W.heap.size∧C g cap 0 (W.setCell ⟨w.heap.size,1,none⟩ (.slice (some ⟨g,0,none⟩) n cap))))
 (HR:Hid (∀g cap j W,C g cap j W→W.cell? ⟨w.heap.size,1,none⟩=some (.slice (some ⟨g,0,none⟩) n cap)∧w.heap.size<W.heap.size∧g<W.heap.size))
 (HV:Hid (∀g cap j W,C g cap j W→j<n→∃x l c,W.cell? ⟨g,j*6+4,none⟩=some (.slice x l c)∧Calls Tryz.prog 282 #[.slice x l c] W fun e w'=>∃x' c',e=.returned (.slice x' l c')∧D1 g cap j x' l c' w'))
 (HD1:Hid (∀g cap j x l c W,D1 g cap j x l c W→(∃u,W.cell? ⟨g,j*6+4,none⟩=some u)∧W.frozen? ⟨g,j*6+4,none⟩=false∧g<W.heap.size∧E g cap j (W.setCell ⟨g,j*6+4,none⟩ (.slice x l c))))
 (HE:Hid (∀g cap j W,E g cap j W→∃x l c,W.cell? ⟨g,j*6+5,none⟩=some (.slice x l c)∧g<W.heap.size∧Calls Tryz.prog 282 #[.slice x l c] W fun e w'=>∃x' c',e=.returned (.slice x' l c')∧D2 g cap j x' l c' w'))
 (HD2:Hid (∀g cap j x l c W,D2 g cap j x l c W→(∃u,W.cell? ⟨g,j*6+5,none⟩=some u)∧W.frozen? ⟨g,j*6+5,none⟩=false∧g<W.heap.size∧C g cap (j+1) (W.setCell ⟨g,j*6+5,none⟩ (.slice x l c))))
 (HO:Hid (∀g cap W,C g cap n W→W.cell? ⟨w.heap.size,3,none⟩=some xo∧Calls Tryz.prog 109 #[xo] W fun e w'=>∃x' l' c',e=.returned (.slice x' l' c')∧O g cap x' l' c' w'))
 (HF:Hid (∀g cap x l c W,O g cap x l c W→(W.cell? ⟨w.heap.size,0,none⟩=some (.int .i64 time)∧W.cell? ⟨w.heap.size,1,none⟩=some (.slice (some ⟨g,0,none⟩) n cap)∧W.cell? ⟨w.heap.size,2,none⟩=some tv∧(∃u,W.cell? ⟨w.heap.size,3,none⟩=some u)∧W.cell? ⟨w.heap.size,4,none⟩=some (.int .i64 stop)∧W.frozen? ⟨w.heap.size,3,none⟩=false∧w.heap.size+1<W.heap.size)∧
   (W.heap[w.heap.size+1]?=some (.cells #[.int .i64 0,.slice none 0 0,.slice none 0 0,.slice none 0 0,.int .i64 0] 108 (0,0)))))
 (HP:Hid (∀g cap x l c W W',O g cap x l c W→Kept [w.heap.size,w.heap.size+1] W W'→W'.heap.size=W.heap.size→P (.agg #[.int .i64 time,.slice (some ⟨g,0,none⟩) n cap,tv,.slice x l c,.int .i64 stop]) W')):
 Calls Tryz.prog 226 #[.agg #[.int .i64 time,fv,tv,xo,.int .i64 stop]] w fun e w'=>∃v,e=.returned v∧P v w':=by
 obtain⟨xa,xl,xc,rfl⟩:=hxo;obtain⟨ta,tl,tc,rfl⟩:=htv;subst hfv;have HW:=aB hW;clear hW;go_enter Tryz.func226,Tryz.ntmps226;go_wp2_with fail;rw[HW.out];refine HC.out.mono ?_;rintro e w3 ⟨g,cap,rfl,h3⟩;obtain⟨⟨u3,a1⟩,a2,a3,h4⟩:=HA.out _ _ _ h3;obtain⟨b1,b2,b3⟩:=HR.out _ _ _ _ h4;have H4:=aB h4;clear h3 h4;generalize hW4:w3.setCell ⟨w.heap.size,1,none⟩ (.slice (some ⟨g,0,none⟩) n cap)=w4 at H4 b1 b2 b3;have HW4:=aB hW4;clear hW4;go_wp2_with fail;rw[HW4.out];go_wp2_with fail;go_loopg [3,4,12] n (fun gk _ _ i wr=>∃j:Nat,j+gk=n∧i=.int .i64 j∧C g cap j wr)
 case atStart=>exact⟨0,by omega,rfl,H4.out⟩
 case round=>
  obtain⟨j,hj,rfl,hC⟩:=hrel;obtain⟨b1,b2,b3⟩:=HR.out _ _ _ _ hC;by_cases hlt:j<n
  ·obtain⟨m,rfl⟩:∃m,gk=m+1:=⟨gk-1,by omega⟩
   obtain⟨x,l,c,c1,hcl⟩:=HV.out _ _ _ _ hC hlt;have HCL:=aB hcl;have e1:(0:Int)≤(j:Int):=by omega
   have e2:(j:Int)<(n:Int):=by omega
   clear hC hcl;go_wp2_with fail;refine HCL.out.mono ?_;rintro e w5 ⟨x',c',rfl,h5⟩;obtain⟨⟨u5,d1⟩,d2,d3,h6⟩:=HD1.out _ _ _ _ _ _ _ h5;obtain⟨y,l2,c2,y1,y2,hcl2⟩:=HE.out _ _ _ _ h6;have HCL2:=aB hcl2;have y1':w5.cell? ⟨g,j*6+5,none⟩=some (.slice y l2 c2):=by simpa [go_sem] using y1
   clear h5 h6 hcl2 y1 y2;go_wp2_with fail;refine HCL2.out.mono ?_;rintro e w7 ⟨y',d',rfl,h7⟩;obtain⟨⟨u7,f1⟩,f2,f3,h8⟩:=HD2.out _ _ _ _ _ _ _ h7;have H8:=aB h8;clear h7 h8;go_wp2_with fail;go_roundg m
   case measure=>omega
   case rel=>exact⟨j+1,by omega,by go_num,H8.out⟩
  ·have hjn:j=n:=by omega
   subst hjn;obtain⟨o1,hcl⟩:=HO.out _ _ _ hC;have HCL:=aB hcl;clear hC hcl;go_wp2_with fail;refine HCL.out.mono ?_;rintro e w5 ⟨x',l',c',rfl,h5⟩;obtain⟨⟨p0,p1,p2,⟨u3,p3⟩,p4,pf,pl⟩,pb⟩:=HF.out _ _ _ _ _ _ h5;have hb0:w5.cell? ⟨w.heap.size+1,0,none⟩=some (.int .i64 0):=aA pb rfl;have hb1:w5.cell? ⟨w.heap.size+1,1,none⟩=some (.slice none 0 0):=aA pb rfl;have hb2:w5.cell? ⟨w.heap.size+1,2,none⟩=some (.slice none 0 0):=aA pb rfl;have hb3:w5.cell? ⟨w.heap.size+1,3,none⟩=some (.slice none 0 0):=aA pb rfl;have hb4:w5.cell? ⟨w.heap.size+1,4,none⟩=some (.int .i64 0):=aA pb rfl;have hf0:=aE (i:=0) pb;have hf1:=aE (i:=1) pb;have hf2:=aE (i:=2) pb;have hf3:=aE (i:=3) pb;have hf4:=aE (i:=4) pb;have H5:=aB h5;clear h5 pb;have hl0:w.heap.size<w5.heap.size:=by omega
   go_wp2_with fail;refine⟨rfl,.agg #[.int .i64 time,.slice (some ⟨g,0,none⟩) j cap,.slice ta tl tc,.slice x' l' c',.int .i64 stop],?_,_,rfl,HP.out _ _ _ _ _ _ _ H5.out ?_ (by simp)⟩
   ·simp[results,Tryz.results226,go_sem,hb0,hb1,hb2,hb3,hb4]
   ·exact((((((Kept.refl _ _).setCell _ _ (by simp)).setCell _ _ (by simp)).setCell _ _ (by simp)).setCell _ _ (by simp)).setCell _ _ (by simp)).setCell _ _ (by simp)
theorem D5(a b:List FVal)(v:FVal)(i:Nat)(hi:i<6):(fS (a++v::b))[a.length*6+i]?=v.cells[i]?:=by
 rw[iU,List.getElem?_append_right (by rw[dV];omega),dV,Nat.add_sub_cancel_left]
 show (v.cells++fS b)[i]?=_
 rw[List.getElem?_append_left (by exact hi)]
theorem XG(a b:List FVal)(v v':FVal)(i:Nat)(x:Value)(hi:i<6)(hv:v'.cells=v.cells.set i x):(fS (a++v::b)).set (a.length*6+i) x=fS (a++v'::b):=by
 rw[iU,iU,List.set_append_right _ _ (by rw[dV];omega),dV,Nat.add_sub_cancel_left]
 show fS a++(v.cells++fS b).set i x=fS a++(v'.cells++fS b)
 rw[List.set_append_left _ _ (by exact hi),hv]
structure CI(w:World)(time stop n g cap:Nat)(tv xo:Value)(fvs':List FVal)(own:List Nat)(W:World):Prop where
 row:W.ownsRow (w.heap.size+2) 195 6 (.slice (some ⟨g,0,none⟩) n cap) n (fS fvs')
 nodup:(g::own).Nodup
 rng:∀k∈g::own,w.heap.size+2≤k∧k<W.heap.size
 bel:Below w.heap.size w W
 b1:W.heap[w.heap.size]?=some (.cells #[.int .i64 time,.slice (some ⟨g,0,none⟩) n cap,tv,xo,.int .i64 stop] 108 (0,0))
 b2:W.heap[w.heap.size+1]?=some (.cells #[.int .i64 0,.slice none 0 0,.slice none 0 0,.slice none 0 0,.int .i64 0] 108 (0,0))
section
variable {w:World} {time stop n g cap:Nat} {tv xo:Value} {own:List Nat} {W W':World} {a b:List FVal} {v v':FVal}
theorem CI.cell(h:CI w time stop n g cap tv xo (a++v::b) own W)(i:Nat)(hi:i<6):W.cell? ⟨g,a.length*6+i,none⟩=v.cells[i]?∧W.frozen? ⟨g,a.length*6+i,none⟩=false∧g<W.heap.size:=by
 refine⟨?_,h.row.frozenAt _,(h.rng g (by simp)).2⟩
 have hl:=h.row.1;rw[dV,List.length_append,List.length_cons] at hl;rw[h.row.cellAt (a.length*6+i) (by omega),D5 a b v i hi]
theorem CI.grow{fvs':List FVal}(h:CI w time stop n g cap tv xo fvs' own W)(hb:Below W.heap.size W W')(o:Option Nat)(ho:∀k,o=some k→W.heap.size≤k∧k<W'.heap.size):CI w time stop n g cap tv xo fvs' (own++o.toList) W':=by
 have hw:=h.bel.size;have h1:=aD h.b1;have h2:=aD h.b2;refine⟨iA h.row hb,?_,fun k hk=>?_,h.bel.trans (hb.mono hw),by rw[hb.block _ h1];exact h.b1,by rw[hb.block _ h2];exact h.b2⟩
 ·rw[←List.cons_append];refine List.nodup_append.2 ⟨h.nodup,by cases o<;>simp,fun x hx y hy e=>?_⟩
  subst e;have hy':o=some x:=by simpa using hy
  have:=(h.rng x hx).2;have:=(ho x hy').1;omega
 ·rw[←List.cons_append] at hk;rcases List.mem_append.1 hk with hk|hk
  ·exact⟨(h.rng k hk).1,Nat.lt_of_lt_of_le (h.rng k hk).2 hb.size⟩
  ·have hk':o=some k:=by simpa using hk
   have:=(ho k hk').1;exact⟨by omega,(ho k hk').2⟩
theorem CI.set(h:CI w time stop n g cap tv xo (a++v::b) own W)(i:Nat)(hi:i<6)(x:Value)(hv:v'.cells=v.cells.set i x):CI w time stop n g cap tv xo (a++v'::b) own (W.setCell ⟨g,a.length*6+i,none⟩ x):=by
 have hg:=(h.rng g (by simp)).1
 have hk:∀k,k≠g→(W.setCell ⟨g,a.length*6+i,none⟩ x).heap[k]?=W.heap[k]?:=fun k hk=>Below.heap_setCell _ _ _ _ hk
 refine⟨?_,h.nodup,fun k hk=>⟨(h.rng k hk).1,by simpa using (h.rng k hk).2⟩,h.bel.setCell (by show w.heap.size≤g;omega) _,by rw[hk _ (by omega)];exact h.b1,by rw[hk _ (by omega)];exact h.b2⟩
 rw[←XG a b v v' i x hi hv];exact(h.row.stored _ _).1
theorem CI.keep{fvs':List FVal}(h:CI w time stop n g cap tv xo fvs' own W):w.heap.size<W.heap.size∧w.heap.size+1<W.heap.size:=⟨aD h.b1,aD h.b2⟩
end
structure OU(fp:Nat→Value)(F:Nat→Prop)(base:Nat)(w:World)(gf cap:Nat)(tv outv:Value)(fvs:List FVal)(m:cM):Prop where
 row:w.ownsRow base 195 6 (.slice (some ⟨gf,0,none⟩) fvs.length cap) fvs.length (fS fvs)
 frs:iE fp F base w fvs m.frames
 tape:qA F w tv m.tape
 out:w.ownsRow base 9 1 outv m.out.length (lA m.out)
 nodup:(gf::(outv.ownBlock.toList++aS fvs)).Nodup
 rng:∀k∈gf::(outv.ownBlock.toList++aS fvs),base≤k∧k<w.heap.size
theorem PVs.cells{F:Nat→Prop}{w:World}{v:Value}{l:List aI}(h:PVs F w v l)(hl:l.length≤1000000):
 ∃x c,v=.slice x l.length c∧Calls Tryz.prog 282 #[.slice x l.length c] w fun e w'=>∃x' c' ys,e=.returned (.slice x' l.length c')∧w'.ownsRow w.heap.size 256 1 (.slice x' l.length c') l.length ys∧fR F w ys l∧Below w.heap.size w w':=by
 rcases h.row with ⟨rfl,rfl⟩|⟨g,cap,xs,rfl,hg,hgl,hr,hc⟩
 ·refine⟨none,0,rfl,(rG w).mono ?_⟩;rintro e w' ⟨rfl,rfl⟩;exact⟨none,0,[],rfl,World.ownsRow_nil _ _ _ _,fR.nil _ _,Below.refl _ _⟩
 ·refine⟨_,_,rfl,(rH g 0 l.length cap xs w (by rw[hr.1];omega) hl (fun j u hj=>by rw[Nat.zero_add];exact hc j u hj) (nG hr)).mono ?_⟩
  rintro e w' ⟨v',rfl,ho,hb⟩;obtain⟨x',c',rfl⟩:=cP ho;exact⟨x',c',xs,rfl,ho,hr,hb⟩
theorem kS{fp:Nat→Value}{F:Nat→Prop}{base:Nat}{w w':World}{vs:List FVal}{fs:List aK}(h:iE fp F base w vs fs)(hF:∀b,F b→w'.heap[b]?=w.heap[b]?)(ho:∀k∈aS vs,w'.heap[k]?=w.heap[k]?):iE fp F base w' vs fs:=
 h.keep hF (fun _ h=>h) fun v hv k hk=>ho k (List.mem_flatMap.2 ⟨v,hv,hk⟩)
theorem IK(us:List FVal)(v:FVal):aS (us++[v])=aS us++v.owns:=by simp[aS]
theorem gW{w:World}{base base':Nat}{e:TypeId}{size:Nat}{v:Value}{n:Nat}{xs:List Value}(h:w.ownsRow base e size v n xs)(hb:base'≤base):w.ownsRow base' e size v n xs:=by
 refine⟨h.1,?_⟩;rcases h.2 with h|⟨g,cap,cur,h1,h2,h3⟩
 ·exact Or.inl h
 ·exact Or.inr ⟨g,cap,cur,h1,Nat.le_trans hb h2,h3⟩
def U7(fp:Nat→Value)(F:Nat→Prop)(w:World)(time stop n:Nat)(tv xo:Value)(fvs:List FVal)(frames:List aK)(g cap j:Nat)(W:World):Prop:=
 ∃us:List FVal,us.length=j∧CI w time stop n g cap tv xo (us++fvs.drop j) (aS us) W∧iE fp F (w.heap.size+2) W us (frames.take j)
def U8(fp:Nat→Value)(F:Nat→Prop)(w:World)(time stop n:Nat)(tv xo:Value)(fvs:List FVal)(frames:List aK)(g cap j:Nat)(W:World):Prop:=
 ∃(us:List FVal) (v:FVal) (f:aK) (x:Value),us.length=j∧fvs[j]?=some v∧frames[j]?=some f∧CI w time stop n g cap tv xo (us++{ v with vv:=x }::fvs.drop (j+1)) (aS us++x.ownBlock.toList) W∧iE fp F (w.heap.size+2) W us (frames.take j)∧lF F (w.heap.size+2) W x f.vars
theorem SI{fp:Nat→Value}{F:Nat→Prop}{w:World}{v:Value}{s:bW}(h:mX fp F w v s)(hF:∀k,F k→k<w.heap.size)(hne:s.m.frames≠[])(hfr:s.m.frames.length≤16)(hb:∀f∈s.m.frames,f.vars.length≤90001∧f.ops.length≤99000)(hol:s.m.out.length≤50):
 Calls Tryz.prog 226 #[v] w fun e w'=>∃v',e=.returned v'∧∃gf cap tv outv fvs,v'=.agg #[.int .i64 s.time,.slice (some ⟨gf,0,none⟩) fvs.length cap,tv,outv,.int .i64 s.stop]∧Below w.heap.size w w'∧OU fp F w.heap.size w' gf cap tv outv fvs s.m:=by
 obtain⟨fv,tv,xo,fvs,rfl,hrow,hfs,htp,hst⟩:=h;have hlen:=hfs.length
 have hnpos:0<fvs.length:=by
  rw[hlen];exact List.length_pos_iff.2 hne
 rcases hrow with ⟨e,_⟩|⟨x0,c0,cur,rfl,hFx,hcur,hcap,htk⟩
 ·rw[e] at hnpos;simp at hnpos
 have htvf:∃ta tl tc,tv=.slice ta tl tc:=by
  rcases htp with ⟨_,x,c,e⟩|⟨g,o,c,e,_⟩
  ·exact⟨_,_,_,e⟩
  ·exact⟨_,_,_,e⟩
 have hxof:∃xa xl xc,xo=.slice xa xl xc:=by
  rcases hst with ⟨_,e⟩|⟨g,c,cu,e,_⟩
  ·exact⟨_,_,_,e⟩
  ·exact⟨_,_,_,e⟩
 generalize hW2:(w.alloc (.cells #[.int .i64 s.time,.slice (some ⟨x0,0,none⟩) fvs.length c0,tv,xo,.int .i64 s.stop] 108)).alloc (.cells #[.int .i64 0,.slice none 0 0,.slice none 0 0,.slice none 0 0,.int .i64 0] 108)=w2;have hb2:Below w.heap.size w w2:=by rw[←hW2];exact((Below.refl _ w).alloc (Nat.le_refl _) _).alloc (by simp) _
 have hs2:w2.heap.size=w.heap.size+2:=by rw[←hW2];simp
 have hB1:w2.heap[w.heap.size]?=some (.cells #[.int .i64 s.time,.slice (some ⟨x0,0,none⟩) fvs.length c0,tv,xo,.int .i64 s.stop] 108 (0,0)):=by
  rw[←hW2,Below.heap_alloc _ _ _ (by simp)];exact aR _ _ rfl _
 have hB2:w2.heap[w.heap.size+1]?=some (.cells #[.int .i64 0,.slice none 0 0,.slice none 0 0,.slice none 0 0,.int .i64 0] 108 (0,0)):=by
  rw[←hW2];exact aR _ _ (by simp) _
 have hFk2:∀b,F b→w2.heap[b]?=w.heap[b]?:=fun b hb=>hb2.block b (hF b hb)
 have hkF:∀{W:World},Below w.heap.size w W→∀b,F b→W.heap[b]?=w.heap[b]?:=fun hb b hb'=>hb.block b (hF b hb')
 have honeAll:∀u∈fS fvs,u.oneCell'=true:=by
  have hgen:∀(vs:List FVal) (fs:List aK),tX fp F w vs fs→∀u∈fS vs,u.oneCell'=true:=by
   intro vs;induction vs with
   |nil=>intro fs _ u hu;cases hu
   |cons v vs ih=>
    intro fs hfs u hu;cases fs with
    |nil=>exact hfs.elim
    |cons f fs=>
     obtain⟨h1,h2⟩:=hfs;rcases List.mem_append.1 hu with hu|hu
     ·obtain⟨fbk,gc,cp,row,e1,_⟩:=h1.fn;obtain⟨p,hp⟩:=h1.sp.form
      have hvv:∃x n c,v.vv=.slice x n c:=by
       rcases h1.vars.row with ⟨_,e⟩|⟨g,c,xs,e,_⟩<;>exact⟨_,_,_,e⟩
      have hov:∃x n c,v.ov=.slice x n c:=by
       rcases h1.ops.row with ⟨_,e⟩|⟨g,c,xs,e,_⟩<;>exact⟨_,_,_,e⟩
      obtain⟨x1,n1,c1,e2⟩:=hvv;obtain⟨x2,n2,c2,e3⟩:=hov;simp only[FVal.cells,e1,h1.nx,h1.ln,hp,e2,e3,List.mem_cons,List.not_mem_nil,or_false] at hu;rcases hu with rfl|rfl|rfl|rfl|rfl|rfl<;>rfl
     ·exact ih fs h2 u hu
  exact hgen fvs s.m.frames hfs
 have hfget:∀j (hj:j<fvs.length),∃v f,fvs[j]?=some v∧s.m.frames[j]?=some f∧R8 fp F w v f∧f∈s.m.frames∧fvs.drop j=v::fvs.drop (j+1)∧s.m.frames.take (j+1)=s.m.frames.take j++[f]:=fun j hj=>by
  have hj':j<s.m.frames.length:=by omega
  refine⟨fvs[j],s.m.frames[j],List.getElem?_eq_getElem hj,List.getElem?_eq_getElem hj',hfs.get j _ _ (List.getElem?_eq_getElem hj) (List.getElem?_eq_getElem hj'),List.getElem_mem hj',List.drop_eq_getElem_cons hj,List.take_succ_eq_append_getElem hj'⟩
 have hR:∀g cap j W,U7 fp F w s.time s.stop fvs.length tv xo fvs s.m.frames g cap j W→W.cell? ⟨w.heap.size,1,none⟩=some (.slice (some ⟨g,0,none⟩) fvs.length cap)∧w.heap.size<W.heap.size∧g<W.heap.size:=fun g cap j W hq=>by
  obtain⟨us,_,hc,_⟩:=hq;exact⟨aA hc.b1 rfl,aD hc.b1,(hc.rng g (by simp)).2⟩
 refine(OB w w2 s.time s.stop x0 fvs.length c0 (.slice (some ⟨x0,0,none⟩) fvs.length c0) tv xo
  (fun v' w'=>∃gf cap tv outv fvs,v'=.agg #[.int .i64 s.time,.slice (some ⟨gf,0,none⟩) fvs.length cap,tv,outv,.int .i64 s.stop]∧Below w.heap.size w w'∧OU fp F w.heap.size w' gf cap tv outv fvs s.m)
  (fun g cap W=>W.ownsRow (w.heap.size+2) 195 6 (.slice (some ⟨g,0,none⟩) fvs.length cap) fvs.length (fS fvs)∧Below w2.heap.size w2 W)
  (U7 fp F w s.time s.stop fvs.length tv xo fvs s.m.frames) (U8 fp F w s.time s.stop fvs.length tv xo fvs s.m.frames)
  (fun g cap j x l c W=>∃us v f,us.length=j∧fvs[j]?=some v∧s.m.frames[j]?=some f∧CI w s.time s.stop fvs.length g cap tv xo (us++v::fvs.drop (j+1)) (aS us++(Value.slice x l c).ownBlock.toList) W∧iE fp F (w.heap.size+2) W us (s.m.frames.take j)∧lF F (w.heap.size+2) W (.slice x l c) f.vars)
  (fun g cap j x l c W=>∃us v f y,us.length=j∧fvs[j]?=some v∧s.m.frames[j]?=some f∧CI w s.time s.stop fvs.length g cap tv xo (us++{ v with vv:=y }::fvs.drop (j+1)) (aS us++y.ownBlock.toList++(Value.slice x l c).ownBlock.toList) W∧iE fp F (w.heap.size+2) W us (s.m.frames.take j)∧lF F (w.heap.size+2) W y f.vars∧lF F (w.heap.size+2) W (.slice x l c) f.ops)
  (fun g cap x l c W=>∃us,us.length=fvs.length∧CI w s.time s.stop fvs.length g cap tv xo us (aS us++(Value.slice x l c).ownBlock.toList) W∧iE fp F (w.heap.size+2) W us s.m.frames∧W.ownsRow (w.heap.size+2) 9 1 (.slice x l c) s.m.out.length (lA s.m.out))
  (by omega) rfl hxof htvf hW2 ?_ (fun g cap W hq=>?_) hR (fun g cap j W hq hj=>?_) (fun g cap j x l c W hq=>?_) (fun g cap j W hq=>?_) (fun g cap j x l c W hq=>?_) (fun g cap W hq=>?_) (fun g cap x l c W hq=>?_) (fun g cap x l c W W' hq hk hsz=>?_))
 ·refine(EB x0 0 fvs.length c0 (fS fvs) w2 (by rw[dV]) (by omega) (fun j u hj=>?_) honeAll).mono ?_
  ·rw[Nat.zero_add];rw[←htk,List.getElem?_take] at hj;split at hj
   ·exact aA ((hFk2 x0 hFx).trans hcur) (by simpa using hj)
   ·cases hj
  ·rintro e w' ⟨v',rfl,ho,hbw⟩;rw[hs2] at ho;rcases ho.2 with ⟨r1,r2⟩|⟨g,cp,cu,r1,_⟩
   ·omega
   ·rw[r1] at ho ⊢
    exact⟨g,cp,rfl,ho,hbw⟩
 ·obtain⟨ho,hbw⟩:=hq;have hg:=ho.lt g rfl;have hb1:W.heap[w.heap.size]?=_:=(hbw.block _ (by omega)).trans hB1
  have hb2':W.heap[w.heap.size+1]?=_:=(hbw.block _ (by omega)).trans hB2
  refine⟨⟨_,aA hb1 rfl⟩,aE hb1,aD hb1,[],rfl,⟨?_,by simp[aS],fun k hk=>?_,?_,aQ hb1,?_⟩,trivial⟩
  ·exact aY ho fun k e=>Below.heap_setCell _ _ _ _ (by cases e;show g≠w.heap.size;omega)
  ·simp[aS] at hk;subst hk;exact⟨hg.1,by simpa using hg.2⟩
  ·exact(hb2.trans (hbw.mono (by omega))).setCell (Nat.le_refl _) _
  ·rw[Below.heap_setCell _ _ _ _ (by show w.heap.size+1≠w.heap.size;omega)];exact hb2'
 ·obtain⟨us,rfl,hc,hus⟩:=hq;obtain⟨v,f,e1,e2,hv,hfm,e3,e4⟩:=hfget us.length hj;rw[e3] at hc;obtain⟨c1,c2,c3⟩:=hc.cell 4 (by omega)
  have hvk:=hv.keep (hkF hc.bel) fun _ h=>h
  obtain⟨x,c,e5,hcl⟩:=hvk.vars.cells (by have:=(hb f hfm).1;omega)
  refine⟨x,f.vars.length,c,c1.trans (by rw[←e5];rfl),hcl.mono ?_⟩
  rintro e w' ⟨x',c',ys,he,ho,hr,hbw⟩;have hobl:∀k,(Value.slice x' f.vars.length c').ownBlock=some k→W.heap.size≤k∧k<w'.heap.size:=fun k hk=>ho.lt k hk
  have hsz:=hc.keep;refine⟨x',c',he,us,v,f,rfl,e1,e2,hc.grow hbw _ hobl,kS hus (fun b hb'=>hbw.block b (Nat.lt_of_lt_of_le (hF b hb') hc.bel.size)) (fun k hk=>hbw.block k (hc.rng k (List.mem_cons_of_mem _ hk)).2),⟨ys,gW ho (by omega),hr.keep fun b hb'=>hbw.block b (Nat.lt_of_lt_of_le (hF b hb') hc.bel.size)⟩,hv.varsB⟩
 ·obtain⟨us,v,f,rfl,e1,e2,hc,hus,hvr⟩:=hq;obtain⟨c1,c2,c3⟩:=hc.cell 4 (by omega)
  have hgne:∀k∈aS us++(Value.slice x l c).ownBlock.toList,k≠g:=fun k hk e=>(List.nodup_cons.1 hc.nodup).1 (by rw[←e];exact hk)
  have hset:∀k,k≠g→(W.setCell ⟨g,us.length*6+4,none⟩ (.slice x l c)).heap[k]?=W.heap[k]?:=fun k hk=>Below.heap_setCell _ _ _ _ hk
  have hgF:∀b,F b→b≠g:=fun b hb' e=>by have h1:=hF b hb';have h2:=(hc.rng g (by simp)).1;omega
  refine⟨⟨_,c1⟩,c2,c3,us,v,f,_,rfl,e1,e2,hc.set 4 (by omega) _ rfl,kS hus (fun b hb'=>hset b (hgF b hb')) (fun k hk=>hset k (hgne k (List.mem_append_left _ hk))),hvr.keep (fun b hb'=>hset b (hgF b hb')) (fun _ h=>h) fun k hk=>hset k (hgne k (by simp[hk]))⟩
 ·obtain⟨us,v,f,x,rfl,e1,e2,hc,hus,hvr⟩:=hq;obtain⟨c1,c2,c3⟩:=hc.cell 5 (by omega)
  have hj:us.length<fvs.length:=(List.getElem?_eq_some_iff.1 e1).1;obtain⟨v',f',e1',e2',hv,hfm,e3,e4⟩:=hfget us.length hj;rw[e1] at e1';cases e1';rw[e2] at e2';cases e2';have hvk:=hv.keep (hkF hc.bel) fun _ h=>h
  obtain⟨y,d,e5,hcl⟩:=hvk.ops.cells (by have:=(hb f hfm).2;omega)
  refine⟨y,f.ops.length,d,c1.trans (by rw[←e5];rfl),c3,hcl.mono ?_⟩
  rintro e w' ⟨y',d',ys,he,ho,hr,hbw⟩;have hobl:∀k,(Value.slice y' f.ops.length d').ownBlock=some k→W.heap.size≤k∧k<w'.heap.size:=fun k hk=>ho.lt k hk
  have hsz:=hc.keep;have hFw:∀b,F b→w'.heap[b]?=W.heap[b]?:=fun b hb'=>hbw.block b (Nat.lt_of_lt_of_le (hF b hb') hc.bel.size)
  refine⟨y',d',he,us,v,f,x,rfl,e1,e2,hc.grow hbw _ hobl,kS hus hFw (fun k hk=>hbw.block k (hc.rng k (List.mem_cons_of_mem _ (List.mem_append_left _ hk))).2),hvr.keep hFw (fun _ h=>h) fun k hk=>hbw.block k (hc.rng k (by simp[hk])).2,⟨ys,gW ho (by omega),hr.keep hFw⟩,hv.opsB⟩
 ·obtain⟨us,v,f,y,rfl,e1,e2,hc,hus,hvr,hor⟩:=hq;obtain⟨c1,c2,c3⟩:=hc.cell 5 (by omega)
  have hj:us.length<fvs.length:=(List.getElem?_eq_some_iff.1 e1).1;obtain⟨v',f',e1',e2',hv,hfm,e3,e4⟩:=hfget us.length hj;rw[e1] at e1';cases e1';rw[e2] at e2';cases e2';have hgne:∀k∈aS us++y.ownBlock.toList++(Value.slice x l c).ownBlock.toList,k≠g:=fun k hk e=>(List.nodup_cons.1 hc.nodup).1 (by rw[←e];exact hk)
  have hset:∀k,k≠g→(W.setCell ⟨g,us.length*6+5,none⟩ (.slice x l c)).heap[k]?=W.heap[k]?:=fun k hk=>Below.heap_setCell _ _ _ _ hk
  have hgF:∀b,F b→b≠g:=fun b hb' e=>by have h1:=hF b hb';have h2:=(hc.rng g (by simp)).1;omega
  have hFs:∀b,F b→(W.setCell ⟨g,us.length*6+5,none⟩ (.slice x l c)).heap[b]?=W.heap[b]?:=fun b hb'=>hset b (hgF b hb')
  have hset5:=hc.set (v':={ v with vv:=y,ov:=.slice x l c }) 5 (by omega) (.slice x l c) rfl
  have hvS:=hv.keep (hkF (hset5.bel)) fun _ h=>h
  refine⟨⟨_,c1⟩,c2,c3,us++[{ v with vv:=y,ov:=.slice x l c }],by simp,?_,?_⟩
  ·have e5:aS (us++[{ v with vv:=y,ov:=.slice x l c }])=aS us++y.ownBlock.toList++(Value.slice x l c).ownBlock.toList:=by
    rw[IK,List.append_assoc];rfl
   have e6:us++[{ v with vv:=y,ov:=.slice x l c }]++fvs.drop (us.length+1)=us++{ v with vv:=y,ov:=.slice x l c }::fvs.drop (us.length+1):=by simp
   rw[e5,e6];exact hset5
  ·rw[e4];refine(kS hus hFs (fun k hk=>hset k (hgne k (by simp[hk])))).snoc ⟨hvS.fn,hvS.nx,hvS.ln,hvS.sp,hvr.keep hFs (fun _ h=>h) fun k hk=>hset k (hgne k (by simp[hk])),hor.keep hFs (fun _ h=>h) fun k hk=>hset k (hgne k (by simp[hk]))⟩
 ·obtain⟨us,hul,hc,hus⟩:=hq;rw[List.drop_of_length_le (Nat.le_refl _),List.append_nil] at hc;rw[hlen,List.take_of_length_le (Nat.le_refl _)] at hus;have hsz:=hc.keep;have hst':=hst.keep (hkF hc.bel) fun _ h=>h
  refine⟨aA hc.b1 rfl,?_⟩
  have hfin:∀x' l' c' (w':World),w'.ownsRow W.heap.size 9 1 (.slice x' l' c') s.m.out.length (lA s.m.out)→Below W.heap.size W w'→∃us,us.length=fvs.length∧CI w s.time s.stop fvs.length g cap tv xo us (aS us++(Value.slice x' l' c').ownBlock.toList) w'∧iE fp F (w.heap.size+2) w' us s.m.frames∧w'.ownsRow (w.heap.size+2) 9 1 (.slice x' l' c') s.m.out.length (lA s.m.out):=fun x' l' c' w' ho hbw=>
   ⟨us,hul,hc.grow hbw _ fun k hk=>ho.lt k hk,kS hus (fun b hb'=>hbw.block b (Nat.lt_of_lt_of_le (hF b hb') hc.bel.size)) (fun k hk=>hbw.block k (hc.rng k (List.mem_cons_of_mem _ hk)).2),gW ho (by omega)⟩
  rcases hst' with ⟨e1,rfl⟩|⟨go,co,cu,rfl,h1,h2,h3,h4⟩
  ·refine(rI W).mono ?_;rintro e w' ⟨rfl,rfl⟩;exact⟨none,0,0,rfl,hfin _ _ _ _ (by rw[e1];exact World.ownsRow_nil _ _ _ _) (Below.refl _ _)⟩
  ·refine(rJ go 0 s.m.out.length co (lA s.m.out) W (by simp[lA]) (by omega) (fun j u hj=>?_) (fun u hu=>?_)).mono ?_
   ·rw[Nat.zero_add];rw[←h4,List.getElem?_take] at hj;split at hj
    ·exact aA h2 (by simpa using hj)
    ·cases hj
   ·obtain⟨y,_,rfl⟩:=List.mem_map.1 hu;rfl
   ·rintro e w' ⟨v',rfl,ho,hbw⟩;obtain⟨x',c',rfl⟩:=cP ho;exact⟨x',_,c',rfl,hfin _ _ _ _ ho hbw⟩
 ·obtain⟨us,hul,hc,hus,ho⟩:=hq;exact⟨⟨aA hc.b1 rfl,aA hc.b1 rfl,aA hc.b1 rfl,⟨_,aA hc.b1 rfl⟩,aA hc.b1 rfl,aE hc.b1,aD hc.b2⟩,hc.b2⟩
 ·obtain⟨us,hul,hc,hus,ho⟩:=hq
  have hne2:∀k∈g::(aS us++(Value.slice x l c).ownBlock.toList),k∉[w.heap.size,w.heap.size+1]:=fun k hk hm=>by
   have:=(hc.rng k hk).1;simp at hm;omega
  have hkk:∀k∈g::(aS us++(Value.slice x l c).ownBlock.toList),W'.heap[k]?=W.heap[k]?:=fun k hk'=>hk.block k (hc.rng k hk').2 (hne2 k hk')
  have hFW:∀b,F b→W'.heap[b]?=W.heap[b]?:=fun b hb'=>hk.block b (Nat.lt_of_lt_of_le (hF b hb') hc.bel.size) (by have:=hF b hb';simp;omega)
  have hbW:Below w.heap.size w W':=⟨hk.os.trans hc.bel.os,hk.tape.trans hc.bel.tape,hk.output.trans hc.bel.output,by rw[hsz];exact hc.bel.size,fun k hk'=>by
   rw[hk.block k (Nat.lt_of_lt_of_le hk' hc.bel.size) (by simp;omega),hc.bel.block k hk']⟩
  have hperm:∀k,k∈g::((Value.slice x l c).ownBlock.toList++aS us)↔k∈g::(aS us++(Value.slice x l c).ownBlock.toList):=fun k=>by simp[or_comm]
  have hkeepN:∀(u:List FVal) (fs:List aK),iE fp F (w.heap.size+2) W' u fs→iE fp F w.heap.size W' u fs:=by
   intro u;induction u with
   |nil=>intro fs h;cases fs with
    |nil=>trivial
    |cons=>exact h.elim
   |cons v vs ih=>intro fs h;cases fs with
    |nil=>exact h.elim
    |cons f fs=>
     obtain⟨h1,h2⟩:=h;obtain⟨⟨xs,a1,a2⟩,a3⟩:=h1.vars;obtain⟨⟨ys,b1,b2⟩,b3⟩:=h1.ops;exact⟨⟨h1.fn,h1.nx,h1.ln,h1.sp,⟨⟨xs,gW a1 (by omega),a2⟩,a3⟩,⟨⟨ys,gW b1 (by omega),b2⟩,b3⟩⟩,ih fs h2⟩
  refine⟨g,cap,tv,.slice x l c,us,by rw[hul],hbW,⟨?_,hkeepN _ _ (kS hus hFW fun k hk'=>hkk k (by simp[hk'])),htp.keep (fun b hb'=>by rw[hbW.block b (hF b hb')]) (fun _ h=>h),?_,?_,fun k hk'=>?_⟩⟩
  ·rw[hul];exact gW (aY hc.row fun k e=>by cases e;exact hkk g (by simp)) (by omega)
  ·exact gW (aY ho fun k e=>hkk k (by simp[e])) (by omega)
  ·have:=hc.nodup;rw[List.nodup_cons] at this ⊢
   refine⟨fun hm=>this.1 (by simpa [or_comm] using hm),?_⟩
   exact(List.perm_append_comm.nodup_iff).1 this.2
  ·have:=hc.rng k ((hperm k).1 hk');exact⟨by omega,by rw[hsz];exact this.2⟩
theorem WA(w:World)(time stop:Nat)(fv tv xo:Value)(hs:stop≠0)(hfv:∃x l c,fv=.slice x l c)(htv:∃x l c,tv=.slice x l c)(hxo:∃x l c,xo=.slice x l c):
 Calls Tryz.prog 163 #[.agg #[.int .i64 time,fv,tv,xo,.int .i64 stop]] w fun e w'=>e=.returned (.tuple #[.agg #[.int .i64 0,.slice none 0 0,.slice none 0 0,.slice none 0 0,.int .i64 0],.bool false])∧Below w.heap.size w w':=by
 obtain⟨x1,l1,c1,rfl⟩:=hfv;obtain⟨x2,l2,c2,rfl⟩:=htv;obtain⟨x3,l3,c3,rfl⟩:=hxo;have e1:¬(stop:Int)=0:=by omega
 go_enter Tryz.func163,Tryz.ntmps163;go_wp2_with fail;refine⟨rfl,.tuple #[.agg #[.int .i64 0,.slice none 0 0,.slice none 0 0,.slice none 0 0,.int .i64 0],.bool false],?_,rfl,((Below.refl _ w).alloc (Nat.le_refl _) _).alloc (by simp) _⟩
 simp[results,Tryz.results163,go_sem]
theorem VZ(w w2:World)(time:Nat)(fv tv xo:Value)(P:Value→World→Prop)(A:Nat→Nat→Nat→Value→Value→World→Prop)(B:Nat→World→Prop)(ht:time≤1000000)(hfv:∃x l c,fv=.slice x l c)(htv:∃x l c,tv=.slice x l c)(hxo:∃x l c,xo=.slice x l c)
 (hW:(w.alloc (.cells #[.int .i64 time,fv,tv,xo,.int .i64 0] 108)).alloc (.cells #[.int .i64 0,.slice none 0 0,.slice none 0 0,.slice none 0 0,.int .i64 0] 108)=w2)
 (HC:Hid (Calls Tryz.prog 226 #[.agg #[.int .i64 time,fv,tv,xo,.int .i64 0]] w2 fun e w'=>∃gf n cap tv' xo',e=.returned (.agg #[.int .i64 time,.slice (some ⟨gf,0,none⟩) n cap,tv',xo',.int .i64 0])∧(∃x l c,tv'=.slice x l c)∧(∃x l c,xo'=.slice x l c)∧A gf n cap tv' xo' w'))
 (HG:Hid (∀gf n cap tv' xo' W,A gf n cap tv' xo' W→Calls Tryz.prog 125 #[.pointer (some ⟨W.heap.size,0,none⟩)] (W.alloc (.cells #[.int .i64 ((time+1:Nat):Int),.slice (some ⟨gf,0,none⟩) n cap,tv',xo',.int .i64 0] 108)) fun e w'=>e=.returned (.tuple #[])∧B W.heap.size w'))
 (HB:Hid (∀b W,B b W→∃(q:Nat) (f t o:Value) (st:Nat),W.heap[b]?=some (.cells #[.int .i64 q,f,t,o,.int .i64 st] 108 (0,0))∧(∃x l c,f=.slice x l c)∧(∃x l c,t=.slice x l c)∧(∃x l c,o=.slice x l c)∧W.heap[w.heap.size+1]?=some (.cells #[.int .i64 0,.slice none 0 0,.slice none 0 0,.slice none 0 0,.int .i64 0] 108 (0,0))∧b≠w.heap.size+1∧
   ∀W',Kept [w.heap.size+1] W W'→W'.heap.size=W.heap.size→P (.agg #[.int .i64 q,f,t,o,.int .i64 st]) W')):
 Calls Tryz.prog 163 #[.agg #[.int .i64 time,fv,tv,xo,.int .i64 0]] w fun e w'=>∃v',e=.returned (.tuple #[v',.bool true])∧P v' w':=by
 obtain⟨x1,l1,c1,rfl⟩:=hfv;obtain⟨x2,l2,c2,rfl⟩:=htv;obtain⟨x3,l3,c3,rfl⟩:=hxo;have HW:=aB hW;clear hW;go_enter Tryz.func163,Tryz.ntmps163;go_wp2_with fail;rw[HW.out];refine HC.out.mono ?_;rintro e w3 ⟨gf,n,cap,tv',xo',rfl,⟨y2,m2,d2,rfl⟩,⟨y3,m3,d3,rfl⟩,h3⟩;have HGG:=aB (HG.out _ _ _ _ _ _ h3);generalize hb:w3.heap.size=b at HGG;clear h3;rw[show ((time+1:Nat):Int)=(time:Int)+1 by omega] at HGG
 go_wp2_with fail;refine HGG.out.mono ?_;rintro e w4 ⟨rfl,h4⟩;obtain⟨q,f,t,o,st,q1,⟨z1,r1,s1,rfl⟩,⟨z2,r2,s2,rfl⟩,⟨z3,r3,s3,rfl⟩,q2,q3,q4⟩:=HB.out _ _ h4;have HQ:=aB q4;have hc0:w4.cell? ⟨b,0,none⟩=some (.int .i64 q):=aA q1 rfl;have hc1:w4.cell? ⟨b,1,none⟩=some (.slice z1 r1 s1):=aA q1 rfl;have hc2:w4.cell? ⟨b,2,none⟩=some (.slice z2 r2 s2):=aA q1 rfl;have hc3:w4.cell? ⟨b,3,none⟩=some (.slice z3 r3 s3):=aA q1 rfl;have hc4:w4.cell? ⟨b,4,none⟩=some (.int .i64 st):=aA q1 rfl;have hb0:w4.cell? ⟨w.heap.size+1,0,none⟩=some (.int .i64 0):=aA q2 rfl;have hb1:w4.cell? ⟨w.heap.size+1,1,none⟩=some (.slice none 0 0):=aA q2 rfl;have hb2:w4.cell? ⟨w.heap.size+1,2,none⟩=some (.slice none 0 0):=aA q2 rfl;have hb3:w4.cell? ⟨w.heap.size+1,3,none⟩=some (.slice none 0 0):=aA q2 rfl;have hb4:w4.cell? ⟨w.heap.size+1,4,none⟩=some (.int .i64 0):=aA q2 rfl;have hf0:=aE (i:=0) q2;have hf1:=aE (i:=1) q2;have hf2:=aE (i:=2) q2;have hf3:=aE (i:=3) q2;have hf4:=aE (i:=4) q2;have hl1:=aD q1;have hl2:=aD q2;clear h4 q4 q1 q2;go_wp2_with fail;refine⟨rfl,.tuple #[.agg #[.int .i64 q,.slice z1 r1 s1,.slice z2 r2 s2,.slice z3 r3 s3,.int .i64 st],.bool true],?_,_,rfl,HQ.out _ ?_ (by simp)⟩
 ·simp[results,Tryz.results163,go_sem,hb0,hb1,hb2,hb3,hb4]
 ·exact(((((Kept.refl _ _).setCell _ _ (by simp)).setCell _ _ (by simp)).setCell _ _ (by simp)).setCell _ _ (by simp)).setCell _ _ (by simp)
end Go.Proofs.YtblbkfdhjfppkaaGreatDoor
