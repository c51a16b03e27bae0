/- Contracts of the program: a machine is started (2). -/
import Derived.Test.YtblbkfdhjfppkaaGreatDoorP22
import Derived.Test.YtblbkfdhjfppkaaGreatDoorP27
set_option maxRecDepth 100000
namespace Go.Proofs.YtblbkfdhjfppkaaGreatDoor
open Hs
open Go.RowKit
theorem YN.ptr{fp:Nat→Value}{F:Nat→Prop}{w:World}{v:Value}{f:eJ}(h:YN fp F w v f):∃p,v=.pointer p:=by
 obtain⟨fb,_,_,_,h1,_⟩:=h;exact⟨_,h1⟩
theorem Kept.below{own:List Nat}{w w':World}{n:Nat}(h:Kept own w w')(hn:n≤w.heap.size)(ho:∀k∈own,n≤k):Below n w w':=
 ⟨h.os,h.tape,h.output,h.size,fun k hk=>h.block k (by omega) fun hm=>by have:=ho k hm;omega⟩
section
variable {fp:Nat→Value} {F:Nat→Prop} {w:World} {z:Nat} {c:Array Value} (hz:w.heap[z]?=some (.cells c 108 (0,0)))
include hz
theorem eO.off:∀{l:List (List UInt8)} {v:Value},eO F w v l→eO (fun b=>F b∧b≠z) w v l
 |[],_,h=>h
 |_::_,_,⟨b,o,h1,h2,h3,h4⟩=>⟨b,o,h1,⟨h2,fun e=>by rw[e,hz] at h3;cases h3⟩,h3,eO.off h4⟩
theorem VR.off:∀{d:Nat} {v:Value} {a:aI},VR d F w v a→VR d (fun b=>F b∧b≠z) w v a
 |0,_,_,h=>h.elim
 |d+1,v,a,h=>by
  rcases h with h|h|h|⟨sv,l,h1,h2,h3⟩
  ·exact Or.inl h
  ·exact Or.inr (Or.inl h)
  ·exact Or.inr (Or.inr (Or.inl h))
  ·refine Or.inr (Or.inr (Or.inr ⟨sv,l,h1,h2,?_⟩));rcases h3 with h3|⟨g,cap,cur,e1,e2,e3,e4,e5⟩
   ·exact Or.inl h3
   ·refine Or.inr ⟨g,cap,cur,e1,⟨e2,fun e=>by rw[e,hz] at e3;cases e3⟩,e3,e4,fun i hi=>?_⟩
    obtain⟨u,k1,k2⟩:=e5 i hi;exact⟨u,k1,VR.off k2⟩
theorem kL.off{v:Value}{i:aH}(h:kL fp F w v i):kL fp (fun b=>F b∧b≠z) w v i:=by
 cases i<;>first
  |exact h
  |(obtain⟨sp,h1,h2⟩:=h;exact⟨sp,h1,h2.off hz⟩)
  |(obtain⟨u,h1,⟨d,h2⟩,h3⟩:=h;exact⟨u,h1,⟨d,h2.off hz⟩,h3⟩)
theorem kH.off{tab:List eJ}(h:kH fp F w tab):kH fp (fun b=>F b∧b≠z) w tab:=fun k f hf=>by
 obtain⟨fb,gc,cap,cur,a1,a2,a3,a4,a5,a6⟩:=h k f hf;refine⟨fb,gc,cap,cur,a1,⟨a2,fun e=>by rw[e,hz] at a3;cases a3⟩,a3,⟨a4,fun e=>by rw[e,hz] at a5;cases a5⟩,a5,fun i hi=>?_⟩
 obtain⟨u,u1,u2⟩:=a6 i hi;exact⟨u,u1,u2.off hz⟩
end
theorem QV{lo d k:Nat}{fs:List aC}{tape:List Int}{r:cM × Nat}(v tv:Value)(w:World)(h:FSl (Btw lo w.heap.size) w v fs)(hfl:fs.length≤90000)(hok:∀f∈fs,jG fs d f)(hli:∀f∈fs,∀k∈f.kids,lO k)(hkl:∀f∈fs,f.kids.length≤90000)(hm:fI fs (cU fs [109,97,105,110])=some 0)
 (ht:TX w tv tape) (htl:tape.length≤1000000) (hp:kI w) (hU:iW (dK fs d)) (hk:dN (dK fs d) k (gG fs d tape)=some r) (hr:r.2≤1000):
 Calls Tryz.prog 70 #[v,tv] w fun e w'=>∃v',e=.returned v'∧Below w.heap.size w w'∧∃fp G,(∀b,G b→b<w'.heap.size)∧kH fp G w' (dK fs d)∧mX fp G w' v' ⟨0,r.1,bQ 0 r.2⟩:=by
 have hix:cU fs [109,97,105,110]<fs.length:=by
  unfold fI at hm;rcases Nat.lt_or_ge (cU fs [109,97,105,110]) fs.length with h|h
  ·exact h
  ·rw[List.getElem?_eq_none h] at hm;cases hm
 have hmem:[109,97,105,110]∈fs.map (·.text):=by
  have:=List.findIdx_getElem (p:=fun f:aC=>f.text==[109,97,105,110]) (xs:=fs) (w:=hix)
  exact List.mem_map.2 ⟨_,List.getElem_mem hix,eq_of_beq this⟩
 obtain⟨x0,c0,rfl⟩:∃x c,v=.slice x fs.length c:=by
  rcases h with ⟨rfl,rfl⟩|⟨g,cap,cur,us,rfl,_⟩
  ·exact⟨none,0,rfl⟩
  ·exact⟨_,_,rfl⟩
 obtain⟨x1,n1,c1,rfl⟩:∃x n c,tv=.slice x n c:=by
  rcases ht with ⟨_,rfl⟩|⟨g,o,c,rfl,_⟩
  ·exact⟨_,_,_,rfl⟩
  ·exact⟨_,_,_,rfl⟩
 generalize hf0:(dK fs d)[cU fs [109,97,105,110]]?.getD ⟨[],[]⟩=f0
 have hf0':(dK fs d)[cU fs [109,97,105,110]]?=some f0:=by
  rw[List.getElem?_eq_getElem (by simpa [dK] using hix)] at hf0 ⊢
  simpa using hf0
 have hms:gG fs d tape=⟨[⟨f0,0,0,[],[],[]⟩],tape,[]⟩:=by rw[←hf0];rfl
 have hAO:=sI hok hm tape
 have hMU:fL (gG fs d tape):=by
  rw[hms];intro f hf;simp at hf;subst hf;exact⟨hU _ (List.mem_of_getElem? hf0'),fun v hv=>by simp at hv,fun v hv=>by simp at hv⟩
 rw[hms] at hAO hMU hk;obtain⟨w1,hw1⟩:∃w1,w1=w.alloc (.cells #[.int .i64 0,.slice none 0 0,.slice none 0 0,.slice none 0 0,.int .i64 0] 108):=⟨_,rfl⟩;have hb1:Below w.heap.size w w1:=by rw[hw1];exact(Below.refl _ _).alloc (Nat.le_refl _) _
 have hs1:w1.heap.size=w.heap.size+1:=by rw[hw1];simp
 have hB1:w1.heap[w.heap.size]?=some (.cells #[.int .i64 0,.slice none 0 0,.slice none 0 0,.slice none 0 0,.int .i64 0] 108 (0,0)):=by rw[hw1];exact aR _ _ rfl _
 have hFS:FSl (Btw lo w1.heap.size) w1 (.slice x0 fs.length c0) fs:=h.grow (fun b hb=>hb1.block b hb.2) fun b hb=>⟨hb.1,by have:=hb.2;omega⟩
 refine(PO w x0 fs.length c0 x1 n1 c1 (fun v' w'=>Below w.heap.size w w'∧∃fp G,(∀b,G b→b<w'.heap.size)∧kH fp G w' (dK fs d)∧mX fp G w' v' ⟨0,r.1,bQ 0 r.2⟩)
  (fun p W=>∃fp F,p=fp (cU fs [109,97,105,110])∧kH fp F W (dK fs d)∧Below w1.heap.size w1 W∧∀k,F k→k<W.heap.size)
  (fun p gf tv' W=>∃fp F,p=fp (cU fs [109,97,105,110])∧kH fp F W (dK fs d)∧Below w1.heap.size w1 W∧(∀k,F k→k<W.heap.size∧k≠gf)∧w1.heap.size≤gf∧gf<W.heap.size∧W.heap[gf]?=some (.cells #[p,.int .i64 0,.int .i64 0,.pointer none,.slice none 0 0,.slice none 0 0] 195 (0,0))∧qA F W tv' tape∧∀k,F k→k≠w.heap.size)
  (fun b W=>∃fp F gf cap tv' outv fvs,Below w1.heap.size w1 W∧w1.heap.size≤b∧cO fp F w1.heap.size W b gf cap (.int .i64 ((0:Nat):Int)) tv' outv (.int .i64 (bQ 0 r.2)) fvs r.1∧kH fp F W (dK fs d)∧(∀k∈aF b gf outv fvs,w1.heap.size≤k)∧∀k,F k→k≠w.heap.size)
  ?_ (fun p W hq=>?_) (fun p gf x n c W hq=>?_) (fun b W hq=>?_))
 ·show Calls _ _ _ _ _
  rw[←hw1];refine(OC (lo:=lo) (d:=d) _ w1 hFS hfl hok hli hkl hmem).mono ?_;rintro e w' ⟨fp,F,he,hT,hb,hF⟩;obtain⟨p,hpp⟩:=(hT _ _ hf0').ptr;exact⟨p,by rw[he,hpp],fp,F,hpp.symm,hT,hb,hF⟩
 ·obtain⟨fp,F,hpe,hT,hb,hF⟩:=hq;have hzW:W.heap[w.heap.size]?=some (.cells #[.int .i64 0,.slice none 0 0,.slice none 0 0,.slice none 0 0,.int .i64 0] 108 (0,0)):=by rw[hb.block _ (by omega)];exact hB1
  have hT':=hT.off hzW;generalize hW':W.alloc (.cells #[.pointer p,.int .i64 0,.int .i64 0,.pointer none,.slice none 0 0,.slice none 0 0] 195)=W';have hbW:Below W.heap.size W W':=by rw[←hW'];exact(Below.refl _ _).alloc (Nat.le_refl _) _
  have hsW:W'.heap.size=W.heap.size+1:=by rw[←hW'];simp
  have hgW:W'.heap[W.heap.size]?=some (.cells #[.pointer p,.int .i64 0,.int .i64 0,.pointer none,.slice none 0 0,.slice none 0 0] 195 (0,0)):=by rw[←hW'];exact aR _ _ rfl _
  have hwW:Below w.heap.size w W':=hb1.trans ((hb.mono (by omega)).trans (hbW.mono (by have:=hb.size;omega)))
  have htW:TX W' (.slice x1 n1 c1) tape:=by
   rcases ht with ht|⟨g,o,c,e,hg,hc⟩
   ·exact Or.inl ht
   ·exact Or.inr ⟨g,o,c,e,Nat.lt_of_lt_of_le hg hwW.size,fun i hi=>⟨(hwW.cell (p:=⟨g,o+i,none⟩) hg).trans (hc i hi).1,(hc i hi).2⟩⟩
  obtain⟨x,n,c,e,hcl⟩:=CJ W' _ tape htW htl;rw[e];refine hcl.mono ?_;rintro e w' ⟨x',n',c',he,hb',htr⟩;have hbw:Below W.heap.size W w':=hbW.trans (hb'.mono (by omega))
  refine⟨x',n',c',he,fp,fun k=>(F k∧k≠w.heap.size)∨(W'.heap.size≤k∧k<w'.heap.size),hpe,hT'.keep (fun k hk=>hbw.block k (hF k hk.1)) fun _ h=>Or.inl h,hb.trans (hbw.mono hb.size),fun k hk=>?_,hb.size,by have:=hb'.size;omega,by rw[hb'.block _ (by omega)];exact hgW,htr.keep (fun _ _=>rfl) fun _ h=>Or.inr h,fun k hk=>by
   rcases hk with h1|h1
   ·exact h1.2
   ·have:=hb.size;omega⟩
  have:=hb'.size;rcases hk with h1|h1
  ·have:=hF k h1.1;omega
  ·omega
 ·obtain⟨fp,F,hpe,hT,hb,hF,hg1,hg2,hg3,htr,hFz⟩:=hq;generalize hW':W.alloc (.cells #[.int .i64 0,.slice (some ⟨gf,0,none⟩) 1 1,.slice x n c,.slice none 0 0,.int .i64 0] 108)=W';have hbW:Below W.heap.size W W':=by rw[←hW'];exact(Below.refl _ _).alloc (Nat.le_refl _) _
  have hsW:W'.heap.size=W.heap.size+1:=by rw[←hW'];simp
  have hgW:W'.heap[W.heap.size]?=some (.cells #[.int .i64 0,.slice (some ⟨gf,0,none⟩) 1 1,.slice x n c,.slice none 0 0,.int .i64 0] 108 (0,0)):=by rw[←hW'];exact aR _ _ rfl _
  have hTW:kH fp F W' (dK fs d):=hT.keep (fun k hk=>hbW.block k (hF k hk).1) fun _ h=>h
  have hown:aF W.heap.size gf (.slice none 0 0) [⟨.pointer p,.int .i64 0,.int .i64 0,.pointer none,.slice none 0 0,.slice none 0 0⟩]=[W.heap.size,gf]:=rfl;have hnil:lF F w1.heap.size W' (.slice none 0 0) []:=⟨⟨[],World.ownsRow_nil _ _ _ _,fR.nil _ _⟩,fun a ha=>by simp at ha⟩
  have hrun:cO fp F w1.heap.size W' W.heap.size gf 1 (.int .i64 ((0:Nat):Int)) (.slice x n c) (.slice none 0 0) (.int .i64 0) [⟨.pointer p,.int .i64 0,.int .i64 0,.pointer none,.slice none 0 0,.slice none 0 0⟩] ⟨[⟨f0,0,0,[],[],[]⟩],tape,[]⟩:=by
   refine⟨hgW,⟨rfl,Or.inr ⟨gf,1,_,rfl,hg1,by rw[hbW.block _ hg2];exact hg3,Nat.le_refl _,by unfold maxLen;omega,rfl,rfl⟩⟩,⟨⟨?_,rfl,rfl,rfl,hnil,hnil⟩,trivial⟩,htr.keep (fun k hk=>hbW.block k (hF k hk).1) fun _ h=>h,World.ownsRow_nil _ _ _ _,?_,?_,fun k hk=>?_⟩
   ·show YN fp F W' (.pointer p) f0
    rw[hpe];exact hTW _ _ hf0'
   ·rw[hown];simp;omega
   ·rw[hown];simp;omega
   ·rw[hown];have:=hF k hk;simp;omega
  have hb0:Below w1.heap.size w1 W':=hb.trans (hbW.mono hb.size);have hbw0:Below w.heap.size w W':=hb1.trans (hb0.mono (by omega))
  refine(MU (kP hok) hU hrun hTW (yG.of hp hbw0 fun k hk=>?_) hb0.size hAO hMU (by simp) (by simp;omega) hk (by omega) hr).mono ?_
  ·rw[hown] at hk;have:=hb.size;simp at hk;omega
  rintro e w' ⟨he,hd1,G,gf',cap',tv'',outv',fvs',d1,d2,d3⟩;rw[hown] at d3 hd1
  have hsub:∀x∈aF W.heap.size gf' outv' fvs',w1.heap.size≤x:=fun x hx=>by
   have:=hb.size;rcases d3 x hx with h1|h1
   ·simp at h1;omega
   ·omega
  have hlt:∀k∈[W.heap.size,gf],w1.heap.size≤k:=fun k hk=>by have:=hb.size;simp at hk;omega
  refine⟨he,fp,G,gf',cap',tv'',outv',fvs',hb0.trans (hd1.below hb0.size hlt),hb.size,d2,?_,hsub,fun k hk=>?_⟩
  ·refine hTW.keep (fun k hk=>hd1.block k (Nat.lt_of_lt_of_le (hF k hk).1 hbW.size) fun hm=>?_) d1.sub
   have:=hF k hk;simp at hm;omega
  ·rcases d1.new k hk with h1|h1
   ·exact hFz k h1
   ·have:=hb0.size;omega
 ·obtain⟨fp,F,gf,cap,tv',outv,fvs,g1,g2,g5,gT,g6,g7⟩:=hq;have hblk:=g5.blk;refine⟨_,_,_,_,_,hblk,⟨_,_,_,rfl⟩,?_,sH g5.out,by rw[g1.block _ (by omega)];exact hB1,by omega,fun W' hkp hsz=>?_⟩
  ·rcases g5.tape with ⟨_,x,c,e⟩|⟨g,o,c,e,_⟩<;>exact⟨_,_,_,e⟩
  ·have hb0:Below w.heap.size w W:=hb1.trans (g1.mono (by omega))
   have hS:=g5.kept (G:=fun k=>F k∨(k∈aF b gf outv fvs∧k≠b)) (fun _ h=>Or.inl h) (fun k hk' hn=>Or.inr ⟨hk',hn⟩)
   have hne1:∀k,(F k∨(k∈aF b gf outv fvs∧k≠b))→k≠w.heap.size∧k<W.heap.size:=fun k hk'=>by
    rcases hk' with h1|⟨h1,_⟩
    ·exact⟨g7 k h1,(g5.apart k h1).1⟩
    ·have:=g6 k h1;exact⟨by omega,g5.lt k h1⟩
   have hkk:∀k,(F k∨(k∈aF b gf outv fvs∧k≠b))→W'.heap[k]?=W.heap[k]?:=fun k hk'=>hkp.block k (hne1 k hk').2 (by simpa using (hne1 k hk').1)
   refine⟨⟨hkp.os.trans hb0.os,hkp.tape.trans hb0.tape,hkp.output.trans hb0.output,by rw[hsz];exact hb0.size,fun k hk'=>?_⟩,fp,fun k=>F k∨(k∈aF b gf outv fvs∧k≠b),fun k hk'=>by rw[hsz];exact(hne1 k hk').2,gT.keep (fun k hk'=>hkk k (Or.inl hk')) fun _ h=>Or.inl h,hS.keep hkk fun _ h=>h⟩
   rw[hkp.block k (Nat.lt_of_lt_of_le hk' hb0.size) (by simp;omega),hb0.block k hk']
end Go.Proofs.YtblbkfdhjfppkaaGreatDoor
