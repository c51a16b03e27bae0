/- Contracts of the program: the compiler's statements. -/
import Derived.Test.YtblbkfdhjfppkaaGreatDoorPart15
import Derived.Test.YtblbkfdhjfppkaaGreatDoorPart06
import Derived.Test.YtblbkfdhjfppkaaGreatDoorPart07
set_option maxRecDepth 100000
set_option maxHeartbeats 4000000
namespace Go.Proofs.YtblbkfdhjfppkaaGreatDoor
open Hs
open Go.RowKit
theorem stC_seen{fs:List aC}{d:Nat}{seen:List (List UInt8)}{a:aC}(p:Nat)(h:dI fs d seen a):(bA fs d seen a p).2=cK seen a:=
 (lV fs d seen a (fun _ _=>False) p h ⟨fun _ _ _ h=>h.elim,fun _ _ h=>h.elim⟩).2.1
theorem StsOk.split{S:List (List UInt8)→aC→Prop}:∀{l m:List aC} {seen:List (List UInt8)},Hs.StsOk S seen (l++m)→Hs.StsOk S seen l∧Hs.StsOk S (dM seen l) m
 |[],_,_,h=>⟨trivial,h⟩
 |_::_,_,_,h=>by
  obtain⟨h1,h2⟩:=h;obtain⟨h3,h4⟩:=StsOk.split h2;exact⟨⟨h1,h3⟩,h4⟩
theorem pG:∀(l m:List aC) (seen:List (List UInt8)),dM seen (l++m)=dM (dM seen l) m
 |[],_,_=>rfl
 |a::l,m,seen=>pG l m (cK seen a)
theorem pA{fs:List aC}{d:Nat}:∀{l:List aC} (m:List aC) {seen:List (List UInt8)} (p:Nat),Hs.StsOk (dI fs d) seen l→bF (bA fs d) seen (l++m) p=bF (bA fs d) seen l p++bF (bA fs d) (dM seen l) m (p+(bF (bA fs d) seen l p).length)
 |[],m,seen,p,_=>by simp[bF,dM]
 |a::l,m,seen,p,h=>by
  obtain⟨h1,h2⟩:=h;rw[List.cons_append,bF,bF,stC_seen p h1,pA m _ h2,List.append_assoc,List.length_append,Nat.add_assoc];rfl
theorem ZE{fs:List aC}{d:Nat}(a:aC)(seen:List (List UInt8))(p:Nat):bF (bA fs d) seen [a] p=(bA fs d seen a p).1:=by simp[bF]
def KC(fp:Nat→Value)(fb:Nat→Nat)(nms:List (List UInt8))(cb:Nat)(F:Nat→Prop)(w:World)(code:List (Option aH))(seen:List (List UInt8))(w':World):Prop:=
 ∃G,(∀k,F k→G k)∧fU fp fb nms cb G w code seen w'
def OR(fp:Nat→Value)(fb:Nat→Nat)(fs:List aC)(cb lo:Nat)(d:Nat):Prop:=
 ∀(F:Nat→Prop) (seen:List (List UInt8)) (v:Value) (a:aC) (code:List (Option aH)) (w:World),CP fp fb (fs.map (·.text)) cb F w code seen→PN (Btw lo cb) w v a→dI fs d seen a→lO a→seen.length≤90001→code.length+(bA fs d seen a code.length).1.length≤1000000→
  Calls Tryz.prog 291 #[.pointer (some ⟨cb,0,none⟩),v] w fun e w'=>e=.returned (.tuple #[])∧KC fp fb (fs.map (·.text)) cb F w (code++(bA fs d seen a code.length).1.map some) (bA fs d seen a code.length).2 w'
section
variable {fp:Nat→Value} {fb:Nat→Nat} {fs:List aC} {cb lo:Nat} {F:Nat→Prop} {seen:List (List UInt8)} {d:Nat}
theorem KC.then{w w1 w':World}{nms:List (List UInt8)}{code:List (Option aH)}(h1:FB cb w w1)(h:KC fp fb nms cb F w1 code seen w'):KC fp fb nms cb F w code seen w':=by
 obtain⟨G,hG,h⟩:=h;exact⟨G,hG,h.then h1⟩
theorem KC.more{G:Nat→Prop}{w w':World}{nms:List (List UInt8)}{code:List (Option aH)}(hF:∀k,F k→G k)(h:KC fp fb nms cb G w code seen w'):KC fp fb nms cb F w code seen w':=by
 obtain⟨H,hH,h⟩:=h;exact⟨H,fun k hk=>hH k (hF k hk),h⟩
theorem UY{fs:List aC}{d:Nat}{seen:List (List UInt8)}{a:aC}(h:dI fs d seen a)(hs:seen.length≤90001):(cK seen a).length≤90001:=by
 cases d with
 |zero=>exact h.elim
 |succ d=>
  unfold cK;split
  ·rename_i hop;rcases h with ⟨_,h1,t,v,hk,_⟩|⟨h1,_⟩|⟨h1,_⟩|⟨h1,_⟩|⟨h1,_⟩|⟨h1,_⟩|⟨h1,_⟩
   ·rw[hk];simp;omega
   all_goals exact absurd (hop.symm.trans h1) (by decide)
  ·exact hs
theorem vY{fs:List aC}{d:Nat}:∀{l:List aC} {seen:List (List UInt8)},Hs.StsOk (dI fs d) seen l→seen.length≤90001→(dM seen l).length≤90001
 |[],_,_,h=>h
 |a::l,seen,hh,h=>by
  obtain⟨h1,h2⟩:=hh;exact vY (l:=l) (seen:=cK seen a) h2 (UY h1 h)
theorem oO(IH:OR fp fb fs cb lo d)(v:Value)(l:List aC)(code:List (Option aH))(w:World)(h:CP fp fb (fs.map (·.text)) cb F w code seen)(hv:PKid (Btw lo cb) w v l)(ho:Hs.StsOk (dI fs d) seen l)(hli:∀a∈l,lO a)(hl:l.length≤1000000)(hsn:seen.length≤90001)(hn:code.length+(bF (bA fs d) seen l code.length).length≤1000000):
 Calls Tryz.prog 237 #[.pointer (some ⟨cb,0,none⟩),v] w fun e w'=>e=.returned (.tuple #[])∧KC fp fb (fs.map (·.text)) cb F w (code++(bF (bA fs d) seen l code.length).map some) (dM seen l) w':=by
 rcases hv.get with ⟨rfl,rfl⟩|⟨g,cap,rfl,hg,hgl,hcap,hc⟩
 ·refine(zU w cb).mono ?_;rintro e w' ⟨rfl,rfl⟩;exact⟨rfl,F,fun _ h=>h,by simpa [bF,dM] using h,FB.refl _⟩
 ·refine(xO w cb g l.length cap (fun j W=>j≤l.length∧KC fp fb (fs.map (·.text)) cb F w (code++(bF (bA fs d) seen (l.take j) code.length).map some) (dM seen (l.take j)) W) hl ⟨Nat.zero_le _,F,fun _ h=>h,by simpa [bF,dM] using h,FB.refl _⟩ (fun j W hq hj=>?_)).mono ?_
  ·obtain⟨_,G,hG,hcp,hfb⟩:=hq;obtain⟨u,hu,hn'⟩:=hc j hj;obtain⟨T,cs,rfl⟩:=hn'.form;have htk:l.take (j+1)=l.take j++[l[j]]:=List.take_succ_eq_append_getElem hj
   have hsplit:Hs.StsOk (dI fs d) seen (l.take j++(l[j]::l.drop (j+1))):=by
    have e:l.take j++(l[j]::l.drop (j+1))=l:=by
     rw[List.getElem_cons_drop];exact List.take_append_drop _ _
    rw[e];exact ho
   obtain⟨hs1,hs2,_⟩:=StsOk.split hsplit;have hsp:bF (bA fs d) seen (l.take (j+1)) code.length=bF (bA fs d) seen (l.take j) code.length++(bA fs d (dM seen (l.take j)) l[j] (code.length+(bF (bA fs d) seen (l.take j) code.length).length)).1:=by rw[htk,pA _ _ hs1,ZE]
   have hall:(bF (bA fs d) seen (l.take (j+1)) code.length).length≤(bF (bA fs d) seen l code.length).length:=by
    have ho':Hs.StsOk (dI fs d) seen (l.take (j+1)++l.drop (j+1)):=by rw[List.take_append_drop];exact ho
    have:=pA (l.drop (j+1)) code.length (StsOk.split ho').1;rw[List.take_append_drop] at this;rw[this,List.length_append];omega
   have hcl:(code++(bF (bA fs d) seen (l.take j) code.length).map some).length=code.length+(bF (bA fs d) seen (l.take j) code.length).length:=by simp
   have hse:dM seen (l.take (j+1))=(bA fs d (dM seen (l.take j)) l[j] (code.length+(bF (bA fs d) seen (l.take j) code.length).length)).2:=by
    rw[htk,pG,stC_seen _ hs2];rfl
   refine⟨Nat.lt_of_lt_of_le hgl hfb.bel.size,T,.agg cs,by rw[hfb.bel.cell (p:=⟨g,j,none⟩) hg.2];exact hu,(IH G _ _ l[j] _ W hcp (hn'.below hfb.bel) hs2 (hli _ (List.getElem_mem hj)) (vY hs1 hsn) ?_).mono ?_⟩
   ·rw[hcl];rw[hsp,List.length_append] at hall;omega
   ·rintro e w' ⟨he,hto⟩;refine⟨he,hj,?_⟩;rw[hcl] at hto;rw[hsp,hse,List.map_append,←List.append_assoc];exact(hto.then hfb).more hG
  ·rintro e w' ⟨he,_,hto⟩;rw[List.take_of_length_le (Nat.le_refl _)] at hto;exact⟨he,hto⟩
theorem SM(IH:OR fp fb fs cb lo d)(v:Value)(l:List aC)(code:List (Option aH))(w:World)(h:CP fp fb (fs.map (·.text)) cb F w code seen)(hv:PKid (Btw lo cb) w v l)(ho:Hs.StsOk (dI fs d) seen l)(hli:∀a∈l,lO a)(hl:l.length≤1000000)(hsn:seen.length≤90001)(hn:code.length+(bF (bA fs d) seen l code.length).length≤1000000):
 Calls Tryz.prog 337 #[.pointer (some ⟨cb,0,none⟩),v] w fun e w'=>e=.returned (.tuple #[])∧KC fp fb (fs.map (·.text)) cb F w (code++(bF (bA fs d) seen l code.length).map some) seen w':=by
 obtain⟨x,c,rfl⟩:=hv.sliceC;have hst:=oO IH _ l code w h hv ho hli hl hsn hn;obtain⟨fv,cv,sp,h1,_,h4,_⟩:=h.blk;obtain⟨p,rfl⟩:=h4.form;refine SR w cb p x l.length c _ _ (aA h1 rfl) hst (fun W hq=>?_)
 obtain⟨G,hG,hcp,hfb⟩:=hq;obtain⟨fv',cv',sp',g1,⟨xs,g2,g3⟩,g4,g5⟩:=hcp.blk;refine⟨⟨_,aA g1 rfl⟩,aE g1,aD g1,G,hG,⟨⟨fv',cv',.pointer p,aQ g1,⟨xs,?_,?_⟩,?_,?_⟩,fun k hk=>?_⟩,?_⟩
 all_goals have hk:∀k,k≠cb→(W.setCell ⟨cb,2,none⟩ (.pointer p)).heap[k]?=W.heap[k]?:=fun k hk=>Below.heap_setCell _ _ _ _ hk
 all_goals have hGk:∀b,G b→(W.setCell ⟨cb,2,none⟩ (.pointer p)).heap[b]?=W.heap[b]?:=fun b hb=>hk b (hcp.fix b hb).2.1
 all_goals have hro:kE cb (W.setCell ⟨cb,2,none⟩ (.pointer p))=kE cb W:=by rw[iI (aQ g1),iI g1]
 ·exact aY g2 fun k e=>hk k (by have:=(g2.lt k e).1;omega)
 ·exact g3.keep hGk fun _ h=>h
 ·exact eO.keep (fun b hb=>by rw[hGk b (hG b hb),h.fixed hfb b hb]) hG h4
 ·exact g5.keep hGk (fun _ h=>h) (by simp)
 ·obtain⟨e1,e2,e3⟩:=hcp.fix k (by assumption)
  exact⟨by simpa using e1,e2,by rw[hro];exact e3⟩
 ·refine hfb.trans ⟨⟨rfl,rfl,rfl,by simp,fun k hk'=>hk k (by omega)⟩,fun k _ h2 _=>hk k h2,fun k e=>Or.inl (by rw[←hro];exact e)⟩
end
section
variable {fp:Nat→Value} {fb:Nat→Nat} {fs:List aC} {cb lo:Nat} {F:Nat→Prop} {alone:Bool} {seen:List (List UInt8)} {d:Nat}
theorem YG(IH:CD fp fb fs cb lo F alone seen d)(hfn:fs.length≤1000000)(hfp:∀k,k<fs.length→fp k=.pointer (some ⟨fb k,0,none⟩))(a:aC)(sv:Value)(l:Int)(code:List (Option aH))(w:World)(hcp:CP fp fb (fs.map (·.text)) cb F w code seen)(hop:a.op=[99,97,108,108])(hp:PKid (Btw lo cb) w sv a.kids)(hok:Hs.ExOk fs alone seen (d+1) a)(hli:oQ (d+1) a)(hlen:code.length+(aG fs seen (d+1) a code.length).length≤1000000):
 Calls Tryz.prog 289 #[.pointer (some ⟨cb,0,none⟩),.agg #[.int .i64 l,.string (bs a.text),sv]] w fun e w'=>e=.returned (.tuple #[])∧fU fp fb (fs.map (·.text)) cb F w (code++(aG fs seen (d+1) a code.length).map some) seen w':=by
 have hops:=ExOk.op hok;obtain⟨_,hk1,hlik⟩:=hli;rw[BE fs seen d a _ hop] at hlen ⊢
 rw[List.length_append,List.length_singleton] at hlen;have hkx:=hops.1;have hcase:=hops.2.2 hop;obtain⟨x,c,rfl⟩:=hp.sliceC;obtain⟨hloc2,hcp2⟩:=hcp.new (.cells #[.int .i64 l,.string (bs a.text),.slice x a.kids.length c] 341);have blk2:∀{W:World},FB cb (w.alloc (.cells #[.int .i64 l,.string (bs a.text),.slice x a.kids.length c] 341)) W→W.heap[w.heap.size]?=some (.cells #[.int .i64 l,.string (bs a.text),.slice x a.kids.length c] 341 (0,0)):=fun hfb=>(hloc2.step hfb).blk
 have hx2:Calls Tryz.prog 287 #[.pointer (some ⟨cb,0,none⟩),.slice x a.kids.length c] (w.alloc (.cells #[.int .i64 l,.string (bs a.text),.slice x a.kids.length c] 341)) fun e w'=>e=.returned (.tuple #[])∧(fU fp fb (fs.map (·.text)) cb F w (code++(bO (aG fs seen d) a.kids code.length).map some) seen w'∧w'.heap[w.heap.size]?=some (.cells #[.int .i64 l,.string (bs a.text),.slice x a.kids.length c] 341 (0,0))):=by
  refine(qK IH _ _ _ _ hcp2 (hp.below hloc2.fb.bel) hkx hlik hk1 (by omega)).mono ?_
  rintro e w' ⟨he,hto⟩;exact⟨he,hto.then hloc2.fb,blk2 hto.2⟩
 have hfin:∀{i:aH} {e:Ending} {W:World},(e=.returned (.tuple #[])∧fU fp fb (fs.map (·.text)) cb F w ((code++(bO (aG fs seen d) a.kids code.length).map some)++[some i]) seen W)→e=.returned (.tuple #[])∧fU fp fb (fs.map (·.text)) cb F w (code++(bO (aG fs seen d) a.kids code.length++[i]).map some) seen W:=fun hq=>by
  rw[List.map_append,←List.append_assoc];exact hq
 have hbd:(code++(bO (aG fs seen d) a.kids code.length).map some).length+1≤1000000:=by rw[fH];omega
 rcases hcase with htx|htx|⟨ht1,ht2,har⟩
 ·rw[htx] at hx2 ⊢
  refine(OK w cb a.kids.length c l x _ _ hx2 (fun W hq=>⟨aA hq.2 rfl,aD hq.2⟩) (fun W hq=>emits (i:=.length) hq.1 rfl hbd)).mono ?_
  intro e W hq;exact hfin hq
 ·rw[htx] at hx2 ⊢
  refine(FU w cb a.kids.length c l x _ _ hx2 (fun W hq=>⟨aA hq.2 rfl,aD hq.2⟩) (fun W hq=>emits (i:=.read) hq.1 rfl hbd)).mono ?_
  intro e W hq;exact hfin hq
 ·have hfl:cU fs a.text<fs.length:=by
   unfold fI at har;cases hf:fs[cU fs a.text]? with
   |none=>rw[hf] at har;cases har
   |some f=>exact(List.getElem?_eq_some_iff.1 hf).1
  have hmem:a.text∈fs.map (·.text):=by
   have h9:=hfl;unfold cU at h9;have:=List.findIdx_getElem (w:=h9);exact List.mem_map.2 ⟨_,List.getElem_mem h9,by simpa using this⟩
  have e1:(a.text==[108,101,110])=false:=by simpa using ht1
  have e2:(a.text==[114,101,97,100])=false:=by simpa using ht2
  rw[e1,e2];refine(BW w cb a.kids.length c (fb (cU fs a.text)) l a.text x (fun W=>fU fp fb (fs.map (·.text)) cb F w ((code++(bO (aG fs seen d) a.kids code.length).map some)++[some (.call (cU fs a.text) a.kids.length)]) seen W) _ ht1 ht2 hx2 (fun W hq=>⟨aA hq.2 rfl,aA hq.2 rfl,aD hq.2⟩) (fun W W' hq hS=>?_) (fun W W' hq hS=>?_)).mono ?_
  ·refine(rQ a.text (hq.1.1.grow hS.below) hmem (by simpa using hfn)).mono ?_
   rintro e w' ⟨he,hw'⟩;rw[BB,hfp _ hfl] at he;exact⟨he,hw'⟩
  ·have hq':fU fp fb (fs.map (·.text)) cb F w (code++(bO (aG fs seen d) a.kids code.length).map some) seen W':=⟨hq.1.1.grow hS.below,hq.1.2.trans (FB.of_below hS.below hq.1.1.lt)⟩
   exact emits (i:=.call (cU fs a.text) a.kids.length) hq' (by show _=_;rw[hfp _ hfl]) hbd
  ·intro e W hq;exact hfin hq
end
section
variable (fs:List aC) (seen:List (List UInt8)) (d:Nat) (a:aC) (p:Nat)
theorem I4(t v:aC)(h:a.op=[118,97,114])(hk:a.kids=[t,v]):bA fs (d+1) seen a p=(.begin a.line seen::aG fs seen d v (p+1)++[.declare seen.length],t.text::seen):=by rw[bA];simp[h,hk]
theorem I5(h:a.op=[115,101,116]):bA fs (d+1) seen a p=(.begin a.line seen::bO (aG fs seen d) a.kids (p+1)++[.assign (dS seen a.text) (a.kids.length-1)],seen):=by rw[bA];simp[h]
theorem I7(c t:aC)(h:a.op=[105,102])(hk:a.kids=[c,t]):bA fs (d+1) seen a p=
 (.begin a.line seen::aG fs seen d c (p+1)++[.skip (p+1+(aG fs seen d c (p+1)).length+1+(bF (bA fs d) seen t.kids (p+1+(aG fs seen d c (p+1)).length+1)).length+1)]++bF (bA fs d) seen t.kids (p+1+(aG fs seen d c (p+1)).length+1)++[.jump (p+1+(aG fs seen d c (p+1)).length+1+(bF (bA fs d) seen t.kids (p+1+(aG fs seen d c (p+1)).length+1)).length+1)],seen):=by rw[bA];simp[h,hk]
theorem I6(c t x:aC)(h:a.op=[105,102])(hk:a.kids=[c,t,x]):bA fs (d+1) seen a p=
 (.begin a.line seen::aG fs seen d c (p+1)++[.skip (p+1+(aG fs seen d c (p+1)).length+1+(bF (bA fs d) seen t.kids (p+1+(aG fs seen d c (p+1)).length+1)).length+1)]++bF (bA fs d) seen t.kids (p+1+(aG fs seen d c (p+1)).length+1)++[.jump (p+1+(aG fs seen d c (p+1)).length+1+(bF (bA fs d) seen t.kids (p+1+(aG fs seen d c (p+1)).length+1)).length+1+(bF (bA fs d) seen x.kids (p+1+(aG fs seen d c (p+1)).length+1+(bF (bA fs d) seen t.kids (p+1+(aG fs seen d c (p+1)).length+1)).length+1)).length)]++
   bF (bA fs d) seen x.kids (p+1+(aG fs seen d c (p+1)).length+1+(bF (bA fs d) seen t.kids (p+1+(aG fs seen d c (p+1)).length+1)).length+1),seen):=by rw[bA];simp[h,hk]
theorem US(c b:aC)(h:a.op=[119,104,105,108,101])(hk:a.kids=[c,b]):bA fs (d+1) seen a p=
 (.begin a.line seen::aG fs seen d c (p+1)++[.skip (p+1+(aG fs seen d c (p+1)).length+1+(bF (bA fs d) seen b.kids (p+1+(aG fs seen d c (p+1)).length+1)).length+1)]++bF (bA fs d) seen b.kids (p+1+(aG fs seen d c (p+1)).length+1)++[.jump p],seen):=by rw[bA];simp[h,hk]
theorem KW(h:a.op=[114,101,116,117,114,110])(hk:a.kids=[]):bA fs (d+1) seen a p=([.begin a.line seen,.push (bB 0),.give],seen):=by rw[bA];simp[h,hk]
theorem KV(v:aC)(h:a.op=[114,101,116,117,114,110])(hk:a.kids=[v]):bA fs (d+1) seen a p=(.begin a.line seen::aG fs seen d v (p+1)++[.give],seen):=by rw[bA];simp[h,hk]
theorem UT(v:aC)(h:a.op=[112,114,105,110,116])(hk:a.kids=[v]):bA fs (d+1) seen a p=(.begin a.line seen::aG fs seen d v (p+1)++[.print],seen):=by rw[bA];simp[h,hk]
theorem P2(c:aC)(h:a.op=[100,111])(hk:a.kids=[c]):bA fs (d+1) seen a p=(.begin a.line seen::aG fs seen d c (p+1)++[.drop],seen):=by rw[bA];simp[h,hk]
end
section
variable {fp:Nat→Value} {fb:Nat→Nat} {fs:List aC} {cb lo:Nat} {F:Nat→Prop} {seen:List (List UInt8)} {d:Nat}
def oR(fp:Nat→Value)(fb:Nat→Nat)(nms:List (List UInt8))(cb:Nat)(F:Nat→Prop)(w w1:World)(b:Nat)(o:Obj)(seen:List (List UInt8))(c:List (Option aH))(W:World):Prop:=
 ∃G,(∀k,F k→G k)∧fU fp fb nms cb G w c seen W∧Loc cb w1 b o W
theorem oR.emit{nms:List (List UInt8)}{w w1 W:World}{b:Nat}{o:Obj}{c:List (Option aH)}(hq:oR fp fb nms cb F w w1 b o seen c W){u:Value}{i:Option aH}(hu:∀G,O2 fp G W u i)(hn:c.length≤1000000):
 Calls Tryz.prog 238 #[.pointer (some ⟨cb,0,none⟩),u] W fun e w'=>e=.returned (.int .i64 c.length)∧oR fp fb nms cb F w w1 b o seen (c++[i]) w':=by
 obtain⟨G,hG,hto,hL⟩:=hq;refine(pU (o:=i) hto.1 (hu G) hn).mono ?_;rintro e w' ⟨he,h1,h2⟩;exact⟨he,G,hG,⟨h1,hto.2.trans h2⟩,hL.step h2⟩
theorem oR.patch{nms:List (List UInt8)}{w w1 W:World}{b:Nat}{o:Obj}{pre post:List (Option aH)}(hq:oR fp fb nms cb F w w1 b o seen (pre++none::post) W)(k:Nat)(hk:k=pre.length)(ty:TypeId)(i:Nat→aH)(hi:∀G n,kL fp G W (.iface ty (.agg #[.int .i64 (n:Nat)])) (i n))(hn:(pre++none::post).length≤1000000):
 cb<W.heap.size∧∃g n c,W.cell? ⟨cb,1,none⟩=some (.slice (some ⟨g,0,none⟩) n c)∧k<n∧n≤1000000∧(∃u,W.cell? ⟨g,k,none⟩=some u)∧W.frozen? ⟨g,k,none⟩=false∧g<W.heap.size∧∀W',aW (W.setCell ⟨g,k,none⟩ (.iface ty (.agg #[.int .i64 (n:Nat)]))) W'→oR fp fb nms cb F w w1 b o seen (pre++some (i (pre++none::post).length)::post) W':=by
 obtain⟨G,hG,⟨hc1,hc2⟩,hL⟩:=hq;obtain⟨g,c,p1,p2,p3,p4,p5⟩:=hc1.patch;subst hk;refine⟨hc1.lt,g,_,c,p1,by simp,hn,p2,p3,p4,fun W' hS=>?_⟩
 obtain⟨q1,q2⟩:=p5 _ _ W' (hi G _) hS;exact⟨G,hG,⟨q1,hc2.trans q2⟩,hL.step q2⟩
theorem oR.blockk(IH:OR fp fb fs cb lo d){w w1 W:World}{b:Nat}{o:Obj}{c:List (Option aH)}(hq:oR fp fb (fs.map (·.text)) cb F w w1 b o seen c W)(v:Value)(l:List aC)(hv:PKid (Btw lo cb) w v l)(ho:Hs.StsOk (dI fs d) seen l)(hli:∀a∈l,lO a)(hl:l.length≤1000000)(hsn:seen.length≤90001)(hn:c.length+(bF (bA fs d) seen l c.length).length≤1000000):
 Calls Tryz.prog 337 #[.pointer (some ⟨cb,0,none⟩),v] W fun e w'=>e=.returned (.tuple #[])∧oR fp fb (fs.map (·.text)) cb F w w1 b o seen (c++(bF (bA fs d) seen l c.length).map some) w':=by
 obtain⟨G,hG,hto,hL⟩:=hq;refine(SM IH v l c W hto.1 (hv.below hto.2.bel) ho hli hl hsn hn).mono ?_;rintro e w' ⟨he,H,hH,hto2⟩;exact⟨he,H,fun k hk=>hH k (hG k hk),hto2.then hto.2,hL.step hto2.2⟩
theorem oR.exprk{w w1 W:World}{b:Nat}{o:Obj}{c:List (Option aH)}(hq:oR fp fb (fs.map (·.text)) cb F w w1 b o seen c W)(hfn:fs.length≤1000000)(hfp:∀k,k<fs.length→fp k=.pointer (some ⟨fb k,0,none⟩))(hsn:seen.length≤90001)(v:Value)(a:aC)(hv:PN (Btw lo cb) w v a)(ho:Hs.ExOk fs false seen d a)(hli:lO a)(hn:c.length+(aG fs seen d a c.length).length≤1000000):
 Calls Tryz.prog 233 #[.pointer (some ⟨cb,0,none⟩),v] W fun e w'=>e=.returned (.tuple #[])∧oR fp fb (fs.map (·.text)) cb F w w1 b o seen (c++(aG fs seen d a c.length).map some) w':=by
 obtain⟨G,hG,hto,hL⟩:=hq;refine(qL (by omega) hfn hfp d v a c W hto.1 (hv.below hto.2.bel) ho (hli d) hn).mono ?_
 rintro e w' ⟨he,hto2⟩;exact⟨he,G,hG,hto2.then hto.2,hL.step hto2.2⟩
theorem oR.exprsk{w w1 W:World}{b:Nat}{o:Obj}{c:List (Option aH)}(hq:oR fp fb (fs.map (·.text)) cb F w w1 b o seen c W)(hfn:fs.length≤1000000)(hfp:∀k,k<fs.length→fp k=.pointer (some ⟨fb k,0,none⟩))(hsn:seen.length≤90001)(v:Value)(l:List aC)(hv:PKid (Btw lo cb) w v l)(ho:∀a∈l,Hs.ExOk fs false seen d a)(hli:∀a∈l,lO a)(hl:l.length≤1000000)(hn:c.length+(bO (aG fs seen d) l c.length).length≤1000000):
 Calls Tryz.prog 287 #[.pointer (some ⟨cb,0,none⟩),v] W fun e w'=>e=.returned (.tuple #[])∧oR fp fb (fs.map (·.text)) cb F w w1 b o seen (c++(bO (aG fs seen d) l c.length).map some) w':=by
 obtain⟨G,hG,hto,hL⟩:=hq;refine(qK (qL (by omega) hfn hfp d) v l c W hto.1 (hv.below hto.2.bel) ho (fun a ha=>hli a ha d) hl hn).mono ?_
 rintro e w' ⟨he,hto2⟩;exact⟨he,G,hG,hto2.then hto.2,hL.step hto2.2⟩
theorem oR.fin{nms:List (List UInt8)}{w w1 W:World}{b:Nat}{o:Obj}{c:List (Option aH)}(hq:oR fp fb nms cb F w w1 b o seen c W):KC fp fb nms cb F w c seen W:=by
 obtain⟨G,hG,hto,_⟩:=hq;exact⟨G,hG,hto⟩
theorem oR.box{nms:List (List UInt8)}{w w1 W:World}{b:Nat}{cs:Array Value}{T:TypeId}{c:List (Option aH)}(hq:oR fp fb nms cb F w w1 b (.cells cs T) seen c W):W.heap[b]?=some (.cells cs T (0,0)):=by
 obtain⟨G,hG,_,hL⟩:=hq;exact hL.blk
theorem CP.cpB{nms:List (List UInt8)}{w:World}{code:List (Option aH)}(h:CP fp fb nms cb F w code seen)(o:Obj):oR fp fb nms cb F w w w.heap.size o seen code (w.alloc o):=by
 obtain⟨hloc,hcp⟩:=h.new o;exact⟨F,fun _ h=>h,⟨hcp,hloc.fb⟩,hloc⟩
theorem wP(IH:OR fp fb fs cb lo d)(hfn:fs.length≤1000000)(hfp:∀k,k<fs.length→fp k=.pointer (some ⟨fb k,0,none⟩))(hsn:seen.length≤90001)(l:Int)(v1 s1 s2:Value)(c:aC)(lt le:List aC)(code:List (Option aH))(w:World)(h:CP fp fb (fs.map (·.text)) cb F w code seen)
 (hv:PN (Btw lo cb) w v1 c) (ht:PKid (Btw lo cb) w s1 lt) (he:PKid (Btw lo cb) w s2 le) (ho:Hs.ExOk fs false seen d c) (ho1:Hs.StsOk (dI fs d) seen lt) (ho2:Hs.StsOk (dI fs d) seen le) (hl:lO c) (hl1:∀a∈lt,lO a) (hl2:∀a∈le,lO a) (hn1:lt.length≤1000000) (hn2:le.length≤1000000)
 (cc ct ce:List aH) (hcc:aG fs seen d c code.length=cc) (hct:bF (bA fs d) seen lt (code.length+cc.length+1)=ct) (hce:bF (bA fs d) seen le (code.length+cc.length+1+ct.length+1)=ce) (hn:code.length+cc.length+1+ct.length+1+ce.length≤1000000):
 Calls Tryz.prog 324 #[.pointer (some ⟨cb,0,none⟩),.agg #[.int .i64 l,v1,s1,s2]] w fun e w'=>e=.returned (.tuple #[])∧KC fp fb (fs.map (·.text)) cb F w (code++(cc++[aH.skip (code.length+cc.length+1+ct.length+1)]++ct++[aH.jump (code.length+cc.length+1+ct.length+1+ce.length)]++ce).map some) seen w':=by
 obtain⟨T1,cs1,rfl⟩:=hv.form;obtain⟨x1,c1,rfl⟩:=ht.sliceC;obtain⟨x2,c2,rfl⟩:=he.sliceC;have hb0:=h.cpB (.cells #[.int .i64 l,.iface T1 (.agg cs1),.slice x1 lt.length c1,.slice x2 le.length c2] 334)
 refine(OF w cb (code.length+cc.length) (code.length+cc.length+1+ct.length) l T1 (.agg cs1) x1 x2 lt.length le.length c1 c2
  (fun W=>KC fp fb (fs.map (·.text)) cb F w ((code++cc.map some++some (aH.skip (code.length+cc.length+1+ct.length+1))::ct.map some)++some (aH.jump (code.length+cc.length+1+ct.length+1+ce.length))::ce.map some) seen W)
  (oR fp fb (fs.map (·.text)) cb F w w w.heap.size (.cells #[.int .i64 l,.iface T1 (.agg cs1),.slice x1 lt.length c1,.slice x2 le.length c2] 334) seen (code++cc.map some))
  (oR fp fb (fs.map (·.text)) cb F w w w.heap.size (.cells #[.int .i64 l,.iface T1 (.agg cs1),.slice x1 lt.length c1,.slice x2 le.length c2] 334) seen (code++cc.map some++[none]))
  (oR fp fb (fs.map (·.text)) cb F w w w.heap.size (.cells #[.int .i64 l,.iface T1 (.agg cs1),.slice x1 lt.length c1,.slice x2 le.length c2] 334) seen (code++cc.map some++[none]++ct.map some))
  (oR fp fb (fs.map (·.text)) cb F w w w.heap.size (.cells #[.int .i64 l,.iface T1 (.agg cs1),.slice x1 lt.length c1,.slice x2 le.length c2] 334) seen (code++cc.map some++[none]++ct.map some++[none]))
  (oR fp fb (fs.map (·.text)) cb F w w w.heap.size (.cells #[.int .i64 l,.iface T1 (.agg cs1),.slice x1 lt.length c1,.slice x2 le.length c2] 334) seen (code++cc.map some++some (aH.skip (code.length+cc.length+1+ct.length+1))::(ct.map some++[none])))
  (oR fp fb (fs.map (·.text)) cb F w w w.heap.size (.cells #[.int .i64 l,.iface T1 (.agg cs1),.slice x1 lt.length c1,.slice x2 le.length c2] 334) seen (code++cc.map some++some (aH.skip (code.length+cc.length+1+ct.length+1))::(ct.map some++[none])++ce.map some))
  ?_ (fun W hq=>?_) (fun W hq=>?_) (fun W hq=>?_) (fun W hq=>?_) (fun W hq=>?_) (fun W hq=>?_) (fun W hq=>?_) (fun W hq=>?_)).mono ?_
 ·have:=hb0.exprk hfn hfp hsn _ c hv ho hl (by rw[hcc];omega)
  rw[hcc] at this;exact this
 ·have:=hq.emit (u:=.nilIface) (i:=none) (fun _=>rfl) (by simp;omega)
  rw[fH] at this;exact this
 ·exact⟨aA hq.box rfl,aD hq.box⟩
 ·have hcl:(code++cc.map some++[none]).length=code.length+cc.length+1:=by simp;omega
  have:=hq.blockk IH _ lt ht ho1 hl1 hn1 hsn (by rw[hcl,hct];omega)
  rw[hcl,hct] at this;exact this
 ·have hcl:(code++cc.map some++[none]++ct.map some).length=code.length+cc.length+1+ct.length:=by simp;omega
  have:=hq.emit (u:=.nilIface) (i:=none) (fun _=>rfl) (by rw[hcl];omega)
  rw[hcl] at this;exact this
 ·have e0:code++cc.map some++[none]++ct.map some++[none]=(code++cc.map some)++none::(ct.map some++[none]):=by simp
  rw[e0] at hq;have hnl:((code++cc.map some)++none::(ct.map some++[none])).length=code.length+cc.length+1+ct.length+1:=by simp;omega
  have:=hq.patch (code.length+cc.length) (by rw[fH]) 461 (fun n=>.skip n) (fun _ _=>rfl) (by rw[hnl];omega)
  rw[hnl] at this;exact this
 ·exact⟨aA hq.box rfl,aD hq.box⟩
 ·have hcl:(code++cc.map some++some (aH.skip (code.length+cc.length+1+ct.length+1))::(ct.map some++[none])).length=code.length+cc.length+1+ct.length+1:=by simp;omega
  have:=hq.blockk IH _ le he ho2 hl2 hn2 hsn (by rw[hcl,hce];omega)
  rw[hcl,hce] at this;exact this
 ·have e0:code++cc.map some++some (aH.skip (code.length+cc.length+1+ct.length+1))::(ct.map some++[none])++ce.map some=(code++cc.map some++some (aH.skip (code.length+cc.length+1+ct.length+1))::ct.map some)++none::ce.map some:=by simp
  rw[e0] at hq;have hnl:((code++cc.map some++some (aH.skip (code.length+cc.length+1+ct.length+1))::ct.map some)++none::ce.map some).length=code.length+cc.length+1+ct.length+1+ce.length:=by simp;omega
  have hpl:code.length+cc.length+1+ct.length=(code++cc.map some++some (aH.skip (code.length+cc.length+1+ct.length+1))::ct.map some).length:=by simp;omega
  have:=hq.patch (code.length+cc.length+1+ct.length) hpl 462 (fun n=>.jump n) (fun _ _=>rfl) (by rw[hnl];omega)
  rw[hnl] at this;obtain⟨a1,g,n,cc',a2,a3,a4,a5,a6,a7,a8⟩:=this;exact⟨a1,g,n,cc',a2,a3,a4,a5,a6,a7,fun W' hS=>(a8 W' hS).fin⟩
 ·intro e W hq;have e9:code++(cc++[aH.skip (code.length+cc.length+1+ct.length+1)]++ct++[aH.jump (code.length+cc.length+1+ct.length+1+ce.length)]++ce).map some=(code++cc.map some++some (aH.skip (code.length+cc.length+1+ct.length+1))::ct.map some)++some (aH.jump (code.length+cc.length+1+ct.length+1+ce.length))::ce.map some:=by simp
  rw[e9];exact hq
theorem XX(IH:OR fp fb fs cb lo d)(hfn:fs.length≤1000000)(hfp:∀k,k<fs.length→fp k=.pointer (some ⟨fb k,0,none⟩))(hsn:seen.length≤90001)(l:Int)(start:Nat)(v1 s1:Value)(c:aC)(lt:List aC)(code:List (Option aH))(w:World)(h:CP fp fb (fs.map (·.text)) cb F w code seen)
 (hv:PN (Btw lo cb) w v1 c) (ht:PKid (Btw lo cb) w s1 lt) (ho:Hs.ExOk fs false seen d c) (ho1:Hs.StsOk (dI fs d) seen lt) (hl:lO c) (hl1:∀a∈lt,lO a) (hn1:lt.length≤1000000)
 (cc ct:List aH) (hcc:aG fs seen d c code.length=cc) (hct:bF (bA fs d) seen lt (code.length+cc.length+1)=ct) (hn:code.length+cc.length+1+ct.length+1≤1000000):
 Calls Tryz.prog 325 #[.pointer (some ⟨cb,0,none⟩),.agg #[.int .i64 l,v1,s1],.int .i64 start] w fun e w'=>e=.returned (.tuple #[])∧KC fp fb (fs.map (·.text)) cb F w (code++(cc++[aH.skip (code.length+cc.length+1+ct.length+1)]++ct++[aH.jump start]).map some) seen w':=by
 obtain⟨T1,cs1,rfl⟩:=hv.form;obtain⟨x1,c1,rfl⟩:=ht.sliceC;have hb0:=h.cpB (.cells #[.int .i64 l,.iface T1 (.agg cs1),.slice x1 lt.length c1] 336)
 refine(WU w cb (code.length+cc.length) start l T1 (.agg cs1) x1 lt.length c1
  (fun W=>KC fp fb (fs.map (·.text)) cb F w ((code++cc.map some)++some (aH.skip (code.length+cc.length+1+ct.length+1))::(ct.map some++[some (aH.jump start)])) seen W)
  (oR fp fb (fs.map (·.text)) cb F w w w.heap.size (.cells #[.int .i64 l,.iface T1 (.agg cs1),.slice x1 lt.length c1] 336) seen (code++cc.map some))
  (oR fp fb (fs.map (·.text)) cb F w w w.heap.size (.cells #[.int .i64 l,.iface T1 (.agg cs1),.slice x1 lt.length c1] 336) seen (code++cc.map some++[none]))
  (oR fp fb (fs.map (·.text)) cb F w w w.heap.size (.cells #[.int .i64 l,.iface T1 (.agg cs1),.slice x1 lt.length c1] 336) seen (code++cc.map some++[none]++ct.map some))
  (oR fp fb (fs.map (·.text)) cb F w w w.heap.size (.cells #[.int .i64 l,.iface T1 (.agg cs1),.slice x1 lt.length c1] 336) seen (code++cc.map some++[none]++ct.map some++[some (aH.jump start)]))
  ?_ (fun W hq=>?_) (fun W hq=>?_) (fun W hq=>?_) (fun W hq=>?_) (fun W hq=>?_)).mono ?_
 ·have:=hb0.exprk hfn hfp hsn _ c hv ho hl (by rw[hcc];omega)
  rw[hcc] at this;exact this
 ·have:=hq.emit (u:=.nilIface) (i:=none) (fun _=>rfl) (by simp;omega)
  rw[fH] at this;exact this
 ·exact⟨aA hq.box rfl,aD hq.box⟩
 ·have hcl:(code++cc.map some++[none]).length=code.length+cc.length+1:=by simp;omega
  have:=hq.blockk IH _ lt ht ho1 hl1 hn1 hsn (by rw[hcl,hct];omega)
  rw[hcl,hct] at this;exact this
 ·have hcl:(code++cc.map some++[none]++ct.map some).length=code.length+cc.length+1+ct.length:=by simp;omega
  refine(hq.emit (u:=.iface 462 (.agg #[.int .i64 start])) (i:=some (aH.jump start)) (fun _=>rfl) (by rw[hcl];omega)).mono ?_
  rintro e w' ⟨he,h2⟩;exact⟨⟨_,he⟩,h2⟩
 ·have e0:code++cc.map some++[none]++ct.map some++[some (aH.jump start)]=(code++cc.map some)++none::(ct.map some++[some (aH.jump start)]):=by simp
  rw[e0] at hq;have hnl:((code++cc.map some)++none::(ct.map some++[some (aH.jump start)])).length=code.length+cc.length+1+ct.length+1:=by simp;omega
  have:=hq.patch (code.length+cc.length) (by rw[fH]) 461 (fun n=>.skip n) (fun _ _=>rfl) (by rw[hnl];omega)
  rw[hnl] at this;obtain⟨a1,g,n,cc',a2,a3,a4,a5,a6,a7,a8⟩:=this;exact⟨a1,g,n,cc',a2,a3,a4,a5,a6,a7,fun W' hS=>(a8 W' hS).fin⟩
 ·intro e W hq;have e9:code++(cc++[aH.skip (code.length+cc.length+1+ct.length+1)]++ct++[aH.jump start]).map some=(code++cc.map some)++some (aH.skip (code.length+cc.length+1+ct.length+1))::(ct.map some++[some (aH.jump start)]):=by simp
  rw[e9];exact hq
end
section
variable {fp:Nat→Value} {fb:Nat→Nat} {fs:List aC} {cb lo:Nat} {d:Nat}
theorem fU.cpB{F:Nat→Prop}{seen:List (List UInt8)}{nms:List (List UInt8)}{w W:World}{code:List (Option aH)}(h:fU fp fb nms cb F w code seen W)(o:Obj):oR fp fb nms cb F w W W.heap.size o seen code (W.alloc o):=by
 obtain⟨hloc,hcp⟩:=h.1.new o;exact⟨F,fun _ h=>h,⟨hcp,h.2.trans hloc.fb⟩,hloc⟩
theorem E1(IH:OR fp fb fs cb lo d)(hfn:fs.length≤1000000)(hfp:∀k,k<fs.length→fp k=.pointer (some ⟨fb k,0,none⟩)):OR fp fb fs cb lo (d+1):=by
 intro F seen v a code w h hpn hok hli hsn hlen;obtain⟨T,cs,ps,rfl,hsh,hps⟩:=hpn.parts;obtain⟨fv,cv,sp,h1,_,h4,_⟩:=h.blk;obtain⟨p,rfl⟩:=h4.form;have hlt:=h.lt;have hc2:w.cell? ⟨cb,2,none⟩=some (.pointer p):=aA h1 rfl
 have beg:code.length+1≤1000000→Calls Tryz.prog 238 #[.pointer (some ⟨cb,0,none⟩),.iface 365 (.agg #[.int .i64 a.line,.pointer p])] (w.drew.alloc (.cells #[.int .i64 a.line] 209)) fun e w'=>e=.returned (.int .i64 code.length)∧fU fp fb (fs.map (·.text)) cb F w (code++[some (.begin a.line seen)]) seen w':=fun hn=>by
  have hb:Below w.heap.size w (w.drew.alloc (.cells #[.int .i64 a.line] 209)):=((Below.refl _ w).drew).alloc (Nat.le_refl _) _;have h':=h.grow hb;refine(pU (o:=some (.begin a.line seen)) h' ⟨_,rfl,eO.keep (fun b hb'=>hb.block b (h.fix b hb').1) (fun _ h=>h) h4⟩ (by omega)).mono ?_
  rintro e w' ⟨he,q1,q2⟩;exact⟨he,q1,(FB.of_below hb hlt).trans q2⟩
 have hcl:(code++[some (aH.begin a.line seen)]).length=code.length+1:=by simp
 have hsn':seen.length≤1000000:=by omega
 have no:∀{x y:List UInt8} {p:Prop},a.op=x→x≠y→a.op=y→p:=fun e1 e2 e3=>absurd (e1.symm.trans e3) e2
 rcases hsh with ⟨_,_,_,hop,_⟩|⟨_,_,hop,_⟩|⟨_,_,hop,_⟩|⟨_,_,_,hop,_⟩|⟨_,_,_,hop,_⟩|⟨_,_,hop,_⟩|⟨_,_,_,_,_,_,_,hop,_⟩|⟨_,o,_,_,_,hoo,hop,_⟩|⟨_,_,_,_,_,_,_,hop,_⟩|⟨rfl,v1,t,a1,rfl,hop,hkd,rfl⟩|⟨rfl,sv,v1,l,a1,rfl,hop,hkd,rfl⟩|⟨rfl,v1,s1,a1,b1,rfl,hop,hb1,hkd,rfl⟩|⟨rfl,v1,s1,s2,a1,b1,b2,rfl,hop,hb1,hb2,hkd,rfl⟩|⟨rfl,v1,s1,a1,b1,rfl,hop,hb1,hkd,rfl⟩|⟨rfl,l,rfl,hop,hkd,rfl⟩|⟨rfl,v1,a1,rfl,hop,hkd,rfl⟩|⟨rfl,v1,a1,rfl,hop,hkd,rfl⟩|⟨rfl,sv,c,rfl,hop,hln,htx,hkd,hcop,rfl⟩
 iterate 7
  ·exfalso;rcases hok with ⟨h1,_⟩|⟨h1,_⟩|⟨h1,_⟩|⟨h1,_⟩|⟨h1,_⟩|⟨h1,_⟩|⟨h1,_⟩<;>exact no hop (by decide) h1
 ·exfalso;rcases hoo with rfl|rfl<;>(rcases hok with ⟨h1,_⟩|⟨h1,_⟩|⟨h1,_⟩|⟨h1,_⟩|⟨h1,_⟩|⟨h1,_⟩|⟨h1,_⟩<;>exact no hop (by decide) h1)
 ·exfalso;rcases hok with ⟨h1,_⟩|⟨h1,_⟩|⟨h1,_⟩|⟨h1,_⟩|⟨h1,_⟩|⟨h1,_⟩|⟨h1,_⟩<;>(rw[h1] at hop;exact hop rfl)
 ·-- var
  have hx:Hs.ExOk fs false seen d a1∧seen.length≤90000:=by
   rcases hok with ⟨_,h2,t',v',hk,h3,_⟩|⟨h1,_⟩|⟨h1,_⟩|⟨h1,_⟩|⟨h1,_⟩|⟨h1,_⟩|⟨h1,_⟩
   ·rw[hkd] at hk;simp at hk;rw[hk.2];exact⟨h3,h2⟩
   all_goals exact no hop (by decide) h1
  have hst:=I4 fs seen d a code.length t a1 hop hkd;rw[hst] at hlen ⊢
  simp only[List.length_append,List.length_cons,List.length_nil] at hlen;have hp:=hps ⟨v1,[a1],true⟩ (by simp)
  obtain⟨T1,cs1,rfl⟩:=hp.one'.form;have hla:=hli.kid (k:=a1) (by rw[hkd];simp)
  refine(zV w cb code.length a.line p t.line (bs t.text) T1 (.agg cs1) seen.length (fun W=>KC fp fb (fs.map (·.text)) cb F w (code++(aH.begin a.line seen::aG fs seen d a1 (code.length+1)++[aH.declare seen.length]).map some) (t.text::seen) W) _
   (fun b W=>∃W0,oR fp fb (fs.map (·.text)) cb F w W0 b (.cells #[.int .i64 a.line,.int .i64 t.line,.string (bs t.text),.iface T1 (.agg cs1)] 329) seen ((code++[some (.begin a.line seen)])++(aG fs seen d a1 (code.length+1)).map some) W)
   (fun b W=>∃W0,oR fp fb (fs.map (·.text)) cb F w W0 b (.cells #[.int .i64 a.line,.int .i64 t.line,.string (bs t.text),.iface T1 (.agg cs1)] 329) seen ((code++[some (.begin a.line seen)])++(aG fs seen d a1 (code.length+1)).map some++[some (.declare seen.length)]) W)
   hlt hc2 (beg (by omega)) (fun W hq=>?_) (fun b W hq=>?_) (fun b W hq=>?_) (fun b W hq=>?_) (fun b W hq=>?_))
  ·refine((hq.cpB _).exprk hfn hfp hsn _ a1 hp.one' hx.1 hla (by rw[hcl];omega)).mono ?_
   rintro e w' ⟨he,h2⟩;rw[hcl] at h2;exact⟨he,W,h2⟩
  ·obtain⟨W0,G,hG,hto,_⟩:=hq;exact NB hto.1 hsn'
  ·obtain⟨W0,hq⟩:=hq;refine(hq.emit (u:=.iface 443 (.agg #[.int .i64 seen.length])) (i:=some (.declare seen.length)) (fun _=>rfl) (by simp;omega)).mono ?_
   rintro e w' ⟨he,h2⟩;exact⟨⟨_,he⟩,W0,h2⟩
  ·obtain⟨W0,hq⟩:=hq;exact⟨aA hq.box rfl,aD hq.box⟩
  ·obtain⟨W0,G,hG,hto,_⟩:=hq;refine(TC t.text hto.1 hsn').mono ?_;rintro e w' ⟨he,q1,q2⟩;refine⟨he,fun k=>G k∨k=W.heap.size,fun k hk=>Or.inl (hG k hk),?_,hto.2.trans q2⟩
   simpa using q1
 ·-- an assignment
  have hx:a.text∈seen∧∀k∈a.kids,Hs.ExOk fs false seen d k:=by
   rcases hok with ⟨h1,_⟩|⟨_,h2,_,h3⟩|⟨h1,_⟩|⟨h1,_⟩|⟨h1,_⟩|⟨h1,_⟩|⟨h1,_⟩
   ·exact no hop (by decide) h1
   ·exact⟨h2,h3⟩
   all_goals exact no hop (by decide) h1
  have hst:=I5 fs seen d a code.length hop;have hkl:(l++[a1]).length-1=l.length:=by simp
  rw[hkd,mO,AB] at hst;rw[hkl] at hst;rw[hst] at hlen ⊢
  simp only[List.length_append,List.length_cons,List.length_nil] at hlen;have hp:=hps ⟨sv,l,false⟩ (by simp)
  have hp1:=hps ⟨v1,[a1],true⟩ (by simp)
  obtain⟨T1,cs1,rfl⟩:=hp1.one'.form;obtain⟨x,c,rfl⟩:=hp.many.sliceC;have hlk:=hli.len;rw[hkd,List.length_append] at hlk;generalize hs1:bO (aG fs seen d) l (code.length+1)=q1 at*;generalize hs2:aG fs seen d a1 (code.length+1+q1.length)=q2 at*
  refine(DB w cb code.length a.line p (bs a.text) x l.length c (dS seen a.text) T1 (.agg cs1) (fun W=>KC fp fb (fs.map (·.text)) cb F w (code++(aH.begin a.line seen::(q1++q2)++[aH.assign (dS seen a.text) l.length]).map some) seen W) _
   (fun b W=>∃W0,oR fp fb (fs.map (·.text)) cb F w W0 b (.cells #[.int .i64 a.line,.string (bs a.text),.slice x l.length c,.iface T1 (.agg cs1)] 332) seen ((code++[some (.begin a.line seen)])++q1.map some) W)
   (fun b W=>∃W0,oR fp fb (fs.map (·.text)) cb F w W0 b (.cells #[.int .i64 a.line,.string (bs a.text),.slice x l.length c,.iface T1 (.agg cs1)] 332) seen ((code++[some (.begin a.line seen)])++q1.map some++q2.map some) W)
   hlt hc2 (beg (by omega)) (fun W hq=>?_) (fun b W hq=>?_) (fun b W hq=>?_) (fun b W hq=>?_) (fun b W W' hq hS=>?_) (fun b W W' hq hS=>?_))
  ·refine((hq.cpB _).exprsk hfn hfp hsn _ l hp.many (fun k hk=>hx.2 k (by rw[hkd];simp[hk])) (fun k hk=>hli.kid (by rw[hkd];simp[hk])) (by omega) (by rw[hcl,hs1];omega)).mono ?_
   rintro e w' ⟨he,h2⟩;rw[hcl,hs1] at h2;exact⟨he,W,h2⟩
  ·obtain⟨W0,hq⟩:=hq;exact⟨aA hq.box rfl,aD hq.box⟩
  ·obtain⟨W0,hq⟩:=hq;have hcl2:((code++[some (aH.begin a.line seen)])++q1.map some).length=code.length+1+q1.length:=by simp;omega
   refine(hq.exprk hfn hfp hsn _ a1 hp1.one' (hx.2 a1 (by rw[hkd];simp)) (hli.kid (by rw[hkd];simp)) (by rw[hcl2,hs2];omega)).mono ?_
   rintro e w' ⟨he,h2⟩;rw[hcl2,hs2] at h2;exact⟨he,W0,h2⟩
  ·obtain⟨W0,hq⟩:=hq;exact⟨aA hq.box rfl,aA hq.box rfl,aD hq.box⟩
  ·obtain⟨W0,G,hG,hto,_⟩:=hq;exact LA a.text (hto.1.grow hS.below) hx.1 hsn'
  ·obtain⟨W0,G,hG,hto,hL⟩:=hq;have hto':fU fp fb (fs.map (·.text)) cb G w ((code++[some (.begin a.line seen)])++q1.map some++q2.map some) seen W':=⟨hto.1.grow hS.below,hto.2.trans (FB.of_below hS.below hto.1.lt)⟩
   refine(emits (i:=.assign (dS seen a.text) l.length) hto' rfl (by simp;omega)).mono ?_
   rintro e w' ⟨he,h2⟩;refine⟨he,G,hG,?_⟩;have e9:code++(aH.begin a.line seen::(q1++q2)++[aH.assign (dS seen a.text) l.length]).map some=(code++[some (.begin a.line seen)])++q1.map some++q2.map some++[some (.assign (dS seen a.text) l.length)]:=by simp
   rw[e9];exact h2
 ·-- if,without else
  have hx:Hs.ExOk fs false seen d a1∧Hs.StsOk (dI fs d) seen b1.kids:=by
   rcases hok with ⟨h1,_⟩|⟨h1,_⟩|⟨_,c',t',hk,h3,h4⟩|⟨h1,_⟩|⟨h1,_⟩|⟨h1,_⟩|⟨h1,_⟩
   rotate_left 2
   ·rcases hk with hk|⟨x,hk,_⟩
    ·rw[hkd] at hk;simp at hk;rw[hk.1,hk.2];exact⟨h3,h4⟩
    ·rw[hkd] at hk;simp at hk
   all_goals exact no hop (by decide) h1
  have hst:=I7 fs seen d a code.length a1 b1 hop hkd;rw[hst] at hlen ⊢
  have hp1:=hps ⟨v1,[a1],true⟩ (by simp)
  have hp2:=hps ⟨s1,b1.kids,false⟩ (by simp)
  have hla:=hli.kid (k:=a1) (by rw[hkd];simp)
  have hlb:=hli.kid (k:=b1) (by rw[hkd];simp)
  obtain⟨T1,cs1,rfl⟩:=hp1.one'.form;obtain⟨x,c,rfl⟩:=hp2.many.sliceC;generalize hcc:aG fs seen d a1 (code.length+1)=cc at*;generalize hct:bF (bA fs d) seen b1.kids (code.length+1+cc.length+1)=ct at*;simp only[List.length_append,List.length_cons,List.length_nil] at hlen;refine EP w cb code.length a.line p T1 (.agg cs1) x none b1.kids.length 0 c 0 _ _ hlt hc2 (beg (by omega)) (fun W hq=>?_)
  obtain⟨G,hG,hto,_⟩:=hq.cpB (.cells #[.int .i64 a.line,.iface T1 (.agg cs1),.slice x b1.kids.length c,.slice none 0 0] 334);refine(wP (d:=d) IH hfn hfp hsn a.line _ _ _ a1 b1.kids [] _ _ hto.1 (hp1.one'.below hto.2.bel) (hp2.many.below hto.2.bel) (Or.inl ⟨rfl,rfl⟩) hx.1 hx.2 trivial hla (fun k hk=>hlb.kid hk) (fun k hk=>by simp at hk) hlb.len (by simp) cc ct [] (by rw[hcl];exact hcc) (by rw[hcl];exact hct) rfl (by rw[hcl];simp;omega)).mono ?_
  rintro e w' ⟨he,h2⟩;refine⟨he,?_⟩;have h3:=(h2.then hto.2).more hG
  rw[hcl] at h3;have e9:(code++[some (aH.begin a.line seen)])++(cc++[aH.skip (code.length+1+cc.length+1+ct.length+1)]++ct++[aH.jump (code.length+1+cc.length+1+ct.length+1+([]:List aH).length)]++[]).map some=code++(aH.begin a.line seen::cc++[aH.skip (code.length+1+cc.length+1+ct.length+1)]++ct++[aH.jump (code.length+1+cc.length+1+ct.length+1)]).map some:=by simp
  rw[e9] at h3;exact h3
 ·-- if,with else
  have hx:Hs.ExOk fs false seen d a1∧Hs.StsOk (dI fs d) seen b1.kids∧Hs.StsOk (dI fs d) seen b2.kids:=by
   rcases hok with ⟨h1,_⟩|⟨h1,_⟩|⟨_,c',t',hk,h3,h4⟩|⟨h1,_⟩|⟨h1,_⟩|⟨h1,_⟩|⟨h1,_⟩
   rotate_left 2
   ·rcases hk with hk|⟨x,hk,h5⟩
    ·rw[hkd] at hk;simp at hk
    ·rw[hkd] at hk;simp at hk;rw[hk.1,hk.2.1,hk.2.2];exact⟨h3,h4,h5⟩
   all_goals exact no hop (by decide) h1
  have hst:=I6 fs seen d a code.length a1 b1 b2 hop hkd;rw[hst] at hlen ⊢
  have hp1:=hps ⟨v1,[a1],true⟩ (by simp)
  have hp2:=hps ⟨s1,b1.kids,false⟩ (by simp)
  have hp3:=hps ⟨s2,b2.kids,false⟩ (by simp)
  have hla:=hli.kid (k:=a1) (by rw[hkd];simp)
  have hlb:=hli.kid (k:=b1) (by rw[hkd];simp)
  have hld:=hli.kid (k:=b2) (by rw[hkd];simp)
  obtain⟨T1,cs1,rfl⟩:=hp1.one'.form;obtain⟨x,c,rfl⟩:=hp2.many.sliceC;obtain⟨x2,c2',rfl⟩:=hp3.many.sliceC;generalize hcc:aG fs seen d a1 (code.length+1)=cc at*;generalize hct:bF (bA fs d) seen b1.kids (code.length+1+cc.length+1)=ct at*;generalize hce:bF (bA fs d) seen b2.kids (code.length+1+cc.length+1+ct.length+1)=ce at*;simp only[List.length_append,List.length_cons,List.length_nil] at hlen;refine EP w cb code.length a.line p T1 (.agg cs1) x x2 b1.kids.length b2.kids.length c c2' _ _ hlt hc2 (beg (by omega)) (fun W hq=>?_)
  obtain⟨G,hG,hto,_⟩:=hq.cpB (.cells #[.int .i64 a.line,.iface T1 (.agg cs1),.slice x b1.kids.length c,.slice x2 b2.kids.length c2'] 334);refine(wP (d:=d) IH hfn hfp hsn a.line _ _ _ a1 b1.kids b2.kids _ _ hto.1 (hp1.one'.below hto.2.bel) (hp2.many.below hto.2.bel) (hp3.many.below hto.2.bel) hx.1 hx.2.1 hx.2.2 hla (fun k hk=>hlb.kid hk) (fun k hk=>hld.kid hk) hlb.len hld.len cc ct ce (by rw[hcl];exact hcc) (by rw[hcl];exact hct) (by rw[hcl];exact hce) (by rw[hcl];omega)).mono ?_
  rintro e w' ⟨he,h2⟩;refine⟨he,?_⟩;have h3:=(h2.then hto.2).more hG
  rw[hcl] at h3;have e9:(code++[some (aH.begin a.line seen)])++(cc++[aH.skip (code.length+1+cc.length+1+ct.length+1)]++ct++[aH.jump (code.length+1+cc.length+1+ct.length+1+ce.length)]++ce).map some=code++(aH.begin a.line seen::cc++[aH.skip (code.length+1+cc.length+1+ct.length+1)]++ct++[aH.jump (code.length+1+cc.length+1+ct.length+1+ce.length)]++ce).map some:=by simp
  rw[e9] at h3;exact h3
 ·-- while
  have hx:Hs.ExOk fs false seen d a1∧Hs.StsOk (dI fs d) seen b1.kids:=by
   rcases hok with ⟨h1,_⟩|⟨h1,_⟩|⟨h1,_⟩|⟨_,c',t',hk,h3,h4⟩|⟨h1,_⟩|⟨h1,_⟩|⟨h1,_⟩
   rotate_left 3
   ·rw[hkd] at hk;simp at hk;rw[hk.1,hk.2];exact⟨h3,h4⟩
   all_goals exact no hop (by decide) h1
  have hst:=US fs seen d a code.length a1 b1 hop hkd;rw[hst] at hlen ⊢
  have hp1:=hps ⟨v1,[a1],true⟩ (by simp)
  have hp2:=hps ⟨s1,b1.kids,false⟩ (by simp)
  have hla:=hli.kid (k:=a1) (by rw[hkd];simp)
  have hlb:=hli.kid (k:=b1) (by rw[hkd];simp)
  obtain⟨T1,cs1,rfl⟩:=hp1.one'.form;obtain⟨x,c,rfl⟩:=hp2.many.sliceC;generalize hcc:aG fs seen d a1 (code.length+1)=cc at*;generalize hct:bF (bA fs d) seen b1.kids (code.length+1+cc.length+1)=ct at*;simp only[List.length_append,List.length_cons,List.length_nil] at hlen;refine GR w cb code.length a.line p T1 (.agg cs1) x b1.kids.length c _ _ hlt hc2 (beg (by omega)) (fun W hq=>?_)
  obtain⟨G,hG,hto,_⟩:=hq.cpB (.cells #[.int .i64 a.line,.iface T1 (.agg cs1),.slice x b1.kids.length c] 336);refine(XX (d:=d) IH hfn hfp hsn a.line code.length _ _ a1 b1.kids _ _ hto.1 (hp1.one'.below hto.2.bel) (hp2.many.below hto.2.bel) hx.1 hx.2 hla (fun k hk=>hlb.kid hk) hlb.len cc ct (by rw[hcl];exact hcc) (by rw[hcl];exact hct) (by rw[hcl];omega)).mono ?_
  rintro e w' ⟨he,h2⟩;refine⟨he,?_⟩;have h3:=(h2.then hto.2).more hG
  rw[hcl] at h3;have e9:(code++[some (aH.begin a.line seen)])++(cc++[aH.skip (code.length+1+cc.length+1+ct.length+1)]++ct++[aH.jump code.length]).map some=code++(aH.begin a.line seen::cc++[aH.skip (code.length+1+cc.length+1+ct.length+1)]++ct++[aH.jump code.length]).map some:=by simp
  rw[e9] at h3;exact h3
 ·-- return,without a value
  have hst:=KW fs seen d a code.length hop hkd;rw[hst] at hlen ⊢
  simp only[List.length_cons,List.length_nil] at hlen;refine qY w cb code.length a.line p _ _ _ _ (fun W=>KC fp fb (fs.map (·.text)) cb F w ((code++[some (aH.begin a.line seen)])++[some (.push (bB 0))]) seen W) hlt hc2 (beg (by omega)) (fun W hq=>?_) (fun W hq=>?_)
  ·obtain⟨G,hG,hto,_⟩:=hq.cpB (.cells #[.int .i64 a.line,.iface 397 (.agg #[.int .i64 l,.int .i64 0])] 338);obtain⟨G2,hG2,hto2,_⟩:=hto.cpB (.cells #[.int .i64 l,.int .i64 0] 397);refine(rD _ cb l 0 _ (emits (i:=.push (bB 0)) hto2 ⟨_,rfl,PV.num _ _ _ (by omega) (by omega),by rw[jL];omega⟩ (by simp;omega))).mono ?_
   rintro e w' ⟨he,h2⟩;exact⟨he,G2,fun k hk=>hG2 k (hG k hk),h2⟩
  ·obtain⟨G,hG,hto⟩:=hq;refine(emits (i:=.give) hto rfl (by simp;omega)).mono ?_
   rintro e w' ⟨he,h2⟩;refine⟨he,G,hG,?_⟩;have e9:code++([aH.begin a.line seen,.push (bB 0),.give]).map some=(code++[some (aH.begin a.line seen)])++[some (.push (bB 0))]++[some .give]:=by simp
   rw[e9];exact h2
 ·-- return
  have hx:Hs.ExOk fs false seen d a1:=by
   rcases hok with ⟨h1,_⟩|⟨h1,_⟩|⟨h1,_⟩|⟨h1,_⟩|⟨_,hk⟩|⟨h1,_⟩|⟨h1,_⟩
   rotate_left 4
   ·rcases hk with hk|⟨v',hk,h3⟩
    ·rw[hkd] at hk;simp at hk
    ·rw[hkd] at hk;simp at hk;rw[hk];exact h3
   all_goals exact no hop (by decide) h1
  have hst:=KV fs seen d a code.length a1 hop hkd;rw[hst] at hlen ⊢
  have hp1:=hps ⟨v1,[a1],true⟩ (by simp)
  have hla:=hli.kid (k:=a1) (by rw[hkd];simp)
  obtain⟨T1,cs1,rfl⟩:=hp1.one'.form;simp only[List.length_append,List.length_cons,List.length_nil] at hlen;refine qY w cb code.length a.line p _ _ _ _ (fun W=>∃W0,oR fp fb (fs.map (·.text)) cb F w W0 W0.heap.size (.cells #[.int .i64 a.line,.iface T1 (.agg cs1)] 338) seen ((code++[some (aH.begin a.line seen)])++(aG fs seen d a1 (code.length+1)).map some) W) hlt hc2 (beg (by omega)) (fun W hq=>?_) (fun W hq=>?_)
  ·refine((hq.cpB _).exprk hfn hfp hsn _ a1 hp1.one' hx hla (by rw[hcl];omega)).mono ?_
   rintro e w' ⟨he,h2⟩;rw[hcl] at h2;exact⟨he,W,h2⟩
  ·obtain⟨W0,hq⟩:=hq;refine(hq.emit (u:=.iface 363 (.agg #[])) (i:=some .give) (fun _=>rfl) (by simp;omega)).mono ?_
   rintro e w' ⟨he,h2⟩;refine⟨⟨_,he⟩,?_⟩;have e9:code++(aH.begin a.line seen::aG fs seen d a1 (code.length+1)++[aH.give]).map some=(code++[some (aH.begin a.line seen)])++(aG fs seen d a1 (code.length+1)).map some++[some .give]:=by simp
   rw[e9];exact h2.fin
 ·-- print
  have hx:Hs.ExOk fs false seen d a1:=by
   rcases hok with ⟨h1,_⟩|⟨h1,_⟩|⟨h1,_⟩|⟨h1,_⟩|⟨h1,_⟩|⟨_,v',hk,h3⟩|⟨h1,_⟩
   rotate_left 5
   ·rw[hkd] at hk;simp at hk;rw[hk];exact h3
   all_goals exact no hop (by decide) h1
  have hst:=UT fs seen d a code.length a1 hop hkd;rw[hst] at hlen ⊢
  have hp1:=hps ⟨v1,[a1],true⟩ (by simp)
  have hla:=hli.kid (k:=a1) (by rw[hkd];simp)
  obtain⟨T1,cs1,rfl⟩:=hp1.one'.form;simp only[List.length_append,List.length_cons,List.length_nil] at hlen;refine GS w cb code.length a.line p _ _ _ _ (fun W=>∃W0,oR fp fb (fs.map (·.text)) cb F w W0 W0.heap.size (.cells #[.int .i64 a.line,.iface T1 (.agg cs1)] 339) seen ((code++[some (aH.begin a.line seen)])++(aG fs seen d a1 (code.length+1)).map some) W) hlt hc2 (beg (by omega)) (fun W hq=>?_) (fun W hq=>?_)
  ·refine((hq.cpB _).exprk hfn hfp hsn _ a1 hp1.one' hx hla (by rw[hcl];omega)).mono ?_
   rintro e w' ⟨he,h2⟩;rw[hcl] at h2;exact⟨he,W,h2⟩
  ·obtain⟨W0,hq⟩:=hq;refine(hq.emit (u:=.iface 448 (.agg #[])) (i:=some .print) (fun _=>rfl) (by simp;omega)).mono ?_
   rintro e w' ⟨he,h2⟩;refine⟨⟨_,he⟩,?_⟩;have e9:code++(aH.begin a.line seen::aG fs seen d a1 (code.length+1)++[aH.print]).map some=(code++[some (aH.begin a.line seen)])++(aG fs seen d a1 (code.length+1)).map some++[some .print]:=by simp
   rw[e9];exact h2.fin
 ·-- a call alone
  have hx:Hs.ExOk fs false seen d c:=by
   rcases hok with ⟨h1,_⟩|⟨h1,_⟩|⟨h1,_⟩|⟨h1,_⟩|⟨h1,_⟩|⟨h1,_⟩|⟨_,v',hk,h3⟩
   rotate_left 6
   ·rw[hkd] at hk;simp at hk;rw[hk];exact h3
   all_goals exact no hop (by decide) h1
  have hst:=P2 fs seen d a code.length c hop hkd;rw[hst] at hlen ⊢
  rw[←hln];have hp:=hps ⟨sv,c.kids,false⟩ (by simp)
  have hla:=hli.kid (k:=c) (by rw[hkd];simp)
  obtain⟨x,cp,rfl⟩:=hp.many.sliceC;simp only[List.length_append,List.length_cons,List.length_nil] at hlen;refine KT w cb code.length a.line p _ _ _ _ _ _ (fun W=>KC fp fb (fs.map (·.text)) cb F w ((code++[some (aH.begin a.line seen)])++(aG fs seen d c (code.length+1)).map some) seen W) hlt hc2 (beg (by omega)) (fun W hq=>?_) (fun W hq=>?_)
  ·cases d with
   |zero=>exact hx.elim
   |succ d=>
    obtain⟨G,hG,hto,_⟩:=hq.cpB (.cells #[.int .i64 a.line,.string (bs c.text),.slice x c.kids.length cp] 341);refine(YG (qL (by omega) hfn hfp d) hfn hfp c _ a.line _ _ hto.1 hcop (hp.many.below hto.2.bel) hx (hla _) (by rw[hcl];omega)).mono ?_
    rintro e w' ⟨he,h2⟩;rw[hcl] at h2;exact⟨he,G,hG,h2.then hto.2⟩
  ·obtain⟨G,hG,hto⟩:=hq;refine(emits (i:=.drop) hto rfl (by simp;omega)).mono ?_
   rintro e w' ⟨he,h2⟩;refine⟨he,G,hG,?_⟩;have e9:code++(aH.begin a.line seen::aG fs seen d c (code.length+1)++[aH.drop]).map some=(code++[some (aH.begin a.line seen)])++(aG fs seen d c (code.length+1)).map some++[some .drop]:=by simp
   rw[e9];exact h2
theorem TV(hfn:fs.length≤1000000)(hfp:∀k,k<fs.length→fp k=.pointer (some ⟨fb k,0,none⟩)):∀d,OR fp fb fs cb lo d
 |0=>fun _ _ _ _ _ _ _ _ h=>h.elim
 |d+1=>E1 (TV hfn hfp d) hfn hfp
end
theorem YJ(w:World)(cb:Nat)(l:Int)(tx:ByteArray)(px bx:Option Addr)(np pc nb bc:Nat)(P:Value→World→Prop)(I:Nat→World→Prop)(Q R S:World→Prop)(hl:cb<w.heap.size)(hnp:np≤1000000)
 (c1:∃u,w.cell? ⟨cb,1,none⟩=some u) (c2:∃u,w.cell? ⟨cb,2,none⟩=some u) (f1:w.frozen? ⟨cb,1,none⟩=false) (f2:w.frozen? ⟨cb,2,none⟩=false)
 (HI:Hid (I 0 (((w.setCell ⟨cb,1,none⟩ (.slice none 0 0)).setCell ⟨cb,2,none⟩ (.pointer none)).alloc (.cells #[.int .i64 l,.string tx,.slice px np pc,.slice bx nb bc] 215))))
 (HP:Hid (∀j W,I j W→j<np→∃pg l2 t2,px=some ⟨pg,0,none⟩∧pg<W.heap.size∧W.cell? ⟨pg,j*2,none⟩=some (.int .i64 l2)∧W.cell? ⟨pg,j*2+1,none⟩=some (.string t2)∧Calls Tryz.prog 236 #[.pointer (some ⟨cb,0,none⟩),.string t2] (W.alloc (.cells #[.int .i64 l2,.string t2] 211)) fun e w'=>e=.returned (.tuple #[])∧I (j+1) w'))
 (HB:Hid (∀W,I np W→W.cell? ⟨w.heap.size,3,none⟩=some (.slice bx nb bc)∧w.heap.size<W.heap.size∧Calls Tryz.prog 237 #[.pointer (some ⟨cb,0,none⟩),.slice bx nb bc] W fun e w'=>e=.returned (.tuple #[])∧Q w'))
 (HE:Hid (∀W,Q W→Calls Tryz.prog 238 #[.pointer (some ⟨cb,0,none⟩),.iface 361 (.agg #[.iface 315 (.int .i64 0)])] W fun e w'=>(∃k:Nat,e=.returned (.int .i64 k))∧R w'))
 (HG:Hid (∀W,R W→Calls Tryz.prog 238 #[.pointer (some ⟨cb,0,none⟩),.iface 363 (.agg #[])] W fun e w'=>(∃k:Nat,e=.returned (.int .i64 k))∧S w'))
 (HS:Hid (∀W,S W→cb<W.heap.size∧∃x n c,W.cell? ⟨cb,1,none⟩=some (.slice x n c)∧P (.slice x n c) W)):
 Calls Tryz.prog 173 #[.pointer (some ⟨cb,0,none⟩),.agg #[.int .i64 l,.string tx,.slice px np pc,.slice bx nb bc]] w fun e w'=>∃cv,e=.returned cv∧P cv w':=by
 obtain⟨u1,c1⟩:=c1;obtain⟨u2,c2⟩:=c2;have hne:¬cb=w.heap.size:=by omega
 have hne2:¬w.heap.size=cb:=by omega
 go_enter Tryz.func173,Tryz.ntmps173;go_wp2_with fail;go_loopg [6,16] np (fun gk _ i wr=>∃j:Nat,j+gk=np∧i=.int .i64 j∧I j wr)
 case atStart=>exact⟨0,by omega,rfl,HI.out⟩
 case round=>
  obtain⟨j,hj,rfl,hC⟩:=hrel;clear c1 c2 f1 f2 HI;by_cases hlt:j<np
  ·obtain⟨m,rfl⟩:∃m,gk=m+1:=⟨gk-1,by omega⟩
   obtain⟨pg,l2,t2,rfl,hg,d1,d2,hcl⟩:=HP.out _ _ hC hlt;have HX:=aB hcl;have e1:(0:Int)≤(j:Int):=by omega
   have e2:(j:Int)<(np:Int):=by omega
   clear hC hcl;go_wp2_with fail;refine HX.out.mono ?_;rintro e w1 ⟨rfl,h1⟩;go_wp2_with fail;go_roundg m
   case measure=>omega
   case rel=>exact⟨j+1,by omega,by go_num,h1⟩
  ·have hjn:j=np:=by omega
   subst hjn;obtain⟨d1,d2,hcl⟩:=HB.out _ hC;have HX:=aB hcl;clear hC hcl;go_wp2_with fail;refine HX.out.mono ?_;rintro e w1 ⟨rfl,h1⟩;have HEE:=aB (HE.out _ h1);clear h1 d1;go_wp2_with fail;refine HEE.out.mono ?_;rintro e w2 ⟨⟨k,rfl⟩,h2⟩;have HGG:=aB (HG.out _ h2);clear h2;go_wp2_with fail;refine HGG.out.mono ?_;rintro e w3 ⟨⟨k2,rfl⟩,h3⟩;obtain⟨g1,x,n,c,g2,g3⟩:=HS.out _ h3;have HF:=aB g3;clear h3 g3;go_wp2_with fail;go_ret;exact⟨_,rfl,HF.out⟩
theorem L2:(Tryz.prog.info? 188).map (fun i=>(i.zero,i.size,i.bytes))=some (some (.pointer none),1,8):=by kernel_rfl
theorem JN(w:World)(g0 n cap:Nat)(P:Value→World→Prop)(I1:Nat→World→Prop)(I2:Nat→World→Prop)(hn:n≤1000000)
 (H0:Hid (I1 0 (w.alloc (.cells #[.slice none 0 0,.slice none 0 0,.pointer none] 276))))
 (H1:Hid (∀j W,I1 j W→j<n→w.heap.size<W.heap.size∧g0<W.heap.size∧∃l t x1 n1 c1 x2 n2 c2 x c xs cv sp,W.cell? ⟨g0,j*4,none⟩=some (.int .i64 l)∧W.cell? ⟨g0,j*4+1,none⟩=some (.string t)∧W.cell? ⟨g0,j*4+1+1,none⟩=some (.slice x1 n1 c1)∧W.cell? ⟨g0,j*4+1+1+1,none⟩=some (.slice x2 n2 c2)∧
   W.heap[w.heap.size]?=some (.cells #[.slice x j c,cv,sp] 276 (0,0))∧W.ownsRow (w.heap.size+1) 188 1 (.slice x j c) j xs∧
   ∀W3 g4 cap4 w4,W3=((W.alloc (.cells #[.int .i64 l,.string t,.slice x1 n1 c1,.slice x2 n2 c2] 215)).alloc (.cells #[.string t,.slice none 0 0] 250)).alloc (.cells #[.pointer (some ⟨W.heap.size+1,0,none⟩)] 188)→
    w4.ownsRow (w.heap.size+1) 188 1 (.slice (some ⟨g4,0,none⟩) (j+1) cap4) (j+1) (xs++[.pointer (some ⟨W.heap.size+1,0,none⟩)])→W3.grownBy w4 (Value.slice x j c).ownBlock→((Value.slice x j c).ownBlock=some g4∨g4=W.heap.size+3)→w4.heap[w.heap.size]?=some (.cells #[.slice x j c,cv,sp] 276 (0,0))→I1 (j+1) (w4.setCell ⟨w.heap.size,0,none⟩ (.slice (some ⟨g4,0,none⟩) (j+1) cap4))))
 (H12:Hid (∀W,I1 n W→I2 0 W))
 (H2:Hid (∀j W,I2 j W→j<n→w.heap.size<W.heap.size∧g0<W.heap.size∧∃l t x1 n1 c1 x2 n2 c2 g c fb,W.cell? ⟨g0,j*4,none⟩=some (.int .i64 l)∧W.cell? ⟨g0,j*4+1,none⟩=some (.string t)∧W.cell? ⟨g0,j*4+1+1,none⟩=some (.slice x1 n1 c1)∧W.cell? ⟨g0,j*4+1+1+1,none⟩=some (.slice x2 n2 c2)∧
   W.cell? ⟨w.heap.size,0,none⟩=some (.slice (some ⟨g,0,none⟩) n c)∧g<W.heap.size∧W.cell? ⟨g,j,none⟩=some (.pointer (some ⟨fb,0,none⟩))∧
   ∀W',aW (W.alloc (.cells #[.int .i64 l,.string t,.slice x1 n1 c1,.slice x2 n2 c2] 215)) W'→Calls Tryz.prog 173 #[.pointer (some ⟨w.heap.size,0,none⟩),.agg #[.int .i64 l,.string t,.slice x1 n1 c1,.slice x2 n2 c2]] W' fun e w'=>∃x n3 c3,e=.returned (.slice x n3 c3)∧
    w.heap.size<w'.heap.size∧(∃g2 c2,w'.cell? ⟨w.heap.size,0,none⟩=some (.slice (some ⟨g2,0,none⟩) n c2)∧g2<w'.heap.size∧w'.cell? ⟨g2,j,none⟩=some (.pointer (some ⟨fb,0,none⟩)))∧g<w'.heap.size∧w'.cell? ⟨g,j,none⟩=some (.pointer (some ⟨fb,0,none⟩))∧fb<w'.heap.size∧(∃u,w'.cell? ⟨fb,1,none⟩=some u)∧w'.frozen? ⟨fb,1,none⟩=false∧I2 (j+1) (w'.setCell ⟨fb,1,none⟩ (.slice x n3 c3))))
 (H3:Hid (∀W,I2 n W→Calls Tryz.prog 174 #[.pointer (some ⟨w.heap.size,0,none⟩),.string ⟨#[109,97,105,110]⟩] W fun e w'=>∃v,e=.returned (.pointer v)∧P (.pointer v) w')):
 Calls Tryz.prog 123 #[.slice (some ⟨g0,0,none⟩) n cap] w fun e w'=>∃v,e=.returned v∧P v w':=by
 obtain⟨i0,hi,hz0,hz1,hz2⟩:=info_parts L2;go_enter Tryz.func123,Tryz.ntmps123;go_wp2_with fail;go_loopg [5,10] n (fun gk _ i wr=>∃j:Nat,j+gk=n∧i=.int .i64 j∧I1 j wr)
 case atStart=>exact⟨0,by omega,rfl,H0.out⟩
 case round=>
  obtain⟨j,hj,rfl,hC⟩:=hrel;clear H0;by_cases hlt:j<n
  ·obtain⟨m,rfl⟩:∃m,gk=m+1:=⟨gk-1,by omega⟩
   obtain⟨hl0,hl1,l,t,x1,n1,c1,x2,n2,c2,x,c,xs,cv,sp,d1,d2,d3,d4,d5,d6,d7⟩:=H1.out _ _ hC hlt;have HO:=aB d6;have HB:=aB d5;have HK:=aB d7;have q0:wr.cell? ⟨w.heap.size,0,none⟩=some (.slice x j c):=aA d5 rfl;have e1:(0:Int)≤(j:Int):=by omega
   have e2:(j:Int)<(n:Int):=by omega
   clear hC d5 d6 d7 H1;have HN:Hid (∀W:World,W.heap[wr.heap.size+1+1]?=some (.cells #[.pointer (some ⟨wr.heap.size+1,0,none⟩)] 188 (0,0))→∀k v,([.pointer (some ⟨wr.heap.size+1,0,none⟩)]:List Value)[k]?=some v→W.cell? ((⟨wr.heap.size+1+1,0,none⟩:Addr).add k)=some v):=fun W hW k v hk=>World.news_of_block hW k v (by simpa using hk)
   have HL:Hid ((((wr.alloc (.cells #[.int .i64 l,.string t,.slice x1 n1 c1,.slice x2 n2 c2] 215)).alloc (.cells #[.string t,.slice none 0 0] 250)).alloc (.cells #[.pointer (some ⟨wr.heap.size+1,0,none⟩)] 188)).heap[wr.heap.size+1+1]?=some (.cells #[.pointer (some ⟨wr.heap.size+1,0,none⟩)] 188 (0,0))):=aR _ _ (by simp) _
   have hone:∀v∈([.pointer (some ⟨wr.heap.size+1,0,none⟩)]:List Value),v.oneCell'=true:=fun v hv=>by simp at hv;rw[hv];rfl
   have HONE:=aB hone;clear hone;go_wp2_with (at_builtin;refine wpList_append_lies _ (by rfl) _ _ 274 (by rfl) (w.heap.size+1) 188 i0 _ 1 8 Tryz.underlying274 hi hz0 hz1 hz2 rfl (by decide) (.slice x j c) j xs (by rfl) (((HO.out.alloc _).alloc _).alloc _) ⟨wr.heap.size+1+1,0,none⟩ 1 1 [_] (by rfl) (by rfl) (HN.out _ HL.out) HONE.out (by decide) (by unfold maxLen;omega) (by omega) (by simp;omega) (wr.heap.size+3) (by simp) ?_)
   intro g4 cap4 w4 hown4 hgrow4 hat4 hg4;have hne:some w.heap.size≠(Value.slice x j c).ownBlock:=fun e=>by have:=(HO.out.lt _ e.symm).1;omega
   have hblk4:w4.heap[w.heap.size]?=some (.cells #[.slice x j c,cv,sp] 276 (0,0)):=by
    rw[hgrow4.block _ (by simp;omega) hne,Below.heap_alloc _ _ _ (by simp;omega),Below.heap_alloc _ _ _ (by simp;omega),Below.heap_alloc _ _ _ hl0];exact HB.out
   have c0':w4.cell? ⟨w.heap.size,0,none⟩=some (.slice x j c):=aA hblk4 rfl;have f0':=aE hblk4 (i:=0);have hgl4:=aD hblk4;have HFIN:=aB (HK.out _ g4 cap4 w4 rfl hown4 hgrow4 hat4 hblk4);clear hown4 hgrow4 hat4 hblk4 hg4 q0 d1 d2 d3 d4;go_wp2_with fail;go_roundg m
   case measure=>omega
   case rel=>exact⟨j+1,by omega,by go_num,HFIN.out⟩
  ·have hjn:j=n:=by omega
   subst hjn;have HI2:=aB (H12.out _ hC);clear hC H12 H1;go_wp2_with fail;go_loopg [6,7,27] j (fun gk _ _ i wr=>∃k:Nat,k+gk=j∧i=.int .i64 k∧I2 k wr)
   case atStart=>exact⟨0,by omega,rfl,HI2.out⟩
   case round=>
    obtain⟨k,hj2,rfl,hC⟩:=hrel;clear HI2;by_cases hlt:k<j
    ·obtain⟨m,rfl⟩:∃m,gk=m+1:=⟨gk-1,by omega⟩
     obtain⟨hl0,hl1,l,t,x1,n1,c1,x2,n2,c2,g,c,fb,d1,d2,d3,d4,d5,d6,d7,d8⟩:=H2.out _ _ hC hlt;have HX:=aB (d8 _ (aW.drew _));have e1:(0:Int)≤(k:Int):=by omega
     have e2:(k:Int)<(j:Int):=by omega
     clear hC d8 H2 H3;go_wp2_with fail;go_region_law (go_simp;go_at_call 173;refine HX.out.mono ?_;rintro e w1 ⟨x,n3,c3,rfl,a1,⟨g2,c2',b1,b2,b3⟩,a3,a4,a5,⟨u,a6⟩,a7,a8⟩;have HF:=aB a8;clear a8)
     all_goals
      go_wp2_with fail;go_roundg m
      case measure=>omega
      case rel=>exact⟨k+1,by omega,by go_num,HF.out⟩
    ·have hkn:k=j:=by omega
     subst hkn;have HX:=aB (H3.out _ hC);clear hC H2 H3;go_wp2_with fail;refine HX.out.mono ?_;rintro e w1 ⟨v,rfl,h1⟩;have HF:=aB h1;clear h1;go_wp2_with fail;go_ret;exact⟨_,rfl,HF.out⟩
section
variable {fp:Nat→Value} {fb:Nat→Nat} {fs:List aC} {cb lo d:Nat} {F:Nat→Prop}
def CQ(fp:Nat→Value)(fb:Nat→Nat)(nms:List (List UInt8))(cb:Nat)(F:Nat→Prop)(w:World):Prop:=
 (∃fv cv sp,w.heap[cb]?=some (.cells #[fv,cv,sp] 276 (0,0))∧GB fp fb nms F w fv)∧∀k,F k→k<w.heap.size∧k≠cb
theorem FL(fs:List aC)(d:Nat){f b:aC}{ps:List aC}(hk:f.kids=ps++[b]):(fD fs d f).code=bF (bA fs d) (ps.map (·.text)).reverse b.kids 0++[.push (bB 0),.give]:=by simp[fD,hk]
theorem E7(hfn:fs.length≤1000000)(hfp:∀k,k<fs.length→fp k=.pointer (some ⟨fb k,0,none⟩)){w:World}(h:CQ fp fb (fs.map (·.text)) cb F w)(f:aC)(v:Value)(hv:yH (Btw lo cb) w v f)(hok:jG fs d f)(hli:∀k∈f.kids,lO k)(hkl:f.kids.length≤90000):
 Calls Tryz.prog 173 #[.pointer (some ⟨cb,0,none⟩),v] w fun e w'=>∃cv,e=.returned cv∧∃G sn,(∀k,F k→G k)∧CP fp fb (fs.map (·.text)) cb G w' ((fD fs d f).code.map some) sn∧w'.cell? ⟨cb,1,none⟩=some cv∧Below cb w w'∧∀k,F k→w'.heap[k]?=w.heap[k]?:=by
 obtain⟨⟨fv,cv0,sp0,hblk,hfun⟩,hfix⟩:=h;obtain⟨pv,bv,ps,b,rfl,hk,hps,hbo,hbk⟩:=hv;obtain⟨px,pc,rfl⟩:=hps.slice;obtain⟨bx,bc,rfl⟩:=hbk.sliceC;obtain⟨⟨ps',b',hk',hst,_⟩,hlen⟩:=hok
 obtain⟨rfl,hbb⟩:ps'=ps∧b'=b:=by
  rw[hk] at hk';have:=List.append_inj' hk' rfl;simp at this;exact⟨this.1.symm,this.2.symm⟩
 subst hbb;rw[FL fs d hk] at hlen ⊢
 simp only[List.length_append,List.length_cons,List.length_nil] at hlen;rw[hk] at hkl;simp only[List.length_append,List.length_cons,List.length_nil] at hkl;have hcb:=aD hblk;obtain⟨W0,hW0⟩:∃W0,W0=(w.setCell ⟨cb,1,none⟩ (.slice none 0 0)).setCell ⟨cb,2,none⟩ (.pointer none):=⟨_,rfl⟩;have hb0:Below cb w W0:=by rw[hW0];exact((Below.refl cb w).setCell (Nat.le_refl _) _).setCell (Nat.le_refl _) _
 have hsz:W0.heap.size=w.heap.size:=by rw[hW0];simp
 have hne0:∀k,k≠cb→W0.heap[k]?=w.heap[k]?:=fun k hk=>by rw[hW0,Below.heap_setCell _ _ _ _ hk,Below.heap_setCell _ _ _ _ hk]
 have hF0:∀k,F k→W0.heap[k]?=w.heap[k]?:=fun k hk=>hne0 k (hfix k hk).2
 have hblk0:W0.heap[cb]?=some (.cells #[fv,.slice none 0 0,.pointer none] 276 (0,0)):=by
  rw[hW0,aQ (aQ hblk)];rfl
 have hcp0:CP fp fb (fs.map (·.text)) cb F W0 [] []:=by
  refine⟨⟨fv,_,_,hblk0,⟨[],World.ownsRow_nil _ _ _ _,rfl,fun i o ho=>by simp at ho⟩,rfl,hfun.keep hF0 (fun _ h=>h) (by omega)⟩,fun k hk=>⟨by rw[hsz];exact(hfix k hk).1,(hfix k hk).2,?_⟩⟩
  rw[iI hblk0];simp[Value.ownBlock]
 obtain⟨hL1,hcp1⟩:=hcp0.new (.cells #[.int .i64 f.line,.string (bs f.text),.slice px ps'.length pc,.slice bx b'.kids.length bc] 215);rw[hsz] at hL1
 refine(YJ w cb f.line (bs f.text) px bx ps'.length pc b'.kids.length bc (fun cv w'=>∃G sn,(∀k,F k→G k)∧CP fp fb (fs.map (·.text)) cb G w' ((bF (bA fs d) (ps'.map fun a=>a.text).reverse b'.kids 0++[aH.push (bB 0),aH.give]).map some) sn∧w'.cell? ⟨cb,1,none⟩=some cv∧Below cb w w'∧∀k,F k→w'.heap[k]?=w.heap[k]?)
  (fun j W=>∃G,(∀k,F k→G k)∧CP fp fb (fs.map (·.text)) cb G W [] ((ps'.take j).map fun a=>a.text).reverse∧Loc cb W0 w.heap.size (.cells #[.int .i64 f.line,.string (bs f.text),.slice px ps'.length pc,.slice bx b'.kids.length bc] 215) W)
  (fun W=>∃G sn,(∀k,F k→G k)∧fU fp fb (fs.map (·.text)) cb G W0 ((bF (bA fs d) (ps'.map fun a=>a.text).reverse b'.kids 0).map some) sn W)
  (fun W=>∃G sn,(∀k,F k→G k)∧fU fp fb (fs.map (·.text)) cb G W0 ((bF (bA fs d) (ps'.map fun a=>a.text).reverse b'.kids 0).map some++[some (aH.push (bB 0))]) sn W)
  (fun W=>∃G sn,(∀k,F k→G k)∧fU fp fb (fs.map (·.text)) cb G W0 ((bF (bA fs d) (ps'.map fun a=>a.text).reverse b'.kids 0).map some++[some (aH.push (bB 0))]++[some aH.give]) sn W)
  hcb (by omega) ⟨_,aA hblk rfl⟩ ⟨_,aA hblk rfl⟩ (aE hblk) (aE hblk) ?_ (fun j W hq hj=>?_) (fun W hq=>?_) (fun W hq=>?_) (fun W hq=>?_) (fun W hq=>?_))
 ·show ∃G,_
  rw[←hW0];exact⟨F,fun _ h=>h,hcp1,hL1⟩
 ·obtain⟨G,hG,hcp,hL⟩:=hq;rcases hps.get with ⟨_,hnil⟩|⟨pg,pcap,hpe,hpF,hpl,hpc,hcell⟩
  ·rw[hnil] at hj;simp at hj
  cases hpe;obtain⟨hp1,hp2⟩:=hcell j hj;have hbW:Below cb w W:=hb0.trans hL.fb.bel;refine⟨pg,_,_,rfl,Nat.lt_of_lt_of_le (Nat.lt_trans hpF.2 hcb) hbW.size,(hbW.cell (p:=⟨pg,j*2,none⟩) hpF.2).trans hp1,(hbW.cell (p:=⟨pg,j*2+1,none⟩) hpF.2).trans hp2,?_⟩;obtain⟨hL2,hcp2⟩:=hcp.new (.cells #[.int .i64 ps'[j].line,.string (bs ps'[j].text)] 211);refine(TC ps'[j].text hcp2 (by simp;omega)).mono ?_
  rintro e w' ⟨he,q1,q2⟩;refine⟨he,fun k=>G k∨k=(W.alloc (.cells #[.int .i64 ps'[j].line,.string (bs ps'[j].text)] 211)).heap.size,fun k hk=>Or.inl (hG k hk),?_,hL.step (hL2.fb.trans q2)⟩
  have e9:((ps'.take (j+1)).map (·.text)).reverse=ps'[j].text::((ps'.take j).map (·.text)).reverse:=by
   rw[List.take_succ_eq_append_getElem hj,List.map_append,List.reverse_append];rfl
  rw[e9];exact q1
 ·obtain⟨G,hG,hcp,hL⟩:=hq;rw[List.take_of_length_le (Nat.le_refl _)] at hcp;have hbW:Below cb w W:=hb0.trans hL.fb.bel;refine⟨aA hL.blk rfl,aD hL.blk,?_⟩;refine(oO (TV hfn hfp d) _ b'.kids [] W hcp (hbk.below hbW) hst (fun a ha=>(hli b' (by rw[hk];simp)).kid ha) (hli b' (by rw[hk];simp)).len (by simp;omega) (by simp;omega)).mono ?_
  rintro e w' ⟨he,G2,hG2,hto⟩;exact⟨he,G2,_,fun k hk=>hG2 k (hG k hk),by simpa using hto.then hL.fb⟩
 ·obtain⟨G,sn,hG,hto⟩:=hq;refine(emits (i:=.push (bB 0)) hto ⟨_,rfl,PV.num _ _ _ (by omega) (by omega),by rw[jL];omega⟩ (by simp;omega)).mono ?_
  rintro e w' ⟨he,h2⟩;exact⟨he,G,sn,hG,h2⟩
 ·obtain⟨G,sn,hG,hto⟩:=hq;refine(emits (i:=.give) hto rfl (by simp;omega)).mono ?_
  rintro e w' ⟨he,h2⟩;exact⟨he,G,sn,hG,h2⟩
 ·obtain⟨G,sn,hG,hto⟩:=hq;obtain⟨fv',cv',sp',g1,⟨xs,g2,g3⟩,g4,g5⟩:=hto.1.blk;obtain⟨x,c,rfl⟩:=cP g2;refine⟨hto.1.lt,x,_,c,aA g1 rfl,G,sn,hG,?_,aA g1 rfl,hb0.trans hto.2.bel,fun k hk=>?_⟩
  ·have:=hto.1;simpa using this
  ·rw[hcp0.fixed hto.2 k hk,hF0 k hk]
end
def F5(w:World)(b:Nat):Prop:=∀c,w.heap[b]?≠some (.cells c 250 (0,0))
theorem eO.notFn{F:Nat→Prop}{w:World}:∀{l:List (List UInt8)} {v:Value},eO F w v l→eO (fun b=>F b∧F5 w b) w v l
 |[],_,h=>h
 |_::_,_,⟨b,o,h1,h2,h3,h4⟩=>⟨b,o,h1,⟨h2,fun c e=>by rw[h3] at e;cases e⟩,h3,eO.notFn h4⟩
theorem VR.notFn{F:Nat→Prop}{w:World}:∀{d:Nat} {v:Value} {a:aI},VR d F w v a→VR d (fun b=>F b∧F5 w b) w v a
 |0,_,_,h=>h.elim
 |d+1,v,a,h=>by
  rcases h with h|h|h|⟨sv,l,h1,h2,h3⟩
  ·exact Or.inl h
  ·exact Or.inr (Or.inl h)
  ·exact Or.inr (Or.inr (Or.inl h))
  ·refine Or.inr (Or.inr (Or.inr ⟨sv,l,h1,h2,?_⟩));rcases h3 with h3|⟨g,cap,cur,e1,e2,e3,e4,e5⟩
   ·exact Or.inl h3
   ·refine Or.inr ⟨g,cap,cur,e1,⟨e2,fun c e=>by rw[e3] at e;cases e⟩,e3,e4,fun i hi=>?_⟩
    obtain⟨u,k1,k2⟩:=e5 i hi;exact⟨u,k1,VR.notFn k2⟩
theorem kL.notFn{fp:Nat→Value}{F:Nat→Prop}{w:World}{v:Value}{i:aH}(h:kL fp F w v i):kL fp (fun b=>F b∧F5 w b) w v i:=by
 cases i<;>first
  |exact h
  |(obtain⟨sp,h1,h2⟩:=h;exact⟨sp,h1,h2.notFn⟩)
  |(obtain⟨u,h1,⟨d,h2⟩,h3⟩:=h;exact⟨u,h1,⟨d,h2.notFn⟩,h3⟩)
theorem kL.setFn{fp:Nat→Value}{F G:Nat→Prop}{w:World}{v u:Value}{i:aH}{b o:Nat}{c:Array Value}(h:kL fp F w v i)(hb:w.heap[b]?=some (.cells c 250 (0,0)))(hF:∀b,F b→G b):kL fp G (w.setCell ⟨b,o,none⟩ u) v i:=
 h.notFn.keep (fun k hk=>Below.heap_setCell _ _ _ _ fun e=>hk.2 c (by rw[e];exact hb)) fun k hk=>hF k hk.1
section
variable {fp:Nat→Value} {fb:Nat→Nat} {nms:List (List UInt8)} {cb:Nat} {F:Nat→Prop} {w:World}
theorem JR(name:List UInt8)(h:CQ fp fb nms cb F w)(hm:name∈nms)(hn:nms.length≤1000000):
 Calls Tryz.prog 174 #[.pointer (some ⟨cb,0,none⟩),.string (bs name)] w fun e w'=>e=.returned (fp (nms.findIdx fun x=>x==name))∧w'=w:=by
 obtain⟨⟨fv,cv,sp,h1,h5⟩,_⟩:=h;rcases h5 with ⟨rfl,_⟩|⟨g,cap,rfl,hFg,hcap,hgl,hall⟩
 ·cases hm
 have hl:=aD h1;have c0:w.cell? ⟨cb,0,none⟩=some (.slice (some ⟨g,0,none⟩) nms.length cap):=aA h1 rfl;have HA:=aB hall;clear h1 hall;go_enter Tryz.func174,Tryz.ntmps174;go_wp2_with fail;go_loopg [6,12] nms.length (fun gk _ i wr=>∃j:Nat,j+gk=nms.length∧i=.int .i64 j∧j≤nms.findIdx (fun x=>x==name)∧wr=w)
 case atStart=>exact⟨0,by omega,rfl,Nat.zero_le _,rfl⟩
 case round=>
  obtain⟨j,hj,rfl,hle,rfl⟩:=hrel;have hfi:nms.findIdx (fun x=>x==name)<nms.length:=List.findIdx_lt_length_of_exists ⟨name,hm,by simp⟩
  have hlt:j<nms.length:=by omega
  obtain⟨m,rfl⟩:∃m,gk=m+1:=⟨gk-1,by omega⟩
  obtain⟨e1,e2,e3,x,e4⟩:=HA.out j hlt;rw[e2] at e1;have d0:wr.cell? ⟨fb j,0,none⟩=some (.string (bs nms[j])):=aA e4 rfl;have hbl:=aD e4;have i1:(0:Int)≤(j:Int):=by omega
  have i2:(j:Int)<(nms.length:Int):=by omega
  by_cases hx:nms[j]=name
  ·have hje:nms.findIdx (fun x=>x==name)=j:=by
    refine Nat.le_antisymm (Nat.not_lt.1 fun hlt'=>?_) hle
    have:=List.not_of_lt_findIdx hlt';simp[hx] at this
   have E2:=aB e2;rw[hx] at d0;clear e4 e2 HA;go_wp2_with fail;go_ret;exact⟨by rw[hje,E2.out];rfl,rfl⟩
  ·have hne:((bs nms[j]).toList==(bs name).toList)=false:=by rw[bZ,bZ];simpa using hx
   have hle':j+1≤nms.findIdx (fun x=>x==name):=by
    rcases Nat.eq_or_lt_of_le hle with e|e
    ·have:=List.findIdx_getElem (w:=hfi);simp only[←e] at this;simp at this;exact absurd this hx
    ·exact e
   generalize nms[j]=y at*;clear e4 e2;go_wp2_with fail;go_roundg m
   case measure=>omega
   case rel=>exact⟨j+1,by omega,by go_num,hle',rfl⟩
end
def mV(bl:List Nat)(k:Nat):Nat:=bl[k]?.getD 0
def BA(bl:List Nat)(k:Nat):Value:=.pointer (some ⟨mV bl k,0,none⟩)
theorem nJ{bl:List Nat}{k:Nat}(h:k<bl.length):mV bl k=bl[k]:=by simp[mV,h]
def CI1(w:World)(fs:List aC)(j:Nat)(W:World):Prop:=
 ∃(x:Option Addr) (c:Nat) (bl:List Nat),j≤fs.length∧W.heap[w.heap.size]?=some (.cells #[.slice x j c,.slice none 0 0,.pointer none] 276 (0,0))∧bl.length=j∧W.ownsRow (w.heap.size+1) 188 1 (.slice x j c) j (bl.map fun b=>.pointer (some ⟨b,0,none⟩))∧bl.Nodup∧
  (∀i (h:i<fs.length),∀b,bl[i]?=some b→W.heap[b]?=some (.cells #[.string (bs fs[i].text),.slice none 0 0] 250 (0,0))∧w.heap.size<b∧b<W.heap.size∧(Value.slice x j c).ownBlock≠some b)∧Below w.heap.size w W
def CI2(w:World)(fs:List aC)(d j:Nat)(W:World):Prop:=
 ∃(bl:List Nat) (F:Nat→Prop),bl.length=fs.length∧(bl.Nodup∧∀b∈bl,w.heap.size<b)∧j≤fs.length∧CQ (BA bl) (mV bl) (fs.map (·.text)) w.heap.size F W∧Below w.heap.size w W∧∀i (h:i<fs.length),i<j→YN (BA bl) F W (BA bl i) (fD fs d fs[i])
theorem CI1.zero(w:World)(fs:List aC):CI1 w fs 0 (w.alloc (.cells #[.slice none 0 0,.slice none 0 0,.pointer none] 276)):=
 ⟨none,0,[],Nat.zero_le _,aR _ _ rfl _,rfl,World.ownsRow_nil _ _ _ _,List.nodup_nil,fun i h b hb=>by simp at hb,(Below.refl _ _).alloc (Nat.le_refl _) _⟩
theorem CI1.next{w W W3 w4:World}{fs:List aC}{j g4 cap4:Nat}{x:Option Addr}{c:Nat}{bl:List Nat}{o1 o3:Obj}(hj:j<fs.length)
 (hbl:bl.length=j) (hnd:bl.Nodup) (hall:∀i (h:i<fs.length),∀b,bl[i]?=some b→W.heap[b]?=some (.cells #[.string (bs fs[i].text),.slice none 0 0] 250 (0,0))∧w.heap.size<b∧b<W.heap.size∧(Value.slice x j c).ownBlock≠some b) (hbel:Below w.heap.size w W) (hlt:w.heap.size<W.heap.size)
 (hown:W.ownsRow (w.heap.size+1) 188 1 (.slice x j c) j (bl.map fun b=>.pointer (some ⟨b,0,none⟩)))
 (h3:W3=((W.alloc o1).alloc (.cells #[.string (bs fs[j].text),.slice none 0 0] 250)).alloc o3)
 (ho:w4.ownsRow (w.heap.size+1) 188 1 (.slice (some ⟨g4,0,none⟩) (j+1) cap4) (j+1) ((bl.map fun b=>.pointer (some ⟨b,0,none⟩))++[.pointer (some ⟨W.heap.size+1,0,none⟩)]))
 (hgr:W3.grownBy w4 (Value.slice x j c).ownBlock) (hat:(Value.slice x j c).ownBlock=some g4∨g4=W.heap.size+3)
 (hb4:w4.heap[w.heap.size]?=some (.cells #[.slice x j c,.slice none 0 0,.pointer none] 276 (0,0))):
 CI1 w fs (j+1) (w4.setCell ⟨w.heap.size,0,none⟩ (.slice (some ⟨g4,0,none⟩) (j+1) cap4)):=by
 have hs3:W3.heap.size=W.heap.size+3:=by rw[h3];simp
 have hsz:=hgr.size;have hgne:g4≠w.heap.size:=by have:=(ho.lt g4 rfl).1;omega
 have hb3:Below W.heap.size W W3:=by rw[h3];exact(((Below.refl _ _).alloc (Nat.le_refl _) _).alloc (by simp) _).alloc (by simp;omega) _
 refine⟨some ⟨g4,0,none⟩,cap4,bl++[W.heap.size+1],hj,?_,by simp[hbl],?_,?_,fun i hi b hb=>?_,?_⟩
 ·rw[aQ hb4];rfl
 ·rw[List.map_append];exact aY ho fun k hk=>Below.heap_setCell _ _ _ _ (by cases hk;exact hgne)
 ·refine List.nodup_append.2 ⟨hnd,by simp,fun a ha b hb=>?_⟩
  simp at hb;obtain⟨i,hi,rfl⟩:=List.getElem_of_mem ha;have:=(hall i (by omega) _ (List.getElem?_eq_getElem hi)).2.2.1
  omega
 ·rcases Nat.lt_or_ge i bl.length with hib|hib
  ·rw[List.getElem?_append_left hib] at hb;obtain⟨e1,e2,e3,e4⟩:=hall i hi b hb;refine⟨?_,e2,by simp;omega,fun e=>?_⟩
   ·rw[Below.heap_setCell _ _ _ _ (show b≠w.heap.size by omega),hgr.block b (by omega) (fun e=>e4 e.symm),hb3.block b e3];exact e1
   ·have e':g4=b:=by simpa [Value.ownBlock] using e
    rcases hat with h|h
    ·exact e4 (by rw[←e'];exact h)
    ·omega
  ·rw[List.getElem?_append_right hib] at hb
   have hij:i=j:=by
    rcases Nat.eq_or_lt_of_le hib with h|h
    ·omega
    ·rw[List.getElem?_eq_none (by simp;omega)] at hb;cases hb
   subst hij;rw[hbl,Nat.sub_self] at hb;simp at hb;subst hb;have hown':(Value.slice x i c).ownBlock≠some (W.heap.size+1):=fun e=>by have:=(hown.lt _ e).2;omega
   refine⟨?_,by omega,by simp;omega,fun e=>?_⟩
   ·rw[Below.heap_setCell _ _ _ _ (show W.heap.size+1≠w.heap.size by omega),hgr.block _ (by omega) (fun e=>hown' e.symm),h3,Below.heap_alloc _ _ _ (by simp)]
    exact aR _ _ (by simp) _
   ·have e':g4=W.heap.size+1:=by simpa [Value.ownBlock] using e
    rcases hat with h|h
    ·exact hown' (by rw[←e'];exact h)
    ·omega
 ·refine((hbel.trans (hb3.mono (by omega))).trans ?_).setCell (Nat.le_refl _) _
  exact⟨hgr.os,hgr.tape,hgr.output,by omega,fun k hk=>hgr.block k (by omega) (fun e=>by have:=(hown.lt k e.symm).1;omega)⟩
theorem TJ(fs:List aC)(k:Nat)(h:k<(fs.map (·.text)).length):(fs.map (·.text))[k]=(fs[k]'(by simpa using h)).text:=by simp
theorem yL(g j:Nat):(⟨g,0,none⟩:Addr).add j=⟨g,j,none⟩:=by unfold Addr.add;split<;>simp_all
theorem CI2.zero{w W:World}{fs:List aC}{d:Nat}(hne:fs≠[])(h:CI1 w fs fs.length W):CI2 w fs d 0 W:=by
 obtain⟨x,c,bl,_,h1,h2,h3,h4,h5,h6⟩:=h;have hpos:0<fs.length:=List.length_pos_iff.2 hne;have hrow:=h3;rcases h3.2 with ⟨r1,r2⟩|⟨g,cap,cur,r1,r2,r3,r4,r5⟩
 ·omega
 obtain⟨rfl,rfl⟩:x=some ⟨g,0,none⟩∧c=cap:=by simpa using r1
 have hgl:=hrow.lt g rfl;refine⟨bl,fun k=>k=g∨k∈bl,h2,⟨h4,fun b hb=>?_⟩,Nat.zero_le _,⟨⟨_,_,_,h1,Or.inr ⟨g,c,by simp,Or.inl rfl,by simp;exact r4,hgl.2,fun k hk=>?_⟩⟩,fun k hk=>?_⟩,h6,fun i _ hi=>by omega⟩
 ·obtain⟨i,hi,rfl⟩:=List.getElem_of_mem hb;exact(h5 i (by omega) bl[i] (List.getElem?_eq_getElem hi)).2.1
 ·have hk':k<fs.length:=by simpa using hk
  have hkb:k<bl.length:=by omega
  obtain⟨e1,e2,e3,e4⟩:=h5 k hk' bl[k] (List.getElem?_eq_getElem hkb);refine⟨?_,rfl,Or.inr (by rw[nJ hkb];exact List.getElem_mem hkb),_,by rw[nJ hkb,e1,TJ]⟩
  have:=hrow.cells (g:=g) rfl k (BA bl k) (by simp[BA,nJ hkb,hkb])
  rw[yL] at this;exact this
 ·rcases hk with rfl|hk
  ·exact⟨hgl.2,by omega⟩
  ·obtain⟨i,hi,rfl⟩:=List.getElem_of_mem hk;obtain⟨e1,e2,e3,e4⟩:=h5 i (by omega) bl[i] (List.getElem?_eq_getElem hi)
   exact⟨e3,by omega⟩
theorem CI2.next{w W w1:World}{fs:List aC}{d j:Nat}{bl:List Nat}{F G:Nat→Prop}{sn:List (List UInt8)}{cv:Value}(hj:j<fs.length)(hbl:bl.length=fs.length)(hnd:bl.Nodup∧∀b∈bl,w.heap.size<b)(hbel:Below w.heap.size w W)(hold:∀i (h:i<fs.length),i<j→YN (BA bl) F W (BA bl i) (fD fs d fs[i]))
 (hFG:∀k,F k→G k) (hcp:CP (BA bl) (mV bl) (fs.map (·.text)) w.heap.size G w1 ((fD fs d fs[j]).code.map some) sn) (hcv:w1.cell? ⟨w.heap.size,1,none⟩=some cv) (hb1:Below w.heap.size W w1) (hF:∀k,F k→w1.heap[k]?=W.heap[k]?) (hpos:0<(fD fs d fs[j]).code.length):
 CI2 w fs d (j+1) (w1.setCell ⟨mV bl j,1,none⟩ cv):=by
 have hjb:j<bl.length:=by omega
 obtain⟨fv,cv',sp,h1,⟨xs,h2,h3⟩,h4,h5⟩:=hcp.blk
 obtain rfl:cv'=cv:=by
  have:=aA h1 (i:=1) rfl;rw[hcv] at this;exact(Option.some.inj this).symm
 have hjn:j<(fs.map (·.text)).length:=by simpa using hj
 rcases h5 with ⟨e,_⟩|⟨g,cap,rfl,k1,k2,k3,k4⟩
 ·rw[e] at hjn;simp at hjn
 obtain⟨m1,m2,m3,x,m4⟩:=k4 j hjn;have hfj:=hcp.fix _ m3;rcases h2.2 with ⟨_,r2⟩|⟨gc,cap',cur,rfl,r2,r3,r4,r5,r6,r7⟩
 ·rw[List.length_map] at r2;omega
 have hgc:gc≠mV bl j:=fun e=>by rw[e,m4] at r3;cases r3
 have hgfb:∀k (h:k<(fs.map (·.text)).length),g≠mV bl k:=fun k hk e=>by
  obtain⟨z1,z2,z3,z,z4⟩:=k4 k hk;obtain⟨y1,_⟩:=k4 0 (by omega)
  have:=aA z4 (i:=0) rfl;rw[←e,y1] at this;cases this
 have hkp:∀k,k≠mV bl j→(w1.setCell ⟨mV bl j,1,none⟩ (.slice (some ⟨gc,0,none⟩) ((fD fs d fs[j]).code.map some).length cap')).heap[k]?=w1.heap[k]?:=fun k hk=>Below.heap_setCell _ _ _ _ hk
 have hjs:(w1.setCell ⟨mV bl j,1,none⟩ (.slice (some ⟨gc,0,none⟩) ((fD fs d fs[j]).code.map some).length cap')).heap[mV bl j]?=some (.cells #[.string (bs (fs.map (·.text))[j]),.slice (some ⟨gc,0,none⟩) ((fD fs d fs[j]).code.map some).length cap'] 250 (0,0)):=by
  rw[aQ m4];rfl
 have hdist:∀i (hi:i<bl.length),i≠j→mV bl i≠mV bl j:=fun i hi hij e=>by
  rw[nJ hi,nJ hjb] at e;exact hij ((List.getElem_inj hnd.1).1 e)
 refine⟨bl,fun k=>G k∨k=gc,hbl,hnd,hj,⟨⟨_,_,_,by rw[hkp _ (fun e=>hfj.2.1 e.symm)];exact h1,Or.inr ⟨g,cap,rfl,Or.inl k1,k2,by simpa using k3,fun k hk=>?_⟩⟩,fun k hk=>?_⟩,?_,fun i hi hij=>?_⟩
 ·obtain⟨z1,z2,z3,z,z4⟩:=k4 k hk;refine⟨?_,z2,Or.inl z3,?_⟩
  ·rw[World.cell?_of_block (hkp g (hgfb j hjn))];exact z1
  ·by_cases hkj:k=j
   ·subst hkj;exact⟨_,hjs⟩
   ·exact⟨z,by rw[hkp _ (hdist k (by simp at hk;omega) hkj)];exact z4⟩
 ·rcases hk with hk|rfl
  ·have:=hcp.fix k hk;exact⟨by simpa using this.1,this.2.1⟩
  ·have:=h2.lt k rfl;exact⟨by simpa using this.2,by omega⟩
 ·exact(hbel.trans hb1).setCell (Nat.le_of_lt (by show w.heap.size<mV bl j;rw[nJ hjb];exact hnd.2 _ (List.getElem_mem hjb))) _
 ·by_cases hij':i=j
  ·subst hij';refine⟨mV bl i,gc,cap',cur,rfl,Or.inl m3,?_,Or.inr rfl,by rw[hkp _ hgc];exact r3,fun q hq=>?_⟩
   ·rw[hjs,TJ];simp only[List.length_map];rfl
   ·obtain⟨u,u1,u2⟩:=h3.2 q (some (fD fs d fs[i]).code[q]) (by simp[hq])
    refine⟨u,?_,kL.setFn u2 m4 fun _ h=>Or.inl h⟩
    rw[←r7] at u1;have hql:q<((fD fs d fs[i]).code.map some).length*1:=by simpa using hq
    rw[List.getElem?_take_of_lt hql] at u1;simpa using u1
  ·obtain⟨fb',gc',cap2,cur',a1,a2,a3,a4,a5,a6⟩:=hold i hi (by omega)
   obtain rfl:fb'=mV bl i:=by simpa [BA] using a1.symm
   have b3:w1.heap[mV bl i]?=_:=(hF _ a2).trans a3;have b5:w1.heap[gc']?=_:=(hF _ a4).trans a5;refine⟨mV bl i,gc',cap2,cur',rfl,Or.inl (hFG _ a2),by rw[hkp _ (hdist i (by omega) hij')];exact b3,Or.inl (hFG _ a4),by rw[hkp _ (fun e=>by rw[e,m4] at b5;cases b5)];exact b5,fun q hq=>?_⟩
   obtain⟨u,u1,u2⟩:=a6 q hq;exact⟨u,u1,kL.setFn (u2.keep hF hFG) m4 fun _ h=>Or.inl h⟩
theorem OC{lo d:Nat}{fs:List aC}(v:Value)(w:World)(h:FSl (Btw lo w.heap.size) w v fs)(hfl:fs.length≤90000)(hok:∀f∈fs,jG fs d f)(hli:∀f∈fs,∀k∈f.kids,lO k)(hkl:∀f∈fs,f.kids.length≤90000)(hm:[109,97,105,110]∈fs.map (·.text)):
 Calls Tryz.prog 123 #[v] w fun e w'=>∃fp F,e=.returned (fp (cU fs [109,97,105,110]))∧kH fp F w' (dK fs d)∧Below w.heap.size w w'∧∀k,F k→k<w'.heap.size:=by
 have hne:fs≠[]:=fun e=>by rw[e] at hm;simp at hm
 rcases h.cells with ⟨_,e⟩|⟨g0,cap,rfl,hg0,hgl,hcap,hc⟩
 ·exact absurd e hne
 refine(JN w g0 fs.length cap (fun v w'=>∃fp F,v=fp (cU fs [109,97,105,110])∧kH fp F w' (dK fs d)∧Below w.heap.size w w'∧∀k,F k→k<w'.heap.size) (CI1 w fs) (CI2 w fs d) (by omega) (CI1.zero w fs) (fun j W hq hj=>?_) (fun W hq=>CI2.zero hne hq) (fun j W hq hj=>?_) (fun W hq=>?_)).mono ?_
 ·obtain⟨x,c,bl,h0,h1,h2,h3,h4,h5,h6⟩:=hq;obtain⟨pv,bv,ps,b,e0,e1,e2,e3,hkids,hps,hbo,hbk⟩:=hc j hj;obtain⟨px,pc,rfl⟩:=hps.slice;obtain⟨bx,bc,rfl⟩:=hbk.sliceC;have cel:∀o u,w.cell? ⟨g0,o,none⟩=some u→W.cell? ⟨g0,o,none⟩=some u:=fun o u hu=>by rw[h6.cell (p:=⟨g0,o,none⟩) hgl];exact hu
  exact⟨aD h1,Nat.lt_of_lt_of_le hgl h6.size,_,_,_,_,_,_,_,_,_,_,_,_,_,cel _ _ e0,cel _ _ e1,cel _ _ e2,cel _ _ e3,h1,h3,fun W3 g4 cap4 w4 a1 a2 a3 a4 a5=>CI1.next hj h2 h4 h5 h6 (aD h1) h3 a1 a2 a3 a4 a5⟩
 ·obtain⟨bl,F,h1,h2,h3,h4,h5,h6⟩:=hq;obtain⟨pv,bv,ps,b,e0,e1,e2,e3,hkids,hps,hbo,hbk⟩:=hc j hj;have hFR:yH (Btw lo w.heap.size) w (.agg #[.int .i64 fs[j].line,.string (bs fs[j].text),pv,bv]) fs[j]:=⟨pv,bv,ps,b,rfl,hkids,hps,hbo,hbk⟩;obtain⟨px,pc,rfl⟩:=hps.slice;obtain⟨bx,bc,rfl⟩:=hbk.sliceC;have cel:∀o u,w.cell? ⟨g0,o,none⟩=some u→W.cell? ⟨g0,o,none⟩=some u:=fun o u hu=>by rw[h5.cell (p:=⟨g0,o,none⟩) hgl];exact hu
  have hcq:=h4;obtain⟨⟨fv,cv,sp,q1,q2⟩,q3⟩:=h4;have hjn:j<(fs.map (·.text)).length:=by simpa using hj
  rcases q2 with ⟨e,_⟩|⟨g,c,rfl,k1,k2,k3,k4⟩
  ·rw[e] at hjn;simp at hjn
  obtain⟨m1,m2,m3,x,m4⟩:=k4 j hjn;rw[m2] at m1;have hnl:(fs.map (·.text)).length=fs.length:=by simp
  refine⟨aD q1,Nat.lt_of_lt_of_le hgl h5.size,_,_,_,_,_,_,_,_,g,c,mV bl j,cel _ _ e0,cel _ _ e1,cel _ _ e2,cel _ _ e3,by rw[←hnl];exact aA q1 rfl,k3,m1,fun W' hS=>?_⟩
  have hbW:Below W.heap.size W W':=((Below.refl _ _).alloc (Nat.le_refl _) _).trans (hS.below.mono (by simp))
  have hcq':CQ (BA bl) (mV bl) (fs.map (·.text)) w.heap.size F W':=by
   obtain⟨⟨fv,cv,sp,z1,z2⟩,z3⟩:=hcq;exact⟨⟨fv,cv,sp,by rw[hbW.block _ (aD z1)];exact z1,z2.keep (fun k hk=>hbW.block k (z3 k hk).1) (fun _ h=>h) hbW.size⟩,fun k hk=>⟨Nat.lt_of_lt_of_le (z3 k hk).1 hbW.size,(z3 k hk).2⟩⟩
  have hcbW:=aD q1;refine(E7 (lo:=lo) (d:=d) (by omega) (fun k _=>rfl) hcq' fs[j] _ (hFR.keep (fun k hk=>(h5.trans (hbW.mono (by omega))).block k hk.2) fun _ h=>h) (hok _ (List.getElem_mem hj)) (hli _ (List.getElem_mem hj)) (hkl _ (List.getElem_mem hj))).mono ?_
  rintro e w' ⟨cv',he,G,sn,hFG,hcp,hcv,hb1,hF⟩;have hpos:0<(fD fs d fs[j]).code.length:=by rw[FL fs d hkids];simp
  have hcp0:=hcp;obtain⟨fv',cv2,sp',y1,⟨xs,y2,y3⟩,y4,y5⟩:=hcp.blk
  obtain rfl:cv2=cv':=by
   have:=aA y1 (i:=1) rfl;rw[hcv] at this;exact(Option.some.inj this).symm
  obtain⟨x',c',rfl⟩:=cP y2;have hFW:∀k,F k→w'.heap[k]?=W.heap[k]?:=fun k hk=>by rw[hF k hk,hbW.block k (q3 k hk).1]
  rcases y5 with ⟨e,_⟩|⟨g2,c2,rfl,l1,l2,l3,l4⟩
  ·rw[e] at hjn;simp at hjn
  obtain⟨n1,n2,n3,x2,n4⟩:=l4 j hjn;rw[n2] at n1;refine⟨x',_,c',he,hcp.lt,⟨g2,c2,by rw[←hnl];exact aA y1 rfl,l3,n1⟩,Nat.lt_of_lt_of_le k3 (Nat.le_trans hbW.size hb1.size),?_,aD n4,⟨_,aA n4 rfl⟩,aE n4,?_⟩
  ·rw[World.cell?_of_block (hFW g k1)];exact m1
  ·exact CI2.next hj h1 h2 h5 h6 hFG hcp hcv ((hbW.mono (by omega)).trans hb1) hFW hpos
 ·obtain⟨bl,F,h1,h2,h3,h4,h5,h6⟩:=hq;refine(JR [109,97,105,110] h4 hm (by simpa using (by omega:fs.length≤1000000))).mono ?_
  rintro e w' ⟨he,rfl⟩;rw[BB] at he;refine⟨_,he,BA bl,F,rfl,fun k f hf=>?_,h5,fun k hk=>(h4.2 k hk).1⟩
  have hkl:k<fs.length:=by
   rcases Nat.lt_or_ge k fs.length with h|h
   ·exact h
   ·rw[List.getElem?_eq_none (by simpa [dK] using h)] at hf;cases hf
  have:f=fD fs d fs[k]:=by simpa [dK,hkl] using hf.symm
  rw[this];exact h6 k hkl hkl
 ·rintro e w' ⟨v,rfl,fp,F,rfl,h⟩;exact⟨fp,F,rfl,h⟩
theorem PO(w:World)(x0:Option Addr)(n0 c0:Nat)(x1:Option Addr)(n1 c1:Nat)(P:Value→World→Prop)(A:Value→World→Prop)(T:Value→Nat→Value→World→Prop)(B:Nat→World→Prop)
 (HC:Hid (Calls Tryz.prog 123 #[.slice x0 n0 c0] (w.alloc (.cells #[.int .i64 0,.slice none 0 0,.slice none 0 0,.slice none 0 0,.int .i64 0] 108)) fun e w'=>∃p,e=.returned (.pointer p)∧A (.pointer p) w'))
 (HT:Hid (∀p W,A (.pointer p) W→Calls Tryz.prog 124 #[.slice x1 n1 c1] (W.alloc (.cells #[.pointer p,.int .i64 0,.int .i64 0,.pointer none,.slice none 0 0,.slice none 0 0] 195)) fun e w'=>∃x n c,e=.returned (.slice x n c)∧T (.pointer p) W.heap.size (.slice x n c) w'))
 (HG:Hid (∀p gf x n c W,T (.pointer p) gf (.slice x n c) W→Calls Tryz.prog 125 #[.pointer (some ⟨W.heap.size,0,none⟩)] (W.alloc (.cells #[.int .i64 0,.slice (some ⟨gf,0,none⟩) 1 1,.slice x n c,.slice none 0 0,.int .i64 0] 108)) fun e w'=>e=.returned (.tuple #[])∧B W.heap.size w'))
 (HB:Hid (∀b W,B b W→∃(q:Nat) (f t o:Value) (st:Nat),W.heap[b]?=some (.cells #[.int .i64 q,f,t,o,.int .i64 st] 108 (0,0))∧(∃x l c,f=.slice x l c)∧(∃x l c,t=.slice x l c)∧(∃x l c,o=.slice x l c)∧W.heap[w.heap.size]?=some (.cells #[.int .i64 0,.slice none 0 0,.slice none 0 0,.slice none 0 0,.int .i64 0] 108 (0,0))∧b≠w.heap.size∧
   ∀W',Kept [w.heap.size] W W'→W'.heap.size=W.heap.size→P (.agg #[.int .i64 q,f,t,o,.int .i64 st]) W')):
 Calls Tryz.prog 70 #[.slice x0 n0 c0,.slice x1 n1 c1] w fun e w'=>∃v',e=.returned v'∧P v' w':=by
 go_enter Tryz.func70,Tryz.ntmps70;go_wp2_with fail;refine HC.out.mono ?_;rintro e w1 ⟨p,rfl,h1⟩;have HTT:=aB (HT.out _ _ h1);generalize hgf:w1.heap.size=gf at HTT;clear h1;go_wp2_with fail;refine HTT.out.mono ?_;rintro e w2 ⟨x,n,c,rfl,h2⟩;have HGG:=aB (HG.out _ _ _ _ _ _ h2);generalize hb:w2.heap.size=b at HGG;clear h2;go_wp2_with fail;refine HGG.out.mono ?_;rintro e w4 ⟨rfl,h4⟩;obtain⟨q,f,t,o,st,q1,⟨z1,r1,s1,rfl⟩,⟨z2,r2,s2,rfl⟩,⟨z3,r3,s3,rfl⟩,q2,q3,q4⟩:=HB.out _ _ h4;have HQ:=aB q4;have hc0:w4.cell? ⟨b,0,none⟩=some (.int .i64 q):=aA q1 rfl;have hc1:w4.cell? ⟨b,1,none⟩=some (.slice z1 r1 s1):=aA q1 rfl;have hc2:w4.cell? ⟨b,2,none⟩=some (.slice z2 r2 s2):=aA q1 rfl;have hc3:w4.cell? ⟨b,3,none⟩=some (.slice z3 r3 s3):=aA q1 rfl;have hc4:w4.cell? ⟨b,4,none⟩=some (.int .i64 st):=aA q1 rfl;have hb0:w4.cell? ⟨w.heap.size,0,none⟩=some (.int .i64 0):=aA q2 rfl;have hb1:w4.cell? ⟨w.heap.size,1,none⟩=some (.slice none 0 0):=aA q2 rfl;have hb2:w4.cell? ⟨w.heap.size,2,none⟩=some (.slice none 0 0):=aA q2 rfl;have hb3:w4.cell? ⟨w.heap.size,3,none⟩=some (.slice none 0 0):=aA q2 rfl;have hb4:w4.cell? ⟨w.heap.size,4,none⟩=some (.int .i64 0):=aA q2 rfl;have hf0:=aE (i:=0) q2;have hf1:=aE (i:=1) q2;have hf2:=aE (i:=2) q2;have hf3:=aE (i:=3) q2;have hf4:=aE (i:=4) q2;have hl1:=aD q1;have hl2:=aD q2;clear h4 q4 q1 q2;go_wp2_with fail;refine⟨rfl,.agg #[.int .i64 q,.slice z1 r1 s1,.slice z2 r2 s2,.slice z3 r3 s3,.int .i64 st],?_,_,rfl,HQ.out _ ?_ (by simp)⟩
 ·simp[results,Tryz.results70,go_sem,hb0,hb1,hb2,hb3,hb4]
 ·exact(((((Kept.refl _ _).setCell _ _ (by simp)).setCell _ _ (by simp)).setCell _ _ (by simp)).setCell _ _ (by simp)).setCell _ _ (by simp)
def TX(w:World)(v:Value)(l:List Int):Prop:=
 (l=[]∧v=.slice none 0 0)∨∃g o c,v=.slice (some ⟨g,o,none⟩) l.length c∧g<w.heap.size∧∀i (h:i<l.length),w.cell? ⟨g,o+i,none⟩=some (.int .i64 l[i])∧ -9223372036854775808≤l[i]∧l[i]≤9223372036854775807
theorem CJ(w:World)(v:Value)(l:List Int)(h:TX w v l)(hl:l.length≤1000000):∃x n c,v=.slice x n c∧Calls Tryz.prog 124 #[.slice x n c] w fun e w'=>∃x n c,e=.returned (.slice x n c)∧Below w.heap.size w w'∧qA (fun k=>w.heap.size≤k∧k<w'.heap.size) w' (.slice x n c) l:=by
 rcases h with ⟨rfl,rfl⟩|⟨g,o,c,rfl,hg,hc⟩
 ·refine⟨none,0,0,rfl,(DZ w).mono ?_⟩;rintro e w' ⟨rfl,rfl⟩;exact⟨_,_,_,rfl,Below.refl _ _,Or.inl ⟨rfl,none,0,rfl⟩⟩
 ·refine⟨_,_,_,rfl,(EA g o l.length c (l.map fun n=>Value.int .i64 n) w (by simp) hl (fun j u hj=>?_) (fun u hu=>?_)).mono ?_⟩
  ·rw[List.getElem?_map] at hj;cases hl2:l[j]? with
   |none=>rw[hl2] at hj;cases hj
   |some n=>
    rw[hl2] at hj;obtain⟨hj2,rfl⟩:=List.getElem?_eq_some_iff.1 hl2;rw[(hc j hj2).1];exact hj
  ·obtain⟨n,_,rfl⟩:=List.mem_map.1 hu;rfl
  ·rintro e w' ⟨v',rfl,hown,hb⟩;obtain⟨x,c',rfl⟩:=cP hown;refine⟨x,_,c',rfl,hb,?_⟩;rcases hown.2 with ⟨r1,r2⟩|⟨g2,cap,cur,r1,r2,r3,r4⟩
   ·exact Or.inl ⟨List.length_eq_zero_iff.1 r2,x,c',by rw[r2]⟩
   ·refine Or.inr ⟨g2,0,cap,r1,r4.1,⟨r2,aD r3⟩,fun i hi=>⟨?_,(hc i hi).2⟩⟩
    have:=hown.cells (g:=g2) (by rw[r1];rfl) i (.int .i64 l[i]) (by simp[hi])
    rw[yL] at this;simpa using this
theorem YN.ptr{fp:Nat→Value}{F:Nat→Prop}{w:World}{v:Value}{f:eJ}(h:YN fp F w v f):∃p,v=.pointer p:=by
 obtain⟨fb,_,_,_,h1,_⟩:=h;exact⟨_,h1⟩
theorem Kept.below{own:List Nat}{w w':World}{n:Nat}(h:Kept own w w')(hn:n≤w.heap.size)(ho:∀k∈own,n≤k):Below n w w':=
 ⟨h.os,h.tape,h.output,h.size,fun k hk=>h.block k (by omega) fun hm=>by have:=ho k hm;omega⟩
section
variable {fp:Nat→Value} {F:Nat→Prop} {w:World} {z:Nat} {c:Array Value} (hz:w.heap[z]?=some (.cells c 108 (0,0)))
include hz
theorem eO.off:∀{l:List (List UInt8)} {v:Value},eO F w v l→eO (fun b=>F b∧b≠z) w v l
 |[],_,h=>h
 |_::_,_,⟨b,o,h1,h2,h3,h4⟩=>⟨b,o,h1,⟨h2,fun e=>by rw[e,hz] at h3;cases h3⟩,h3,eO.off h4⟩
theorem VR.off:∀{d:Nat} {v:Value} {a:aI},VR d F w v a→VR d (fun b=>F b∧b≠z) w v a
 |0,_,_,h=>h.elim
 |d+1,v,a,h=>by
  rcases h with h|h|h|⟨sv,l,h1,h2,h3⟩
  ·exact Or.inl h
  ·exact Or.inr (Or.inl h)
  ·exact Or.inr (Or.inr (Or.inl h))
  ·refine Or.inr (Or.inr (Or.inr ⟨sv,l,h1,h2,?_⟩));rcases h3 with h3|⟨g,cap,cur,e1,e2,e3,e4,e5⟩
   ·exact Or.inl h3
   ·refine Or.inr ⟨g,cap,cur,e1,⟨e2,fun e=>by rw[e,hz] at e3;cases e3⟩,e3,e4,fun i hi=>?_⟩
    obtain⟨u,k1,k2⟩:=e5 i hi;exact⟨u,k1,VR.off k2⟩
theorem kL.off{v:Value}{i:aH}(h:kL fp F w v i):kL fp (fun b=>F b∧b≠z) w v i:=by
 cases i<;>first
  |exact h
  |(obtain⟨sp,h1,h2⟩:=h;exact⟨sp,h1,h2.off hz⟩)
  |(obtain⟨u,h1,⟨d,h2⟩,h3⟩:=h;exact⟨u,h1,⟨d,h2.off hz⟩,h3⟩)
theorem kH.off{tab:List eJ}(h:kH fp F w tab):kH fp (fun b=>F b∧b≠z) w tab:=fun k f hf=>by
 obtain⟨fb,gc,cap,cur,a1,a2,a3,a4,a5,a6⟩:=h k f hf;refine⟨fb,gc,cap,cur,a1,⟨a2,fun e=>by rw[e,hz] at a3;cases a3⟩,a3,⟨a4,fun e=>by rw[e,hz] at a5;cases a5⟩,a5,fun i hi=>?_⟩
 obtain⟨u,u1,u2⟩:=a6 i hi;exact⟨u,u1,u2.off hz⟩
end
theorem QV{lo d k:Nat}{fs:List aC}{tape:List Int}{r:cM × Nat}(v tv:Value)(w:World)(h:FSl (Btw lo w.heap.size) w v fs)(hfl:fs.length≤90000)(hok:∀f∈fs,jG fs d f)(hli:∀f∈fs,∀k∈f.kids,lO k)(hkl:∀f∈fs,f.kids.length≤90000)(hm:fI fs (cU fs [109,97,105,110])=some 0)
 (ht:TX w tv tape) (htl:tape.length≤1000000) (hp:kI w) (hU:iW (dK fs d)) (hk:dN (dK fs d) k (gG fs d tape)=some r) (hr:r.2≤1000):
 Calls Tryz.prog 70 #[v,tv] w fun e w'=>∃v',e=.returned v'∧Below w.heap.size w w'∧∃fp G,(∀b,G b→b<w'.heap.size)∧kH fp G w' (dK fs d)∧mX fp G w' v' ⟨0,r.1,bQ 0 r.2⟩:=by
 have hix:cU fs [109,97,105,110]<fs.length:=by
  unfold fI at hm;rcases Nat.lt_or_ge (cU fs [109,97,105,110]) fs.length with h|h
  ·exact h
  ·rw[List.getElem?_eq_none h] at hm;cases hm
 have hmem:[109,97,105,110]∈fs.map (·.text):=by
  have:=List.findIdx_getElem (p:=fun f:aC=>f.text==[109,97,105,110]) (xs:=fs) (w:=hix)
  exact List.mem_map.2 ⟨_,List.getElem_mem hix,eq_of_beq this⟩
 obtain⟨x0,c0,rfl⟩:∃x c,v=.slice x fs.length c:=by
  rcases h with ⟨rfl,rfl⟩|⟨g,cap,cur,us,rfl,_⟩
  ·exact⟨none,0,rfl⟩
  ·exact⟨_,_,rfl⟩
 obtain⟨x1,n1,c1,rfl⟩:∃x n c,tv=.slice x n c:=by
  rcases ht with ⟨_,rfl⟩|⟨g,o,c,rfl,_⟩
  ·exact⟨_,_,_,rfl⟩
  ·exact⟨_,_,_,rfl⟩
 generalize hf0:(dK fs d)[cU fs [109,97,105,110]]?.getD ⟨[],[]⟩=f0
 have hf0':(dK fs d)[cU fs [109,97,105,110]]?=some f0:=by
  rw[List.getElem?_eq_getElem (by simpa [dK] using hix)] at hf0 ⊢
  simpa using hf0
 have hms:gG fs d tape=⟨[⟨f0,0,0,[],[],[]⟩],tape,[]⟩:=by rw[←hf0];rfl
 have hAO:=sI hok hm tape
 have hMU:fL (gG fs d tape):=by
  rw[hms];intro f hf;simp at hf;subst hf;exact⟨hU _ (List.mem_of_getElem? hf0'),fun v hv=>by simp at hv,fun v hv=>by simp at hv⟩
 rw[hms] at hAO hMU hk;obtain⟨w1,hw1⟩:∃w1,w1=w.alloc (.cells #[.int .i64 0,.slice none 0 0,.slice none 0 0,.slice none 0 0,.int .i64 0] 108):=⟨_,rfl⟩;have hb1:Below w.heap.size w w1:=by rw[hw1];exact(Below.refl _ _).alloc (Nat.le_refl _) _
 have hs1:w1.heap.size=w.heap.size+1:=by rw[hw1];simp
 have hB1:w1.heap[w.heap.size]?=some (.cells #[.int .i64 0,.slice none 0 0,.slice none 0 0,.slice none 0 0,.int .i64 0] 108 (0,0)):=by rw[hw1];exact aR _ _ rfl _
 have hFS:FSl (Btw lo w1.heap.size) w1 (.slice x0 fs.length c0) fs:=h.grow (fun b hb=>hb1.block b hb.2) fun b hb=>⟨hb.1,by have:=hb.2;omega⟩
 refine(PO w x0 fs.length c0 x1 n1 c1 (fun v' w'=>Below w.heap.size w w'∧∃fp G,(∀b,G b→b<w'.heap.size)∧kH fp G w' (dK fs d)∧mX fp G w' v' ⟨0,r.1,bQ 0 r.2⟩)
  (fun p W=>∃fp F,p=fp (cU fs [109,97,105,110])∧kH fp F W (dK fs d)∧Below w1.heap.size w1 W∧∀k,F k→k<W.heap.size)
  (fun p gf tv' W=>∃fp F,p=fp (cU fs [109,97,105,110])∧kH fp F W (dK fs d)∧Below w1.heap.size w1 W∧(∀k,F k→k<W.heap.size∧k≠gf)∧w1.heap.size≤gf∧gf<W.heap.size∧W.heap[gf]?=some (.cells #[p,.int .i64 0,.int .i64 0,.pointer none,.slice none 0 0,.slice none 0 0] 195 (0,0))∧qA F W tv' tape∧∀k,F k→k≠w.heap.size)
  (fun b W=>∃fp F gf cap tv' outv fvs,Below w1.heap.size w1 W∧w1.heap.size≤b∧cO fp F w1.heap.size W b gf cap (.int .i64 ((0:Nat):Int)) tv' outv (.int .i64 (bQ 0 r.2)) fvs r.1∧kH fp F W (dK fs d)∧(∀k∈aF b gf outv fvs,w1.heap.size≤k)∧∀k,F k→k≠w.heap.size)
  ?_ (fun p W hq=>?_) (fun p gf x n c W hq=>?_) (fun b W hq=>?_))
 ·show Calls _ _ _ _ _
  rw[←hw1];refine(OC (lo:=lo) (d:=d) _ w1 hFS hfl hok hli hkl hmem).mono ?_;rintro e w' ⟨fp,F,he,hT,hb,hF⟩;obtain⟨p,hpp⟩:=(hT _ _ hf0').ptr;exact⟨p,by rw[he,hpp],fp,F,hpp.symm,hT,hb,hF⟩
 ·obtain⟨fp,F,hpe,hT,hb,hF⟩:=hq;have hzW:W.heap[w.heap.size]?=some (.cells #[.int .i64 0,.slice none 0 0,.slice none 0 0,.slice none 0 0,.int .i64 0] 108 (0,0)):=by rw[hb.block _ (by omega)];exact hB1
  have hT':=hT.off hzW;generalize hW':W.alloc (.cells #[.pointer p,.int .i64 0,.int .i64 0,.pointer none,.slice none 0 0,.slice none 0 0] 195)=W';have hbW:Below W.heap.size W W':=by rw[←hW'];exact(Below.refl _ _).alloc (Nat.le_refl _) _
  have hsW:W'.heap.size=W.heap.size+1:=by rw[←hW'];simp
  have hgW:W'.heap[W.heap.size]?=some (.cells #[.pointer p,.int .i64 0,.int .i64 0,.pointer none,.slice none 0 0,.slice none 0 0] 195 (0,0)):=by rw[←hW'];exact aR _ _ rfl _
  have hwW:Below w.heap.size w W':=hb1.trans ((hb.mono (by omega)).trans (hbW.mono (by have:=hb.size;omega)))
  have htW:TX W' (.slice x1 n1 c1) tape:=by
   rcases ht with ht|⟨g,o,c,e,hg,hc⟩
   ·exact Or.inl ht
   ·exact Or.inr ⟨g,o,c,e,Nat.lt_of_lt_of_le hg hwW.size,fun i hi=>⟨(hwW.cell (p:=⟨g,o+i,none⟩) hg).trans (hc i hi).1,(hc i hi).2⟩⟩
  obtain⟨x,n,c,e,hcl⟩:=CJ W' _ tape htW htl;rw[e];refine hcl.mono ?_;rintro e w' ⟨x',n',c',he,hb',htr⟩;have hbw:Below W.heap.size W w':=hbW.trans (hb'.mono (by omega))
  refine⟨x',n',c',he,fp,fun k=>(F k∧k≠w.heap.size)∨(W'.heap.size≤k∧k<w'.heap.size),hpe,hT'.keep (fun k hk=>hbw.block k (hF k hk.1)) fun _ h=>Or.inl h,hb.trans (hbw.mono hb.size),fun k hk=>?_,hb.size,by have:=hb'.size;omega,by rw[hb'.block _ (by omega)];exact hgW,htr.keep (fun _ _=>rfl) fun _ h=>Or.inr h,fun k hk=>by
   rcases hk with h1|h1
   ·exact h1.2
   ·have:=hb.size;omega⟩
  have:=hb'.size;rcases hk with h1|h1
  ·have:=hF k h1.1;omega
  ·omega
 ·obtain⟨fp,F,hpe,hT,hb,hF,hg1,hg2,hg3,htr,hFz⟩:=hq;generalize hW':W.alloc (.cells #[.int .i64 0,.slice (some ⟨gf,0,none⟩) 1 1,.slice x n c,.slice none 0 0,.int .i64 0] 108)=W';have hbW:Below W.heap.size W W':=by rw[←hW'];exact(Below.refl _ _).alloc (Nat.le_refl _) _
  have hsW:W'.heap.size=W.heap.size+1:=by rw[←hW'];simp
  have hgW:W'.heap[W.heap.size]?=some (.cells #[.int .i64 0,.slice (some ⟨gf,0,none⟩) 1 1,.slice x n c,.slice none 0 0,.int .i64 0] 108 (0,0)):=by rw[←hW'];exact aR _ _ rfl _
  have hTW:kH fp F W' (dK fs d):=hT.keep (fun k hk=>hbW.block k (hF k hk).1) fun _ h=>h
  have hown:aF W.heap.size gf (.slice none 0 0) [⟨.pointer p,.int .i64 0,.int .i64 0,.pointer none,.slice none 0 0,.slice none 0 0⟩]=[W.heap.size,gf]:=rfl;have hnil:lF F w1.heap.size W' (.slice none 0 0) []:=⟨⟨[],World.ownsRow_nil _ _ _ _,fR.nil _ _⟩,fun a ha=>by simp at ha⟩
  have hrun:cO fp F w1.heap.size W' W.heap.size gf 1 (.int .i64 ((0:Nat):Int)) (.slice x n c) (.slice none 0 0) (.int .i64 0) [⟨.pointer p,.int .i64 0,.int .i64 0,.pointer none,.slice none 0 0,.slice none 0 0⟩] ⟨[⟨f0,0,0,[],[],[]⟩],tape,[]⟩:=by
   refine⟨hgW,⟨rfl,Or.inr ⟨gf,1,_,rfl,hg1,by rw[hbW.block _ hg2];exact hg3,Nat.le_refl _,by unfold maxLen;omega,rfl,rfl⟩⟩,⟨⟨?_,rfl,rfl,rfl,hnil,hnil⟩,trivial⟩,htr.keep (fun k hk=>hbW.block k (hF k hk).1) fun _ h=>h,World.ownsRow_nil _ _ _ _,?_,?_,fun k hk=>?_⟩
   ·show YN fp F W' (.pointer p) f0
    rw[hpe];exact hTW _ _ hf0'
   ·rw[hown];simp;omega
   ·rw[hown];simp;omega
   ·rw[hown];have:=hF k hk;simp;omega
  have hb0:Below w1.heap.size w1 W':=hb.trans (hbW.mono hb.size);have hbw0:Below w.heap.size w W':=hb1.trans (hb0.mono (by omega))
  refine(MU (kP hok) hU hrun hTW (yG.of hp hbw0 fun k hk=>?_) hb0.size hAO hMU (by simp) (by simp;omega) hk (by omega) hr).mono ?_
  ·rw[hown] at hk;have:=hb.size;simp at hk;omega
  rintro e w' ⟨he,hd1,G,gf',cap',tv'',outv',fvs',d1,d2,d3⟩;rw[hown] at d3 hd1
  have hsub:∀x∈aF W.heap.size gf' outv' fvs',w1.heap.size≤x:=fun x hx=>by
   have:=hb.size;rcases d3 x hx with h1|h1
   ·simp at h1;omega
   ·omega
  have hlt:∀k∈[W.heap.size,gf],w1.heap.size≤k:=fun k hk=>by have:=hb.size;simp at hk;omega
  refine⟨he,fp,G,gf',cap',tv'',outv',fvs',hb0.trans (hd1.below hb0.size hlt),hb.size,d2,?_,hsub,fun k hk=>?_⟩
  ·refine hTW.keep (fun k hk=>hd1.block k (Nat.lt_of_lt_of_le (hF k hk).1 hbW.size) fun hm=>?_) d1.sub
   have:=hF k hk;simp at hm;omega
  ·rcases d1.new k hk with h1|h1
   ·exact hFz k h1
   ·have:=hb0.size;omega
 ·obtain⟨fp,F,gf,cap,tv',outv,fvs,g1,g2,g5,gT,g6,g7⟩:=hq;have hblk:=g5.blk;refine⟨_,_,_,_,_,hblk,⟨_,_,_,rfl⟩,?_,sH g5.out,by rw[g1.block _ (by omega)];exact hB1,by omega,fun W' hkp hsz=>?_⟩
  ·rcases g5.tape with ⟨_,x,c,e⟩|⟨g,o,c,e,_⟩<;>exact⟨_,_,_,e⟩
  ·have hb0:Below w.heap.size w W:=hb1.trans (g1.mono (by omega))
   have hS:=g5.kept (G:=fun k=>F k∨(k∈aF b gf outv fvs∧k≠b)) (fun _ h=>Or.inl h) (fun k hk' hn=>Or.inr ⟨hk',hn⟩)
   have hne1:∀k,(F k∨(k∈aF b gf outv fvs∧k≠b))→k≠w.heap.size∧k<W.heap.size:=fun k hk'=>by
    rcases hk' with h1|⟨h1,_⟩
    ·exact⟨g7 k h1,(g5.apart k h1).1⟩
    ·have:=g6 k h1;exact⟨by omega,g5.lt k h1⟩
   have hkk:∀k,(F k∨(k∈aF b gf outv fvs∧k≠b))→W'.heap[k]?=W.heap[k]?:=fun k hk'=>hkp.block k (hne1 k hk').2 (by simpa using (hne1 k hk').1)
   refine⟨⟨hkp.os.trans hb0.os,hkp.tape.trans hb0.tape,hkp.output.trans hb0.output,by rw[hsz];exact hb0.size,fun k hk'=>?_⟩,fp,fun k=>F k∨(k∈aF b gf outv fvs∧k≠b),fun k hk'=>by rw[hsz];exact(hne1 k hk').2,gT.keep (fun k hk'=>hkk k (Or.inl hk')) fun _ h=>Or.inl h,hS.keep hkk fun _ h=>h⟩
   rw[hkp.block k (Nat.lt_of_lt_of_le hk' hb0.size) (by simp;omega),hb0.block k hk']
def pW(x y:Int):Int:=if x<y then -1 else if x>y then 1 else 0
theorem N1{x y:Int}(h:¬x=y):¬pW x y=0:=by
 unfold pW;split
 ·omega
 ·split<;>omega
theorem FH(x:Int)(w:World):Calls Tryz.prog 280 #[.int .i64 x] w fun e w'=>e=.returned (.bool false)∧w'=w:=by
 go_enter Tryz.func280,Tryz.ntmps280;go_wp2_with fail;go_ret;exact⟨by simp,rfl⟩
theorem OD(x y:Int)(w:World):Calls Tryz.prog 225 #[.int .i64 x,.int .i64 y] w fun e w'=>e=.returned (.int .i64 (pW x y))∧w'=w:=by
 go_enter Tryz.func225,Tryz.ntmps225;go_wp2_with fail;refine(FH x w).mono ?_;rintro e w1 ⟨rfl,rfl⟩;go_wp2_with fail;refine(FH y w1).mono ?_;rintro e w2 ⟨rfl,rfl⟩;by_cases h1:x<y
 ·have hv:Hid (pW x y= -1):=by show _=_;unfold pW;rw[if_pos h1]
  go_wp2_with fail;go_ret;exact⟨by rw[hv.out];rfl,rfl⟩
 ·by_cases h2:y<x
  ·have hv:Hid (pW x y=1):=by show _=_;unfold pW;rw[if_neg h1,if_pos h2]
   go_wp2_with fail;go_ret;exact⟨by rw[hv.out];rfl,rfl⟩
  ·have hv:Hid (pW x y=0):=by show _=_;unfold pW;rw[if_neg h1,if_neg h2]
   go_wp2_with fail;go_ret;exact⟨by rw[hv.out];rfl,rfl⟩
theorem FQ(k key:Int)(a b c d e:Value)(w:World)(hb:∃x l c,b=.slice x l c)(hc:∃x l d,c=.slice x l d)(hd:∃x l c,d=.slice x l c)(ha:∃n,a=.int .i64 n)(he:∃n,e=.int .i64 n):
 Calls Tryz.prog 224 #[.agg #[.int .i64 k,a,b,c,d,e],.int .i64 key] w fun en w'=>en=.returned (.int .i64 (pW k key))∧w'=w.alloc (.cells #[.int .i64 k,a,b,c,d,e] 265):=by
 obtain⟨_,_,_,rfl⟩:=hb;obtain⟨_,_,_,rfl⟩:=hc;obtain⟨_,_,_,rfl⟩:=hd;obtain⟨_,rfl⟩:=ha;obtain⟨_,rfl⟩:=he;go_enter Tryz.func224,Tryz.ntmps224;go_wp2_with fail;refine(OD k key _).mono ?_;rintro e w1 ⟨rfl,rfl⟩;go_wp2_with fail;go_ret;exact⟨rfl,rfl⟩
theorem Q8(a b:Value)(W:World):(callFunc 224 #[a,b]).run Tryz.prog W=.ok (.enter 224 #[a,b]) W:=by kernel_rfl
structure Ent where
 k:Int
 a:Int
 b:Value
 c:Value
 d:Value
 e:Int
def Ent.cells(x:Ent):List Value:=[.int .i64 x.k,.int .i64 x.a,x.b,x.c,x.d,.int .i64 x.e]
def iM:List Ent→List Value
 |[]=>[]
 |x::l=>x.cells++iM l
structure Ent.Ok(x:Ent):Prop where
 b:∃y l c,x.b=.slice y l c
 c:∃y l c,x.c=.slice y l c
 d:∃y l c,x.d=.slice y l c
def G3(w:World)(g:Nat)(es:List Ent):Prop:=∀i (h:i<es.length),es[i].Ok∧w.cell? ⟨g,i*6,none⟩=some (.int .i64 es[i].k)∧w.cell? ⟨g,i*6+1,none⟩=some (.int .i64 es[i].a)∧w.cell? ⟨g,i*6+2,none⟩=some es[i].b∧w.cell? ⟨g,i*6+3,none⟩=some es[i].c∧w.cell? ⟨g,i*6+4,none⟩=some es[i].d∧w.cell? ⟨g,i*6+5,none⟩=some (.int .i64 es[i].e)
structure Found(es:List Ent)(key:Int)(at_:Nat)(found:Bool):Prop where
 le:at_≤es.length
 lo:∀i (h:i<es.length),i<at_→es[i].k<key
 hi:∀i (h:i<es.length),at_≤i→key≤es[i].k
 fnd:found=true↔∃h:at_<es.length,es[at_].k=key
theorem PZ(g cap:Nat)(es:List Ent)(key:Int)(w:World)(hl:es.length≤100000)(hg:g<w.heap.size)(he:G3 w g es)(hs:∀i j (hi:i<es.length) (hj:j<es.length),i≤j→es[i].k≤es[j].k):
 Calls Tryz.prog 223 #[.slice (some ⟨g,0,none⟩) es.length cap,.int .i64 key,.func (.func 224) #[] #[]] w fun e w'=>∃at_ fd,e=.returned (.tuple #[.int .i64 (at_:Nat),.bool fd])∧Below w.heap.size w w'∧Found es key at_ fd:=by
 have HE:=aB he;have HS:=aB hs;clear he hs;have hcf:=Q8;go_enter Tryz.func223,Tryz.ntmps223;go_wp2_with fail;go_loopg [9,10,11] es.length (fun gk iv jv _ wr=>∃i j:Nat,iv=.int .i64 i∧jv=.int .i64 j∧i≤j∧j≤es.length∧j-i≤gk∧Below w.heap.size w wr∧(∀k (h:k<es.length),k<i→es[k].k<key)∧(∀k (h:k<es.length),j≤k→key≤es[k].k))
 case atStart=>exact⟨0,es.length,rfl,rfl,by omega,by omega,by omega,Below.refl _ _,fun k h h'=>by omega,fun k h h'=>by omega⟩
 case round=>
  obtain⟨i,j,rfl,rfl,hij,hj,hgk,hb,hlo,hhi⟩:=hrel;by_cases hlt:i<j
  ·have HH:=aB (And.intro hlo hhi);have hm:(i+j)/2<es.length:=by omega
   obtain⟨o0,o1,o2,o3,o4,o5,o6⟩:=HE.out _ hm;have cel:∀o u,w.cell? ⟨g,o,none⟩=some u→wr.cell? ⟨g,o,none⟩=some u:=fun o u hu=>by rw[hb.cell (p:=⟨g,o,none⟩) hg];exact hu
   have o1:=cel _ _ o1;have o2:=cel _ _ o2;have o3:=cel _ _ o3;have o4:=cel _ _ o4;have o5:=cel _ _ o5;have o6:=cel _ _ o6;have hgr:g<wr.heap.size:=Nat.lt_of_lt_of_le hg hb.size;have HB:=aB hb;have HSM:Hid (∀k (h:k<es.length),(k≤(i+j)/2→es[k].k≤es[(i+j)/2].k)∧((i+j)/2≤k→es[(i+j)/2].k≤es[k].k)):=fun k h=>⟨fun h'=>HS.out _ _ h hm h',fun h'=>HS.out _ _ hm h h'⟩
   obtain⟨y1,l1,d1,f1⟩:=o0.b;obtain⟨y2,l2,d2,f2⟩:=o0.c;obtain⟨y3,l3,d3,f3⟩:=o0.d;rw[f1] at o3;rw[f2] at o4;rw[f3] at o5;generalize es[(i+j)/2].k=mk at*;generalize es[(i+j)/2].a=ma at*;generalize es[(i+j)/2].e=me at*;clear hlo hhi hb f1 f2 f3 cel;have HF:=aB (FQ mk key (.int .i64 ma) (.slice y1 l1 d1) (.slice y2 l2 d2) (.slice y3 l3 d3) (.int .i64 me) wr ⟨_,_,_,rfl⟩ ⟨_,_,_,rfl⟩ ⟨_,_,_,rfl⟩ ⟨_,rfl⟩ ⟨_,rfl⟩);go_wp2_with fail;refine HF.out.mono ?_;rintro e w1 ⟨rfl,rfl⟩;have HB1:=aB (HB.out.trans (((Below.refl _ wr).alloc (Nat.le_refl _) (.cells #[.int .i64 mk,.int .i64 ma,.slice y1 l1 d1,.slice y2 l2 d2,.slice y3 l3 d3,.int .i64 me] 265)).mono HB.out.size));clear HB HF o1 o2 o3 o4 o5 o6;by_cases hk:mk<key
   ·have hv:pW mk key= -1:=by unfold pW;rw[if_pos hk]
    rw[hv];have HK:=aB hk;clear hk hv;go_wp2_with fail;go_roundg ((gk-1))
    case measure=>omega
    case rel=>
     refine⟨(i+j)/2+1,j,by go_num,rfl,by omega,hj,by omega,HB1.out,fun k h h'=>?_,HH.out.2⟩
     exact Int.lt_of_le_of_lt ((HSM.out k h).1 (by omega)) HK.out
   ·have hv:0≤pW mk key:=by unfold pW;rw[if_neg hk];split<;>omega
    have HK:=aB hk;clear hk;go_wp2_with fail;go_roundg (gk-1)
    case measure=>omega
    case rel=>
     refine⟨i,(i+j)/2,rfl,by go_num,by omega,by omega,by omega,HB1.out,HH.out.1,fun k h h'=>?_⟩
     have:=(HSM.out k h).2 h';have:=HK.out;omega
  ·obtain rfl:i=j:=by omega
   by_cases hn:i<es.length
   ·have HH:=aB (And.intro hlo hhi);obtain⟨o0,o1,o2,o3,o4,o5,o6⟩:=HE.out _ hn;have cel:∀o u,w.cell? ⟨g,o,none⟩=some u→wr.cell? ⟨g,o,none⟩=some u:=fun o u hu=>by rw[hb.cell (p:=⟨g,o,none⟩) hg];exact hu
    have o1:=cel _ _ o1;have o2:=cel _ _ o2;have o3:=cel _ _ o3;have o4:=cel _ _ o4;have o5:=cel _ _ o5;have o6:=cel _ _ o6;have hgr:g<wr.heap.size:=Nat.lt_of_lt_of_le hg hb.size;have HB:=aB hb;obtain⟨y1,l1,d1,f1⟩:=o0.b;obtain⟨y2,l2,d2,f2⟩:=o0.c;obtain⟨y3,l3,d3,f3⟩:=o0.d;rw[f1] at o3;rw[f2] at o4;rw[f3] at o5;obtain⟨mk,hmk⟩:∃mk,mk=es[i].k:=⟨_,rfl⟩;rw[←hmk] at o1;have HMK:=aB hmk;generalize es[i].a=ma at*;generalize es[i].e=me at*;clear hlo hhi hb f1 f2 f3 cel hmk o0 HE HS;have HF:=aB (FQ mk key (.int .i64 ma) (.slice y1 l1 d1) (.slice y2 l2 d2) (.slice y3 l3 d3) (.int .i64 me) wr ⟨_,_,_,rfl⟩ ⟨_,_,_,rfl⟩ ⟨_,_,_,rfl⟩ ⟨_,rfl⟩ ⟨_,rfl⟩);go_wp2_with fail;refine HF.out.mono ?_;rintro e w1 ⟨rfl,rfl⟩;have HB1:=aB (HB.out.trans (((Below.refl _ wr).alloc (Nat.le_refl _) (.cells #[.int .i64 mk,.int .i64 ma,.slice y1 l1 d1,.slice y2 l2 d2,.slice y3 l3 d3,.int .i64 me] 265)).mono HB.out.size));clear HB HF o1 o2 o3 o4 o5 o6;by_cases hk:mk=key
    ·have hv:pW mk key=0:=by unfold pW;rw[if_neg (by omega),if_neg (by omega)]
     rw[hv];have HK:=aB hk;clear hk hv;go_wp2_with fail;go_ret2
     refine⟨i,true,rfl,HB1.out,Nat.le_of_lt hn,HH.out.1,HH.out.2,?_⟩;simp only[true_iff];exact⟨hn,HMK.out.symm.trans HK.out⟩
    ·have hv:(pW mk key==0)=false:=by simpa using N1 hk
     have HK:=aB hk;clear hk;go_wp2_with fail;go_ret2
     refine⟨i,false,rfl,HB1.out,Nat.le_of_lt hn,HH.out.1,HH.out.2,?_⟩;simp only[Bool.false_eq_true,false_iff];rintro⟨_,e⟩;exact HK.out (HMK.out.trans e)
   ·have HH:=aB (And.intro hlo hhi);have HB:=aB hb;clear hlo hhi hb HE HS;go_wp2_with fail;go_ret2
    refine⟨i,false,rfl,HB.out,by omega,HH.out.1,HH.out.2,?_⟩
    simp only[Bool.false_eq_true,false_iff];rintro⟨h,_⟩;omega
theorem PY(key:Int)(w:World):
 Calls Tryz.prog 223 #[.slice none 0 0,.int .i64 key,.func (.func 224) #[] #[]] w fun e w'=>e=.returned (.tuple #[.int .i64 0,.bool false])∧w'=w:=by
 go_enter Tryz.func223,Tryz.ntmps223;go_wp2_with fail;go_loopg [9,10,11] 0 (fun _ iv jv _ wr=>iv=.int .i64 0∧jv=.int .i64 0∧wr=w)
 case atStart=>exact⟨rfl,rfl,rfl⟩
 case round=>
  obtain⟨rfl,rfl,rfl⟩:=hrel;go_wp2_with fail;go_ret2
  exact⟨rfl,rfl⟩
theorem L3:(Tryz.prog.info? 265).map (fun i=>(i.zero,i.size,i.bytes))=some (some (.agg #[.int .i64 0,.int .i64 0,.slice none 0 0,.slice none 0 0,.slice none 0 0,.int .i64 0]),6,96):=by kernel_rfl
theorem FP(w:World)(sb:Nat)(x:Option Addr)(n c:Nat)(key:Int)(P:Int→Bool→World→Prop)(hc:w.cell? ⟨sb,5,none⟩=some (.slice x n c))
 (HS:Hid (Calls Tryz.prog 223 #[.slice x n c,.int .i64 key,.func (.func 224) #[] #[]] w fun e w'=>∃a f,e=.returned (.tuple #[.int .i64 a,.bool f])∧P a f w')):
 Calls Tryz.prog 162 #[.pointer (some ⟨sb,5,none⟩),.int .i64 key] w fun e w'=>∃a f,e=.returned (.tuple #[.int .i64 a,.bool f])∧P a f w':=by
 go_enter Tryz.func162,Tryz.ntmps162;go_wp2_with fail;refine HS.out.mono ?_;rintro e w1 ⟨a,f,rfl,h1⟩;have H1:=aB h1;clear h1;go_wp2_with fail;go_ret2
 exact⟨a,f,rfl,H1.out⟩
theorem AV(w:World)(sb g n cap at_:Nat)(key a e:Int)(x1 x2 x3:Option Addr)(n1 n2 n3 c1 c2 c3:Nat)(P Q:World→Prop)(hat:at_<n)
 (HF:Hid (Calls Tryz.prog 162 #[.pointer (some ⟨sb,5,none⟩),.int .i64 key] (w.alloc (.cells #[.int .i64 a,.slice x1 n1 c1,.slice x2 n2 c2,.slice x3 n3 c3,.int .i64 e] 108)) fun en w'=>en=.returned (.tuple #[.int .i64 at_,.bool true])∧Q w'))
 (HQ:Hid (∀W,Q W→sb<W.heap.size∧W.cell? ⟨sb,5,none⟩=some (.slice (some ⟨g,0,none⟩) n cap)∧g<W.heap.size∧(∃cur,W.heap[g]?=some (.cells cur 265 (0,0))∧at_*6+5<cur.size)∧W.heap[w.heap.size]?=some (.cells #[.int .i64 a,.slice x1 n1 c1,.slice x2 n2 c2,.slice x3 n3 c3,.int .i64 e] 108 (0,0))∧
   ∀W',aW (((((W.setCell ⟨g,at_*6+1,none⟩ (.int .i64 a)).setCell ⟨g,at_*6+2,none⟩ (.slice x1 n1 c1)).setCell ⟨g,at_*6+3,none⟩ (.slice x2 n2 c2)).setCell ⟨g,at_*6+4,none⟩ (.slice x3 n3 c3)).setCell ⟨g,at_*6+5,none⟩ (.int .i64 e)) W'→P W')):
 Calls Tryz.prog 126 #[.pointer (some ⟨sb,5,none⟩),.int .i64 key,.agg #[.int .i64 a,.slice x1 n1 c1,.slice x2 n2 c2,.slice x3 n3 c3,.int .i64 e]] w fun en w'=>en=.returned (.tuple #[])∧P w':=by
 go_enter Tryz.func126,Tryz.ntmps126;go_wp2_with fail;refine HF.out.mono ?_;rintro en w1 ⟨rfl,h1⟩;obtain⟨q1,q2,q3,⟨cur,q4,q5⟩,q6,q7⟩:=HQ.out _ h1;have HP:=aB q7;have k0:=aA q6 (i:=0) rfl;have k1:=aA q6 (i:=1) rfl;have k2:=aA q6 (i:=2) rfl;have k3:=aA q6 (i:=3) rfl;have k4:=aA q6 (i:=4) rfl;have hl:=aD q6;have hu:∀o,o≤at_*6+5→∃u,w1.cell? ⟨g,o,none⟩=some u:=fun o ho=>⟨cur[o]'(by omega),by rw[cell_of_row w1 g o cur _ _ q4];exact Array.getElem?_eq_getElem (by omega)⟩
 obtain⟨u1,m1⟩:=hu (at_*6+1) (by omega)
 obtain⟨u2,m2⟩:=hu (at_*6+2) (by omega)
 obtain⟨u3,m3⟩:=hu (at_*6+3) (by omega)
 obtain⟨u4,m4⟩:=hu (at_*6+4) (by omega)
 obtain⟨u5,m5⟩:=hu (at_*6+5) (by omega)
 have z1:=aE q4 (i:=at_*6+1);have z2:=aE q4 (i:=at_*6+2);have z3:=aE q4 (i:=at_*6+3);have z4:=aE q4 (i:=at_*6+4);have z5:=aE q4 (i:=at_*6+5);have e1:(0:Int)≤(at_:Int):=by omega
 have e2:(at_:Int)<(n:Int):=by omega
 clear h1 q4 q5 q6 q7 hu HQ;go_wp2_with fail;go_region
 all_goals
  go_wp2_with fail;go_end0;exact⟨rfl,HP.out _ (aW.drew _)⟩
theorem RL(w:World)(base b n:Nat)(v:Value)(xs:List Value)(key:Int)(hown:w.ownsRow base 265 6 v n xs)(hb:w.heap[b]?=some (.cells #[.int .i64 key,.int .i64 0,.slice none 0 0,.slice none 0 0,.slice none 0 0,.int .i64 0] 265 (0,0)))(hn:n≤100000)(hbase:base≤w.heap.size):
 Calls Tryz.prog 176 #[v,.int .i64 n,.slice (some ⟨b,0,none⟩) 1 1] w fun e w'=>∃g cap,e=.returned (.slice (some ⟨g,0,none⟩) (n+1) cap)∧w'.ownsRow base 265 6 (.slice (some ⟨g,0,none⟩) (n+1) cap) (n+1) (xs++[.int .i64 key,.int .i64 0,.slice none 0 0,.slice none 0 0,.slice none 0 0,.int .i64 0])∧w.grownBy w' v.ownBlock∧(v.ownBlock=some g∨g=w.heap.size):=by
 obtain⟨i0,hi,hz0,hz1,hz2⟩:=info_parts L3;obtain⟨x,c,rfl⟩:=cP hown;have HO:=aB hown;have HN:=aB (World.news_of_block hb);have hone:∀v∈([.int .i64 key,.int .i64 0,.slice none 0 0,.slice none 0 0,.slice none 0 0,.int .i64 0]:List Value),v.oneCell'=true:=fun v hv=>by simp at hv;rcases hv with rfl|rfl|rfl|rfl<;>rfl
 have HONE:=aB hone
 have hx:(x=none∧n=0∧c=0)∨(∃g,x=some ⟨g,0,none⟩∧n<c)∨∃g,x=some ⟨g,0,none⟩∧c=n:=by
  rcases hown.2 with ⟨r1,r2⟩|⟨g,cap,cur,r1,r2,r3,r4,_⟩
  ·cases r1;exact Or.inl ⟨rfl,rfl,rfl⟩
  ·cases r1;rcases Nat.eq_or_lt_of_le r4 with e|e
   ·exact Or.inr (Or.inr ⟨g,rfl,e.symm⟩)
   ·exact Or.inr (Or.inl ⟨g,rfl,e⟩)
 clear hown hone hb;rcases hx with ⟨rfl,rfl,rfl⟩|⟨g0,rfl,hnc⟩|⟨g0,rfl,rfl⟩
 all_goals
  go_enter Tryz.func176,Tryz.ntmps176;go_wp2_with (at_builtin;refine wpList_append_lies _ (by rfl) _ _ 109 (by rfl) base 265 i0 _ 6 96 Tryz.underlying109 hi hz0 hz1 hz2 rfl (by decide) _ _ xs (by rfl) HO.out ⟨b,0,none⟩ 1 1 [.int .i64 key,.int .i64 0,.slice none 0 0,.slice none 0 0,.slice none 0 0,.int .i64 0] (by rfl) (by rfl) (HN.out) HONE.out (by decide) (by unfold maxLen;omega) (by omega) hbase w.heap.size rfl ?_)
  intro g4 cap4 w4 hown4 hgrow4 hat4 hg4;have H4:=aB (And.intro hown4 (And.intro hgrow4 hat4));clear hown4 hgrow4 hat4;go_wp2_with fail;go_ret;exact⟨g4,cap4,rfl,H4.out.1,H4.out.2.1,H4.out.2.2⟩
theorem IS(w:World)(sb n:Nat)(x:Option Addr)(c:Nat)(key a e:Int)(x1 x2 x3:Option Addr)(n1 n2 n3 c1 c2 c3:Nat)(P Q:World→Prop)(R:Nat→Nat→World→Prop)(hn:n≤100000)
 (HF:Hid (Calls Tryz.prog 162 #[.pointer (some ⟨sb,5,none⟩),.int .i64 key] (w.alloc (.cells #[.int .i64 a,.slice x1 n1 c1,.slice x2 n2 c2,.slice x3 n3 c3,.int .i64 e] 108)) fun en w'=>en=.returned (.tuple #[.int .i64 n,.bool false])∧Q w'))
 (HI:Hid (∀W,Q W→sb<W.heap.size∧W.cell? ⟨sb,5,none⟩=some (.slice x n c)∧Calls Tryz.prog 176 #[.slice x n c,.int .i64 n,.slice (some ⟨W.heap.size,0,none⟩) 1 1] (W.alloc (.cells #[.int .i64 key,.int .i64 0,.slice none 0 0,.slice none 0 0,.slice none 0 0,.int .i64 0] 265)) fun e w'=>∃g cap,e=.returned (.slice (some ⟨g,0,none⟩) (n+1) cap)∧R g cap w'))
 (HQ:Hid (∀g cap W,R g cap W→sb<W.heap.size∧g≠sb∧g≠w.heap.size∧sb≠w.heap.size∧(∃u,W.cell? ⟨sb,5,none⟩=some u)∧W.frozen? ⟨sb,5,none⟩=false∧g<W.heap.size∧(∃cur,W.heap[g]?=some (.cells cur 265 (0,0))∧n*6+5<cur.size)∧W.heap[w.heap.size]?=some (.cells #[.int .i64 a,.slice x1 n1 c1,.slice x2 n2 c2,.slice x3 n3 c3,.int .i64 e] 108 (0,0))∧
   ∀W',aW ((((((W.setCell ⟨sb,5,none⟩ (.slice (some ⟨g,0,none⟩) (n+1) cap)).setCell ⟨g,n*6+1,none⟩ (.int .i64 a)).setCell ⟨g,n*6+2,none⟩ (.slice x1 n1 c1)).setCell ⟨g,n*6+3,none⟩ (.slice x2 n2 c2)).setCell ⟨g,n*6+4,none⟩ (.slice x3 n3 c3)).setCell ⟨g,n*6+5,none⟩ (.int .i64 e)) W'→P W')):
 Calls Tryz.prog 126 #[.pointer (some ⟨sb,5,none⟩),.int .i64 key,.agg #[.int .i64 a,.slice x1 n1 c1,.slice x2 n2 c2,.slice x3 n3 c3,.int .i64 e]] w fun en w'=>en=.returned (.tuple #[])∧P w':=by
 go_enter Tryz.func126,Tryz.ntmps126;go_wp2_with fail;refine HF.out.mono ?_;rintro en w0 ⟨rfl,h0⟩;obtain⟨i1,i2,i3⟩:=HI.out _ h0;have HII:=aB i3;clear h0 i3 HI HF;go_wp2_with fail;refine HII.out.mono ?_;rintro en w1 ⟨g,cap,rfl,h1⟩;obtain⟨q1,g1,g2,g3,⟨v5,g4⟩,g5,q3,⟨cur,q4,q5⟩,q6,q7⟩:=HQ.out _ _ _ h1;have HP:=aB q7;have k0:=aA q6 (i:=0) rfl;have k1:=aA q6 (i:=1) rfl;have k2:=aA q6 (i:=2) rfl;have k3:=aA q6 (i:=3) rfl;have k4:=aA q6 (i:=4) rfl;have hl:=aD q6;have hu:∀o,o≤n*6+5→∃u,w1.cell? ⟨g,o,none⟩=some u:=fun o ho=>⟨cur[o]'(by omega),by rw[cell_of_row w1 g o cur _ _ q4];exact Array.getElem?_eq_getElem (by omega)⟩
 obtain⟨u1,m1⟩:=hu (n*6+1) (by omega)
 obtain⟨u2,m2⟩:=hu (n*6+2) (by omega)
 obtain⟨u3,m3⟩:=hu (n*6+3) (by omega)
 obtain⟨u4,m4⟩:=hu (n*6+4) (by omega)
 obtain⟨u5,m5⟩:=hu (n*6+5) (by omega)
 have z1:=aE q4 (i:=n*6+1);have z2:=aE q4 (i:=n*6+2);have z3:=aE q4 (i:=n*6+3);have z4:=aE q4 (i:=n*6+4);have z5:=aE q4 (i:=n*6+5);have e1:(0:Int)≤(n:Int):=by omega
 have e2:(n:Int)<((n+1:Nat):Int):=by omega
 have g1':¬sb=g:=fun e=>g1 e.symm
 have g2':¬w.heap.size=g:=fun e=>g2 e.symm
 have g3':¬w.heap.size=sb:=fun e=>g3 e.symm
 clear h1 q4 q5 q6 q7 hu HQ i1 i2 HII;go_wp2_with fail;go_region
 all_goals
  go_wp2_with fail;go_end0;exact⟨rfl,HP.out _ (aW.drew _)⟩
theorem yT(a e:Int)(x1 x2 x3:Option Addr)(n1 n2 n3 c1 c2 c3:Nat)(w:World):Calls Tryz.prog 106 #[.agg #[.int .i64 a,.slice x1 n1 c1,.slice x2 n2 c2,.slice x3 n3 c3,.int .i64 e]] w fun en w'=>en=.returned (.int .i64 a)∧w'=w.alloc (.cells #[.int .i64 a,.slice x1 n1 c1,.slice x2 n2 c2,.slice x3 n3 c3,.int .i64 e] 108):=by
 go_enter Tryz.func106,Tryz.ntmps106;go_wp2_with fail;go_ret;exact⟨rfl,rfl⟩
end Go.Proofs.YtblbkfdhjfppkaaGreatDoor
