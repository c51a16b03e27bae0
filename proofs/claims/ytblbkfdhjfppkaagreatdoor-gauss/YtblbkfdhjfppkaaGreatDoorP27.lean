/- Contracts of the program: compile: its walk. -/
import Derived.Test.YtblbkfdhjfppkaaGreatDoorP26
import Derived.Test.YtblbkfdhjfppkaaGreatDoorP21
import Derived.Test.YtblbkfdhjfppkaaGreatDoorP10
set_option maxRecDepth 100000
set_option maxHeartbeats 4000000
namespace Go.Proofs.YtblbkfdhjfppkaaGreatDoor
open Hs
open Go.RowKit
theorem L2:(Tryz.prog.info? 188).map (fun i=>(i.zero,i.size,i.bytes))=some (some (.pointer none),1,8):=by kernel_rfl
theorem JN(w:World)(g0 n cap:Nat)(P:Value→World→Prop)(I1:Nat→World→Prop)(I2:Nat→World→Prop)(hn:n≤1000000)
 (H0:Hid (I1 0 (w.alloc (.cells #[.slice none 0 0,.slice none 0 0,.pointer none] 276))))
 (H1:Hid (∀j W,I1 j W→j<n→w.heap.size<W.heap.size∧g0<W.heap.size∧∃l t x1 n1 c1 x2 n2 c2 x c xs cv sp,W.cell? ⟨g0,j*4,none⟩=some (.int .i64 l)∧W.cell? ⟨g0,j*4+1,none⟩=some (.string t)∧W.cell? ⟨g0,j*4+1+1,none⟩=some (.slice x1 n1 c1)∧W.cell? ⟨g0,j*4+1+1+1,none⟩=some (.slice x2 n2 c2)∧
   W.heap[w.heap.size]?=some (.cells #[.slice x j c,cv,sp] 276 (0,0))∧W.ownsRow (w.heap.size+1) 188 1 (.slice x j c) j xs∧
   ∀W3 g4 cap4 w4,W3=((W.alloc (.cells #[.int .i64 l,.string t,.slice x1 n1 c1,.slice x2 n2 c2] 215)).alloc (.cells #[.string t,.slice none 0 0] 250)).alloc (.cells #[.pointer (some ⟨W.heap.size+1,0,none⟩)] 188)→
    w4.ownsRow (w.heap.size+1) 188 1 (.slice (some ⟨g4,0,none⟩) (j+1) cap4) (j+1) (xs++[.pointer (some ⟨W.heap.size+1,0,none⟩)])→W3.grownBy w4 (Value.slice x j c).ownBlock→((Value.slice x j c).ownBlock=some g4∨g4=W.heap.size+3)→w4.heap[w.heap.size]?=some (.cells #[.slice x j c,cv,sp] 276 (0,0))→I1 (j+1) (w4.setCell ⟨w.heap.size,0,none⟩ (.slice (some ⟨g4,0,none⟩) (j+1) cap4))))
 (H12:Hid (∀W,I1 n W→I2 0 W))
 (H2:Hid (∀j W,I2 j W→j<n→w.heap.size<W.heap.size∧g0<W.heap.size∧∃l t x1 n1 c1 x2 n2 c2 g c fb,W.cell? ⟨g0,j*4,none⟩=some (.int .i64 l)∧W.cell? ⟨g0,j*4+1,none⟩=some (.string t)∧W.cell? ⟨g0,j*4+1+1,none⟩=some (.slice x1 n1 c1)∧W.cell? ⟨g0,j*4+1+1+1,none⟩=some (.slice x2 n2 c2)∧
   W.cell? ⟨w.heap.size,0,none⟩=some (.slice (some ⟨g,0,none⟩) n c)∧g<W.heap.size∧W.cell? ⟨g,j,none⟩=some (.pointer (some ⟨fb,0,none⟩))∧
   ∀W',aW (W.alloc (.cells #[.int .i64 l,.string t,.slice x1 n1 c1,.slice x2 n2 c2] 215)) W'→Calls Tryz.prog 173 #[.pointer (some ⟨w.heap.size,0,none⟩),.agg #[.int .i64 l,.string t,.slice x1 n1 c1,.slice x2 n2 c2]] W' fun e w'=>∃x n3 c3,e=.returned (.slice x n3 c3)∧
    w.heap.size<w'.heap.size∧(∃g2 c2,w'.cell? ⟨w.heap.size,0,none⟩=some (.slice (some ⟨g2,0,none⟩) n c2)∧g2<w'.heap.size∧w'.cell? ⟨g2,j,none⟩=some (.pointer (some ⟨fb,0,none⟩)))∧g<w'.heap.size∧w'.cell? ⟨g,j,none⟩=some (.pointer (some ⟨fb,0,none⟩))∧fb<w'.heap.size∧(∃u,w'.cell? ⟨fb,1,none⟩=some u)∧w'.frozen? ⟨fb,1,none⟩=false∧I2 (j+1) (w'.setCell ⟨fb,1,none⟩ (.slice x n3 c3))))
 (H3:Hid (∀W,I2 n W→Calls Tryz.prog 174 #[.pointer (some ⟨w.heap.size,0,none⟩),.string ⟨#[109,97,105,110]⟩] W fun e w'=>∃v,e=.returned (.pointer v)∧P (.pointer v) w')):
 Calls Tryz.prog 123 #[.slice (some ⟨g0,0,none⟩) n cap] w fun e w'=>∃v,e=.returned v∧P v w':=by
 obtain⟨i0,hi,hz0,hz1,hz2⟩:=info_parts L2;go_enter Tryz.func123,Tryz.ntmps123;go_wp2_with fail;go_loopg [5,10] n (fun gk _ i wr=>∃j:Nat,j+gk=n∧i=.int .i64 j∧I1 j wr)
 case atStart=>exact⟨0,by omega,rfl,H0.out⟩
 case round=>
  obtain⟨j,hj,rfl,hC⟩:=hrel;clear H0;by_cases hlt:j<n
  ·obtain⟨m,rfl⟩:∃m,gk=m+1:=⟨gk-1,by omega⟩
   obtain⟨hl0,hl1,l,t,x1,n1,c1,x2,n2,c2,x,c,xs,cv,sp,d1,d2,d3,d4,d5,d6,d7⟩:=H1.out _ _ hC hlt;have HO:=aB d6;have HB:=aB d5;have HK:=aB d7;have q0:wr.cell? ⟨w.heap.size,0,none⟩=some (.slice x j c):=aA d5 rfl;have e1:(0:Int)≤(j:Int):=by omega
   have e2:(j:Int)<(n:Int):=by omega
   clear hC d5 d6 d7 H1;have HN:Hid (∀W:World,W.heap[wr.heap.size+1+1]?=some (.cells #[.pointer (some ⟨wr.heap.size+1,0,none⟩)] 188 (0,0))→∀k v,([.pointer (some ⟨wr.heap.size+1,0,none⟩)]:List Value)[k]?=some v→W.cell? ((⟨wr.heap.size+1+1,0,none⟩:Addr).add k)=some v):=fun W hW k v hk=>World.news_of_block hW k v (by simpa using hk)
   have HL:Hid ((((wr.alloc (.cells #[.int .i64 l,.string t,.slice x1 n1 c1,.slice x2 n2 c2] 215)).alloc (.cells #[.string t,.slice none 0 0] 250)).alloc (.cells #[.pointer (some ⟨wr.heap.size+1,0,none⟩)] 188)).heap[wr.heap.size+1+1]?=some (.cells #[.pointer (some ⟨wr.heap.size+1,0,none⟩)] 188 (0,0))):=aR _ _ (by simp) _
   have hone:∀v∈([.pointer (some ⟨wr.heap.size+1,0,none⟩)]:List Value),v.oneCell'=true:=fun v hv=>by simp at hv;rw[hv];rfl
   have HONE:=aB hone;clear hone;go_wp2_with (at_builtin;refine wpList_append_lies _ (by rfl) _ _ 274 (by rfl) (w.heap.size+1) 188 i0 _ 1 8 Tryz.underlying274 hi hz0 hz1 hz2 rfl (by decide) (.slice x j c) j xs (by rfl) (((HO.out.alloc _).alloc _).alloc _) ⟨wr.heap.size+1+1,0,none⟩ 1 1 [_] (by rfl) (by rfl) (HN.out _ HL.out) HONE.out (by decide) (by unfold maxLen;omega) (by omega) (by simp;omega) (wr.heap.size+3) (by simp) ?_)
   intro g4 cap4 w4 hown4 hgrow4 hat4 hg4;have hne:some w.heap.size≠(Value.slice x j c).ownBlock:=fun e=>by have:=(HO.out.lt _ e.symm).1;omega
   have hblk4:w4.heap[w.heap.size]?=some (.cells #[.slice x j c,cv,sp] 276 (0,0)):=by
    rw[hgrow4.block _ (by simp;omega) hne,Below.heap_alloc _ _ _ (by simp;omega),Below.heap_alloc _ _ _ (by simp;omega),Below.heap_alloc _ _ _ hl0];exact HB.out
   have c0':w4.cell? ⟨w.heap.size,0,none⟩=some (.slice x j c):=aA hblk4 rfl;have f0':=aE hblk4 (i:=0);have hgl4:=aD hblk4;have HFIN:=aB (HK.out _ g4 cap4 w4 rfl hown4 hgrow4 hat4 hblk4);clear hown4 hgrow4 hat4 hblk4 hg4 q0 d1 d2 d3 d4;go_wp2_with fail;go_roundg m
   case measure=>omega
   case rel=>exact⟨j+1,by omega,by go_num,HFIN.out⟩
  ·have hjn:j=n:=by omega
   subst hjn;have HI2:=aB (H12.out _ hC);clear hC H12 H1;go_wp2_with fail;go_loopg [6,7,27] j (fun gk _ _ i wr=>∃k:Nat,k+gk=j∧i=.int .i64 k∧I2 k wr)
   case atStart=>exact⟨0,by omega,rfl,HI2.out⟩
   case round=>
    obtain⟨k,hj2,rfl,hC⟩:=hrel;clear HI2;by_cases hlt:k<j
    ·obtain⟨m,rfl⟩:∃m,gk=m+1:=⟨gk-1,by omega⟩
     obtain⟨hl0,hl1,l,t,x1,n1,c1,x2,n2,c2,g,c,fb,d1,d2,d3,d4,d5,d6,d7,d8⟩:=H2.out _ _ hC hlt;have HX:=aB (d8 _ (aW.drew _));have e1:(0:Int)≤(k:Int):=by omega
     have e2:(k:Int)<(j:Int):=by omega
     clear hC d8 H2 H3;go_wp2_with fail;go_region_law (go_simp;go_at_call 173;refine HX.out.mono ?_;rintro e w1 ⟨x,n3,c3,rfl,a1,⟨g2,c2',b1,b2,b3⟩,a3,a4,a5,⟨u,a6⟩,a7,a8⟩;have HF:=aB a8;clear a8)
     all_goals
      go_wp2_with fail;go_roundg m
      case measure=>omega
      case rel=>exact⟨k+1,by omega,by go_num,HF.out⟩
    ·have hkn:k=j:=by omega
     subst hkn;have HX:=aB (H3.out _ hC);clear hC H2 H3;go_wp2_with fail;refine HX.out.mono ?_;rintro e w1 ⟨v,rfl,h1⟩;have HF:=aB h1;clear h1;go_wp2_with fail;go_ret;exact⟨_,rfl,HF.out⟩
section
variable {fp:Nat→Value} {fb:Nat→Nat} {fs:List aC} {cb lo d:Nat} {F:Nat→Prop}
def CQ(fp:Nat→Value)(fb:Nat→Nat)(nms:List (List UInt8))(cb:Nat)(F:Nat→Prop)(w:World):Prop:=
 (∃fv cv sp,w.heap[cb]?=some (.cells #[fv,cv,sp] 276 (0,0))∧GB fp fb nms F w fv)∧∀k,F k→k<w.heap.size∧k≠cb
theorem FL(fs:List aC)(d:Nat){f b:aC}{ps:List aC}(hk:f.kids=ps++[b]):(fD fs d f).code=bF (bA fs d) (ps.map (·.text)).reverse b.kids 0++[.push (bB 0),.give]:=by simp[fD,hk]
theorem E7(hfn:fs.length≤1000000)(hfp:∀k,k<fs.length→fp k=.pointer (some ⟨fb k,0,none⟩)){w:World}(h:CQ fp fb (fs.map (·.text)) cb F w)(f:aC)(v:Value)(hv:yH (Btw lo cb) w v f)(hok:jG fs d f)(hli:∀k∈f.kids,lO k)(hkl:f.kids.length≤90000):
 Calls Tryz.prog 173 #[.pointer (some ⟨cb,0,none⟩),v] w fun e w'=>∃cv,e=.returned cv∧∃G sn,(∀k,F k→G k)∧CP fp fb (fs.map (·.text)) cb G w' ((fD fs d f).code.map some) sn∧w'.cell? ⟨cb,1,none⟩=some cv∧Below cb w w'∧∀k,F k→w'.heap[k]?=w.heap[k]?:=by
 obtain⟨⟨fv,cv0,sp0,hblk,hfun⟩,hfix⟩:=h;obtain⟨pv,bv,ps,b,rfl,hk,hps,hbo,hbk⟩:=hv;obtain⟨px,pc,rfl⟩:=hps.slice;obtain⟨bx,bc,rfl⟩:=hbk.sliceC;obtain⟨⟨ps',b',hk',hst,_⟩,hlen⟩:=hok
 obtain⟨rfl,hbb⟩:ps'=ps∧b'=b:=by
  rw[hk] at hk';have:=List.append_inj' hk' rfl;simp at this;exact⟨this.1.symm,this.2.symm⟩
 subst hbb;rw[FL fs d hk] at hlen ⊢
 simp only[List.length_append,List.length_cons,List.length_nil] at hlen;rw[hk] at hkl;simp only[List.length_append,List.length_cons,List.length_nil] at hkl;have hcb:=aD hblk;obtain⟨W0,hW0⟩:∃W0,W0=(w.setCell ⟨cb,1,none⟩ (.slice none 0 0)).setCell ⟨cb,2,none⟩ (.pointer none):=⟨_,rfl⟩;have hb0:Below cb w W0:=by rw[hW0];exact((Below.refl cb w).setCell (Nat.le_refl _) _).setCell (Nat.le_refl _) _
 have hsz:W0.heap.size=w.heap.size:=by rw[hW0];simp
 have hne0:∀k,k≠cb→W0.heap[k]?=w.heap[k]?:=fun k hk=>by rw[hW0,Below.heap_setCell _ _ _ _ hk,Below.heap_setCell _ _ _ _ hk]
 have hF0:∀k,F k→W0.heap[k]?=w.heap[k]?:=fun k hk=>hne0 k (hfix k hk).2
 have hblk0:W0.heap[cb]?=some (.cells #[fv,.slice none 0 0,.pointer none] 276 (0,0)):=by
  rw[hW0,aQ (aQ hblk)];rfl
 have hcp0:CP fp fb (fs.map (·.text)) cb F W0 [] []:=by
  refine⟨⟨fv,_,_,hblk0,⟨[],World.ownsRow_nil _ _ _ _,rfl,fun i o ho=>by simp at ho⟩,rfl,hfun.keep hF0 (fun _ h=>h) (by omega)⟩,fun k hk=>⟨by rw[hsz];exact(hfix k hk).1,(hfix k hk).2,?_⟩⟩
  rw[iI hblk0];simp[Value.ownBlock]
 obtain⟨hL1,hcp1⟩:=hcp0.new (.cells #[.int .i64 f.line,.string (bs f.text),.slice px ps'.length pc,.slice bx b'.kids.length bc] 215);rw[hsz] at hL1
 refine(YJ w cb f.line (bs f.text) px bx ps'.length pc b'.kids.length bc (fun cv w'=>∃G sn,(∀k,F k→G k)∧CP fp fb (fs.map (·.text)) cb G w' ((bF (bA fs d) (ps'.map fun a=>a.text).reverse b'.kids 0++[aH.push (bB 0),aH.give]).map some) sn∧w'.cell? ⟨cb,1,none⟩=some cv∧Below cb w w'∧∀k,F k→w'.heap[k]?=w.heap[k]?)
  (fun j W=>∃G,(∀k,F k→G k)∧CP fp fb (fs.map (·.text)) cb G W [] ((ps'.take j).map fun a=>a.text).reverse∧Loc cb W0 w.heap.size (.cells #[.int .i64 f.line,.string (bs f.text),.slice px ps'.length pc,.slice bx b'.kids.length bc] 215) W)
  (fun W=>∃G sn,(∀k,F k→G k)∧fU fp fb (fs.map (·.text)) cb G W0 ((bF (bA fs d) (ps'.map fun a=>a.text).reverse b'.kids 0).map some) sn W)
  (fun W=>∃G sn,(∀k,F k→G k)∧fU fp fb (fs.map (·.text)) cb G W0 ((bF (bA fs d) (ps'.map fun a=>a.text).reverse b'.kids 0).map some++[some (aH.push (bB 0))]) sn W)
  (fun W=>∃G sn,(∀k,F k→G k)∧fU fp fb (fs.map (·.text)) cb G W0 ((bF (bA fs d) (ps'.map fun a=>a.text).reverse b'.kids 0).map some++[some (aH.push (bB 0))]++[some aH.give]) sn W)
  hcb (by omega) ⟨_,aA hblk rfl⟩ ⟨_,aA hblk rfl⟩ (aE hblk) (aE hblk) ?_ (fun j W hq hj=>?_) (fun W hq=>?_) (fun W hq=>?_) (fun W hq=>?_) (fun W hq=>?_))
 ·show ∃G,_
  rw[←hW0];exact⟨F,fun _ h=>h,hcp1,hL1⟩
 ·obtain⟨G,hG,hcp,hL⟩:=hq;rcases hps.get with ⟨_,hnil⟩|⟨pg,pcap,hpe,hpF,hpl,hpc,hcell⟩
  ·rw[hnil] at hj;simp at hj
  cases hpe;obtain⟨hp1,hp2⟩:=hcell j hj;have hbW:Below cb w W:=hb0.trans hL.fb.bel;refine⟨pg,_,_,rfl,Nat.lt_of_lt_of_le (Nat.lt_trans hpF.2 hcb) hbW.size,(hbW.cell (p:=⟨pg,j*2,none⟩) hpF.2).trans hp1,(hbW.cell (p:=⟨pg,j*2+1,none⟩) hpF.2).trans hp2,?_⟩;obtain⟨hL2,hcp2⟩:=hcp.new (.cells #[.int .i64 ps'[j].line,.string (bs ps'[j].text)] 211);refine(TC ps'[j].text hcp2 (by simp;omega)).mono ?_
  rintro e w' ⟨he,q1,q2⟩;refine⟨he,fun k=>G k∨k=(W.alloc (.cells #[.int .i64 ps'[j].line,.string (bs ps'[j].text)] 211)).heap.size,fun k hk=>Or.inl (hG k hk),?_,hL.step (hL2.fb.trans q2)⟩
  have e9:((ps'.take (j+1)).map (·.text)).reverse=ps'[j].text::((ps'.take j).map (·.text)).reverse:=by
   rw[List.take_succ_eq_append_getElem hj,List.map_append,List.reverse_append];rfl
  rw[e9];exact q1
 ·obtain⟨G,hG,hcp,hL⟩:=hq;rw[List.take_of_length_le (Nat.le_refl _)] at hcp;have hbW:Below cb w W:=hb0.trans hL.fb.bel;refine⟨aA hL.blk rfl,aD hL.blk,?_⟩;refine(oO (TV hfn hfp d) _ b'.kids [] W hcp (hbk.below hbW) hst (fun a ha=>(hli b' (by rw[hk];simp)).kid ha) (hli b' (by rw[hk];simp)).len (by simp;omega) (by simp;omega)).mono ?_
  rintro e w' ⟨he,G2,hG2,hto⟩;exact⟨he,G2,_,fun k hk=>hG2 k (hG k hk),by simpa using hto.then hL.fb⟩
 ·obtain⟨G,sn,hG,hto⟩:=hq;refine(emits (i:=.push (bB 0)) hto ⟨_,rfl,PV.num _ _ _ (by omega) (by omega),by rw[jL];omega⟩ (by simp;omega)).mono ?_
  rintro e w' ⟨he,h2⟩;exact⟨he,G,sn,hG,h2⟩
 ·obtain⟨G,sn,hG,hto⟩:=hq;refine(emits (i:=.give) hto rfl (by simp;omega)).mono ?_
  rintro e w' ⟨he,h2⟩;exact⟨he,G,sn,hG,h2⟩
 ·obtain⟨G,sn,hG,hto⟩:=hq;obtain⟨fv',cv',sp',g1,⟨xs,g2,g3⟩,g4,g5⟩:=hto.1.blk;obtain⟨x,c,rfl⟩:=cP g2;refine⟨hto.1.lt,x,_,c,aA g1 rfl,G,sn,hG,?_,aA g1 rfl,hb0.trans hto.2.bel,fun k hk=>?_⟩
  ·have:=hto.1;simpa using this
  ·rw[hcp0.fixed hto.2 k hk,hF0 k hk]
end
def F5(w:World)(b:Nat):Prop:=∀c,w.heap[b]?≠some (.cells c 250 (0,0))
theorem eO.notFn{F:Nat→Prop}{w:World}:∀{l:List (List UInt8)} {v:Value},eO F w v l→eO (fun b=>F b∧F5 w b) w v l
 |[],_,h=>h
 |_::_,_,⟨b,o,h1,h2,h3,h4⟩=>⟨b,o,h1,⟨h2,fun c e=>by rw[h3] at e;cases e⟩,h3,eO.notFn h4⟩
theorem VR.notFn{F:Nat→Prop}{w:World}:∀{d:Nat} {v:Value} {a:aI},VR d F w v a→VR d (fun b=>F b∧F5 w b) w v a
 |0,_,_,h=>h.elim
 |d+1,v,a,h=>by
  rcases h with h|h|h|⟨sv,l,h1,h2,h3⟩
  ·exact Or.inl h
  ·exact Or.inr (Or.inl h)
  ·exact Or.inr (Or.inr (Or.inl h))
  ·refine Or.inr (Or.inr (Or.inr ⟨sv,l,h1,h2,?_⟩));rcases h3 with h3|⟨g,cap,cur,e1,e2,e3,e4,e5⟩
   ·exact Or.inl h3
   ·refine Or.inr ⟨g,cap,cur,e1,⟨e2,fun c e=>by rw[e3] at e;cases e⟩,e3,e4,fun i hi=>?_⟩
    obtain⟨u,k1,k2⟩:=e5 i hi;exact⟨u,k1,VR.notFn k2⟩
theorem kL.notFn{fp:Nat→Value}{F:Nat→Prop}{w:World}{v:Value}{i:aH}(h:kL fp F w v i):kL fp (fun b=>F b∧F5 w b) w v i:=by
 cases i<;>first
  |exact h
  |(obtain⟨sp,h1,h2⟩:=h;exact⟨sp,h1,h2.notFn⟩)
  |(obtain⟨u,h1,⟨d,h2⟩,h3⟩:=h;exact⟨u,h1,⟨d,h2.notFn⟩,h3⟩)
theorem kL.setFn{fp:Nat→Value}{F G:Nat→Prop}{w:World}{v u:Value}{i:aH}{b o:Nat}{c:Array Value}(h:kL fp F w v i)(hb:w.heap[b]?=some (.cells c 250 (0,0)))(hF:∀b,F b→G b):kL fp G (w.setCell ⟨b,o,none⟩ u) v i:=
 h.notFn.keep (fun k hk=>Below.heap_setCell _ _ _ _ fun e=>hk.2 c (by rw[e];exact hb)) fun k hk=>hF k hk.1
section
variable {fp:Nat→Value} {fb:Nat→Nat} {nms:List (List UInt8)} {cb:Nat} {F:Nat→Prop} {w:World}
theorem JR(name:List UInt8)(h:CQ fp fb nms cb F w)(hm:name∈nms)(hn:nms.length≤1000000):
 Calls Tryz.prog 174 #[.pointer (some ⟨cb,0,none⟩),.string (bs name)] w fun e w'=>e=.returned (fp (nms.findIdx fun x=>x==name))∧w'=w:=by
 obtain⟨⟨fv,cv,sp,h1,h5⟩,_⟩:=h;rcases h5 with ⟨rfl,_⟩|⟨g,cap,rfl,hFg,hcap,hgl,hall⟩
 ·cases hm
 have hl:=aD h1;have c0:w.cell? ⟨cb,0,none⟩=some (.slice (some ⟨g,0,none⟩) nms.length cap):=aA h1 rfl;have HA:=aB hall;clear h1 hall;go_enter Tryz.func174,Tryz.ntmps174;go_wp2_with fail;go_loopg [6,12] nms.length (fun gk _ i wr=>∃j:Nat,j+gk=nms.length∧i=.int .i64 j∧j≤nms.findIdx (fun x=>x==name)∧wr=w)
 case atStart=>exact⟨0,by omega,rfl,Nat.zero_le _,rfl⟩
 case round=>
  obtain⟨j,hj,rfl,hle,rfl⟩:=hrel;have hfi:nms.findIdx (fun x=>x==name)<nms.length:=List.findIdx_lt_length_of_exists ⟨name,hm,by simp⟩
  have hlt:j<nms.length:=by omega
  obtain⟨m,rfl⟩:∃m,gk=m+1:=⟨gk-1,by omega⟩
  obtain⟨e1,e2,e3,x,e4⟩:=HA.out j hlt;rw[e2] at e1;have d0:wr.cell? ⟨fb j,0,none⟩=some (.string (bs nms[j])):=aA e4 rfl;have hbl:=aD e4;have i1:(0:Int)≤(j:Int):=by omega
  have i2:(j:Int)<(nms.length:Int):=by omega
  by_cases hx:nms[j]=name
  ·have hje:nms.findIdx (fun x=>x==name)=j:=by
    refine Nat.le_antisymm (Nat.not_lt.1 fun hlt'=>?_) hle
    have:=List.not_of_lt_findIdx hlt';simp[hx] at this
   have E2:=aB e2;rw[hx] at d0;clear e4 e2 HA;go_wp2_with fail;go_ret;exact⟨by rw[hje,E2.out];rfl,rfl⟩
  ·have hne:((bs nms[j]).toList==(bs name).toList)=false:=by rw[bZ,bZ];simpa using hx
   have hle':j+1≤nms.findIdx (fun x=>x==name):=by
    rcases Nat.eq_or_lt_of_le hle with e|e
    ·have:=List.findIdx_getElem (w:=hfi);simp only[←e] at this;simp at this;exact absurd this hx
    ·exact e
   generalize nms[j]=y at*;clear e4 e2;go_wp2_with fail;go_roundg m
   case measure=>omega
   case rel=>exact⟨j+1,by omega,by go_num,hle',rfl⟩
end
def mV(bl:List Nat)(k:Nat):Nat:=bl[k]?.getD 0
def BA(bl:List Nat)(k:Nat):Value:=.pointer (some ⟨mV bl k,0,none⟩)
theorem nJ{bl:List Nat}{k:Nat}(h:k<bl.length):mV bl k=bl[k]:=by simp[mV,h]
def CI1(w:World)(fs:List aC)(j:Nat)(W:World):Prop:=
 ∃(x:Option Addr) (c:Nat) (bl:List Nat),j≤fs.length∧W.heap[w.heap.size]?=some (.cells #[.slice x j c,.slice none 0 0,.pointer none] 276 (0,0))∧bl.length=j∧W.ownsRow (w.heap.size+1) 188 1 (.slice x j c) j (bl.map fun b=>.pointer (some ⟨b,0,none⟩))∧bl.Nodup∧
  (∀i (h:i<fs.length),∀b,bl[i]?=some b→W.heap[b]?=some (.cells #[.string (bs fs[i].text),.slice none 0 0] 250 (0,0))∧w.heap.size<b∧b<W.heap.size∧(Value.slice x j c).ownBlock≠some b)∧Below w.heap.size w W
def CI2(w:World)(fs:List aC)(d j:Nat)(W:World):Prop:=
 ∃(bl:List Nat) (F:Nat→Prop),bl.length=fs.length∧(bl.Nodup∧∀b∈bl,w.heap.size<b)∧j≤fs.length∧CQ (BA bl) (mV bl) (fs.map (·.text)) w.heap.size F W∧Below w.heap.size w W∧∀i (h:i<fs.length),i<j→YN (BA bl) F W (BA bl i) (fD fs d fs[i])
theorem CI1.zero(w:World)(fs:List aC):CI1 w fs 0 (w.alloc (.cells #[.slice none 0 0,.slice none 0 0,.pointer none] 276)):=
 ⟨none,0,[],Nat.zero_le _,aR _ _ rfl _,rfl,World.ownsRow_nil _ _ _ _,List.nodup_nil,fun i h b hb=>by simp at hb,(Below.refl _ _).alloc (Nat.le_refl _) _⟩
theorem CI1.next{w W W3 w4:World}{fs:List aC}{j g4 cap4:Nat}{x:Option Addr}{c:Nat}{bl:List Nat}{o1 o3:Obj}(hj:j<fs.length)
 (hbl:bl.length=j) (hnd:bl.Nodup) (hall:∀i (h:i<fs.length),∀b,bl[i]?=some b→W.heap[b]?=some (.cells #[.string (bs fs[i].text),.slice none 0 0] 250 (0,0))∧w.heap.size<b∧b<W.heap.size∧(Value.slice x j c).ownBlock≠some b) (hbel:Below w.heap.size w W) (hlt:w.heap.size<W.heap.size)
 (hown:W.ownsRow (w.heap.size+1) 188 1 (.slice x j c) j (bl.map fun b=>.pointer (some ⟨b,0,none⟩)))
 (h3:W3=((W.alloc o1).alloc (.cells #[.string (bs fs[j].text),.slice none 0 0] 250)).alloc o3)
 (ho:w4.ownsRow (w.heap.size+1) 188 1 (.slice (some ⟨g4,0,none⟩) (j+1) cap4) (j+1) ((bl.map fun b=>.pointer (some ⟨b,0,none⟩))++[.pointer (some ⟨W.heap.size+1,0,none⟩)]))
 (hgr:W3.grownBy w4 (Value.slice x j c).ownBlock) (hat:(Value.slice x j c).ownBlock=some g4∨g4=W.heap.size+3)
 (hb4:w4.heap[w.heap.size]?=some (.cells #[.slice x j c,.slice none 0 0,.pointer none] 276 (0,0))):
 CI1 w fs (j+1) (w4.setCell ⟨w.heap.size,0,none⟩ (.slice (some ⟨g4,0,none⟩) (j+1) cap4)):=by
 have hs3:W3.heap.size=W.heap.size+3:=by rw[h3];simp
 have hsz:=hgr.size;have hgne:g4≠w.heap.size:=by have:=(ho.lt g4 rfl).1;omega
 have hb3:Below W.heap.size W W3:=by rw[h3];exact(((Below.refl _ _).alloc (Nat.le_refl _) _).alloc (by simp) _).alloc (by simp;omega) _
 refine⟨some ⟨g4,0,none⟩,cap4,bl++[W.heap.size+1],hj,?_,by simp[hbl],?_,?_,fun i hi b hb=>?_,?_⟩
 ·rw[aQ hb4];rfl
 ·rw[List.map_append];exact aY ho fun k hk=>Below.heap_setCell _ _ _ _ (by cases hk;exact hgne)
 ·refine List.nodup_append.2 ⟨hnd,by simp,fun a ha b hb=>?_⟩
  simp at hb;obtain⟨i,hi,rfl⟩:=List.getElem_of_mem ha;have:=(hall i (by omega) _ (List.getElem?_eq_getElem hi)).2.2.1
  omega
 ·rcases Nat.lt_or_ge i bl.length with hib|hib
  ·rw[List.getElem?_append_left hib] at hb;obtain⟨e1,e2,e3,e4⟩:=hall i hi b hb;refine⟨?_,e2,by simp;omega,fun e=>?_⟩
   ·rw[Below.heap_setCell _ _ _ _ (show b≠w.heap.size by omega),hgr.block b (by omega) (fun e=>e4 e.symm),hb3.block b e3];exact e1
   ·have e':g4=b:=by simpa [Value.ownBlock] using e
    rcases hat with h|h
    ·exact e4 (by rw[←e'];exact h)
    ·omega
  ·rw[List.getElem?_append_right hib] at hb
   have hij:i=j:=by
    rcases Nat.eq_or_lt_of_le hib with h|h
    ·omega
    ·rw[List.getElem?_eq_none (by simp;omega)] at hb;cases hb
   subst hij;rw[hbl,Nat.sub_self] at hb;simp at hb;subst hb;have hown':(Value.slice x i c).ownBlock≠some (W.heap.size+1):=fun e=>by have:=(hown.lt _ e).2;omega
   refine⟨?_,by omega,by simp;omega,fun e=>?_⟩
   ·rw[Below.heap_setCell _ _ _ _ (show W.heap.size+1≠w.heap.size by omega),hgr.block _ (by omega) (fun e=>hown' e.symm),h3,Below.heap_alloc _ _ _ (by simp)]
    exact aR _ _ (by simp) _
   ·have e':g4=W.heap.size+1:=by simpa [Value.ownBlock] using e
    rcases hat with h|h
    ·exact hown' (by rw[←e'];exact h)
    ·omega
 ·refine((hbel.trans (hb3.mono (by omega))).trans ?_).setCell (Nat.le_refl _) _
  exact⟨hgr.os,hgr.tape,hgr.output,by omega,fun k hk=>hgr.block k (by omega) (fun e=>by have:=(hown.lt k e.symm).1;omega)⟩
theorem TJ(fs:List aC)(k:Nat)(h:k<(fs.map (·.text)).length):(fs.map (·.text))[k]=(fs[k]'(by simpa using h)).text:=by simp
theorem yL(g j:Nat):(⟨g,0,none⟩:Addr).add j=⟨g,j,none⟩:=by unfold Addr.add;split<;>simp_all
theorem CI2.zero{w W:World}{fs:List aC}{d:Nat}(hne:fs≠[])(h:CI1 w fs fs.length W):CI2 w fs d 0 W:=by
 obtain⟨x,c,bl,_,h1,h2,h3,h4,h5,h6⟩:=h;have hpos:0<fs.length:=List.length_pos_iff.2 hne;have hrow:=h3;rcases h3.2 with ⟨r1,r2⟩|⟨g,cap,cur,r1,r2,r3,r4,r5⟩
 ·omega
 obtain⟨rfl,rfl⟩:x=some ⟨g,0,none⟩∧c=cap:=by simpa using r1
 have hgl:=hrow.lt g rfl;refine⟨bl,fun k=>k=g∨k∈bl,h2,⟨h4,fun b hb=>?_⟩,Nat.zero_le _,⟨⟨_,_,_,h1,Or.inr ⟨g,c,by simp,Or.inl rfl,by simp;exact r4,hgl.2,fun k hk=>?_⟩⟩,fun k hk=>?_⟩,h6,fun i _ hi=>by omega⟩
 ·obtain⟨i,hi,rfl⟩:=List.getElem_of_mem hb;exact(h5 i (by omega) bl[i] (List.getElem?_eq_getElem hi)).2.1
 ·have hk':k<fs.length:=by simpa using hk
  have hkb:k<bl.length:=by omega
  obtain⟨e1,e2,e3,e4⟩:=h5 k hk' bl[k] (List.getElem?_eq_getElem hkb);refine⟨?_,rfl,Or.inr (by rw[nJ hkb];exact List.getElem_mem hkb),_,by rw[nJ hkb,e1,TJ]⟩
  have:=hrow.cells (g:=g) rfl k (BA bl k) (by simp[BA,nJ hkb,hkb])
  rw[yL] at this;exact this
 ·rcases hk with rfl|hk
  ·exact⟨hgl.2,by omega⟩
  ·obtain⟨i,hi,rfl⟩:=List.getElem_of_mem hk;obtain⟨e1,e2,e3,e4⟩:=h5 i (by omega) bl[i] (List.getElem?_eq_getElem hi)
   exact⟨e3,by omega⟩
theorem CI2.next{w W w1:World}{fs:List aC}{d j:Nat}{bl:List Nat}{F G:Nat→Prop}{sn:List (List UInt8)}{cv:Value}(hj:j<fs.length)(hbl:bl.length=fs.length)(hnd:bl.Nodup∧∀b∈bl,w.heap.size<b)(hbel:Below w.heap.size w W)(hold:∀i (h:i<fs.length),i<j→YN (BA bl) F W (BA bl i) (fD fs d fs[i]))
 (hFG:∀k,F k→G k) (hcp:CP (BA bl) (mV bl) (fs.map (·.text)) w.heap.size G w1 ((fD fs d fs[j]).code.map some) sn) (hcv:w1.cell? ⟨w.heap.size,1,none⟩=some cv) (hb1:Below w.heap.size W w1) (hF:∀k,F k→w1.heap[k]?=W.heap[k]?) (hpos:0<(fD fs d fs[j]).code.length):
 CI2 w fs d (j+1) (w1.setCell ⟨mV bl j,1,none⟩ cv):=by
 have hjb:j<bl.length:=by omega
 obtain⟨fv,cv',sp,h1,⟨xs,h2,h3⟩,h4,h5⟩:=hcp.blk
 obtain rfl:cv'=cv:=by
  have:=aA h1 (i:=1) rfl;rw[hcv] at this;exact(Option.some.inj this).symm
 have hjn:j<(fs.map (·.text)).length:=by simpa using hj
 rcases h5 with ⟨e,_⟩|⟨g,cap,rfl,k1,k2,k3,k4⟩
 ·rw[e] at hjn;simp at hjn
 obtain⟨m1,m2,m3,x,m4⟩:=k4 j hjn;have hfj:=hcp.fix _ m3;rcases h2.2 with ⟨_,r2⟩|⟨gc,cap',cur,rfl,r2,r3,r4,r5,r6,r7⟩
 ·rw[List.length_map] at r2;omega
 have hgc:gc≠mV bl j:=fun e=>by rw[e,m4] at r3;cases r3
 have hgfb:∀k (h:k<(fs.map (·.text)).length),g≠mV bl k:=fun k hk e=>by
  obtain⟨z1,z2,z3,z,z4⟩:=k4 k hk;obtain⟨y1,_⟩:=k4 0 (by omega)
  have:=aA z4 (i:=0) rfl;rw[←e,y1] at this;cases this
 have hkp:∀k,k≠mV bl j→(w1.setCell ⟨mV bl j,1,none⟩ (.slice (some ⟨gc,0,none⟩) ((fD fs d fs[j]).code.map some).length cap')).heap[k]?=w1.heap[k]?:=fun k hk=>Below.heap_setCell _ _ _ _ hk
 have hjs:(w1.setCell ⟨mV bl j,1,none⟩ (.slice (some ⟨gc,0,none⟩) ((fD fs d fs[j]).code.map some).length cap')).heap[mV bl j]?=some (.cells #[.string (bs (fs.map (·.text))[j]),.slice (some ⟨gc,0,none⟩) ((fD fs d fs[j]).code.map some).length cap'] 250 (0,0)):=by
  rw[aQ m4];rfl
 have hdist:∀i (hi:i<bl.length),i≠j→mV bl i≠mV bl j:=fun i hi hij e=>by
  rw[nJ hi,nJ hjb] at e;exact hij ((List.getElem_inj hnd.1).1 e)
 refine⟨bl,fun k=>G k∨k=gc,hbl,hnd,hj,⟨⟨_,_,_,by rw[hkp _ (fun e=>hfj.2.1 e.symm)];exact h1,Or.inr ⟨g,cap,rfl,Or.inl k1,k2,by simpa using k3,fun k hk=>?_⟩⟩,fun k hk=>?_⟩,?_,fun i hi hij=>?_⟩
 ·obtain⟨z1,z2,z3,z,z4⟩:=k4 k hk;refine⟨?_,z2,Or.inl z3,?_⟩
  ·rw[World.cell?_of_block (hkp g (hgfb j hjn))];exact z1
  ·by_cases hkj:k=j
   ·subst hkj;exact⟨_,hjs⟩
   ·exact⟨z,by rw[hkp _ (hdist k (by simp at hk;omega) hkj)];exact z4⟩
 ·rcases hk with hk|rfl
  ·have:=hcp.fix k hk;exact⟨by simpa using this.1,this.2.1⟩
  ·have:=h2.lt k rfl;exact⟨by simpa using this.2,by omega⟩
 ·exact(hbel.trans hb1).setCell (Nat.le_of_lt (by show w.heap.size<mV bl j;rw[nJ hjb];exact hnd.2 _ (List.getElem_mem hjb))) _
 ·by_cases hij':i=j
  ·subst hij';refine⟨mV bl i,gc,cap',cur,rfl,Or.inl m3,?_,Or.inr rfl,by rw[hkp _ hgc];exact r3,fun q hq=>?_⟩
   ·rw[hjs,TJ];simp only[List.length_map];rfl
   ·obtain⟨u,u1,u2⟩:=h3.2 q (some (fD fs d fs[i]).code[q]) (by simp[hq])
    refine⟨u,?_,kL.setFn u2 m4 fun _ h=>Or.inl h⟩
    rw[←r7] at u1;have hql:q<((fD fs d fs[i]).code.map some).length*1:=by simpa using hq
    rw[List.getElem?_take_of_lt hql] at u1;simpa using u1
  ·obtain⟨fb',gc',cap2,cur',a1,a2,a3,a4,a5,a6⟩:=hold i hi (by omega)
   obtain rfl:fb'=mV bl i:=by simpa [BA] using a1.symm
   have b3:w1.heap[mV bl i]?=_:=(hF _ a2).trans a3;have b5:w1.heap[gc']?=_:=(hF _ a4).trans a5;refine⟨mV bl i,gc',cap2,cur',rfl,Or.inl (hFG _ a2),by rw[hkp _ (hdist i (by omega) hij')];exact b3,Or.inl (hFG _ a4),by rw[hkp _ (fun e=>by rw[e,m4] at b5;cases b5)];exact b5,fun q hq=>?_⟩
   obtain⟨u,u1,u2⟩:=a6 q hq;exact⟨u,u1,kL.setFn (u2.keep hF hFG) m4 fun _ h=>Or.inl h⟩
theorem OC{lo d:Nat}{fs:List aC}(v:Value)(w:World)(h:FSl (Btw lo w.heap.size) w v fs)(hfl:fs.length≤90000)(hok:∀f∈fs,jG fs d f)(hli:∀f∈fs,∀k∈f.kids,lO k)(hkl:∀f∈fs,f.kids.length≤90000)(hm:[109,97,105,110]∈fs.map (·.text)):
 Calls Tryz.prog 123 #[v] w fun e w'=>∃fp F,e=.returned (fp (cU fs [109,97,105,110]))∧kH fp F w' (dK fs d)∧Below w.heap.size w w'∧∀k,F k→k<w'.heap.size:=by
 have hne:fs≠[]:=fun e=>by rw[e] at hm;simp at hm
 rcases h.cells with ⟨_,e⟩|⟨g0,cap,rfl,hg0,hgl,hcap,hc⟩
 ·exact absurd e hne
 refine(JN w g0 fs.length cap (fun v w'=>∃fp F,v=fp (cU fs [109,97,105,110])∧kH fp F w' (dK fs d)∧Below w.heap.size w w'∧∀k,F k→k<w'.heap.size) (CI1 w fs) (CI2 w fs d) (by omega) (CI1.zero w fs) (fun j W hq hj=>?_) (fun W hq=>CI2.zero hne hq) (fun j W hq hj=>?_) (fun W hq=>?_)).mono ?_
 ·obtain⟨x,c,bl,h0,h1,h2,h3,h4,h5,h6⟩:=hq;obtain⟨pv,bv,ps,b,e0,e1,e2,e3,hkids,hps,hbo,hbk⟩:=hc j hj;obtain⟨px,pc,rfl⟩:=hps.slice;obtain⟨bx,bc,rfl⟩:=hbk.sliceC;have cel:∀o u,w.cell? ⟨g0,o,none⟩=some u→W.cell? ⟨g0,o,none⟩=some u:=fun o u hu=>by rw[h6.cell (p:=⟨g0,o,none⟩) hgl];exact hu
  exact⟨aD h1,Nat.lt_of_lt_of_le hgl h6.size,_,_,_,_,_,_,_,_,_,_,_,_,_,cel _ _ e0,cel _ _ e1,cel _ _ e2,cel _ _ e3,h1,h3,fun W3 g4 cap4 w4 a1 a2 a3 a4 a5=>CI1.next hj h2 h4 h5 h6 (aD h1) h3 a1 a2 a3 a4 a5⟩
 ·obtain⟨bl,F,h1,h2,h3,h4,h5,h6⟩:=hq;obtain⟨pv,bv,ps,b,e0,e1,e2,e3,hkids,hps,hbo,hbk⟩:=hc j hj;have hFR:yH (Btw lo w.heap.size) w (.agg #[.int .i64 fs[j].line,.string (bs fs[j].text),pv,bv]) fs[j]:=⟨pv,bv,ps,b,rfl,hkids,hps,hbo,hbk⟩;obtain⟨px,pc,rfl⟩:=hps.slice;obtain⟨bx,bc,rfl⟩:=hbk.sliceC;have cel:∀o u,w.cell? ⟨g0,o,none⟩=some u→W.cell? ⟨g0,o,none⟩=some u:=fun o u hu=>by rw[h5.cell (p:=⟨g0,o,none⟩) hgl];exact hu
  have hcq:=h4;obtain⟨⟨fv,cv,sp,q1,q2⟩,q3⟩:=h4;have hjn:j<(fs.map (·.text)).length:=by simpa using hj
  rcases q2 with ⟨e,_⟩|⟨g,c,rfl,k1,k2,k3,k4⟩
  ·rw[e] at hjn;simp at hjn
  obtain⟨m1,m2,m3,x,m4⟩:=k4 j hjn;rw[m2] at m1;have hnl:(fs.map (·.text)).length=fs.length:=by simp
  refine⟨aD q1,Nat.lt_of_lt_of_le hgl h5.size,_,_,_,_,_,_,_,_,g,c,mV bl j,cel _ _ e0,cel _ _ e1,cel _ _ e2,cel _ _ e3,by rw[←hnl];exact aA q1 rfl,k3,m1,fun W' hS=>?_⟩
  have hbW:Below W.heap.size W W':=((Below.refl _ _).alloc (Nat.le_refl _) _).trans (hS.below.mono (by simp))
  have hcq':CQ (BA bl) (mV bl) (fs.map (·.text)) w.heap.size F W':=by
   obtain⟨⟨fv,cv,sp,z1,z2⟩,z3⟩:=hcq;exact⟨⟨fv,cv,sp,by rw[hbW.block _ (aD z1)];exact z1,z2.keep (fun k hk=>hbW.block k (z3 k hk).1) (fun _ h=>h) hbW.size⟩,fun k hk=>⟨Nat.lt_of_lt_of_le (z3 k hk).1 hbW.size,(z3 k hk).2⟩⟩
  have hcbW:=aD q1;refine(E7 (lo:=lo) (d:=d) (by omega) (fun k _=>rfl) hcq' fs[j] _ (hFR.keep (fun k hk=>(h5.trans (hbW.mono (by omega))).block k hk.2) fun _ h=>h) (hok _ (List.getElem_mem hj)) (hli _ (List.getElem_mem hj)) (hkl _ (List.getElem_mem hj))).mono ?_
  rintro e w' ⟨cv',he,G,sn,hFG,hcp,hcv,hb1,hF⟩;have hpos:0<(fD fs d fs[j]).code.length:=by rw[FL fs d hkids];simp
  have hcp0:=hcp;obtain⟨fv',cv2,sp',y1,⟨xs,y2,y3⟩,y4,y5⟩:=hcp.blk
  obtain rfl:cv2=cv':=by
   have:=aA y1 (i:=1) rfl;rw[hcv] at this;exact(Option.some.inj this).symm
  obtain⟨x',c',rfl⟩:=cP y2;have hFW:∀k,F k→w'.heap[k]?=W.heap[k]?:=fun k hk=>by rw[hF k hk,hbW.block k (q3 k hk).1]
  rcases y5 with ⟨e,_⟩|⟨g2,c2,rfl,l1,l2,l3,l4⟩
  ·rw[e] at hjn;simp at hjn
  obtain⟨n1,n2,n3,x2,n4⟩:=l4 j hjn;rw[n2] at n1;refine⟨x',_,c',he,hcp.lt,⟨g2,c2,by rw[←hnl];exact aA y1 rfl,l3,n1⟩,Nat.lt_of_lt_of_le k3 (Nat.le_trans hbW.size hb1.size),?_,aD n4,⟨_,aA n4 rfl⟩,aE n4,?_⟩
  ·rw[World.cell?_of_block (hFW g k1)];exact m1
  ·exact CI2.next hj h1 h2 h5 h6 hFG hcp hcv ((hbW.mono (by omega)).trans hb1) hFW hpos
 ·obtain⟨bl,F,h1,h2,h3,h4,h5,h6⟩:=hq;refine(JR [109,97,105,110] h4 hm (by simpa using (by omega:fs.length≤1000000))).mono ?_
  rintro e w' ⟨he,rfl⟩;rw[BB] at he;refine⟨_,he,BA bl,F,rfl,fun k f hf=>?_,h5,fun k hk=>(h4.2 k hk).1⟩
  have hkl:k<fs.length:=by
   rcases Nat.lt_or_ge k fs.length with h|h
   ·exact h
   ·rw[List.getElem?_eq_none (by simpa [dK] using h)] at hf;cases hf
  have:f=fD fs d fs[k]:=by simpa [dK,hkl] using hf.symm
  rw[this];exact h6 k hkl hkl
 ·rintro e w' ⟨v,rfl,fp,F,rfl,h⟩;exact⟨fp,F,rfl,h⟩
theorem PO(w:World)(x0:Option Addr)(n0 c0:Nat)(x1:Option Addr)(n1 c1:Nat)(P:Value→World→Prop)(A:Value→World→Prop)(T:Value→Nat→Value→World→Prop)(B:Nat→World→Prop)
 (HC:Hid (Calls Tryz.prog 123 #[.slice x0 n0 c0] (w.alloc (.cells #[.int .i64 0,.slice none 0 0,.slice none 0 0,.slice none 0 0,.int .i64 0] 108)) fun e w'=>∃p,e=.returned (.pointer p)∧A (.pointer p) w'))
 (HT:Hid (∀p W,A (.pointer p) W→Calls Tryz.prog 124 #[.slice x1 n1 c1] (W.alloc (.cells #[.pointer p,.int .i64 0,.int .i64 0,.pointer none,.slice none 0 0,.slice none 0 0] 195)) fun e w'=>∃x n c,e=.returned (.slice x n c)∧T (.pointer p) W.heap.size (.slice x n c) w'))
 (HG:Hid (∀p gf x n c W,T (.pointer p) gf (.slice x n c) W→Calls Tryz.prog 125 #[.pointer (some ⟨W.heap.size,0,none⟩)] (W.alloc (.cells #[.int .i64 0,.slice (some ⟨gf,0,none⟩) 1 1,.slice x n c,.slice none 0 0,.int .i64 0] 108)) fun e w'=>e=.returned (.tuple #[])∧B W.heap.size w'))
 (HB:Hid (∀b W,B b W→∃(q:Nat) (f t o:Value) (st:Nat),W.heap[b]?=some (.cells #[.int .i64 q,f,t,o,.int .i64 st] 108 (0,0))∧(∃x l c,f=.slice x l c)∧(∃x l c,t=.slice x l c)∧(∃x l c,o=.slice x l c)∧W.heap[w.heap.size]?=some (.cells #[.int .i64 0,.slice none 0 0,.slice none 0 0,.slice none 0 0,.int .i64 0] 108 (0,0))∧b≠w.heap.size∧
   ∀W',Kept [w.heap.size] W W'→W'.heap.size=W.heap.size→P (.agg #[.int .i64 q,f,t,o,.int .i64 st]) W')):
 Calls Tryz.prog 70 #[.slice x0 n0 c0,.slice x1 n1 c1] w fun e w'=>∃v',e=.returned v'∧P v' w':=by
 go_enter Tryz.func70,Tryz.ntmps70;go_wp2_with fail;refine HC.out.mono ?_;rintro e w1 ⟨p,rfl,h1⟩;have HTT:=aB (HT.out _ _ h1);generalize hgf:w1.heap.size=gf at HTT;clear h1;go_wp2_with fail;refine HTT.out.mono ?_;rintro e w2 ⟨x,n,c,rfl,h2⟩;have HGG:=aB (HG.out _ _ _ _ _ _ h2);generalize hb:w2.heap.size=b at HGG;clear h2;go_wp2_with fail;refine HGG.out.mono ?_;rintro e w4 ⟨rfl,h4⟩;obtain⟨q,f,t,o,st,q1,⟨z1,r1,s1,rfl⟩,⟨z2,r2,s2,rfl⟩,⟨z3,r3,s3,rfl⟩,q2,q3,q4⟩:=HB.out _ _ h4;have HQ:=aB q4;have hc0:w4.cell? ⟨b,0,none⟩=some (.int .i64 q):=aA q1 rfl;have hc1:w4.cell? ⟨b,1,none⟩=some (.slice z1 r1 s1):=aA q1 rfl;have hc2:w4.cell? ⟨b,2,none⟩=some (.slice z2 r2 s2):=aA q1 rfl;have hc3:w4.cell? ⟨b,3,none⟩=some (.slice z3 r3 s3):=aA q1 rfl;have hc4:w4.cell? ⟨b,4,none⟩=some (.int .i64 st):=aA q1 rfl;have hb0:w4.cell? ⟨w.heap.size,0,none⟩=some (.int .i64 0):=aA q2 rfl;have hb1:w4.cell? ⟨w.heap.size,1,none⟩=some (.slice none 0 0):=aA q2 rfl;have hb2:w4.cell? ⟨w.heap.size,2,none⟩=some (.slice none 0 0):=aA q2 rfl;have hb3:w4.cell? ⟨w.heap.size,3,none⟩=some (.slice none 0 0):=aA q2 rfl;have hb4:w4.cell? ⟨w.heap.size,4,none⟩=some (.int .i64 0):=aA q2 rfl;have hf0:=aE (i:=0) q2;have hf1:=aE (i:=1) q2;have hf2:=aE (i:=2) q2;have hf3:=aE (i:=3) q2;have hf4:=aE (i:=4) q2;have hl1:=aD q1;have hl2:=aD q2;clear h4 q4 q1 q2;go_wp2_with fail;refine⟨rfl,.agg #[.int .i64 q,.slice z1 r1 s1,.slice z2 r2 s2,.slice z3 r3 s3,.int .i64 st],?_,_,rfl,HQ.out _ ?_ (by simp)⟩
 ·simp[results,Tryz.results70,go_sem,hb0,hb1,hb2,hb3,hb4]
 ·exact(((((Kept.refl _ _).setCell _ _ (by simp)).setCell _ _ (by simp)).setCell _ _ (by simp)).setCell _ _ (by simp)).setCell _ _ (by simp)
def TX(w:World)(v:Value)(l:List Int):Prop:=
 (l=[]∧v=.slice none 0 0)∨∃g o c,v=.slice (some ⟨g,o,none⟩) l.length c∧g<w.heap.size∧∀i (h:i<l.length),w.cell? ⟨g,o+i,none⟩=some (.int .i64 l[i])∧ -9223372036854775808≤l[i]∧l[i]≤9223372036854775807
theorem CJ(w:World)(v:Value)(l:List Int)(h:TX w v l)(hl:l.length≤1000000):∃x n c,v=.slice x n c∧Calls Tryz.prog 124 #[.slice x n c] w fun e w'=>∃x n c,e=.returned (.slice x n c)∧Below w.heap.size w w'∧qA (fun k=>w.heap.size≤k∧k<w'.heap.size) w' (.slice x n c) l:=by
 rcases h with ⟨rfl,rfl⟩|⟨g,o,c,rfl,hg,hc⟩
 ·refine⟨none,0,0,rfl,(DZ w).mono ?_⟩;rintro e w' ⟨rfl,rfl⟩;exact⟨_,_,_,rfl,Below.refl _ _,Or.inl ⟨rfl,none,0,rfl⟩⟩
 ·refine⟨_,_,_,rfl,(EA g o l.length c (l.map fun n=>Value.int .i64 n) w (by simp) hl (fun j u hj=>?_) (fun u hu=>?_)).mono ?_⟩
  ·rw[List.getElem?_map] at hj;cases hl2:l[j]? with
   |none=>rw[hl2] at hj;cases hj
   |some n=>
    rw[hl2] at hj;obtain⟨hj2,rfl⟩:=List.getElem?_eq_some_iff.1 hl2;rw[(hc j hj2).1];exact hj
  ·obtain⟨n,_,rfl⟩:=List.mem_map.1 hu;rfl
  ·rintro e w' ⟨v',rfl,hown,hb⟩;obtain⟨x,c',rfl⟩:=cP hown;refine⟨x,_,c',rfl,hb,?_⟩;rcases hown.2 with ⟨r1,r2⟩|⟨g2,cap,cur,r1,r2,r3,r4⟩
   ·exact Or.inl ⟨List.length_eq_zero_iff.1 r2,x,c',by rw[r2]⟩
   ·refine Or.inr ⟨g2,0,cap,r1,r4.1,⟨r2,aD r3⟩,fun i hi=>⟨?_,(hc i hi).2⟩⟩
    have:=hown.cells (g:=g2) (by rw[r1];rfl) i (.int .i64 l[i]) (by simp[hi])
    rw[yL] at this;simpa using this
end Go.Proofs.YtblbkfdhjfppkaaGreatDoor
