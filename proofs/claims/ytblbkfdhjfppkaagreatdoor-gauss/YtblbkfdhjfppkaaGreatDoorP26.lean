/- Contracts of the program: the compiler's blocks: the walks. -/
import Derived.Test.YtblbkfdhjfppkaaGreatDoorP24
import Derived.Test.YtblbkfdhjfppkaaGreatDoorP25
set_option maxRecDepth 100000
set_option maxHeartbeats 4000000
namespace Go.Proofs.YtblbkfdhjfppkaaGreatDoor
open Hs
open Go.RowKit
theorem xO(w:World)(cb g n cap:Nat)(C:Nat→World→Prop)(hn:n≤1000000)(h0:C 0 w)
 (HC:Hid (∀j W,C j W→j<n→g<W.heap.size∧∃t z,W.cell? ⟨g,j,none⟩=some (.iface t z)∧Calls Tryz.prog 291 #[.pointer (some ⟨cb,0,none⟩),.iface t z] W fun e w'=>e=.returned (.tuple #[])∧C (j+1) w')):
 Calls Tryz.prog 237 #[.pointer (some ⟨cb,0,none⟩),.slice (some ⟨g,0,none⟩) n cap] w fun e w'=>e=.returned (.tuple #[])∧C n w':=by
 have H0:=aB h0;clear h0;go_enter Tryz.func237,Tryz.ntmps237;go_wp2_with fail;go_loopg [5,8] n (fun gk _ i wr=>∃j:Nat,j+gk=n∧i=.int .i64 j∧C j wr)
 case atStart=>exact⟨0,by omega,rfl,H0.out⟩
 case round=>
  obtain⟨j,hj,rfl,hC⟩:=hrel;by_cases hlt:j<n
  ·obtain⟨m,rfl⟩:∃m,gk=m+1:=⟨gk-1,by omega⟩
   obtain⟨hg,t,z,c1,hcl⟩:=HC.out _ _ hC hlt;have HX:=aB hcl;have e1:(0:Int)≤(j:Int):=by omega
   have e2:(j:Int)<(n:Int):=by omega
   clear hC hcl;go_wp2_with fail;refine HX.out.mono ?_;rintro e w1 ⟨rfl,h1⟩;go_wp2_with fail;go_roundg m
   case measure=>omega
   case rel=>exact⟨j+1,by omega,by go_num,h1⟩
  ·have hjn:j=n:=by omega
   subst hjn;have HC':=aB hC;clear hC;go_wp2_with fail;go_end0;exact⟨rfl,HC'.out⟩
theorem zU(w:World)(cb:Nat):Calls Tryz.prog 237 #[.pointer (some ⟨cb,0,none⟩),.slice none 0 0] w fun e w'=>e=.returned (.tuple #[])∧w'=w:=by
 go_enter Tryz.func237,Tryz.ntmps237;go_wp2_with fail;go_loopg [5,8] 0 (fun _ _ i wr=>i=.int .i64 0∧wr=w)
 case atStart=>exact⟨rfl,rfl⟩
 case round=>
  obtain⟨rfl,rfl⟩:=hrel;go_wp2_with fail;go_end0;exact⟨rfl,rfl⟩
theorem SR(w:World)(cb:Nat)(p x:Option Addr)(n c:Nat)(P Q:World→Prop)(c2:w.cell? ⟨cb,2,none⟩=some (.pointer p))
 (HX:Hid (Calls Tryz.prog 237 #[.pointer (some ⟨cb,0,none⟩),.slice x n c] w fun e w'=>e=.returned (.tuple #[])∧Q w'))
 (HB:Hid (∀W,Q W→(∃u,W.cell? ⟨cb,2,none⟩=some u)∧W.frozen? ⟨cb,2,none⟩=false∧cb<W.heap.size∧P (W.setCell ⟨cb,2,none⟩ (.pointer p)))):
 Calls Tryz.prog 337 #[.pointer (some ⟨cb,0,none⟩),.slice x n c] w fun e w'=>e=.returned (.tuple #[])∧P w':=by
 go_enter Tryz.func337,Tryz.ntmps337;go_wp2_with fail;refine HX.out.mono ?_;rintro e w1 ⟨rfl,h1⟩;obtain⟨⟨u,b1⟩,b2,b3,h2⟩:=HB.out _ h1;have HP:=aB h2;clear h1 h2;go_wp2_with fail;go_end0;exact⟨rfl,HP.out⟩
theorem OF(w:World)(cb k1 k2:Nat)(l:Int)(t1:TypeId)(z1:Value)(x1 x2:Option Addr)(n1 n2 c1 c2:Nat)(P Q1 Q2 Q3 Q4 Q5 Q6:World→Prop)
 (HX:Hid (Calls Tryz.prog 233 #[.pointer (some ⟨cb,0,none⟩),.iface t1 z1] (w.alloc (.cells #[.int .i64 l,.iface t1 z1,.slice x1 n1 c1,.slice x2 n2 c2] 334)) fun e w'=>e=.returned (.tuple #[])∧Q1 w'))
 (HN1:Hid (∀W,Q1 W→Calls Tryz.prog 238 #[.pointer (some ⟨cb,0,none⟩),.nilIface] W fun e w'=>e=.returned (.int .i64 k1)∧Q2 w'))
 (HB2:Hid (∀W,Q2 W→W.cell? ⟨w.heap.size,2,none⟩=some (.slice x1 n1 c1)∧w.heap.size<W.heap.size))
 (HT:Hid (∀W,Q2 W→Calls Tryz.prog 337 #[.pointer (some ⟨cb,0,none⟩),.slice x1 n1 c1] W fun e w'=>e=.returned (.tuple #[])∧Q3 w'))
 (HN2:Hid (∀W,Q3 W→Calls Tryz.prog 238 #[.pointer (some ⟨cb,0,none⟩),.nilIface] W fun e w'=>e=.returned (.int .i64 k2)∧Q4 w'))
 (HP1:Hid (∀W,Q4 W→cb<W.heap.size∧∃g n c,W.cell? ⟨cb,1,none⟩=some (.slice (some ⟨g,0,none⟩) n c)∧k1<n∧n≤1000000∧(∃u,W.cell? ⟨g,k1,none⟩=some u)∧W.frozen? ⟨g,k1,none⟩=false∧g<W.heap.size∧∀W',aW (W.setCell ⟨g,k1,none⟩ (.iface 461 (.agg #[.int .i64 n]))) W'→Q5 W'))
 (HB5:Hid (∀W,Q5 W→W.cell? ⟨w.heap.size,3,none⟩=some (.slice x2 n2 c2)∧w.heap.size<W.heap.size))
 (HL:Hid (∀W,Q5 W→Calls Tryz.prog 337 #[.pointer (some ⟨cb,0,none⟩),.slice x2 n2 c2] W fun e w'=>e=.returned (.tuple #[])∧Q6 w'))
 (HP2:Hid (∀W,Q6 W→cb<W.heap.size∧∃g n c,W.cell? ⟨cb,1,none⟩=some (.slice (some ⟨g,0,none⟩) n c)∧k2<n∧n≤1000000∧(∃u,W.cell? ⟨g,k2,none⟩=some u)∧W.frozen? ⟨g,k2,none⟩=false∧g<W.heap.size∧∀W',aW (W.setCell ⟨g,k2,none⟩ (.iface 462 (.agg #[.int .i64 n]))) W'→P W')):
 Calls Tryz.prog 324 #[.pointer (some ⟨cb,0,none⟩),.agg #[.int .i64 l,.iface t1 z1,.slice x1 n1 c1,.slice x2 n2 c2]] w fun e w'=>e=.returned (.tuple #[])∧P w':=by
 go_enter Tryz.func324,Tryz.ntmps324;go_wp2_with fail;refine HX.out.mono ?_;rintro e w1 ⟨rfl,h1⟩;have H1:=aB (HN1.out _ h1);clear h1;go_wp2_with fail;refine H1.out.mono ?_;rintro e w2 ⟨rfl,h2⟩;obtain⟨b1,b2⟩:=HB2.out _ h2;have H2:=aB (HT.out _ h2);clear h2;go_wp2_with fail;refine H2.out.mono ?_;rintro e w3 ⟨rfl,h3⟩;have H3:=aB (HN2.out _ h3);clear h3;go_wp2_with fail;refine H3.out.mono ?_;rintro e w4 ⟨rfl,h4⟩;obtain⟨f3,g,n,c,f4,f5,f6,⟨u,f7⟩,f8,f9,f10⟩:=HP1.out _ h4;have HP:=aB f10;have i1:(0:Int)≤(k1:Int):=by omega
 have i2:(k1:Int)<(n:Int):=by omega
 clear h4 f10;go_wp2_with fail;go_region
 all_goals
  have h5:=HP.out _ (aW.drew _);obtain⟨d1,d2⟩:=HB5.out _ h5;have H5:=aB (HL.out _ h5);clear h5;generalize hW:(w4.setCell ⟨g,k1,none⟩ (.iface 461 (.agg #[.int .i64 n]))).drew=w5 at*;have HW:=aB hW;clear hW;go_wp2_with fail;refine H5.out.mono ?_;rintro e w6 ⟨rfl,h6⟩;obtain⟨f3',g',n',c',f4',f5',f6',⟨u',f7'⟩,f8',f9',f10'⟩:=HP2.out _ h6;have HP':=aB f10';have i1':(0:Int)≤(k2:Int):=by omega
  have i2':(k2:Int)<(n':Int):=by omega
  clear h6 f10';go_wp2_with fail;go_region
  all_goals
   go_wp2_with fail;go_end0;exact⟨rfl,HP'.out _ (aW.drew _)⟩
theorem WU(w:World)(cb k start:Nat)(l:Int)(t1:TypeId)(z1:Value)(x1:Option Addr)(n1 c1:Nat)(P Q1 Q2 Q3 Q4:World→Prop)
 (HX:Hid (Calls Tryz.prog 233 #[.pointer (some ⟨cb,0,none⟩),.iface t1 z1] (w.alloc (.cells #[.int .i64 l,.iface t1 z1,.slice x1 n1 c1] 336)) fun e w'=>e=.returned (.tuple #[])∧Q1 w'))
 (HN1:Hid (∀W,Q1 W→Calls Tryz.prog 238 #[.pointer (some ⟨cb,0,none⟩),.nilIface] W fun e w'=>e=.returned (.int .i64 k)∧Q2 w'))
 (HB2:Hid (∀W,Q2 W→W.cell? ⟨w.heap.size,2,none⟩=some (.slice x1 n1 c1)∧w.heap.size<W.heap.size))
 (HT:Hid (∀W,Q2 W→Calls Tryz.prog 337 #[.pointer (some ⟨cb,0,none⟩),.slice x1 n1 c1] W fun e w'=>e=.returned (.tuple #[])∧Q3 w'))
 (HJ:Hid (∀W,Q3 W→Calls Tryz.prog 238 #[.pointer (some ⟨cb,0,none⟩),.iface 462 (.agg #[.int .i64 start])] W fun e w'=>(∃k:Nat,e=.returned (.int .i64 k))∧Q4 w'))
 (HP1:Hid (∀W,Q4 W→cb<W.heap.size∧∃g n c,W.cell? ⟨cb,1,none⟩=some (.slice (some ⟨g,0,none⟩) n c)∧k<n∧n≤1000000∧(∃u,W.cell? ⟨g,k,none⟩=some u)∧W.frozen? ⟨g,k,none⟩=false∧g<W.heap.size∧∀W',aW (W.setCell ⟨g,k,none⟩ (.iface 461 (.agg #[.int .i64 n]))) W'→P W')):
 Calls Tryz.prog 325 #[.pointer (some ⟨cb,0,none⟩),.agg #[.int .i64 l,.iface t1 z1,.slice x1 n1 c1],.int .i64 start] w fun e w'=>e=.returned (.tuple #[])∧P w':=by
 go_enter Tryz.func325,Tryz.ntmps325;go_wp2_with fail;refine HX.out.mono ?_;rintro e w1 ⟨rfl,h1⟩;have H1:=aB (HN1.out _ h1);clear h1;go_wp2_with fail;refine H1.out.mono ?_;rintro e w2 ⟨rfl,h2⟩;obtain⟨b1,b2⟩:=HB2.out _ h2;have H2:=aB (HT.out _ h2);clear h2;go_wp2_with fail;refine H2.out.mono ?_;rintro e w3 ⟨rfl,h3⟩;have H3:=aB (HJ.out _ h3);clear h3;go_wp2_with fail;refine H3.out.mono ?_;rintro e w4 ⟨⟨m,rfl⟩,h4⟩;obtain⟨f3,g,n,c,f4,f5,f6,⟨u,f7⟩,f8,f9,f10⟩:=HP1.out _ h4;have HP:=aB f10;have i1:(0:Int)≤(k:Int):=by omega
 have i2:(k:Int)<(n:Int):=by omega
 clear h4 f10;go_wp2_with fail;go_region
 all_goals
  go_wp2_with fail;go_end0;exact⟨rfl,HP.out _ (aW.drew _)⟩
theorem stC_seen{fs:List aC}{d:Nat}{seen:List (List UInt8)}{a:aC}(p:Nat)(h:dI fs d seen a):(bA fs d seen a p).2=cK seen a:=
 (lV fs d seen a (fun _ _=>False) p h ⟨fun _ _ _ h=>h.elim,fun _ _ h=>h.elim⟩).2.1
theorem StsOk.split{S:List (List UInt8)→aC→Prop}:∀{l m:List aC} {seen:List (List UInt8)},Hs.StsOk S seen (l++m)→Hs.StsOk S seen l∧Hs.StsOk S (dM seen l) m
 |[],_,_,h=>⟨trivial,h⟩
 |_::_,_,_,h=>by
  obtain⟨h1,h2⟩:=h;obtain⟨h3,h4⟩:=StsOk.split h2;exact⟨⟨h1,h3⟩,h4⟩
theorem pG:∀(l m:List aC) (seen:List (List UInt8)),dM seen (l++m)=dM (dM seen l) m
 |[],_,_=>rfl
 |a::l,m,seen=>pG l m (cK seen a)
theorem pA{fs:List aC}{d:Nat}:∀{l:List aC} (m:List aC) {seen:List (List UInt8)} (p:Nat),Hs.StsOk (dI fs d) seen l→bF (bA fs d) seen (l++m) p=bF (bA fs d) seen l p++bF (bA fs d) (dM seen l) m (p+(bF (bA fs d) seen l p).length)
 |[],m,seen,p,_=>by simp[bF,dM]
 |a::l,m,seen,p,h=>by
  obtain⟨h1,h2⟩:=h;rw[List.cons_append,bF,bF,stC_seen p h1,pA m _ h2,List.append_assoc,List.length_append,Nat.add_assoc];rfl
theorem ZE{fs:List aC}{d:Nat}(a:aC)(seen:List (List UInt8))(p:Nat):bF (bA fs d) seen [a] p=(bA fs d seen a p).1:=by simp[bF]
def KC(fp:Nat→Value)(fb:Nat→Nat)(nms:List (List UInt8))(cb:Nat)(F:Nat→Prop)(w:World)(code:List (Option aH))(seen:List (List UInt8))(w':World):Prop:=
 ∃G,(∀k,F k→G k)∧fU fp fb nms cb G w code seen w'
def OR(fp:Nat→Value)(fb:Nat→Nat)(fs:List aC)(cb lo:Nat)(d:Nat):Prop:=
 ∀(F:Nat→Prop) (seen:List (List UInt8)) (v:Value) (a:aC) (code:List (Option aH)) (w:World),CP fp fb (fs.map (·.text)) cb F w code seen→PN (Btw lo cb) w v a→dI fs d seen a→lO a→seen.length≤90001→code.length+(bA fs d seen a code.length).1.length≤1000000→
  Calls Tryz.prog 291 #[.pointer (some ⟨cb,0,none⟩),v] w fun e w'=>e=.returned (.tuple #[])∧KC fp fb (fs.map (·.text)) cb F w (code++(bA fs d seen a code.length).1.map some) (bA fs d seen a code.length).2 w'
section
variable {fp:Nat→Value} {fb:Nat→Nat} {fs:List aC} {cb lo:Nat} {F:Nat→Prop} {seen:List (List UInt8)} {d:Nat}
theorem KC.then{w w1 w':World}{nms:List (List UInt8)}{code:List (Option aH)}(h1:FB cb w w1)(h:KC fp fb nms cb F w1 code seen w'):KC fp fb nms cb F w code seen w':=by
 obtain⟨G,hG,h⟩:=h;exact⟨G,hG,h.then h1⟩
theorem KC.more{G:Nat→Prop}{w w':World}{nms:List (List UInt8)}{code:List (Option aH)}(hF:∀k,F k→G k)(h:KC fp fb nms cb G w code seen w'):KC fp fb nms cb F w code seen w':=by
 obtain⟨H,hH,h⟩:=h;exact⟨H,fun k hk=>hH k (hF k hk),h⟩
theorem UY{fs:List aC}{d:Nat}{seen:List (List UInt8)}{a:aC}(h:dI fs d seen a)(hs:seen.length≤90001):(cK seen a).length≤90001:=by
 cases d with
 |zero=>exact h.elim
 |succ d=>
  unfold cK;split
  ·rename_i hop;rcases h with ⟨_,h1,t,v,hk,_⟩|⟨h1,_⟩|⟨h1,_⟩|⟨h1,_⟩|⟨h1,_⟩|⟨h1,_⟩|⟨h1,_⟩
   ·rw[hk];simp;omega
   all_goals exact absurd (hop.symm.trans h1) (by decide)
  ·exact hs
theorem vY{fs:List aC}{d:Nat}:∀{l:List aC} {seen:List (List UInt8)},Hs.StsOk (dI fs d) seen l→seen.length≤90001→(dM seen l).length≤90001
 |[],_,_,h=>h
 |a::l,seen,hh,h=>by
  obtain⟨h1,h2⟩:=hh;exact vY (l:=l) (seen:=cK seen a) h2 (UY h1 h)
theorem oO(IH:OR fp fb fs cb lo d)(v:Value)(l:List aC)(code:List (Option aH))(w:World)(h:CP fp fb (fs.map (·.text)) cb F w code seen)(hv:PKid (Btw lo cb) w v l)(ho:Hs.StsOk (dI fs d) seen l)(hli:∀a∈l,lO a)(hl:l.length≤1000000)(hsn:seen.length≤90001)(hn:code.length+(bF (bA fs d) seen l code.length).length≤1000000):
 Calls Tryz.prog 237 #[.pointer (some ⟨cb,0,none⟩),v] w fun e w'=>e=.returned (.tuple #[])∧KC fp fb (fs.map (·.text)) cb F w (code++(bF (bA fs d) seen l code.length).map some) (dM seen l) w':=by
 rcases hv.get with ⟨rfl,rfl⟩|⟨g,cap,rfl,hg,hgl,hcap,hc⟩
 ·refine(zU w cb).mono ?_;rintro e w' ⟨rfl,rfl⟩;exact⟨rfl,F,fun _ h=>h,by simpa [bF,dM] using h,FB.refl _⟩
 ·refine(xO w cb g l.length cap (fun j W=>j≤l.length∧KC fp fb (fs.map (·.text)) cb F w (code++(bF (bA fs d) seen (l.take j) code.length).map some) (dM seen (l.take j)) W) hl ⟨Nat.zero_le _,F,fun _ h=>h,by simpa [bF,dM] using h,FB.refl _⟩ (fun j W hq hj=>?_)).mono ?_
  ·obtain⟨_,G,hG,hcp,hfb⟩:=hq;obtain⟨u,hu,hn'⟩:=hc j hj;obtain⟨T,cs,rfl⟩:=hn'.form;have htk:l.take (j+1)=l.take j++[l[j]]:=List.take_succ_eq_append_getElem hj
   have hsplit:Hs.StsOk (dI fs d) seen (l.take j++(l[j]::l.drop (j+1))):=by
    have e:l.take j++(l[j]::l.drop (j+1))=l:=by
     rw[List.getElem_cons_drop];exact List.take_append_drop _ _
    rw[e];exact ho
   obtain⟨hs1,hs2,_⟩:=StsOk.split hsplit;have hsp:bF (bA fs d) seen (l.take (j+1)) code.length=bF (bA fs d) seen (l.take j) code.length++(bA fs d (dM seen (l.take j)) l[j] (code.length+(bF (bA fs d) seen (l.take j) code.length).length)).1:=by rw[htk,pA _ _ hs1,ZE]
   have hall:(bF (bA fs d) seen (l.take (j+1)) code.length).length≤(bF (bA fs d) seen l code.length).length:=by
    have ho':Hs.StsOk (dI fs d) seen (l.take (j+1)++l.drop (j+1)):=by rw[List.take_append_drop];exact ho
    have:=pA (l.drop (j+1)) code.length (StsOk.split ho').1;rw[List.take_append_drop] at this;rw[this,List.length_append];omega
   have hcl:(code++(bF (bA fs d) seen (l.take j) code.length).map some).length=code.length+(bF (bA fs d) seen (l.take j) code.length).length:=by simp
   have hse:dM seen (l.take (j+1))=(bA fs d (dM seen (l.take j)) l[j] (code.length+(bF (bA fs d) seen (l.take j) code.length).length)).2:=by
    rw[htk,pG,stC_seen _ hs2];rfl
   refine⟨Nat.lt_of_lt_of_le hgl hfb.bel.size,T,.agg cs,by rw[hfb.bel.cell (p:=⟨g,j,none⟩) hg.2];exact hu,(IH G _ _ l[j] _ W hcp (hn'.below hfb.bel) hs2 (hli _ (List.getElem_mem hj)) (vY hs1 hsn) ?_).mono ?_⟩
   ·rw[hcl];rw[hsp,List.length_append] at hall;omega
   ·rintro e w' ⟨he,hto⟩;refine⟨he,hj,?_⟩;rw[hcl] at hto;rw[hsp,hse,List.map_append,←List.append_assoc];exact(hto.then hfb).more hG
  ·rintro e w' ⟨he,_,hto⟩;rw[List.take_of_length_le (Nat.le_refl _)] at hto;exact⟨he,hto⟩
theorem SM(IH:OR fp fb fs cb lo d)(v:Value)(l:List aC)(code:List (Option aH))(w:World)(h:CP fp fb (fs.map (·.text)) cb F w code seen)(hv:PKid (Btw lo cb) w v l)(ho:Hs.StsOk (dI fs d) seen l)(hli:∀a∈l,lO a)(hl:l.length≤1000000)(hsn:seen.length≤90001)(hn:code.length+(bF (bA fs d) seen l code.length).length≤1000000):
 Calls Tryz.prog 337 #[.pointer (some ⟨cb,0,none⟩),v] w fun e w'=>e=.returned (.tuple #[])∧KC fp fb (fs.map (·.text)) cb F w (code++(bF (bA fs d) seen l code.length).map some) seen w':=by
 obtain⟨x,c,rfl⟩:=hv.sliceC;have hst:=oO IH _ l code w h hv ho hli hl hsn hn;obtain⟨fv,cv,sp,h1,_,h4,_⟩:=h.blk;obtain⟨p,rfl⟩:=h4.form;refine SR w cb p x l.length c _ _ (aA h1 rfl) hst (fun W hq=>?_)
 obtain⟨G,hG,hcp,hfb⟩:=hq;obtain⟨fv',cv',sp',g1,⟨xs,g2,g3⟩,g4,g5⟩:=hcp.blk;refine⟨⟨_,aA g1 rfl⟩,aE g1,aD g1,G,hG,⟨⟨fv',cv',.pointer p,aQ g1,⟨xs,?_,?_⟩,?_,?_⟩,fun k hk=>?_⟩,?_⟩
 all_goals have hk:∀k,k≠cb→(W.setCell ⟨cb,2,none⟩ (.pointer p)).heap[k]?=W.heap[k]?:=fun k hk=>Below.heap_setCell _ _ _ _ hk
 all_goals have hGk:∀b,G b→(W.setCell ⟨cb,2,none⟩ (.pointer p)).heap[b]?=W.heap[b]?:=fun b hb=>hk b (hcp.fix b hb).2.1
 all_goals have hro:kE cb (W.setCell ⟨cb,2,none⟩ (.pointer p))=kE cb W:=by rw[iI (aQ g1),iI g1]
 ·exact aY g2 fun k e=>hk k (by have:=(g2.lt k e).1;omega)
 ·exact g3.keep hGk fun _ h=>h
 ·exact eO.keep (fun b hb=>by rw[hGk b (hG b hb),h.fixed hfb b hb]) hG h4
 ·exact g5.keep hGk (fun _ h=>h) (by simp)
 ·obtain⟨e1,e2,e3⟩:=hcp.fix k (by assumption)
  exact⟨by simpa using e1,e2,by rw[hro];exact e3⟩
 ·refine hfb.trans ⟨⟨rfl,rfl,rfl,by simp,fun k hk'=>hk k (by omega)⟩,fun k _ h2 _=>hk k h2,fun k e=>Or.inl (by rw[←hro];exact e)⟩
end
section
variable {fp:Nat→Value} {fb:Nat→Nat} {fs:List aC} {cb lo:Nat} {F:Nat→Prop} {alone:Bool} {seen:List (List UInt8)} {d:Nat}
theorem YG(IH:CD fp fb fs cb lo F alone seen d)(hfn:fs.length≤1000000)(hfp:∀k,k<fs.length→fp k=.pointer (some ⟨fb k,0,none⟩))(a:aC)(sv:Value)(l:Int)(code:List (Option aH))(w:World)(hcp:CP fp fb (fs.map (·.text)) cb F w code seen)(hop:a.op=[99,97,108,108])(hp:PKid (Btw lo cb) w sv a.kids)(hok:Hs.ExOk fs alone seen (d+1) a)(hli:oQ (d+1) a)(hlen:code.length+(aG fs seen (d+1) a code.length).length≤1000000):
 Calls Tryz.prog 289 #[.pointer (some ⟨cb,0,none⟩),.agg #[.int .i64 l,.string (bs a.text),sv]] w fun e w'=>e=.returned (.tuple #[])∧fU fp fb (fs.map (·.text)) cb F w (code++(aG fs seen (d+1) a code.length).map some) seen w':=by
 have hops:=ExOk.op hok;obtain⟨_,hk1,hlik⟩:=hli;rw[BE fs seen d a _ hop] at hlen ⊢
 rw[List.length_append,List.length_singleton] at hlen;have hkx:=hops.1;have hcase:=hops.2.2 hop;obtain⟨x,c,rfl⟩:=hp.sliceC;obtain⟨hloc2,hcp2⟩:=hcp.new (.cells #[.int .i64 l,.string (bs a.text),.slice x a.kids.length c] 341);have blk2:∀{W:World},FB cb (w.alloc (.cells #[.int .i64 l,.string (bs a.text),.slice x a.kids.length c] 341)) W→W.heap[w.heap.size]?=some (.cells #[.int .i64 l,.string (bs a.text),.slice x a.kids.length c] 341 (0,0)):=fun hfb=>(hloc2.step hfb).blk
 have hx2:Calls Tryz.prog 287 #[.pointer (some ⟨cb,0,none⟩),.slice x a.kids.length c] (w.alloc (.cells #[.int .i64 l,.string (bs a.text),.slice x a.kids.length c] 341)) fun e w'=>e=.returned (.tuple #[])∧(fU fp fb (fs.map (·.text)) cb F w (code++(bO (aG fs seen d) a.kids code.length).map some) seen w'∧w'.heap[w.heap.size]?=some (.cells #[.int .i64 l,.string (bs a.text),.slice x a.kids.length c] 341 (0,0))):=by
  refine(qK IH _ _ _ _ hcp2 (hp.below hloc2.fb.bel) hkx hlik hk1 (by omega)).mono ?_
  rintro e w' ⟨he,hto⟩;exact⟨he,hto.then hloc2.fb,blk2 hto.2⟩
 have hfin:∀{i:aH} {e:Ending} {W:World},(e=.returned (.tuple #[])∧fU fp fb (fs.map (·.text)) cb F w ((code++(bO (aG fs seen d) a.kids code.length).map some)++[some i]) seen W)→e=.returned (.tuple #[])∧fU fp fb (fs.map (·.text)) cb F w (code++(bO (aG fs seen d) a.kids code.length++[i]).map some) seen W:=fun hq=>by
  rw[List.map_append,←List.append_assoc];exact hq
 have hbd:(code++(bO (aG fs seen d) a.kids code.length).map some).length+1≤1000000:=by rw[fH];omega
 rcases hcase with htx|htx|⟨ht1,ht2,har⟩
 ·rw[htx] at hx2 ⊢
  refine(OK w cb a.kids.length c l x _ _ hx2 (fun W hq=>⟨aA hq.2 rfl,aD hq.2⟩) (fun W hq=>emits (i:=.length) hq.1 rfl hbd)).mono ?_
  intro e W hq;exact hfin hq
 ·rw[htx] at hx2 ⊢
  refine(FU w cb a.kids.length c l x _ _ hx2 (fun W hq=>⟨aA hq.2 rfl,aD hq.2⟩) (fun W hq=>emits (i:=.read) hq.1 rfl hbd)).mono ?_
  intro e W hq;exact hfin hq
 ·have hfl:cU fs a.text<fs.length:=by
   unfold fI at har;cases hf:fs[cU fs a.text]? with
   |none=>rw[hf] at har;cases har
   |some f=>exact(List.getElem?_eq_some_iff.1 hf).1
  have hmem:a.text∈fs.map (·.text):=by
   have h9:=hfl;unfold cU at h9;have:=List.findIdx_getElem (w:=h9);exact List.mem_map.2 ⟨_,List.getElem_mem h9,by simpa using this⟩
  have e1:(a.text==[108,101,110])=false:=by simpa using ht1
  have e2:(a.text==[114,101,97,100])=false:=by simpa using ht2
  rw[e1,e2];refine(BW w cb a.kids.length c (fb (cU fs a.text)) l a.text x (fun W=>fU fp fb (fs.map (·.text)) cb F w ((code++(bO (aG fs seen d) a.kids code.length).map some)++[some (.call (cU fs a.text) a.kids.length)]) seen W) _ ht1 ht2 hx2 (fun W hq=>⟨aA hq.2 rfl,aA hq.2 rfl,aD hq.2⟩) (fun W W' hq hS=>?_) (fun W W' hq hS=>?_)).mono ?_
  ·refine(rQ a.text (hq.1.1.grow hS.below) hmem (by simpa using hfn)).mono ?_
   rintro e w' ⟨he,hw'⟩;rw[BB,hfp _ hfl] at he;exact⟨he,hw'⟩
  ·have hq':fU fp fb (fs.map (·.text)) cb F w (code++(bO (aG fs seen d) a.kids code.length).map some) seen W':=⟨hq.1.1.grow hS.below,hq.1.2.trans (FB.of_below hS.below hq.1.1.lt)⟩
   exact emits (i:=.call (cU fs a.text) a.kids.length) hq' (by show _=_;rw[hfp _ hfl]) hbd
  ·intro e W hq;exact hfin hq
end
section
variable (fs:List aC) (seen:List (List UInt8)) (d:Nat) (a:aC) (p:Nat)
theorem I4(t v:aC)(h:a.op=[118,97,114])(hk:a.kids=[t,v]):bA fs (d+1) seen a p=(.begin a.line seen::aG fs seen d v (p+1)++[.declare seen.length],t.text::seen):=by rw[bA];simp[h,hk]
theorem I5(h:a.op=[115,101,116]):bA fs (d+1) seen a p=(.begin a.line seen::bO (aG fs seen d) a.kids (p+1)++[.assign (dS seen a.text) (a.kids.length-1)],seen):=by rw[bA];simp[h]
theorem I7(c t:aC)(h:a.op=[105,102])(hk:a.kids=[c,t]):bA fs (d+1) seen a p=
 (.begin a.line seen::aG fs seen d c (p+1)++[.skip (p+1+(aG fs seen d c (p+1)).length+1+(bF (bA fs d) seen t.kids (p+1+(aG fs seen d c (p+1)).length+1)).length+1)]++bF (bA fs d) seen t.kids (p+1+(aG fs seen d c (p+1)).length+1)++[.jump (p+1+(aG fs seen d c (p+1)).length+1+(bF (bA fs d) seen t.kids (p+1+(aG fs seen d c (p+1)).length+1)).length+1)],seen):=by rw[bA];simp[h,hk]
theorem I6(c t x:aC)(h:a.op=[105,102])(hk:a.kids=[c,t,x]):bA fs (d+1) seen a p=
 (.begin a.line seen::aG fs seen d c (p+1)++[.skip (p+1+(aG fs seen d c (p+1)).length+1+(bF (bA fs d) seen t.kids (p+1+(aG fs seen d c (p+1)).length+1)).length+1)]++bF (bA fs d) seen t.kids (p+1+(aG fs seen d c (p+1)).length+1)++[.jump (p+1+(aG fs seen d c (p+1)).length+1+(bF (bA fs d) seen t.kids (p+1+(aG fs seen d c (p+1)).length+1)).length+1+(bF (bA fs d) seen x.kids (p+1+(aG fs seen d c (p+1)).length+1+(bF (bA fs d) seen t.kids (p+1+(aG fs seen d c (p+1)).length+1)).length+1)).length)]++
   bF (bA fs d) seen x.kids (p+1+(aG fs seen d c (p+1)).length+1+(bF (bA fs d) seen t.kids (p+1+(aG fs seen d c (p+1)).length+1)).length+1),seen):=by rw[bA];simp[h,hk]
theorem US(c b:aC)(h:a.op=[119,104,105,108,101])(hk:a.kids=[c,b]):bA fs (d+1) seen a p=
 (.begin a.line seen::aG fs seen d c (p+1)++[.skip (p+1+(aG fs seen d c (p+1)).length+1+(bF (bA fs d) seen b.kids (p+1+(aG fs seen d c (p+1)).length+1)).length+1)]++bF (bA fs d) seen b.kids (p+1+(aG fs seen d c (p+1)).length+1)++[.jump p],seen):=by rw[bA];simp[h,hk]
theorem KW(h:a.op=[114,101,116,117,114,110])(hk:a.kids=[]):bA fs (d+1) seen a p=([.begin a.line seen,.push (bB 0),.give],seen):=by rw[bA];simp[h,hk]
theorem KV(v:aC)(h:a.op=[114,101,116,117,114,110])(hk:a.kids=[v]):bA fs (d+1) seen a p=(.begin a.line seen::aG fs seen d v (p+1)++[.give],seen):=by rw[bA];simp[h,hk]
theorem UT(v:aC)(h:a.op=[112,114,105,110,116])(hk:a.kids=[v]):bA fs (d+1) seen a p=(.begin a.line seen::aG fs seen d v (p+1)++[.print],seen):=by rw[bA];simp[h,hk]
theorem P2(c:aC)(h:a.op=[100,111])(hk:a.kids=[c]):bA fs (d+1) seen a p=(.begin a.line seen::aG fs seen d c (p+1)++[.drop],seen):=by rw[bA];simp[h,hk]
end
section
variable {fp:Nat→Value} {fb:Nat→Nat} {fs:List aC} {cb lo:Nat} {F:Nat→Prop} {seen:List (List UInt8)} {d:Nat}
def oR(fp:Nat→Value)(fb:Nat→Nat)(nms:List (List UInt8))(cb:Nat)(F:Nat→Prop)(w w1:World)(b:Nat)(o:Obj)(seen:List (List UInt8))(c:List (Option aH))(W:World):Prop:=
 ∃G,(∀k,F k→G k)∧fU fp fb nms cb G w c seen W∧Loc cb w1 b o W
theorem oR.emit{nms:List (List UInt8)}{w w1 W:World}{b:Nat}{o:Obj}{c:List (Option aH)}(hq:oR fp fb nms cb F w w1 b o seen c W){u:Value}{i:Option aH}(hu:∀G,O2 fp G W u i)(hn:c.length≤1000000):
 Calls Tryz.prog 238 #[.pointer (some ⟨cb,0,none⟩),u] W fun e w'=>e=.returned (.int .i64 c.length)∧oR fp fb nms cb F w w1 b o seen (c++[i]) w':=by
 obtain⟨G,hG,hto,hL⟩:=hq;refine(pU (o:=i) hto.1 (hu G) hn).mono ?_;rintro e w' ⟨he,h1,h2⟩;exact⟨he,G,hG,⟨h1,hto.2.trans h2⟩,hL.step h2⟩
theorem oR.patch{nms:List (List UInt8)}{w w1 W:World}{b:Nat}{o:Obj}{pre post:List (Option aH)}(hq:oR fp fb nms cb F w w1 b o seen (pre++none::post) W)(k:Nat)(hk:k=pre.length)(ty:TypeId)(i:Nat→aH)(hi:∀G n,kL fp G W (.iface ty (.agg #[.int .i64 (n:Nat)])) (i n))(hn:(pre++none::post).length≤1000000):
 cb<W.heap.size∧∃g n c,W.cell? ⟨cb,1,none⟩=some (.slice (some ⟨g,0,none⟩) n c)∧k<n∧n≤1000000∧(∃u,W.cell? ⟨g,k,none⟩=some u)∧W.frozen? ⟨g,k,none⟩=false∧g<W.heap.size∧∀W',aW (W.setCell ⟨g,k,none⟩ (.iface ty (.agg #[.int .i64 (n:Nat)]))) W'→oR fp fb nms cb F w w1 b o seen (pre++some (i (pre++none::post).length)::post) W':=by
 obtain⟨G,hG,⟨hc1,hc2⟩,hL⟩:=hq;obtain⟨g,c,p1,p2,p3,p4,p5⟩:=hc1.patch;subst hk;refine⟨hc1.lt,g,_,c,p1,by simp,hn,p2,p3,p4,fun W' hS=>?_⟩
 obtain⟨q1,q2⟩:=p5 _ _ W' (hi G _) hS;exact⟨G,hG,⟨q1,hc2.trans q2⟩,hL.step q2⟩
theorem oR.blockk(IH:OR fp fb fs cb lo d){w w1 W:World}{b:Nat}{o:Obj}{c:List (Option aH)}(hq:oR fp fb (fs.map (·.text)) cb F w w1 b o seen c W)(v:Value)(l:List aC)(hv:PKid (Btw lo cb) w v l)(ho:Hs.StsOk (dI fs d) seen l)(hli:∀a∈l,lO a)(hl:l.length≤1000000)(hsn:seen.length≤90001)(hn:c.length+(bF (bA fs d) seen l c.length).length≤1000000):
 Calls Tryz.prog 337 #[.pointer (some ⟨cb,0,none⟩),v] W fun e w'=>e=.returned (.tuple #[])∧oR fp fb (fs.map (·.text)) cb F w w1 b o seen (c++(bF (bA fs d) seen l c.length).map some) w':=by
 obtain⟨G,hG,hto,hL⟩:=hq;refine(SM IH v l c W hto.1 (hv.below hto.2.bel) ho hli hl hsn hn).mono ?_;rintro e w' ⟨he,H,hH,hto2⟩;exact⟨he,H,fun k hk=>hH k (hG k hk),hto2.then hto.2,hL.step hto2.2⟩
theorem oR.exprk{w w1 W:World}{b:Nat}{o:Obj}{c:List (Option aH)}(hq:oR fp fb (fs.map (·.text)) cb F w w1 b o seen c W)(hfn:fs.length≤1000000)(hfp:∀k,k<fs.length→fp k=.pointer (some ⟨fb k,0,none⟩))(hsn:seen.length≤90001)(v:Value)(a:aC)(hv:PN (Btw lo cb) w v a)(ho:Hs.ExOk fs false seen d a)(hli:lO a)(hn:c.length+(aG fs seen d a c.length).length≤1000000):
 Calls Tryz.prog 233 #[.pointer (some ⟨cb,0,none⟩),v] W fun e w'=>e=.returned (.tuple #[])∧oR fp fb (fs.map (·.text)) cb F w w1 b o seen (c++(aG fs seen d a c.length).map some) w':=by
 obtain⟨G,hG,hto,hL⟩:=hq;refine(qL (by omega) hfn hfp d v a c W hto.1 (hv.below hto.2.bel) ho (hli d) hn).mono ?_
 rintro e w' ⟨he,hto2⟩;exact⟨he,G,hG,hto2.then hto.2,hL.step hto2.2⟩
theorem oR.exprsk{w w1 W:World}{b:Nat}{o:Obj}{c:List (Option aH)}(hq:oR fp fb (fs.map (·.text)) cb F w w1 b o seen c W)(hfn:fs.length≤1000000)(hfp:∀k,k<fs.length→fp k=.pointer (some ⟨fb k,0,none⟩))(hsn:seen.length≤90001)(v:Value)(l:List aC)(hv:PKid (Btw lo cb) w v l)(ho:∀a∈l,Hs.ExOk fs false seen d a)(hli:∀a∈l,lO a)(hl:l.length≤1000000)(hn:c.length+(bO (aG fs seen d) l c.length).length≤1000000):
 Calls Tryz.prog 287 #[.pointer (some ⟨cb,0,none⟩),v] W fun e w'=>e=.returned (.tuple #[])∧oR fp fb (fs.map (·.text)) cb F w w1 b o seen (c++(bO (aG fs seen d) l c.length).map some) w':=by
 obtain⟨G,hG,hto,hL⟩:=hq;refine(qK (qL (by omega) hfn hfp d) v l c W hto.1 (hv.below hto.2.bel) ho (fun a ha=>hli a ha d) hl hn).mono ?_
 rintro e w' ⟨he,hto2⟩;exact⟨he,G,hG,hto2.then hto.2,hL.step hto2.2⟩
theorem oR.fin{nms:List (List UInt8)}{w w1 W:World}{b:Nat}{o:Obj}{c:List (Option aH)}(hq:oR fp fb nms cb F w w1 b o seen c W):KC fp fb nms cb F w c seen W:=by
 obtain⟨G,hG,hto,_⟩:=hq;exact⟨G,hG,hto⟩
theorem oR.box{nms:List (List UInt8)}{w w1 W:World}{b:Nat}{cs:Array Value}{T:TypeId}{c:List (Option aH)}(hq:oR fp fb nms cb F w w1 b (.cells cs T) seen c W):W.heap[b]?=some (.cells cs T (0,0)):=by
 obtain⟨G,hG,_,hL⟩:=hq;exact hL.blk
theorem CP.cpB{nms:List (List UInt8)}{w:World}{code:List (Option aH)}(h:CP fp fb nms cb F w code seen)(o:Obj):oR fp fb nms cb F w w w.heap.size o seen code (w.alloc o):=by
 obtain⟨hloc,hcp⟩:=h.new o;exact⟨F,fun _ h=>h,⟨hcp,hloc.fb⟩,hloc⟩
theorem wP(IH:OR fp fb fs cb lo d)(hfn:fs.length≤1000000)(hfp:∀k,k<fs.length→fp k=.pointer (some ⟨fb k,0,none⟩))(hsn:seen.length≤90001)(l:Int)(v1 s1 s2:Value)(c:aC)(lt le:List aC)(code:List (Option aH))(w:World)(h:CP fp fb (fs.map (·.text)) cb F w code seen)
 (hv:PN (Btw lo cb) w v1 c) (ht:PKid (Btw lo cb) w s1 lt) (he:PKid (Btw lo cb) w s2 le) (ho:Hs.ExOk fs false seen d c) (ho1:Hs.StsOk (dI fs d) seen lt) (ho2:Hs.StsOk (dI fs d) seen le) (hl:lO c) (hl1:∀a∈lt,lO a) (hl2:∀a∈le,lO a) (hn1:lt.length≤1000000) (hn2:le.length≤1000000)
 (cc ct ce:List aH) (hcc:aG fs seen d c code.length=cc) (hct:bF (bA fs d) seen lt (code.length+cc.length+1)=ct) (hce:bF (bA fs d) seen le (code.length+cc.length+1+ct.length+1)=ce) (hn:code.length+cc.length+1+ct.length+1+ce.length≤1000000):
 Calls Tryz.prog 324 #[.pointer (some ⟨cb,0,none⟩),.agg #[.int .i64 l,v1,s1,s2]] w fun e w'=>e=.returned (.tuple #[])∧KC fp fb (fs.map (·.text)) cb F w (code++(cc++[aH.skip (code.length+cc.length+1+ct.length+1)]++ct++[aH.jump (code.length+cc.length+1+ct.length+1+ce.length)]++ce).map some) seen w':=by
 obtain⟨T1,cs1,rfl⟩:=hv.form;obtain⟨x1,c1,rfl⟩:=ht.sliceC;obtain⟨x2,c2,rfl⟩:=he.sliceC;have hb0:=h.cpB (.cells #[.int .i64 l,.iface T1 (.agg cs1),.slice x1 lt.length c1,.slice x2 le.length c2] 334)
 refine(OF w cb (code.length+cc.length) (code.length+cc.length+1+ct.length) l T1 (.agg cs1) x1 x2 lt.length le.length c1 c2
  (fun W=>KC fp fb (fs.map (·.text)) cb F w ((code++cc.map some++some (aH.skip (code.length+cc.length+1+ct.length+1))::ct.map some)++some (aH.jump (code.length+cc.length+1+ct.length+1+ce.length))::ce.map some) seen W)
  (oR fp fb (fs.map (·.text)) cb F w w w.heap.size (.cells #[.int .i64 l,.iface T1 (.agg cs1),.slice x1 lt.length c1,.slice x2 le.length c2] 334) seen (code++cc.map some))
  (oR fp fb (fs.map (·.text)) cb F w w w.heap.size (.cells #[.int .i64 l,.iface T1 (.agg cs1),.slice x1 lt.length c1,.slice x2 le.length c2] 334) seen (code++cc.map some++[none]))
  (oR fp fb (fs.map (·.text)) cb F w w w.heap.size (.cells #[.int .i64 l,.iface T1 (.agg cs1),.slice x1 lt.length c1,.slice x2 le.length c2] 334) seen (code++cc.map some++[none]++ct.map some))
  (oR fp fb (fs.map (·.text)) cb F w w w.heap.size (.cells #[.int .i64 l,.iface T1 (.agg cs1),.slice x1 lt.length c1,.slice x2 le.length c2] 334) seen (code++cc.map some++[none]++ct.map some++[none]))
  (oR fp fb (fs.map (·.text)) cb F w w w.heap.size (.cells #[.int .i64 l,.iface T1 (.agg cs1),.slice x1 lt.length c1,.slice x2 le.length c2] 334) seen (code++cc.map some++some (aH.skip (code.length+cc.length+1+ct.length+1))::(ct.map some++[none])))
  (oR fp fb (fs.map (·.text)) cb F w w w.heap.size (.cells #[.int .i64 l,.iface T1 (.agg cs1),.slice x1 lt.length c1,.slice x2 le.length c2] 334) seen (code++cc.map some++some (aH.skip (code.length+cc.length+1+ct.length+1))::(ct.map some++[none])++ce.map some))
  ?_ (fun W hq=>?_) (fun W hq=>?_) (fun W hq=>?_) (fun W hq=>?_) (fun W hq=>?_) (fun W hq=>?_) (fun W hq=>?_) (fun W hq=>?_)).mono ?_
 ·have:=hb0.exprk hfn hfp hsn _ c hv ho hl (by rw[hcc];omega)
  rw[hcc] at this;exact this
 ·have:=hq.emit (u:=.nilIface) (i:=none) (fun _=>rfl) (by simp;omega)
  rw[fH] at this;exact this
 ·exact⟨aA hq.box rfl,aD hq.box⟩
 ·have hcl:(code++cc.map some++[none]).length=code.length+cc.length+1:=by simp;omega
  have:=hq.blockk IH _ lt ht ho1 hl1 hn1 hsn (by rw[hcl,hct];omega)
  rw[hcl,hct] at this;exact this
 ·have hcl:(code++cc.map some++[none]++ct.map some).length=code.length+cc.length+1+ct.length:=by simp;omega
  have:=hq.emit (u:=.nilIface) (i:=none) (fun _=>rfl) (by rw[hcl];omega)
  rw[hcl] at this;exact this
 ·have e0:code++cc.map some++[none]++ct.map some++[none]=(code++cc.map some)++none::(ct.map some++[none]):=by simp
  rw[e0] at hq;have hnl:((code++cc.map some)++none::(ct.map some++[none])).length=code.length+cc.length+1+ct.length+1:=by simp;omega
  have:=hq.patch (code.length+cc.length) (by rw[fH]) 461 (fun n=>.skip n) (fun _ _=>rfl) (by rw[hnl];omega)
  rw[hnl] at this;exact this
 ·exact⟨aA hq.box rfl,aD hq.box⟩
 ·have hcl:(code++cc.map some++some (aH.skip (code.length+cc.length+1+ct.length+1))::(ct.map some++[none])).length=code.length+cc.length+1+ct.length+1:=by simp;omega
  have:=hq.blockk IH _ le he ho2 hl2 hn2 hsn (by rw[hcl,hce];omega)
  rw[hcl,hce] at this;exact this
 ·have e0:code++cc.map some++some (aH.skip (code.length+cc.length+1+ct.length+1))::(ct.map some++[none])++ce.map some=(code++cc.map some++some (aH.skip (code.length+cc.length+1+ct.length+1))::ct.map some)++none::ce.map some:=by simp
  rw[e0] at hq;have hnl:((code++cc.map some++some (aH.skip (code.length+cc.length+1+ct.length+1))::ct.map some)++none::ce.map some).length=code.length+cc.length+1+ct.length+1+ce.length:=by simp;omega
  have hpl:code.length+cc.length+1+ct.length=(code++cc.map some++some (aH.skip (code.length+cc.length+1+ct.length+1))::ct.map some).length:=by simp;omega
  have:=hq.patch (code.length+cc.length+1+ct.length) hpl 462 (fun n=>.jump n) (fun _ _=>rfl) (by rw[hnl];omega)
  rw[hnl] at this;obtain⟨a1,g,n,cc',a2,a3,a4,a5,a6,a7,a8⟩:=this;exact⟨a1,g,n,cc',a2,a3,a4,a5,a6,a7,fun W' hS=>(a8 W' hS).fin⟩
 ·intro e W hq;have e9:code++(cc++[aH.skip (code.length+cc.length+1+ct.length+1)]++ct++[aH.jump (code.length+cc.length+1+ct.length+1+ce.length)]++ce).map some=(code++cc.map some++some (aH.skip (code.length+cc.length+1+ct.length+1))::ct.map some)++some (aH.jump (code.length+cc.length+1+ct.length+1+ce.length))::ce.map some:=by simp
  rw[e9];exact hq
theorem XX(IH:OR fp fb fs cb lo d)(hfn:fs.length≤1000000)(hfp:∀k,k<fs.length→fp k=.pointer (some ⟨fb k,0,none⟩))(hsn:seen.length≤90001)(l:Int)(start:Nat)(v1 s1:Value)(c:aC)(lt:List aC)(code:List (Option aH))(w:World)(h:CP fp fb (fs.map (·.text)) cb F w code seen)
 (hv:PN (Btw lo cb) w v1 c) (ht:PKid (Btw lo cb) w s1 lt) (ho:Hs.ExOk fs false seen d c) (ho1:Hs.StsOk (dI fs d) seen lt) (hl:lO c) (hl1:∀a∈lt,lO a) (hn1:lt.length≤1000000)
 (cc ct:List aH) (hcc:aG fs seen d c code.length=cc) (hct:bF (bA fs d) seen lt (code.length+cc.length+1)=ct) (hn:code.length+cc.length+1+ct.length+1≤1000000):
 Calls Tryz.prog 325 #[.pointer (some ⟨cb,0,none⟩),.agg #[.int .i64 l,v1,s1],.int .i64 start] w fun e w'=>e=.returned (.tuple #[])∧KC fp fb (fs.map (·.text)) cb F w (code++(cc++[aH.skip (code.length+cc.length+1+ct.length+1)]++ct++[aH.jump start]).map some) seen w':=by
 obtain⟨T1,cs1,rfl⟩:=hv.form;obtain⟨x1,c1,rfl⟩:=ht.sliceC;have hb0:=h.cpB (.cells #[.int .i64 l,.iface T1 (.agg cs1),.slice x1 lt.length c1] 336)
 refine(WU w cb (code.length+cc.length) start l T1 (.agg cs1) x1 lt.length c1
  (fun W=>KC fp fb (fs.map (·.text)) cb F w ((code++cc.map some)++some (aH.skip (code.length+cc.length+1+ct.length+1))::(ct.map some++[some (aH.jump start)])) seen W)
  (oR fp fb (fs.map (·.text)) cb F w w w.heap.size (.cells #[.int .i64 l,.iface T1 (.agg cs1),.slice x1 lt.length c1] 336) seen (code++cc.map some))
  (oR fp fb (fs.map (·.text)) cb F w w w.heap.size (.cells #[.int .i64 l,.iface T1 (.agg cs1),.slice x1 lt.length c1] 336) seen (code++cc.map some++[none]))
  (oR fp fb (fs.map (·.text)) cb F w w w.heap.size (.cells #[.int .i64 l,.iface T1 (.agg cs1),.slice x1 lt.length c1] 336) seen (code++cc.map some++[none]++ct.map some))
  (oR fp fb (fs.map (·.text)) cb F w w w.heap.size (.cells #[.int .i64 l,.iface T1 (.agg cs1),.slice x1 lt.length c1] 336) seen (code++cc.map some++[none]++ct.map some++[some (aH.jump start)]))
  ?_ (fun W hq=>?_) (fun W hq=>?_) (fun W hq=>?_) (fun W hq=>?_) (fun W hq=>?_)).mono ?_
 ·have:=hb0.exprk hfn hfp hsn _ c hv ho hl (by rw[hcc];omega)
  rw[hcc] at this;exact this
 ·have:=hq.emit (u:=.nilIface) (i:=none) (fun _=>rfl) (by simp;omega)
  rw[fH] at this;exact this
 ·exact⟨aA hq.box rfl,aD hq.box⟩
 ·have hcl:(code++cc.map some++[none]).length=code.length+cc.length+1:=by simp;omega
  have:=hq.blockk IH _ lt ht ho1 hl1 hn1 hsn (by rw[hcl,hct];omega)
  rw[hcl,hct] at this;exact this
 ·have hcl:(code++cc.map some++[none]++ct.map some).length=code.length+cc.length+1+ct.length:=by simp;omega
  refine(hq.emit (u:=.iface 462 (.agg #[.int .i64 start])) (i:=some (aH.jump start)) (fun _=>rfl) (by rw[hcl];omega)).mono ?_
  rintro e w' ⟨he,h2⟩;exact⟨⟨_,he⟩,h2⟩
 ·have e0:code++cc.map some++[none]++ct.map some++[some (aH.jump start)]=(code++cc.map some)++none::(ct.map some++[some (aH.jump start)]):=by simp
  rw[e0] at hq;have hnl:((code++cc.map some)++none::(ct.map some++[some (aH.jump start)])).length=code.length+cc.length+1+ct.length+1:=by simp;omega
  have:=hq.patch (code.length+cc.length) (by rw[fH]) 461 (fun n=>.skip n) (fun _ _=>rfl) (by rw[hnl];omega)
  rw[hnl] at this;obtain⟨a1,g,n,cc',a2,a3,a4,a5,a6,a7,a8⟩:=this;exact⟨a1,g,n,cc',a2,a3,a4,a5,a6,a7,fun W' hS=>(a8 W' hS).fin⟩
 ·intro e W hq;have e9:code++(cc++[aH.skip (code.length+cc.length+1+ct.length+1)]++ct++[aH.jump start]).map some=(code++cc.map some)++some (aH.skip (code.length+cc.length+1+ct.length+1))::(ct.map some++[some (aH.jump start)]):=by simp
  rw[e9];exact hq
end
section
variable {fp:Nat→Value} {fb:Nat→Nat} {fs:List aC} {cb lo:Nat} {d:Nat}
theorem fU.cpB{F:Nat→Prop}{seen:List (List UInt8)}{nms:List (List UInt8)}{w W:World}{code:List (Option aH)}(h:fU fp fb nms cb F w code seen W)(o:Obj):oR fp fb nms cb F w W W.heap.size o seen code (W.alloc o):=by
 obtain⟨hloc,hcp⟩:=h.1.new o;exact⟨F,fun _ h=>h,⟨hcp,h.2.trans hloc.fb⟩,hloc⟩
theorem E1(IH:OR fp fb fs cb lo d)(hfn:fs.length≤1000000)(hfp:∀k,k<fs.length→fp k=.pointer (some ⟨fb k,0,none⟩)):OR fp fb fs cb lo (d+1):=by
 intro F seen v a code w h hpn hok hli hsn hlen;obtain⟨T,cs,ps,rfl,hsh,hps⟩:=hpn.parts;obtain⟨fv,cv,sp,h1,_,h4,_⟩:=h.blk;obtain⟨p,rfl⟩:=h4.form;have hlt:=h.lt;have hc2:w.cell? ⟨cb,2,none⟩=some (.pointer p):=aA h1 rfl
 have beg:code.length+1≤1000000→Calls Tryz.prog 238 #[.pointer (some ⟨cb,0,none⟩),.iface 365 (.agg #[.int .i64 a.line,.pointer p])] (w.drew.alloc (.cells #[.int .i64 a.line] 209)) fun e w'=>e=.returned (.int .i64 code.length)∧fU fp fb (fs.map (·.text)) cb F w (code++[some (.begin a.line seen)]) seen w':=fun hn=>by
  have hb:Below w.heap.size w (w.drew.alloc (.cells #[.int .i64 a.line] 209)):=((Below.refl _ w).drew).alloc (Nat.le_refl _) _;have h':=h.grow hb;refine(pU (o:=some (.begin a.line seen)) h' ⟨_,rfl,eO.keep (fun b hb'=>hb.block b (h.fix b hb').1) (fun _ h=>h) h4⟩ (by omega)).mono ?_
  rintro e w' ⟨he,q1,q2⟩;exact⟨he,q1,(FB.of_below hb hlt).trans q2⟩
 have hcl:(code++[some (aH.begin a.line seen)]).length=code.length+1:=by simp
 have hsn':seen.length≤1000000:=by omega
 have no:∀{x y:List UInt8} {p:Prop},a.op=x→x≠y→a.op=y→p:=fun e1 e2 e3=>absurd (e1.symm.trans e3) e2
 rcases hsh with ⟨_,_,_,hop,_⟩|⟨_,_,hop,_⟩|⟨_,_,hop,_⟩|⟨_,_,_,hop,_⟩|⟨_,_,_,hop,_⟩|⟨_,_,hop,_⟩|⟨_,_,_,_,_,_,_,hop,_⟩|⟨_,o,_,_,_,hoo,hop,_⟩|⟨_,_,_,_,_,_,_,hop,_⟩|⟨rfl,v1,t,a1,rfl,hop,hkd,rfl⟩|⟨rfl,sv,v1,l,a1,rfl,hop,hkd,rfl⟩|⟨rfl,v1,s1,a1,b1,rfl,hop,hb1,hkd,rfl⟩|⟨rfl,v1,s1,s2,a1,b1,b2,rfl,hop,hb1,hb2,hkd,rfl⟩|⟨rfl,v1,s1,a1,b1,rfl,hop,hb1,hkd,rfl⟩|⟨rfl,l,rfl,hop,hkd,rfl⟩|⟨rfl,v1,a1,rfl,hop,hkd,rfl⟩|⟨rfl,v1,a1,rfl,hop,hkd,rfl⟩|⟨rfl,sv,c,rfl,hop,hln,htx,hkd,hcop,rfl⟩
 iterate 7
  ·exfalso;rcases hok with ⟨h1,_⟩|⟨h1,_⟩|⟨h1,_⟩|⟨h1,_⟩|⟨h1,_⟩|⟨h1,_⟩|⟨h1,_⟩<;>exact no hop (by decide) h1
 ·exfalso;rcases hoo with rfl|rfl<;>(rcases hok with ⟨h1,_⟩|⟨h1,_⟩|⟨h1,_⟩|⟨h1,_⟩|⟨h1,_⟩|⟨h1,_⟩|⟨h1,_⟩<;>exact no hop (by decide) h1)
 ·exfalso;rcases hok with ⟨h1,_⟩|⟨h1,_⟩|⟨h1,_⟩|⟨h1,_⟩|⟨h1,_⟩|⟨h1,_⟩|⟨h1,_⟩<;>(rw[h1] at hop;exact hop rfl)
 ·-- var
  have hx:Hs.ExOk fs false seen d a1∧seen.length≤90000:=by
   rcases hok with ⟨_,h2,t',v',hk,h3,_⟩|⟨h1,_⟩|⟨h1,_⟩|⟨h1,_⟩|⟨h1,_⟩|⟨h1,_⟩|⟨h1,_⟩
   ·rw[hkd] at hk;simp at hk;rw[hk.2];exact⟨h3,h2⟩
   all_goals exact no hop (by decide) h1
  have hst:=I4 fs seen d a code.length t a1 hop hkd;rw[hst] at hlen ⊢
  simp only[List.length_append,List.length_cons,List.length_nil] at hlen;have hp:=hps ⟨v1,[a1],true⟩ (by simp)
  obtain⟨T1,cs1,rfl⟩:=hp.one'.form;have hla:=hli.kid (k:=a1) (by rw[hkd];simp)
  refine(zV w cb code.length a.line p t.line (bs t.text) T1 (.agg cs1) seen.length (fun W=>KC fp fb (fs.map (·.text)) cb F w (code++(aH.begin a.line seen::aG fs seen d a1 (code.length+1)++[aH.declare seen.length]).map some) (t.text::seen) W) _
   (fun b W=>∃W0,oR fp fb (fs.map (·.text)) cb F w W0 b (.cells #[.int .i64 a.line,.int .i64 t.line,.string (bs t.text),.iface T1 (.agg cs1)] 329) seen ((code++[some (.begin a.line seen)])++(aG fs seen d a1 (code.length+1)).map some) W)
   (fun b W=>∃W0,oR fp fb (fs.map (·.text)) cb F w W0 b (.cells #[.int .i64 a.line,.int .i64 t.line,.string (bs t.text),.iface T1 (.agg cs1)] 329) seen ((code++[some (.begin a.line seen)])++(aG fs seen d a1 (code.length+1)).map some++[some (.declare seen.length)]) W)
   hlt hc2 (beg (by omega)) (fun W hq=>?_) (fun b W hq=>?_) (fun b W hq=>?_) (fun b W hq=>?_) (fun b W hq=>?_))
  ·refine((hq.cpB _).exprk hfn hfp hsn _ a1 hp.one' hx.1 hla (by rw[hcl];omega)).mono ?_
   rintro e w' ⟨he,h2⟩;rw[hcl] at h2;exact⟨he,W,h2⟩
  ·obtain⟨W0,G,hG,hto,_⟩:=hq;exact NB hto.1 hsn'
  ·obtain⟨W0,hq⟩:=hq;refine(hq.emit (u:=.iface 443 (.agg #[.int .i64 seen.length])) (i:=some (.declare seen.length)) (fun _=>rfl) (by simp;omega)).mono ?_
   rintro e w' ⟨he,h2⟩;exact⟨⟨_,he⟩,W0,h2⟩
  ·obtain⟨W0,hq⟩:=hq;exact⟨aA hq.box rfl,aD hq.box⟩
  ·obtain⟨W0,G,hG,hto,_⟩:=hq;refine(TC t.text hto.1 hsn').mono ?_;rintro e w' ⟨he,q1,q2⟩;refine⟨he,fun k=>G k∨k=W.heap.size,fun k hk=>Or.inl (hG k hk),?_,hto.2.trans q2⟩
   simpa using q1
 ·-- an assignment
  have hx:a.text∈seen∧∀k∈a.kids,Hs.ExOk fs false seen d k:=by
   rcases hok with ⟨h1,_⟩|⟨_,h2,_,h3⟩|⟨h1,_⟩|⟨h1,_⟩|⟨h1,_⟩|⟨h1,_⟩|⟨h1,_⟩
   ·exact no hop (by decide) h1
   ·exact⟨h2,h3⟩
   all_goals exact no hop (by decide) h1
  have hst:=I5 fs seen d a code.length hop;have hkl:(l++[a1]).length-1=l.length:=by simp
  rw[hkd,mO,AB] at hst;rw[hkl] at hst;rw[hst] at hlen ⊢
  simp only[List.length_append,List.length_cons,List.length_nil] at hlen;have hp:=hps ⟨sv,l,false⟩ (by simp)
  have hp1:=hps ⟨v1,[a1],true⟩ (by simp)
  obtain⟨T1,cs1,rfl⟩:=hp1.one'.form;obtain⟨x,c,rfl⟩:=hp.many.sliceC;have hlk:=hli.len;rw[hkd,List.length_append] at hlk;generalize hs1:bO (aG fs seen d) l (code.length+1)=q1 at*;generalize hs2:aG fs seen d a1 (code.length+1+q1.length)=q2 at*
  refine(DB w cb code.length a.line p (bs a.text) x l.length c (dS seen a.text) T1 (.agg cs1) (fun W=>KC fp fb (fs.map (·.text)) cb F w (code++(aH.begin a.line seen::(q1++q2)++[aH.assign (dS seen a.text) l.length]).map some) seen W) _
   (fun b W=>∃W0,oR fp fb (fs.map (·.text)) cb F w W0 b (.cells #[.int .i64 a.line,.string (bs a.text),.slice x l.length c,.iface T1 (.agg cs1)] 332) seen ((code++[some (.begin a.line seen)])++q1.map some) W)
   (fun b W=>∃W0,oR fp fb (fs.map (·.text)) cb F w W0 b (.cells #[.int .i64 a.line,.string (bs a.text),.slice x l.length c,.iface T1 (.agg cs1)] 332) seen ((code++[some (.begin a.line seen)])++q1.map some++q2.map some) W)
   hlt hc2 (beg (by omega)) (fun W hq=>?_) (fun b W hq=>?_) (fun b W hq=>?_) (fun b W hq=>?_) (fun b W W' hq hS=>?_) (fun b W W' hq hS=>?_))
  ·refine((hq.cpB _).exprsk hfn hfp hsn _ l hp.many (fun k hk=>hx.2 k (by rw[hkd];simp[hk])) (fun k hk=>hli.kid (by rw[hkd];simp[hk])) (by omega) (by rw[hcl,hs1];omega)).mono ?_
   rintro e w' ⟨he,h2⟩;rw[hcl,hs1] at h2;exact⟨he,W,h2⟩
  ·obtain⟨W0,hq⟩:=hq;exact⟨aA hq.box rfl,aD hq.box⟩
  ·obtain⟨W0,hq⟩:=hq;have hcl2:((code++[some (aH.begin a.line seen)])++q1.map some).length=code.length+1+q1.length:=by simp;omega
   refine(hq.exprk hfn hfp hsn _ a1 hp1.one' (hx.2 a1 (by rw[hkd];simp)) (hli.kid (by rw[hkd];simp)) (by rw[hcl2,hs2];omega)).mono ?_
   rintro e w' ⟨he,h2⟩;rw[hcl2,hs2] at h2;exact⟨he,W0,h2⟩
  ·obtain⟨W0,hq⟩:=hq;exact⟨aA hq.box rfl,aA hq.box rfl,aD hq.box⟩
  ·obtain⟨W0,G,hG,hto,_⟩:=hq;exact LA a.text (hto.1.grow hS.below) hx.1 hsn'
  ·obtain⟨W0,G,hG,hto,hL⟩:=hq;have hto':fU fp fb (fs.map (·.text)) cb G w ((code++[some (.begin a.line seen)])++q1.map some++q2.map some) seen W':=⟨hto.1.grow hS.below,hto.2.trans (FB.of_below hS.below hto.1.lt)⟩
   refine(emits (i:=.assign (dS seen a.text) l.length) hto' rfl (by simp;omega)).mono ?_
   rintro e w' ⟨he,h2⟩;refine⟨he,G,hG,?_⟩;have e9:code++(aH.begin a.line seen::(q1++q2)++[aH.assign (dS seen a.text) l.length]).map some=(code++[some (.begin a.line seen)])++q1.map some++q2.map some++[some (.assign (dS seen a.text) l.length)]:=by simp
   rw[e9];exact h2
 ·-- if,without else
  have hx:Hs.ExOk fs false seen d a1∧Hs.StsOk (dI fs d) seen b1.kids:=by
   rcases hok with ⟨h1,_⟩|⟨h1,_⟩|⟨_,c',t',hk,h3,h4⟩|⟨h1,_⟩|⟨h1,_⟩|⟨h1,_⟩|⟨h1,_⟩
   rotate_left 2
   ·rcases hk with hk|⟨x,hk,_⟩
    ·rw[hkd] at hk;simp at hk;rw[hk.1,hk.2];exact⟨h3,h4⟩
    ·rw[hkd] at hk;simp at hk
   all_goals exact no hop (by decide) h1
  have hst:=I7 fs seen d a code.length a1 b1 hop hkd;rw[hst] at hlen ⊢
  have hp1:=hps ⟨v1,[a1],true⟩ (by simp)
  have hp2:=hps ⟨s1,b1.kids,false⟩ (by simp)
  have hla:=hli.kid (k:=a1) (by rw[hkd];simp)
  have hlb:=hli.kid (k:=b1) (by rw[hkd];simp)
  obtain⟨T1,cs1,rfl⟩:=hp1.one'.form;obtain⟨x,c,rfl⟩:=hp2.many.sliceC;generalize hcc:aG fs seen d a1 (code.length+1)=cc at*;generalize hct:bF (bA fs d) seen b1.kids (code.length+1+cc.length+1)=ct at*;simp only[List.length_append,List.length_cons,List.length_nil] at hlen;refine EP w cb code.length a.line p T1 (.agg cs1) x none b1.kids.length 0 c 0 _ _ hlt hc2 (beg (by omega)) (fun W hq=>?_)
  obtain⟨G,hG,hto,_⟩:=hq.cpB (.cells #[.int .i64 a.line,.iface T1 (.agg cs1),.slice x b1.kids.length c,.slice none 0 0] 334);refine(wP (d:=d) IH hfn hfp hsn a.line _ _ _ a1 b1.kids [] _ _ hto.1 (hp1.one'.below hto.2.bel) (hp2.many.below hto.2.bel) (Or.inl ⟨rfl,rfl⟩) hx.1 hx.2 trivial hla (fun k hk=>hlb.kid hk) (fun k hk=>by simp at hk) hlb.len (by simp) cc ct [] (by rw[hcl];exact hcc) (by rw[hcl];exact hct) rfl (by rw[hcl];simp;omega)).mono ?_
  rintro e w' ⟨he,h2⟩;refine⟨he,?_⟩;have h3:=(h2.then hto.2).more hG
  rw[hcl] at h3;have e9:(code++[some (aH.begin a.line seen)])++(cc++[aH.skip (code.length+1+cc.length+1+ct.length+1)]++ct++[aH.jump (code.length+1+cc.length+1+ct.length+1+([]:List aH).length)]++[]).map some=code++(aH.begin a.line seen::cc++[aH.skip (code.length+1+cc.length+1+ct.length+1)]++ct++[aH.jump (code.length+1+cc.length+1+ct.length+1)]).map some:=by simp
  rw[e9] at h3;exact h3
 ·-- if,with else
  have hx:Hs.ExOk fs false seen d a1∧Hs.StsOk (dI fs d) seen b1.kids∧Hs.StsOk (dI fs d) seen b2.kids:=by
   rcases hok with ⟨h1,_⟩|⟨h1,_⟩|⟨_,c',t',hk,h3,h4⟩|⟨h1,_⟩|⟨h1,_⟩|⟨h1,_⟩|⟨h1,_⟩
   rotate_left 2
   ·rcases hk with hk|⟨x,hk,h5⟩
    ·rw[hkd] at hk;simp at hk
    ·rw[hkd] at hk;simp at hk;rw[hk.1,hk.2.1,hk.2.2];exact⟨h3,h4,h5⟩
   all_goals exact no hop (by decide) h1
  have hst:=I6 fs seen d a code.length a1 b1 b2 hop hkd;rw[hst] at hlen ⊢
  have hp1:=hps ⟨v1,[a1],true⟩ (by simp)
  have hp2:=hps ⟨s1,b1.kids,false⟩ (by simp)
  have hp3:=hps ⟨s2,b2.kids,false⟩ (by simp)
  have hla:=hli.kid (k:=a1) (by rw[hkd];simp)
  have hlb:=hli.kid (k:=b1) (by rw[hkd];simp)
  have hld:=hli.kid (k:=b2) (by rw[hkd];simp)
  obtain⟨T1,cs1,rfl⟩:=hp1.one'.form;obtain⟨x,c,rfl⟩:=hp2.many.sliceC;obtain⟨x2,c2',rfl⟩:=hp3.many.sliceC;generalize hcc:aG fs seen d a1 (code.length+1)=cc at*;generalize hct:bF (bA fs d) seen b1.kids (code.length+1+cc.length+1)=ct at*;generalize hce:bF (bA fs d) seen b2.kids (code.length+1+cc.length+1+ct.length+1)=ce at*;simp only[List.length_append,List.length_cons,List.length_nil] at hlen;refine EP w cb code.length a.line p T1 (.agg cs1) x x2 b1.kids.length b2.kids.length c c2' _ _ hlt hc2 (beg (by omega)) (fun W hq=>?_)
  obtain⟨G,hG,hto,_⟩:=hq.cpB (.cells #[.int .i64 a.line,.iface T1 (.agg cs1),.slice x b1.kids.length c,.slice x2 b2.kids.length c2'] 334);refine(wP (d:=d) IH hfn hfp hsn a.line _ _ _ a1 b1.kids b2.kids _ _ hto.1 (hp1.one'.below hto.2.bel) (hp2.many.below hto.2.bel) (hp3.many.below hto.2.bel) hx.1 hx.2.1 hx.2.2 hla (fun k hk=>hlb.kid hk) (fun k hk=>hld.kid hk) hlb.len hld.len cc ct ce (by rw[hcl];exact hcc) (by rw[hcl];exact hct) (by rw[hcl];exact hce) (by rw[hcl];omega)).mono ?_
  rintro e w' ⟨he,h2⟩;refine⟨he,?_⟩;have h3:=(h2.then hto.2).more hG
  rw[hcl] at h3;have e9:(code++[some (aH.begin a.line seen)])++(cc++[aH.skip (code.length+1+cc.length+1+ct.length+1)]++ct++[aH.jump (code.length+1+cc.length+1+ct.length+1+ce.length)]++ce).map some=code++(aH.begin a.line seen::cc++[aH.skip (code.length+1+cc.length+1+ct.length+1)]++ct++[aH.jump (code.length+1+cc.length+1+ct.length+1+ce.length)]++ce).map some:=by simp
  rw[e9] at h3;exact h3
 ·-- while
  have hx:Hs.ExOk fs false seen d a1∧Hs.StsOk (dI fs d) seen b1.kids:=by
   rcases hok with ⟨h1,_⟩|⟨h1,_⟩|⟨h1,_⟩|⟨_,c',t',hk,h3,h4⟩|⟨h1,_⟩|⟨h1,_⟩|⟨h1,_⟩
   rotate_left 3
   ·rw[hkd] at hk;simp at hk;rw[hk.1,hk.2];exact⟨h3,h4⟩
   all_goals exact no hop (by decide) h1
  have hst:=US fs seen d a code.length a1 b1 hop hkd;rw[hst] at hlen ⊢
  have hp1:=hps ⟨v1,[a1],true⟩ (by simp)
  have hp2:=hps ⟨s1,b1.kids,false⟩ (by simp)
  have hla:=hli.kid (k:=a1) (by rw[hkd];simp)
  have hlb:=hli.kid (k:=b1) (by rw[hkd];simp)
  obtain⟨T1,cs1,rfl⟩:=hp1.one'.form;obtain⟨x,c,rfl⟩:=hp2.many.sliceC;generalize hcc:aG fs seen d a1 (code.length+1)=cc at*;generalize hct:bF (bA fs d) seen b1.kids (code.length+1+cc.length+1)=ct at*;simp only[List.length_append,List.length_cons,List.length_nil] at hlen;refine GR w cb code.length a.line p T1 (.agg cs1) x b1.kids.length c _ _ hlt hc2 (beg (by omega)) (fun W hq=>?_)
  obtain⟨G,hG,hto,_⟩:=hq.cpB (.cells #[.int .i64 a.line,.iface T1 (.agg cs1),.slice x b1.kids.length c] 336);refine(XX (d:=d) IH hfn hfp hsn a.line code.length _ _ a1 b1.kids _ _ hto.1 (hp1.one'.below hto.2.bel) (hp2.many.below hto.2.bel) hx.1 hx.2 hla (fun k hk=>hlb.kid hk) hlb.len cc ct (by rw[hcl];exact hcc) (by rw[hcl];exact hct) (by rw[hcl];omega)).mono ?_
  rintro e w' ⟨he,h2⟩;refine⟨he,?_⟩;have h3:=(h2.then hto.2).more hG
  rw[hcl] at h3;have e9:(code++[some (aH.begin a.line seen)])++(cc++[aH.skip (code.length+1+cc.length+1+ct.length+1)]++ct++[aH.jump code.length]).map some=code++(aH.begin a.line seen::cc++[aH.skip (code.length+1+cc.length+1+ct.length+1)]++ct++[aH.jump code.length]).map some:=by simp
  rw[e9] at h3;exact h3
 ·-- return,without a value
  have hst:=KW fs seen d a code.length hop hkd;rw[hst] at hlen ⊢
  simp only[List.length_cons,List.length_nil] at hlen;refine qY w cb code.length a.line p _ _ _ _ (fun W=>KC fp fb (fs.map (·.text)) cb F w ((code++[some (aH.begin a.line seen)])++[some (.push (bB 0))]) seen W) hlt hc2 (beg (by omega)) (fun W hq=>?_) (fun W hq=>?_)
  ·obtain⟨G,hG,hto,_⟩:=hq.cpB (.cells #[.int .i64 a.line,.iface 397 (.agg #[.int .i64 l,.int .i64 0])] 338);obtain⟨G2,hG2,hto2,_⟩:=hto.cpB (.cells #[.int .i64 l,.int .i64 0] 397);refine(rD _ cb l 0 _ (emits (i:=.push (bB 0)) hto2 ⟨_,rfl,PV.num _ _ _ (by omega) (by omega),by rw[jL];omega⟩ (by simp;omega))).mono ?_
   rintro e w' ⟨he,h2⟩;exact⟨he,G2,fun k hk=>hG2 k (hG k hk),h2⟩
  ·obtain⟨G,hG,hto⟩:=hq;refine(emits (i:=.give) hto rfl (by simp;omega)).mono ?_
   rintro e w' ⟨he,h2⟩;refine⟨he,G,hG,?_⟩;have e9:code++([aH.begin a.line seen,.push (bB 0),.give]).map some=(code++[some (aH.begin a.line seen)])++[some (.push (bB 0))]++[some .give]:=by simp
   rw[e9];exact h2
 ·-- return
  have hx:Hs.ExOk fs false seen d a1:=by
   rcases hok with ⟨h1,_⟩|⟨h1,_⟩|⟨h1,_⟩|⟨h1,_⟩|⟨_,hk⟩|⟨h1,_⟩|⟨h1,_⟩
   rotate_left 4
   ·rcases hk with hk|⟨v',hk,h3⟩
    ·rw[hkd] at hk;simp at hk
    ·rw[hkd] at hk;simp at hk;rw[hk];exact h3
   all_goals exact no hop (by decide) h1
  have hst:=KV fs seen d a code.length a1 hop hkd;rw[hst] at hlen ⊢
  have hp1:=hps ⟨v1,[a1],true⟩ (by simp)
  have hla:=hli.kid (k:=a1) (by rw[hkd];simp)
  obtain⟨T1,cs1,rfl⟩:=hp1.one'.form;simp only[List.length_append,List.length_cons,List.length_nil] at hlen;refine qY w cb code.length a.line p _ _ _ _ (fun W=>∃W0,oR fp fb (fs.map (·.text)) cb F w W0 W0.heap.size (.cells #[.int .i64 a.line,.iface T1 (.agg cs1)] 338) seen ((code++[some (aH.begin a.line seen)])++(aG fs seen d a1 (code.length+1)).map some) W) hlt hc2 (beg (by omega)) (fun W hq=>?_) (fun W hq=>?_)
  ·refine((hq.cpB _).exprk hfn hfp hsn _ a1 hp1.one' hx hla (by rw[hcl];omega)).mono ?_
   rintro e w' ⟨he,h2⟩;rw[hcl] at h2;exact⟨he,W,h2⟩
  ·obtain⟨W0,hq⟩:=hq;refine(hq.emit (u:=.iface 363 (.agg #[])) (i:=some .give) (fun _=>rfl) (by simp;omega)).mono ?_
   rintro e w' ⟨he,h2⟩;refine⟨⟨_,he⟩,?_⟩;have e9:code++(aH.begin a.line seen::aG fs seen d a1 (code.length+1)++[aH.give]).map some=(code++[some (aH.begin a.line seen)])++(aG fs seen d a1 (code.length+1)).map some++[some .give]:=by simp
   rw[e9];exact h2.fin
 ·-- print
  have hx:Hs.ExOk fs false seen d a1:=by
   rcases hok with ⟨h1,_⟩|⟨h1,_⟩|⟨h1,_⟩|⟨h1,_⟩|⟨h1,_⟩|⟨_,v',hk,h3⟩|⟨h1,_⟩
   rotate_left 5
   ·rw[hkd] at hk;simp at hk;rw[hk];exact h3
   all_goals exact no hop (by decide) h1
  have hst:=UT fs seen d a code.length a1 hop hkd;rw[hst] at hlen ⊢
  have hp1:=hps ⟨v1,[a1],true⟩ (by simp)
  have hla:=hli.kid (k:=a1) (by rw[hkd];simp)
  obtain⟨T1,cs1,rfl⟩:=hp1.one'.form;simp only[List.length_append,List.length_cons,List.length_nil] at hlen;refine GS w cb code.length a.line p _ _ _ _ (fun W=>∃W0,oR fp fb (fs.map (·.text)) cb F w W0 W0.heap.size (.cells #[.int .i64 a.line,.iface T1 (.agg cs1)] 339) seen ((code++[some (aH.begin a.line seen)])++(aG fs seen d a1 (code.length+1)).map some) W) hlt hc2 (beg (by omega)) (fun W hq=>?_) (fun W hq=>?_)
  ·refine((hq.cpB _).exprk hfn hfp hsn _ a1 hp1.one' hx hla (by rw[hcl];omega)).mono ?_
   rintro e w' ⟨he,h2⟩;rw[hcl] at h2;exact⟨he,W,h2⟩
  ·obtain⟨W0,hq⟩:=hq;refine(hq.emit (u:=.iface 448 (.agg #[])) (i:=some .print) (fun _=>rfl) (by simp;omega)).mono ?_
   rintro e w' ⟨he,h2⟩;refine⟨⟨_,he⟩,?_⟩;have e9:code++(aH.begin a.line seen::aG fs seen d a1 (code.length+1)++[aH.print]).map some=(code++[some (aH.begin a.line seen)])++(aG fs seen d a1 (code.length+1)).map some++[some .print]:=by simp
   rw[e9];exact h2.fin
 ·-- a call alone
  have hx:Hs.ExOk fs false seen d c:=by
   rcases hok with ⟨h1,_⟩|⟨h1,_⟩|⟨h1,_⟩|⟨h1,_⟩|⟨h1,_⟩|⟨h1,_⟩|⟨_,v',hk,h3⟩
   rotate_left 6
   ·rw[hkd] at hk;simp at hk;rw[hk];exact h3
   all_goals exact no hop (by decide) h1
  have hst:=P2 fs seen d a code.length c hop hkd;rw[hst] at hlen ⊢
  rw[←hln];have hp:=hps ⟨sv,c.kids,false⟩ (by simp)
  have hla:=hli.kid (k:=c) (by rw[hkd];simp)
  obtain⟨x,cp,rfl⟩:=hp.many.sliceC;simp only[List.length_append,List.length_cons,List.length_nil] at hlen;refine KT w cb code.length a.line p _ _ _ _ _ _ (fun W=>KC fp fb (fs.map (·.text)) cb F w ((code++[some (aH.begin a.line seen)])++(aG fs seen d c (code.length+1)).map some) seen W) hlt hc2 (beg (by omega)) (fun W hq=>?_) (fun W hq=>?_)
  ·cases d with
   |zero=>exact hx.elim
   |succ d=>
    obtain⟨G,hG,hto,_⟩:=hq.cpB (.cells #[.int .i64 a.line,.string (bs c.text),.slice x c.kids.length cp] 341);refine(YG (qL (by omega) hfn hfp d) hfn hfp c _ a.line _ _ hto.1 hcop (hp.many.below hto.2.bel) hx (hla _) (by rw[hcl];omega)).mono ?_
    rintro e w' ⟨he,h2⟩;rw[hcl] at h2;exact⟨he,G,hG,h2.then hto.2⟩
  ·obtain⟨G,hG,hto⟩:=hq;refine(emits (i:=.drop) hto rfl (by simp;omega)).mono ?_
   rintro e w' ⟨he,h2⟩;refine⟨he,G,hG,?_⟩;have e9:code++(aH.begin a.line seen::aG fs seen d c (code.length+1)++[aH.drop]).map some=(code++[some (aH.begin a.line seen)])++(aG fs seen d c (code.length+1)).map some++[some .drop]:=by simp
   rw[e9];exact h2
theorem TV(hfn:fs.length≤1000000)(hfp:∀k,k<fs.length→fp k=.pointer (some ⟨fb k,0,none⟩)):∀d,OR fp fb fs cb lo d
 |0=>fun _ _ _ _ _ _ _ _ h=>h.elim
 |d+1=>E1 (TV hfn hfp d) hfn hfp
end
theorem YJ(w:World)(cb:Nat)(l:Int)(tx:ByteArray)(px bx:Option Addr)(np pc nb bc:Nat)(P:Value→World→Prop)(I:Nat→World→Prop)(Q R S:World→Prop)(hl:cb<w.heap.size)(hnp:np≤1000000)
 (c1:∃u,w.cell? ⟨cb,1,none⟩=some u) (c2:∃u,w.cell? ⟨cb,2,none⟩=some u) (f1:w.frozen? ⟨cb,1,none⟩=false) (f2:w.frozen? ⟨cb,2,none⟩=false)
 (HI:Hid (I 0 (((w.setCell ⟨cb,1,none⟩ (.slice none 0 0)).setCell ⟨cb,2,none⟩ (.pointer none)).alloc (.cells #[.int .i64 l,.string tx,.slice px np pc,.slice bx nb bc] 215))))
 (HP:Hid (∀j W,I j W→j<np→∃pg l2 t2,px=some ⟨pg,0,none⟩∧pg<W.heap.size∧W.cell? ⟨pg,j*2,none⟩=some (.int .i64 l2)∧W.cell? ⟨pg,j*2+1,none⟩=some (.string t2)∧Calls Tryz.prog 236 #[.pointer (some ⟨cb,0,none⟩),.string t2] (W.alloc (.cells #[.int .i64 l2,.string t2] 211)) fun e w'=>e=.returned (.tuple #[])∧I (j+1) w'))
 (HB:Hid (∀W,I np W→W.cell? ⟨w.heap.size,3,none⟩=some (.slice bx nb bc)∧w.heap.size<W.heap.size∧Calls Tryz.prog 237 #[.pointer (some ⟨cb,0,none⟩),.slice bx nb bc] W fun e w'=>e=.returned (.tuple #[])∧Q w'))
 (HE:Hid (∀W,Q W→Calls Tryz.prog 238 #[.pointer (some ⟨cb,0,none⟩),.iface 361 (.agg #[.iface 315 (.int .i64 0)])] W fun e w'=>(∃k:Nat,e=.returned (.int .i64 k))∧R w'))
 (HG:Hid (∀W,R W→Calls Tryz.prog 238 #[.pointer (some ⟨cb,0,none⟩),.iface 363 (.agg #[])] W fun e w'=>(∃k:Nat,e=.returned (.int .i64 k))∧S w'))
 (HS:Hid (∀W,S W→cb<W.heap.size∧∃x n c,W.cell? ⟨cb,1,none⟩=some (.slice x n c)∧P (.slice x n c) W)):
 Calls Tryz.prog 173 #[.pointer (some ⟨cb,0,none⟩),.agg #[.int .i64 l,.string tx,.slice px np pc,.slice bx nb bc]] w fun e w'=>∃cv,e=.returned cv∧P cv w':=by
 obtain⟨u1,c1⟩:=c1;obtain⟨u2,c2⟩:=c2;have hne:¬cb=w.heap.size:=by omega
 have hne2:¬w.heap.size=cb:=by omega
 go_enter Tryz.func173,Tryz.ntmps173;go_wp2_with fail;go_loopg [6,16] np (fun gk _ i wr=>∃j:Nat,j+gk=np∧i=.int .i64 j∧I j wr)
 case atStart=>exact⟨0,by omega,rfl,HI.out⟩
 case round=>
  obtain⟨j,hj,rfl,hC⟩:=hrel;clear c1 c2 f1 f2 HI;by_cases hlt:j<np
  ·obtain⟨m,rfl⟩:∃m,gk=m+1:=⟨gk-1,by omega⟩
   obtain⟨pg,l2,t2,rfl,hg,d1,d2,hcl⟩:=HP.out _ _ hC hlt;have HX:=aB hcl;have e1:(0:Int)≤(j:Int):=by omega
   have e2:(j:Int)<(np:Int):=by omega
   clear hC hcl;go_wp2_with fail;refine HX.out.mono ?_;rintro e w1 ⟨rfl,h1⟩;go_wp2_with fail;go_roundg m
   case measure=>omega
   case rel=>exact⟨j+1,by omega,by go_num,h1⟩
  ·have hjn:j=np:=by omega
   subst hjn;obtain⟨d1,d2,hcl⟩:=HB.out _ hC;have HX:=aB hcl;clear hC hcl;go_wp2_with fail;refine HX.out.mono ?_;rintro e w1 ⟨rfl,h1⟩;have HEE:=aB (HE.out _ h1);clear h1 d1;go_wp2_with fail;refine HEE.out.mono ?_;rintro e w2 ⟨⟨k,rfl⟩,h2⟩;have HGG:=aB (HG.out _ h2);clear h2;go_wp2_with fail;refine HGG.out.mono ?_;rintro e w3 ⟨⟨k2,rfl⟩,h3⟩;obtain⟨g1,x,n,c,g2,g3⟩:=HS.out _ h3;have HF:=aB g3;clear h3 g3;go_wp2_with fail;go_ret;exact⟨_,rfl,HF.out⟩
end Go.Proofs.YtblbkfdhjfppkaaGreatDoor
