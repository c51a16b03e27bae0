/- Contracts of the program: the compiler's blocks: the walks. -/
import Derived.Test.YtblbkfdhjfppkaaGreatDoorP19
import Derived.Test.YtblbkfdhjfppkaaGreatDoorP20
import Derived.Test.YtblbkfdhjfppkaaGreatDoorP12
import Derived.Test.YtblbkfdhjfppkaaGreatDoorP18
set_option maxRecDepth 100000
set_option maxHeartbeats 4000000
namespace Go.Proofs.YtblbkfdhjfppkaaGreatDoor
open Hs
open Tryz(prog)
open Go.RowKit
theorem zD(w:World)(cb g n cap:Nat)(C:Nat->World->Prop)(hn:n<=1000000)(h0:C 0 w)
 (HC:Hid (∀j W,C j W->j<n->g<W.heap.size/\∃t z,W.cell? ⟨g,j,none⟩=some (.iface t z)/\Calls prog 291 #[.pointer (some ⟨cb,0,none⟩),.iface t z] W fun e w'=>e=.returned (.tuple #[])/\C (j+1) w')):
 Calls prog 237 #[.pointer (some ⟨cb,0,none⟩),.slice (some ⟨g,0,none⟩) n cap] w fun e w'=>e=.returned (.tuple #[])/\C n w':=by
 have H0:=aB h0;clear h0;go_enter Tryz.func237,Tryz.ntmps237;go_wp2_with fail;go_loopg [5,8] n (fun gk _ i wr=>∃j:Nat,j+gk=n/\i=.int .i64 j/\C j wr)
 case atStart=>exact⟨0,by omega,rfl,H0.out⟩
 case round=>
  obtain⟨j,hj,rfl,hC⟩:=hrel;by_cases hlt:j<n
  ·obtain⟨m,rfl⟩:∃m,gk=m+1:=⟨gk-1,by omega⟩
   obtain⟨hg,t,z,c1,hcl⟩:=HC.out _ _ hC hlt;have HX:=aB hcl;have e1:(0:Int)<=(j:Int):=by omega
   have e2:(j:Int)<(n:Int):=by omega
   clear hC hcl;go_wp2_with fail;refine HX.out.mono ?_;rintro e w1 ⟨rfl,h1⟩;go_wp2_with fail;go_roundg m
   case measure=>omega
   case rel=>exact⟨j+1,by omega,by go_num,h1⟩
  ·have hjn:j=n:=by omega
   subst hjn;have HC':=aB hC;clear hC;go_wp2_with fail;go_end0;exact⟨rfl,HC'.out⟩
theorem BM(w:World)(cb:Nat):Calls prog 237 #[.pointer (some ⟨cb,0,none⟩),.slice none 0 0] w fun e w'=>e=.returned (.tuple #[])/\w'=w:=by
 go_enter Tryz.func237,Tryz.ntmps237;go_wp2_with fail;go_loopg [5,8] 0 (fun _ _ i wr=>i=.int .i64 0/\wr=w)
 case atStart=>exact⟨rfl,rfl⟩
 case round=>
  obtain⟨rfl,rfl⟩:=hrel;go_wp2_with fail;go_end0;exact⟨rfl,rfl⟩
theorem VH(w:World)(cb:Nat)(p x:Option Addr)(n c:Nat)(P Q:World->Prop)(c2:w.cell? ⟨cb,2,none⟩=some (.pointer p))
 (HX:Hid (Calls prog 237 #[.pointer (some ⟨cb,0,none⟩),.slice x n c] w fun e w'=>e=.returned (.tuple #[])/\Q w'))
 (HB:Hid (∀W,Q W->(∃u,W.cell? ⟨cb,2,none⟩=some u)/\W.frozen? ⟨cb,2,none⟩=false/\cb<W.heap.size/\P (W.setCell ⟨cb,2,none⟩ (.pointer p)))):
 Calls prog 337 #[.pointer (some ⟨cb,0,none⟩),.slice x n c] w fun e w'=>e=.returned (.tuple #[])/\P w':=by
 go_enter Tryz.func337,Tryz.ntmps337;go_wp2_with fail;refine HX.out.mono ?_;rintro e w1 ⟨rfl,h1⟩;obtain⟨⟨u,b1⟩,b2,b3,h2⟩:=HB.out _ h1;have HP:=aB h2;clear h1 h2;go_wp2_with fail;go_end0;exact⟨rfl,HP.out⟩
theorem QS(w:World)(cb k1 k2:Nat)(l:Int)(t1:TypeId)(z1:Value)(x1 x2:Option Addr)(n1 n2 c1 c2:Nat)(P Q1 Q2 Q3 Q4 Q5 Q6:World->Prop)
 (HX:Hid (Calls prog 233 #[.pointer (some ⟨cb,0,none⟩),.iface t1 z1] (w.alloc (.cells #[.int .i64 l,.iface t1 z1,.slice x1 n1 c1,.slice x2 n2 c2] 334)) fun e w'=>e=.returned (.tuple #[])/\Q1 w'))
 (HN1:Hid (∀W,Q1 W->Calls prog 238 #[.pointer (some ⟨cb,0,none⟩),.nilIface] W fun e w'=>e=.returned (.int .i64 k1)/\Q2 w'))
 (HB2:Hid (∀W,Q2 W->W.cell? ⟨w.heap.size,2,none⟩=some (.slice x1 n1 c1)/\w.heap.size<W.heap.size))
 (HT:Hid (∀W,Q2 W->Calls prog 337 #[.pointer (some ⟨cb,0,none⟩),.slice x1 n1 c1] W fun e w'=>e=.returned (.tuple #[])/\Q3 w'))
 (HN2:Hid (∀W,Q3 W->Calls prog 238 #[.pointer (some ⟨cb,0,none⟩),.nilIface] W fun e w'=>e=.returned (.int .i64 k2)/\Q4 w'))
 (HP1:Hid (∀W,Q4 W->cb<W.heap.size/\∃g n c,W.cell? ⟨cb,1,none⟩=some (.slice (some ⟨g,0,none⟩) n c)/\k1<n/\n<=1000000/\(∃u,W.cell? ⟨g,k1,none⟩=some u)/\W.frozen? ⟨g,k1,none⟩=false/\g<W.heap.size/\∀W',aY (W.setCell ⟨g,k1,none⟩ (.iface 461 (.agg #[.int .i64 n]))) W'->Q5 W'))
 (HB5:Hid (∀W,Q5 W->W.cell? ⟨w.heap.size,3,none⟩=some (.slice x2 n2 c2)/\w.heap.size<W.heap.size))
 (HL:Hid (∀W,Q5 W->Calls prog 337 #[.pointer (some ⟨cb,0,none⟩),.slice x2 n2 c2] W fun e w'=>e=.returned (.tuple #[])/\Q6 w'))
 (HP2:Hid (∀W,Q6 W->cb<W.heap.size/\∃g n c,W.cell? ⟨cb,1,none⟩=some (.slice (some ⟨g,0,none⟩) n c)/\k2<n/\n<=1000000/\(∃u,W.cell? ⟨g,k2,none⟩=some u)/\W.frozen? ⟨g,k2,none⟩=false/\g<W.heap.size/\∀W',aY (W.setCell ⟨g,k2,none⟩ (.iface 462 (.agg #[.int .i64 n]))) W'->P W')):
 Calls prog 324 #[.pointer (some ⟨cb,0,none⟩),.agg #[.int .i64 l,.iface t1 z1,.slice x1 n1 c1,.slice x2 n2 c2]] w fun e w'=>e=.returned (.tuple #[])/\P w':=by
 go_enter Tryz.func324,Tryz.ntmps324;go_wp2_with fail;refine HX.out.mono ?_;rintro e w1 ⟨rfl,h1⟩;have H1:=aB (HN1.out _ h1);clear h1;go_wp2_with fail;refine H1.out.mono ?_;rintro e w2 ⟨rfl,h2⟩;obtain⟨b1,b2⟩:=HB2.out _ h2;have H2:=aB (HT.out _ h2);clear h2;go_wp2_with fail;refine H2.out.mono ?_;rintro e w3 ⟨rfl,h3⟩;have H3:=aB (HN2.out _ h3);clear h3;go_wp2_with fail;refine H3.out.mono ?_;rintro e w4 ⟨rfl,h4⟩;obtain⟨f3,g,n,c,f4,f5,f6,⟨u,f7⟩,f8,f9,f10⟩:=HP1.out _ h4;have HP:=aB f10;have i1:(0:Int)<=(k1:Int):=by omega
 have i2:(k1:Int)<(n:Int):=by omega
 clear h4 f10;go_wp2_with fail;go_region
 all_goals
  have h5:=HP.out _ (aY.drew _);obtain⟨d1,d2⟩:=HB5.out _ h5;have H5:=aB (HL.out _ h5);clear h5;generalize hW:(w4.setCell ⟨g,k1,none⟩ (.iface 461 (.agg #[.int .i64 n]))).drew=w5 at*;have HW:=aB hW;clear hW;go_wp2_with fail;refine H5.out.mono ?_;rintro e w6 ⟨rfl,h6⟩;obtain⟨f3',g',n',c',f4',f5',f6',⟨u',f7'⟩,f8',f9',f10'⟩:=HP2.out _ h6;have HP':=aB f10';have i1':(0:Int)<=(k2:Int):=by omega
  have i2':(k2:Int)<(n':Int):=by omega
  clear h6 f10';go_wp2_with fail;go_region
  all_goals
   go_wp2_with fail;go_end0;exact⟨rfl,HP'.out _ (aY.drew _)⟩
theorem ZD(w:World)(cb k start:Nat)(l:Int)(t1:TypeId)(z1:Value)(x1:Option Addr)(n1 c1:Nat)(P Q1 Q2 Q3 Q4:World->Prop)
 (HX:Hid (Calls prog 233 #[.pointer (some ⟨cb,0,none⟩),.iface t1 z1] (w.alloc (.cells #[.int .i64 l,.iface t1 z1,.slice x1 n1 c1] 336)) fun e w'=>e=.returned (.tuple #[])/\Q1 w'))
 (HN1:Hid (∀W,Q1 W->Calls prog 238 #[.pointer (some ⟨cb,0,none⟩),.nilIface] W fun e w'=>e=.returned (.int .i64 k)/\Q2 w'))
 (HB2:Hid (∀W,Q2 W->W.cell? ⟨w.heap.size,2,none⟩=some (.slice x1 n1 c1)/\w.heap.size<W.heap.size))
 (HT:Hid (∀W,Q2 W->Calls prog 337 #[.pointer (some ⟨cb,0,none⟩),.slice x1 n1 c1] W fun e w'=>e=.returned (.tuple #[])/\Q3 w'))
 (HJ:Hid (∀W,Q3 W->Calls prog 238 #[.pointer (some ⟨cb,0,none⟩),.iface 462 (.agg #[.int .i64 start])] W fun e w'=>(∃k:Nat,e=.returned (.int .i64 k))/\Q4 w'))
 (HP1:Hid (∀W,Q4 W->cb<W.heap.size/\∃g n c,W.cell? ⟨cb,1,none⟩=some (.slice (some ⟨g,0,none⟩) n c)/\k<n/\n<=1000000/\(∃u,W.cell? ⟨g,k,none⟩=some u)/\W.frozen? ⟨g,k,none⟩=false/\g<W.heap.size/\∀W',aY (W.setCell ⟨g,k,none⟩ (.iface 461 (.agg #[.int .i64 n]))) W'->P W')):
 Calls prog 325 #[.pointer (some ⟨cb,0,none⟩),.agg #[.int .i64 l,.iface t1 z1,.slice x1 n1 c1],.int .i64 start] w fun e w'=>e=.returned (.tuple #[])/\P w':=by
 go_enter Tryz.func325,Tryz.ntmps325;go_wp2_with fail;refine HX.out.mono ?_;rintro e w1 ⟨rfl,h1⟩;have H1:=aB (HN1.out _ h1);clear h1;go_wp2_with fail;refine H1.out.mono ?_;rintro e w2 ⟨rfl,h2⟩;obtain⟨b1,b2⟩:=HB2.out _ h2;have H2:=aB (HT.out _ h2);clear h2;go_wp2_with fail;refine H2.out.mono ?_;rintro e w3 ⟨rfl,h3⟩;have H3:=aB (HJ.out _ h3);clear h3;go_wp2_with fail;refine H3.out.mono ?_;rintro e w4 ⟨⟨m,rfl⟩,h4⟩;obtain⟨f3,g,n,c,f4,f5,f6,⟨u,f7⟩,f8,f9,f10⟩:=HP1.out _ h4;have HP:=aB f10;have i1:(0:Int)<=(k:Int):=by omega
 have i2:(k:Int)<(n:Int):=by omega
 clear h4 f10;go_wp2_with fail;go_region
 all_goals
  go_wp2_with fail;go_end0;exact⟨rfl,HP.out _ (aY.drew _)⟩
theorem stC_seen{fs:List aC}{d:Nat}{seen:List (List UInt8)}{a:aC}(p:Nat)(h:dP fs d seen a):(bB fs d seen a p).2=cN seen a:=
 (mK fs d seen a (fun _ _=>False) p h ⟨fun _ _ _ h=>h.elim,fun _ _ h=>h.elim⟩).2.1
theorem StsOk.split{S:List (List UInt8)->aC->Prop}:∀{l m:List aC} {seen:List (List UInt8)},Hs.StsOk S seen (l++m)->Hs.StsOk S seen l/\Hs.StsOk S (dS seen l) m
 |[],_,_,h=>⟨trivial,h⟩
 |_::_,_,_,h=>by
  obtain⟨h1,h2⟩:=h;obtain⟨h3,h4⟩:=StsOk.split h2;exact⟨⟨h1,h3⟩,h4⟩
theorem qE:∀(l m:List aC) (seen:List (List UInt8)),dS seen (l++m)=dS (dS seen l) m
 |[],_,_=>rfl
 |a::l,m,seen=>qE l m (cN seen a)
theorem pX{fs:List aC}{d:Nat}:∀{l:List aC} (m:List aC) {seen:List (List UInt8)} (p:Nat),Hs.StsOk (dP fs d) seen l->bG (bB fs d) seen (l++m) p=bG (bB fs d) seen l p++bG (bB fs d) (dS seen l) m (p+(bG (bB fs d) seen l p).length)
 |[],m,seen,p,_=>by simp[bG,dS]
 |a::l,m,seen,p,h=>by
  obtain⟨h1,h2⟩:=h;rw[s9,bG,bG,stC_seen p h1,pX m _ h2,y7,m6,bc_];rfl
theorem E3{fs:List aC}{d:Nat}(a:aC)(seen:List (List UInt8))(p:Nat):bG (bB fs d) seen [a] p=(bB fs d seen a p).1:=by simp[bG]
def MJ(fp:Nat->Value)(fb:Nat->Nat)(nms:List (List UInt8))(cb:Nat)(F:Nat->Prop)(w:World)(code:List (Option aH))(seen:List (List UInt8))(w':World):Prop:=
 ∃G,(∀k,F k->G k)/\gB fp fb nms cb G w code seen w'
def RE(fp:Nat->Value)(fb:Nat->Nat)(fs:List aC)(cb lo:Nat)(d:Nat):Prop:=
 ∀(F:Nat->Prop) (seen:List (List UInt8)) (v:Value) (a:aC) (code:List (Option aH)) (w:World),CP fp fb (fs.map (·.text)) cb F w code seen->PN (Btw lo cb) w v a->dP fs d seen a->mD a->seen.length<=90001->code.length+(bB fs d seen a code.length).1.length<=1000000->
  Calls prog 291 #[.pointer (some ⟨cb,0,none⟩),v] w fun e w'=>e=.returned (.tuple #[])/\MJ fp fb (fs.map (·.text)) cb F w (code++(bB fs d seen a code.length).1.map some) (bB fs d seen a code.length).2 w'
section
variable {fp:Nat->Value} {fb:Nat->Nat} {fs:List aC} {cb lo:Nat} {F:Nat->Prop} {seen:List (List UInt8)} {d:Nat}
theorem MJ.then{w w1 w':World}{nms:List (List UInt8)}{code:List (Option aH)}(h1:FB cb w w1)(h:MJ fp fb nms cb F w1 code seen w'):MJ fp fb nms cb F w code seen w':=by
 obtain⟨G,hG,h⟩:=h;exact⟨G,hG,h.then h1⟩
theorem MJ.more{G:Nat->Prop}{w w':World}{nms:List (List UInt8)}{code:List (Option aH)}(hF:∀k,F k->G k)(h:MJ fp fb nms cb G w code seen w'):MJ fp fb nms cb F w code seen w':=by
 obtain⟨H,hH,h⟩:=h;exact⟨H,fun k hk=>hH k (hF k hk),h⟩
theorem XJ{fs:List aC}{d:Nat}{seen:List (List UInt8)}{a:aC}(h:dP fs d seen a)(hs:seen.length<=90001):(cN seen a).length<=90001:=by
 cases d with
 |zero=>exact h.elim
 |succ d=>
  unfold cN;split
  ·rename_i hop;rcases h with ⟨_,h1,t,v,hk,_⟩|⟨h1,_⟩|⟨h1,_⟩|⟨h1,_⟩|⟨h1,_⟩|⟨h1,_⟩|⟨h1,_⟩
   ·rw[hk];simp;omega
   all_goals exact absurd (hop.symm.trans h1) (by decide)
  ·exact hs
theorem xL{fs:List aC}{d:Nat}:∀{l:List aC} {seen:List (List UInt8)},Hs.StsOk (dP fs d) seen l->seen.length<=90001->(dS seen l).length<=90001
 |[],_,_,h=>h
 |a::l,seen,hh,h=>by
  obtain⟨h1,h2⟩:=hh;exact xL (l:=l) (seen:=cN seen a) h2 (XJ h1 h)
theorem pL(IH:RE fp fb fs cb lo d)(v:Value)(l:List aC)(code:List (Option aH))(w:World)(h:CP fp fb (fs.map (·.text)) cb F w code seen)(hv:PKid (Btw lo cb) w v l)(ho:Hs.StsOk (dP fs d) seen l)(hli:∀a∈l,mD a)(hl:l.length<=1000000)(hsn:seen.length<=90001)(hn:code.length+(bG (bB fs d) seen l code.length).length<=1000000):
 Calls prog 237 #[.pointer (some ⟨cb,0,none⟩),v] w fun e w'=>e=.returned (.tuple #[])/\MJ fp fb (fs.map (·.text)) cb F w (code++(bG (bB fs d) seen l code.length).map some) (dS seen l) w':=by
 rcases hv.get with ⟨rfl,rfl⟩|⟨g,cap,rfl,hg,hgl,hcap,hc⟩
 ·refine(BM w cb).mono ?_;rintro e w' ⟨rfl,rfl⟩;exact⟨rfl,F,fun _ h=>h,by simpa [bG,dS] using h,FB.refl _⟩
 ·refine(zD w cb g l.length cap (fun j W=>j<=l.length/\MJ fp fb (fs.map (·.text)) cb F w (code++(bG (bB fs d) seen (l.take j) code.length).map some) (dS seen (l.take j)) W) hl ⟨aj_ _,F,fun _ h=>h,by simpa [bG,dS] using h,FB.refl _⟩ (fun j W hq hj=>?_)).mono ?_
  ·obtain⟨_,G,hG,hcp,hfb⟩:=hq;obtain⟨u,hu,hn'⟩:=hc j hj;obtain⟨T,cs,rfl⟩:=hn'.form;have htk:l.take (j+1)=l.take j++[l[j]]:=v7 hj
   have hsplit:Hs.StsOk (dP fs d) seen (l.take j++(l[j]::l.drop (j+1))):=by
    have e:l.take j++(l[j]::l.drop (j+1))=l:=by
     rw[aE_];exact ae_ _ _
    rw[e];exact ho
   obtain⟨hs1,hs2,_⟩:=StsOk.split hsplit;have hsp:bG (bB fs d) seen (l.take (j+1)) code.length=bG (bB fs d) seen (l.take j) code.length++(bB fs d (dS seen (l.take j)) l[j] (code.length+(bG (bB fs d) seen (l.take j) code.length).length)).1:=by rw[htk,pX _ _ hs1,E3]
   have hall:(bG (bB fs d) seen (l.take (j+1)) code.length).length<=(bG (bB fs d) seen l code.length).length:=by
    have ho':Hs.StsOk (dP fs d) seen (l.take (j+1)++l.drop (j+1)):=by rw[ae_];exact ho
    have:=pX (l.drop (j+1)) code.length (StsOk.split ho').1;rw[ae_] at this;rw[this,m6];omega
   have hcl:(code++(bG (bB fs d) seen (l.take j) code.length).map some).length=code.length+(bG (bB fs d) seen (l.take j) code.length).length:=by simp
   have hse:dS seen (l.take (j+1))=(bB fs d (dS seen (l.take j)) l[j] (code.length+(bG (bB fs d) seen (l.take j) code.length).length)).2:=by
    rw[htk,qE,stC_seen _ hs2];rfl
   refine⟨m9 hgl hfb.bel.size,T,.agg cs,by rw[hfb.bel.cell (p:=⟨g,j,none⟩) hg.2];exact hu,(IH G _ _ l[j] _ W hcp (hn'.below hfb.bel) hs2 (hli _ (u_9 hj)) (xL hs1 hsn) ?_).mono ?_⟩
   ·rw[hcl];rw[hsp,m6] at hall;omega
   ·rintro e w' ⟨he,hto⟩;refine⟨he,hj,?_⟩;rw[hcl] at hto;rw[hsp,hse,af_,<-y7];exact(hto.then hfb).more hG
  ·rintro e w' ⟨he,_,hto⟩;rw[z8 (l9 _)] at hto;exact⟨he,hto⟩
theorem VC(IH:RE fp fb fs cb lo d)(v:Value)(l:List aC)(code:List (Option aH))(w:World)(h:CP fp fb (fs.map (·.text)) cb F w code seen)(hv:PKid (Btw lo cb) w v l)(ho:Hs.StsOk (dP fs d) seen l)(hli:∀a∈l,mD a)(hl:l.length<=1000000)(hsn:seen.length<=90001)(hn:code.length+(bG (bB fs d) seen l code.length).length<=1000000):
 Calls prog 337 #[.pointer (some ⟨cb,0,none⟩),v] w fun e w'=>e=.returned (.tuple #[])/\MJ fp fb (fs.map (·.text)) cb F w (code++(bG (bB fs d) seen l code.length).map some) seen w':=by
 obtain⟨x,c,rfl⟩:=hv.sliceC;have hst:=pL IH _ l code w h hv ho hli hl hsn hn;obtain⟨fv,cv,sp,h1,_,h4,_⟩:=h.blk;obtain⟨p,rfl⟩:=h4.form;refine VH w cb p x l.length c _ _ (aA h1 rfl) hst (fun W hq=>?_)
 obtain⟨G,hG,hcp,hfb⟩:=hq;obtain⟨fv',cv',sp',g1,⟨xs,g2,g3⟩,g4,g5⟩:=hcp.blk;refine⟨⟨_,aA g1 rfl⟩,aE g1,aD g1,G,hG,⟨⟨fv',cv',.pointer p,aS g1,⟨xs,?_,?_⟩,?_,?_⟩,fun k hk=>?_⟩,?_⟩
 all_goals have hk:∀k,k≠cb->(W.setCell ⟨cb,2,none⟩ (.pointer p)).heap[k]?=W.heap[k]?:=fun k hk=>m7 _ _ _ _ hk
 all_goals have hGk:∀b,G b->(W.setCell ⟨cb,2,none⟩ (.pointer p)).heap[b]?=W.heap[b]?:=fun b hb=>hk b (hcp.fix b hb).2.1
 all_goals have hro:kT cb (W.setCell ⟨cb,2,none⟩ (.pointer p))=kT cb W:=by rw[iY (aS g1),iY g1]
 ·exact bA g2 fun k e=>hk k (by have:=(g2.lt k e).1;omega)
 ·exact g3.keep hGk fun _ h=>h
 ·exact eV.keep (fun b hb=>by rw[hGk b (hG b hb),h.fixed hfb b hb]) hG h4
 ·exact g5.keep hGk (fun _ h=>h) (by simp)
 ·obtain⟨e1,e2,e3⟩:=hcp.fix k (by assumption)
  exact⟨by simpa using e1,e2,by rw[hro];exact e3⟩
 ·refine hfb.trans ⟨⟨rfl,rfl,rfl,by simp,fun k hk'=>hk k (by omega)⟩,fun k _ h2 _=>hk k h2,fun k e=>Or.inl (by rw[<-hro];exact e)⟩
end
section
variable {fp:Nat->Value} {fb:Nat->Nat} {fs:List aC} {cb lo:Nat} {F:Nat->Prop} {alone:Bool} {seen:List (List UInt8)} {d:Nat}
theorem B7(IH:EC fp fb fs cb lo F alone seen d)(hfn:fs.length<=1000000)(hfp:∀k,k<fs.length->fp k=.pointer (some ⟨fb k,0,none⟩))(a:aC)(sv:Value)(l:Int)(code:List (Option aH))(w:World)(hcp:CP fp fb (fs.map (·.text)) cb F w code seen)(hop:a.op=[99,97,108,108])(hp:PKid (Btw lo cb) w sv a.kids)(hok:Hs.ExOk fs alone seen (d+1) a)(hli:pN (d+1) a)(hlen:code.length+(aG fs seen (d+1) a code.length).length<=1000000):
 Calls prog 289 #[.pointer (some ⟨cb,0,none⟩),.agg #[.int .i64 l,.string (bs a.text),sv]] w fun e w'=>e=.returned (.tuple #[])/\gB fp fb (fs.map (·.text)) cb F w (code++(aG fs seen (d+1) a code.length).map some) seen w':=by
 have hops:=ExOk.op hok;obtain⟨_,hk1,hlik⟩:=hli;rw[DC fs seen d a _ hop] at hlen ⊢
 rw[m6,ax_] at hlen;have hkx:=hops.1;have hcase:=hops.2.2 hop;obtain⟨x,c,rfl⟩:=hp.sliceC;obtain⟨hloc2,hcp2⟩:=hcp.new (.cells #[.int .i64 l,.string (bs a.text),.slice x a.kids.length c] 341);have blk2:∀{W:World},FB cb (w.alloc (.cells #[.int .i64 l,.string (bs a.text),.slice x a.kids.length c] 341)) W->W.heap[w.heap.size]?=some (.cells #[.int .i64 l,.string (bs a.text),.slice x a.kids.length c] 341 (0,0)):=fun hfb=>(hloc2.step hfb).blk
 have hx2:Calls prog 287 #[.pointer (some ⟨cb,0,none⟩),.slice x a.kids.length c] (w.alloc (.cells #[.int .i64 l,.string (bs a.text),.slice x a.kids.length c] 341)) fun e w'=>e=.returned (.tuple #[])/\(gB fp fb (fs.map (·.text)) cb F w (code++(bP (aG fs seen d) a.kids code.length).map some) seen w'/\w'.heap[w.heap.size]?=some (.cells #[.int .i64 l,.string (bs a.text),.slice x a.kids.length c] 341 (0,0))):=by
  refine(rM IH _ _ _ _ hcp2 (hp.below hloc2.fb.bel) hkx hlik hk1 (by omega)).mono ?_
  rintro e w' ⟨he,hto⟩;exact⟨he,hto.then hloc2.fb,blk2 hto.2⟩
 have hfin:∀{i:aH} {e:Ending} {W:World},(e=.returned (.tuple #[])/\gB fp fb (fs.map (·.text)) cb F w ((code++(bP (aG fs seen d) a.kids code.length).map some)++[some i]) seen W)->e=.returned (.tuple #[])/\gB fp fb (fs.map (·.text)) cb F w (code++(bP (aG fs seen d) a.kids code.length++[i]).map some) seen W:=fun hq=>by
  rw[af_,<-y7];exact hq
 have hbd:(code++(bP (aG fs seen d) a.kids code.length).map some).length+1<=1000000:=by rw[fN];omega
 rcases hcase with htx|htx|⟨ht1,ht2,har⟩
 ·rw[htx] at hx2 ⊢
  refine(QX w cb a.kids.length c l x _ _ hx2 (fun W hq=>⟨aA hq.2 rfl,aD hq.2⟩) (fun W hq=>emits (i:=.length) hq.1 rfl hbd)).mono ?_
  intro e W hq;exact hfin hq
 ·rw[htx] at hx2 ⊢
  refine(IV w cb a.kids.length c l x _ _ hx2 (fun W hq=>⟨aA hq.2 rfl,aD hq.2⟩) (fun W hq=>emits (i:=.read) hq.1 rfl hbd)).mono ?_
  intro e W hq;exact hfin hq
 ·have hfl:dA fs a.text<fs.length:=by
   unfold fO at har;cases hf:fs[dA fs a.text]? with
   |none=>rw[hf] at har;cases har
   |some f=>exact(z6.1 hf).1
  have hmem:a.text∈fs.map (·.text):=by
   have h9:=hfl;unfold dA at h9;have:=aR_ (w:=h9);exact aO_.2 ⟨_,u_9 h9,by simpa using this⟩
  have e1:(a.text==[108,101,110])=false:=by simpa using ht1
  have e2:(a.text==[114,101,97,100])=false:=by simpa using ht2
  rw[e1,e2];refine(DV w cb a.kids.length c (fb (dA fs a.text)) l a.text x (fun W=>gB fp fb (fs.map (·.text)) cb F w ((code++(bP (aG fs seen d) a.kids code.length).map some)++[some (.call (dA fs a.text) a.kids.length)]) seen W) _ ht1 ht2 hx2 (fun W hq=>⟨aA hq.2 rfl,aA hq.2 rfl,aD hq.2⟩) (fun W W' hq hS=>?_) (fun W W' hq hS=>?_)).mono ?_
  ·refine(sT a.text (hq.1.1.grow hS.below) hmem (by simpa using hfn)).mono ?_
   rintro e w' ⟨he,hw'⟩;rw[CZ,hfp _ hfl] at he;exact⟨he,hw'⟩
  ·have hq':gB fp fb (fs.map (·.text)) cb F w (code++(bP (aG fs seen d) a.kids code.length).map some) seen W':=⟨hq.1.1.grow hS.below,hq.1.2.trans (FB.of_below hS.below hq.1.1.lt)⟩
   exact emits (i:=.call (dA fs a.text) a.kids.length) hq' (by show _=_;rw[hfp _ hfl]) hbd
  ·intro e W hq;exact hfin hq
end
section
variable (fs:List aC) (seen:List (List UInt8)) (d:Nat) (a:aC) (p:Nat)
theorem O3(t v:aC)(h:a.op=[118,97,114])(hk:a.kids=[t,v]):bB fs (d+1) seen a p=(.begin a.line seen::aG fs seen d v (p+1)++[.declare seen.length],t.text::seen):=by rw[bB];simp[h,hk]
theorem O4(h:a.op=[115,101,116]):bB fs (d+1) seen a p=(.begin a.line seen::bP (aG fs seen d) a.kids (p+1)++[.assign (eA seen a.text) (a.kids.length-1)],seen):=by rw[bB];simp[h]
theorem O6(c t:aC)(h:a.op=[105,102])(hk:a.kids=[c,t]):bB fs (d+1) seen a p=
 (.begin a.line seen::aG fs seen d c (p+1)++[.skip (p+1+(aG fs seen d c (p+1)).length+1+(bG (bB fs d) seen t.kids (p+1+(aG fs seen d c (p+1)).length+1)).length+1)]++bG (bB fs d) seen t.kids (p+1+(aG fs seen d c (p+1)).length+1)++[.jump (p+1+(aG fs seen d c (p+1)).length+1+(bG (bB fs d) seen t.kids (p+1+(aG fs seen d c (p+1)).length+1)).length+1)],seen):=by rw[bB];simp[h,hk]
theorem O5(c t x:aC)(h:a.op=[105,102])(hk:a.kids=[c,t,x]):bB fs (d+1) seen a p=
 (.begin a.line seen::aG fs seen d c (p+1)++[.skip (p+1+(aG fs seen d c (p+1)).length+1+(bG (bB fs d) seen t.kids (p+1+(aG fs seen d c (p+1)).length+1)).length+1)]++bG (bB fs d) seen t.kids (p+1+(aG fs seen d c (p+1)).length+1)++[.jump (p+1+(aG fs seen d c (p+1)).length+1+(bG (bB fs d) seen t.kids (p+1+(aG fs seen d c (p+1)).length+1)).length+1+(bG (bB fs d) seen x.kids (p+1+(aG fs seen d c (p+1)).length+1+(bG (bB fs d) seen t.kids (p+1+(aG fs seen d c (p+1)).length+1)).length+1)).length)]++
   bG (bB fs d) seen x.kids (p+1+(aG fs seen d c (p+1)).length+1+(bG (bB fs d) seen t.kids (p+1+(aG fs seen d c (p+1)).length+1)).length+1),seen):=by rw[bB];simp[h,hk]
theorem XD(c b:aC)(h:a.op=[119,104,105,108,101])(hk:a.kids=[c,b]):bB fs (d+1) seen a p=
 (.begin a.line seen::aG fs seen d c (p+1)++[.skip (p+1+(aG fs seen d c (p+1)).length+1+(bG (bB fs d) seen b.kids (p+1+(aG fs seen d c (p+1)).length+1)).length+1)]++bG (bB fs d) seen b.kids (p+1+(aG fs seen d c (p+1)).length+1)++[.jump p],seen):=by rw[bB];simp[h,hk]
theorem NE(h:a.op=[114,101,116,117,114,110])(hk:a.kids=[]):bB fs (d+1) seen a p=([.begin a.line seen,.push (aV 0),.give],seen):=by rw[bB];simp[h,hk]
theorem ND(v:aC)(h:a.op=[114,101,116,117,114,110])(hk:a.kids=[v]):bB fs (d+1) seen a p=(.begin a.line seen::aG fs seen d v (p+1)++[.give],seen):=by rw[bB];simp[h,hk]
theorem XE(v:aC)(h:a.op=[112,114,105,110,116])(hk:a.kids=[v]):bB fs (d+1) seen a p=(.begin a.line seen::aG fs seen d v (p+1)++[.print],seen):=by rw[bB];simp[h,hk]
theorem Y2(c:aC)(h:a.op=[100,111])(hk:a.kids=[c]):bB fs (d+1) seen a p=(.begin a.line seen::aG fs seen d c (p+1)++[.drop],seen):=by rw[bB];simp[h,hk]
end
section
variable {fp:Nat->Value} {fb:Nat->Nat} {fs:List aC} {cb lo:Nat} {F:Nat->Prop} {seen:List (List UInt8)} {d:Nat}
def pO(fp:Nat->Value)(fb:Nat->Nat)(nms:List (List UInt8))(cb:Nat)(F:Nat->Prop)(w w1:World)(b:Nat)(o:Obj)(seen:List (List UInt8))(c:List (Option aH))(W:World):Prop:=
 ∃G,(∀k,F k->G k)/\gB fp fb nms cb G w c seen W/\Loc cb w1 b o W
theorem pO.emit{nms:List (List UInt8)}{w w1 W:World}{b:Nat}{o:Obj}{c:List (Option aH)}(hq:pO fp fb nms cb F w w1 b o seen c W){u:Value}{i:Option aH}(hu:∀G,X3 fp G W u i)(hn:c.length<=1000000):
 Calls prog 238 #[.pointer (some ⟨cb,0,none⟩),u] W fun e w'=>e=.returned (.int .i64 c.length)/\pO fp fb nms cb F w w1 b o seen (c++[i]) w':=by
 obtain⟨G,hG,hto,hL⟩:=hq;refine(qT (o:=i) hto.1 (hu G) hn).mono ?_;rintro e w' ⟨he,h1,h2⟩;exact⟨he,G,hG,⟨h1,hto.2.trans h2⟩,hL.step h2⟩
theorem pO.patch{nms:List (List UInt8)}{w w1 W:World}{b:Nat}{o:Obj}{pre post:List (Option aH)}(hq:pO fp fb nms cb F w w1 b o seen (pre++none::post) W)(k:Nat)(hk:k=pre.length)(ty:TypeId)(i:Nat->aH)(hi:∀G n,lA fp G W (.iface ty (.agg #[.int .i64 (n:Nat)])) (i n))(hn:(pre++none::post).length<=1000000):
 cb<W.heap.size/\∃g n c,W.cell? ⟨cb,1,none⟩=some (.slice (some ⟨g,0,none⟩) n c)/\k<n/\n<=1000000/\(∃u,W.cell? ⟨g,k,none⟩=some u)/\W.frozen? ⟨g,k,none⟩=false/\g<W.heap.size/\∀W',aY (W.setCell ⟨g,k,none⟩ (.iface ty (.agg #[.int .i64 (n:Nat)]))) W'->pO fp fb nms cb F w w1 b o seen (pre++some (i (pre++none::post).length)::post) W':=by
 obtain⟨G,hG,⟨hc1,hc2⟩,hL⟩:=hq;obtain⟨g,c,p1,p2,p3,p4,p5⟩:=hc1.patch;subst hk;refine⟨hc1.lt,g,_,c,p1,by simp,hn,p2,p3,p4,fun W' hS=>?_⟩
 obtain⟨q1,q2⟩:=p5 _ _ W' (hi G _) hS;exact⟨G,hG,⟨q1,hc2.trans q2⟩,hL.step q2⟩
theorem pO.blockk(IH:RE fp fb fs cb lo d){w w1 W:World}{b:Nat}{o:Obj}{c:List (Option aH)}(hq:pO fp fb (fs.map (·.text)) cb F w w1 b o seen c W)(v:Value)(l:List aC)(hv:PKid (Btw lo cb) w v l)(ho:Hs.StsOk (dP fs d) seen l)(hli:∀a∈l,mD a)(hl:l.length<=1000000)(hsn:seen.length<=90001)(hn:c.length+(bG (bB fs d) seen l c.length).length<=1000000):
 Calls prog 337 #[.pointer (some ⟨cb,0,none⟩),v] W fun e w'=>e=.returned (.tuple #[])/\pO fp fb (fs.map (·.text)) cb F w w1 b o seen (c++(bG (bB fs d) seen l c.length).map some) w':=by
 obtain⟨G,hG,hto,hL⟩:=hq;refine(VC IH v l c W hto.1 (hv.below hto.2.bel) ho hli hl hsn hn).mono ?_;rintro e w' ⟨he,H,hH,hto2⟩;exact⟨he,H,fun k hk=>hH k (hG k hk),hto2.then hto.2,hL.step hto2.2⟩
theorem pO.exprk{w w1 W:World}{b:Nat}{o:Obj}{c:List (Option aH)}(hq:pO fp fb (fs.map (·.text)) cb F w w1 b o seen c W)(hfn:fs.length<=1000000)(hfp:∀k,k<fs.length->fp k=.pointer (some ⟨fb k,0,none⟩))(hsn:seen.length<=90001)(v:Value)(a:aC)(hv:PN (Btw lo cb) w v a)(ho:Hs.ExOk fs false seen d a)(hli:mD a)(hn:c.length+(aG fs seen d a c.length).length<=1000000):
 Calls prog 233 #[.pointer (some ⟨cb,0,none⟩),v] W fun e w'=>e=.returned (.tuple #[])/\pO fp fb (fs.map (·.text)) cb F w w1 b o seen (c++(aG fs seen d a c.length).map some) w':=by
 obtain⟨G,hG,hto,hL⟩:=hq;refine(rN (by omega) hfn hfp d v a c W hto.1 (hv.below hto.2.bel) ho (hli d) hn).mono ?_
 rintro e w' ⟨he,hto2⟩;exact⟨he,G,hG,hto2.then hto.2,hL.step hto2.2⟩
theorem pO.exprsk{w w1 W:World}{b:Nat}{o:Obj}{c:List (Option aH)}(hq:pO fp fb (fs.map (·.text)) cb F w w1 b o seen c W)(hfn:fs.length<=1000000)(hfp:∀k,k<fs.length->fp k=.pointer (some ⟨fb k,0,none⟩))(hsn:seen.length<=90001)(v:Value)(l:List aC)(hv:PKid (Btw lo cb) w v l)(ho:∀a∈l,Hs.ExOk fs false seen d a)(hli:∀a∈l,mD a)(hl:l.length<=1000000)(hn:c.length+(bP (aG fs seen d) l c.length).length<=1000000):
 Calls prog 287 #[.pointer (some ⟨cb,0,none⟩),v] W fun e w'=>e=.returned (.tuple #[])/\pO fp fb (fs.map (·.text)) cb F w w1 b o seen (c++(bP (aG fs seen d) l c.length).map some) w':=by
 obtain⟨G,hG,hto,hL⟩:=hq;refine(rM (rN (by omega) hfn hfp d) v l c W hto.1 (hv.below hto.2.bel) ho (fun a ha=>hli a ha d) hl hn).mono ?_
 rintro e w' ⟨he,hto2⟩;exact⟨he,G,hG,hto2.then hto.2,hL.step hto2.2⟩
theorem pO.fin{nms:List (List UInt8)}{w w1 W:World}{b:Nat}{o:Obj}{c:List (Option aH)}(hq:pO fp fb nms cb F w w1 b o seen c W):MJ fp fb nms cb F w c seen W:=by
 obtain⟨G,hG,hto,_⟩:=hq;exact⟨G,hG,hto⟩
theorem pO.box{nms:List (List UInt8)}{w w1 W:World}{b:Nat}{cs:Array Value}{T:TypeId}{c:List (Option aH)}(hq:pO fp fb nms cb F w w1 b (.cells cs T) seen c W):W.heap[b]?=some (.cells cs T (0,0)):=by
 obtain⟨G,hG,_,hL⟩:=hq;exact hL.blk
theorem CP.cpB{nms:List (List UInt8)}{w:World}{code:List (Option aH)}(h:CP fp fb nms cb F w code seen)(o:Obj):pO fp fb nms cb F w w w.heap.size o seen code (w.alloc o):=by
 obtain⟨hloc,hcp⟩:=h.new o;exact⟨F,fun _ h=>h,⟨hcp,hloc.fb⟩,hloc⟩
theorem yE(IH:RE fp fb fs cb lo d)(hfn:fs.length<=1000000)(hfp:∀k,k<fs.length->fp k=.pointer (some ⟨fb k,0,none⟩))(hsn:seen.length<=90001)(l:Int)(v1 s1 s2:Value)(c:aC)(lt le:List aC)(code:List (Option aH))(w:World)(h:CP fp fb (fs.map (·.text)) cb F w code seen)
 (hv:PN (Btw lo cb) w v1 c) (ht:PKid (Btw lo cb) w s1 lt) (he:PKid (Btw lo cb) w s2 le) (ho:Hs.ExOk fs false seen d c) (ho1:Hs.StsOk (dP fs d) seen lt) (ho2:Hs.StsOk (dP fs d) seen le) (hl:mD c) (hl1:∀a∈lt,mD a) (hl2:∀a∈le,mD a) (hn1:lt.length<=1000000) (hn2:le.length<=1000000)
 (cc ct ce:List aH) (hcc:aG fs seen d c code.length=cc) (hct:bG (bB fs d) seen lt (code.length+cc.length+1)=ct) (hce:bG (bB fs d) seen le (code.length+cc.length+1+ct.length+1)=ce) (hn:code.length+cc.length+1+ct.length+1+ce.length<=1000000):
 Calls prog 324 #[.pointer (some ⟨cb,0,none⟩),.agg #[.int .i64 l,v1,s1,s2]] w fun e w'=>e=.returned (.tuple #[])/\MJ fp fb (fs.map (·.text)) cb F w (code++(cc++[aH.skip (code.length+cc.length+1+ct.length+1)]++ct++[aH.jump (code.length+cc.length+1+ct.length+1+ce.length)]++ce).map some) seen w':=by
 obtain⟨T1,cs1,rfl⟩:=hv.form;obtain⟨x1,c1,rfl⟩:=ht.sliceC;obtain⟨x2,c2,rfl⟩:=he.sliceC;have hb0:=h.cpB (.cells #[.int .i64 l,.iface T1 (.agg cs1),.slice x1 lt.length c1,.slice x2 le.length c2] 334)
 refine(QS w cb (code.length+cc.length) (code.length+cc.length+1+ct.length) l T1 (.agg cs1) x1 x2 lt.length le.length c1 c2
  (fun W=>MJ fp fb (fs.map (·.text)) cb F w ((code++cc.map some++some (aH.skip (code.length+cc.length+1+ct.length+1))::ct.map some)++some (aH.jump (code.length+cc.length+1+ct.length+1+ce.length))::ce.map some) seen W)
  (pO fp fb (fs.map (·.text)) cb F w w w.heap.size (.cells #[.int .i64 l,.iface T1 (.agg cs1),.slice x1 lt.length c1,.slice x2 le.length c2] 334) seen (code++cc.map some))
  (pO fp fb (fs.map (·.text)) cb F w w w.heap.size (.cells #[.int .i64 l,.iface T1 (.agg cs1),.slice x1 lt.length c1,.slice x2 le.length c2] 334) seen (code++cc.map some++[none]))
  (pO fp fb (fs.map (·.text)) cb F w w w.heap.size (.cells #[.int .i64 l,.iface T1 (.agg cs1),.slice x1 lt.length c1,.slice x2 le.length c2] 334) seen (code++cc.map some++[none]++ct.map some))
  (pO fp fb (fs.map (·.text)) cb F w w w.heap.size (.cells #[.int .i64 l,.iface T1 (.agg cs1),.slice x1 lt.length c1,.slice x2 le.length c2] 334) seen (code++cc.map some++[none]++ct.map some++[none]))
  (pO fp fb (fs.map (·.text)) cb F w w w.heap.size (.cells #[.int .i64 l,.iface T1 (.agg cs1),.slice x1 lt.length c1,.slice x2 le.length c2] 334) seen (code++cc.map some++some (aH.skip (code.length+cc.length+1+ct.length+1))::(ct.map some++[none])))
  (pO fp fb (fs.map (·.text)) cb F w w w.heap.size (.cells #[.int .i64 l,.iface T1 (.agg cs1),.slice x1 lt.length c1,.slice x2 le.length c2] 334) seen (code++cc.map some++some (aH.skip (code.length+cc.length+1+ct.length+1))::(ct.map some++[none])++ce.map some))
  ?_ (fun W hq=>?_) (fun W hq=>?_) (fun W hq=>?_) (fun W hq=>?_) (fun W hq=>?_) (fun W hq=>?_) (fun W hq=>?_) (fun W hq=>?_)).mono ?_
 ·have:=hb0.exprk hfn hfp hsn _ c hv ho hl (by rw[hcc];omega)
  rw[hcc] at this;exact this
 ·have:=hq.emit (u:=.nilIface) (i:=none) (fun _=>rfl) (by simp;omega)
  rw[fN] at this;exact this
 ·exact⟨aA hq.box rfl,aD hq.box⟩
 ·have hcl:(code++cc.map some++[none]).length=code.length+cc.length+1:=by simp;omega
  have:=hq.blockk IH _ lt ht ho1 hl1 hn1 hsn (by rw[hcl,hct];omega)
  rw[hcl,hct] at this;exact this
 ·have hcl:(code++cc.map some++[none]++ct.map some).length=code.length+cc.length+1+ct.length:=by simp;omega
  have:=hq.emit (u:=.nilIface) (i:=none) (fun _=>rfl) (by rw[hcl];omega)
  rw[hcl] at this;exact this
 ·have e0:code++cc.map some++[none]++ct.map some++[none]=(code++cc.map some)++none::(ct.map some++[none]):=by simp
  rw[e0] at hq;have hnl:((code++cc.map some)++none::(ct.map some++[none])).length=code.length+cc.length+1+ct.length+1:=by simp;omega
  have:=hq.patch (code.length+cc.length) (by rw[fN]) 461 (fun n=>.skip n) (fun _ _=>rfl) (by rw[hnl];omega)
  rw[hnl] at this;exact this
 ·exact⟨aA hq.box rfl,aD hq.box⟩
 ·have hcl:(code++cc.map some++some (aH.skip (code.length+cc.length+1+ct.length+1))::(ct.map some++[none])).length=code.length+cc.length+1+ct.length+1:=by simp;omega
  have:=hq.blockk IH _ le he ho2 hl2 hn2 hsn (by rw[hcl,hce];omega)
  rw[hcl,hce] at this;exact this
 ·have e0:code++cc.map some++some (aH.skip (code.length+cc.length+1+ct.length+1))::(ct.map some++[none])++ce.map some=(code++cc.map some++some (aH.skip (code.length+cc.length+1+ct.length+1))::ct.map some)++none::ce.map some:=by simp
  rw[e0] at hq;have hnl:((code++cc.map some++some (aH.skip (code.length+cc.length+1+ct.length+1))::ct.map some)++none::ce.map some).length=code.length+cc.length+1+ct.length+1+ce.length:=by simp;omega
  have hpl:code.length+cc.length+1+ct.length=(code++cc.map some++some (aH.skip (code.length+cc.length+1+ct.length+1))::ct.map some).length:=by simp;omega
  have:=hq.patch (code.length+cc.length+1+ct.length) hpl 462 (fun n=>.jump n) (fun _ _=>rfl) (by rw[hnl];omega)
  rw[hnl] at this;obtain⟨a1,g,n,cc',a2,a3,a4,a5,a6,a7,a8⟩:=this;exact⟨a1,g,n,cc',a2,a3,a4,a5,a6,a7,fun W' hS=>(a8 W' hS).fin⟩
 ·intro e W hq;have e9:code++(cc++[aH.skip (code.length+cc.length+1+ct.length+1)]++ct++[aH.jump (code.length+cc.length+1+ct.length+1+ce.length)]++ce).map some=(code++cc.map some++some (aH.skip (code.length+cc.length+1+ct.length+1))::ct.map some)++some (aH.jump (code.length+cc.length+1+ct.length+1+ce.length))::ce.map some:=by simp
  rw[e9];exact hq
theorem A8(IH:RE fp fb fs cb lo d)(hfn:fs.length<=1000000)(hfp:∀k,k<fs.length->fp k=.pointer (some ⟨fb k,0,none⟩))(hsn:seen.length<=90001)(l:Int)(start:Nat)(v1 s1:Value)(c:aC)(lt:List aC)(code:List (Option aH))(w:World)(h:CP fp fb (fs.map (·.text)) cb F w code seen)
 (hv:PN (Btw lo cb) w v1 c) (ht:PKid (Btw lo cb) w s1 lt) (ho:Hs.ExOk fs false seen d c) (ho1:Hs.StsOk (dP fs d) seen lt) (hl:mD c) (hl1:∀a∈lt,mD a) (hn1:lt.length<=1000000)
 (cc ct:List aH) (hcc:aG fs seen d c code.length=cc) (hct:bG (bB fs d) seen lt (code.length+cc.length+1)=ct) (hn:code.length+cc.length+1+ct.length+1<=1000000):
 Calls prog 325 #[.pointer (some ⟨cb,0,none⟩),.agg #[.int .i64 l,v1,s1],.int .i64 start] w fun e w'=>e=.returned (.tuple #[])/\MJ fp fb (fs.map (·.text)) cb F w (code++(cc++[aH.skip (code.length+cc.length+1+ct.length+1)]++ct++[aH.jump start]).map some) seen w':=by
 obtain⟨T1,cs1,rfl⟩:=hv.form;obtain⟨x1,c1,rfl⟩:=ht.sliceC;have hb0:=h.cpB (.cells #[.int .i64 l,.iface T1 (.agg cs1),.slice x1 lt.length c1] 336)
 refine(ZD w cb (code.length+cc.length) start l T1 (.agg cs1) x1 lt.length c1
  (fun W=>MJ fp fb (fs.map (·.text)) cb F w ((code++cc.map some)++some (aH.skip (code.length+cc.length+1+ct.length+1))::(ct.map some++[some (aH.jump start)])) seen W)
  (pO fp fb (fs.map (·.text)) cb F w w w.heap.size (.cells #[.int .i64 l,.iface T1 (.agg cs1),.slice x1 lt.length c1] 336) seen (code++cc.map some))
  (pO fp fb (fs.map (·.text)) cb F w w w.heap.size (.cells #[.int .i64 l,.iface T1 (.agg cs1),.slice x1 lt.length c1] 336) seen (code++cc.map some++[none]))
  (pO fp fb (fs.map (·.text)) cb F w w w.heap.size (.cells #[.int .i64 l,.iface T1 (.agg cs1),.slice x1 lt.length c1] 336) seen (code++cc.map some++[none]++ct.map some))
  (pO fp fb (fs.map (·.text)) cb F w w w.heap.size (.cells #[.int .i64 l,.iface T1 (.agg cs1),.slice x1 lt.length c1] 336) seen (code++cc.map some++[none]++ct.map some++[some (aH.jump start)]))
  ?_ (fun W hq=>?_) (fun W hq=>?_) (fun W hq=>?_) (fun W hq=>?_) (fun W hq=>?_)).mono ?_
 ·have:=hb0.exprk hfn hfp hsn _ c hv ho hl (by rw[hcc];omega)
  rw[hcc] at this;exact this
 ·have:=hq.emit (u:=.nilIface) (i:=none) (fun _=>rfl) (by simp;omega)
  rw[fN] at this;exact this
 ·exact⟨aA hq.box rfl,aD hq.box⟩
 ·have hcl:(code++cc.map some++[none]).length=code.length+cc.length+1:=by simp;omega
  have:=hq.blockk IH _ lt ht ho1 hl1 hn1 hsn (by rw[hcl,hct];omega)
  rw[hcl,hct] at this;exact this
 ·have hcl:(code++cc.map some++[none]++ct.map some).length=code.length+cc.length+1+ct.length:=by simp;omega
  refine(hq.emit (u:=.iface 462 (.agg #[.int .i64 start])) (i:=some (aH.jump start)) (fun _=>rfl) (by rw[hcl];omega)).mono ?_
  rintro e w' ⟨he,h2⟩;exact⟨⟨_,he⟩,h2⟩
 ·have e0:code++cc.map some++[none]++ct.map some++[some (aH.jump start)]=(code++cc.map some)++none::(ct.map some++[some (aH.jump start)]):=by simp
  rw[e0] at hq;have hnl:((code++cc.map some)++none::(ct.map some++[some (aH.jump start)])).length=code.length+cc.length+1+ct.length+1:=by simp;omega
  have:=hq.patch (code.length+cc.length) (by rw[fN]) 461 (fun n=>.skip n) (fun _ _=>rfl) (by rw[hnl];omega)
  rw[hnl] at this;obtain⟨a1,g,n,cc',a2,a3,a4,a5,a6,a7,a8⟩:=this;exact⟨a1,g,n,cc',a2,a3,a4,a5,a6,a7,fun W' hS=>(a8 W' hS).fin⟩
 ·intro e W hq;have e9:code++(cc++[aH.skip (code.length+cc.length+1+ct.length+1)]++ct++[aH.jump start]).map some=(code++cc.map some)++some (aH.skip (code.length+cc.length+1+ct.length+1))::(ct.map some++[some (aH.jump start)]):=by simp
  rw[e9];exact hq
end
section
variable {fp:Nat->Value} {fb:Nat->Nat} {fs:List aC} {cb lo:Nat} {d:Nat}
theorem gB.cpB{F:Nat->Prop}{seen:List (List UInt8)}{nms:List (List UInt8)}{w W:World}{code:List (Option aH)}(h:gB fp fb nms cb F w code seen W)(o:Obj):pO fp fb nms cb F w W W.heap.size o seen code (W.alloc o):=by
 obtain⟨hloc,hcp⟩:=h.1.new o;exact⟨F,fun _ h=>h,⟨hcp,h.2.trans hloc.fb⟩,hloc⟩
theorem L5(IH:RE fp fb fs cb lo d)(hfn:fs.length<=1000000)(hfp:∀k,k<fs.length->fp k=.pointer (some ⟨fb k,0,none⟩)):RE fp fb fs cb lo (d+1):=by
 intro F seen v a code w h hpn hok hli hsn hlen;obtain⟨T,cs,ps,rfl,hsh,hps⟩:=hpn.parts;obtain⟨fv,cv,sp,h1,_,h4,_⟩:=h.blk;obtain⟨p,rfl⟩:=h4.form;have hlt:=h.lt;have hc2:w.cell? ⟨cb,2,none⟩=some (.pointer p):=aA h1 rfl
 have beg:code.length+1<=1000000->Calls prog 238 #[.pointer (some ⟨cb,0,none⟩),.iface 365 (.agg #[.int .i64 a.line,.pointer p])] (w.drew.alloc (.cells #[.int .i64 a.line] 209)) fun e w'=>e=.returned (.int .i64 code.length)/\gB fp fb (fs.map (·.text)) cb F w (code++[some (.begin a.line seen)]) seen w':=fun hn=>by
  have hb:Below w.heap.size w (w.drew.alloc (.cells #[.int .i64 a.line] 209)):=((m8 _ w).drew).alloc (l9 _) _;have h':=h.grow hb;refine(qT (o:=some (.begin a.line seen)) h' ⟨_,rfl,eV.keep (fun b hb'=>hb.block b (h.fix b hb').1) (fun _ h=>h) h4⟩ (by omega)).mono ?_
  rintro e w' ⟨he,q1,q2⟩;exact⟨he,q1,(FB.of_below hb hlt).trans q2⟩
 have hcl:(code++[some (aH.begin a.line seen)]).length=code.length+1:=by simp
 have hsn':seen.length<=1000000:=by omega
 have no:∀{x y:List UInt8} {p:Prop},a.op=x->x≠y->a.op=y->p:=fun e1 e2 e3=>absurd (e1.symm.trans e3) e2
 rcases hsh with ⟨_,_,_,hop,_⟩|⟨_,_,hop,_⟩|⟨_,_,hop,_⟩|⟨_,_,_,hop,_⟩|⟨_,_,_,hop,_⟩|⟨_,_,hop,_⟩|⟨_,_,_,_,_,_,_,hop,_⟩|⟨_,o,_,_,_,hoo,hop,_⟩|⟨_,_,_,_,_,_,_,hop,_⟩|⟨rfl,v1,t,a1,rfl,hop,hkd,rfl⟩|⟨rfl,sv,v1,l,a1,rfl,hop,hkd,rfl⟩|⟨rfl,v1,s1,a1,b1,rfl,hop,hb1,hkd,rfl⟩|⟨rfl,v1,s1,s2,a1,b1,b2,rfl,hop,hb1,hb2,hkd,rfl⟩|⟨rfl,v1,s1,a1,b1,rfl,hop,hb1,hkd,rfl⟩|⟨rfl,l,rfl,hop,hkd,rfl⟩|⟨rfl,v1,a1,rfl,hop,hkd,rfl⟩|⟨rfl,v1,a1,rfl,hop,hkd,rfl⟩|⟨rfl,sv,c,rfl,hop,hln,htx,hkd,hcop,rfl⟩
 iterate 7
  ·exfalso;rcases hok with ⟨h1,_⟩|⟨h1,_⟩|⟨h1,_⟩|⟨h1,_⟩|⟨h1,_⟩|⟨h1,_⟩|⟨h1,_⟩<;>exact no hop (by decide) h1
 ·exfalso;rcases hoo with rfl|rfl<;>(rcases hok with ⟨h1,_⟩|⟨h1,_⟩|⟨h1,_⟩|⟨h1,_⟩|⟨h1,_⟩|⟨h1,_⟩|⟨h1,_⟩<;>exact no hop (by decide) h1)
 ·exfalso;rcases hok with ⟨h1,_⟩|⟨h1,_⟩|⟨h1,_⟩|⟨h1,_⟩|⟨h1,_⟩|⟨h1,_⟩|⟨h1,_⟩<;>(rw[h1] at hop;exact hop rfl)
 ·-- var
  have hx:Hs.ExOk fs false seen d a1/\seen.length<=90000:=by
   rcases hok with ⟨_,h2,t',v',hk,h3,_⟩|⟨h1,_⟩|⟨h1,_⟩|⟨h1,_⟩|⟨h1,_⟩|⟨h1,_⟩|⟨h1,_⟩
   ·rw[hkd] at hk;simp at hk;rw[hk.2];exact⟨h3,h2⟩
   all_goals exact no hop (by decide) h1
  have hst:=O3 fs seen d a code.length t a1 hop hkd;rw[hst] at hlen ⊢
  simp only[m6,n8,p6] at hlen;have hp:=hps ⟨v1,[a1],true⟩ (by simp)
  obtain⟨T1,cs1,rfl⟩:=hp.one'.form;have hla:=hli.kid (k:=a1) (by rw[hkd];simp)
  refine(BN w cb code.length a.line p t.line (bs t.text) T1 (.agg cs1) seen.length (fun W=>MJ fp fb (fs.map (·.text)) cb F w (code++(aH.begin a.line seen::aG fs seen d a1 (code.length+1)++[aH.declare seen.length]).map some) (t.text::seen) W) _
   (fun b W=>∃W0,pO fp fb (fs.map (·.text)) cb F w W0 b (.cells #[.int .i64 a.line,.int .i64 t.line,.string (bs t.text),.iface T1 (.agg cs1)] 329) seen ((code++[some (.begin a.line seen)])++(aG fs seen d a1 (code.length+1)).map some) W)
   (fun b W=>∃W0,pO fp fb (fs.map (·.text)) cb F w W0 b (.cells #[.int .i64 a.line,.int .i64 t.line,.string (bs t.text),.iface T1 (.agg cs1)] 329) seen ((code++[some (.begin a.line seen)])++(aG fs seen d a1 (code.length+1)).map some++[some (.declare seen.length)]) W)
   hlt hc2 (beg (by omega)) (fun W hq=>?_) (fun b W hq=>?_) (fun b W hq=>?_) (fun b W hq=>?_) (fun b W hq=>?_))
  ·refine((hq.cpB _).exprk hfn hfp hsn _ a1 hp.one' hx.1 hla (by rw[hcl];omega)).mono ?_
   rintro e w' ⟨he,h2⟩;rw[hcl] at h2;exact⟨he,W,h2⟩
  ·obtain⟨W0,G,hG,hto,_⟩:=hq;exact PJ hto.1 hsn'
  ·obtain⟨W0,hq⟩:=hq;refine(hq.emit (u:=.iface 443 (.agg #[.int .i64 seen.length])) (i:=some (.declare seen.length)) (fun _=>rfl) (by simp;omega)).mono ?_
   rintro e w' ⟨he,h2⟩;exact⟨⟨_,he⟩,W0,h2⟩
  ·obtain⟨W0,hq⟩:=hq;exact⟨aA hq.box rfl,aD hq.box⟩
  ·obtain⟨W0,G,hG,hto,_⟩:=hq;refine(VQ t.text hto.1 hsn').mono ?_;rintro e w' ⟨he,q1,q2⟩;refine⟨he,fun k=>G k\/k=W.heap.size,fun k hk=>Or.inl (hG k hk),?_,hto.2.trans q2⟩
   simpa using q1
 ·-- an assignment
  have hx:a.text∈seen/\∀k∈a.kids,Hs.ExOk fs false seen d k:=by
   rcases hok with ⟨h1,_⟩|⟨_,h2,_,h3⟩|⟨h1,_⟩|⟨h1,_⟩|⟨h1,_⟩|⟨h1,_⟩|⟨h1,_⟩
   ·exact no hop (by decide) h1
   ·exact⟨h2,h3⟩
   all_goals exact no hop (by decide) h1
  have hst:=O4 fs seen d a code.length hop;have hkl:(l++[a1]).length-1=l.length:=by simp
  rw[hkd,nD,BV] at hst;rw[hkl] at hst;rw[hst] at hlen ⊢
  simp only[m6,n8,p6] at hlen;have hp:=hps ⟨sv,l,false⟩ (by simp)
  have hp1:=hps ⟨v1,[a1],true⟩ (by simp)
  obtain⟨T1,cs1,rfl⟩:=hp1.one'.form;obtain⟨x,c,rfl⟩:=hp.many.sliceC;have hlk:=hli.len;rw[hkd,m6] at hlk;generalize hs1:bP (aG fs seen d) l (code.length+1)=q1 at*;generalize hs2:aG fs seen d a1 (code.length+1+q1.length)=q2 at*
  refine(EY w cb code.length a.line p (bs a.text) x l.length c (eA seen a.text) T1 (.agg cs1) (fun W=>MJ fp fb (fs.map (·.text)) cb F w (code++(aH.begin a.line seen::(q1++q2)++[aH.assign (eA seen a.text) l.length]).map some) seen W) _
   (fun b W=>∃W0,pO fp fb (fs.map (·.text)) cb F w W0 b (.cells #[.int .i64 a.line,.string (bs a.text),.slice x l.length c,.iface T1 (.agg cs1)] 332) seen ((code++[some (.begin a.line seen)])++q1.map some) W)
   (fun b W=>∃W0,pO fp fb (fs.map (·.text)) cb F w W0 b (.cells #[.int .i64 a.line,.string (bs a.text),.slice x l.length c,.iface T1 (.agg cs1)] 332) seen ((code++[some (.begin a.line seen)])++q1.map some++q2.map some) W)
   hlt hc2 (beg (by omega)) (fun W hq=>?_) (fun b W hq=>?_) (fun b W hq=>?_) (fun b W hq=>?_) (fun b W W' hq hS=>?_) (fun b W W' hq hS=>?_))
  ·refine((hq.cpB _).exprsk hfn hfp hsn _ l hp.many (fun k hk=>hx.2 k (by rw[hkd];simp[hk])) (fun k hk=>hli.kid (by rw[hkd];simp[hk])) (by omega) (by rw[hcl,hs1];omega)).mono ?_
   rintro e w' ⟨he,h2⟩;rw[hcl,hs1] at h2;exact⟨he,W,h2⟩
  ·obtain⟨W0,hq⟩:=hq;exact⟨aA hq.box rfl,aD hq.box⟩
  ·obtain⟨W0,hq⟩:=hq;have hcl2:((code++[some (aH.begin a.line seen)])++q1.map some).length=code.length+1+q1.length:=by simp;omega
   refine(hq.exprk hfn hfp hsn _ a1 hp1.one' (hx.2 a1 (by rw[hkd];simp)) (hli.kid (by rw[hkd];simp)) (by rw[hcl2,hs2];omega)).mono ?_
   rintro e w' ⟨he,h2⟩;rw[hcl2,hs2] at h2;exact⟨he,W0,h2⟩
  ·obtain⟨W0,hq⟩:=hq;exact⟨aA hq.box rfl,aA hq.box rfl,aD hq.box⟩
  ·obtain⟨W0,G,hG,hto,_⟩:=hq;exact NK a.text (hto.1.grow hS.below) hx.1 hsn'
  ·obtain⟨W0,G,hG,hto,hL⟩:=hq;have hto':gB fp fb (fs.map (·.text)) cb G w ((code++[some (.begin a.line seen)])++q1.map some++q2.map some) seen W':=⟨hto.1.grow hS.below,hto.2.trans (FB.of_below hS.below hto.1.lt)⟩
   refine(emits (i:=.assign (eA seen a.text) l.length) hto' rfl (by simp;omega)).mono ?_
   rintro e w' ⟨he,h2⟩;refine⟨he,G,hG,?_⟩;have e9:code++(aH.begin a.line seen::(q1++q2)++[aH.assign (eA seen a.text) l.length]).map some=(code++[some (.begin a.line seen)])++q1.map some++q2.map some++[some (.assign (eA seen a.text) l.length)]:=by simp
   rw[e9];exact h2
 ·-- if,without else
  have hx:Hs.ExOk fs false seen d a1/\Hs.StsOk (dP fs d) seen b1.kids:=by
   rcases hok with ⟨h1,_⟩|⟨h1,_⟩|⟨_,c',t',hk,h3,h4⟩|⟨h1,_⟩|⟨h1,_⟩|⟨h1,_⟩|⟨h1,_⟩
   rotate_left 2
   ·rcases hk with hk|⟨x,hk,_⟩
    ·rw[hkd] at hk;simp at hk;rw[hk.1,hk.2];exact⟨h3,h4⟩
    ·rw[hkd] at hk;simp at hk
   all_goals exact no hop (by decide) h1
  have hst:=O6 fs seen d a code.length a1 b1 hop hkd;rw[hst] at hlen ⊢
  have hp1:=hps ⟨v1,[a1],true⟩ (by simp)
  have hp2:=hps ⟨s1,b1.kids,false⟩ (by simp)
  have hla:=hli.kid (k:=a1) (by rw[hkd];simp)
  have hlb:=hli.kid (k:=b1) (by rw[hkd];simp)
  obtain⟨T1,cs1,rfl⟩:=hp1.one'.form;obtain⟨x,c,rfl⟩:=hp2.many.sliceC;generalize hcc:aG fs seen d a1 (code.length+1)=cc at*;generalize hct:bG (bB fs d) seen b1.kids (code.length+1+cc.length+1)=ct at*;simp only[m6,n8,p6] at hlen;refine GR w cb code.length a.line p T1 (.agg cs1) x none b1.kids.length 0 c 0 _ _ hlt hc2 (beg (by omega)) (fun W hq=>?_)
  obtain⟨G,hG,hto,_⟩:=hq.cpB (.cells #[.int .i64 a.line,.iface T1 (.agg cs1),.slice x b1.kids.length c,.slice none 0 0] 334);refine(yE (d:=d) IH hfn hfp hsn a.line _ _ _ a1 b1.kids [] _ _ hto.1 (hp1.one'.below hto.2.bel) (hp2.many.below hto.2.bel) (Or.inl ⟨rfl,rfl⟩) hx.1 hx.2 trivial hla (fun k hk=>hlb.kid hk) (fun k hk=>by simp at hk) hlb.len (by simp) cc ct [] (by rw[hcl];exact hcc) (by rw[hcl];exact hct) rfl (by rw[hcl];simp;omega)).mono ?_
  rintro e w' ⟨he,h2⟩;refine⟨he,?_⟩;have h3:=(h2.then hto.2).more hG
  rw[hcl] at h3;have e9:(code++[some (aH.begin a.line seen)])++(cc++[aH.skip (code.length+1+cc.length+1+ct.length+1)]++ct++[aH.jump (code.length+1+cc.length+1+ct.length+1+([]:List aH).length)]++[]).map some=code++(aH.begin a.line seen::cc++[aH.skip (code.length+1+cc.length+1+ct.length+1)]++ct++[aH.jump (code.length+1+cc.length+1+ct.length+1)]).map some:=by simp
  rw[e9] at h3;exact h3
 ·-- if,with else
  have hx:Hs.ExOk fs false seen d a1/\Hs.StsOk (dP fs d) seen b1.kids/\Hs.StsOk (dP fs d) seen b2.kids:=by
   rcases hok with ⟨h1,_⟩|⟨h1,_⟩|⟨_,c',t',hk,h3,h4⟩|⟨h1,_⟩|⟨h1,_⟩|⟨h1,_⟩|⟨h1,_⟩
   rotate_left 2
   ·rcases hk with hk|⟨x,hk,h5⟩
    ·rw[hkd] at hk;simp at hk
    ·rw[hkd] at hk;simp at hk;rw[hk.1,hk.2.1,hk.2.2];exact⟨h3,h4,h5⟩
   all_goals exact no hop (by decide) h1
  have hst:=O5 fs seen d a code.length a1 b1 b2 hop hkd;rw[hst] at hlen ⊢
  have hp1:=hps ⟨v1,[a1],true⟩ (by simp)
  have hp2:=hps ⟨s1,b1.kids,false⟩ (by simp)
  have hp3:=hps ⟨s2,b2.kids,false⟩ (by simp)
  have hla:=hli.kid (k:=a1) (by rw[hkd];simp)
  have hlb:=hli.kid (k:=b1) (by rw[hkd];simp)
  have hld:=hli.kid (k:=b2) (by rw[hkd];simp)
  obtain⟨T1,cs1,rfl⟩:=hp1.one'.form;obtain⟨x,c,rfl⟩:=hp2.many.sliceC;obtain⟨x2,c2',rfl⟩:=hp3.many.sliceC;generalize hcc:aG fs seen d a1 (code.length+1)=cc at*;generalize hct:bG (bB fs d) seen b1.kids (code.length+1+cc.length+1)=ct at*;generalize hce:bG (bB fs d) seen b2.kids (code.length+1+cc.length+1+ct.length+1)=ce at*;simp only[m6,n8,p6] at hlen;refine GR w cb code.length a.line p T1 (.agg cs1) x x2 b1.kids.length b2.kids.length c c2' _ _ hlt hc2 (beg (by omega)) (fun W hq=>?_)
  obtain⟨G,hG,hto,_⟩:=hq.cpB (.cells #[.int .i64 a.line,.iface T1 (.agg cs1),.slice x b1.kids.length c,.slice x2 b2.kids.length c2'] 334);refine(yE (d:=d) IH hfn hfp hsn a.line _ _ _ a1 b1.kids b2.kids _ _ hto.1 (hp1.one'.below hto.2.bel) (hp2.many.below hto.2.bel) (hp3.many.below hto.2.bel) hx.1 hx.2.1 hx.2.2 hla (fun k hk=>hlb.kid hk) (fun k hk=>hld.kid hk) hlb.len hld.len cc ct ce (by rw[hcl];exact hcc) (by rw[hcl];exact hct) (by rw[hcl];exact hce) (by rw[hcl];omega)).mono ?_
  rintro e w' ⟨he,h2⟩;refine⟨he,?_⟩;have h3:=(h2.then hto.2).more hG
  rw[hcl] at h3;have e9:(code++[some (aH.begin a.line seen)])++(cc++[aH.skip (code.length+1+cc.length+1+ct.length+1)]++ct++[aH.jump (code.length+1+cc.length+1+ct.length+1+ce.length)]++ce).map some=code++(aH.begin a.line seen::cc++[aH.skip (code.length+1+cc.length+1+ct.length+1)]++ct++[aH.jump (code.length+1+cc.length+1+ct.length+1+ce.length)]++ce).map some:=by simp
  rw[e9] at h3;exact h3
 ·-- while
  have hx:Hs.ExOk fs false seen d a1/\Hs.StsOk (dP fs d) seen b1.kids:=by
   rcases hok with ⟨h1,_⟩|⟨h1,_⟩|⟨h1,_⟩|⟨_,c',t',hk,h3,h4⟩|⟨h1,_⟩|⟨h1,_⟩|⟨h1,_⟩
   rotate_left 3
   ·rw[hkd] at hk;simp at hk;rw[hk.1,hk.2];exact⟨h3,h4⟩
   all_goals exact no hop (by decide) h1
  have hst:=XD fs seen d a code.length a1 b1 hop hkd;rw[hst] at hlen ⊢
  have hp1:=hps ⟨v1,[a1],true⟩ (by simp)
  have hp2:=hps ⟨s1,b1.kids,false⟩ (by simp)
  have hla:=hli.kid (k:=a1) (by rw[hkd];simp)
  have hlb:=hli.kid (k:=b1) (by rw[hkd];simp)
  obtain⟨T1,cs1,rfl⟩:=hp1.one'.form;obtain⟨x,c,rfl⟩:=hp2.many.sliceC;generalize hcc:aG fs seen d a1 (code.length+1)=cc at*;generalize hct:bG (bB fs d) seen b1.kids (code.length+1+cc.length+1)=ct at*;simp only[m6,n8,p6] at hlen;refine JU w cb code.length a.line p T1 (.agg cs1) x b1.kids.length c _ _ hlt hc2 (beg (by omega)) (fun W hq=>?_)
  obtain⟨G,hG,hto,_⟩:=hq.cpB (.cells #[.int .i64 a.line,.iface T1 (.agg cs1),.slice x b1.kids.length c] 336);refine(A8 (d:=d) IH hfn hfp hsn a.line code.length _ _ a1 b1.kids _ _ hto.1 (hp1.one'.below hto.2.bel) (hp2.many.below hto.2.bel) hx.1 hx.2 hla (fun k hk=>hlb.kid hk) hlb.len cc ct (by rw[hcl];exact hcc) (by rw[hcl];exact hct) (by rw[hcl];omega)).mono ?_
  rintro e w' ⟨he,h2⟩;refine⟨he,?_⟩;have h3:=(h2.then hto.2).more hG
  rw[hcl] at h3;have e9:(code++[some (aH.begin a.line seen)])++(cc++[aH.skip (code.length+1+cc.length+1+ct.length+1)]++ct++[aH.jump code.length]).map some=code++(aH.begin a.line seen::cc++[aH.skip (code.length+1+cc.length+1+ct.length+1)]++ct++[aH.jump code.length]).map some:=by simp
  rw[e9] at h3;exact h3
 ·-- return,without a value
  have hst:=NE fs seen d a code.length hop hkd;rw[hst] at hlen ⊢
  simp only[n8,p6] at hlen;refine sD w cb code.length a.line p _ _ _ _ (fun W=>MJ fp fb (fs.map (·.text)) cb F w ((code++[some (aH.begin a.line seen)])++[some (.push (aV 0))]) seen W) hlt hc2 (beg (by omega)) (fun W hq=>?_) (fun W hq=>?_)
  ·obtain⟨G,hG,hto,_⟩:=hq.cpB (.cells #[.int .i64 a.line,.iface 397 (.agg #[.int .i64 l,.int .i64 0])] 338);obtain⟨G2,hG2,hto2,_⟩:=hto.cpB (.cells #[.int .i64 l,.int .i64 0] 397);refine(sI _ cb l 0 _ (emits (i:=.push (aV 0)) hto2 ⟨_,rfl,PV.num _ _ _ (by omega) (by omega),by rw[kA];omega⟩ (by simp;omega))).mono ?_
   rintro e w' ⟨he,h2⟩;exact⟨he,G2,fun k hk=>hG2 k (hG k hk),h2⟩
  ·obtain⟨G,hG,hto⟩:=hq;refine(emits (i:=.give) hto rfl (by simp;omega)).mono ?_
   rintro e w' ⟨he,h2⟩;refine⟨he,G,hG,?_⟩;have e9:code++([aH.begin a.line seen,.push (aV 0),.give]).map some=(code++[some (aH.begin a.line seen)])++[some (.push (aV 0))]++[some .give]:=by simp
   rw[e9];exact h2
 ·-- return
  have hx:Hs.ExOk fs false seen d a1:=by
   rcases hok with ⟨h1,_⟩|⟨h1,_⟩|⟨h1,_⟩|⟨h1,_⟩|⟨_,hk⟩|⟨h1,_⟩|⟨h1,_⟩
   rotate_left 4
   ·rcases hk with hk|⟨v',hk,h3⟩
    ·rw[hkd] at hk;simp at hk
    ·rw[hkd] at hk;simp at hk;rw[hk];exact h3
   all_goals exact no hop (by decide) h1
  have hst:=ND fs seen d a code.length a1 hop hkd;rw[hst] at hlen ⊢
  have hp1:=hps ⟨v1,[a1],true⟩ (by simp)
  have hla:=hli.kid (k:=a1) (by rw[hkd];simp)
  obtain⟨T1,cs1,rfl⟩:=hp1.one'.form;simp only[m6,n8,p6] at hlen;refine sD w cb code.length a.line p _ _ _ _ (fun W=>∃W0,pO fp fb (fs.map (·.text)) cb F w W0 W0.heap.size (.cells #[.int .i64 a.line,.iface T1 (.agg cs1)] 338) seen ((code++[some (aH.begin a.line seen)])++(aG fs seen d a1 (code.length+1)).map some) W) hlt hc2 (beg (by omega)) (fun W hq=>?_) (fun W hq=>?_)
  ·refine((hq.cpB _).exprk hfn hfp hsn _ a1 hp1.one' hx hla (by rw[hcl];omega)).mono ?_
   rintro e w' ⟨he,h2⟩;rw[hcl] at h2;exact⟨he,W,h2⟩
  ·obtain⟨W0,hq⟩:=hq;refine(hq.emit (u:=.iface 363 (.agg #[])) (i:=some .give) (fun _=>rfl) (by simp;omega)).mono ?_
   rintro e w' ⟨he,h2⟩;refine⟨⟨_,he⟩,?_⟩;have e9:code++(aH.begin a.line seen::aG fs seen d a1 (code.length+1)++[aH.give]).map some=(code++[some (aH.begin a.line seen)])++(aG fs seen d a1 (code.length+1)).map some++[some .give]:=by simp
   rw[e9];exact h2.fin
 ·-- print
  have hx:Hs.ExOk fs false seen d a1:=by
   rcases hok with ⟨h1,_⟩|⟨h1,_⟩|⟨h1,_⟩|⟨h1,_⟩|⟨h1,_⟩|⟨_,v',hk,h3⟩|⟨h1,_⟩
   rotate_left 5
   ·rw[hkd] at hk;simp at hk;rw[hk];exact h3
   all_goals exact no hop (by decide) h1
  have hst:=XE fs seen d a code.length a1 hop hkd;rw[hst] at hlen ⊢
  have hp1:=hps ⟨v1,[a1],true⟩ (by simp)
  have hla:=hli.kid (k:=a1) (by rw[hkd];simp)
  obtain⟨T1,cs1,rfl⟩:=hp1.one'.form;simp only[m6,n8,p6] at hlen;refine JV w cb code.length a.line p _ _ _ _ (fun W=>∃W0,pO fp fb (fs.map (·.text)) cb F w W0 W0.heap.size (.cells #[.int .i64 a.line,.iface T1 (.agg cs1)] 339) seen ((code++[some (aH.begin a.line seen)])++(aG fs seen d a1 (code.length+1)).map some) W) hlt hc2 (beg (by omega)) (fun W hq=>?_) (fun W hq=>?_)
  ·refine((hq.cpB _).exprk hfn hfp hsn _ a1 hp1.one' hx hla (by rw[hcl];omega)).mono ?_
   rintro e w' ⟨he,h2⟩;rw[hcl] at h2;exact⟨he,W,h2⟩
  ·obtain⟨W0,hq⟩:=hq;refine(hq.emit (u:=.iface 448 (.agg #[])) (i:=some .print) (fun _=>rfl) (by simp;omega)).mono ?_
   rintro e w' ⟨he,h2⟩;refine⟨⟨_,he⟩,?_⟩;have e9:code++(aH.begin a.line seen::aG fs seen d a1 (code.length+1)++[aH.print]).map some=(code++[some (aH.begin a.line seen)])++(aG fs seen d a1 (code.length+1)).map some++[some .print]:=by simp
   rw[e9];exact h2.fin
 ·-- a call alone
  have hx:Hs.ExOk fs false seen d c:=by
   rcases hok with ⟨h1,_⟩|⟨h1,_⟩|⟨h1,_⟩|⟨h1,_⟩|⟨h1,_⟩|⟨h1,_⟩|⟨_,v',hk,h3⟩
   rotate_left 6
   ·rw[hkd] at hk;simp at hk;rw[hk];exact h3
   all_goals exact no hop (by decide) h1
  have hst:=Y2 fs seen d a code.length c hop hkd;rw[hst] at hlen ⊢
  rw[<-hln];have hp:=hps ⟨sv,c.kids,false⟩ (by simp)
  have hla:=hli.kid (k:=c) (by rw[hkd];simp)
  obtain⟨x,cp,rfl⟩:=hp.many.sliceC;simp only[m6,n8,p6] at hlen;refine NB w cb code.length a.line p _ _ _ _ _ _ (fun W=>MJ fp fb (fs.map (·.text)) cb F w ((code++[some (aH.begin a.line seen)])++(aG fs seen d c (code.length+1)).map some) seen W) hlt hc2 (beg (by omega)) (fun W hq=>?_) (fun W hq=>?_)
  ·cases d with
   |zero=>exact hx.elim
   |succ d=>
    obtain⟨G,hG,hto,_⟩:=hq.cpB (.cells #[.int .i64 a.line,.string (bs c.text),.slice x c.kids.length cp] 341);refine(B7 (rN (by omega) hfn hfp d) hfn hfp c _ a.line _ _ hto.1 hcop (hp.many.below hto.2.bel) hx (hla _) (by rw[hcl];omega)).mono ?_
    rintro e w' ⟨he,h2⟩;rw[hcl] at h2;exact⟨he,G,hG,h2.then hto.2⟩
  ·obtain⟨G,hG,hto⟩:=hq;refine(emits (i:=.drop) hto rfl (by simp;omega)).mono ?_
   rintro e w' ⟨he,h2⟩;refine⟨he,G,hG,?_⟩;have e9:code++(aH.begin a.line seen::aG fs seen d c (code.length+1)++[aH.drop]).map some=(code++[some (aH.begin a.line seen)])++(aG fs seen d c (code.length+1)).map some++[some .drop]:=by simp
   rw[e9];exact h2
theorem WH(hfn:fs.length<=1000000)(hfp:∀k,k<fs.length->fp k=.pointer (some ⟨fb k,0,none⟩)):∀d,RE fp fb fs cb lo d
 |0=>fun _ _ _ _ _ _ _ _ h=>h.elim
 |d+1=>L5 (WH hfn hfp d) hfn hfp
end
theorem C0(w:World)(cb:Nat)(l:Int)(tx:ByteArray)(px bx:Option Addr)(np pc nb bc:Nat)(P:Value->World->Prop)(I:Nat->World->Prop)(Q R S:World->Prop)(hl:cb<w.heap.size)(hnp:np<=1000000)
 (c1:∃u,w.cell? ⟨cb,1,none⟩=some u) (c2:∃u,w.cell? ⟨cb,2,none⟩=some u) (f1:w.frozen? ⟨cb,1,none⟩=false) (f2:w.frozen? ⟨cb,2,none⟩=false)
 (HI:Hid (I 0 (((w.setCell ⟨cb,1,none⟩ (.slice none 0 0)).setCell ⟨cb,2,none⟩ (.pointer none)).alloc (.cells #[.int .i64 l,.string tx,.slice px np pc,.slice bx nb bc] 215))))
 (HP:Hid (∀j W,I j W->j<np->∃pg l2 t2,px=some ⟨pg,0,none⟩/\pg<W.heap.size/\W.cell? ⟨pg,j*2,none⟩=some (.int .i64 l2)/\W.cell? ⟨pg,j*2+1,none⟩=some (.string t2)/\Calls prog 236 #[.pointer (some ⟨cb,0,none⟩),.string t2] (W.alloc (.cells #[.int .i64 l2,.string t2] 211)) fun e w'=>e=.returned (.tuple #[])/\I (j+1) w'))
 (HB:Hid (∀W,I np W->W.cell? ⟨w.heap.size,3,none⟩=some (.slice bx nb bc)/\w.heap.size<W.heap.size/\Calls prog 237 #[.pointer (some ⟨cb,0,none⟩),.slice bx nb bc] W fun e w'=>e=.returned (.tuple #[])/\Q w'))
 (HE:Hid (∀W,Q W->Calls prog 238 #[.pointer (some ⟨cb,0,none⟩),.iface 361 (.agg #[.iface 315 (.int .i64 0)])] W fun e w'=>(∃k:Nat,e=.returned (.int .i64 k))/\R w'))
 (HG:Hid (∀W,R W->Calls prog 238 #[.pointer (some ⟨cb,0,none⟩),.iface 363 (.agg #[])] W fun e w'=>(∃k:Nat,e=.returned (.int .i64 k))/\S w'))
 (HS:Hid (∀W,S W->cb<W.heap.size/\∃x n c,W.cell? ⟨cb,1,none⟩=some (.slice x n c)/\P (.slice x n c) W)):
 Calls prog 173 #[.pointer (some ⟨cb,0,none⟩),.agg #[.int .i64 l,.string tx,.slice px np pc,.slice bx nb bc]] w fun e w'=>∃cv,e=.returned cv/\P cv w':=by
 obtain⟨u1,c1⟩:=c1;obtain⟨u2,c2⟩:=c2;have hne:¬cb=w.heap.size:=by omega
 have hne2:¬w.heap.size=cb:=by omega
 go_enter Tryz.func173,Tryz.ntmps173;go_wp2_with fail;go_loopg [6,16] np (fun gk _ i wr=>∃j:Nat,j+gk=np/\i=.int .i64 j/\I j wr)
 case atStart=>exact⟨0,by omega,rfl,HI.out⟩
 case round=>
  obtain⟨j,hj,rfl,hC⟩:=hrel;clear c1 c2 f1 f2 HI;by_cases hlt:j<np
  ·obtain⟨m,rfl⟩:∃m,gk=m+1:=⟨gk-1,by omega⟩
   obtain⟨pg,l2,t2,rfl,hg,d1,d2,hcl⟩:=HP.out _ _ hC hlt;have HX:=aB hcl;have e1:(0:Int)<=(j:Int):=by omega
   have e2:(j:Int)<(np:Int):=by omega
   clear hC hcl;go_wp2_with fail;refine HX.out.mono ?_;rintro e w1 ⟨rfl,h1⟩;go_wp2_with fail;go_roundg m
   case measure=>omega
   case rel=>exact⟨j+1,by omega,by go_num,h1⟩
  ·have hjn:j=np:=by omega
   subst hjn;obtain⟨d1,d2,hcl⟩:=HB.out _ hC;have HX:=aB hcl;clear hC hcl;go_wp2_with fail;refine HX.out.mono ?_;rintro e w1 ⟨rfl,h1⟩;have HEE:=aB (HE.out _ h1);clear h1 d1;go_wp2_with fail;refine HEE.out.mono ?_;rintro e w2 ⟨⟨k,rfl⟩,h2⟩;have HGG:=aB (HG.out _ h2);clear h2;go_wp2_with fail;refine HGG.out.mono ?_;rintro e w3 ⟨⟨k2,rfl⟩,h3⟩;obtain⟨g1,x,n,c,g2,g3⟩:=HS.out _ h3;have HF:=aB g3;clear h3 g3;go_wp2_with fail;go_ret;exact⟨_,rfl,HF.out⟩
theorem S9:(prog.info? 188).map (fun i=>(i.zero,i.size,i.bytes))=some (some (.pointer none),1,8):=by kernel_rfl
theorem LU(w:World)(g0 n cap:Nat)(P:Value->World->Prop)(I1:Nat->World->Prop)(I2:Nat->World->Prop)(hn:n<=1000000)
 (H0:Hid (I1 0 (w.alloc (.cells #[.slice none 0 0,.slice none 0 0,.pointer none] 276))))
 (H1:Hid (∀j W,I1 j W->j<n->w.heap.size<W.heap.size/\g0<W.heap.size/\∃l t x1 n1 c1 x2 n2 c2 x c xs cv sp,W.cell? ⟨g0,j*4,none⟩=some (.int .i64 l)/\W.cell? ⟨g0,j*4+1,none⟩=some (.string t)/\W.cell? ⟨g0,j*4+1+1,none⟩=some (.slice x1 n1 c1)/\W.cell? ⟨g0,j*4+1+1+1,none⟩=some (.slice x2 n2 c2)/\
   W.heap[w.heap.size]?=some (.cells #[.slice x j c,cv,sp] 276 (0,0))/\W.ownsRow (w.heap.size+1) 188 1 (.slice x j c) j xs/\
   ∀W3 g4 cap4 w4,W3=((W.alloc (.cells #[.int .i64 l,.string t,.slice x1 n1 c1,.slice x2 n2 c2] 215)).alloc (.cells #[.string t,.slice none 0 0] 250)).alloc (.cells #[.pointer (some ⟨W.heap.size+1,0,none⟩)] 188)->
    w4.ownsRow (w.heap.size+1) 188 1 (.slice (some ⟨g4,0,none⟩) (j+1) cap4) (j+1) (xs++[.pointer (some ⟨W.heap.size+1,0,none⟩)])->W3.grownBy w4 (Value.slice x j c).ownBlock->((Value.slice x j c).ownBlock=some g4\/g4=W.heap.size+3)->w4.heap[w.heap.size]?=some (.cells #[.slice x j c,cv,sp] 276 (0,0))->I1 (j+1) (w4.setCell ⟨w.heap.size,0,none⟩ (.slice (some ⟨g4,0,none⟩) (j+1) cap4))))
 (H12:Hid (∀W,I1 n W->I2 0 W))
 (H2:Hid (∀j W,I2 j W->j<n->w.heap.size<W.heap.size/\g0<W.heap.size/\∃l t x1 n1 c1 x2 n2 c2 g c fb,W.cell? ⟨g0,j*4,none⟩=some (.int .i64 l)/\W.cell? ⟨g0,j*4+1,none⟩=some (.string t)/\W.cell? ⟨g0,j*4+1+1,none⟩=some (.slice x1 n1 c1)/\W.cell? ⟨g0,j*4+1+1+1,none⟩=some (.slice x2 n2 c2)/\
   W.cell? ⟨w.heap.size,0,none⟩=some (.slice (some ⟨g,0,none⟩) n c)/\g<W.heap.size/\W.cell? ⟨g,j,none⟩=some (.pointer (some ⟨fb,0,none⟩))/\
   ∀W',aY (W.alloc (.cells #[.int .i64 l,.string t,.slice x1 n1 c1,.slice x2 n2 c2] 215)) W'->Calls prog 173 #[.pointer (some ⟨w.heap.size,0,none⟩),.agg #[.int .i64 l,.string t,.slice x1 n1 c1,.slice x2 n2 c2]] W' fun e w'=>∃x n3 c3,e=.returned (.slice x n3 c3)/\
    w.heap.size<w'.heap.size/\(∃g2 c2,w'.cell? ⟨w.heap.size,0,none⟩=some (.slice (some ⟨g2,0,none⟩) n c2)/\g2<w'.heap.size/\w'.cell? ⟨g2,j,none⟩=some (.pointer (some ⟨fb,0,none⟩)))/\g<w'.heap.size/\w'.cell? ⟨g,j,none⟩=some (.pointer (some ⟨fb,0,none⟩))/\fb<w'.heap.size/\(∃u,w'.cell? ⟨fb,1,none⟩=some u)/\w'.frozen? ⟨fb,1,none⟩=false/\I2 (j+1) (w'.setCell ⟨fb,1,none⟩ (.slice x n3 c3))))
 (H3:Hid (∀W,I2 n W->Calls prog 174 #[.pointer (some ⟨w.heap.size,0,none⟩),.string ⟨#[109,97,105,110]⟩] W fun e w'=>∃v,e=.returned (.pointer v)/\P (.pointer v) w')):
 Calls prog 123 #[.slice (some ⟨g0,0,none⟩) n cap] w fun e w'=>∃v,e=.returned v/\P v w':=by
 obtain⟨i0,hi,hz0,hz1,hz2⟩:=info_parts S9;go_enter Tryz.func123,Tryz.ntmps123;go_wp2_with fail;go_loopg [5,10] n (fun gk _ i wr=>∃j:Nat,j+gk=n/\i=.int .i64 j/\I1 j wr)
 case atStart=>exact⟨0,by omega,rfl,H0.out⟩
 case round=>
  obtain⟨j,hj,rfl,hC⟩:=hrel;clear H0;by_cases hlt:j<n
  ·obtain⟨m,rfl⟩:∃m,gk=m+1:=⟨gk-1,by omega⟩
   obtain⟨hl0,hl1,l,t,x1,n1,c1,x2,n2,c2,x,c,xs,cv,sp,d1,d2,d3,d4,d5,d6,d7⟩:=H1.out _ _ hC hlt;have HO:=aB d6;have HB:=aB d5;have HK:=aB d7;have q0:wr.cell? ⟨w.heap.size,0,none⟩=some (.slice x j c):=aA d5 rfl;have e1:(0:Int)<=(j:Int):=by omega
   have e2:(j:Int)<(n:Int):=by omega
   clear hC d5 d6 d7 H1;have HN:Hid (∀W:World,W.heap[wr.heap.size+1+1]?=some (.cells #[.pointer (some ⟨wr.heap.size+1,0,none⟩)] 188 (0,0))->∀k v,([.pointer (some ⟨wr.heap.size+1,0,none⟩)]:List Value)[k]?=some v->W.cell? ((⟨wr.heap.size+1+1,0,none⟩:Addr).add k)=some v):=fun W hW k v hk=>World.news_of_block hW k v (by simpa using hk)
   have HL:Hid ((((wr.alloc (.cells #[.int .i64 l,.string t,.slice x1 n1 c1,.slice x2 n2 c2] 215)).alloc (.cells #[.string t,.slice none 0 0] 250)).alloc (.cells #[.pointer (some ⟨wr.heap.size+1,0,none⟩)] 188)).heap[wr.heap.size+1+1]?=some (.cells #[.pointer (some ⟨wr.heap.size+1,0,none⟩)] 188 (0,0))):=aT _ _ (by simp) _
   have hone:∀v∈([.pointer (some ⟨wr.heap.size+1,0,none⟩)]:List Value),v.oneCell'=true:=fun v hv=>by simp at hv;rw[hv];rfl
   have HONE:=aB hone;clear hone;go_wp2_with (at_builtin;refine wpList_append_lies _ (by rfl) _ _ 274 (by rfl) (w.heap.size+1) 188 i0 _ 1 8 Tryz.underlying274 hi hz0 hz1 hz2 rfl (by decide) (.slice x j c) j xs (by rfl) (((HO.out.alloc _).alloc _).alloc _) ⟨wr.heap.size+1+1,0,none⟩ 1 1 [_] (by rfl) (by rfl) (HN.out _ HL.out) HONE.out (by decide) (by unfold maxLen;omega) (by omega) (by simp;omega) (wr.heap.size+3) (by simp) ?_)
   intro g4 cap4 w4 hown4 hgrow4 hat4 hg4;have hne:some w.heap.size≠(Value.slice x j c).ownBlock:=fun e=>by have:=(HO.out.lt _ e.symm).1;omega
   have hblk4:w4.heap[w.heap.size]?=some (.cells #[.slice x j c,cv,sp] 276 (0,0)):=by
    rw[hgrow4.block _ (by simp;omega) hne,o9 _ _ _ (by simp;omega),o9 _ _ _ (by simp;omega),o9 _ _ _ hl0];exact HB.out
   have c0':w4.cell? ⟨w.heap.size,0,none⟩=some (.slice x j c):=aA hblk4 rfl;have f0':=aE hblk4 (i:=0);have hgl4:=aD hblk4;have HFIN:=aB (HK.out _ g4 cap4 w4 rfl hown4 hgrow4 hat4 hblk4);clear hown4 hgrow4 hat4 hblk4 hg4 q0 d1 d2 d3 d4;go_wp2_with fail;go_roundg m
   case measure=>omega
   case rel=>exact⟨j+1,by omega,by go_num,HFIN.out⟩
  ·have hjn:j=n:=by omega
   subst hjn;have HI2:=aB (H12.out _ hC);clear hC H12 H1;go_wp2_with fail;go_loopg [6,7,27] j (fun gk _ _ i wr=>∃k:Nat,k+gk=j/\i=.int .i64 k/\I2 k wr)
   case atStart=>exact⟨0,by omega,rfl,HI2.out⟩
   case round=>
    obtain⟨k,hj2,rfl,hC⟩:=hrel;clear HI2;by_cases hlt:k<j
    ·obtain⟨m,rfl⟩:∃m,gk=m+1:=⟨gk-1,by omega⟩
     obtain⟨hl0,hl1,l,t,x1,n1,c1,x2,n2,c2,g,c,fb,d1,d2,d3,d4,d5,d6,d7,d8⟩:=H2.out _ _ hC hlt;have HX:=aB (d8 _ (aY.drew _));have e1:(0:Int)<=(k:Int):=by omega
     have e2:(k:Int)<(j:Int):=by omega
     clear hC d8 H2 H3;go_wp2_with fail;go_region_law (go_simp;go_at_call 173;refine HX.out.mono ?_;rintro e w1 ⟨x,n3,c3,rfl,a1,⟨g2,c2',b1,b2,b3⟩,a3,a4,a5,⟨u,a6⟩,a7,a8⟩;have HF:=aB a8;clear a8)
     all_goals
      go_wp2_with fail;go_roundg m
      case measure=>omega
      case rel=>exact⟨k+1,by omega,by go_num,HF.out⟩
    ·have hkn:k=j:=by omega
     subst hkn;have HX:=aB (H3.out _ hC);clear hC H2 H3;go_wp2_with fail;refine HX.out.mono ?_;rintro e w1 ⟨v,rfl,h1⟩;have HF:=aB h1;clear h1;go_wp2_with fail;go_ret;exact⟨_,rfl,HF.out⟩
section
variable {fp:Nat->Value} {fb:Nat->Nat} {fs:List aC} {cb lo d:Nat} {F:Nat->Prop}
def CQ(fp:Nat->Value)(fb:Nat->Nat)(nms:List (List UInt8))(cb:Nat)(F:Nat->Prop)(w:World):Prop:=
 (∃fv cv sp,w.heap[cb]?=some (.cells #[fv,cv,sp] 276 (0,0))/\JB fp fb nms F w fv)/\∀k,F k->k<w.heap.size/\k≠cb
theorem IM(fs:List aC)(d:Nat){f b:aC}{ps:List aC}(hk:f.kids=ps++[b]):(fJ fs d f).code=bG (bB fs d) (ps.map (·.text)).reverse b.kids 0++[.push (aV 0),.give]:=by simp[fJ,hk]
theorem M0(hfn:fs.length<=1000000)(hfp:∀k,k<fs.length->fp k=.pointer (some ⟨fb k,0,none⟩)){w:World}(h:CQ fp fb (fs.map (·.text)) cb F w)(f:aC)(v:Value)(hv:zX (Btw lo cb) w v f)(hok:jV fs d f)(hli:∀k∈f.kids,mD k)(hkl:f.kids.length<=90000):
 Calls prog 173 #[.pointer (some ⟨cb,0,none⟩),v] w fun e w'=>∃cv,e=.returned cv/\∃G sn,(∀k,F k->G k)/\CP fp fb (fs.map (·.text)) cb G w' ((fJ fs d f).code.map some) sn/\w'.cell? ⟨cb,1,none⟩=some cv/\Below cb w w'/\∀k,F k->w'.heap[k]?=w.heap[k]?:=by
 obtain⟨⟨fv,cv0,sp0,hblk,hfun⟩,hfix⟩:=h;obtain⟨pv,bv,ps,b,rfl,hk,hps,hbo,hbk⟩:=hv;obtain⟨px,pc,rfl⟩:=hps.slice;obtain⟨bx,bc,rfl⟩:=hbk.sliceC;obtain⟨⟨ps',b',hk',hst,_⟩,hlen⟩:=hok
 obtain⟨rfl,hbb⟩:ps'=ps/\b'=b:=by
  rw[hk] at hk';have:=ap_ hk' rfl;simp at this;exact⟨this.1.symm,this.2.symm⟩
 subst hbb;rw[IM fs d hk] at hlen ⊢
 simp only[m6,n8,p6] at hlen;rw[hk] at hkl;simp only[m6,n8,p6] at hkl;have hcb:=aD hblk;obtain⟨W0,hW0⟩:∃W0,W0=(w.setCell ⟨cb,1,none⟩ (.slice none 0 0)).setCell ⟨cb,2,none⟩ (.pointer none):=⟨_,rfl⟩;have hb0:Below cb w W0:=by rw[hW0];exact((m8 cb w).setCell (l9 _) _).setCell (l9 _) _
 have hsz:W0.heap.size=w.heap.size:=by rw[hW0];simp
 have hne0:∀k,k≠cb->W0.heap[k]?=w.heap[k]?:=fun k hk=>by rw[hW0,m7 _ _ _ _ hk,m7 _ _ _ _ hk]
 have hF0:∀k,F k->W0.heap[k]?=w.heap[k]?:=fun k hk=>hne0 k (hfix k hk).2
 have hblk0:W0.heap[cb]?=some (.cells #[fv,.slice none 0 0,.pointer none] 276 (0,0)):=by
  rw[hW0,aS (aS hblk)];rfl
 have hcp0:CP fp fb (fs.map (·.text)) cb F W0 [] []:=by
  refine⟨⟨fv,_,_,hblk0,⟨[],World.ownsRow_nil _ _ _ _,rfl,fun i o ho=>by simp at ho⟩,rfl,hfun.keep hF0 (fun _ h=>h) (by omega)⟩,fun k hk=>⟨by rw[hsz];exact(hfix k hk).1,(hfix k hk).2,?_⟩⟩
  rw[iY hblk0];simp[Value.ownBlock]
 obtain⟨hL1,hcp1⟩:=hcp0.new (.cells #[.int .i64 f.line,.string (bs f.text),.slice px ps'.length pc,.slice bx b'.kids.length bc] 215);rw[hsz] at hL1
 refine(C0 w cb f.line (bs f.text) px bx ps'.length pc b'.kids.length bc (fun cv w'=>∃G sn,(∀k,F k->G k)/\CP fp fb (fs.map (·.text)) cb G w' ((bG (bB fs d) (ps'.map fun a=>a.text).reverse b'.kids 0++[aH.push (aV 0),aH.give]).map some) sn/\w'.cell? ⟨cb,1,none⟩=some cv/\Below cb w w'/\∀k,F k->w'.heap[k]?=w.heap[k]?)
  (fun j W=>∃G,(∀k,F k->G k)/\CP fp fb (fs.map (·.text)) cb G W [] ((ps'.take j).map fun a=>a.text).reverse/\Loc cb W0 w.heap.size (.cells #[.int .i64 f.line,.string (bs f.text),.slice px ps'.length pc,.slice bx b'.kids.length bc] 215) W)
  (fun W=>∃G sn,(∀k,F k->G k)/\gB fp fb (fs.map (·.text)) cb G W0 ((bG (bB fs d) (ps'.map fun a=>a.text).reverse b'.kids 0).map some) sn W)
  (fun W=>∃G sn,(∀k,F k->G k)/\gB fp fb (fs.map (·.text)) cb G W0 ((bG (bB fs d) (ps'.map fun a=>a.text).reverse b'.kids 0).map some++[some (aH.push (aV 0))]) sn W)
  (fun W=>∃G sn,(∀k,F k->G k)/\gB fp fb (fs.map (·.text)) cb G W0 ((bG (bB fs d) (ps'.map fun a=>a.text).reverse b'.kids 0).map some++[some (aH.push (aV 0))]++[some aH.give]) sn W)
  hcb (by omega) ⟨_,aA hblk rfl⟩ ⟨_,aA hblk rfl⟩ (aE hblk) (aE hblk) ?_ (fun j W hq hj=>?_) (fun W hq=>?_) (fun W hq=>?_) (fun W hq=>?_) (fun W hq=>?_))
 ·show ∃G,_
  rw[<-hW0];exact⟨F,fun _ h=>h,hcp1,hL1⟩
 ·obtain⟨G,hG,hcp,hL⟩:=hq;rcases hps.get with ⟨_,hnil⟩|⟨pg,pcap,hpe,hpF,hpl,hpc,hcell⟩
  ·rw[hnil] at hj;simp at hj
  cases hpe;obtain⟨hp1,hp2⟩:=hcell j hj;have hbW:Below cb w W:=hb0.trans hL.fb.bel;refine⟨pg,_,_,rfl,m9 (Nat.lt_trans hpF.2 hcb) hbW.size,(hbW.cell (p:=⟨pg,j*2,none⟩) hpF.2).trans hp1,(hbW.cell (p:=⟨pg,j*2+1,none⟩) hpF.2).trans hp2,?_⟩;obtain⟨hL2,hcp2⟩:=hcp.new (.cells #[.int .i64 ps'[j].line,.string (bs ps'[j].text)] 211);refine(VQ ps'[j].text hcp2 (by simp;omega)).mono ?_
  rintro e w' ⟨he,q1,q2⟩;refine⟨he,fun k=>G k\/k=(W.alloc (.cells #[.int .i64 ps'[j].line,.string (bs ps'[j].text)] 211)).heap.size,fun k hk=>Or.inl (hG k hk),?_,hL.step (hL2.fb.trans q2)⟩
  have e9:((ps'.take (j+1)).map (·.text)).reverse=ps'[j].text::((ps'.take j).map (·.text)).reverse:=by
   rw[v7 hj,af_,List.reverse_append];rfl
  rw[e9];exact q1
 ·obtain⟨G,hG,hcp,hL⟩:=hq;rw[z8 (l9 _)] at hcp;have hbW:Below cb w W:=hb0.trans hL.fb.bel;refine⟨aA hL.blk rfl,aD hL.blk,?_⟩;refine(pL (WH hfn hfp d) _ b'.kids [] W hcp (hbk.below hbW) hst (fun a ha=>(hli b' (by rw[hk];simp)).kid ha) (hli b' (by rw[hk];simp)).len (by simp;omega) (by simp;omega)).mono ?_
  rintro e w' ⟨he,G2,hG2,hto⟩;exact⟨he,G2,_,fun k hk=>hG2 k (hG k hk),by simpa using hto.then hL.fb⟩
 ·obtain⟨G,sn,hG,hto⟩:=hq;refine(emits (i:=.push (aV 0)) hto ⟨_,rfl,PV.num _ _ _ (by omega) (by omega),by rw[kA];omega⟩ (by simp;omega)).mono ?_
  rintro e w' ⟨he,h2⟩;exact⟨he,G,sn,hG,h2⟩
 ·obtain⟨G,sn,hG,hto⟩:=hq;refine(emits (i:=.give) hto rfl (by simp;omega)).mono ?_
  rintro e w' ⟨he,h2⟩;exact⟨he,G,sn,hG,h2⟩
 ·obtain⟨G,sn,hG,hto⟩:=hq;obtain⟨fv',cv',sp',g1,⟨xs,g2,g3⟩,g4,g5⟩:=hto.1.blk;obtain⟨x,c,rfl⟩:=cV g2;refine⟨hto.1.lt,x,_,c,aA g1 rfl,G,sn,hG,?_,aA g1 rfl,hb0.trans hto.2.bel,fun k hk=>?_⟩
  ·have:=hto.1;simpa using this
  ·rw[hcp0.fixed hto.2 k hk,hF0 k hk]
end
def M7(w:World)(b:Nat):Prop:=∀c,w.heap[b]?≠some (.cells c 250 (0,0))
theorem eV.notFn{F:Nat->Prop}{w:World}:∀{l:List (List UInt8)} {v:Value},eV F w v l->eV (fun b=>F b/\M7 w b) w v l
 |[],_,h=>h
 |_::_,_,⟨b,o,h1,h2,h3,h4⟩=>⟨b,o,h1,⟨h2,fun c e=>by rw[h3] at e;cases e⟩,h3,eV.notFn h4⟩
theorem VR.notFn{F:Nat->Prop}{w:World}:∀{d:Nat} {v:Value} {a:aI},VR d F w v a->VR d (fun b=>F b/\M7 w b) w v a
 |0,_,_,h=>h.elim
 |d+1,v,a,h=>by
  rcases h with h|h|h|⟨sv,l,h1,h2,h3⟩
  ·exact Or.inl h
  ·exact Or.inr (Or.inl h)
  ·exact Or.inr (Or.inr (Or.inl h))
  ·refine Or.inr (Or.inr (Or.inr ⟨sv,l,h1,h2,?_⟩));rcases h3 with h3|⟨g,cap,cur,e1,e2,e3,e4,e5⟩
   ·exact Or.inl h3
   ·refine Or.inr ⟨g,cap,cur,e1,⟨e2,fun c e=>by rw[e3] at e;cases e⟩,e3,e4,fun i hi=>?_⟩
    obtain⟨u,k1,k2⟩:=e5 i hi;exact⟨u,k1,VR.notFn k2⟩
theorem lA.notFn{fp:Nat->Value}{F:Nat->Prop}{w:World}{v:Value}{i:aH}(h:lA fp F w v i):lA fp (fun b=>F b/\M7 w b) w v i:=by
 cases i<;>first
  |exact h
  |(obtain⟨sp,h1,h2⟩:=h;exact⟨sp,h1,h2.notFn⟩)
  |(obtain⟨u,h1,⟨d,h2⟩,h3⟩:=h;exact⟨u,h1,⟨d,h2.notFn⟩,h3⟩)
theorem lA.setFn{fp:Nat->Value}{F G:Nat->Prop}{w:World}{v u:Value}{i:aH}{b o:Nat}{c:Array Value}(h:lA fp F w v i)(hb:w.heap[b]?=some (.cells c 250 (0,0)))(hF:∀b,F b->G b):lA fp G (w.setCell ⟨b,o,none⟩ u) v i:=
 h.notFn.keep (fun k hk=>m7 _ _ _ _ fun e=>hk.2 c (by rw[e];exact hb)) fun k hk=>hF k hk.1
section
variable {fp:Nat->Value} {fb:Nat->Nat} {nms:List (List UInt8)} {cb:Nat} {F:Nat->Prop} {w:World}
theorem LY(name:List UInt8)(h:CQ fp fb nms cb F w)(hm:name∈nms)(hn:nms.length<=1000000):
 Calls prog 174 #[.pointer (some ⟨cb,0,none⟩),.string (bs name)] w fun e w'=>e=.returned (fp (nms.findIdx fun x=>x==name))/\w'=w:=by
 obtain⟨⟨fv,cv,sp,h1,h5⟩,_⟩:=h;rcases h5 with ⟨rfl,_⟩|⟨g,cap,rfl,hFg,hcap,hgl,hall⟩
 ·cases hm
 have hl:=aD h1;have c0:w.cell? ⟨cb,0,none⟩=some (.slice (some ⟨g,0,none⟩) nms.length cap):=aA h1 rfl;have HA:=aB hall;clear h1 hall;go_enter Tryz.func174,Tryz.ntmps174;go_wp2_with fail;go_loopg [6,12] nms.length (fun gk _ i wr=>∃j:Nat,j+gk=nms.length/\i=.int .i64 j/\j<=nms.findIdx (fun x=>x==name)/\wr=w)
 case atStart=>exact⟨0,by omega,rfl,aj_ _,rfl⟩
 case round=>
  obtain⟨j,hj,rfl,hle,rfl⟩:=hrel;have hfi:nms.findIdx (fun x=>x==name)<nms.length:=List.findIdx_lt_length_of_exists ⟨name,hm,by simp⟩
  have hlt:j<nms.length:=by omega
  obtain⟨m,rfl⟩:∃m,gk=m+1:=⟨gk-1,by omega⟩
  obtain⟨e1,e2,e3,x,e4⟩:=HA.out j hlt;rw[e2] at e1;have d0:wr.cell? ⟨fb j,0,none⟩=some (.string (bs nms[j])):=aA e4 rfl;have hbl:=aD e4;have i1:(0:Int)<=(j:Int):=by omega
  have i2:(j:Int)<(nms.length:Int):=by omega
  by_cases hx:nms[j]=name
  ·have hje:nms.findIdx (fun x=>x==name)=j:=by
    refine Nat.le_antisymm (Nat.not_lt.1 fun hlt'=>?_) hle
    have:=List.not_of_lt_findIdx hlt';simp[hx] at this
   have E2:=aB e2;rw[hx] at d0;clear e4 e2 HA;go_wp2_with fail;go_ret;exact⟨by rw[hje,E2.out];rfl,rfl⟩
  ·have hne:((bs nms[j]).toList==(bs name).toList)=false:=by rw[cB,cB];simpa using hx
   have hle':j+1<=nms.findIdx (fun x=>x==name):=by
    rcases as_ hle with e|e
    ·have:=aR_ (w:=hfi);simp only[<-e] at this;simp at this;exact absurd this hx
    ·exact e
   generalize nms[j]=y at*;clear e4 e2;go_wp2_with fail;go_roundg m
   case measure=>omega
   case rel=>exact⟨j+1,by omega,by go_num,hle',rfl⟩
end
def nO(bl:List Nat)(k:Nat):Nat:=bl[k]?.getD 0
def CY(bl:List Nat)(k:Nat):Value:=.pointer (some ⟨nO bl k,0,none⟩)
theorem oD{bl:List Nat}{k:Nat}(h:k<bl.length):nO bl k=bl[k]:=by simp[nO,h]
def CI1(w:World)(fs:List aC)(j:Nat)(W:World):Prop:=
 ∃(x:Option Addr) (c:Nat) (bl:List Nat),j<=fs.length/\W.heap[w.heap.size]?=some (.cells #[.slice x j c,.slice none 0 0,.pointer none] 276 (0,0))/\bl.length=j/\W.ownsRow (w.heap.size+1) 188 1 (.slice x j c) j (bl.map fun b=>.pointer (some ⟨b,0,none⟩))/\bl.Nodup/\
  (∀i (h:i<fs.length),∀b,bl[i]?=some b->W.heap[b]?=some (.cells #[.string (bs fs[i].text),.slice none 0 0] 250 (0,0))/\w.heap.size<b/\b<W.heap.size/\(Value.slice x j c).ownBlock≠some b)/\Below w.heap.size w W
def CI2(w:World)(fs:List aC)(d j:Nat)(W:World):Prop:=
 ∃(bl:List Nat) (F:Nat->Prop),bl.length=fs.length/\(bl.Nodup/\∀b∈bl,w.heap.size<b)/\j<=fs.length/\CQ (CY bl) (nO bl) (fs.map (·.text)) w.heap.size F W/\Below w.heap.size w W/\∀i (h:i<fs.length),i<j->C4 (CY bl) F W (CY bl i) (fJ fs d fs[i])
theorem CI1.zero(w:World)(fs:List aC):CI1 w fs 0 (w.alloc (.cells #[.slice none 0 0,.slice none 0 0,.pointer none] 276)):=
 ⟨none,0,[],aj_ _,aT _ _ rfl _,rfl,World.ownsRow_nil _ _ _ _,List.nodup_nil,fun i h b hb=>by simp at hb,(m8 _ _).alloc (l9 _) _⟩
theorem CI1.next{w W W3 w4:World}{fs:List aC}{j g4 cap4:Nat}{x:Option Addr}{c:Nat}{bl:List Nat}{o1 o3:Obj}(hj:j<fs.length)
 (hbl:bl.length=j) (hnd:bl.Nodup) (hall:∀i (h:i<fs.length),∀b,bl[i]?=some b->W.heap[b]?=some (.cells #[.string (bs fs[i].text),.slice none 0 0] 250 (0,0))/\w.heap.size<b/\b<W.heap.size/\(Value.slice x j c).ownBlock≠some b) (hbel:Below w.heap.size w W) (hlt:w.heap.size<W.heap.size)
 (hown:W.ownsRow (w.heap.size+1) 188 1 (.slice x j c) j (bl.map fun b=>.pointer (some ⟨b,0,none⟩)))
 (h3:W3=((W.alloc o1).alloc (.cells #[.string (bs fs[j].text),.slice none 0 0] 250)).alloc o3)
 (ho:w4.ownsRow (w.heap.size+1) 188 1 (.slice (some ⟨g4,0,none⟩) (j+1) cap4) (j+1) ((bl.map fun b=>.pointer (some ⟨b,0,none⟩))++[.pointer (some ⟨W.heap.size+1,0,none⟩)]))
 (hgr:W3.grownBy w4 (Value.slice x j c).ownBlock) (hat:(Value.slice x j c).ownBlock=some g4\/g4=W.heap.size+3)
 (hb4:w4.heap[w.heap.size]?=some (.cells #[.slice x j c,.slice none 0 0,.pointer none] 276 (0,0))):
 CI1 w fs (j+1) (w4.setCell ⟨w.heap.size,0,none⟩ (.slice (some ⟨g4,0,none⟩) (j+1) cap4)):=by
 have hs3:W3.heap.size=W.heap.size+3:=by rw[h3];simp
 have hsz:=hgr.size;have hgne:g4≠w.heap.size:=by have:=(ho.lt g4 rfl).1;omega
 have hb3:Below W.heap.size W W3:=by rw[h3];exact(((m8 _ _).alloc (l9 _) _).alloc (by simp) _).alloc (by simp;omega) _
 refine⟨some ⟨g4,0,none⟩,cap4,bl++[W.heap.size+1],hj,?_,by simp[hbl],?_,?_,fun i hi b hb=>?_,?_⟩
 ·rw[aS hb4];rfl
 ·rw[af_];exact bA ho fun k hk=>m7 _ _ _ _ (by cases hk;exact hgne)
 ·refine ai_.2 ⟨hnd,by simp,fun a ha b hb=>?_⟩
  simp at hb;obtain⟨i,hi,rfl⟩:=List.getElem_of_mem ha;have:=(hall i (by omega) _ (p9 hi)).2.2.1
  omega
 ·rcases ag_ i bl.length with hib|hib
  ·rw[ad_ hib] at hb;obtain⟨e1,e2,e3,e4⟩:=hall i hi b hb;refine⟨?_,e2,by simp;omega,fun e=>?_⟩
   ·rw[m7 _ _ _ _ (show b≠w.heap.size by omega),hgr.block b (by omega) (fun e=>e4 e.symm),hb3.block b e3];exact e1
   ·have e':g4=b:=by simpa [Value.ownBlock] using e
    rcases hat with h|h
    ·exact e4 (by rw[<-e'];exact h)
    ·omega
  ·rw[y8 hib] at hb
   have hij:i=j:=by
    rcases as_ hib with h|h
    ·omega
    ·rw[aa_ (by simp;omega)] at hb;cases hb
   subst hij;rw[hbl,Nat.sub_self] at hb;simp at hb;subst hb;have hown':(Value.slice x i c).ownBlock≠some (W.heap.size+1):=fun e=>by have:=(hown.lt _ e).2;omega
   refine⟨?_,by omega,by simp;omega,fun e=>?_⟩
   ·rw[m7 _ _ _ _ (show W.heap.size+1≠w.heap.size by omega),hgr.block _ (by omega) (fun e=>hown' e.symm),h3,o9 _ _ _ (by simp)]
    exact aT _ _ (by simp) _
   ·have e':g4=W.heap.size+1:=by simpa [Value.ownBlock] using e
    rcases hat with h|h
    ·exact hown' (by rw[<-e'];exact h)
    ·omega
 ·refine((hbel.trans (hb3.mono (by omega))).trans ?_).setCell (l9 _) _
  exact⟨hgr.os,hgr.tape,hgr.output,by omega,fun k hk=>hgr.block k (by omega) (fun e=>by have:=(hown.lt k e.symm).1;omega)⟩
theorem VX(fs:List aC)(k:Nat)(h:k<(fs.map (·.text)).length):(fs.map (·.text))[k]=(fs[k]'(by simpa using h)).text:=by simp
theorem AB(g j:Nat):(⟨g,0,none⟩:Addr).add j=⟨g,j,none⟩:=by unfold Addr.add;split<;>simp_all
theorem CI2.zero{w W:World}{fs:List aC}{d:Nat}(hne:fs≠[])(h:CI1 w fs fs.length W):CI2 w fs d 0 W:=by
 obtain⟨x,c,bl,_,h1,h2,h3,h4,h5,h6⟩:=h;have hpos:0<fs.length:=aB_.2 hne;have hrow:=h3;rcases h3.2 with ⟨r1,r2⟩|⟨g,cap,cur,r1,r2,r3,r4,r5⟩
 ·omega
 obtain⟨rfl,rfl⟩:x=some ⟨g,0,none⟩/\c=cap:=by simpa using r1
 have hgl:=hrow.lt g rfl;refine⟨bl,fun k=>k=g\/k∈bl,h2,⟨h4,fun b hb=>?_⟩,aj_ _,⟨⟨_,_,_,h1,Or.inr ⟨g,c,by simp,Or.inl rfl,by simp;exact r4,hgl.2,fun k hk=>?_⟩⟩,fun k hk=>?_⟩,h6,fun i _ hi=>by omega⟩
 ·obtain⟨i,hi,rfl⟩:=List.getElem_of_mem hb;exact(h5 i (by omega) bl[i] (p9 hi)).2.1
 ·have hk':k<fs.length:=by simpa using hk
  have hkb:k<bl.length:=by omega
  obtain⟨e1,e2,e3,e4⟩:=h5 k hk' bl[k] (p9 hkb);refine⟨?_,rfl,Or.inr (by rw[oD hkb];exact u_9 hkb),_,by rw[oD hkb,e1,VX]⟩
  have:=hrow.cells (g:=g) rfl k (CY bl k) (by simp[CY,oD hkb,hkb])
  rw[AB] at this;exact this
 ·rcases hk with rfl|hk
  ·exact⟨hgl.2,by omega⟩
  ·obtain⟨i,hi,rfl⟩:=List.getElem_of_mem hk;obtain⟨e1,e2,e3,e4⟩:=h5 i (by omega) bl[i] (p9 hi)
   exact⟨e3,by omega⟩
theorem CI2.next{w W w1:World}{fs:List aC}{d j:Nat}{bl:List Nat}{F G:Nat->Prop}{sn:List (List UInt8)}{cv:Value}(hj:j<fs.length)(hbl:bl.length=fs.length)(hnd:bl.Nodup/\∀b∈bl,w.heap.size<b)(hbel:Below w.heap.size w W)(hold:∀i (h:i<fs.length),i<j->C4 (CY bl) F W (CY bl i) (fJ fs d fs[i]))
 (hFG:∀k,F k->G k) (hcp:CP (CY bl) (nO bl) (fs.map (·.text)) w.heap.size G w1 ((fJ fs d fs[j]).code.map some) sn) (hcv:w1.cell? ⟨w.heap.size,1,none⟩=some cv) (hb1:Below w.heap.size W w1) (hF:∀k,F k->w1.heap[k]?=W.heap[k]?) (hpos:0<(fJ fs d fs[j]).code.length):
 CI2 w fs d (j+1) (w1.setCell ⟨nO bl j,1,none⟩ cv):=by
 have hjb:j<bl.length:=by omega
 obtain⟨fv,cv',sp,h1,⟨xs,h2,h3⟩,h4,h5⟩:=hcp.blk
 obtain rfl:cv'=cv:=by
  have:=aA h1 (i:=1) rfl;rw[hcv] at this;exact(Option.some.inj this).symm
 have hjn:j<(fs.map (·.text)).length:=by simpa using hj
 rcases h5 with ⟨e,_⟩|⟨g,cap,rfl,k1,k2,k3,k4⟩
 ·rw[e] at hjn;simp at hjn
 obtain⟨m1,m2,m3,x,m4⟩:=k4 j hjn;have hfj:=hcp.fix _ m3;rcases h2.2 with ⟨_,r2⟩|⟨gc,cap',cur,rfl,r2,r3,r4,r5,r6,r7⟩
 ·rw[List.length_map] at r2;omega
 have hgc:gc≠nO bl j:=fun e=>by rw[e,m4] at r3;cases r3
 have hgfb:∀k (h:k<(fs.map (·.text)).length),g≠nO bl k:=fun k hk e=>by
  obtain⟨z1,z2,z3,z,z4⟩:=k4 k hk;obtain⟨y1,_⟩:=k4 0 (by omega)
  have:=aA z4 (i:=0) rfl;rw[<-e,y1] at this;cases this
 have hkp:∀k,k≠nO bl j->(w1.setCell ⟨nO bl j,1,none⟩ (.slice (some ⟨gc,0,none⟩) ((fJ fs d fs[j]).code.map some).length cap')).heap[k]?=w1.heap[k]?:=fun k hk=>m7 _ _ _ _ hk
 have hjs:(w1.setCell ⟨nO bl j,1,none⟩ (.slice (some ⟨gc,0,none⟩) ((fJ fs d fs[j]).code.map some).length cap')).heap[nO bl j]?=some (.cells #[.string (bs (fs.map (·.text))[j]),.slice (some ⟨gc,0,none⟩) ((fJ fs d fs[j]).code.map some).length cap'] 250 (0,0)):=by
  rw[aS m4];rfl
 have hdist:∀i (hi:i<bl.length),i≠j->nO bl i≠nO bl j:=fun i hi hij e=>by
  rw[oD hi,oD hjb] at e;exact hij ((List.getElem_inj hnd.1).1 e)
 refine⟨bl,fun k=>G k\/k=gc,hbl,hnd,hj,⟨⟨_,_,_,by rw[hkp _ (fun e=>hfj.2.1 e.symm)];exact h1,Or.inr ⟨g,cap,rfl,Or.inl k1,k2,by simpa using k3,fun k hk=>?_⟩⟩,fun k hk=>?_⟩,?_,fun i hi hij=>?_⟩
 ·obtain⟨z1,z2,z3,z,z4⟩:=k4 k hk;refine⟨?_,z2,Or.inl z3,?_⟩
  ·rw[World.cell?_of_block (hkp g (hgfb j hjn))];exact z1
  ·by_cases hkj:k=j
   ·subst hkj;exact⟨_,hjs⟩
   ·exact⟨z,by rw[hkp _ (hdist k (by simp at hk;omega) hkj)];exact z4⟩
 ·rcases hk with hk|rfl
  ·have:=hcp.fix k hk;exact⟨by simpa using this.1,this.2.1⟩
  ·have:=h2.lt k rfl;exact⟨by simpa using this.2,by omega⟩
 ·exact(hbel.trans hb1).setCell (aX_ (by show w.heap.size<nO bl j;rw[oD hjb];exact hnd.2 _ (u_9 hjb))) _
 ·by_cases hij':i=j
  ·subst hij';refine⟨nO bl i,gc,cap',cur,rfl,Or.inl m3,?_,Or.inr rfl,by rw[hkp _ hgc];exact r3,fun q hq=>?_⟩
   ·rw[hjs,VX];simp only[List.length_map];rfl
   ·obtain⟨u,u1,u2⟩:=h3.2 q (some (fJ fs d fs[i]).code[q]) (by simp[hq])
    refine⟨u,?_,lA.setFn u2 m4 fun _ h=>Or.inl h⟩
    rw[<-r7] at u1;have hql:q<((fJ fs d fs[i]).code.map some).length*1:=by simpa using hq
    rw[List.getElem?_take_of_lt hql] at u1;simpa using u1
  ·obtain⟨fb',gc',cap2,cur',a1,a2,a3,a4,a5,a6⟩:=hold i hi (by omega)
   obtain rfl:fb'=nO bl i:=by simpa [CY] using a1.symm
   have b3:w1.heap[nO bl i]?=_:=(hF _ a2).trans a3;have b5:w1.heap[gc']?=_:=(hF _ a4).trans a5;refine⟨nO bl i,gc',cap2,cur',rfl,Or.inl (hFG _ a2),by rw[hkp _ (hdist i (by omega) hij')];exact b3,Or.inl (hFG _ a4),by rw[hkp _ (fun e=>by rw[e,m4] at b5;cases b5)];exact b5,fun q hq=>?_⟩
   obtain⟨u,u1,u2⟩:=a6 q hq;exact⟨u,u1,lA.setFn (u2.keep hF hFG) m4 fun _ h=>Or.inl h⟩
theorem QP{lo d:Nat}{fs:List aC}(v:Value)(w:World)(h:FSl (Btw lo w.heap.size) w v fs)(hfl:fs.length<=90000)(hok:∀f∈fs,jV fs d f)(hli:∀f∈fs,∀k∈f.kids,mD k)(hkl:∀f∈fs,f.kids.length<=90000)(hm:[109,97,105,110]∈fs.map (·.text)):
 Calls prog 123 #[v] w fun e w'=>∃fp F,e=.returned (fp (dA fs [109,97,105,110]))/\kX fp F w' (dR fs d)/\Below w.heap.size w w'/\∀k,F k->k<w'.heap.size:=by
 have hne:fs≠[]:=fun e=>by rw[e] at hm;simp at hm
 rcases h.cells with ⟨_,e⟩|⟨g0,cap,rfl,hg0,hgl,hcap,hc⟩
 ·exact absurd e hne
 refine(LU w g0 fs.length cap (fun v w'=>∃fp F,v=fp (dA fs [109,97,105,110])/\kX fp F w' (dR fs d)/\Below w.heap.size w w'/\∀k,F k->k<w'.heap.size) (CI1 w fs) (CI2 w fs d) (by omega) (CI1.zero w fs) (fun j W hq hj=>?_) (fun W hq=>CI2.zero hne hq) (fun j W hq hj=>?_) (fun W hq=>?_)).mono ?_
 ·obtain⟨x,c,bl,h0,h1,h2,h3,h4,h5,h6⟩:=hq;obtain⟨pv,bv,ps,b,e0,e1,e2,e3,hkids,hps,hbo,hbk⟩:=hc j hj;obtain⟨px,pc,rfl⟩:=hps.slice;obtain⟨bx,bc,rfl⟩:=hbk.sliceC;have cel:∀o u,w.cell? ⟨g0,o,none⟩=some u->W.cell? ⟨g0,o,none⟩=some u:=fun o u hu=>by rw[h6.cell (p:=⟨g0,o,none⟩) hgl];exact hu
  exact⟨aD h1,m9 hgl h6.size,_,_,_,_,_,_,_,_,_,_,_,_,_,cel _ _ e0,cel _ _ e1,cel _ _ e2,cel _ _ e3,h1,h3,fun W3 g4 cap4 w4 a1 a2 a3 a4 a5=>CI1.next hj h2 h4 h5 h6 (aD h1) h3 a1 a2 a3 a4 a5⟩
 ·obtain⟨bl,F,h1,h2,h3,h4,h5,h6⟩:=hq;obtain⟨pv,bv,ps,b,e0,e1,e2,e3,hkids,hps,hbo,hbk⟩:=hc j hj;have hFR:zX (Btw lo w.heap.size) w (.agg #[.int .i64 fs[j].line,.string (bs fs[j].text),pv,bv]) fs[j]:=⟨pv,bv,ps,b,rfl,hkids,hps,hbo,hbk⟩;obtain⟨px,pc,rfl⟩:=hps.slice;obtain⟨bx,bc,rfl⟩:=hbk.sliceC;have cel:∀o u,w.cell? ⟨g0,o,none⟩=some u->W.cell? ⟨g0,o,none⟩=some u:=fun o u hu=>by rw[h5.cell (p:=⟨g0,o,none⟩) hgl];exact hu
  have hcq:=h4;obtain⟨⟨fv,cv,sp,q1,q2⟩,q3⟩:=h4;have hjn:j<(fs.map (·.text)).length:=by simpa using hj
  rcases q2 with ⟨e,_⟩|⟨g,c,rfl,k1,k2,k3,k4⟩
  ·rw[e] at hjn;simp at hjn
  obtain⟨m1,m2,m3,x,m4⟩:=k4 j hjn;rw[m2] at m1;have hnl:(fs.map (·.text)).length=fs.length:=by simp
  refine⟨aD q1,m9 hgl h5.size,_,_,_,_,_,_,_,_,g,c,nO bl j,cel _ _ e0,cel _ _ e1,cel _ _ e2,cel _ _ e3,by rw[<-hnl];exact aA q1 rfl,k3,m1,fun W' hS=>?_⟩
  have hbW:Below W.heap.size W W':=((m8 _ _).alloc (l9 _) _).trans (hS.below.mono (by simp))
  have hcq':CQ (CY bl) (nO bl) (fs.map (·.text)) w.heap.size F W':=by
   obtain⟨⟨fv,cv,sp,z1,z2⟩,z3⟩:=hcq;exact⟨⟨fv,cv,sp,by rw[hbW.block _ (aD z1)];exact z1,z2.keep (fun k hk=>hbW.block k (z3 k hk).1) (fun _ h=>h) hbW.size⟩,fun k hk=>⟨m9 (z3 k hk).1 hbW.size,(z3 k hk).2⟩⟩
  have hcbW:=aD q1;refine(M0 (lo:=lo) (d:=d) (by omega) (fun k _=>rfl) hcq' fs[j] _ (hFR.keep (fun k hk=>(h5.trans (hbW.mono (by omega))).block k hk.2) fun _ h=>h) (hok _ (u_9 hj)) (hli _ (u_9 hj)) (hkl _ (u_9 hj))).mono ?_
  rintro e w' ⟨cv',he,G,sn,hFG,hcp,hcv,hb1,hF⟩;have hpos:0<(fJ fs d fs[j]).code.length:=by rw[IM fs d hkids];simp
  have hcp0:=hcp;obtain⟨fv',cv2,sp',y1,⟨xs,y2,y3⟩,y4,y5⟩:=hcp.blk
  obtain rfl:cv2=cv':=by
   have:=aA y1 (i:=1) rfl;rw[hcv] at this;exact(Option.some.inj this).symm
  obtain⟨x',c',rfl⟩:=cV y2;have hFW:∀k,F k->w'.heap[k]?=W.heap[k]?:=fun k hk=>by rw[hF k hk,hbW.block k (q3 k hk).1]
  rcases y5 with ⟨e,_⟩|⟨g2,c2,rfl,l1,l2,l3,l4⟩
  ·rw[e] at hjn;simp at hjn
  obtain⟨n1,n2,n3,x2,n4⟩:=l4 j hjn;rw[n2] at n1;refine⟨x',_,c',he,hcp.lt,⟨g2,c2,by rw[<-hnl];exact aA y1 rfl,l3,n1⟩,m9 k3 (p7 hbW.size hb1.size),?_,aD n4,⟨_,aA n4 rfl⟩,aE n4,?_⟩
  ·rw[World.cell?_of_block (hFW g k1)];exact m1
  ·exact CI2.next hj h1 h2 h5 h6 hFG hcp hcv ((hbW.mono (by omega)).trans hb1) hFW hpos
 ·obtain⟨bl,F,h1,h2,h3,h4,h5,h6⟩:=hq;refine(LY [109,97,105,110] h4 hm (by simpa using (by omega:fs.length<=1000000))).mono ?_
  rintro e w' ⟨he,rfl⟩;rw[CZ] at he;refine⟨_,he,CY bl,F,rfl,fun k f hf=>?_,h5,fun k hk=>(h4.2 k hk).1⟩
  have hkl:k<fs.length:=by
   rcases ag_ k fs.length with h|h
   ·exact h
   ·rw[aa_ (by simpa [dR] using h)] at hf;cases hf
  have:f=fJ fs d fs[k]:=by simpa [dR,hkl] using hf.symm
  rw[this];exact h6 k hkl hkl
 ·rintro e w' ⟨v,rfl,fp,F,rfl,h⟩;exact⟨fp,F,rfl,h⟩
theorem SD(w:World)(x0:Option Addr)(n0 c0:Nat)(x1:Option Addr)(n1 c1:Nat)(P:Value->World->Prop)(A:Value->World->Prop)(T:Value->Nat->Value->World->Prop)(B:Nat->World->Prop)
 (HC:Hid (Calls prog 123 #[.slice x0 n0 c0] (w.alloc (.cells #[.int .i64 0,.slice none 0 0,.slice none 0 0,.slice none 0 0,.int .i64 0] 108)) fun e w'=>∃p,e=.returned (.pointer p)/\A (.pointer p) w'))
 (HT:Hid (∀p W,A (.pointer p) W->Calls prog 124 #[.slice x1 n1 c1] (W.alloc (.cells #[.pointer p,.int .i64 0,.int .i64 0,.pointer none,.slice none 0 0,.slice none 0 0] 195)) fun e w'=>∃x n c,e=.returned (.slice x n c)/\T (.pointer p) W.heap.size (.slice x n c) w'))
 (HG:Hid (∀p gf x n c W,T (.pointer p) gf (.slice x n c) W->Calls prog 125 #[.pointer (some ⟨W.heap.size,0,none⟩)] (W.alloc (.cells #[.int .i64 0,.slice (some ⟨gf,0,none⟩) 1 1,.slice x n c,.slice none 0 0,.int .i64 0] 108)) fun e w'=>e=.returned (.tuple #[])/\B W.heap.size w'))
 (HB:Hid (∀b W,B b W->∃(q:Nat) (f t o:Value) (st:Nat),W.heap[b]?=some (.cells #[.int .i64 q,f,t,o,.int .i64 st] 108 (0,0))/\(∃x l c,f=.slice x l c)/\(∃x l c,t=.slice x l c)/\(∃x l c,o=.slice x l c)/\W.heap[w.heap.size]?=some (.cells #[.int .i64 0,.slice none 0 0,.slice none 0 0,.slice none 0 0,.int .i64 0] 108 (0,0))/\b≠w.heap.size/\
   ∀W',Kept [w.heap.size] W W'->W'.heap.size=W.heap.size->P (.agg #[.int .i64 q,f,t,o,.int .i64 st]) W')):
 Calls prog 70 #[.slice x0 n0 c0,.slice x1 n1 c1] w fun e w'=>∃v',e=.returned v'/\P v' w':=by
 go_enter Tryz.func70,Tryz.ntmps70;go_wp2_with fail;refine HC.out.mono ?_;rintro e w1 ⟨p,rfl,h1⟩;have HTT:=aB (HT.out _ _ h1);generalize hgf:w1.heap.size=gf at HTT;clear h1;go_wp2_with fail;refine HTT.out.mono ?_;rintro e w2 ⟨x,n,c,rfl,h2⟩;have HGG:=aB (HG.out _ _ _ _ _ _ h2);generalize hb:w2.heap.size=b at HGG;clear h2;go_wp2_with fail;refine HGG.out.mono ?_;rintro e w4 ⟨rfl,h4⟩;obtain⟨q,f,t,o,st,q1,⟨z1,r1,s1,rfl⟩,⟨z2,r2,s2,rfl⟩,⟨z3,r3,s3,rfl⟩,q2,q3,q4⟩:=HB.out _ _ h4;have HQ:=aB q4;have hc0:w4.cell? ⟨b,0,none⟩=some (.int .i64 q):=aA q1 rfl;have hc1:w4.cell? ⟨b,1,none⟩=some (.slice z1 r1 s1):=aA q1 rfl;have hc2:w4.cell? ⟨b,2,none⟩=some (.slice z2 r2 s2):=aA q1 rfl;have hc3:w4.cell? ⟨b,3,none⟩=some (.slice z3 r3 s3):=aA q1 rfl;have hc4:w4.cell? ⟨b,4,none⟩=some (.int .i64 st):=aA q1 rfl;have hb0:w4.cell? ⟨w.heap.size,0,none⟩=some (.int .i64 0):=aA q2 rfl;have hb1:w4.cell? ⟨w.heap.size,1,none⟩=some (.slice none 0 0):=aA q2 rfl;have hb2:w4.cell? ⟨w.heap.size,2,none⟩=some (.slice none 0 0):=aA q2 rfl;have hb3:w4.cell? ⟨w.heap.size,3,none⟩=some (.slice none 0 0):=aA q2 rfl;have hb4:w4.cell? ⟨w.heap.size,4,none⟩=some (.int .i64 0):=aA q2 rfl;have hf0:=aE (i:=0) q2;have hf1:=aE (i:=1) q2;have hf2:=aE (i:=2) q2;have hf3:=aE (i:=3) q2;have hf4:=aE (i:=4) q2;have hl1:=aD q1;have hl2:=aD q2;clear h4 q4 q1 q2;go_wp2_with fail;refine⟨rfl,.agg #[.int .i64 q,.slice z1 r1 s1,.slice z2 r2 s2,.slice z3 r3 s3,.int .i64 st],?_,_,rfl,HQ.out _ ?_ (by simp)⟩
 ·simp[results,Tryz.results70,go_sem,hb0,hb1,hb2,hb3,hb4]
 ·exact(((((Kept.refl _ _).setCell _ _ (by simp)).setCell _ _ (by simp)).setCell _ _ (by simp)).setCell _ _ (by simp)).setCell _ _ (by simp)
def WJ(w:World)(v:Value)(l:List Int):Prop:=
 (l=[]/\v=.slice none 0 0)\/∃g o c,v=.slice (some ⟨g,o,none⟩) l.length c/\g<w.heap.size/\∀i (h:i<l.length),w.cell? ⟨g,o+i,none⟩=some (.int .i64 l[i])/\ -9223372036854775808<=l[i]/\l[i]<=9223372036854775807
theorem EJ(w:World)(v:Value)(l:List Int)(h:WJ w v l)(hl:l.length<=1000000):∃x n c,v=.slice x n c/\Calls prog 124 #[.slice x n c] w fun e w'=>∃x n c,e=.returned (.slice x n c)/\Below w.heap.size w w'/\rA (fun k=>w.heap.size<=k/\k<w'.heap.size) w' (.slice x n c) l:=by
 rcases h with ⟨rfl,rfl⟩|⟨g,o,c,rfl,hg,hc⟩
 ·refine⟨none,0,0,rfl,(GC w).mono ?_⟩;rintro e w' ⟨rfl,rfl⟩;exact⟨_,_,_,rfl,m8 _ _,Or.inl ⟨rfl,none,0,rfl⟩⟩
 ·refine⟨_,_,_,rfl,(GD g o l.length c (l.map fun n=>Value.int .i64 n) w (by simp) hl (fun j u hj=>?_) (fun u hu=>?_)).mono ?_⟩
  ·rw[aM_] at hj;cases hl2:l[j]? with
   |none=>rw[hl2] at hj;cases hj
   |some n=>
    rw[hl2] at hj;obtain⟨hj2,rfl⟩:=z6.1 hl2;rw[(hc j hj2).1];exact hj
  ·obtain⟨n,_,rfl⟩:=aO_.1 hu;rfl
  ·rintro e w' ⟨v',rfl,hown,hb⟩;obtain⟨x,c',rfl⟩:=cV hown;refine⟨x,_,c',rfl,hb,?_⟩;rcases hown.2 with ⟨r1,r2⟩|⟨g2,cap,cur,r1,r2,r3,r4⟩
   ·exact Or.inl ⟨ay_.1 r2,x,c',by rw[r2]⟩
   ·refine Or.inr ⟨g2,0,cap,r1,r4.1,⟨r2,aD r3⟩,fun i hi=>⟨?_,(hc i hi).2⟩⟩
    have:=hown.cells (g:=g2) (by rw[r1];rfl) i (.int .i64 l[i]) (by simp[hi])
    rw[AB] at this;simpa using this
theorem C4.ptr{fp:Nat->Value}{F:Nat->Prop}{w:World}{v:Value}{f:eP}(h:C4 fp F w v f):∃p,v=.pointer p:=by
 obtain⟨fb,_,_,_,h1,_⟩:=h;exact⟨_,h1⟩
theorem Kept.below{own:List Nat}{w w':World}{n:Nat}(h:Kept own w w')(hn:n<=w.heap.size)(ho:∀k∈own,n<=k):Below n w w':=
 ⟨h.os,h.tape,h.output,h.size,fun k hk=>h.block k (by omega) fun hm=>by have:=ho k hm;omega⟩
section
variable {fp:Nat->Value} {F:Nat->Prop} {w:World} {z:Nat} {c:Array Value} (hz:w.heap[z]?=some (.cells c 108 (0,0)))
include hz
theorem eV.off:∀{l:List (List UInt8)} {v:Value},eV F w v l->eV (fun b=>F b/\b≠z) w v l
 |[],_,h=>h
 |_::_,_,⟨b,o,h1,h2,h3,h4⟩=>⟨b,o,h1,⟨h2,fun e=>by rw[e,hz] at h3;cases h3⟩,h3,eV.off h4⟩
theorem VR.off:∀{d:Nat} {v:Value} {a:aI},VR d F w v a->VR d (fun b=>F b/\b≠z) w v a
 |0,_,_,h=>h.elim
 |d+1,v,a,h=>by
  rcases h with h|h|h|⟨sv,l,h1,h2,h3⟩
  ·exact Or.inl h
  ·exact Or.inr (Or.inl h)
  ·exact Or.inr (Or.inr (Or.inl h))
  ·refine Or.inr (Or.inr (Or.inr ⟨sv,l,h1,h2,?_⟩));rcases h3 with h3|⟨g,cap,cur,e1,e2,e3,e4,e5⟩
   ·exact Or.inl h3
   ·refine Or.inr ⟨g,cap,cur,e1,⟨e2,fun e=>by rw[e,hz] at e3;cases e3⟩,e3,e4,fun i hi=>?_⟩
    obtain⟨u,k1,k2⟩:=e5 i hi;exact⟨u,k1,VR.off k2⟩
theorem lA.off{v:Value}{i:aH}(h:lA fp F w v i):lA fp (fun b=>F b/\b≠z) w v i:=by
 cases i<;>first
  |exact h
  |(obtain⟨sp,h1,h2⟩:=h;exact⟨sp,h1,h2.off hz⟩)
  |(obtain⟨u,h1,⟨d,h2⟩,h3⟩:=h;exact⟨u,h1,⟨d,h2.off hz⟩,h3⟩)
theorem kX.off{tab:List eP}(h:kX fp F w tab):kX fp (fun b=>F b/\b≠z) w tab:=fun k f hf=>by
 obtain⟨fb,gc,cap,cur,a1,a2,a3,a4,a5,a6⟩:=h k f hf;refine⟨fb,gc,cap,cur,a1,⟨a2,fun e=>by rw[e,hz] at a3;cases a3⟩,a3,⟨a4,fun e=>by rw[e,hz] at a5;cases a5⟩,a5,fun i hi=>?_⟩
 obtain⟨u,u1,u2⟩:=a6 i hi;exact⟨u,u1,u2.off hz⟩
end
theorem TL{lo d k:Nat}{fs:List aC}{tape:List Int}{r:cP × Nat}(v tv:Value)(w:World)(h:FSl (Btw lo w.heap.size) w v fs)(hfl:fs.length<=90000)(hok:∀f∈fs,jV fs d f)(hli:∀f∈fs,∀k∈f.kids,mD k)(hkl:∀f∈fs,f.kids.length<=90000)(hm:fO fs (dA fs [109,97,105,110])=some 0)
 (ht:WJ w tv tape) (htl:tape.length<=1000000) (hp:kY w) (hU:jM (dR fs d)) (hk:dU (dR fs d) k (gZ fs d tape)=some r) (hr:r.2<=1000):
 Calls prog 70 #[v,tv] w fun e w'=>∃v',e=.returned v'/\Below w.heap.size w w'/\∃fp G,(∀b,G b->b<w'.heap.size)/\kX fp G w' (dR fs d)/\nQ fp G w' v' ⟨0,r.1,bR 0 r.2⟩:=by
 have hix:dA fs [109,97,105,110]<fs.length:=by
  unfold fO at hm;rcases ag_ (dA fs [109,97,105,110]) fs.length with h|h
  ·exact h
  ·rw[aa_ h] at hm;cases hm
 have hmem:[109,97,105,110]∈fs.map (·.text):=by
  have:=aR_ (p:=fun f:aC=>f.text==[109,97,105,110]) (xs:=fs) (w:=hix)
  exact aO_.2 ⟨_,u_9 hix,eq_of_beq this⟩
 obtain⟨x0,c0,rfl⟩:∃x c,v=.slice x fs.length c:=by
  rcases h with ⟨rfl,rfl⟩|⟨g,cap,cur,us,rfl,_⟩
  ·exact⟨none,0,rfl⟩
  ·exact⟨_,_,rfl⟩
 obtain⟨x1,n1,c1,rfl⟩:∃x n c,tv=.slice x n c:=by
  rcases ht with ⟨_,rfl⟩|⟨g,o,c,rfl,_⟩
  ·exact⟨_,_,_,rfl⟩
  ·exact⟨_,_,_,rfl⟩
 generalize hf0:(dR fs d)[dA fs [109,97,105,110]]?.getD ⟨[],[]⟩=f0
 have hf0':(dR fs d)[dA fs [109,97,105,110]]?=some f0:=by
  rw[p9 (by simpa [dR] using hix)] at hf0 ⊢
  simpa using hf0
 have hms:gZ fs d tape=⟨[⟨f0,0,0,[],[],[]⟩],tape,[]⟩:=by rw[<-hf0];rfl
 have hAO:=tL hok hm tape
 have hMU:fR (gZ fs d tape):=by
  rw[hms];intro f hf;simp at hf;subst hf;exact⟨hU _ (aq_ hf0'),fun v hv=>by simp at hv,fun v hv=>by simp at hv⟩
 rw[hms] at hAO hMU hk;obtain⟨w1,hw1⟩:∃w1,w1=w.alloc (.cells #[.int .i64 0,.slice none 0 0,.slice none 0 0,.slice none 0 0,.int .i64 0] 108):=⟨_,rfl⟩;have hb1:Below w.heap.size w w1:=by rw[hw1];exact(m8 _ _).alloc (l9 _) _
 have hs1:w1.heap.size=w.heap.size+1:=by rw[hw1];simp
 have hB1:w1.heap[w.heap.size]?=some (.cells #[.int .i64 0,.slice none 0 0,.slice none 0 0,.slice none 0 0,.int .i64 0] 108 (0,0)):=by rw[hw1];exact aT _ _ rfl _
 have hFS:FSl (Btw lo w1.heap.size) w1 (.slice x0 fs.length c0) fs:=h.grow (fun b hb=>hb1.block b hb.2) fun b hb=>⟨hb.1,by have:=hb.2;omega⟩
 refine(SD w x0 fs.length c0 x1 n1 c1 (fun v' w'=>Below w.heap.size w w'/\∃fp G,(∀b,G b->b<w'.heap.size)/\kX fp G w' (dR fs d)/\nQ fp G w' v' ⟨0,r.1,bR 0 r.2⟩)
  (fun p W=>∃fp F,p=fp (dA fs [109,97,105,110])/\kX fp F W (dR fs d)/\Below w1.heap.size w1 W/\∀k,F k->k<W.heap.size)
  (fun p gf tv' W=>∃fp F,p=fp (dA fs [109,97,105,110])/\kX fp F W (dR fs d)/\Below w1.heap.size w1 W/\(∀k,F k->k<W.heap.size/\k≠gf)/\w1.heap.size<=gf/\gf<W.heap.size/\W.heap[gf]?=some (.cells #[p,.int .i64 0,.int .i64 0,.pointer none,.slice none 0 0,.slice none 0 0] 195 (0,0))/\rA F W tv' tape/\∀k,F k->k≠w.heap.size)
  (fun b W=>∃fp F gf cap tv' outv fvs,Below w1.heap.size w1 W/\w1.heap.size<=b/\cT fp F w1.heap.size W b gf cap (.int .i64 ((0:Nat):Int)) tv' outv (.int .i64 (bR 0 r.2)) fvs r.1/\kX fp F W (dR fs d)/\(∀k∈aF b gf outv fvs,w1.heap.size<=k)/\∀k,F k->k≠w.heap.size)
  ?_ (fun p W hq=>?_) (fun p gf x n c W hq=>?_) (fun b W hq=>?_))
 ·show Calls _ _ _ _ _
  rw[<-hw1];refine(QP (lo:=lo) (d:=d) _ w1 hFS hfl hok hli hkl hmem).mono ?_;rintro e w' ⟨fp,F,he,hT,hb,hF⟩;obtain⟨p,hpp⟩:=(hT _ _ hf0').ptr;exact⟨p,by rw[he,hpp],fp,F,hpp.symm,hT,hb,hF⟩
 ·obtain⟨fp,F,hpe,hT,hb,hF⟩:=hq;have hzW:W.heap[w.heap.size]?=some (.cells #[.int .i64 0,.slice none 0 0,.slice none 0 0,.slice none 0 0,.int .i64 0] 108 (0,0)):=by rw[hb.block _ (by omega)];exact hB1
  have hT':=hT.off hzW;generalize hW':W.alloc (.cells #[.pointer p,.int .i64 0,.int .i64 0,.pointer none,.slice none 0 0,.slice none 0 0] 195)=W';have hbW:Below W.heap.size W W':=by rw[<-hW'];exact(m8 _ _).alloc (l9 _) _
  have hsW:W'.heap.size=W.heap.size+1:=by rw[<-hW'];simp
  have hgW:W'.heap[W.heap.size]?=some (.cells #[.pointer p,.int .i64 0,.int .i64 0,.pointer none,.slice none 0 0,.slice none 0 0] 195 (0,0)):=by rw[<-hW'];exact aT _ _ rfl _
  have hwW:Below w.heap.size w W':=hb1.trans ((hb.mono (by omega)).trans (hbW.mono (by have:=hb.size;omega)))
  have htW:WJ W' (.slice x1 n1 c1) tape:=by
   rcases ht with ht|⟨g,o,c,e,hg,hc⟩
   ·exact Or.inl ht
   ·exact Or.inr ⟨g,o,c,e,m9 hg hwW.size,fun i hi=>⟨(hwW.cell (p:=⟨g,o+i,none⟩) hg).trans (hc i hi).1,(hc i hi).2⟩⟩
  obtain⟨x,n,c,e,hcl⟩:=EJ W' _ tape htW htl;rw[e];refine hcl.mono ?_;rintro e w' ⟨x',n',c',he,hb',htr⟩;have hbw:Below W.heap.size W w':=hbW.trans (hb'.mono (by omega))
  refine⟨x',n',c',he,fp,fun k=>(F k/\k≠w.heap.size)\/(W'.heap.size<=k/\k<w'.heap.size),hpe,hT'.keep (fun k hk=>hbw.block k (hF k hk.1)) fun _ h=>Or.inl h,hb.trans (hbw.mono hb.size),fun k hk=>?_,hb.size,by have:=hb'.size;omega,by rw[hb'.block _ (by omega)];exact hgW,htr.keep (fun _ _=>rfl) fun _ h=>Or.inr h,fun k hk=>by
   rcases hk with h1|h1
   ·exact h1.2
   ·have:=hb.size;omega⟩
  have:=hb'.size;rcases hk with h1|h1
  ·have:=hF k h1.1;omega
  ·omega
 ·obtain⟨fp,F,hpe,hT,hb,hF,hg1,hg2,hg3,htr,hFz⟩:=hq;generalize hW':W.alloc (.cells #[.int .i64 0,.slice (some ⟨gf,0,none⟩) 1 1,.slice x n c,.slice none 0 0,.int .i64 0] 108)=W';have hbW:Below W.heap.size W W':=by rw[<-hW'];exact(m8 _ _).alloc (l9 _) _
  have hsW:W'.heap.size=W.heap.size+1:=by rw[<-hW'];simp
  have hgW:W'.heap[W.heap.size]?=some (.cells #[.int .i64 0,.slice (some ⟨gf,0,none⟩) 1 1,.slice x n c,.slice none 0 0,.int .i64 0] 108 (0,0)):=by rw[<-hW'];exact aT _ _ rfl _
  have hTW:kX fp F W' (dR fs d):=hT.keep (fun k hk=>hbW.block k (hF k hk).1) fun _ h=>h
  have hown:aF W.heap.size gf (.slice none 0 0) [⟨.pointer p,.int .i64 0,.int .i64 0,.pointer none,.slice none 0 0,.slice none 0 0⟩]=[W.heap.size,gf]:=rfl;have hnil:lV F w1.heap.size W' (.slice none 0 0) []:=⟨⟨[],World.ownsRow_nil _ _ _ _,fY.nil _ _⟩,fun a ha=>by simp at ha⟩
  have hrun:cT fp F w1.heap.size W' W.heap.size gf 1 (.int .i64 ((0:Nat):Int)) (.slice x n c) (.slice none 0 0) (.int .i64 0) [⟨.pointer p,.int .i64 0,.int .i64 0,.pointer none,.slice none 0 0,.slice none 0 0⟩] ⟨[⟨f0,0,0,[],[],[]⟩],tape,[]⟩:=by
   refine⟨hgW,⟨rfl,Or.inr ⟨gf,1,_,rfl,hg1,by rw[hbW.block _ hg2];exact hg3,l9 _,by unfold maxLen;omega,rfl,rfl⟩⟩,⟨⟨?_,rfl,rfl,rfl,hnil,hnil⟩,trivial⟩,htr.keep (fun k hk=>hbW.block k (hF k hk).1) fun _ h=>h,World.ownsRow_nil _ _ _ _,?_,?_,fun k hk=>?_⟩
   ·show C4 fp F W' (.pointer p) f0
    rw[hpe];exact hTW _ _ hf0'
   ·rw[hown];simp;omega
   ·rw[hown];simp;omega
   ·rw[hown];have:=hF k hk;simp;omega
  have hb0:Below w1.heap.size w1 W':=hb.trans (hbW.mono hb.size);have hbw0:Below w.heap.size w W':=hb1.trans (hb0.mono (by omega))
  refine(PE (lE hok) hU hrun hTW (zW.of hp hbw0 fun k hk=>?_) hb0.size hAO hMU (by simp) (by simp;omega) hk (by omega) hr).mono ?_
  ·rw[hown] at hk;have:=hb.size;simp at hk;omega
  rintro e w' ⟨he,hd1,G,gf',cap',tv'',outv',fvs',d1,d2,d3⟩;rw[hown] at d3 hd1
  have hsub:∀x∈aF W.heap.size gf' outv' fvs',w1.heap.size<=x:=fun x hx=>by
   have:=hb.size;rcases d3 x hx with h1|h1
   ·simp at h1;omega
   ·omega
  have hlt:∀k∈[W.heap.size,gf],w1.heap.size<=k:=fun k hk=>by have:=hb.size;simp at hk;omega
  refine⟨he,fp,G,gf',cap',tv'',outv',fvs',hb0.trans (hd1.below hb0.size hlt),hb.size,d2,?_,hsub,fun k hk=>?_⟩
  ·refine hTW.keep (fun k hk=>hd1.block k (m9 (hF k hk).1 hbW.size) fun hm=>?_) d1.sub
   have:=hF k hk;simp at hm;omega
  ·rcases d1.new k hk with h1|h1
   ·exact hFz k h1
   ·have:=hb0.size;omega
 ·obtain⟨fp,F,gf,cap,tv',outv,fvs,g1,g2,g5,gT,g6,g7⟩:=hq;have hblk:=g5.blk;refine⟨_,_,_,_,_,hblk,⟨_,_,_,rfl⟩,?_,tK g5.out,by rw[g1.block _ (by omega)];exact hB1,by omega,fun W' hkp hsz=>?_⟩
  ·rcases g5.tape with ⟨_,x,c,e⟩|⟨g,o,c,e,_⟩<;>exact⟨_,_,_,e⟩
  ·have hb0:Below w.heap.size w W:=hb1.trans (g1.mono (by omega))
   have hS:=g5.kept (G:=fun k=>F k\/(k∈aF b gf outv fvs/\k≠b)) (fun _ h=>Or.inl h) (fun k hk' hn=>Or.inr ⟨hk',hn⟩)
   have hne1:∀k,(F k\/(k∈aF b gf outv fvs/\k≠b))->k≠w.heap.size/\k<W.heap.size:=fun k hk'=>by
    rcases hk' with h1|⟨h1,_⟩
    ·exact⟨g7 k h1,(g5.apart k h1).1⟩
    ·have:=g6 k h1;exact⟨by omega,g5.lt k h1⟩
   have hkk:∀k,(F k\/(k∈aF b gf outv fvs/\k≠b))->W'.heap[k]?=W.heap[k]?:=fun k hk'=>hkp.block k (hne1 k hk').2 (by simpa using (hne1 k hk').1)
   refine⟨⟨hkp.os.trans hb0.os,hkp.tape.trans hb0.tape,hkp.output.trans hb0.output,by rw[hsz];exact hb0.size,fun k hk'=>?_⟩,fp,fun k=>F k\/(k∈aF b gf outv fvs/\k≠b),fun k hk'=>by rw[hsz];exact(hne1 k hk').2,gT.keep (fun k hk'=>hkk k (Or.inl hk')) fun _ h=>Or.inl h,hS.keep hkk fun _ h=>h⟩
   rw[hkp.block k (m9 hk' hb0.size) (by simp;omega),hb0.block k hk']
end Go.Proofs.YtblbkfdhjfppkaaGreatDoor
