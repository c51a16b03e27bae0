/- Contracts of the program: names: variables. -/
import Derived.Test.YtblbkfdhjfppkaaGreatDoorP06
import Derived.Test.YtblbkfdhjfppkaaGreatDoorP04
set_option maxRecDepth 100000
set_option maxHeartbeats 4000000
namespace Go.Proofs.YtblbkfdhjfppkaaGreatDoor
open Hs
open Go.RowKit
abbrev FV(pv:Value):Value:=.func (.func 135) #[pv] #[]
def FVl(F:Nat→Prop)(w:World)(fv:Value)(fs:List aC):Prop:=∃pv,fv=FV pv∧FSl F w pv fs
structure CK(cb lo:Nat)(fs:List aC)(fv:Value)(w:World)(seen:List (List UInt8)):Prop where
 blk:∃sv,w.heap[cb]?=some (.cells #[fv,sv] 220 (0,0))∧w.ownsRow (cb+1) 9 1 sv seen.length (jR seen)
 fun_:FVl (Btw lo cb) w fv fs
theorem FSl.keep{F:Nat→Prop}{w w':World}{v:Value}{fs:List aC}(h:FSl F w v fs)(hk:∀b,F b→w'.heap[b]?=w.heap[b]?):FSl F w' v fs:=by
 rcases h with h|⟨g,cap,cur,us,h1,h2,h3,h4,h5,h6⟩
 ·exact Or.inl h
 ·exact Or.inr ⟨g,cap,cur,us,h1,h2,by rw[hk g h2];exact h3,h4,h5,h6.mono fun _ _ h=>h.keep hk fun _ h=>h⟩
theorem FVl.keep{F:Nat→Prop}{w w':World}{v:Value}{fs:List aC}(h:FVl F w v fs)(hk:∀b,F b→w'.heap[b]?=w.heap[b]?):FVl F w' v fs:=by
 obtain⟨pv,h1,h2⟩:=h;exact⟨pv,h1,h2.keep hk⟩
theorem CK.lt{cb lo:Nat}{fs:List aC}{fv:Value}{w:World}{seen:List (List UInt8)}(h:CK cb lo fs fv w seen):cb<w.heap.size:=by
 obtain⟨_,h1,_⟩:=h.blk;exact aD h1
theorem CK.grow{cb lo:Nat}{fs:List aC}{fv:Value}{w w':World}{seen:List (List UInt8)}(h:CK cb lo fs fv w seen)(hb:Below w.heap.size w w'):CK cb lo fs fv w' seen:=by
 obtain⟨sv,h1,h2⟩:=h.blk;have hlt:=aD h1;exact⟨⟨sv,by rw[hb.block _ hlt];exact h1,aY h2 fun k hk=>hb.block k (cG h2 k hk)⟩,h.fun_.keep fun k hk=>hb.block k (by have:=hk.2;omega)⟩
theorem iO{w:World}{b:Nat}{v0 v1:Value}(h:w.heap[b]?=some (.cells #[v0,v1] 220 (0,0))):
 b<w.heap.size∧w.cell? ⟨b,0,none⟩=some v0∧w.cell? ⟨b,1,none⟩=some v1∧w.frozen? ⟨b,1,none⟩=false:=
 ⟨aD h,aA h rfl,aA h rfl,aE h⟩
def kE(cb:Nat)(w:World):Option Nat:=
 match w.heap[cb]? with
 |some (.cells cs _ _)=>(cs[1]?.getD undef).ownBlock
 |_=>none
theorem nD{cb:Nat}{w w':World}(h:w'.heap[cb]?=w.heap[cb]?):kE cb w'=kE cb w:=by unfold kE;rw[h]
theorem lX{cb:Nat}{w:World}{v0 v1:Value}(h:w.heap[cb]?=some (.cells #[v0,v1] 220 (0,0))):kE cb w=v1.ownBlock:=by unfold kE;rw[h];rfl
structure FB(cb:Nat)(w w':World):Prop where
 bel:Below cb w w'
 blk:∀k,k<w.heap.size→k≠cb→kE cb w≠some k→w'.heap[k]?=w.heap[k]?
 row:∀k,kE cb w'=some k→kE cb w=some k∨w.heap.size≤k
theorem FB.trans{cb:Nat}{a b c:World}(h:FB cb a b)(k:FB cb b c):FB cb a c:=by
 refine⟨h.bel.trans k.bel,fun i hi hc hr=>?_,fun i hi=>?_⟩
 ·have hs:=h.bel.size;rw[k.blk i (by omega) hc (fun e=>?_),h.blk i hi hc hr]
  rcases h.row i e with e|e
  ·exact hr e
  ·omega
 ·have hs:=h.bel.size;rcases k.row i hi with e|e
  ·exact h.row i e
  ·exact Or.inr (by omega)
theorem FB.of_below{cb:Nat}{w w':World}(h:Below w.heap.size w w')(hc:cb<w.heap.size):FB cb w w':=
 ⟨h.mono (by omega),fun k hk _ _=>h.block k hk,fun k hk=>Or.inl (by rw[←nD (h.block cb hc)];exact hk)⟩
theorem FB.refl{cb:Nat}(w:World):FB cb w w:=⟨Below.refl _ _,fun _ _ _ _=>rfl,fun _ h=>Or.inl h⟩
def cS(cb lo:Nat)(fs:List aC)(fv:Value)(w:World)(c:aX)(e:Ending)(w':World):Prop:=
 FB cb w w'∧((∃s,c=⟨s,0,0⟩∧e=.returned (.tuple #[])∧CK cb lo fs fv w' s)∨(c.kind≠0∧e=cW c.kind c.line))
def Stk(a b:aX):Prop:=a.kind≠0→b.kind=a.kind∧b.line=a.line
theorem Stk.refl(a:aX):Stk a a:=fun _=>⟨rfl,rfl⟩
theorem Stk.trans{a b c:aX}(h:Stk a b)(k:Stk b c):Stk a c:=fun ha=>by
 obtain⟨h1,h2⟩:=h ha;obtain⟨k1,k2⟩:=k (by rw[h1];exact ha)
 exact⟨k1.trans h1,k2.trans h2⟩
theorem Stk.found(s:aX)(l k:Nat):Stk s (s.found l k):=fun h=>by unfold aX.found;rw[if_neg h];exact⟨rfl,rfl⟩
theorem Stk.declares(s:aX)(n:aC):Stk s (Hs.declaresL s n):=by
 unfold Hs.declaresL;split
 ·exact Stk.found _ _ _
 ·exact Stk.refl _
theorem Stk.look(fs:List aC)(alone:Bool)(s:aX)(n:aC):Stk s (bY fs alone s n):=by
 unfold bY dX;repeat' split
 all_goals first|exact Stk.found _ _ _|exact Stk.refl _
theorem Stk.fold{f:aX→aC→aX}(h:∀s k,Stk s (f s k)):∀(l:List aC) (s:aX),Stk s (l.foldl f s)
 |[],s=>Stk.refl s
 |k::l,s=>(h s k).trans (Stk.fold h l (f s k))
theorem Stk.seen(s:aX)(x:List (List UInt8)):Stk s { s with seen:=x }:=fun _=>⟨rfl,rfl⟩
theorem Stk.walk(fs:List aC)(alone:Bool):∀(d:Nat) (n:aC) (s:aX),Stk s (aM fs alone d n s)
 |0,_,s=>Stk.refl s
 |d+1,n,s=>by
  rw[aM];split
  ·split
   ·exact((Stk.declares s _).trans (Stk.walk fs alone d _ _)).trans (Stk.seen _ _)
   ·exact Stk.refl s
  ·have h:Stk s (n.kids.foldl (fun s k=>aM fs alone d k s) (bY fs alone s n)):=(Stk.look fs alone s n).trans (Stk.fold (fun s k=>Stk.walk fs alone d k s) _ _)
   simp only;split
   ·exact h.trans (Stk.seen _ _)
   ·exact h
theorem cS.fault{cb lo:Nat}{fs:List aC}{fv:Value}{w w':World}{c1 c:aX}(hb:FB cb w w')(hk:c1.kind≠0)(hs:Stk c1 c):cS cb lo fs fv w c (cW c1.kind c1.line) w':=by
 obtain⟨h1,h2⟩:=hs hk;exact⟨hb,Or.inr ⟨by rw[h1];exact hk,by rw[h1,h2]⟩⟩
theorem cS.done{cb lo:Nat}{fs:List aC}{fv:Value}{w w':World}{c:aX}{s:List (List UInt8)}(hb:FB cb w w')(hc:c=⟨s,0,0⟩)(hk:CK cb lo fs fv w' s):cS cb lo fs fv w c (.returned (.tuple #[])) w':=⟨hb,Or.inl ⟨s,hc,rfl,hk⟩⟩
theorem jZ{B:Nat}{a w:World}(h:Below B a w)(n:Nat):Below B a (w.drewN n):=⟨h.os,h.tape,h.output,h.size,h.block⟩
theorem G7(cb lo:Nat)(fs:List aC)(fv:Value)(w:World)(seen:List (List UInt8))(h:CK cb lo fs fv w seen)(hs:seen.length≤100000)(l:Nat)(x:List UInt8):
 Calls Tryz.prog 230 #[.pointer (some ⟨cb,0,none⟩),.agg #[.int .i64 l,.string (bs x)]] w (cS cb lo fs fv w (if seen.contains x then ⟨seen,0,0⟩ else aX.found ⟨seen,0,0⟩ l 6)):=by
 have h1:=h.grow ((Below.refl _ _).alloc (Nat.le_refl _) (.cells #[.int .i64 l,.string (bs x)] 211));obtain⟨sv,hblk,hown⟩:=h1.blk;have hcb:=h.lt;obtain⟨hlt,c0,c1,fz⟩:=iO hblk
 obtain⟨sx,sc,rfl⟩:∃sx sc,sv=.slice sx seen.length sc:=by
  rcases hown.2 with ⟨rfl,h0⟩|⟨g,cap,cur,rfl,_⟩
  ·exact⟨none,0,by rw[h0]⟩
  ·exact⟨_,_,rfl⟩
 have HM:=aB (fun n=>tT seen x (.slice sx seen.length sc) (cb+1) ((w.alloc (.cells #[.int .i64 l,.string (bs x)] 211)).drewN n) hs (aY hown fun _ _=>rfl))
 have H:=aB h1;have HB:Hid (Below w.heap.size w (w.alloc (.cells #[.int .i64 l,.string (bs x)] 211))):=(Below.refl _ _).alloc (Nat.le_refl _) _;clear hblk hown h h1 fz;generalize hcc:(if seen.contains x then (⟨seen,0,0⟩:aX) else aX.found ⟨seen,0,0⟩ l 6)=c
 have HCC:=aB hcc;clear hcc;generalize seen.contains x=b at*;cases b
 ·have hc:c=⟨seen,6,l⟩:=HCC.out.symm;subst hc;clear HCC;go_enter Tryz.func230,Tryz.ntmps230;go_wp2_with fail;go_quiet ((go_at_call 258;exact Calls.quiet_of_same (HM.out _)))
  go_wp2_with fail;refine(pQ l _).mono ?_;rintro e w2 ⟨rfl,hb2⟩;have HB2:=aB hb2;clear hb2;go_wp2_with (go_at_call 136;refine(fZ 6 l _).mono ?_;rintro e w3 ⟨rfl,hw⟩;obtain rfl:=hw.symm)
  exact⟨rfl,cS.fault (c1:=⟨seen,6,l⟩) (FB.of_below ((jZ HB.out _).trans (HB2.out.mono (by simp))) hcb) (by simp) (Stk.refl _)⟩
 ·have hc:c=⟨seen,0,0⟩:=HCC.out.symm;subst hc;clear HCC;go_enter Tryz.func230,Tryz.ntmps230;go_wp2_with fail;go_quiet ((go_at_call 258;exact Calls.quiet_of_same (HM.out _)))
  go_wp2_with fail;go_end0;exact cS.done (FB.of_below (jZ HB.out _) hcb) rfl (H.out.grow (jZ (Below.refl _ _) _))
theorem pN(cb lo:Nat)(fs:List aC)(fv:Value)(w:World)(seen:List (List UInt8))(h:CK cb lo fs fv w seen)(hs:seen.length≤100000)(l:Nat)(x:List UInt8):
 Calls Tryz.prog 189 #[.pointer (some ⟨cb,0,none⟩),.agg #[.int .i64 l,.string (bs x)]] w (cS cb lo fs fv w (if fK x || seen.contains x then aX.found ⟨seen,0,0⟩ l 6 else ⟨seen,0,0⟩)):=by
 have h1:=h.grow ((Below.refl _ _).alloc (Nat.le_refl _) (.cells #[.int .i64 l,.string (bs x)] 211));obtain⟨sv,hblk,hown⟩:=h1.blk;have hcb:=h.lt;obtain⟨hlt,c0,c1,fz⟩:=iO hblk
 obtain⟨sx,sc,rfl⟩:∃sx sc,sv=.slice sx seen.length sc:=by
  rcases hown.2 with ⟨rfl,h0⟩|⟨g,cap,cur,rfl,_⟩
  ·exact⟨none,0,by rw[h0]⟩
  ·exact⟨_,_,rfl⟩
 have HM:=aB (fun n=>tT seen x (.slice sx seen.length sc) (cb+1) ((w.alloc (.cells #[.int .i64 l,.string (bs x)] 211)).drewN n) hs (aY hown fun _ _=>rfl))
 have H:=aB h1;have HB:Hid (Below w.heap.size w (w.alloc (.cells #[.int .i64 l,.string (bs x)] 211))):=(Below.refl _ _).alloc (Nat.le_refl _) _;have hx:(bs x).toList=x:=bZ x;clear hblk hown h h1 fz;have HG:Hid (fK x=(x==[108,101,110] || x==[114,101,97,100])):=rfl
 generalize hcc:(if fK x || seen.contains x then aX.found ⟨seen,0,0⟩ l 6 else (⟨seen,0,0⟩:aX))=c
 have HCC:=aB hcc;clear hcc;rw[HG.out] at HCC;generalize seen.contains x=b at*;cases h1:(x==[108,101,110])<;>cases h2:(x==[114,101,97,100])<;>cases b
 all_goals
  rw[h1,h2] at HCC
  first
   |(have hc:c=⟨seen,0,0⟩:=HCC.out.symm
     subst hc;clear HCC;go_enter Tryz.func189,Tryz.ntmps189;go_wp2_with fail;go_quiet ((go_at_call 258;exact Calls.quiet_of_same (HM.out _)))
     go_wp2_with fail;go_end0;exact cS.done (FB.of_below (jZ HB.out _) hcb) rfl (H.out.grow (jZ (Below.refl _ _) _)))
   |(have hc:c=⟨seen,6,l⟩:=HCC.out.symm
     subst hc;clear HCC;go_enter Tryz.func189,Tryz.ntmps189;go_wp2_with fail;go_quiet ((go_at_call 258;exact Calls.quiet_of_same (HM.out _)))
     go_wp2_with fail;refine(pQ l _).mono ?_;rintro e w2 ⟨rfl,hb2⟩;have HB2:=aB hb2;clear hb2;go_wp2_with (go_at_call 136;refine(fZ 6 l _).mono ?_;rintro e w3 ⟨rfl,hw⟩;obtain rfl:=hw.symm)
     exact⟨rfl,cS.fault (c1:=⟨seen,6,l⟩) (FB.of_below ((jZ HB.out _).trans (HB2.out.mono (by simp))) hcb) (by simp) (Stk.refl _)⟩)
theorem RP(c:UInt8)(w:World):
 Calls Tryz.prog 249 #[.int .u8 c.toNat] w fun e w'=>e=.returned (.bool (dZ c))∧w'=w:=by
 have hb:(c.toNat:Int)≤255:=mR c;have HS:=aB (VW c);go_enter Tryz.func249,Tryz.ntmps249;go_wp2
 all_goals
  go_ret;exact⟨iJ (by rw[HS.out]),rfl⟩
theorem sG(c:UInt8)(w:World):
 Calls Tryz.prog 252 #[.int .u8 c.toNat] w fun e w'=>e=.returned (.bool (dW c))∧w'=w:=by
 have hb:(c.toNat:Int)≤255:=mR c;have HS:Hid (dW c=(decide (48≤c.toNat) && decide (c.toNat≤57))):=rfl;go_enter Tryz.func252,Tryz.ntmps252;go_wp2
 all_goals
  go_ret;exact⟨iJ (by rw[HS.out,Bool.eq_iff_iff];constructor<;>intro h<;>(try simp at h)<;>(try simp)<;>omega),rfl⟩
theorem wD(c:UInt8)(w:World):
 Calls Tryz.prog 250 #[.int .u8 c.toNat] w fun e w'=>e=.returned (.bool (eV c))∧w'=w:=by
 have hb:(c.toNat:Int)≤255:=mR c;have HS:Hid (eV c=(c.toNat==95 || (decide (97≤c.toNat) && decide (c.toNat≤122) || decide (65≤c.toNat) && decide (c.toNat≤90)))):=rfl
 go_enter Tryz.func250,Tryz.ntmps250;go_wp2
 all_goals
  go_ret;exact⟨iJ (by rw[HS.out,Bool.eq_iff_iff];constructor<;>intro h<;>(try simp at h)<;>(try simp)<;>omega),rfl⟩
theorem VC(c:UInt8)(w:World):
 Calls Tryz.prog 297 #[.int .u8 c.toNat] w fun e w'=>e=.returned (.bool (dY true c))∧w'=w:=by
 have HS:Hid (dY true c=(eV c || dW c)):=by show _=_;unfold dY;rw[Bool.true_and,Bool.or_comm]
 have HL:=aB (wD c);have HD:=aB (sG c);generalize dY true c=r at*;generalize eV c=lb at*;generalize dW c=db at*;have h:=HS.out;subst h;clear HS;cases lb<;>cases db
 all_goals
  go_enter Tryz.func297,Tryz.ntmps297;go_wp2_with (first|(go_at_call 250;refine(HL.out _).mono ?_;rintro e w1 ⟨rfl,hw⟩;obtain rfl:=hw.symm)|(go_at_call 252;refine(HD.out _).mono ?_;rintro e w1 ⟨rfl,hw⟩;obtain rfl:=hw.symm))
  go_ret;exact⟨rfl,rfl⟩
theorem IW(c:UInt8)(w:World):
 Calls Tryz.prog 301 #[.int .u8 c.toNat] w fun e w'=>e=.returned (.bool (eU c))∧w'=w:=by
 have hb:(c.toNat:Int)≤255:=mR c;have HS:Hid (eU c=(c.toNat != 34 && c.toNat != 10)):=rfl;go_enter Tryz.func301,Tryz.ntmps301;go_wp2
 all_goals
  go_ret;exact⟨iJ (by rw[HS.out,Bool.eq_iff_iff];constructor<;>intro h<;>(try simp at h)<;>(try simp)<;>omega),rfl⟩
theorem tE(P:UInt8→Bool)(F:Nat)(hcf:∀args w,Sem.run Tryz.prog (callFunc F args) w=.ok (.enter F args) w)(HF:∀c w,Calls Tryz.prog F #[.int .u8 (UInt8.toNat c)] w fun e w'=>e=.returned (.bool (P c))∧w'=w)(s:ByteArray)(w:World)(hs:s.size≤2000000000):
 Calls Tryz.prog 248 #[.string s,.func (.func F) #[] #[]] w fun e w'=>e=.returned (.int .i64 (bI P s.data.toList))∧w'=w:=by
 have HFF:=aB HF;clear HF;go_enter Tryz.func248,Tryz.ntmps248;go_wp2_with fail;go_loop [5] (fun i=>∃j:Nat,j≤s.size∧i=.int .i64 j∧Hid (bI P s.data.toList=j+bI P (s.data.toList.drop j))) (fun i=>s.size-(intOf i).toNat)
 case atStart=>exact⟨0,Nat.zero_le _,rfl,by show _=_;simp⟩
 case round=>
  obtain⟨j,hj,rfl,HJ⟩:=hrel;by_cases hlt:j<s.size
  ·have hbj:(s[j].toNat:Int)≤255:=mR s[j];rw[jW s j hlt] at HJ;have HX:=aB (HFF.out s[j]);cases hp:P s[j]
   ·rw[KZ _ _ _ hp] at HJ;rw[hp] at HX;clear hp;go_wp2_with (refine(HX.out _).mono ?_;rintro e w1 ⟨rfl,hw⟩;obtain rfl:=hw.symm)
    go_ret;exact⟨TE (by have:=HJ.out;omega),rfl⟩
   ·rw[qE _ _ _ hp] at HJ;rw[hp] at HX;clear hp;have HF2:Hid (bI P s.data.toList=j+1+bI P (s.data.toList.drop (j+1))):=by show _=_;rw[HJ.out];omega
    go_wp2_with (refine(HX.out _).mono ?_;rintro e w1 ⟨rfl,hw⟩;obtain rfl:=hw.symm)
    go_round
    case rel=>exact⟨j+1,by omega,by go_num,HF2⟩
    case measure=>simp[intOf];omega
  ·rw[List.drop_eq_nil_of_le (by simpa using (by omega:s.size≤j))] at HJ
   go_wp2_with fail;go_ret;exact⟨TE (by have:=HJ.out;simp[bI] at this;omega),rfl⟩
theorem MO(x:List UInt8)(w:World):
 Calls Tryz.prog 299 #[.string (bs x)] w fun e w'=>e=.returned (.bool (iB.contains x))∧w'=w:=by
 have hx:(bs x).toList=x:=bZ x
 have HS:Hid (iB.contains x=(x==[102,117,110,99] || (x==[118,97,114] || (x==[105,102] || (x==[101,108,115,101] || (x==[119,104,105,108,101] || (x==[114,101,116,117,114,110] || (x==[112,114,105,110,116] || (x==[116,114,117,101] || x==[102,97,108,115,101]))))))))):=by
  show _=_
  rw[Bool.eq_iff_iff];simp[iB]
 go_enter Tryz.func299,Tryz.ntmps299;go_wp2
 all_goals
  go_ret;exact⟨iJ (by rw[HS.out];first|done|simp_all),rfl⟩
theorem LO(s x:ByteArray)(w:World)(_hs:s.size≤2000000000)(_hx:x.size≤100):
 Calls Tryz.prog 295 #[.string s,.string x] w fun e w'=>e=.returned (.bool (cJ s.data.toList x.data.toList))∧w'=w:=by
 by_cases h:x.size≤s.size
 ·have HS:Hid (cJ s.data.toList x.data.toList=((s.extract 0 x.size).toList==x.toList)):=by
   unfold cJ Hid;rw[lE _ _ (by simpa using h),Lib.extract_toList,Lib.toList_data]
   congr 3
  go_enter Tryz.func295,Tryz.ntmps295;go_wp2
  go_ret;exact⟨iJ (by rw[HS.out]),rfl⟩
 ·have HS:Hid (cJ s.data.toList x.data.toList=false):=by
   unfold cJ Hid;exact xW _ _ (by simp;omega)
  go_enter Tryz.func295,Tryz.ntmps295;go_wp2
  go_ret;exact⟨iJ (by rw[HS.out]),rfl⟩
theorem AM(s x:ByteArray)(w:World)(hs:s.size≤2000000000)(hx:x.size≤100):
 Calls Tryz.prog 247 #[.string s,.string x] w fun e w'=>e=.returned (.bool (cJ s.data.toList x.data.toList))∧w'=w:=by
 have H:=aB (LO s x w hs hx);go_enter Tryz.func247,Tryz.ntmps247;go_wp2_with fail;refine H.out.mono ?_;rintro e w1 ⟨rfl,hw⟩;obtain rfl:=hw.symm;go_wp2_with fail;go_ret;exact⟨rfl,rfl⟩
theorem mC(s:ByteArray)(k:Nat):(s.extract k s.size).data.toList=s.data.toList.drop k:=by
 rw[BD,iV];exact List.take_of_length_le (by simp)
def SC(sb:Nat)(src:ByteArray)(n l:Nat)(w:World):Prop:=w.heap[sb]?=some (.cells #[.string src,.int .i64 n,.int .i64 l] 290 (0,0))
theorem SC.cells{sb:Nat}{src:ByteArray}{n l:Nat}{w:World}(h:SC sb src n l w):
 sb<w.heap.size∧w.cell? ⟨sb,0,none⟩=some (.string src)∧w.cell? ⟨sb,1,none⟩=some (.int .i64 n)∧w.cell? ⟨sb,2,none⟩=some (.int .i64 l)∧w.frozen? ⟨sb,1,none⟩=false∧w.frozen? ⟨sb,2,none⟩=false:=
 ⟨aD h,aA h rfl,aA h rfl,aA h rfl,aE h,aE h⟩
theorem SC.move{sb:Nat}{src:ByteArray}{n l:Nat}{w:World}(h:SC sb src n l w)(m:Nat):SC sb src m l (w.setCell ⟨sb,1,none⟩ (.int .i64 m)):=by
 unfold SC;rw[aQ h];rfl
theorem SC.down{sb:Nat}{src:ByteArray}{n l:Nat}{w:World}(h:SC sb src n l w)(m:Nat):SC sb src n m (w.setCell ⟨sb,2,none⟩ (.int .i64 m)):=by
 unfold SC;rw[aQ h];rfl
theorem SC.drewN{sb:Nat}{src:ByteArray}{n l:Nat}{w:World}(h:SC sb src n l w)(m:Nat):SC sb src n l (w.drewN m):=h
theorem qG(sb:Nat)(src:ByteArray)(n l:Nat)(w:World)(h:SC sb src n l w):
 Calls Tryz.prog 298 #[.pointer (some ⟨sb,0,none⟩)] w fun e w'=>e=cW 3 l∧w'=w:=by
 obtain⟨h0,c0,c1,c2,f1,f2⟩:=h.cells;clear h;go_enter Tryz.func298,Tryz.ntmps298;go_wp2_with (go_at_call 136;refine(fZ 3 l _).mono ?_;rintro e w3 ⟨rfl,hw⟩;obtain rfl:=hw.symm)
 exact⟨rfl,rfl,rfl⟩
theorem nA(sb:Nat)(src:ByteArray)(n l m:Nat)(w:World)(h:SC sb src n l w)(hs:src.size≤2000000000)(hm:n+m≤src.size):
 Calls Tryz.prog 296 #[.pointer (some ⟨sb,0,none⟩),.int .i64 m] w fun e w'=>e=.returned (.string (bs ((src.data.toList.drop n).take m)))∧SC sb src (n+m) l w'∧Fr sb w w':=by
 obtain⟨h0,c0,c1,c2,f1,f2⟩:=h.cells;have H:=aB h;have HX:Hid (src.extract n (n+m)=bs ((src.data.toList.drop n).take m)):=by show _=_;rw[BD];congr 2;omega
 clear h;go_enter Tryz.func296,Tryz.ntmps296;go_wp2_with fail;go_quiet (fail)
 go_wp2_with fail;go_ret;refine⟨by rw[←HX.out];rfl,?_,?_⟩
 ·exact(H.out.drewN _).move _
 ·exact((Fr.refl _ _).drewN _).setCell (p:=⟨sb,1,none⟩) (Or.inl rfl) _
theorem MK(l:List UInt8)(k:Nat):aZ (l.take (k+bI dZ (l.drop k)))=aZ (l.take k):=by
 rw[List.take_add,iR]
 have:((l.drop k).take (bI dZ (l.drop k))).count 10=0:=by
  rw[List.count_eq_zero];intro h;have:=qF dZ (l.drop k) 10 h;exact absurd this (by decide)
 omega
theorem FG(s:ByteArray)(k:Nat)(h:k<s.size):aZ (s.data.toList.take (k+1))=aZ (s.data.toList.take k)+if s[k]=10 then 1 else 0:=by
 rw[UQ s k h,AU]
theorem LB(sb:Nat)(src:ByteArray)(n:Nat)(w:World)(h:SC sb src n (aZ (src.data.toList.take n)) w)(hs:src.size≤2000000000)(hn:n≤src.size):
 Calls Tryz.prog 182 #[.pointer (some ⟨sb,0,none⟩)] w fun e w'=>e=.returned (.tuple #[])∧SC sb src (n+Hs.blankL src.size (src.data.toList.drop n)) (aZ (src.data.toList.take (n+Hs.blankL src.size (src.data.toList.drop n)))) w'∧Fr sb w w':=by
 have H:=aB h;clear h;go_enter Tryz.func182,Tryz.ntmps182;go_wp2_with fail;go_loopg [2] src.size (fun gk _ wr=>∃k f:Nat,k≤src.size∧src.size≤k+f∧src.size≤k+gk∧SC sb src k (aZ (src.data.toList.take k)) wr∧Fr sb w wr∧Hid (n+Hs.blankL src.size (src.data.toList.drop n)=k+Hs.blankL f (src.data.toList.drop k)))
 case atStart=>exact⟨n,src.size,hn,by omega,by omega,H.out,Fr.refl _ _,rfl⟩
 case round=>
  obtain⟨k,f,hk,hf,hgk,hsc,hfr,HS⟩:=hrel;obtain⟨h0,c0,c1,c2,f1,f2⟩:=hsc.cells;have HSC:=aB hsc;have HFR:=aB hfr;clear hsc hfr;by_cases hlt:k<src.size
  ·have hb:(src[k].toNat:Int)≤255:=mR src[k];obtain⟨f,rfl⟩:∃f',f=f'+1:=⟨f-1,by omega⟩
   obtain⟨j,rfl⟩:∃j,gk=j+1:=⟨gk-1,by omega⟩
   rw[jW src k hlt] at HS
   have hl:aZ (src.data.toList.take k)≤k+1:=by
    have:=nT (src.data.toList.take k);have:=List.length_take_le k src.data.toList;omega
   have hx0:(src.extract k src.size).size=src.size-k:=by simp
   have hx1:0<(src.extract k src.size).size:=by omega
   have hx2:(src.extract k src.size)[0]=src[k]:=by simp[ByteArray.getElem_extract]
   have HLN:=aB (FG src k hlt);by_cases hw:src[k].toNat=32∨src[k].toNat=9∨src[k].toNat=10
   ·rw[JT _ _ _ hw] at HS
    have HF:Hid (n+Hs.blankL src.size (src.data.toList.drop n)=k+1+Hs.blankL f (src.data.toList.drop (k+1))):=by
     rw[HS.out];show _=_;omega
    clear HS;by_cases h10:src[k].toNat=10
    ·have hE:((src[k].toNat:Int))=10:=by omega
     have HL:Hid (aZ (src.data.toList.take (k+1))=aZ (src.data.toList.take k)+1):=by
      show _=_
      rw[HLN.out,if_pos (by rw[O5];exact hE)]
     clear hw h10 HLN;generalize aZ (src.data.toList.take k)=L at*;go_wp2_with fail;go_quiet (fail)
     go_wp2_with fail;go_quiet (fail)
     go_wp2_with fail;go_roundg j
     case measure=>omega
     case rel=>
      refine⟨k+1,f,by omega,by omega,by omega,?_,?_,HF⟩
      ·rw[HL.out];exact((HSC.out.drewN _).down _).move _
      ·exact((HFR.out.drewN _).setCell (p:=⟨sb,2,none⟩) (Or.inl rfl) _).setCell (p:=⟨sb,1,none⟩) (Or.inl rfl) _
    ·have HL:Hid (aZ (src.data.toList.take (k+1))=aZ (src.data.toList.take k)):=by
      show _=_
      rw[HLN.out,if_neg (by rw[O5];show ¬((src[k].toNat:Int)=10);omega)];rfl
     have h1:((src[k].toNat:Int)==10)=false:=by simp;omega
     have hw':src[k].toNat=32∨src[k].toNat=9:=by omega
     clear hw HLN h10;generalize aZ (src.data.toList.take k)=L at*;rcases hw' with hw|hw
     all_goals
      have hE:((src[k].toNat:Int))=_:=congrArg _ hw;clear hw;go_wp2_with fail;go_quiet (fail)
      go_wp2_with fail;go_quiet (fail)
      go_wp2_with fail;go_roundg j
      case measure=>omega
      case rel=>
       refine⟨k+1,f,by omega,by omega,by omega,?_,?_,HF⟩
       ·rw[HL.out];exact(HSC.out.drewN _).move _
       ·exact(HFR.out.drewN _).setCell (p:=⟨sb,1,none⟩) (Or.inl rfl) _
   ·have h1:((src[k].toNat:Int)==32)=false:=by simp;omega
    have h2:((src[k].toNat:Int)==9)=false:=by simp;omega
    have h3:((src[k].toNat:Int)==10)=false:=by simp;omega
    have HPX:=aB (fun w=>AM (src.extract k src.size) ⟨#[47,47]⟩ w (by omega) (by decide))
    rw[mC,show (⟨#[47,47]⟩:ByteArray).data.toList=[47,47] from rfl] at HPX
    clear HLN;cases hst:cJ (src[k]::src.data.toList.drop (k+1)) [47,47]
    ·rw[OO _ _ _ hw hst] at HS;rw[←jW src k hlt] at hst;rw[hst] at HPX;have HE:Hid (n+Hs.blankL src.size (src.data.toList.drop n)=k):=HS;clear hst HS hw;have HSC2:Hid (∀nq:Nat,SC sb src k (aZ (src.data.toList.take k)) (wr.drewN nq)):=fun nq=>HSC.out.drewN nq
     generalize hL:aZ (src.data.toList.take k)=L at HSC c2 hl;have HLL:=aB hL;clear hL;go_wp2_with fail;go_quiet (fail)
     go_wp2_with fail;go_quiet (fail)
     go_wp2_with fail;refine(HPX.out _).mono ?_;rintro e w1 ⟨rfl,hw⟩;obtain rfl:=hw.symm;go_wp2_with fail;(try simp only[Exit.inBlock,Exit.then])
     refine bodyPost_ret (results_none rfl _ _ _) rfl ?_;rw[HE.out];exact⟨rfl,HSC2.out _,HFR.out.drewN _⟩
    ·rw[ED _ _ _ hw hst] at HS
     have HP:Hid (1≤bI dZ (src.data.toList.drop k)):=by
      rw[jW src k hlt,qE _ _ _ (by unfold dZ;simp;omega)];show _≤_;omega
     rw[←jW src k hlt] at hst HS;rw[List.drop_drop] at HS;rw[hst] at HPX;have HSP:=aB (fun w=>tE dZ 249 (fun _ _=>rfl) RP (src.extract k src.size) w (by omega))
     rw[mC] at HSP
     have hle:bI dZ (src.data.toList.drop k)≤src.size-k:=by
      have:=jS dZ (src.data.toList.drop k);simpa using this
     have HLR:=aB (MK src.data.toList k);clear hst hw;have hsp1:=HP.out;generalize hsp:bI dZ (src.data.toList.drop k)=sp at*;have HL2:Hid (aZ (src.data.toList.take (k+sp))=aZ (src.data.toList.take k)):=HLR;generalize aZ (src.data.toList.take k)=L at*;have HF:Hid (n+Hs.blankL src.size (src.data.toList.drop n)=(k+sp)+Hs.blankL f (src.data.toList.drop (k+sp))):=by show _=_;rw[HS.out];omega
     clear HS HLR hsp;go_wp2_with fail;go_quiet (fail)
     go_wp2_with fail;go_quiet (fail)
     go_wp2_with fail;refine(HPX.out _).mono ?_;rintro e w1 ⟨rfl,hw⟩;obtain rfl:=hw.symm;go_wp2_with fail;go_region_law (go_simp;go_at_call 248;refine(HSP.out _).mono ?_;rintro e w2 ⟨rfl,hw⟩;obtain rfl:=hw.symm)
     all_goals
      go_wp2_with fail;go_roundg j
      case measure=>omega
      case rel=>
       refine⟨k+sp,f,by omega,by omega,by omega,?_,?_,HF⟩
       ·have e:Value.int .i64 (IntKind.i64.wrap ((k:Int)+(sp:Int)))=.int .i64 ((k+sp:Nat):Int):=by rw[IntWalk.i64_in _ (by omega)];rfl
        rw[HL2.out,e];exact(HSC.out.drewN _).move _
       ·exact(HFR.out.drewN _).setCell (p:=⟨sb,1,none⟩) (Or.inl rfl) _
  ·have HE:Hid (n+Hs.blankL src.size (src.data.toList.drop n)=k):=by
    show _=_
    rw[HS.out,List.drop_eq_nil_of_le (by simpa using (by omega:src.size≤k)),ST];rfl
   go_wp2_with fail;go_quiet (fail)
   go_wp2_with fail;go_end0;rw[HE.out];exact⟨rfl,HSC.out,HFR.out.drewN _⟩
theorem BV{cb:Nat}{w w5:World}{o:Obj}{v0 v1 v':Value}{n:Nat}{vs:List Value}(hb:w.heap[cb]?=some (.cells #[v0,v1] 220 (0,0)))(hown:w.ownsRow (cb+1) 9 1 v' n vs)(hg:(w.alloc o).grownBy w5 v'.ownBlock):
 w5.heap[cb]?=some (.cells #[v0,v1] 220 (0,0)):=by
 have hlt:=aD hb;rw[hg.block cb (by simp;omega) (fun e=>by have:=bX hown cb e.symm;omega)]
 exact nW _ _ hlt _ hb
theorem CK.add{cb lo:Nat}{fs:List aC}{fv:Value}{w w5:World}{seen:List (List UInt8)}{sv:Value}{x:List UInt8}{o:Obj}{g cap:Nat}(h:CK cb lo fs fv w seen)(hblk:w.heap[cb]?=some (.cells #[fv,sv] 220 (0,0)))
 (hown:w.ownsRow (cb+1) 9 1 sv seen.length (jR seen)) (hown5:w5.ownsRow (cb+1) 9 1 (.slice (some ⟨g,0,none⟩) (seen.length+1) cap) (seen.length+1) (jR seen++[.string (bs x)])) (hg:(w.alloc o).grownBy w5 sv.ownBlock) (hat:sv.ownBlock=some g∨w.heap.size≤g):
 FB cb w (w5.setCell ⟨cb,1,none⟩ (.slice (some ⟨g,0,none⟩) (seen.length+1) cap))∧CK cb lo fs fv (w5.setCell ⟨cb,1,none⟩ (.slice (some ⟨g,0,none⟩) (seen.length+1) cap)) (seen++[x]):=by
 have hlt:=aD hblk;have hB5:=BV hblk hown hg
 have hbel:Below cb w w5:=⟨hg.os.trans rfl,hg.tape.trans rfl,hg.output.trans rfl,Nat.le_trans (by simp) hg.size,fun k hk=>by
  rw[hg.block k (by simp;omega) (fun e=>by have:=bX hown k e.symm;omega)]
  exact Below.heap_alloc _ _ _ (by omega)⟩
 have hb2:Below cb w (w5.setCell ⟨cb,1,none⟩ (.slice (some ⟨g,0,none⟩) (seen.length+1) cap)):=hbel.setCell (by simp) _
 have hn:(w5.setCell ⟨cb,1,none⟩ (.slice (some ⟨g,0,none⟩) (seen.length+1) cap)).heap[cb]?=some (.cells #[fv,.slice (some ⟨g,0,none⟩) (seen.length+1) cap] 220 (0,0)):=by rw[aQ hB5];rfl
 have hro:=lX hblk;refine⟨⟨hb2,fun k hk hc hr=>?_,fun k hk=>?_⟩,⟨.slice (some ⟨g,0,none⟩) (seen.length+1) cap,hn,?_⟩,h.fun_.keep fun k hk=>hb2.block k hk.2⟩
 ·rw[Below.heap_setCell _ _ _ _ (by show k≠cb;exact hc),hg.block k (by simp;omega) (fun e=>hr (by rw[hro];exact e.symm)),Below.heap_alloc _ _ _ hk]
 ·rw[lX hn] at hk;have e:g=k:=Option.some.inj hk;rw[hro];subst e;exact hat
 ·have e1:(seen++[x]).length=seen.length+1:=by simp
  have e2:jR (seen++[x])=jR seen++[.string (bs x)]:=by simp[jR]
  rw[e1,e2];exact aY hown5 fun k hk=>Below.heap_setCell _ _ _ _ (by have:=bX hown5 k hk;show k≠cb;omega)
def jA(cb lo:Nat)(fs:List aC)(fv:Value)(d:Nat):Prop:=
 ∀(v:Value) (a:aC) (seen:List (List UInt8)) (w:World),CK cb lo fs fv w seen→PN (Btw lo cb) w v a→eS d a→seen.length+bS d a≤90000→
  Calls Tryz.prog 167 #[.pointer (some ⟨cb,0,none⟩),v] w (cS cb lo fs fv w (aM fs false d a ⟨seen,0,0⟩))
theorem CK.cut{cb lo:Nat}{fs:List aC}{fv:Value}{w:World}{seen:List (List UInt8)}(h:CK cb lo fs fv w seen):∃sx sc,w.heap[cb]?=some (.cells #[fv,.slice sx seen.length sc] 220 (0,0))∧seen.length≤sc∧sc≤maxLen∧w.ownsRow (cb+1) 9 1 (.slice sx seen.length sc) seen.length (jR seen):=by
 obtain⟨sv,h1,h2⟩:=h.blk;obtain⟨x,c,rfl,hc1,hc2,_⟩:=KS h2 _ (Nat.le_refl _);exact⟨x,c,h1,hc1,hc2,h2⟩
theorem PN.below{lo cb:Nat}{w w':World}{v:Value}{a:aC}(h:PN (Btw lo cb) w v a)(hb:Below cb w w'):PN (Btw lo cb) w' v a:=h.keep fun k hk=>hb.block k hk.2
theorem PKid.below{lo cb:Nat}{w w':World}{v:Value}{l:List aC}(h:PKid (Btw lo cb) w v l)(hb:Below cb w w'):PKid (Btw lo cb) w' v l:=h.keep (fun k hk=>hb.block k hk.2) fun _ h=>h
theorem NY(cb lo:Nat)(fs:List aC)(fv:Value)(d:Nat)(IH:jA cb lo fs fv d)(w:World)(seen:List (List UInt8))(h:CK cb lo fs fv w seen)(al:Nat)(t u:aC)(v1:Value)(hu:PN (Btw lo cb) w v1 u)(hdu:eS d u)(hwt:seen.length+bS d u≤90000):
 Calls Tryz.prog 229 #[.pointer (some ⟨cb,0,none⟩),.agg #[.int .i64 al,.int .i64 t.line,.string (bs t.text),v1]] w
  (cS cb lo fs fv w { aM fs false d u (Hs.declaresL ⟨seen,0,0⟩ t) with seen:=(aM fs false d u (Hs.declaresL ⟨seen,0,0⟩ t)).seen++[t.text] }):=by
 obtain⟨T1,cs1,rfl⟩:=hu.form;have hcb:=h.lt;have HB0:Hid (Below w.heap.size w (w.alloc (.cells #[.int .i64 al,.int .i64 t.line,.string (bs t.text),.iface T1 (.agg cs1)] 329))):=(Below.refl _ _).alloc (Nat.le_refl _) _;have HBX:Hid ((w.alloc (.cells #[.int .i64 al,.int .i64 t.line,.string (bs t.text),.iface T1 (.agg cs1)] 329)).heap[w.heap.size]?=some (.cells #[.int .i64 al,.int .i64 t.line,.string (bs t.text),.iface T1 (.agg cs1)] 329 (0,0))):=aR _ _ rfl _;have HM:=aB (pN cb lo fs fv _ seen (h.grow HB0.out) (by omega) t.line t.text)
 have HDL:Hid (Hs.declaresL ⟨seen,0,0⟩ t=if fK t.text || seen.contains t.text then aX.found ⟨seen,0,0⟩ t.line 6 else ⟨seen,0,0⟩):=rfl
 rw[←HDL.out] at HM;have HU:=aB hu;have HIH:=aB IH;have hadd:=fM fs false d u (Hs.declaresL ⟨seen,0,0⟩ t);have HADD:=aB hadd;have hds:=mF ⟨seen,0,0⟩ t;have HDS:=aB hds;have HBF:=aB (FB.of_below HB0.out hcb)
 have hrw:kE cb (w.alloc (.cells #[.int .i64 al,.int .i64 t.line,.string (bs t.text),.iface T1 (.agg cs1)] 329))≠some w.heap.size:=by
  obtain⟨sv,hb,ho⟩:=h.blk;intro e;rw[nD (HB0.out.block cb hcb),lX hb] at e;have:=cG ho _ e;omega
 have HRW:=aB hrw;clear h hu IH HDL hadd hds hrw;generalize hc1:Hs.declaresL ⟨seen,0,0⟩ t=c1 at*;clear hc1;obtain⟨i0,hi,hz0,hz1,hz2⟩:=info_parts TO;go_enter Tryz.func229,Tryz.ntmps229;go_wp2_with fail;refine HM.out.mono ?_;rintro e w1 ⟨hb1,⟨s1,rfl,rfl,hck1⟩|⟨hk1,rfl⟩⟩
 rotate_left
 ·have HB1:=aB (HBF.out.trans hb1);have HK1:=aB hk1;clear hb1 hk1;go_wp2_with fail;exact⟨rfl,cS.fault (c1:=c1) HB1.out HK1.out ((Stk.walk fs false d u c1).trans (Stk.seen _ _))⟩
 obtain rfl:s1=seen:=HDS.out;have HX:=aB (HIH.out (.iface T1 (.agg cs1)) u s1 w1 hck1 (HU.out.below (HBF.out.trans hb1).bel) hdu (by omega))
 have HBX1:=aB ((hb1.blk w.heap.size (by simp) (by omega) HRW.out).trans HBX.out)
 have HB1:=aB (HBF.out.trans hb1)
 have HRW1:Hid (kE cb w1≠some w.heap.size):=fun e=>by
  rcases hb1.row _ e with e|e
  ·exact HRW.out e
  ·simp at e;omega
 have m0:=aA HBX1.out (i:=0) rfl;have m1:=aA HBX1.out (i:=1) rfl;have m2:=aA HBX1.out (i:=2) rfl;have m3:=aA HBX1.out (i:=3) rfl;have hz1':=aD HBX1.out;clear hb1 hck1 HM HDS;generalize hc2:aM fs false d u ⟨s1,0,0⟩=c2 at*;clear hc2;go_wp2_with fail;refine HX.out.mono ?_;rintro e w2 ⟨hb2,⟨s2,rfl,rfl,hck2⟩|⟨hk2,rfl⟩⟩
 rotate_left
 ·have HB2:=aB (HB1.out.trans hb2);have HK2:=aB hk2;clear hb2 hk2;go_wp2_with fail;exact⟨rfl,cS.fault (c1:=c2) HB2.out HK2.out (Stk.seen _ _)⟩
 clear m0 m1 m2 m3 hz1';have HBX2:=aB ((hb2.blk w.heap.size (aD HBX1.out) (by omega) HRW1.out).trans HBX1.out)
 have m0:=aA HBX2.out (i:=0) rfl;have m1:=aA HBX2.out (i:=1) rfl;have m2:=aA HBX2.out (i:=2) rfl;have m3:=aA HBX2.out (i:=3) rfl;have hz2':=aD HBX2.out;obtain⟨sx2,sc2,hblk2,hsc2,hscm2,hown2⟩:=hck2.cut;obtain⟨hlt2,c0,c1,f1⟩:=iO hblk2
 have hl2:s2.length≤90000:=by
  obtain⟨x,h1,h2⟩:=HADD.out;have h1':s2=s1++x:=h1;rw[h1'];simp;omega
 have HB2:=aB (show w2.drew.heap[cb]?=_ from hblk2)
 have HO2:=aB (show w2.drew.ownsRow _ _ _ _ _ _ from hown2)
 have HCC:=aB (show CK cb lo fs fv w2.drew s2 from hck2.grow (Below.refl _ _).drew)
 have HB02:=aB (HB1.out.trans (hb2.trans (FB.of_below (Below.refl _ _).drew hlt2)));clear hblk2 hown2 hck2 hb2 HX;go_wp2_with fail;go_region_law (refine step_append_lies _ (by rfl) _ _ 60 (by rfl) (cb+1) 9 i0 _ 1 16 Tryz.underlying60 hi hz0 hz1 hz2 rfl (by decide) (.slice sx2 s2.length sc2) s2.length (jR s2) (by rfl) (HO2.out.alloc _) ⟨w2.heap.size,0,none⟩ 1 1 [.string (bs t.text)] (by rfl) (by rfl) (MB w2.drew _) (TH _) (by decide) (by unfold maxLen;omega) (by omega) (by simp;omega) (w2.heap.size+1) (by simp) ?_;intro g5 cap5 w5 hown5 hgrow5 hat5 hg5;have hB5:=BV HB2.out HO2.out hgrow5;obtain⟨hz5, -,q1,fz5⟩:=iO hB5;clear hB5)
 all_goals
  go_wp2_with fail;first|go_end0|refine bodyPost_ret (results_none rfl _ _ _) rfl ?_
  have hfin:=HCC.out.add HB2.out HO2.out hown5 hgrow5 (hat5.imp_right fun e=>by show w2.heap.size≤g5;omega)
  exact cS.done (HB02.out.trans hfin.1) rfl hfin.2
theorem PKid.get{F:Nat→Prop}{w:World}{v:Value}{l:List aC}(h:PKid F w v l):(v=.slice none 0 0∧l=[])∨∃g cap,v=.slice (some ⟨g,0,none⟩) l.length cap∧F g∧g<w.heap.size∧l.length≤cap∧∀k (hk:k<l.length),∃u,w.cell? ⟨g,k,none⟩=some u∧PN F w u l[k]:=by
 rcases h with h|⟨g,cap,cur,vs,h1,h2,h3,h4,h5,h6⟩
 ·exact Or.inl h
 ·refine Or.inr ⟨g,cap,h1,h2,aD h3,h4,fun k hk=>?_⟩
  obtain⟨u,hu,hr⟩:=jH.get k hk h6;refine⟨u,aA h3 ?_,hr⟩;rw[←h5,List.getElem?_take,if_pos hk] at hu;simpa using hu
abbrev foldL(fs:List aC)(d:Nat)(l:List aC)(s:aX):aX:=l.foldl (fun s k=>aM fs false d k s) s
def lN(cb lo:Nat)(fs:List aC)(fv:Value)(d:Nat):Prop:=
 ∀(v:Value) (l:List aC) (seen:List (List UInt8)) (w:World),CK cb lo fs fv w seen→PKid (Btw lo cb) w v l→(∀k∈l,eS d k)→seen.length+(l.map (bS d)).sum≤90000→l.length≤90000→
  Calls Tryz.prog 231 #[.pointer (some ⟨cb,0,none⟩),v] w (cS cb lo fs fv w (foldL fs d l ⟨seen,0,0⟩))
def F8(cb lo:Nat)(fs:List aC)(fv:Value)(d:Nat)(w:World)(l:List aC)(c:aX)(gk:Nat)(i:Value)(wr:World):Prop:=
 ∃k s,k+gk=l.length∧i=.int .i64 (k:Nat)∧FB cb w wr∧CK cb lo fs fv wr s∧c=foldL fs d (l.drop k) ⟨s,0,0⟩∧s.length+((l.drop k).map (bS d)).sum≤90000
theorem QN(cb lo:Nat)(fs:List aC)(fv:Value)(d:Nat)(IH:jA cb lo fs fv d)(g cap:Nat)(l:List aC)(seen:List (List UInt8))(w:World)(h:CK cb lo fs fv w seen)(hg:g<cb)(_hcap:l.length≤cap)(hc:∀k (hk:k<l.length),∃u,w.cell? ⟨g,k,none⟩=some u∧PN (Btw lo cb) w u l[k])(hd:∀k∈l,eS d k)(hwt:seen.length+(l.map (bS d)).sum≤90000)(hl:l.length≤90000):
 Calls Tryz.prog 231 #[.pointer (some ⟨cb,0,none⟩),.slice (some ⟨g,0,none⟩) l.length cap] w (cS cb lo fs fv w (foldL fs d l ⟨seen,0,0⟩)):=by
 have HI:Hid (F8 cb lo fs fv d w l (foldL fs d l ⟨seen,0,0⟩) l.length (.int .i64 (0:Nat)) w):=⟨0,seen,by omega,rfl,FB.refl _,h,by simp,by simpa using hwt⟩
 have HC:=aB hc;have HD:=aB hd;have HIH:=aB IH;have hcb:=h.lt;clear h hc hd IH hwt;generalize foldL fs d l ⟨seen,0,0⟩=c at*;go_enter Tryz.func231,Tryz.ntmps231;go_wp2_with fail;go_loopg [5,8] l.length (fun gk _ i wr=>F8 cb lo fs fv d w l c gk i wr)
 case atStart=>exact HI.out
 case round=>
  obtain⟨k,s,hk,rfl,hfb,hck,hcc,hs⟩:=hrel;have HFB:=aB hfb;have HCK:=aB hck;by_cases hlt:k<l.length
  ·obtain⟨j,rfl⟩:∃j,gk=j+1:=⟨gk-1,by omega⟩
   obtain⟨u,hu,hn⟩:=HC.out k hlt;obtain⟨T,cs,rfl⟩:=hn.form;have hcell:wr.cell? ⟨g,k,none⟩=some (.iface T (.agg cs)):=(hfb.bel.cell (p:=⟨g,k,none⟩) hg).trans hu;have hgr:g<wr.heap.size:=Nat.lt_of_lt_of_le (Nat.lt_trans hg hcb) hfb.bel.size;have hdk:l.drop k=l[k]::l.drop (k+1):=(List.getElem_cons_drop hlt).symm;have hdp:=HD.out l[k] (List.getElem_mem hlt);rw[hdk] at hcc hs;simp only[List.map_cons,List.sum_cons] at hs;generalize l[k]=a at*;have HX:=aB (HIH.out (.iface T (.agg cs)) a s wr hck (hn.below hfb.bel) hdp (by omega))
   have hadd:=fM fs false d a ⟨s,0,0⟩;have HADD:=aB hadd;have hcc':c=foldL fs d (l.drop (k+1)) (aM fs false d a ⟨s,0,0⟩):=hcc;have HCC:=aB hcc';have HHS:=aB hs;clear hfb hck hn hu hdk hcc hcc' hadd hs;generalize aM fs false d a ⟨s,0,0⟩=c1 at*;go_wp2_with fail;refine HX.out.mono ?_;rintro e w1 ⟨hb1,⟨s1,rfl,rfl,hck1⟩|⟨hk1,rfl⟩⟩
   rotate_left
   ·have HB1:=aB (HFB.out.trans hb1);have HK1:=aB hk1;clear hb1 hk1;go_wp2_with fail;exact⟨rfl,cS.fault (c1:=c1) HB1.out HK1.out (by rw[HCC.out];exact Stk.fold (fun s k=>Stk.walk fs false d k s) _ _)⟩
   have HI1:Hid (F8 cb lo fs fv d w l c j (.int .i64 ((k+1:Nat):Int)) w1):=by
    refine⟨k+1,s1,by omega,rfl,HFB.out.trans hb1,hck1,HCC.out,?_⟩
    obtain⟨x,h1,h2⟩:=HADD.out;have h1':s1=s++x:=h1;have:=HHS.out;rw[h1',List.length_append];omega
   clear hb1 hck1 HX;go_wp2_with fail;go_roundg j
   case measure=>omega
   case rel=>exact HI1.out
  ·have hcc':c=⟨s,0,0⟩:=by rw[hcc,List.drop_eq_nil_of_le (by omega)];rfl
   have HCC:=aB hcc';clear hfb hck hcc hcc';go_wp2_with fail;go_end0;exact cS.done HFB.out HCC.out HCK.out
theorem QO(cb lo:Nat)(fs:List aC)(fv:Value)(seen:List (List UInt8))(w:World)(h:CK cb lo fs fv w seen):
 Calls Tryz.prog 231 #[.pointer (some ⟨cb,0,none⟩),.slice none 0 0] w (cS cb lo fs fv w ⟨seen,0,0⟩):=by
 have H:=aB h;clear h;go_enter Tryz.func231,Tryz.ntmps231;go_wp2_with fail;go_loop [5,8] (fun _ i=>i=.int .i64 0) (fun _ _=>0)
 case atStart=>rfl
 case round=>
  subst hrel;go_wp2_with fail;go_end0;exact cS.done (FB.refl _) rfl H.out
theorem qI(cb lo:Nat)(fs:List aC)(fv:Value)(d:Nat)(IH:jA cb lo fs fv d):lN cb lo fs fv d:=by
 intro v l seen w h hk hd hwt hl;rcases hk.get with ⟨rfl,rfl⟩|⟨g,cap,rfl,hF,hg,hcap,hc⟩
 ·exact QO cb lo fs fv seen w h
 ·exact QN cb lo fs fv d IH g cap l seen w h hF.2 hcap hc hd hwt hl
theorem FK(fs:List aC)(d:Nat)(l:List aC)(s:aX):Adds s (foldL fs d l s) (l.map (bS d)).sum:=Adds.fold (fun s k=>fM fs false d k s) l s
theorem CK.back{cb lo:Nat}{fs:List aC}{fv:Value}{w:World}{seen:List (List UInt8)}(m:Nat)(hm:m≤seen.length){sx:Option Addr}{sc:Nat}(h:CK cb lo fs fv w seen)(hblk:w.heap[cb]?=some (.cells #[fv,.slice sx seen.length sc] 220 (0,0)))(hown:w.ownsRow (cb+1) 9 1 (.slice sx seen.length sc) seen.length (jR seen)):
 FB cb w (w.setCell ⟨cb,1,none⟩ (.slice sx m sc))∧CK cb lo fs fv (w.setCell ⟨cb,1,none⟩ (.slice sx m sc)) (seen.take m):=by
 have hlt:=aD hblk;obtain⟨x,c,he, -, -,ho⟩:=KS hown m hm;obtain⟨rfl,rfl⟩:sx=x∧sc=c:=by cases he;exact⟨rfl,rfl⟩
 have hb:Below cb w (w.setCell ⟨cb,1,none⟩ (.slice sx m sc)):=(Below.refl _ _).setCell (by simp) _
 have hn:(w.setCell ⟨cb,1,none⟩ (.slice sx m sc)).heap[cb]?=some (.cells #[fv,.slice sx m sc] 220 (0,0)):=by rw[aQ hblk];rfl
 refine⟨⟨hb,fun k hk hc hr=>Below.heap_setCell _ _ _ _ (by show k≠cb;exact hc),fun k hk=>Or.inl ?_⟩,⟨.slice sx m sc,hn,?_⟩,h.fun_.keep fun k hk=>hb.block k hk.2⟩
 ·rw[lX hn] at hk;rw[lX hblk,←hk];cases sx<;>rfl
 ·rw[List.length_take,Nat.min_eq_left hm];exact aY ho fun k hk=>Below.heap_setCell _ _ _ _ (by have:=bX ho k hk;show k≠cb;omega)
theorem wN(cb lo:Nat)(fs:List aC)(fv:Value)(d:Nat)(HN:lN cb lo fs fv d)(v:Value)(l:List aC)(seen:List (List UInt8))(w:World)(h:CK cb lo fs fv w seen)(hk:PKid (Btw lo cb) w v l)(hd:∀k∈l,eS d k)(hwt:seen.length+(l.map (bS d)).sum≤90000)(hl:l.length≤90000):
 Calls Tryz.prog 190 #[.pointer (some ⟨cb,0,none⟩),v] w (cS cb lo fs fv w { foldL fs d l ⟨seen,0,0⟩ with seen:=(foldL fs d l ⟨seen,0,0⟩).seen.take seen.length }):=by
 obtain⟨vx,vc,rfl⟩:=hk.slice;have HX:=aB (HN _ l seen w h hk hd hwt hl);have hadd:=FK fs d l ⟨seen,0,0⟩;have HADD:=aB hadd;obtain⟨sx,sc,hblk,hsc,hscm,hown⟩:=h.cut;obtain⟨hlt,c0,c1,f1⟩:=iO hblk;clear h hk hd HN hadd hblk hown;generalize foldL fs d l ⟨seen,0,0⟩=c at*;go_enter Tryz.func190,Tryz.ntmps190;go_wp2_with fail;refine HX.out.mono ?_;rintro e w1 ⟨hb1,⟨s1,rfl,rfl,hck1⟩|⟨hk1,rfl⟩⟩
 rotate_left
 ·have HB1:=aB hb1;have HK1:=aB hk1;clear hb1 hk1;go_wp2_with fail;exact⟨rfl,cS.fault (c1:=c) HB1.out HK1.out (Stk.seen _ _)⟩
 obtain⟨x,hx1,hx2⟩:=HADD.out;have hx1':s1=seen++x:=hx1;have hle:seen.length≤s1.length:=by rw[hx1'];simp
 obtain⟨sx1,sc1,hblk1,hsc1,hscm1,hown1⟩:=hck1.cut;have HFIN:=aB (hck1.back seen.length hle hblk1 hown1);have HB1:=aB hb1;clear c0 c1 f1 hlt hsc hscm;obtain⟨hlt,c0,c1,f1⟩:=iO hblk1;have hs1:s1.length≤200000:=by rw[hx1',List.length_append];omega
 clear hck1 hblk1 hown1 hb1 HX hx1 hx1';go_wp2_with fail;go_end0;exact cS.done (HB1.out.trans HFIN.out.1) rfl HFIN.out.2
theorem FSl.kids{F:Nat→Prop}{w:World}{v:Value}{fs:List aC}(h:FSl F w v fs):∀f∈fs,1≤f.kids.length:=by
 rcases h.cells with ⟨_,rfl⟩|⟨g,cap,_,_,_,_,hc⟩
 ·intro f hf;cases hf
 ·intro f hf;obtain⟨k,hk,rfl⟩:=List.mem_iff_getElem.1 hf;obtain⟨pv,bv,ps,b,_,_,_,_,e,_⟩:=hc k hk;rw[e];simp
theorem UA{fs:List aC}(hk:∀f∈fs,1≤f.kids.length)(x:List UInt8):kX fs false x=match kF fs x with|some n=>(n:Int)|none=> -1:=by
 unfold kX kF;cases h1:(x==[108,101,110])
 ·cases h2:(x==[114,101,97,100])
  ·cases hf:dG fs x with
   |none=>simp
   |some f=>
    have h3:=hk f (List.mem_of_find?_eq_some hf);have e:((f.kids.length-1:Nat):Int)=(f.kids.length:Int)-1:=by omega
    simpa using e.symm
  ·simp
 ·simp
theorem TG{fs:List aC}(hk:∀f∈fs,f.kids.length≤90000){x:List UInt8}{n:Nat}(h:kF fs x=some n):n≤90000:=by
 unfold kF at h;split at h
 ·cases h;omega
 ·split at h
  ·cases h;omega
  ·cases hf:dG fs x with
   |none=>rw[hf] at h;cases h
   |some f=>
    rw[hf] at h;have:=hk f (List.mem_of_find?_eq_some hf);cases h;show f.kids.length-1≤90000
    omega
theorem SK(cb lo:Nat)(fs:List aC)(fv:Value)(hfl:fs.length≤90000)(hfk:∀f∈fs,f.kids.length≤90000)(d:Nat)(HN:lN cb lo fs fv d)(c:aC)(v:Value)(seen:List (List UInt8))(w:World)(h:CK cb lo fs fv w seen)(hk:PKid (Btw lo cb) w v c.kids)(hd:∀k∈c.kids,eS d k)(hwt:seen.length+(c.kids.map (bS d)).sum≤90000)(hl:c.kids.length≤90000):
 Calls Tryz.prog 232 #[.pointer (some ⟨cb,0,none⟩),.agg #[.int .i64 c.line,.string (bs c.text),v]] w (cS cb lo fs fv w (foldL fs d c.kids (dX fs false ⟨seen,0,0⟩ c))):=by
 obtain⟨vx,vc,rfl⟩:=hk.slice;have hcb:=h.lt;have hb0:Below w.heap.size w (w.alloc (.cells #[.int .i64 c.line,.string (bs c.text),.slice vx c.kids.length vc] 341)):=(Below.refl _ _).alloc (Nat.le_refl _) _;have h0:=h.grow hb0;have HB0:=aB hb0;have HBX:Hid ((w.alloc (.cells #[.int .i64 c.line,.string (bs c.text),.slice vx c.kids.length vc] 341)).heap[w.heap.size]?=some (.cells #[.int .i64 c.line,.string (bs c.text),.slice vx c.kids.length vc] 341 (0,0))):=aR _ _ rfl _;obtain⟨sx,sc,hblk,hsc,hscm,hown⟩:=h0.cut;obtain⟨hlt,c0,c1,f1⟩:=iO hblk;obtain⟨pv,rfl,hpv⟩:=(h0.grow (Below.refl _ _).drew).fun_
 obtain⟨fx,fc,rfl⟩:∃x c,pv=.slice x fs.length c:=by
  rcases hpv.cells with ⟨h1,h2⟩|⟨g,cap,h1,_⟩
  ·exact⟨none,0,by rw[h1,h2];rfl⟩
  ·exact⟨_,_,h1⟩
 have HPP:=aB (AS fs (Btw lo cb) (.slice fx fs.length fc) c.text (w.alloc (.cells #[.int .i64 c.line,.string (bs c.text),.slice vx c.kids.length vc] 341)).drew (by omega) hfk hpv)
 have HWP:=aB (UA hpv.kids c.text);clear hpv;have H0:=aB h0;have HK:=aB hk;have HNN:=aB (fun W (hb:Below w.heap.size w W)=>HN (.slice vx c.kids.length vc) c.kids seen W (h.grow hb) (hk.below (hb.mono (by omega))) hd hwt hl)
 have HFK:=aB hfk;clear h hk hd HN hb0 h0 hblk hown hfk;cases hp:kF fs c.text with
 |none=>
  have HC:Hid (dX fs false ⟨seen,0,0⟩ c=⟨seen,6,c.line⟩):=by
   show _=_
   rw[SQ (W:= -1) (by rw[HWP.out,hp]) (by decide)];rfl
  rw[hp] at HPP;simp only[Option.getD_none,Option.isSome_none] at HPP;rw[HC.out];clear hp HWP HC;go_enter Tryz.func232,Tryz.ntmps232;go_wp2_with fail;go_region_law (go_simp;go_at_call 135;refine HPP.out.mono ?_;rintro e w1 ⟨rfl,hb1⟩;have HB1:=aB (HB0.out.trans ((Below.refl _ _).drew.trans (hb1.mono (by simp))));have HBX1:=aB ((hb1.block w.heap.size (by simp)).trans HBX.out);have m0:=aA HBX1.out (i:=0) rfl;have m1:=aA HBX1.out (i:=1) rfl;have m2:=aA HBX1.out (i:=2) rfl;have hz1:=aD HBX1.out;clear hb1)
  all_goals
   go_wp2_with fail;refine(pQ c.line _).mono ?_;rintro e w2 ⟨rfl,hb2⟩;have HB2:=aB (HB1.out.trans (hb2.mono HB1.out.size));clear hb2;go_wp2_with (go_at_call 136;refine(fZ 6 c.line _).mono ?_;rintro e w3 ⟨rfl,hw⟩;obtain rfl:=hw.symm)
   exact⟨rfl,cS.fault (c1:=⟨seen,6,c.line⟩) (FB.of_below HB2.out hcb) (by simp) (Stk.fold (fun s k=>Stk.walk fs false d k s) _ _)⟩
 |some n=>
  rw[hp] at HPP;simp only[Option.getD_some,Option.isSome_some] at HPP;have hn:n≤2000000000:=by have:=TG HFK.out hp;omega
  by_cases he:n=c.kids.length
  ·have HC:Hid (dX fs false ⟨seen,0,0⟩ c=⟨seen,0,0⟩):=by
    show _=_
    rw[YI (W:=n) (by rw[HWP.out,hp]) (by omega) (by omega)]
   rw[HC.out];subst he;clear hp HWP HC;generalize foldL fs d c.kids ⟨seen,0,0⟩=r at*;go_enter Tryz.func232,Tryz.ntmps232;go_wp2_with fail;go_region_law (go_simp;go_at_call 135;refine HPP.out.mono ?_;rintro e w1 ⟨rfl,hb1⟩;have HB1:=aB (HB0.out.trans ((Below.refl _ _).drew.trans (hb1.mono (by simp))));have HBX1:=aB ((hb1.block w.heap.size (by simp)).trans HBX.out);have m0:=aA HBX1.out (i:=0) rfl;have m1:=aA HBX1.out (i:=1) rfl;have m2:=aA HBX1.out (i:=2) rfl;have hz1:=aD HBX1.out;clear hb1)
   all_goals
    go_wp2_with fail;refine(HNN.out _ HB1.out).mono ?_;rintro e w2 ⟨hb2,⟨s2,rfl,rfl,hck2⟩|⟨hk2,rfl⟩⟩
    ·have HB2:=aB ((FB.of_below HB1.out hcb).trans hb2);have HC2:=aB hck2;clear hb2 hck2;go_wp2_with fail;go_end0;exact cS.done HB2.out rfl HC2.out
    ·have HB2:=aB ((FB.of_below HB1.out hcb).trans hb2);have HK2:=aB hk2;clear hb2 hk2;go_wp2_with fail;exact⟨rfl,cS.fault (c1:=r) HB2.out HK2.out (Stk.refl _)⟩
  ·have HC:Hid (dX fs false ⟨seen,0,0⟩ c=⟨seen,7,c.line⟩):=by
    show _=_
    rw[YH (W:=n) (by rw[HWP.out,hp]) (by omega) (by omega)];rfl
   rw[HC.out];have hne:((n:Int) != (c.kids.length:Int))=true:=by simp;omega
   clear hp HWP HC;go_enter Tryz.func232,Tryz.ntmps232;go_wp2_with fail;go_region_law (go_simp;go_at_call 135;refine HPP.out.mono ?_;rintro e w1 ⟨rfl,hb1⟩;have HB1:=aB (HB0.out.trans ((Below.refl _ _).drew.trans (hb1.mono (by simp))));have HBX1:=aB ((hb1.block w.heap.size (by simp)).trans HBX.out);have m0:=aA HBX1.out (i:=0) rfl;have m1:=aA HBX1.out (i:=1) rfl;have m2:=aA HBX1.out (i:=2) rfl;have hz1:=aD HBX1.out;clear hb1)
   all_goals
    go_wp2_with fail;refine(pQ c.line _).mono ?_;rintro e w2 ⟨rfl,hb2⟩;have HB2:=aB (HB1.out.trans (hb2.mono HB1.out.size));clear hb2;go_wp2_with (go_at_call 136;refine(fZ 7 c.line _).mono ?_;rintro e w3 ⟨rfl,hw⟩;obtain rfl:=hw.symm)
    exact⟨rfl,cS.fault (c1:=⟨seen,7,c.line⟩) (FB.of_below HB2.out hcb) (by simp) (Stk.fold (fun s k=>Stk.walk fs false d k s) _ _)⟩
theorem PN.parts{F:Nat→Prop}{w:World}{v:Value}{a:aC}(h:PN F w v a):∃T cs ps,v=.iface T (.agg cs)∧Shape T cs a ps∧∀p∈ps,p.ok F w:=by
 obtain⟨d,h⟩:=h;cases d with
 |zero=>exact h.elim
 |succ d=>
  obtain⟨T,cs,ps,h1,h2,h3⟩:=h;exact⟨T,cs,ps,h1,h2,fun p hp=>(h3 p hp).mono (fun _ _ h=>⟨d,h⟩) (fun _ h=>h)⟩
theorem Prt.ok.one'{F:Nat→Prop}{w:World}{v:Value}{a:aC}(h:Prt.ok F w ⟨v,[a],true⟩):PN F w v a:=by
 rcases h with ⟨_,b,h1,h2⟩|⟨h1,_⟩
 ·cases h1;exact h2
 ·cases h1
theorem Prt.ok.many{F:Nat→Prop}{w:World}{v:Value}{l:List aC}(h:Prt.ok F w ⟨v,l,false⟩):PKid F w v l:=by
 rcases h with ⟨h1,_⟩|⟨_,h2⟩
 ·cases h1
 ·exact h2
structure Loc(cb:Nat)(w0:World)(b:Nat)(o:Obj)(W:World):Prop where
 fb:FB cb w0 W
 blk:W.heap[b]?=some o
 row:kE cb W≠some b
 ne:b≠cb
theorem Loc.new{cb lo:Nat}{fs:List aC}{fv:Value}{w:World}{seen:List (List UInt8)}(h:CK cb lo fs fv w seen)(o:Obj):Loc cb w w.heap.size o (w.alloc o)∧CK cb lo fs fv (w.alloc o) seen:=by
 have hcb:=h.lt;have hb:Below w.heap.size w (w.alloc o):=(Below.refl _ _).alloc (Nat.le_refl _) _;refine⟨⟨FB.of_below hb hcb,aR _ _ rfl _,fun e=>?_,by omega⟩,h.grow hb⟩
 obtain⟨sv,hb',ho⟩:=h.blk;rw[nD (hb.block cb hcb),lX hb'] at e;have:=cG ho _ e;omega
theorem Loc.step{cb b:Nat}{o:Obj}{w0 W W':World}(h:Loc cb w0 b o W)(hb:FB cb W W'):Loc cb w0 b o W':=
 ⟨h.fb.trans hb,(hb.blk b (aD h.blk) h.ne h.row).trans h.blk,fun e=>by
   rcases hb.row _ e with e|e
   ·exact h.row e
   ·have:=aD h.blk;omega,h.ne⟩
def qQ(cb lo:Nat)(fs:List aC)(fv:Value)(d:Nat):Prop:=
 ∀(v:Value) (b:aC) (seen:List (List UInt8)) (w:World),CK cb lo fs fv w seen→b.op=[98,108,111,99,107]→PKid (Btw lo cb) w v b.kids→eS d b→seen.length+bS d b≤90000→
  Calls Tryz.prog 190 #[.pointer (some ⟨cb,0,none⟩),v] w (cS cb lo fs fv w (aM fs false d b ⟨seen,0,0⟩))
theorem tN{d:Nat}{l:List aC}(h:∀k∈l,eS d k):l.length≤(l.map (bS d)).sum:=by
 cases d with
 |zero=>
  cases l with
  |nil=>simp
  |cons x l=>exact(h x (List.mem_cons_self ..)).elim
 |succ d=>exact nU d l
theorem ON{cb lo:Nat}{fs:List aC}{fv:Value}{d:Nat}(HN:lN cb lo fs fv d):qQ cb lo fs fv (d+1):=by
 intro v b seen w h hop hk hd hwt;rw[bS] at hwt
 have hs:aM fs false (d+1) b ⟨seen,0,0⟩={ foldL fs d b.kids ⟨seen,0,0⟩ with seen:=(foldL fs d b.kids ⟨seen,0,0⟩).seen.take seen.length }:=by
  rw[aM,if_neg (by rw[hop];decide)]
  simp only[bY,hop];rfl
 have hkl:=tN hd;rw[hs];exact wN cb lo fs fv d HN v b.kids seen w h hk hd (by omega) (by omega)
theorem VY{cb lo:Nat}{fs:List aC}{fv:Value}(d:Nat)(HN:lN cb lo fs fv d)(seen:List (List UInt8))(w:World)(h:CK cb lo fs fv w seen)(hs:seen.length≤90000):
 Calls Tryz.prog 190 #[.pointer (some ⟨cb,0,none⟩),.slice none 0 0] w (cS cb lo fs fv w ⟨seen,0,0⟩):=by
 have:=wN cb lo fs fv d HN (.slice none 0 0) [] seen w h (Or.inl ⟨rfl,rfl⟩) (fun k hk=>by cases hk) (by simpa using hs) (by simp)
 have e:({ foldL fs d [] ⟨seen,0,0⟩ with seen:=(foldL fs d [] ⟨seen,0,0⟩).seen.take seen.length }:aX)=⟨seen,0,0⟩:=by
  show (⟨seen.take seen.length,0,0⟩:aX)=_
  rw[List.take_length]
 rw[e] at this;exact this
theorem kG{a:aX}{s t:List (List UInt8)}{m n k:Nat}(h:Adds a ⟨t,0,0⟩ m)(ha:a.seen=s)(hn:s.length+(m+k)≤n):t.length+k≤n:=by
 obtain⟨x,h1,h2⟩:=h;have h1':t=s++x:=by rw[←ha];exact h1
 rw[h1',List.length_append];omega
def yR(s:aX)(l:Nat)(x:List UInt8):aX:=if s.seen.contains x then s else s.found l 6
theorem UE(s:aX)(l:Nat)(x:List UInt8):Adds s (yR s l x) 0:=Adds.of_eq (by unfold yR;split<;>first|rfl|exact mL _ _ _)
theorem YT(cb lo:Nat)(fs:List aC)(fv:Value)(w:World)(seen:List (List UInt8))(h:CK cb lo fs fv w seen)(hs:seen.length≤100000)(l:Nat)(x:List UInt8):
 Calls Tryz.prog 230 #[.pointer (some ⟨cb,0,none⟩),.agg #[.int .i64 l,.string (bs x)]] w (cS cb lo fs fv w (yR ⟨seen,0,0⟩ l x)):=G7 cb lo fs fv w seen h hs l x
theorem FC(cb lo:Nat)(fs:List aC)(fv:Value)(seen:List (List UInt8))(w:World)(h:CK cb lo fs fv w seen)(l k:Nat):
 Calls Tryz.prog 167 #[.pointer (some ⟨cb,0,none⟩),.iface 397 (.agg #[.int .i64 l,.int .i64 k])] w (cS cb lo fs fv w ⟨seen,0,0⟩):=by
 have H:=aB h;have q0:=sZ;have q1:=uJ;have q2:=GI;have q3:=xB;have q4:=uH;have q5:=xD;have q6:=zG;have q7:=rZ;have q8:=zF;have q9:=xE;have q10:=xC;have q11:=uI;clear h;go_enter Tryz.func167,Tryz.ntmps167;go_wp2_with fail;go_end0;exact cS.done (FB.refl _) rfl H.out
theorem WC(cb lo:Nat)(fs:List aC)(fv:Value)(seen:List (List UInt8))(w:World)(h:CK cb lo fs fv w seen)(l:Nat)(x:ByteArray):
 Calls Tryz.prog 167 #[.pointer (some ⟨cb,0,none⟩),.iface 398 (.agg #[.int .i64 l,.string x])] w (cS cb lo fs fv w ⟨seen,0,0⟩):=by
 have H:=aB h;have q0:=sX;have q1:=uF;have q2:=GH;have q3:=wV;have q4:=uD;have q5:=wX;have q6:=zC;have q7:=rY;have q8:=zB;have q9:=wY;have q10:=wW;have q11:=uE;clear h;go_enter Tryz.func167,Tryz.ntmps167;go_wp2_with fail;go_end0;exact cS.done (FB.refl _) rfl H.out
theorem J6(cb lo:Nat)(fs:List aC)(fv:Value)(seen:List (List UInt8))(w:World)(h:CK cb lo fs fv w seen)(l:Nat)(x:Bool):
 Calls Tryz.prog 167 #[.pointer (some ⟨cb,0,none⟩),.iface 400 (.agg #[.int .i64 l,.bool x])] w (cS cb lo fs fv w ⟨seen,0,0⟩):=by
 have H:=aB h;have q0:=xJ;have q1:=zQ;have q2:=PH;have q3:=CV;have q4:=zO;have q5:=CX;have q6:=GN;have q7:=uM;have q8:=GM;have q9:=CY;have q10:=CW;have q11:=zP;clear h;go_enter Tryz.func167,Tryz.ntmps167;go_wp2_with fail;go_end0;exact cS.done (FB.refl _) rfl H.out
theorem J5(cb lo:Nat)(fs:List aC)(fv:Value)(d:Nat)(HN:lN cb lo fs fv d)(seen:List (List UInt8))(w:World)(h:CK cb lo fs fv w seen)(l:Nat)(u1:Value)(k1:List aC)(g1:PKid (Btw lo cb) w u1 k1)(hk1d:∀k∈k1,eS d k)(hwt:seen.length+((k1.map (bS d)).sum+0)≤90000):
 Calls Tryz.prog 167 #[.pointer (some ⟨cb,0,none⟩),.iface 346 (.agg #[.int .i64 l,u1])] w (cS cb lo fs fv w (foldL fs d k1 ⟨seen,0,0⟩)):=by
 obtain⟨x1,y1,rfl⟩:=g1.slice;have q0:=xF;have q1:=zI;have q2:=PF;have q3:=CN;have q4:=zH;have q5:=CO;have q6:=GK;have q7:=uK;have q8:=GJ;obtain⟨hl0,hk0⟩:=Loc.new h (.cells #[.int .i64 l,(.slice x1 k1.length y1)] 346);have HL0:=aB hl0;have HC0:=aB hk0;clear h hl0 hk0;go_enter Tryz.func167,Tryz.ntmps167;have HX0:=aB (HN (.slice x1 k1.length y1) k1 seen (w.alloc (.cells #[.int .i64 l,(.slice x1 k1.length y1)] 346)) HC0.out (g1.below HL0.out.fb.bel) hk1d (by omega) (by have:=tN hk1d;omega))
 obtain⟨c0,hg0⟩:∃c0,c0=foldL fs d k1 (⟨seen,0,0⟩:aX):=⟨_,rfl⟩;have HG0:=aB hg0.symm;first|rw[←hg0] at HX0|rw[show _=c0 from hg0.symm] at HX0
 clear hg0;go_wp2_with fail;refine HX0.out.mono ?_;rintro e w1 ⟨hb0,⟨s1,hc0,rfl,hck0⟩|⟨hk0,rfl⟩⟩
 rotate_left
 ·have HB:=aB (HL0.out.fb.trans hb0);have HK:=aB hk0;clear hb0 hk0;go_wp2_with fail;exact⟨rfl,cS.fault (c1:=c0) HB.out HK.out (by rw[HG0.out];exact Stk.refl c0)⟩
 have HL1:=aB (HL0.out.step hb0);have HC1:=aB hck0;subst hc0;clear hb0 hck0 HX0;go_wp2_with fail;go_end0;exact cS.done HL1.out.fb (by rw[HG0.out]) HC1.out
theorem A9(cb lo:Nat)(fs:List aC)(fv:Value)(d:Nat)(IH:jA cb lo fs fv d)(seen:List (List UInt8))(w:World)(h:CK cb lo fs fv w seen)(l:Nat)(x:ByteArray)(v1:Value)(a1:aC)(h1:PN (Btw lo cb) w v1 a1)(hd1:eS d a1)(hwt:seen.length+(bS d a1+0)≤90000):
 Calls Tryz.prog 167 #[.pointer (some ⟨cb,0,none⟩),.iface 350 (.agg #[.int .i64 l,.string x,v1])] w (cS cb lo fs fv w (aM fs false d a1 ⟨seen,0,0⟩)):=by
 obtain⟨T1,cs1,rfl⟩:=h1.form;have q0:=uC;have q1:=wU;have q2:=KO;have q3:=yX;have q4:=wT;have q5:=yZ;have q6:=CM;have q7:=sW;have q8:=CL;have q9:=zA;have q10:=yY;obtain⟨hl0,hk0⟩:=Loc.new h (.cells #[.int .i64 l,.string x,(.iface T1 (.agg cs1))] 350);have HL0:=aB hl0;have HC0:=aB hk0;clear h hl0 hk0;go_enter Tryz.func167,Tryz.ntmps167;have HX0:=aB (IH (.iface T1 (.agg cs1)) a1 seen (w.alloc (.cells #[.int .i64 l,.string x,(.iface T1 (.agg cs1))] 350)) HC0.out (h1.below HL0.out.fb.bel) hd1 (by omega))
 obtain⟨c0,hg0⟩:∃c0,c0=aM fs false d a1 (⟨seen,0,0⟩:aX):=⟨_,rfl⟩;have HG0:=aB hg0.symm;first|rw[←hg0] at HX0|rw[show _=c0 from hg0.symm] at HX0
 clear hg0;go_wp2_with fail;refine HX0.out.mono ?_;rintro e w1 ⟨hb0,⟨s1,hc0,rfl,hck0⟩|⟨hk0,rfl⟩⟩
 rotate_left
 ·have HB:=aB (HL0.out.fb.trans hb0);have HK:=aB hk0;clear hb0 hk0;go_wp2_with fail;exact⟨rfl,cS.fault (c1:=c0) HB.out HK.out (by rw[HG0.out];exact Stk.refl c0)⟩
 have HL1:=aB (HL0.out.step hb0);have HC1:=aB hck0;subst hc0;clear hb0 hck0 HX0;go_wp2_with fail;go_end0;exact cS.done HL1.out.fb (by rw[HG0.out]) HC1.out
theorem WD(cb lo:Nat)(fs:List aC)(fv:Value)(d:Nat)(IH:jA cb lo fs fv d)(seen:List (List UInt8))(w:World)(h:CK cb lo fs fv w seen)(l:Nat)(v1:Value)(a1:aC)(h1:PN (Btw lo cb) w v1 a1)(hd1:eS d a1)(hwt:seen.length+(bS d a1+0)≤90000):
 Calls Tryz.prog 167 #[.pointer (some ⟨cb,0,none⟩),.iface 338 (.agg #[.int .i64 l,v1])] w (cS cb lo fs fv w (aM fs false d a1 ⟨seen,0,0⟩)):=by
 obtain⟨T1,cs1,rfl⟩:=h1.form;have q0:=mM;have q1:=nC;have q2:=sY;have q3:=oG;have q4:=nB;obtain⟨hl0,hk0⟩:=Loc.new h (.cells #[.int .i64 l,(.iface T1 (.agg cs1))] 338);have HL0:=aB hl0;have HC0:=aB hk0;clear h hl0 hk0;go_enter Tryz.func167,Tryz.ntmps167;have HX0:=aB (IH (.iface T1 (.agg cs1)) a1 seen (w.alloc (.cells #[.int .i64 l,(.iface T1 (.agg cs1))] 338)) HC0.out (h1.below HL0.out.fb.bel) hd1 (by omega))
 obtain⟨c0,hg0⟩:∃c0,c0=aM fs false d a1 (⟨seen,0,0⟩:aX):=⟨_,rfl⟩;have HG0:=aB hg0.symm;first|rw[←hg0] at HX0|rw[show _=c0 from hg0.symm] at HX0
 clear hg0;go_wp2_with fail;refine HX0.out.mono ?_;rintro e w1 ⟨hb0,⟨s1,hc0,rfl,hck0⟩|⟨hk0,rfl⟩⟩
 rotate_left
 ·have HB:=aB (HL0.out.fb.trans hb0);have HK:=aB hk0;clear hb0 hk0;go_wp2_with fail;exact⟨rfl,cS.fault (c1:=c0) HB.out HK.out (by rw[HG0.out];exact Stk.refl c0)⟩
 have HL1:=aB (HL0.out.step hb0);have HC1:=aB hck0;subst hc0;clear hb0 hck0 HX0;go_wp2_with fail;go_end0;exact cS.done HL1.out.fb (by rw[HG0.out]) HC1.out
theorem B0(cb lo:Nat)(fs:List aC)(fv:Value)(d:Nat)(IH:jA cb lo fs fv d)(seen:List (List UInt8))(w:World)(h:CK cb lo fs fv w seen)(l:Nat)(v1:Value)(a1:aC)(h1:PN (Btw lo cb) w v1 a1)(hd1:eS d a1)(hwt:seen.length+(bS d a1+0)≤90000):
 Calls Tryz.prog 167 #[.pointer (some ⟨cb,0,none⟩),.iface 339 (.agg #[.int .i64 l,v1])] w (cS cb lo fs fv w (aM fs false d a1 ⟨seen,0,0⟩)):=by
 obtain⟨T1,cs1,rfl⟩:=h1.form;have q0:=uG;have q1:=xA;have q2:=KP;have q3:=zD;have q4:=wZ;have q5:=zE;obtain⟨hl0,hk0⟩:=Loc.new h (.cells #[.int .i64 l,(.iface T1 (.agg cs1))] 339);have HL0:=aB hl0;have HC0:=aB hk0;clear h hl0 hk0;go_enter Tryz.func167,Tryz.ntmps167;have HX0:=aB (IH (.iface T1 (.agg cs1)) a1 seen (w.alloc (.cells #[.int .i64 l,(.iface T1 (.agg cs1))] 339)) HC0.out (h1.below HL0.out.fb.bel) hd1 (by omega))
 obtain⟨c0,hg0⟩:∃c0,c0=aM fs false d a1 (⟨seen,0,0⟩:aX):=⟨_,rfl⟩;have HG0:=aB hg0.symm;first|rw[←hg0] at HX0|rw[show _=c0 from hg0.symm] at HX0
 clear hg0;go_wp2_with fail;refine HX0.out.mono ?_;rintro e w1 ⟨hb0,⟨s1,hc0,rfl,hck0⟩|⟨hk0,rfl⟩⟩
 rotate_left
 ·have HB:=aB (HL0.out.fb.trans hb0);have HK:=aB hk0;clear hb0 hk0;go_wp2_with fail;exact⟨rfl,cS.fault (c1:=c0) HB.out HK.out (by rw[HG0.out];exact Stk.refl c0)⟩
 have HL1:=aB (HL0.out.step hb0);have HC1:=aB hck0;subst hc0;clear hb0 hck0 HX0;go_wp2_with fail;go_end0;exact cS.done HL1.out.fb (by rw[HG0.out]) HC1.out
theorem B1(cb lo:Nat)(fs:List aC)(fv:Value)(d:Nat)(IH:jA cb lo fs fv d)(seen:List (List UInt8))(w:World)(h:CK cb lo fs fv w seen)(l:Nat)(v1:Value)(a1:aC)(h1:PN (Btw lo cb) w v1 a1)(hd1:eS d a1)(v2:Value)(a2:aC)(h2:PN (Btw lo cb) w v2 a2)(hd2:eS d a2)(hwt:seen.length+(bS d a1+(bS d a2+0))≤90000):
 Calls Tryz.prog 167 #[.pointer (some ⟨cb,0,none⟩),.iface 348 (.agg #[.int .i64 l,v1,v2])] w (cS cb lo fs fv w (aM fs false d a2 (aM fs false d a1 ⟨seen,0,0⟩))):=by
 obtain⟨T1,cs1,rfl⟩:=h1.form;obtain⟨T2,cs2,rfl⟩:=h2.form;have q0:=uL;have q1:=xH;have q2:=KQ;have q3:=zJ;have q4:=xG;have q5:=zK;have q6:=CS;have q7:=tA;have q8:=CR;have q9:=zL;obtain⟨hl0,hk0⟩:=Loc.new h (.cells #[.int .i64 l,(.iface T1 (.agg cs1)),(.iface T2 (.agg cs2))] 348);have HL0:=aB hl0;have HC0:=aB hk0;clear h hl0 hk0;go_enter Tryz.func167,Tryz.ntmps167;have HX0:=aB (IH (.iface T1 (.agg cs1)) a1 seen (w.alloc (.cells #[.int .i64 l,(.iface T1 (.agg cs1)),(.iface T2 (.agg cs2))] 348)) HC0.out (h1.below HL0.out.fb.bel) hd1 (by omega))
 have HA0:=aB (fM fs false d a1 ⟨seen,0,0⟩);obtain⟨c0,hg0⟩:∃c0,c0=aM fs false d a1 (⟨seen,0,0⟩:aX):=⟨_,rfl⟩;have HG0:=aB hg0.symm;rw[←hg0] at HA0;first|rw[←hg0] at HX0|rw[show _=c0 from hg0.symm] at HX0
 clear hg0;go_wp2_with fail;refine HX0.out.mono ?_;rintro e w1 ⟨hb0,⟨s1,hc0,rfl,hck0⟩|⟨hk0,rfl⟩⟩
 rotate_left
 ·have HB:=aB (HL0.out.fb.trans hb0);have HK:=aB hk0;clear hb0 hk0;go_wp2_with fail;exact⟨rfl,cS.fault (c1:=c0) HB.out HK.out (by rw[HG0.out];exact(Stk.walk fs false d a2 c0))⟩
 have HL1:=aB (HL0.out.step hb0);have HC1:=aB hck0;subst hc0;have hn1:s1.length+(bS d a2+0)≤90000:=kG HA0.out rfl (by omega)
 clear hb0 hck0 HX0;have HX1:=aB (IH (.iface T2 (.agg cs2)) a2 s1 w1 HC1.out (h2.below HL1.out.fb.bel) hd2 (by omega))
 obtain⟨c1,hg1⟩:∃c1,c1=aM fs false d a2 (⟨s1,0,0⟩:aX):=⟨_,rfl⟩;have HG1:=aB hg1.symm;first|rw[←hg1] at HX1|rw[show _=c1 from hg1.symm] at HX1
 clear hg1;have m1_0:=aA HL1.out.blk (i:=0) rfl;have m1_1:=aA HL1.out.blk (i:=1) rfl;have m1_2:=aA HL1.out.blk (i:=2) rfl;have hz1:=aD HL1.out.blk;go_wp2_with fail;refine HX1.out.mono ?_;rintro e w2 ⟨hb1,⟨s2,hc1,rfl,hck1⟩|⟨hk1,rfl⟩⟩
 rotate_left
 ·have HB:=aB (HL1.out.fb.trans hb1);have HK:=aB hk1;clear hb1 hk1;go_wp2_with fail;exact⟨rfl,cS.fault (c1:=c1) HB.out HK.out (by rw[HG0.out,HG1.out];exact Stk.refl c1)⟩
 have HL2:=aB (HL1.out.step hb1);have HC2:=aB hck1;subst hc1;clear hb1 hck1 HX1 m1_0 m1_1 m1_2 hz1;go_wp2_with fail;go_end0;exact cS.done HL2.out.fb (by rw[HG0.out,HG1.out]) HC2.out
theorem WE(cb lo:Nat)(fs:List aC)(fv:Value)(d:Nat)(IH:jA cb lo fs fv d)(seen:List (List UInt8))(w:World)(h:CK cb lo fs fv w seen)(l:Nat)(x:ByteArray)(v1:Value)(a1:aC)(h1:PN (Btw lo cb) w v1 a1)(hd1:eS d a1)(v2:Value)(a2:aC)(h2:PN (Btw lo cb) w v2 a2)(hd2:eS d a2)(hwt:seen.length+(bS d a1+(bS d a2+0))≤90000):
 Calls Tryz.prog 167 #[.pointer (some ⟨cb,0,none⟩),.iface 352 (.agg #[.int .i64 l,.string x,v1,v2])] w (cS cb lo fs fv w (aM fs false d a2 (aM fs false d a1 ⟨seen,0,0⟩))):=by
 obtain⟨T1,cs1,rfl⟩:=h1.form;obtain⟨T2,cs2,rfl⟩:=h2.form;have q0:=tC;have q1:=uP;have q2:=GO;have q3:=xK;have q4:=uN;have q5:=xM;have q6:=zS;have q7:=sB;have q8:=zR;have q9:=xN;have q10:=xL;have q11:=uO;obtain⟨hl0,hk0⟩:=Loc.new h (.cells #[.int .i64 l,.string x,(.iface T1 (.agg cs1)),(.iface T2 (.agg cs2))] 352);have HL0:=aB hl0;have HC0:=aB hk0;clear h hl0 hk0;go_enter Tryz.func167,Tryz.ntmps167;have HX0:=aB (IH (.iface T1 (.agg cs1)) a1 seen (w.alloc (.cells #[.int .i64 l,.string x,(.iface T1 (.agg cs1)),(.iface T2 (.agg cs2))] 352)) HC0.out (h1.below HL0.out.fb.bel) hd1 (by omega))
 have HA0:=aB (fM fs false d a1 ⟨seen,0,0⟩);obtain⟨c0,hg0⟩:∃c0,c0=aM fs false d a1 (⟨seen,0,0⟩:aX):=⟨_,rfl⟩;have HG0:=aB hg0.symm;rw[←hg0] at HA0;first|rw[←hg0] at HX0|rw[show _=c0 from hg0.symm] at HX0
 clear hg0;go_wp2_with fail;refine HX0.out.mono ?_;rintro e w1 ⟨hb0,⟨s1,hc0,rfl,hck0⟩|⟨hk0,rfl⟩⟩
 rotate_left
 ·have HB:=aB (HL0.out.fb.trans hb0);have HK:=aB hk0;clear hb0 hk0;go_wp2_with fail;exact⟨rfl,cS.fault (c1:=c0) HB.out HK.out (by rw[HG0.out];exact(Stk.walk fs false d a2 c0))⟩
 have HL1:=aB (HL0.out.step hb0);have HC1:=aB hck0;subst hc0;have hn1:s1.length+(bS d a2+0)≤90000:=kG HA0.out rfl (by omega)
 clear hb0 hck0 HX0;have HX1:=aB (IH (.iface T2 (.agg cs2)) a2 s1 w1 HC1.out (h2.below HL1.out.fb.bel) hd2 (by omega))
 obtain⟨c1,hg1⟩:∃c1,c1=aM fs false d a2 (⟨s1,0,0⟩:aX):=⟨_,rfl⟩;have HG1:=aB hg1.symm;first|rw[←hg1] at HX1|rw[show _=c1 from hg1.symm] at HX1
 clear hg1;have m1_0:=aA HL1.out.blk (i:=0) rfl;have m1_1:=aA HL1.out.blk (i:=1) rfl;have m1_2:=aA HL1.out.blk (i:=2) rfl;have m1_3:=aA HL1.out.blk (i:=3) rfl;have hz1:=aD HL1.out.blk;go_wp2_with fail;refine HX1.out.mono ?_;rintro e w2 ⟨hb1,⟨s2,hc1,rfl,hck1⟩|⟨hk1,rfl⟩⟩
 rotate_left
 ·have HB:=aB (HL1.out.fb.trans hb1);have HK:=aB hk1;clear hb1 hk1;go_wp2_with fail;exact⟨rfl,cS.fault (c1:=c1) HB.out HK.out (by rw[HG0.out,HG1.out];exact Stk.refl c1)⟩
 have HL2:=aB (HL1.out.step hb1);have HC2:=aB hck1;subst hc1;clear hb1 hck1 HX1 m1_0 m1_1 m1_2 m1_3 hz1;go_wp2_with fail;go_end0;exact cS.done HL2.out.fb (by rw[HG0.out,HG1.out]) HC2.out
theorem A8(cb lo:Nat)(fs:List aC)(fv:Value)(d:Nat)(IH:jA cb lo fs fv d)(HBK:qQ cb lo fs fv d)(seen:List (List UInt8))(w:World)(h:CK cb lo fs fv w seen)(l:Nat)(v1:Value)(a1:aC)(h1:PN (Btw lo cb) w v1 a1)(hd1:eS d a1)(u2:Value)(b2:aC)(hop2:b2.op=[98,108,111,99,107])(g2:PKid (Btw lo cb) w u2 b2.kids)(hd2b:eS d b2)(hwt:seen.length+(bS d a1+(bS d b2+0))≤90000):
 Calls Tryz.prog 167 #[.pointer (some ⟨cb,0,none⟩),.iface 336 (.agg #[.int .i64 l,v1,u2])] w (cS cb lo fs fv w (aM fs false d b2 (aM fs false d a1 ⟨seen,0,0⟩))):=by
 obtain⟨T1,cs1,rfl⟩:=h1.form;obtain⟨x2,y2,rfl⟩:=g2.slice;have q0:=uA;have q1:=wS;have q2:=KN;have q3:=yV;obtain⟨hl0,hk0⟩:=Loc.new h (.cells #[.int .i64 l,(.iface T1 (.agg cs1)),(.slice x2 b2.kids.length y2)] 336);have HL0:=aB hl0;have HC0:=aB hk0;clear h hl0 hk0;go_enter Tryz.func167,Tryz.ntmps167;have HX0:=aB (IH (.iface T1 (.agg cs1)) a1 seen (w.alloc (.cells #[.int .i64 l,(.iface T1 (.agg cs1)),(.slice x2 b2.kids.length y2)] 336)) HC0.out (h1.below HL0.out.fb.bel) hd1 (by omega))
 have HA0:=aB (fM fs false d a1 ⟨seen,0,0⟩);obtain⟨c0,hg0⟩:∃c0,c0=aM fs false d a1 (⟨seen,0,0⟩:aX):=⟨_,rfl⟩;have HG0:=aB hg0.symm;rw[←hg0] at HA0;first|rw[←hg0] at HX0|rw[show _=c0 from hg0.symm] at HX0
 clear hg0;go_wp2_with fail;refine HX0.out.mono ?_;rintro e w1 ⟨hb0,⟨s1,hc0,rfl,hck0⟩|⟨hk0,rfl⟩⟩
 rotate_left
 ·have HB:=aB (HL0.out.fb.trans hb0);have HK:=aB hk0;clear hb0 hk0;go_wp2_with fail;exact⟨rfl,cS.fault (c1:=c0) HB.out HK.out (by rw[HG0.out];exact(Stk.walk fs false d b2 c0))⟩
 have HL1:=aB (HL0.out.step hb0);have HC1:=aB hck0;subst hc0;have hn1:s1.length+(bS d b2+0)≤90000:=kG HA0.out rfl (by omega)
 clear hb0 hck0 HX0;have HX1:=aB (HBK (.slice x2 b2.kids.length y2) b2 s1 w1 HC1.out hop2 (g2.below HL1.out.fb.bel) hd2b (by omega))
 obtain⟨c1,hg1⟩:∃c1,c1=aM fs false d b2 (⟨s1,0,0⟩:aX):=⟨_,rfl⟩;have HG1:=aB hg1.symm;first|rw[←hg1] at HX1|rw[show _=c1 from hg1.symm] at HX1
 clear hg1;have m1_0:=aA HL1.out.blk (i:=0) rfl;have m1_1:=aA HL1.out.blk (i:=1) rfl;have m1_2:=aA HL1.out.blk (i:=2) rfl;have hz1:=aD HL1.out.blk;go_wp2_with fail;refine HX1.out.mono ?_;rintro e w2 ⟨hb1,⟨s2,hc1,rfl,hck1⟩|⟨hk1,rfl⟩⟩
 rotate_left
 ·have HB:=aB (HL1.out.fb.trans hb1);have HK:=aB hk1;clear hb1 hk1;go_wp2_with fail;exact⟨rfl,cS.fault (c1:=c1) HB.out HK.out (by rw[HG0.out,HG1.out];exact Stk.refl c1)⟩
 have HL2:=aB (HL1.out.step hb1);have HC2:=aB hck1;subst hc1;clear hb1 hck1 HX1 m1_0 m1_1 m1_2 hz1;go_wp2_with fail;go_end0;exact cS.done HL2.out.fb (by rw[HG0.out,HG1.out]) HC2.out
theorem S4(cb lo:Nat)(fs:List aC)(fv:Value)(d:Nat)(IH:jA cb lo fs fv d)(HBK:qQ cb lo fs fv d)(seen:List (List UInt8))(w:World)(h:CK cb lo fs fv w seen)(l:Nat)(v1:Value)(a1:aC)(h1:PN (Btw lo cb) w v1 a1)(hd1:eS d a1)(u2:Value)(b2:aC)(hop2:b2.op=[98,108,111,99,107])(g2:PKid (Btw lo cb) w u2 b2.kids)(hd2b:eS d b2)(u3:Value)(b3:aC)(hop3:b3.op=[98,108,111,99,107])(g3:PKid (Btw lo cb) w u3 b3.kids)(hd3b:eS d b3)(hwt:seen.length+(bS d a1+(bS d b2+(bS d b3+0)))≤90000):
 Calls Tryz.prog 167 #[.pointer (some ⟨cb,0,none⟩),.iface 334 (.agg #[.int .i64 l,v1,u2,u3])] w (cS cb lo fs fv w (aM fs false d b3 (aM fs false d b2 (aM fs false d a1 ⟨seen,0,0⟩)))):=by
 obtain⟨T1,cs1,rfl⟩:=h1.form;obtain⟨x2,y2,rfl⟩:=g2.slice;obtain⟨x3,y3,rfl⟩:=g3.slice;have q0:=qW;have q1:=tB;have q2:=KR;obtain⟨hl0,hk0⟩:=Loc.new h (.cells #[.int .i64 l,(.iface T1 (.agg cs1)),(.slice x2 b2.kids.length y2),(.slice x3 b3.kids.length y3)] 334);have HL0:=aB hl0;have HC0:=aB hk0;clear h hl0 hk0;go_enter Tryz.func167,Tryz.ntmps167;have HX0:=aB (IH (.iface T1 (.agg cs1)) a1 seen (w.alloc (.cells #[.int .i64 l,(.iface T1 (.agg cs1)),(.slice x2 b2.kids.length y2),(.slice x3 b3.kids.length y3)] 334)) HC0.out (h1.below HL0.out.fb.bel) hd1 (by omega))
 have HA0:=aB (fM fs false d a1 ⟨seen,0,0⟩);obtain⟨c0,hg0⟩:∃c0,c0=aM fs false d a1 (⟨seen,0,0⟩:aX):=⟨_,rfl⟩;have HG0:=aB hg0.symm;rw[←hg0] at HA0;first|rw[←hg0] at HX0|rw[show _=c0 from hg0.symm] at HX0
 clear hg0;go_wp2_with fail;refine HX0.out.mono ?_;rintro e w1 ⟨hb0,⟨s1,hc0,rfl,hck0⟩|⟨hk0,rfl⟩⟩
 rotate_left
 ·have HB:=aB (HL0.out.fb.trans hb0);have HK:=aB hk0;clear hb0 hk0;go_wp2_with fail;exact⟨rfl,cS.fault (c1:=c0) HB.out HK.out (by rw[HG0.out];exact((Stk.walk fs false d b2 c0)).trans (Stk.walk fs false d b3 _))⟩
 have HL1:=aB (HL0.out.step hb0);have HC1:=aB hck0;subst hc0;have hn1:s1.length+(bS d b2+(bS d b3+0))≤90000:=kG HA0.out rfl (by omega)
 clear hb0 hck0 HX0;have HX1:=aB (HBK (.slice x2 b2.kids.length y2) b2 s1 w1 HC1.out hop2 (g2.below HL1.out.fb.bel) hd2b (by omega))
 have HA1:=aB (fM fs false d b2 ⟨s1,0,0⟩);obtain⟨c1,hg1⟩:∃c1,c1=aM fs false d b2 (⟨s1,0,0⟩:aX):=⟨_,rfl⟩;have HG1:=aB hg1.symm;rw[←hg1] at HA1;first|rw[←hg1] at HX1|rw[show _=c1 from hg1.symm] at HX1
 clear hg1;have m1_0:=aA HL1.out.blk (i:=0) rfl;have m1_1:=aA HL1.out.blk (i:=1) rfl;have m1_2:=aA HL1.out.blk (i:=2) rfl;have m1_3:=aA HL1.out.blk (i:=3) rfl;have hz1:=aD HL1.out.blk;go_wp2_with fail;refine HX1.out.mono ?_;rintro e w2 ⟨hb1,⟨s2,hc1,rfl,hck1⟩|⟨hk1,rfl⟩⟩
 rotate_left
 ·have HB:=aB (HL1.out.fb.trans hb1);have HK:=aB hk1;clear hb1 hk1;go_wp2_with fail;exact⟨rfl,cS.fault (c1:=c1) HB.out HK.out (by rw[HG0.out,HG1.out];exact(Stk.walk fs false d b3 c1))⟩
 have HL2:=aB (HL1.out.step hb1);have HC2:=aB hck1;subst hc1;have hn2:s2.length+(bS d b3+0)≤90000:=kG HA1.out rfl (by omega)
 clear hb1 hck1 HX1 m1_0 m1_1 m1_2 m1_3 hz1;have HX2:=aB (HBK (.slice x3 b3.kids.length y3) b3 s2 w2 HC2.out hop3 (g3.below HL2.out.fb.bel) hd3b (by omega))
 obtain⟨c2,hg2⟩:∃c2,c2=aM fs false d b3 (⟨s2,0,0⟩:aX):=⟨_,rfl⟩;have HG2:=aB hg2.symm;first|rw[←hg2] at HX2|rw[show _=c2 from hg2.symm] at HX2
 clear hg2;have m2_0:=aA HL2.out.blk (i:=0) rfl;have m2_1:=aA HL2.out.blk (i:=1) rfl;have m2_2:=aA HL2.out.blk (i:=2) rfl;have m2_3:=aA HL2.out.blk (i:=3) rfl;have hz2:=aD HL2.out.blk;go_wp2_with fail;refine HX2.out.mono ?_;rintro e w3 ⟨hb2,⟨s3,hc2,rfl,hck2⟩|⟨hk2,rfl⟩⟩
 rotate_left
 ·have HB:=aB (HL2.out.fb.trans hb2);have HK:=aB hk2;clear hb2 hk2;go_wp2_with fail;exact⟨rfl,cS.fault (c1:=c2) HB.out HK.out (by rw[HG0.out,HG1.out,HG2.out];exact Stk.refl c2)⟩
 have HL3:=aB (HL2.out.step hb2);have HC3:=aB hck2;subst hc2;clear hb2 hck2 HX2 m2_0 m2_1 m2_2 m2_3 hz2;go_wp2_with fail;go_end0;exact cS.done HL3.out.fb (by rw[HG0.out,HG1.out,HG2.out]) HC3.out
theorem P4(cb lo:Nat)(fs:List aC)(fv:Value)(d:Nat)(IH:jA cb lo fs fv d)(HN:lN cb lo fs fv d)(HBK:qQ cb lo fs fv d)(seen:List (List UInt8))(w:World)(h:CK cb lo fs fv w seen)(l:Nat)(v1:Value)(a1:aC)(h1:PN (Btw lo cb) w v1 a1)(hd1:eS d a1)(u2:Value)(b2:aC)(hop2:b2.op=[98,108,111,99,107])(g2:PKid (Btw lo cb) w u2 b2.kids)(hd2b:eS d b2)(hwt:seen.length+(bS d a1+(bS d b2+(0+0)))≤90000):
 Calls Tryz.prog 167 #[.pointer (some ⟨cb,0,none⟩),.iface 334 (.agg #[.int .i64 l,v1,u2,.slice none 0 0])] w (cS cb lo fs fv w ((aM fs false d b2 (aM fs false d a1 ⟨seen,0,0⟩)))):=by
 obtain⟨T1,cs1,rfl⟩:=h1.form;obtain⟨x2,y2,rfl⟩:=g2.slice;have q0:=qW;have q1:=tB;have q2:=KR;obtain⟨hl0,hk0⟩:=Loc.new h (.cells #[.int .i64 l,(.iface T1 (.agg cs1)),(.slice x2 b2.kids.length y2),.slice none 0 0] 334);have HL0:=aB hl0;have HC0:=aB hk0;clear h hl0 hk0;go_enter Tryz.func167,Tryz.ntmps167;have HX0:=aB (IH (.iface T1 (.agg cs1)) a1 seen (w.alloc (.cells #[.int .i64 l,(.iface T1 (.agg cs1)),(.slice x2 b2.kids.length y2),.slice none 0 0] 334)) HC0.out (h1.below HL0.out.fb.bel) hd1 (by omega))
 have HA0:=aB (fM fs false d a1 ⟨seen,0,0⟩);obtain⟨c0,hg0⟩:∃c0,c0=aM fs false d a1 (⟨seen,0,0⟩:aX):=⟨_,rfl⟩;have HG0:=aB hg0.symm;rw[←hg0] at HA0;first|rw[←hg0] at HX0|rw[show _=c0 from hg0.symm] at HX0
 clear hg0;go_wp2_with fail;refine HX0.out.mono ?_;rintro e w1 ⟨hb0,⟨s1,hc0,rfl,hck0⟩|⟨hk0,rfl⟩⟩
 rotate_left
 ·have HB:=aB (HL0.out.fb.trans hb0);have HK:=aB hk0;clear hb0 hk0;go_wp2_with fail;exact⟨rfl,cS.fault (c1:=c0) HB.out HK.out (by rw[HG0.out];exact((Stk.walk fs false d b2 c0)).trans (Stk.refl _))⟩
 have HL1:=aB (HL0.out.step hb0);have HC1:=aB hck0;subst hc0;have hn1:s1.length+(bS d b2+(0+0))≤90000:=kG HA0.out rfl (by omega)
 clear hb0 hck0 HX0;have HX1:=aB (HBK (.slice x2 b2.kids.length y2) b2 s1 w1 HC1.out hop2 (g2.below HL1.out.fb.bel) hd2b (by omega))
 have HA1:=aB (fM fs false d b2 ⟨s1,0,0⟩);obtain⟨c1,hg1⟩:∃c1,c1=aM fs false d b2 (⟨s1,0,0⟩:aX):=⟨_,rfl⟩;have HG1:=aB hg1.symm;rw[←hg1] at HA1;first|rw[←hg1] at HX1|rw[show _=c1 from hg1.symm] at HX1
 clear hg1;have m1_0:=aA HL1.out.blk (i:=0) rfl;have m1_1:=aA HL1.out.blk (i:=1) rfl;have m1_2:=aA HL1.out.blk (i:=2) rfl;have m1_3:=aA HL1.out.blk (i:=3) rfl;have hz1:=aD HL1.out.blk;go_wp2_with fail;refine HX1.out.mono ?_;rintro e w2 ⟨hb1,⟨s2,hc1,rfl,hck1⟩|⟨hk1,rfl⟩⟩
 rotate_left
 ·have HB:=aB (HL1.out.fb.trans hb1);have HK:=aB hk1;clear hb1 hk1;go_wp2_with fail;exact⟨rfl,cS.fault (c1:=c1) HB.out HK.out (by rw[HG0.out,HG1.out];exact(Stk.refl c1))⟩
 have HL2:=aB (HL1.out.step hb1);have HC2:=aB hck1;subst hc1;have hn2:s2.length+(0+0)≤90000:=kG HA1.out rfl (by omega)
 clear hb1 hck1 HX1 m1_0 m1_1 m1_2 m1_3 hz1;have HX2:=aB (VY d HN s2 w2 HC2.out (by omega))
 obtain⟨c2,hg2⟩:∃c2,c2=(⟨s2,0,0⟩:aX):=⟨_,rfl⟩;have HG2:=aB hg2.symm;first|rw[←hg2] at HX2|rw[show _=c2 from hg2.symm] at HX2
 clear hg2;have m2_0:=aA HL2.out.blk (i:=0) rfl;have m2_1:=aA HL2.out.blk (i:=1) rfl;have m2_2:=aA HL2.out.blk (i:=2) rfl;have m2_3:=aA HL2.out.blk (i:=3) rfl;have hz2:=aD HL2.out.blk;go_wp2_with fail;refine HX2.out.mono ?_;rintro e w3 ⟨hb2,⟨s3,hc2,rfl,hck2⟩|⟨hk2,rfl⟩⟩
 rotate_left
 ·have HB:=aB (HL2.out.fb.trans hb2);have HK:=aB hk2;clear hb2 hk2;go_wp2_with fail;exact⟨rfl,cS.fault (c1:=c2) HB.out HK.out (by rw[HG0.out,HG1.out,HG2.out];exact Stk.refl c2)⟩
 have HL3:=aB (HL2.out.step hb2);have HC3:=aB hck2;subst hc2;clear hb2 hck2 HX2 m2_0 m2_1 m2_2 m2_3 hz2;go_wp2_with fail;go_end0;exact cS.done HL3.out.fb (by rw[HG0.out,HG1.out,HG2.out]) HC3.out
theorem MC(cb lo:Nat)(fs:List aC)(fv:Value)(seen:List (List UInt8))(w:World)(h:CK cb lo fs fv w seen)(l:Nat)(x:List UInt8)(hwt:seen.length+(0+0)≤90000):
 Calls Tryz.prog 167 #[.pointer (some ⟨cb,0,none⟩),.iface 344 (.agg #[.int .i64 l,.string (bs x)])] w (cS cb lo fs fv w (yR ⟨seen,0,0⟩ l x)):=by
 have q0:=qT;have q1:=rX;have q2:=yW;have q3:=sU;have q4:=rW;have q5:=sV;have q6:=uB;have q7:=oT;obtain⟨hl0,hk0⟩:=Loc.new h (.cells #[.int .i64 l,.string (bs x)] 344);have HL0:=aB hl0;have HC0:=aB hk0;clear h hl0 hk0;go_enter Tryz.func167,Tryz.ntmps167;have HX0:=aB (YT cb lo fs fv (w.alloc (.cells #[.int .i64 l,.string (bs x)] 344)) seen HC0.out (by omega) l x)
 obtain⟨c0,hg0⟩:∃c0,c0=yR (⟨seen,0,0⟩:aX) l x:=⟨_,rfl⟩;have HG0:=aB hg0.symm;first|rw[←hg0] at HX0|rw[show _=c0 from hg0.symm] at HX0
 clear hg0;go_wp2_with fail;refine HX0.out.mono ?_;rintro e w1 ⟨hb0,⟨s1,hc0,rfl,hck0⟩|⟨hk0,rfl⟩⟩
 rotate_left
 ·have HB:=aB (HL0.out.fb.trans hb0);have HK:=aB hk0;clear hb0 hk0;go_wp2_with fail;exact⟨rfl,cS.fault (c1:=c0) HB.out HK.out (by rw[HG0.out];exact Stk.refl c0)⟩
 have HL1:=aB (HL0.out.step hb0);have HC1:=aB hck0;subst hc0;clear hb0 hck0 HX0;go_wp2_with fail;go_end0;exact cS.done HL1.out.fb (by rw[HG0.out]) HC1.out
theorem WF(cb lo:Nat)(fs:List aC)(fv:Value)(d:Nat)(IH:jA cb lo fs fv d)(HN:lN cb lo fs fv d)(seen:List (List UInt8))(w:World)(h:CK cb lo fs fv w seen)(l:Nat)(x:List UInt8)(u2:Value)(k2:List aC)(g2:PKid (Btw lo cb) w u2 k2)(hk2d:∀k∈k2,eS d k)(v1:Value)(a1:aC)(h1:PN (Btw lo cb) w v1 a1)(hd1:eS d a1)(hwt:seen.length+(0+((k2.map (bS d)).sum+(bS d a1+0)))≤90000):
 Calls Tryz.prog 167 #[.pointer (some ⟨cb,0,none⟩),.iface 332 (.agg #[.int .i64 l,.string (bs x),u2,v1])] w (cS cb lo fs fv w (aM fs false d a1 (foldL fs d k2 (yR ⟨seen,0,0⟩ l x)))):=by
 obtain⟨x2,y2,rfl⟩:=g2.slice;obtain⟨T1,cs1,rfl⟩:=h1.form;have q0:=tD;have q1:=uQ;obtain⟨hl0,hk0⟩:=Loc.new h (.cells #[.int .i64 l,.string (bs x),(.slice x2 k2.length y2),(.iface T1 (.agg cs1))] 332);have HL0:=aB hl0;have HC0:=aB hk0;clear h hl0 hk0;go_enter Tryz.func167,Tryz.ntmps167;have HX0:=aB (YT cb lo fs fv (w.alloc (.cells #[.int .i64 l,.string (bs x),(.slice x2 k2.length y2),(.iface T1 (.agg cs1))] 332)) seen HC0.out (by omega) l x)
 have HA0:=aB (UE ⟨seen,0,0⟩ l x);obtain⟨c0,hg0⟩:∃c0,c0=yR (⟨seen,0,0⟩:aX) l x:=⟨_,rfl⟩;have HG0:=aB hg0.symm;rw[←hg0] at HA0;first|rw[←hg0] at HX0|rw[show _=c0 from hg0.symm] at HX0
 clear hg0;go_wp2_with fail;refine HX0.out.mono ?_;rintro e w1 ⟨hb0,⟨s1,hc0,rfl,hck0⟩|⟨hk0,rfl⟩⟩
 rotate_left
 ·have HB:=aB (HL0.out.fb.trans hb0);have HK:=aB hk0;clear hb0 hk0;go_wp2_with fail;exact⟨rfl,cS.fault (c1:=c0) HB.out HK.out (by rw[HG0.out];exact((Stk.fold (fun s k=>Stk.walk fs false d k s) _ _)).trans (Stk.walk fs false d a1 _))⟩
 have HL1:=aB (HL0.out.step hb0);have HC1:=aB hck0;subst hc0;have hn1:s1.length+((k2.map (bS d)).sum+(bS d a1+0))≤90000:=kG HA0.out rfl (by omega)
 clear hb0 hck0 HX0;have HX1:=aB (HN (.slice x2 k2.length y2) k2 s1 w1 HC1.out (g2.below HL1.out.fb.bel) hk2d (by omega) (by have:=tN hk2d;omega))
 have HA1:=aB (FK fs d k2 ⟨s1,0,0⟩);obtain⟨c1,hg1⟩:∃c1,c1=foldL fs d k2 (⟨s1,0,0⟩:aX):=⟨_,rfl⟩;have HG1:=aB hg1.symm;rw[←hg1] at HA1;first|rw[←hg1] at HX1|rw[show _=c1 from hg1.symm] at HX1
 clear hg1;have m1_0:=aA HL1.out.blk (i:=0) rfl;have m1_1:=aA HL1.out.blk (i:=1) rfl;have m1_2:=aA HL1.out.blk (i:=2) rfl;have m1_3:=aA HL1.out.blk (i:=3) rfl;have hz1:=aD HL1.out.blk;go_wp2_with fail;refine HX1.out.mono ?_;rintro e w2 ⟨hb1,⟨s2,hc1,rfl,hck1⟩|⟨hk1,rfl⟩⟩
 rotate_left
 ·have HB:=aB (HL1.out.fb.trans hb1);have HK:=aB hk1;clear hb1 hk1;go_wp2_with fail;exact⟨rfl,cS.fault (c1:=c1) HB.out HK.out (by rw[HG0.out,HG1.out];exact(Stk.walk fs false d a1 c1))⟩
 have HL2:=aB (HL1.out.step hb1);have HC2:=aB hck1;subst hc1;have hn2:s2.length+(bS d a1+0)≤90000:=kG HA1.out rfl (by omega)
 clear hb1 hck1 HX1 m1_0 m1_1 m1_2 m1_3 hz1;have HX2:=aB (IH (.iface T1 (.agg cs1)) a1 s2 w2 HC2.out (h1.below HL2.out.fb.bel) hd1 (by omega))
 obtain⟨c2,hg2⟩:∃c2,c2=aM fs false d a1 (⟨s2,0,0⟩:aX):=⟨_,rfl⟩;have HG2:=aB hg2.symm;first|rw[←hg2] at HX2|rw[show _=c2 from hg2.symm] at HX2
 clear hg2;have m2_0:=aA HL2.out.blk (i:=0) rfl;have m2_1:=aA HL2.out.blk (i:=1) rfl;have m2_2:=aA HL2.out.blk (i:=2) rfl;have m2_3:=aA HL2.out.blk (i:=3) rfl;have hz2:=aD HL2.out.blk;go_wp2_with fail;refine HX2.out.mono ?_;rintro e w3 ⟨hb2,⟨s3,hc2,rfl,hck2⟩|⟨hk2,rfl⟩⟩
 rotate_left
 ·have HB:=aB (HL2.out.fb.trans hb2);have HK:=aB hk2;clear hb2 hk2;go_wp2_with fail;exact⟨rfl,cS.fault (c1:=c2) HB.out HK.out (by rw[HG0.out,HG1.out,HG2.out];exact Stk.refl c2)⟩
 have HL3:=aB (HL2.out.step hb2);have HC3:=aB hck2;subst hc2;clear hb2 hck2 HX2 m2_0 m2_1 m2_2 m2_3 hz2;go_wp2_with fail;go_end0;exact cS.done HL3.out.fb (by rw[HG0.out,HG1.out,HG2.out]) HC3.out
theorem Fr.keepS{pb b:Nat}{w w':World}{o:Obj}(hf:Fr pb w w')(h:w.heap[b]?=some o)(hn:b≠pb):w'.heap[b]?=some o:=by
 rw[hf.block b (aD h) hn];exact h
def E9(sb:Nat)(src:ByteArray)(n L:Nat)(w:World)(r:oC)(e:Ending)(w':World):Prop:=
 Fr sb w w'∧((r.ok=true∧e=.returned (nE ⟨r.sort,r.text,L⟩)∧SC sb src (n+r.size) L w')∨(r.ok=false∧e=cW 3 L))
theorem lI{sb b m L:Nat}{src:ByteArray}{w wc:World}(hf:Fr sb w wc)(hs:SC sb src m L wc)(hb:w.heap.size≤b)(hn:b≠sb)(v0 v1 v2 v3:Value):
 Fr sb w ((((wc.setCell ⟨b,0,none⟩ v0).setCell ⟨b,1,none⟩ v1).setCell ⟨b,2,none⟩ v2).setCell ⟨b,3,none⟩ v3)∧SC sb src m L ((((wc.setCell ⟨b,0,none⟩ v0).setCell ⟨b,1,none⟩ v1).setCell ⟨b,2,none⟩ v2).setCell ⟨b,3,none⟩ v3):=by
 refine⟨(((hf.setCell (Or.inr hb) _).setCell (Or.inr hb) _).setCell (Or.inr hb) _).setCell (Or.inr hb) _,?_⟩;unfold SC;rw[Below.heap_setCell _ _ _ _ (by show sb≠b;omega),Below.heap_setCell _ _ _ _ (by show sb≠b;omega),Below.heap_setCell _ _ _ _ (by show sb≠b;omega),Below.heap_setCell _ _ _ _ (by show sb≠b;omega)]
 exact hs
theorem qH(src:ByteArray)(n:Nat):(src.extract n src.size).size=src.size-n:=by simp
theorem UO(sb:Nat)(src:ByteArray)(n L:Nat)(w:World)(h:SC sb src n L w)(hs:src.size≤2000000000)(hn:n≤src.size):
 Calls Tryz.prog 251 #[.pointer (some ⟨sb,0,none⟩)] w (E9 sb src n L w (gB (src.data.toList.drop n) true)):=by
 obtain⟨sp,hsp⟩:∃sp,sp=bI (dY true) (src.data.toList.drop n):=⟨_,rfl⟩
 have hle:sp≤src.size-n:=by
  have:=jS (dY true) (src.data.toList.drop n);rw[hsp];simpa using this
 have hsb:=(SC.cells h).1;have hrb:w.heap.size≠sb:=by omega
 have HZ:Hid ((w.alloc (.cells #[.int .i64 0,.string ⟨#[]⟩,.int .i64 0,.int .i64 0] 206)).heap[w.heap.size]?=some (.cells #[.int .i64 0,.string ⟨#[]⟩,.int .i64 0,.int .i64 0] 206 (0,0))):=aR _ _ rfl _;have h1:SC sb src n L (w.alloc (.cells #[.int .i64 0,.string ⟨#[]⟩,.int .i64 0,.int .i64 0] 206)):=by unfold SC;rw[Below.heap_alloc _ _ _ hsb];exact h
 obtain⟨h0,c0,c1,c2,f1,f2⟩:=h1.cells;have HZD:Hid ((w.alloc (.cells #[.int .i64 0,.string ⟨#[]⟩,.int .i64 0,.int .i64 0] 206)).drew.heap[w.heap.size]?=some (.cells #[.int .i64 0,.string ⟨#[]⟩,.int .i64 0,.int .i64 0] 206 (0,0))):=HZ.out;have HSP:=aB (fun w=>tE (dY true) 297 (fun _ _=>rfl) VC (src.extract n src.size) w (by rw[qH];omega))
 rw[mC,←hsp] at HSP;have HTK:=aB (nA sb src n L sp (w.alloc (.cells #[.int .i64 0,.string ⟨#[]⟩,.int .i64 0,.int .i64 0] 206)).drew h1 hs (by omega))
 have HKW:=aB (MO ((src.data.toList.drop n).take sp));obtain⟨tx,htx⟩:∃tx,tx=(src.data.toList.drop n).take sp:=⟨_,rfl⟩;rw[←htx] at HTK HKW;have hlen:(bs tx).size=sp:=by rw[gX,htx,List.length_take];simp;omega
 have HW:Hid (gB (src.data.toList.drop n) true={ sort:=if iB.contains tx then 107 else 110,text:=tx,size:=sp,ok:=decide (sp≤16) }):=by
  show _=_
  unfold gB;rw[←hsp,←htx];rfl
 rw[HW.out];have H1:=aB h1;have HF0:Hid (Fr sb w (w.alloc (.cells #[.int .i64 0,.string ⟨#[]⟩,.int .i64 0,.int .i64 0] 206))):=(Fr.refl _ _).alloc _;clear h h1 hsp htx HW;obtain⟨kw,hkw⟩:∃kw,kw=iB.contains tx:=⟨_,rfl⟩;rw[←hkw] at HKW ⊢
 clear hkw;obtain⟨so,hso⟩:∃so,so=(if kw then 107 else 110):=⟨_,rfl⟩
 rw[show (if kw=true then 107 else 110)=so from hso.symm]
 have HSO:=aB hso;clear hso;obtain⟨rr,hrr⟩:∃rr:oC,rr={ sort:=so,text:=tx,size:=sp,ok:=decide (sp≤16) }:=⟨_,rfl⟩;rw[←hrr];have HRR:=aB hrr;clear hrr;go_enter Tryz.func251,Tryz.ntmps251;go_wp2_with fail;go_cut [3] (fun v wc=>v=.string (bs tx)∧SC sb src (n+sp) L wc∧Fr sb w wc∧wc.heap[w.heap.size]?=some (.cells #[.int .i64 0,.string ⟨#[]⟩,.int .i64 0,.int .i64 0] 206 (0,0)))
 case first=>
  go_region_law (first|(go_simp;go_at_call 248;refine(HSP.out _).mono ?_;rintro e w1 ⟨rfl,hw⟩;obtain rfl:=hw.symm)|(go_simp;go_at_call 296;refine HTK.out.mono ?_;rintro e w2 ⟨rfl,hs2,hf2⟩;have HS2:=aB hs2;have HF2:=aB (HF0.out.drew.trans hf2);have HZ2:=aB (hf2.keepS HZD.out hrb);clear hs2 hf2))
  all_goals
   go_wp2_with fail;go_meet
   case rel=>exact⟨rfl,HS2.out,HF2.out,HZ2.out⟩
 case rest=>
  obtain⟨rfl,hs2,hf2,hz2⟩:=hcut;clear c0 c1 c2 f1 f2 h0;obtain⟨h0,c0,c1,c2,f1,f2⟩:=hs2.cells;have HS2:=aB hs2;have HF2:=aB hf2;have HZ2:=aB hz2;have z0:=aA hz2 (i:=0) rfl;have z1:=aA hz2 (i:=1) rfl;have z2:=aA hz2 (i:=2) rfl;have z3:=aA hz2 (i:=3) rfl;have y0:=aE (i:=0) hz2;have y1:=aE (i:=1) hz2;have y2:=aE (i:=2) hz2;have y3:=aE (i:=3) hz2;have hzz:=aD hz2;clear hs2 hf2 hz2 HTK HSP HZ;by_cases h16:sp≤16
  ·cases kw
   all_goals
    have hso:=HSO.out;clear HSO;subst hso;have hrr:=HRR.out;clear HRR;subst hrr;go_wp2_with fail;refine(HKW.out _).mono ?_;rintro e w3 ⟨rfl,hw⟩;obtain rfl:=hw.symm;go_wp2_with fail
    first
     |(refine bodyPost_ret (v:=.agg #[.int .i64 1,.string (bs tx),.int .i64 0,.int .i64 L]) (by simp[results,Tryz.results251,go_sem,z0,z1,z2,z3]) rfl ?_
       have hfin:=lI HF2.out HS2.out (Nat.le_refl _) hrb (.int .i64 1) (.string (bs tx)) (.int .i64 0) (.int .i64 L);exact⟨hfin.1,Or.inl ⟨by first|rfl|exact decide_eq_true h16,rfl,hfin.2⟩⟩)
     |(refine bodyPost_ret (v:=.agg #[.int .i64 0,.string (bs tx),.int .i64 0,.int .i64 L]) (by simp[results,Tryz.results251,go_sem,z0,z1,z2,z3]) rfl ?_
       have hfin:=lI HF2.out HS2.out (Nat.le_refl _) hrb (.int .i64 0) (.string (bs tx)) (.int .i64 0) (.int .i64 L);exact⟨hfin.1,Or.inl ⟨by first|rfl|exact decide_eq_true h16,rfl,hfin.2⟩⟩)
  ·have hrr:=HRR.out;clear HRR;subst hrr;have HFL:=aB (qG sb src (n+sp) L wc HS2.out);go_wp2_with fail;refine HFL.out.mono ?_;rintro e w3 ⟨rfl,hw⟩;obtain rfl:=hw.symm;go_wp2_with fail;exact⟨rfl,HF2.out,Or.inr ⟨by first|rfl|exact decide_eq_false h16,rfl⟩⟩
end Go.Proofs.YtblbkfdhjfppkaaGreatDoor
