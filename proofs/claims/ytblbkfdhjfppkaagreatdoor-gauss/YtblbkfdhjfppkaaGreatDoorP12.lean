/- What a program prints: the walk. -/
import Derived.Test.YtblbkfdhjfppkaaGreatDoorP11
set_option maxRecDepth 100000
set_option maxHeartbeats 4000000
namespace Go.Proofs.YtblbkfdhjfppkaaGreatDoor
open Hs
open Go.RowKit
theorem IC(w:World)(src:ByteArray)(T:Nat)(hT:T≤500)(P:SV→World→Prop)(L:Nat→Nat→World→Prop)(M:Nat→World→Prop)
 (HS:Hid (Calls Tryz.prog 32 #[.string src,.slice none 0 0] w fun e w'=>∃sb,e=.returned (.tuple #[.pointer (some ⟨sb,0,none⟩),.int .i64 0,.int .i64 0])∧L 0 sb w'))
 (HL:Hid (∀t sb W,L t sb W→Calls Tryz.prog 28 #[.pointer (some ⟨sb,0,none⟩)] W fun e w'=>(t<T∧e=.returned (.bool true)∧L (t+1) sb w')∨(t=T∧e=.returned (.bool false)∧M sb w')))
 (HM:Hid (∀sb W,M sb W→Calls Tryz.prog 23 #[.pointer (some ⟨sb,0,none⟩)] W fun e w'=>∃m:SV,e=.returned m.val∧m.t=T∧m.q=1∧m.n1=0∧∀q,P m ((w'.alloc (.cells m.cells 63)).drewN q))):
 Calls Tryz.prog 35 #[.string src] w fun e w'=>∃m:SV,e=.returned (.tuple #[.slice m.x3 m.n3 m.c3,.int .i64 T,.bool true])∧P m w':=by
 go_enter Tryz.func35,Tryz.ntmps35;go_wp2_with fail;refine HS.out.mono ?_;rintro e w1 ⟨sb,rfl,h1⟩;have H1:=aB h1;clear h1 HS;go_wp2_with fail;go_loopg [8] (T+1) (fun gk s8 wr=>∃t:Nat,s8=.int .i64 t∧gk+t=T+1∧t≤T∧L t sb wr)
 case atStart=>exact⟨0,rfl,by omega,by omega,H1.out⟩
 case round=>
  obtain⟨t,rfl,hgk,htT,hl⟩:=hrel
  ·have HLL:=aB (HL.out _ _ _ hl);have h5:(t:Int)≤500:=by omega
   clear hl HL;go_wp2_with fail;refine HLL.out.mono ?_;rintro e w2 (⟨h2,rfl,h3⟩|⟨h2,rfl,h3⟩)
   ·have H3:=aB h3;clear h3 HLL HM;go_wp2_with fail;go_roundg (gk-1)
    case measure=>omega
    case rel=>exact⟨t+1,by simp,by omega,by omega,H3.out⟩
   ·have HMM:=aB (HM.out _ _ h3);unfold SV.val SV.cells at HMM;clear h3 HM HLL;go_wp2_with fail;refine HMM.out.mono ?_;rintro e w3 ⟨m,rfl,e1,e2,e3,hp⟩;have HP:=aB hp;clear hp HMM;subst h2;rw[e1,e2,e3] at HP;rw[e1,e2,e3];go_wp2_with fail;go_quiet (fail)
    go_wp2_with fail;go_ret3
    exact⟨m,rfl,HP.out _⟩
theorem jY(a b:List UInt8):bs a++bs b=bs (a++b):=by
 apply E6
 rw[iV,ByteArray.data_append];simp[bs]
theorem digitsF_len(f:Nat):∀n t,(Hs.digitsF f n t).length≤t.length+f:=by
 induction f with
 |zero=>intro n t;simp[Hs.digitsF]
 |succ f ih=>
  intro n t;rw[Hs.digitsF];split
  ·simp
  ·have:=ih (n/10) (UInt8.ofNat (48+n%10)::t);rw[List.length_cons] at this;omega
theorem JM(n:Int):(cA n).length≤21:=by
 unfold cA;have:=digitsF_len 20 n.natAbs [];rw[List.length_append];split<;>simp at this ⊢<;>omega
theorem sO(l:List aI)(h:∀x∈l,(cB x).length+2≤24*aJ x):(eZ (l.map cB)).length≤24*(l.map aJ).sum:=by
 induction l with
 |nil=>simp[eZ]
 |cons y r ih=>
  have h1:=h y (by simp)
  have h2:=ih fun x hx=>h x (by simp[hx])
  cases r with
  |nil=>simp[eZ];omega
  |cons z r=>
   simp only[List.map_cons,eZ,List.length_append,List.sum_cons,List.length_cons,List.length_nil] at h2 ⊢
   omega
theorem vQ:∀v:aI,(cB v).length+2≤24*aJ v:=by
 refine aI.ind fun v ih=>?_
 have hc:=sO v.l ih;have hd:=JM v.n;rw[jB,eN];split
 ·omega
 split
 ·split<;>simp<;>omega
 split
 ·simp;omega
 ·simp;omega
theorem VA(s:List UInt8):(⟨#[34]⟩:ByteArray)++bs s=bs (34::s):=jY [34] s
theorem VB(s:List UInt8):bs s++(⟨#[34]⟩:ByteArray)=bs (s++[34]):=jY s [34]
theorem OY(n:Int):kB n=wrap64 n:=by unfold kB wrap64;rfl
theorem Hs.oneL_neg{op:List UInt8}{a:aI}(h:op=[45,120])(h0:a.sort=0):fB op a=(bB (wrap64 (-a.n)),0):=by
 rw[←OY];unfold fB;rw[if_pos ⟨h,h0⟩]
theorem UB(n:Int)(h1: -9223372036854775808≤n)(h2:n≤9223372036854775807):kB n=n:=by unfold kB;omega
theorem ZD(x y:Int)(hx1: -9223372036854775808≤x)(hx2:x≤9223372036854775807): -9223372036854775808≤x.tmod y∧x.tmod y≤9223372036854775807:=by
 have h:(x.tmod y).natAbs=x.natAbs%y.natAbs:=Int.natAbs_tmod x y;have h2:x.natAbs%y.natAbs≤x.natAbs:=Nat.mod_le _ _;by_cases hn:0≤x
 ·have:=Int.tmod_nonneg y hn;omega
 ·have:x.tmod y≤0:=by
   have:=Int.tmod_nonneg y (show 0≤ -x by omega)
   rw[Int.neg_tmod] at this;omega
  omega
def Grow(F:Nat→Prop)(w w':World)(b:Nat):Prop:=F b∨(w.heap.size≤b∧b<w'.heap.size)
theorem sP:∀l m:List UInt8,Op.bytesLess l m=fV l m
 |[],[]=>rfl
 |[],_::_=>rfl
 |_::_,[]=>rfl
 |a::l,b::m=>by
  rw[Op.bytesLess,fV,sP l m];by_cases h1:a.toNat<b.toNat
  ·rw[if_pos h1,decide_eq_true (UInt8.lt_iff_toNat_lt.2 h1),Bool.true_or]
  ·rw[if_neg h1,decide_eq_false (fun h=>h1 (UInt8.lt_iff_toNat_lt.1 h)),Bool.false_or]
   by_cases h2:b.toNat<a.toNat
   ·rw[if_pos h2,beq_eq_false_iff_ne.2 (fun e=>by rw[e] at h2;omega),Bool.false_and]
   ·rw[if_neg h2,show a=b from UInt8.toNat_inj.1 (by omega),beq_self_eq_true,Bool.true_and]
theorem FW:∀l m:List UInt8,(fV l m || l==m)= !fV m l
 |[],[]=>rfl
 |[],_::_=>rfl
 |_::_,[]=>rfl
 |a::l,b::m=>by
  rw[fV,fV];by_cases h1:a.toNat<b.toNat
  ·rw[if_pos h1,if_neg (by omega),if_pos h1];rfl
  ·by_cases h2:b.toNat<a.toNat
   ·rw[if_neg h1,if_pos h2,if_pos h2];have:(a::l==b::m)=false:=beq_eq_false_iff_ne.2 (fun e=>by rw[List.cons.injEq] at e;rw[e.1] at h2;omega)
    rw[this];rfl
   ·rw[if_neg h1,if_neg h2,if_neg h2,if_neg h1,←FW l m,show a=b from UInt8.toNat_inj.1 (by omega)]
    simp
end Go.Proofs.YtblbkfdhjfppkaaGreatDoor
