/- What the condition of Sums' row on package-level variables gives the contracts: their tables. -/
import Derived.Test.YtblbkfdhjfppkaaGreatDoorPart19
import Derived.Test.YtblbkfdhjfppkaaGreatDoorPart10
import Derived.Test.YtblbkfdhjfppkaaGreatDoorPart07
set_option maxRecDepth 100000
namespace Go.Proofs.YtblbkfdhjfppkaaGreatDoor
open Hs
open Go.RowKit Go.Lib
theorem S6:Tryz.prog.globalNamed "internal/strconv.uint64pow10"=some 1:=by kernel_rfl
theorem R9:(Tryz.prog.globals[(1:Nat)]?).map (·.type)=some 370:=by kernel_rfl
theorem S7:(Rows.laid_internal_strconv_uint64pow10:DataW Unit)=Lib.tabData .u64 Lib.pow10Tab:=by kernel_rfl
def gR(w:World):Prop:=laidMet Tryz.prog Rows.gaussRow.laid w
theorem gR.big{w:World}(h:gR w):11≤w.heap.size:=by
 obtain⟨g,t,cs,fuel,p,hg,ht,hv,hd⟩:=Lib.laidMet.reads h (n:= "math/bits.deBruijn64tab") (d:=Rows.laid_math_bits_deBruijn64tab) (by simp[Rows.gaussRow])
 obtain⟨ty,fr,hb⟩:=oB P9 hv;obtain⟨g',t',cs',fuel',p',hg',ht',hv',hd'⟩:=Lib.laidMet.reads h (n:= "strconv.ErrRange") (d:=Rows.laid_strconv_ErrRange) (by simp[Rows.gaussRow])
 obtain⟨ty',fr',hb'⟩:=oB TQ hv';rcases Nat.lt_or_ge (8:Nat) w.heap.size with h1|h1
 ·rcases Nat.lt_or_ge (10:Nat) w.heap.size with h2|h2
  ·omega
  ·rw[Array.getElem?_eq_none h2] at hb';cases hb'
 ·rw[Array.getElem?_eq_none h1] at hb;cases hb
theorem gR.marks{w:World}(h:gR w):∃ty fr,w.heap[(6:Nat)]?=some (.cells (cI.map fun b=>Value.string (bs b)).toArray ty fr):=
 PL M0 I0 Tryz.underlying300 c_21 rfl (M9▸Lib.laidMet.reads h (n:= "hindsight/syntax.marks") (by simp[Rows.gaussRow]))
theorem gR.range{w:World}(h:gR w):∃te pe,w.cell? ⟨10,0,none⟩=some (.iface te pe):=by
 obtain⟨g,t,cs,fuel,p,hg,ht,hv,hd⟩:=Lib.laidMet.reads h (n:= "strconv.ErrRange") (d:=Rows.laid_strconv_ErrRange) (by simp[Rows.gaussRow])
 obtain rfl:=Option.some.inj (TQ.symm.trans hg);obtain rfl:=Option.some.inj (H9.symm.trans ht);obtain⟨f1,u,v,e,hn,h1⟩:=iface_of_trod Tryz.underlying414 hd;obtain⟨l⟩:=cs;obtain rfl:l=_:=e;exact⟨u,v,by simpa using World.var?_cell hg hv 0⟩
theorem gR.utf8{w:World}(h:gR w):Lib.Utf8Tabs 4 5 w:=
 utf8Tabs_of_readsT G8 G9 (N0▸Lib.laidMet.reads h (n:= "unicode/utf8.first") (by simp[Rows.gaussRow])) (E0▸Lib.laidMet.reads h (n:= "unicode/utf8.acceptRanges") (by simp[Rows.gaussRow]))
theorem gR.all{w:World}(h:gR w):kJ w:=by
 obtain⟨ty,fr,h1⟩:=h.marks;exact⟨⟨h.range,h.big⟩,⟨⟨ty,fr,h1⟩,h.big⟩,h.utf8⟩
theorem gR.pow{w:World}(h:gR w):kI w:=by
 obtain⟨g,t,cs,fuel,p,hg,ht,hv,hd⟩:=Lib.laidMet.reads h (n:= "internal/strconv.uint64pow10") (d:=Rows.laid_internal_strconv_uint64pow10) (by simp[Rows.gaussRow])
 obtain rfl:=Option.some.inj (S6.symm.trans hg);obtain rfl:=Option.some.inj (R9.symm.trans ht);rw[S7] at hd;have e:=Lib.cells_of_tab Tryz.underlying370 Tryz.underlying282 (by kernel_rfl) (by kernel_rfl) hd
 unfold kI Lib.TabIs;rw[hv,←e]
end Go.Proofs.YtblbkfdhjfppkaaGreatDoor
