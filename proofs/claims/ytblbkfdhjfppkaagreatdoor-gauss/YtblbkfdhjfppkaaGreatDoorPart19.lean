/- What the row's condition on package-level variables gives the contracts: their tables. -/
import Derived.Test.YtblbkfdhjfppkaaGreatDoorRows
import Derived.Test.YtblbkfdhjfppkaaGreatDoorPart00
import Derived.PinnedBridge
import Derived.Lib.LaidU8T
import Derived.OpenShut
import Derived.LaidMore
set_option maxRecDepth 100000
namespace Go.Proofs.YtblbkfdhjfppkaaGreatDoor
open Hs
open Go.RowKit Go.Lib
theorem DA{H:Type}{enc:TypeId × Value→H}{P:Program}{w:World}{base:Nat}{sp:Nat→Bool}{held:Bool}{fuel:Nat}{t e:TypeId}{n:Nat}{cs:List Value}{bss:List (List UInt8)}{p:List MemPlace}
 (ht:P.underlying t=some (.array n e)) (he:P.underlying e=some .string) (hce:P.cellsOf e=1) (hct:P.cellsOf t=n) (hl:bss.length=n)
 (h:DataW.trod enc P w base sp held fuel t cs=some (.agg (bss.map fun b=>.lit (.string b)),p)):cs=bss.map fun b=>Value.string (bs b):=by
 obtain⟨xs,m,rfl,hx,hlen,hxl,hel⟩:=DataW.trod_array ht h;rw[hct] at hlen;refine List.ext_getElem? fun i=>?_
 by_cases hi:i<n
 ·have h1:=hel i hi;rw[hce,Nat.mul_one,List.getElem?_eq_getElem (by omega)] at h1
  obtain⟨s,e1,e2,_⟩:=DataW.trod_string he h1;have e3:xs.map (·.1)=bss.map fun b=>(DataW.lit (.string b):DataW H):=(DataW.agg.inj (Prod.mk.inj hx).1).symm
  have e4:(xs.map (·.1))[i]?=(bss.map fun b=>(DataW.lit (.string b):DataW H))[i]?:=by rw[e3]
  rw[List.getElem?_map,List.getElem?_map,List.getElem?_eq_getElem (by omega:i<xs.length),List.getElem?_eq_getElem (by omega:i<bss.length),e2] at e4
  simp only[Option.map_some,Option.some.injEq,DataW.lit.injEq,Lit.string.injEq] at e4;rw[List.getElem?_map,List.getElem?_eq_getElem (by omega:i<bss.length)]
  have h0:((cs.drop i).take 1)[0]?=some (.string s):=by rw[e1];rfl
  have h2:cs[i]?=some (.string s):=by simpa using h0
  rw[h2];simp only[Option.map_some,Option.some.injEq,Value.string.injEq];rw[←e4];rfl
 ·rw[List.getElem?_eq_none (by omega),List.getElem?_eq_none (by simp;omega)]
theorem oB{P:Program}{w:World}{n:String}{g:Nat}{cs:Array Value}(hg:P.globalNamed n=some g)(h:w.var? P n=some cs):∃t fr,w.heap[g]?=some (.cells cs t fr):=by
 simp only[World.var?,hg,Option.bind_some] at h;split at h
 ·next cs' t fr hb=>cases h;exact⟨t,fr,hb⟩
 ·cases h
theorem PL{w:World}{nm:String}{g t n:Nat}{bss:List (List UInt8)}(hg:Tryz.prog.globalNamed nm=some g)(ht:(Tryz.prog.globals[g]?).map (·.type)=some t)(hu:Tryz.prog.underlying t=some (.array n 9))(hct:Tryz.prog.cellsOf t=n)(hl:bss.length=n)
 (h:VarReads Tryz.prog w nm (.agg (bss.map fun b=>.lit (.string b)))):∃ty fr,w.heap[g]?=some (.cells (bss.map fun b=>Value.string (bs b)).toArray ty fr):=by
 obtain⟨g0,t0,cs,fuel,p,hg0,ht0,hv,hd⟩:=h;obtain rfl:=Option.some.inj (hg.symm.trans hg0);obtain rfl:=Option.some.inj (ht.symm.trans ht0);obtain⟨ty,fr,hb⟩:=oB hg hv;have:=DA hu Tryz.underlying9 (by kernel_rfl) hct hl hd
 obtain⟨l⟩:=cs;have e:l=bss.map fun b=>Value.string (bs b):=this
 subst e;exact⟨ty,fr,hb⟩
theorem M0:Tryz.prog.globalNamed "hindsight/syntax.marks"=some 6:=by kernel_rfl
theorem TQ:Tryz.prog.globalNamed "strconv.ErrRange"=some 10:=by kernel_rfl
theorem P9:Tryz.prog.globalNamed "math/bits.deBruijn64tab"=some 8:=by kernel_rfl
theorem I0:(Tryz.prog.globals[(6:Nat)]?).map (·.type)=some 300:=by kernel_rfl
theorem H9:(Tryz.prog.globals[(10:Nat)]?).map (·.type)=some 414:=by kernel_rfl
theorem c_21:Tryz.prog.cellsOf 300=21:=by kernel_rfl
theorem M9:(Rows.laid_hindsight_syntax_marks:DataW Unit)=.agg (cI.map fun b=>.lit (.string b)):=rfl
theorem E0:(Rows.laid_unicode_utf8_acceptRanges:DataW Unit)=acceptData:=by kernel_rfl
theorem N0:Rows.laid_unicode_utf8_first=firstData:=Pinned.utf8First_eq
def O4:Shelf.Ren:=⟨fun x=>x,fun n=>if n=5 then 5 else if n=119 then 409 else if n=138 then 411 else 412,fun n=>if n=3 then 4 else 5⟩
theorem G8:U8Types Tryz.prog O4:=⟨Tryz.underlying5,Tryz.underlying409,Tryz.underlying411,Tryz.underlying412⟩
theorem G9:U8Extra Tryz.prog O4:=⟨by kernel_rfl,by kernel_rfl,by kernel_rfl,by kernel_rfl,by kernel_rfl,by kernel_rfl,by kernel_rfl⟩
end Go.Proofs.YtblbkfdhjfppkaaGreatDoor
