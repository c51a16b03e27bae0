/- A tape as it comes in. -/
import Derived.Test.YtddnpoiiimjpcaaGreatDoorB06
import Derived.Test.YtddnpoiiimjpcaaGreatDoorP13
set_option linter.defProp false
set_option maxRecDepth 100000
namespace Go.Proofs.YtddnpoiiimjpcaaGreatDoor
open Hs
open _root_.Go.Proofs.Tryz
open Go.RowKit
variable{w:aG}
def bt_:prog.cellsOf 3=1:=k_
section
variable {H:Type} {enc:TypeId × Value->H} {W:aG} {b_ fuel n c:Nat} {spare:Nat->Bool} {held:Bool} {y:Option Addr} {x:DataW H × List MemPlace} {ts:List TypeId} {ds:List (DataW H)} {j:Nat}
def J2(h:DataW.trod enc prog W b_ spare held fuel 22 [.slice y n c]=some x)(M:(DataW.weightsEach prog ts ds).all (·<=reachBytes)=true)(F:ts[j]?=some 22)(C:ds[j]?=some x.1):
 ∃b:List Int,b.length=n/\n<=17592186044416/\(∀z∈b, -9223372036854775808<=z/\z<=9223372036854775807)/\(0<n->∃p,y=some p/\p.block<W.heap.size/\∀j v,(b.map (Value.int .i64))[j]?=some v->W.cell? (p.add j)=some v):=by
 have J:=reachBytes_lt;rcases Deep.open_slice1 underlying22 bt_ h with ⟨e,P⟩|⟨a,O,H,m,k,V,D,Pl,e,s,Q,S,g,rfl,N⟩
 ·simp at e;obtain⟨rfl,rfl,rfl⟩:=e;exact⟨[],rfl,o_,(λo f=>by cases f),λh=>by omega⟩
 ·simp at e;obtain⟨rfl,rfl,rfl⟩:=e;have L:n<=m:=by rw[g];split<;>omega
  have d:∀i,i<n->∃q:Int,W.cell? (a.add i)=some (I_ q)/\(-9223372036854775808<=q/\q<=9223372036854775807):=by
   intro i A;obtain⟨u,E⟩:=N i o_
   obtain⟨K,t,_,w⟩:=DataW.trod_int underlying3 E;simp at t;rw[t] at u;refine⟨K,u,?_⟩;simp[Lit.wf] at w;exact w
  obtain⟨q,l⟩:=Deep.choose_lt d;refine⟨(List.range n).map q,s_,?_,λo f=>?_,λG=>⟨a,rfl,?_,λj v r=>?_⟩⟩
  ·have:=sized_slice M F C underlying22;have s:prog.bytesOf 3=8:=k_
   rw[s] at this;simp at this;omega
  ·simp only[hQ,List.mem_range] at f;obtain⟨i,A,rfl⟩:=f;exact(l i A).2
  ·rcases fq a.block W.heap.size with h|h
   ·exact h
   ·have I:=(l 0 G).1;simp[World.cell?,Addr.add,ij h] at I
  ·have B:j<n:=by
    have:=(gu.1 r).1;simpa using this
   simp[B] at r;rw[(l j B).1,<-r]
end
open Go.RowKit Go.Lib
def IF{H:Type}{enc:TypeId × Value->H}{P:Program}{b_:Nat}{r:Nat->Bool}{c:Bool}{fuel:Nat}{t e:TypeId}{n:Nat}{cs:List Value}{a:cN}{p:List MemPlace}
 (v:P.underlying t=some (.array n e)) (D:P.underlying e=some .string) (j:P.cellsOf e=1) (g:P.cellsOf t=n) (E:a.length=n)
 (h:DataW.trod enc P w b_ r c fuel t cs=some (.agg (a.map λb=>.lit (.string b)),p)):cs=a.map λb=>Value.string (bs b):=by
 obtain⟨k,m,rfl,A,d,q,f⟩:=DataW.trod_array v h;rw[g] at d;refine List.ext_getElem? λi=>?_
 by_cases z:i<n
 ·have o:=f i z;rw[j,jm,ff o_] at o
  obtain⟨s,B,y,_⟩:=DataW.trod_string D o;have C:k.map (·.1)=a.map λb=>(DataW.lit (.string b):DataW H):=(DataW.agg.inj (Prod.mk.inj A).1).symm
  have l:(k.map (·.1))[i]?=(a.map λb=>(DataW.lit (.string b):DataW H))[i]?:=by rw[C]
  rw[ji,ji,ff (by omega:i<k.length),ff (by omega:i<a.length),y] at l
  simp only[ir,Option.some.injEq,DataW.lit.injEq,Lit.string.injEq] at l;rw[ji,ff (by omega:i<a.length)]
  have x:((cs.drop i).take 1)[0]?=some (.string s):=by rw[B];rfl
  have u:cs[i]?=some (.string s):=by simpa using x
  rw[u];simp only[ir,Option.some.injEq,Value.string.injEq];rw[<-l];rfl
 ·rw[gi o_,gi t_]
def qK{P:Program}{n:String}{g:Nat}{cs:Array Value}(b:P.globalNamed n=some g)(h:w.var? P n=some cs):∃t a,w.heap[g]?=some (.cells cs t a):=by
 simp only[World.var?,b,Option.bind_some] at h;split at h
 ·next cs' t a hb=>cases h;exact⟨t,a,hb⟩
 ·cases h
def VO{k:String}{g t n:Nat}{a:cN}(m:prog.globalNamed k=some g)(q:(prog.globals[g]?).map (·.type)=some t)(v:prog.underlying t=some (.array n 9))(c:prog.cellsOf t=n)(u:a.length=n)
 (h:VarReads prog w k (.agg (a.map λb=>.lit (.string b)))):∃f d,w.heap[g]?=some (.cells (a.map λb=>Value.string (bs b)).toArray f d):=by
 obtain⟨y,z,s,fuel,p,i,j,x,o⟩:=h;obtain rfl:=Option.some.inj (m.symm.trans i);obtain rfl:=Option.some.inj (q.symm.trans j);obtain⟨f,d,r⟩:=qK m x;have:=IF v underlying9 k_ c u o
 obtain⟨l⟩:=s;have e:l=a.map λb=>Value.string (bs b):=this
 subst e;exact⟨f,d,r⟩
def bg_:prog.globalNamed "hindsight/syntax.marks"=some 6:=k_
def B3:prog.globalNamed "strconv.ErrRange"=some 8:=k_
def b1_:prog.globalNamed "math/bits.deBruijn64tab"=some 3:=k_
def av_:(prog.globals[(6:Nat)]?).map (·.type)=some 329:=k_
def au_:(prog.globals[(8:Nat)]?).map (·.type)=some 302:=k_
def c_21:prog.cellsOf 329=21:=k_
def bo_:(Rows.laid_hindsight_syntax_marks:DataW Unit)=.agg (cX.map λb=>.lit (.string b)):=rfl
def v7:(Rows.laid_unicode_utf8_acceptRanges:DataW Unit)=acceptData:=k_
def bp_:Rows.laid_unicode_utf8_first=firstData:=Pinned.utf8First_eq
def bK_:Shelf.Ren:=⟨λx=>x,λn=>if n=5 then 5 else if n=119 then 323 else if n=138 then 325 else 326,λn=>if n=3 then 4 else 5⟩
def ar_:U8Types prog bK_:=⟨underlying5,underlying323,underlying325,underlying326⟩
def as_:U8Extra prog bK_:=⟨k_,k_,k_,k_,k_,k_,k_⟩
def cl_:prog.globalNamed "internal/strconv.uint64pow10"=some 0:=k_
def ch_:(prog.globals[(0:Nat)]?).map (·.type)=some 243:=k_
def cm_:(Rows.laid_internal_strconv_uint64pow10:DataW Unit)=Lib.tabData .u64 Lib.pow10Tab:=k_
def iS(w:aG):Prop:=laidMet prog Rows.betweenRow.laid w
def iS.big(h:iS w):9<=w.heap.size:=by
 obtain⟨g,t,y,fuel,p,x,v,q,s⟩:=Lib.laidMet.reads h (n:= "math/bits.deBruijn64tab") (d:=Rows.laid_math_bits_deBruijn64tab) (by simp[Rows.betweenRow])
 obtain⟨B,A,f⟩:=qK b1_ q;obtain⟨z,u,m,c,C,k,l,b,r⟩:=Lib.laidMet.reads h (n:= "strconv.ErrRange") (d:=Rows.laid_strconv_ErrRange) (by simp[Rows.betweenRow])
 obtain⟨j,o,a⟩:=qK B3 b;rcases fq (3:Nat) w.heap.size with i|i
 ·rcases fq (8:Nat) w.heap.size with e|e
  ·omega
  ·rw[ij e] at a;cases a
 ·rw[ij i] at f;cases f
def iS.marks(h:iS w):∃a c,w.heap[(6:Nat)]?=some (.cells (cX.map λb=>Value.string (bs b)).toArray a c):=
 VO bg_ av_ underlying329 c_21 rfl (bo_▸Lib.laidMet.reads h (n:= "hindsight/syntax.marks") (by simp[Rows.betweenRow]))
def iS.range(h:iS w):∃j f,w.cell? (aI 8 0)=some (.iface j f):=by
 obtain⟨g,t,i,fuel,p,a,c,k,b⟩:=Lib.laidMet.reads h (n:= "strconv.ErrRange") (d:=Rows.laid_strconv_ErrRange) (by simp[Rows.betweenRow])
 obtain rfl:=Option.some.inj (B3.symm.trans a);obtain rfl:=Option.some.inj (au_.symm.trans c);obtain⟨m,u,v,e,q,o⟩:=iface_of_trod underlying302 b;obtain⟨l⟩:=i;obtain rfl:l=_:=e;exact⟨u,v,by simpa using World.var?_cell a k 0⟩
def iS.utf8(h:iS w):Lib.Utf8Tabs 4 5 w:=
 utf8Tabs_of_readsT ar_ as_ (bp_▸Lib.laidMet.reads h (n:= "unicode/utf8.first") (by simp[Rows.betweenRow])) (v7▸Lib.laidMet.reads h (n:= "unicode/utf8.acceptRanges") (by simp[Rows.betweenRow]))
def iS.all(h:iS w):gE w:=by
 obtain⟨b,c,a⟩:=h.marks;exact⟨⟨h.range,h.big⟩,⟨⟨b,c,a⟩,h.big⟩,h.utf8⟩
def iS.pow(h:iS w):kJ w:=by
 obtain⟨g,t,i,fuel,p,f,c,b,a⟩:=Lib.laidMet.reads h (n:= "internal/strconv.uint64pow10") (d:=Rows.laid_internal_strconv_uint64pow10) (by simp[Rows.betweenRow])
 obtain rfl:=Option.some.inj (cl_.symm.trans f);obtain rfl:=Option.some.inj (ch_.symm.trans c);rw[cm_] at a;have e:=Lib.cells_of_tab underlying243 underlying162 k_ k_ a
 unfold kJ Lib.TabIs;rw[b,<-e]
end Go.Proofs.YtddnpoiiimjpcaaGreatDoor
