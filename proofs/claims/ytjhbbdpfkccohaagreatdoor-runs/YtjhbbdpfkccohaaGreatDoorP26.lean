import Derived.Test.YtjhbbdpfkccohaaGreatDoorB03
import Derived.Test.YtjhbbdpfkccohaaGreatDoorP09
import Derived.Test.YtjhbbdpfkccohaaGreatDoorP13
set_option linter.all false
set_option maxRecDepth 100000
open Option renaming some->Ua
namespace Go.Proofs.YtjhbbdpfkccohaaGreatDoor
open Hs
open _root_.Go.Proofs.Tryz
open Go.RowKit
variable{K L:Nat}{J:aN}
def X8:prog.cellsOf 3=1:=k_
section
variable {H:Type} {enc:TypeId × Value->H} {W:aN} {b_ fuel n c:Nat} {spare:Nat->Bool} {held:Bool} {y:Option Addr} {x:DataW H × List MemPlace} {ts:List TypeId} {ds:List (DataW H)} {j:Nat}
def Hb(h:DataW.trod enc prog W b_ spare held fuel 22 [P_ y n c]=Ua x)(F:(DataW.weightsEach prog ts ds).all (·<=reachBytes)=true)(u:ts[j]?=Ua 22)(r:ds[j]?=Ua x.1):
 ∃b:List Int,b.length=n/\n<=17592186044416/\(∀z∈b, -9223372036854775808<=z/\z<=9223372036854775807)/\(0<n->∃e,y=Ua e/\e.block<H_ W/\∀j v,(b.map (Value.int .i64))[j]?=Ua v->W.cell? (e.add j)=Ua v):=by
 have B:=reachBytes_lt;rcases Deep.open_slice1 underlying22 X8 h with ⟨f,K⟩|⟨a,H,A,m,k,V,D,Pl,f,w,M,O,t,rfl,G⟩
 .obtain⟨rfl,rfl,rfl⟩:=f;simp
 obtain⟨rfl,rfl,rfl⟩:=f;have E:n<=m:=G_
 have d:∀i,i<n->∃q:Int,W.cell? (a.add i)=Ua (I_ q)/\(-9223372036854775808<=q/\q<=9223372036854775807):=by intro i N;obtain⟨l,s⟩:=G i aD;obtain⟨C,g,_,p⟩:=DataW.trod_int underlying3 s;simp at g;rw[g]at l;refine⟨C,l,?_⟩;simp[Lit.wf]at p;exact p
 obtain⟨q,J⟩:=Deep.choose_lt d;refine⟨(List.range n).map q,s_,?_,λo L=>?_,λI=>⟨a,rfl,?_,λj v P=>?_⟩⟩
 .have:=sized_slice F u r underlying22;have w:prog.bytesOf 3=8:=k_
  grind
 .grind
 .grind [World.cell?,Addr.add]
 grind
end
open Go.RowKit Go.Lib
def LK{H:Type}{l:TypeId × Value->H}{P:Program}{x:Nat->Bool}{d:Bool}{t e:TypeId}{n:Nat}{g:List Value}{a:cY}{p:List MemPlace}
 (z:P.underlying t=Ua (.array n e)) (G:P.underlying e=Ua .string) (o:P.cellsOf e=1) (k:P.cellsOf t=n) (I:a.length=n)
 (h:DataW.trod l P J K x d L t g=Ua (.agg (a.map λb=>.lit (.string b)),p)):g=a.map λb=>Value.string (bs b):=by
 obtain⟨q,m,rfl,D,f,v,j⟩:=DataW.trod_array z h;rw[k]at f;refine jl λi=>?_
 by_cases C:i<n
 .have u:=j i C;rw[o,Nat.mul_one,fe aD]at u;obtain⟨s,E,B,_⟩:=DataW.trod_string G u;have F:q.map (·.1)=a.map λb=>(DataW.lit (.string b):DataW H):=(DataW.agg.inj (gn D).1).symm
  have r:(q.map (·.1))[i]?=(a.map λb=>(DataW.lit (.string b):DataW H))[i]?:=by rw[F]
  rw[il,il,fe (by omega:i<q.length),fe (by omega:i<a.length),B]at r
  simp only[iu,ga,DataW.lit.injEq,Lit.string.injEq]at r;rw[il,fe (by omega:i<a.length)]
  have A:((g.drop i).take 1)[0]?=Ua (.string s):=by rw[E];rfl
  have y:g[i]?=Ua (.string s):=by simpa using A
  rw[y];simp only[iu,ga,Value.string.injEq];rw[<-r];rfl
 rw[ix aD,ix kj]
def uR{P:Program}{n:String}{b:Array Value}(c:P.globalNamed n=Ua K)(h:J.var? P n=Ua b):∃t a,J.heap[K]?=Ua (.cells b t a):=by
 simp only[World.var?,c,Option.bind_some]at h;split at h
 .next cs' t a hb=>cases h;exact⟨t,a,hb⟩
 cases h
def zR{k:String}{n:Nat}{a:cY}(m:prog.globalNamed k=Ua K)(q:(prog.globals[K]?).map (·.type)=Ua L)(v:prog.underlying L=Ua (.array n 9))(c:prog.cellsOf L=n)(u:a.length=n)
 (h:VarReads prog J k (.agg (a.map λb=>.lit (.string b)))):∃f d,J.heap[K]?=Ua (.cells (a.map λb=>Value.string (bs b)).toArray f d):=by
 obtain⟨y,z,s,fuel,p,i,j,x,o⟩:=h;obtain rfl:=ft (m.symm.trans i);obtain rfl:=ft (q.symm.trans j);obtain⟨f,d,r⟩:=uR m x;have:=LK v underlying9 k_ c u o
 obtain⟨l⟩:=s;have e:l=a.map λb=>Value.string (bs b):=this
 subst e;exact⟨f,d,r⟩
def BG{l:List Value}{b:TypeId}{c:Nat × Nat}(h:J.heap[K]?=Ua (.cells l.toArray b c)){v:aW}(a:l[L]?=Ua v):J.cell? (aL K L)=Ua v:=by simp[World.cell?,h,a]
def Sq:prog.globalNamed "hindsight/hindsightref.others"=Ua 0:=k_
def N5:prog.globalNamed "hindsight/hindsightref.keywords"=Ua 4:=k_
def Sc:prog.globalNamed "hindsight/syntax.marks"=Ua 3:=k_
def W7:prog.globalNamed "strconv.ErrRange"=Ua 8:=k_
def Hi:prog.globalNamed "math/bits.deBruijn64tab"=Ua 10:=k_
def Rv:(prog.globals[(0:Nat)]?).map (·.type)=Ua 314:=k_
def A9:(prog.globals[(4:Nat)]?).map (·.type)=Ua 376:=k_
def Jm:(prog.globals[(3:Nat)]?).map (·.type)=Ua 314:=k_
def St:(prog.globals[(8:Nat)]?).map (·.type)=Ua 360:=k_
def BT:prog.cellsOf 314=21:=k_
def Ir:prog.cellsOf 376=9:=k_
def P8:(Rows.laid_hindsight_hindsightref_keywords:DataW Unit)=.agg (fC.map λb=>.lit (.string b)):=rfl
def Na:(Rows.laid_hindsight_hindsightref_others:DataW Unit)=.agg (eK.map λb=>.lit (.string b)):=rfl
def Hg:(Rows.laid_hindsight_syntax_marks:DataW Unit)=.agg (eK.map λb=>.lit (.string b)):=rfl
def Ki:(Rows.laid_unicode_utf8_acceptRanges:DataW Unit)=acceptData:=k_
def Ie:Rows.laid_unicode_utf8_first=firstData:=Pinned.utf8First_eq
def Eo:Shelf.Ren:=⟨λx=>x,λn=>if n=5 then 5 else if n=119 then 355 else if n=138 then 357 else 358,λn=>if n=3 then 1 else 2⟩
def Il:U8Types prog Eo:=⟨underlying5,underlying355,underlying357,underlying358⟩
def GV:U8Extra prog Eo:=⟨k_,k_,k_,k_,k_,k_,k_⟩
def so(w:aN):Prop:=laidMet prog Rows.runsRow.laid w
def so.wv(h:so J):11<=H_ J:=by
 obtain⟨g,t,y,fuel,p,x,v,q,s⟩:=Lib.laidMet.reads h (n:= "math/bits.deBruijn64tab") (d:=Rows.laid_math_bits_deBruijn64tab) mf
 obtain⟨B,A,f⟩:=uR Hi q;obtain⟨z,u,m,c,C,k,l,b,r⟩:=Lib.laidMet.reads h (n:= "strconv.ErrRange") (d:=Rows.laid_strconv_ErrRange) mf
 obtain⟨j,o,a⟩:=uR W7 b;rcases gz (10:Nat) (H_ J)with i|i
 .rcases gz (8:Nat) (H_ J)with e|e
  .exact aD
  rw[Array.getElem?_eq_none e]at a;cases a
 rw[Array.getElem?_eq_none i]at f;cases f
def so.others(h:so J):∃a c,J.heap[(0:Nat)]?=Ua (.cells (eK.map λb=>Value.string (bs b)).toArray a c):=
 zR Sq Rv underlying314 BT rfl (Na▸Lib.laidMet.reads h (n:= "hindsight/hindsightref.others") mf)
def so.keywords(h:so J):∃a c,J.heap[(4:Nat)]?=Ua (.cells (fC.map λb=>Value.string (bs b)).toArray a c):=
 zR N5 A9 underlying376 Ir rfl (P8▸Lib.laidMet.reads h (n:= "hindsight/hindsightref.keywords") mf)
def so.marks(h:so J):∃a c,J.heap[(3:Nat)]?=Ua (.cells (eK.map λb=>Value.string (bs b)).toArray a c):=
 zR Sc Jm underlying314 BT rfl (Hg▸Lib.laidMet.reads h (n:= "hindsight/syntax.marks") mf)
def so.range(h:so J):∃j f,dP J 8 0 (dH j f):=by
 obtain⟨g,t,i,fuel,p,a,c,k,b⟩:=Lib.laidMet.reads h (n:= "strconv.ErrRange") (d:=Rows.laid_strconv_ErrRange) mf
 obtain rfl:=ft (W7.symm.trans a);obtain rfl:=ft (St.symm.trans c);obtain⟨m,u,v,e,q,o⟩:=iface_of_trod underlying360 b;obtain⟨l⟩:=i;obtain rfl:l=_:=e;exact⟨u,v,by simpa using World.var?_cell a k 0⟩
def so.utf8(h:so J):Lib.Utf8Tabs 1 2 J:=
 utf8Tabs_of_readsT Il GV (Ie▸Lib.laidMet.reads h (n:= "unicode/utf8.first") mf) (Ki▸Lib.laidMet.reads h (n:= "unicode/utf8.acceptRanges") mf)
def so.ref(h:so J):fN J:=by obtain⟨f,g,c⟩:=h.keywords;obtain⟨e,d,b⟩:=h.others;exact⟨λi a=>BG c (by rw[il,fe (by simpa [fC]using a)];rfl),λi a=>BG b (by rw[il,fe (by simpa [eK]using a)];rfl),h.wv⟩
def R4:prog.globalNamed "internal/strconv.uint64pow10"=Ua 6:=k_
def Nq:(prog.globals[(6:Nat)]?).map (·.type)=Ua 442:=k_
def Nt:(Rows.laid_internal_strconv_uint64pow10:DataW Unit)=Lib.tabData .u64 Lib.pow10Tab:=k_
def so.all(h:so J):qH J:=by obtain⟨b,c,a⟩:=h.marks;exact⟨⟨h.range,h.wv⟩,⟨⟨b,c,a⟩,h.wv⟩,h.utf8⟩
def so.pow(h:so J):pA J:=by
 obtain⟨g,t,i,fuel,p,f,c,b,a⟩:=Lib.laidMet.reads h (n:= "internal/strconv.uint64pow10") (d:=Rows.laid_internal_strconv_uint64pow10) mf
 obtain rfl:=ft (R4.symm.trans f);obtain rfl:=ft (Nq.symm.trans c);rw[Nt]at a;have e:=Lib.cells_of_tab underlying442 underlying390 k_ k_ a
 unfold pA Lib.TabIs;rw[b,<-e]
