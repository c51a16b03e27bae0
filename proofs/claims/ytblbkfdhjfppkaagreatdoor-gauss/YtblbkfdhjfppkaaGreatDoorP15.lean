/- Contracts of the program: what is done with a frame's operands. -/
import Derived.Test.YtblbkfdhjfppkaaGreatDoorP13
set_option maxRecDepth 100000
set_option maxHeartbeats 4000000
namespace Go.Proofs.YtblbkfdhjfppkaaGreatDoor
open Hs
open Go.RowKit
structure Chg(gf:Nat)(row:Option Nat)(w w':World):Prop where
 os:w'.os=w.os
 tape:w'.tape=w.tape
 output:w'.output=w.output
 size:w.heap.size≤w'.heap.size
 block:∀k,k<w.heap.size→k≠gf→some k≠row→w'.heap[k]?=w.heap[k]?
theorem AT(w:World)(u:Value):∀j v,([u]:List Value)[j]?=some v→(w.alloc (.cells #[u] 256)).cell? ((⟨w.heap.size,0,none⟩:Addr).add j)=some v:=by
 intro j v hj;match j,hj with
 |0,hj=>simp at hj;subst hj;simp[Addr.add,go_sem]
 |j+1,hj=>simp at hj
theorem uY(t:TypeId)(z:Value):∀u∈([.iface t z]:List Value),u.oneCell'=true:=by
 intro u hu;simp at hu;rw[hu];rfl
theorem vC(base gf o n:Nat)(cur:Array Value)(ov:Value)(xs:List Value)(t:TypeId)(z:Value)(w:World)(hb:w.heap[gf]?=some (.cells cur 195 (0,0)))(ho:cur[o+5]?=some ov)(hown:w.ownsRow base 256 1 ov n xs)(hne:ov.ownBlock≠some gf)(hbase:base≤w.heap.size)(hn:n≤1000000):
 Calls Tryz.prog 371 #[.pointer (some ⟨gf,o,none⟩),.iface t z] w fun e w'=>e=.returned (.tuple #[])∧∃ov',w'.heap[gf]?=some (.cells (cur.setIfInBounds (o+5) ov') 195 (0,0))∧w'.ownsRow base 256 1 ov' (n+1) (xs++[.iface t z])∧(∀k,ov'.ownBlock=some k→ov.ownBlock=some k∨w.heap.size≤k)∧Chg gf ov.ownBlock w w':=by
 obtain⟨i0,hi,hz0,hz1,hz2⟩:=info_parts mA;obtain⟨x,c,rfl⟩:=cP hown;have hgl:=aD hb;have c5:=aA hb ho;have HO:=aB hown;have HB:=aB hb;have HNE:=aB hne;clear hown hb hne;go_enter Tryz.func371,Tryz.ntmps371;go_wp2_with (at_builtin;refine wpList_append_lies _ (by rfl) _ _ 193 (by rfl) base 256 i0 _ 1 16 Tryz.underlying193 hi hz0 hz1 hz2 rfl (by decide) (.slice x n c) n xs (by rfl) (HO.out.alloc _) ⟨w.heap.size,0,none⟩ 1 1 [.iface t z] (by rfl) (by rfl) (AT w _) (uY t z) (by decide) (by unfold maxLen;omega) (by omega) (by simp;omega) (w.heap.size+1) (by simp) ?_)
 intro g4 cap4 w4 hown4 hgrow4 hat4 hg4
 have hblk4:w4.heap[gf]?=some (.cells cur 195 (0,0)):=by
  rw[hgrow4.block gf (by simp;omega) (fun e=>HNE.out e.symm),Below.heap_alloc _ _ _ hgl];exact HB.out
 have c5':=aA hblk4 ho;have f5':=aE hblk4 (i:=o+5);have hgl4:=aD hblk4
 have hgg:g4≠gf:=by
  rcases hat4 with h|h
  ·exact fun e=>HNE.out (by rw[←e];exact h)
  ·omega
 have HOWN:=aB hown4;have HG:=aB hgrow4;have HAT:=aB hat4;have HBL:=aB hblk4;clear hown4 hgrow4 hat4 hblk4;go_wp2_with fail;go_end0;refine⟨rfl,.slice (some ⟨g4,0,none⟩) (n+1) cap4,aQ HBL.out,?_,?_,?_⟩
 ·exact aY HOWN.out fun k hk=>Below.heap_setCell _ _ _ _ (by cases hk;exact hgg)
 ·intro k hk;cases hk;rcases HAT.out with h|h
  ·exact Or.inl h
  ·exact Or.inr (by show w.heap.size≤g4;omega)
 ·refine⟨HG.out.os.trans rfl,HG.out.tape.trans rfl,HG.out.output.trans rfl,Nat.le_trans (by simp) (Nat.le_trans HG.out.size (by simp)),fun k hk h1 h2=>?_⟩
  rw[Below.heap_setCell _ _ _ _ h1,HG.out.block k (by simp;omega) h2,Below.heap_alloc _ _ _ hk]
theorem NC(base gf o n:Nat)(cur:Array Value)(ov:Value)(xs:List Value)(u:Value)(w:World)(hb:w.heap[gf]?=some (.cells cur 195 (0,0)))(ho:cur[o+5]?=some ov)(hown:w.ownsRow base 256 1 ov (n+1) (xs++[u]))(hx:xs.length=n)(hu:∃t z,u=.iface t z)(hn:n≤1000000):
 Calls Tryz.prog 171 #[.pointer (some ⟨gf,o,none⟩)] w fun e w'=>e=.returned u∧∃ov',w'=w.setCell ⟨gf,o+5,none⟩ ov'∧w.ownsRow base 256 1 ov' n xs∧ov'.ownBlock=ov.ownBlock:=by
 obtain⟨t,z,rfl⟩:=hu;rcases hown.2 with ⟨r1,r2⟩|⟨g,c,row,rfl,hg1,hrow,hcap,hcm,hcs,htk⟩
 ·omega
 have hgl:=aD hb;have c5:=aA hb ho;have f5:=aE hb (i:=o+5);have hrl:=aD hrow
 have hlast:row[n]?=some (.iface t z):=by
  have:(xs++[Value.iface t z])[n]?=some (.iface t z):=by rw[←hx];simp
  rw[←htk,List.getElem?_take,if_pos (by omega)] at this
  simpa using this
 have cl:=aA hrow hlast
 have HOWN:Hid (w.ownsRow base 256 1 (.slice (some ⟨g,0,none⟩) n c) n xs):=by
  refine⟨by rw[hx];omega,Or.inr ⟨g,c,row,rfl,hg1,hrow,by omega,hcm,hcs,?_⟩⟩
  have:=congrArg (List.take n) htk;rw[List.take_take] at this;rw[show min n ((n+1)*1)=n by omega] at this
  rw[Nat.mul_one,this,←hx];simp
 have e1:(0:Int)≤n:=by omega
 have e2:(n:Int)<(n:Int)+1:=by omega
 have e3:(n:Int)≤c:=by omega
 clear hown hb ho hrow htk hlast;go_enter Tryz.func171,Tryz.ntmps171;go_wp2_with fail;go_ret;exact⟨rfl,_,rfl,HOWN.out,rfl⟩
theorem GF(sb gf n cap:Nat)(w:World)(hc:w.cell? ⟨sb,1,none⟩=some (.slice (some ⟨gf,0,none⟩) (n+1) cap))(hn:n≤1000):
 Calls Tryz.prog 158 #[.pointer (some ⟨sb,0,none⟩)] w fun e w'=>e=.returned (.pointer (some ⟨gf,n*6,none⟩))∧∃q,w'=w.drewN q:=by
 have e1:(0:Int)≤(n:Int):=by omega
 have e2:(n:Int)<(n:Int)+1:=by omega
 go_enter Tryz.func158,Tryz.ntmps158;go_wp2_with fail;go_quiet (fail)
 go_wp2_with fail;go_ret;exact⟨rfl,_,rfl⟩
theorem XH(gf o fb gc n cap k:Nat)(cur:Array Value)(nm u:Value)(w:World)(hb:w.heap[gf]?=some (.cells cur 195 (0,0)))(h0:cur[o]?=some (.pointer (some ⟨fb,0,none⟩)))(h1:cur[o+1]?=some (.int .i64 k))
 (hf:w.heap[fb]?=some (.cells #[nm,.slice (some ⟨gc,0,none⟩) n cap] 250 (0,0))) (hu:w.cell? ⟨gc,k,none⟩=some u) (hi:∃t z,u=.iface t z) (hk:k<n) (hn:n≤1000000):
 Calls Tryz.prog 235 #[.pointer (some ⟨gf,o,none⟩)] w fun e w'=>e=.returned u∧∃q,w'=(w.drewN q).setCell ⟨gf,o+1,none⟩ (.int .i64 ((k+1:Nat):Int)):=by
 obtain⟨t,z,rfl⟩:=hi;have hgl:=aD hb;have hfl:=aD hf;have c0:=aA hb h0;have c1:=aA hb h1;have f1:=aE hb (i:=o+1);have d1:=aA hf (i:=1) rfl;have e1:(0:Int)≤(k:Int):=by omega
 have e2:(k:Int)<(n:Int):=by omega
 clear hb hf h0 h1;go_enter Tryz.func235,Tryz.ntmps235;go_wp2_with fail;go_quiet (fail)
 go_wp2_with fail;go_ret;exact⟨rfl,_,by congr 2⟩
theorem tO(base gf o n k:Nat)(cur:Array Value)(ov:Value)(xs ys:List Value)(w:World)(hb:w.heap[gf]?=some (.cells cur 195 (0,0)))(ho:cur[o+5]?=some ov)(hown:w.ownsRow base 256 1 ov (n+k) (xs++ys))(hx:xs.length=n)(hy:ys.length=k)(h1:∀u∈ys,u.oneCell'=true)(hn:n+k≤1000000):
 Calls Tryz.prog 377 #[.pointer (some ⟨gf,o,none⟩),.int .i64 k] w fun e w'=>∃v' ov' w1,e=.returned v'∧Below w.heap.size w w1∧w1.ownsRow w.heap.size 256 1 v' k ys∧w'=w1.setCell ⟨gf,o+5,none⟩ ov'∧w.ownsRow base 256 1 ov' n xs∧ov'.ownBlock=ov.ownBlock:=by
 have hgl:=aD hb;have c5:=aA hb ho;have f5:=aE hb (i:=o+5);have e1:(0:Int)≤(n:Int):=by omega
 have e2:(n:Int)≤(n:Int)+(k:Int):=by omega
 rcases hown.2 with ⟨rfl,r2⟩|⟨g,c,row,rfl,hg1,hrow,hcap,hcm,hcs,htk⟩
 ·obtain⟨rfl,rfl⟩:n=0∧k=0:=by omega
  obtain rfl:=List.eq_nil_of_length_eq_zero hx;obtain rfl:=List.eq_nil_of_length_eq_zero hy;have HC:=aB (rG w);clear hown hb ho;go_enter Tryz.func377,Tryz.ntmps377;go_wp2_with fail;refine HC.out.mono ?_;rintro e w1 ⟨rfl,rfl⟩;go_wp2_with fail;go_ret;exact⟨_,_,_,rfl,Below.refl _ _,World.ownsRow_nil _ _ _ _,rfl,World.ownsRow_nil _ _ _ _,rfl⟩
 ·have e3:(n:Int)≤(c:Int):=by omega
  have e4:(n:Int)+(k:Int)≤(c:Int):=by omega
  have e5:((n+k:Nat):Int)-(k:Int)=(n:Int):=by omega
  have HC:Hid (∀off cc,off=n∨k=0→Calls Tryz.prog 282 #[.slice (some ⟨g,off,none⟩) k cc] w fun e w'=>∃x' c',e=.returned (.slice x' k c')∧w'.ownsRow w.heap.size 256 1 (.slice x' k c') k ys∧Below w.heap.size w w'):=fun off cc hoff=>by
   refine(rH g off k cc ys w (by omega) (by omega) (fun j u hj=>?_) h1).mono ?_
   ·have hjl:j<ys.length:=(List.getElem?_eq_some_iff.1 hj).1;rcases hoff with rfl|h0
    ·refine aA hrow ?_;have hh:(xs++ys)[off+j]?=some u:=by rw[List.getElem?_append_right (by omega),hx,Nat.add_sub_cancel_left];exact hj
     rw[←htk,List.getElem?_take,if_pos (by omega)] at hh
     simpa using hh
    ·omega
   ·rintro e w1 ⟨v',rfl,ho',hb'⟩;obtain⟨x',c',rfl⟩:=cP ho';exact⟨x',c',rfl,ho',hb'⟩
  have HOWN:Hid (∀cc,cc=c→w.ownsRow base 256 1 (.slice (some ⟨g,0,none⟩) n cc) n xs):=by
   rintro cc rfl;refine⟨by rw[hx];omega,Or.inr ⟨g,cc,row,rfl,hg1,hrow,by omega,hcm,hcs,?_⟩⟩
   have:=congrArg (List.take n) htk;rw[List.take_take] at this;rw[show min n ((n+k)*1)=n by omega] at this
   rw[Nat.mul_one,this,←hx];simp
  have HB:Hid (∀w1,Below w.heap.size w w1→w1.heap[gf]?=some (.cells cur 195 (0,0))):=fun w1 h=>by rw[h.block gf hgl];exact hb
  clear hown hb hrow htk;go_enter Tryz.func377,Tryz.ntmps377;go_wp2_with fail
  all_goals
   refine(HC.out _ _ (by omega)).mono ?_
   rintro e w1 ⟨x',c',rfl,ho',hb'⟩;have hblk:=HB.out w1 hb';have hgl1:=aD hblk;have c5':=aA hblk ho;have f5':=aE hblk (i:=o+5);have HO:=aB ho';have HBB:=aB hb';clear ho' hb' hblk;go_wp2_with fail;go_ret;exact⟨_,_,w1,rfl,HBB.out,HO.out,rfl,HOWN.out _ (by first|rfl|omega),rfl⟩
def eO(F:Nat→Prop)(w:World):Value→List (List UInt8)→Prop
 |v,[]=>v=.pointer none
 |v,x::l=>∃b o,v=.pointer (some ⟨b,0,none⟩)∧F b∧w.heap[b]?=some (.cells #[.string (bs x),.int .i64 l.length,o] 253 (0,0))∧eO F w o l
theorem eO.keep{F G:Nat→Prop}{w w':World}(hk:∀b,F b→w'.heap[b]?=w.heap[b]?)(hF:∀b,F b→G b):∀{l:List (List UInt8)} {v:Value},eO F w v l→eO G w' v l
 |[],_,h=>h
 |_::_,_,⟨b,o,h1,h2,h3,h4⟩=>⟨b,o,h1,hF b h2,by rw[hk b h2];exact h3,eO.keep hk hF h4⟩
theorem eO.form{F:Nat→Prop}{w:World}{l:List (List UInt8)}{v:Value}(h:eO F w v l):∃p,v=.pointer p:=by
 cases l with
 |nil=>exact⟨none,h⟩
 |cons x l=>obtain⟨b,o,h1,_⟩:=h;exact⟨_,h1⟩
def kL(fp:Nat→Value)(F:Nat→Prop)(w:World)(v:Value):aH→Prop
 |.begin l s=>∃sp,v=.iface 365 (.agg #[.int .i64 l,sp])∧eO F w sp s
 |.push a=>∃u,v=.iface 361 (.agg #[u])∧PV F w u a∧aJ a≤200
 |.load k=>v=.iface 402 (.agg #[.int .i64 k])
 |.declare k=>v=.iface 443 (.agg #[.int .i64 k])
 |.assign k n=>v=.iface 445 (.agg #[.int .i64 k,.int .i64 n])
 |.jump t=>v=.iface 462 (.agg #[.int .i64 t])
 |.skip t=>v=.iface 461 (.agg #[.int .i64 t])
 |.shortcut b t=>v=.iface 438 (.agg #[.bool b,.int .i64 t])
 |.truth=>v=.iface 436 (.agg #[])
 |.unary op=>v=.iface 407 (.agg #[.string (bs op)])
 |.binary op=>v=.iface 435 (.agg #[.string (bs op)])
 |.index=>v=.iface 405 (.agg #[])
 |.list n=>v=.iface 404 (.agg #[.int .i64 n])
 |.length=>v=.iface 439 (.agg #[])
 |.read=>v=.iface 440 (.agg #[])
 |.call k n=>v=.iface 442 (.agg #[fp k,.int .i64 n])
 |.give=>v=.iface 363 (.agg #[])
 |.drop=>v=.iface 449 (.agg #[])
 |.print=>v=.iface 448 (.agg #[])
theorem kL.keep{fp:Nat→Value}{F G:Nat→Prop}{w w':World}{v:Value}{i:aH}(h:kL fp F w v i)(hk:∀b,F b→w'.heap[b]?=w.heap[b]?)(hF:∀b,F b→G b):kL fp G w' v i:=by
 cases i<;>first
  |exact h
  |(obtain⟨sp,h1,h2⟩:=h;exact⟨sp,h1,eO.keep hk hF h2⟩)
  |(obtain⟨u,h1,h2,h3⟩:=h;exact⟨u,h1,(h2.keep hk).mono hF,h3⟩)
theorem kL.form{fp:Nat→Value}{F:Nat→Prop}{w:World}{v:Value}{i:aH}(h:kL fp F w v i):∃t z,v=.iface t z:=by
 cases i<;>first
  |exact⟨_,_,h⟩
  |(obtain⟨sp,h1,h2⟩:=h;exact⟨_,_,h1⟩)
def YN(fp:Nat→Value)(F:Nat→Prop)(w:World)(v:Value)(f:eJ):Prop:=
 ∃fb gc cap cur,v=.pointer (some ⟨fb,0,none⟩)∧F fb∧w.heap[fb]?=some (.cells #[.string (bs f.name),.slice (some ⟨gc,0,none⟩) f.code.length cap] 250 (0,0))∧F gc∧w.heap[gc]?=some (.cells cur 355 (0,0))∧
  ∀i (h:i<f.code.length),∃u,cur[i]?=some u∧kL fp F w u f.code[i]
theorem YN.keep{fp:Nat→Value}{F G:Nat→Prop}{w w':World}{v:Value}{f:eJ}(h:YN fp F w v f)(hk:∀b,F b→w'.heap[b]?=w.heap[b]?)(hF:∀b,F b→G b):YN fp G w' v f:=by
 obtain⟨fb,gc,cap,cur,h1,h2,h3,h4,h5,h6⟩:=h;refine⟨fb,gc,cap,cur,h1,hF _ h2,by rw[hk _ h2];exact h3,hF _ h4,by rw[hk _ h4];exact h5,fun i hi=>?_⟩
 obtain⟨u,e1,e2⟩:=h6 i hi;exact⟨u,e1,e2.keep hk hF⟩
def kH(fp:Nat→Value)(F:Nat→Prop)(w:World)(tab:List eJ):Prop:=∀k f,tab[k]?=some f→YN fp F w (fp k) f
theorem kH.keep{fp:Nat→Value}{F G:Nat→Prop}{w w':World}{tab:List eJ}(h:kH fp F w tab)(hk:∀b,F b→w'.heap[b]?=w.heap[b]?)(hF:∀b,F b→G b):kH fp G w' tab:=fun k f hf=>(h k f hf).keep hk hF
structure FVal where
 fp:Value
 nx:Value
 ln:Value
 sp:Value
 vv:Value
 ov:Value
def FVal.cells(f:FVal):List Value:=[f.fp,f.nx,f.ln,f.sp,f.vv,f.ov]
def fS:List FVal→List Value
 |[]=>[]
 |f::l=>f.cells++fS l
theorem iU(l m:List FVal):fS (l++m)=fS l++fS m:=by
 induction l with
 |nil=>rfl
 |cons f l ih=>simp[fS,ih]
theorem dV(l:List FVal):(fS l).length=l.length*6:=by
 induction l with
 |nil=>rfl
 |cons f l ih=>simp[fS,FVal.cells,ih];omega
def FVal.owns(f:FVal):List Nat:=f.vv.ownBlock.toList++f.ov.ownBlock.toList
def lF(F:Nat→Prop)(base:Nat)(w:World)(v:Value)(l:List aI):Prop:=(∃xs,w.ownsRow base 256 1 v l.length xs∧fR F w xs l)∧∀a∈l,aJ a≤200
theorem lF.keep{F G:Nat→Prop}{base:Nat}{w w':World}{v:Value}{l:List aI}(h:lF F base w v l)(hk:∀b,F b→w'.heap[b]?=w.heap[b]?)(hF:∀b,F b→G b)(ho:∀k,v.ownBlock=some k→w'.heap[k]?=w.heap[k]?):lF G base w' v l:=by
 obtain⟨⟨xs,h1,h2⟩,h3⟩:=h;exact⟨⟨xs,aY h1 ho,(h2.keep hk).mono hF⟩,h3⟩
structure KA(fp:Nat→Value)(F:Nat→Prop)(base:Nat)(w:World)(v:FVal)(f:aK):Prop where
 fn:YN fp F w v.fp f.fn
 nx:v.nx=.int .i64 f.next
 ln:v.ln=.int .i64 f.line
 sp:eO F w v.sp f.seen
 vars:lF F base w v.vv f.vars
 ops:lF F base w v.ov f.ops
theorem KA.keep{fp:Nat→Value}{F G:Nat→Prop}{base:Nat}{w w':World}{v:FVal}{f:aK}(h:KA fp F base w v f)(hk:∀b,F b→w'.heap[b]?=w.heap[b]?)(hF:∀b,F b→G b)(ho:∀k∈v.owns,w'.heap[k]?=w.heap[k]?):KA fp G base w' v f:=
 ⟨h.fn.keep hk hF,h.nx,h.ln,eO.keep hk hF h.sp,h.vars.keep hk hF fun k e=>ho k (by simp[FVal.owns,e]),h.ops.keep hk hF fun k e=>ho k (by simp[FVal.owns,e])⟩
def iE(fp:Nat→Value)(F:Nat→Prop)(base:Nat)(w:World):List FVal→List aK→Prop
 |[],[]=>True
 |v::vs,f::fs=>KA fp F base w v f∧iE fp F base w vs fs
 |_,_=>False
theorem iE.keep{fp:Nat→Value}{F G:Nat→Prop}{base:Nat}{w w':World}(hk:∀b,F b→w'.heap[b]?=w.heap[b]?)(hF:∀b,F b→G b):∀{vs:List FVal} {fs:List aK},iE fp F base w vs fs→(∀v∈vs,∀k∈v.owns,w'.heap[k]?=w.heap[k]?)→iE fp G base w' vs fs
 |[],[],_,_=>trivial
 |v::_,_::_,⟨h1,h2⟩,ho=>⟨h1.keep hk hF (ho v (List.mem_cons_self ..)),iE.keep hk hF h2 fun u hu=>ho u (List.mem_cons_of_mem _ hu)⟩
 |[],_::_,h,_=>h.elim
 |_::_,[],h,_=>h.elim
theorem iE.length{fp:Nat→Value}{F:Nat→Prop}{base:Nat}{w:World}:∀{vs:List FVal} {fs:List aK},iE fp F base w vs fs→vs.length=fs.length
 |[],[],_=>rfl
 |_::_,_::_,⟨_,h⟩=>by simp[iE.length h]
 |[],_::_,h=>h.elim
 |_::_,[],h=>h.elim
theorem iE.snoc{fp:Nat→Value}{F:Nat→Prop}{base:Nat}{w:World}{v:FVal}{f:aK}:∀{vs:List FVal} {fs:List aK},iE fp F base w vs fs→KA fp F base w v f→iE fp F base w (vs++[v]) (fs++[f])
 |[],[],_,h=>⟨h,trivial⟩
 |_::_,_::_,⟨h1,h2⟩,h=>⟨h1,iE.snoc h2 h⟩
 |[],_::_,h,_=>h.elim
 |_::_,[],h,_=>h.elim
theorem iE.unsnoc{fp:Nat→Value}{F:Nat→Prop}{base:Nat}{w:World}{f:aK}:∀{vs:List FVal} {fs:List aK},iE fp F base w vs (fs++[f])→∃vs' v,vs=vs'++[v]∧iE fp F base w vs' fs∧KA fp F base w v f
 |[],[],h=>h.elim
 |[v],[],⟨h1,h2⟩=>⟨[],v,rfl,trivial,h1⟩
 |_::_::_,[],⟨_,h⟩=>h.elim
 |v::vs,g::fs,⟨h1,h2⟩=>by
  obtain⟨vs',u,e,h3,h4⟩:=iE.unsnoc (vs:=vs) (fs:=fs) h2;exact⟨v::vs',u,by rw[e];rfl,⟨h1,h3⟩,h4⟩
 |[],_::_,h=>h.elim
def aS(l:List FVal):List Nat:=l.flatMap FVal.owns
def aF(sb gf:Nat)(outv:Value)(fvs:List FVal):List Nat:=sb::gf::(outv.ownBlock.toList++aS fvs)
def lA(l:List (List UInt8)):List Value:=l.map fun x=>Value.string (bs x)
def qA(F:Nat→Prop)(w:World)(v:Value)(l:List Int):Prop:=
 (l=[]∧∃x c,v=.slice x 0 c)∨∃g o c,v=.slice (some ⟨g,o,none⟩) l.length c∧l.length≤c∧F g∧∀i (h:i<l.length),w.cell? ⟨g,o+i,none⟩=some (.int .i64 l[i])∧ -9223372036854775808≤l[i]∧l[i]≤9223372036854775807
theorem qA.keep{F G:Nat→Prop}{w w':World}{v:Value}{l:List Int}(h:qA F w v l)(hk:∀b,F b→w'.heap[b]?=w.heap[b]?)(hF:∀b,F b→G b):qA G w' v l:=by
 rcases h with h|⟨g,o,c,h1,h2,h3,h4⟩
 ·exact Or.inl h
 ·exact Or.inr ⟨g,o,c,h1,h2,hF g h3,fun i hi=>⟨by rw[World.cell?_of_block (hk g h3)];exact(h4 i hi).1,(h4 i hi).2⟩⟩
structure cO(fp:Nat→Value)(F:Nat→Prop)(base:Nat)(w:World)(sb gf cap:Nat)(t0 tv outv s0:Value)(fvs:List FVal)(m:cM):Prop where
 blk:w.heap[sb]?=some (.cells #[t0,.slice (some ⟨gf,0,none⟩) fvs.length cap,tv,outv,s0] 108 (0,0))
 row:w.ownsRow base 195 6 (.slice (some ⟨gf,0,none⟩) fvs.length cap) fvs.length (fS fvs)
 frs:iE fp F base w fvs m.frames
 tape:qA F w tv m.tape
 out:w.ownsRow base 9 1 outv m.out.length (lA m.out)
 nodup:(aF sb gf outv fvs).Nodup
 lt:∀k∈aF sb gf outv fvs,k<w.heap.size
 apart:∀k,F k→k<w.heap.size∧k∉aF sb gf outv fvs
theorem cO.step{fp:Nat→Value}{F G:Nat→Prop}{base:Nat}{w w':World}{sb gf cap:Nat}{t0 tv outv s0:Value}{fb:List FVal}{v v':FVal}{below:List aK}{f f':aK}{tape:List Int}{out:List (List UInt8)}
 (h:cO fp F base w sb gf cap t0 tv outv s0 (fb++[v]) ⟨below++[f],tape,out⟩) (hsz:w.heap.size≤w'.heap.size) (hc:∀k,k<w.heap.size→k≠gf→k∉v.owns→w'.heap[k]?=w.heap[k]?)
 (hrow:w'.ownsRow base 195 6 (.slice (some ⟨gf,0,none⟩) (fb.length+1) cap) (fb.length+1) (fS (fb++[v'])))
 (hfr:KA fp G base w' v' f') (ho:∀k∈v'.owns,k<w'.heap.size∧(k∈v.owns∨w.heap.size≤k)) (hnd:v'.owns.Nodup)
 (hF:∀k,F k→G k) (hG:∀k,G k→F k∨(w.heap.size≤k∧k<w'.heap.size∧k∉v'.owns)):
 cO fp G base w' sb gf cap t0 tv outv s0 (fb++[v']) ⟨below++[f'],tape,out⟩:=by
 have hlen:(fb++[v']).length=(fb++[v]).length:=by simp
 have hlen':(fb++[v']).length=fb.length+1:=by simp
 have hown:∀u:FVal,aF sb gf outv (fb++[u])=(sb::gf::(outv.ownBlock.toList++aS fb))++u.owns:=fun u=>by simp[aF,aS]
 have hnd0:=h.nodup;have hlt0:=h.lt;have hap0:=h.apart;rw[hown] at hnd0 hlt0 hap0;generalize hpre:(sb::gf::(outv.ownBlock.toList++aS fb))=pre at hnd0 hlt0 hap0 hown;obtain⟨hn1,hn2,hn3⟩:=List.nodup_append.1 hnd0;have hpv:∀k∈pre,k<w.heap.size∧k∉v.owns:=fun k hk=>⟨hlt0 k (List.mem_append_left _ hk),fun hv=>hn3 k hk k hv rfl⟩
 have hsbm:sb∈pre:=by rw[←hpre];simp
 have hgfm:gf∈pre:=by rw[←hpre];simp
 have hsg:sb≠gf:=by
  rw[←hpre] at hn1;have:=(List.nodup_cons.1 hn1).1;intro e;exact this (by simp[e])
 have hFk:∀b,F b→w'.heap[b]?=w.heap[b]?:=fun b hb=>by
  obtain⟨h1,h2⟩:=hap0 b hb;exact hc b h1 (fun e=>h2 (List.mem_append_left _ (by rw[e];exact hgfm))) fun hv=>h2 (List.mem_append_right _ hv)
 have hfbm:∀u∈fb,∀k∈u.owns,k∈pre∧k≠gf:=fun u hu k hk=>by
  have hk1:k∈aS fb:=List.mem_flatMap.2 ⟨u,hu,hk⟩;refine⟨by rw[←hpre];simp[hk1],?_⟩
  rw[←hpre] at hn1;have:=(List.nodup_cons.1 (List.nodup_cons.1 hn1).2).1;intro e;exact this (by rw[←e];simp[hk1])
 have houtm:∀k,outv.ownBlock=some k→k∈pre∧k≠gf:=fun k hk=>by
  refine⟨by rw[←hpre];simp[hk],?_⟩
  rw[←hpre] at hn1;have:=(List.nodup_cons.1 (List.nodup_cons.1 hn1).2).1;intro e;exact this (by rw[←e];simp[hk])
 refine⟨?_,by rw[hlen'];exact hrow,?_,h.tape.keep hFk hF,aY h.out fun k hk=>?_,?_,?_,?_⟩
 ·rw[hlen,hc sb (hpv sb hsbm).1 hsg (hpv sb hsbm).2];exact h.blk
 ·obtain⟨vs',u,e,k1,k2⟩:=iE.unsnoc h.frs;obtain⟨rfl,e2⟩:=List.append_inj' e rfl;exact(k1.keep hFk hF fun u hu k hk=>hc k (hpv k (hfbm u hu k hk).1).1 (hfbm u hu k hk).2 (hpv k (hfbm u hu k hk).1).2).snoc hfr
 ·obtain⟨h1,h2⟩:=houtm k hk;exact hc k (hpv k h1).1 h2 (hpv k h1).2
 ·rw[hown];refine List.nodup_append.2 ⟨hn1,hnd,fun a ha b hb e=>?_⟩
  subst e;rcases(ho a hb).2 with h1|h1
  ·exact(hpv a ha).2 h1
  ·have:=(hpv a ha).1;omega
 ·intro k hk;rw[hown] at hk;rcases List.mem_append.1 hk with hk|hk
  ·exact Nat.lt_of_lt_of_le (hpv k hk).1 hsz
  ·exact(ho k hk).1
 ·intro k hk;rw[hown];rcases hG k hk with h1|⟨h1,h2,h3⟩
  ·obtain⟨h4,h5⟩:=hap0 k h1;refine⟨Nat.lt_of_lt_of_le h4 hsz,fun hm=>?_⟩
   rcases List.mem_append.1 hm with hm|hm
   ·exact h5 (List.mem_append_left _ hm)
   ·rcases(ho k hm).2 with h6|h6
    ·exact h5 (List.mem_append_right _ h6)
    ·omega
  ·refine⟨h2,fun hm=>?_⟩
   rcases List.mem_append.1 hm with hm|hm
   ·have:=(hpv k hm).1;omega
   ·exact h3 hm
structure Kept(own:List Nat)(w w':World):Prop where
 os:w'.os=w.os
 tape:w'.tape=w.tape
 output:w'.output=w.output
 size:w.heap.size≤w'.heap.size
 block:∀k,k<w.heap.size→k∉own→w'.heap[k]?=w.heap[k]?
structure Ext(F G:Nat→Prop)(n:Nat):Prop where
 sub:∀k,F k→G k
 new:∀k,G k→F k∨n≤k
theorem Ext.refl(F:Nat→Prop)(n:Nat):Ext F F n:=⟨fun _ h=>h,fun _ h=>Or.inl h⟩
theorem Ext.trans{F G H:Nat→Prop}{n m:Nat}(h:Ext F G n)(k:Ext G H m)(hn:n≤m):Ext F H n:=⟨fun x hx=>k.sub x (h.sub x hx),fun x hx=>by
 rcases k.new x hx with h1|h1
 ·exact h.new x h1
 ·exact Or.inr (Nat.le_trans hn h1)⟩
theorem Ext.le{F G:Nat→Prop}{n m:Nat}(h:Ext F G n)(hn:m≤n):Ext F G m:=⟨h.sub,fun x hx=>(h.new x hx).imp_right (Nat.le_trans hn)⟩
def Done(fp:Nat→Value)(F:Nat→Prop)(base:Nat)(sb:Nat)(t0 s0:Value)(own:List Nat)(w:World)(m:cM)(w':World):Prop:=
 Kept own w w'∧∃G gf cap tv outv fvs,Ext F G w.heap.size∧cO fp G base w' sb gf cap t0 tv outv s0 fvs m∧∀k∈aF sb gf outv fvs,k∈own∨w.heap.size≤k
theorem tI{w:World}{base gf cap j:Nat}{fb:List FVal}{v:FVal}{x:Value}(h:w.ownsRow base 195 6 (.slice (some ⟨gf,0,none⟩) (fb.length+1) cap) (fb.length+1) (fS (fb++[v])))(hj:j<6):
 ∃cur,w.heap[gf]?=some (.cells cur 195 (0,0))∧(∀i,i<6→cur[fb.length*6+i]?=v.cells[i]?)∧
  ∀W:World,W.heap[gf]?=some (.cells (cur.setIfInBounds (fb.length*6+j) x) 195 (0,0))→∀v':FVal,v'.cells=v.cells.set j x→W.ownsRow base 195 6 (.slice (some ⟨gf,0,none⟩) (fb.length+1) cap) (fb.length+1) (fS (fb++[v'])):=by
 rcases h.2 with ⟨r1,_⟩|⟨g',cap',cur,r1,r2,r3,r4,r5,r6,r7⟩
 ·cases r1
 cases r1;have hfl:∀u:FVal,fS (fb++[u])=fS fb++u.cells:=fun u=>by rw[iU];simp[fS]
 have hc6:∀u:FVal,u.cells.length=6:=fun _=>rfl
 have hsz:(fb.length+1)*6≤cur.size:=by rw[r6];exact Nat.mul_le_mul_right _ r4
 refine⟨cur,r3,fun i hi=>?_,fun W hW v' hv'=>?_⟩
 ·have:(fS (fb++[v]))[fb.length*6+i]?=v.cells[i]?:=by
   rw[hfl,List.getElem?_append_right (by rw[dV];omega),dV,Nat.add_sub_cancel_left]
  rw[←r7,List.getElem?_take,if_pos (by omega)] at this
  simpa using this
 ·refine⟨by rw[dV];simp,Or.inr ⟨gf,cap,_,rfl,r2,hW,r4,r5,by simpa using r6,?_⟩⟩
  rw[Array.toList_setIfInBounds,List.take_set,r7,hfl,hfl,hv',List.set_append_right _ _ (by rw[dV];omega),dV,Nat.add_sub_cancel_left]
theorem Kept.refl(own:List Nat)(w:World):Kept own w w:=⟨rfl,rfl,rfl,Nat.le_refl _,fun _ _ _=>rfl⟩
theorem Kept.trans{own own':List Nat}{a b c:World}(h:Kept own a b)(k:Kept own' b c)(ho:∀x∈own',x∈own∨a.heap.size≤x):Kept own a c:=
 ⟨k.os.trans h.os,k.tape.trans h.tape,k.output.trans h.output,Nat.le_trans h.size k.size,fun x hx hn=>by
   rw[k.block x (Nat.lt_of_lt_of_le hx h.size) (fun hm=>by rcases ho x hm with h1|h1;·exact hn h1
                                                           ·omega),h.block x hx hn]⟩
theorem Kept.of_below{own:List Nat}{w w':World}(h:Below w.heap.size w w'):Kept own w w':=⟨h.os,h.tape,h.output,h.size,fun k hk _=>h.block k hk⟩
theorem cO.grow{fp:Nat→Value}{F G:Nat→Prop}{base:Nat}{w w':World}{sb gf cap:Nat}{t0 tv outv s0:Value}{fvs:List FVal}{m:cM}(h:cO fp F base w sb gf cap t0 tv outv s0 fvs m)(hb:Below w.heap.size w w')(hF:∀k,F k→G k)(hG:∀k,G k→F k∨(w.heap.size≤k∧k<w'.heap.size)):cO fp G base w' sb gf cap t0 tv outv s0 fvs m:=by
 have hFk:∀b,F b→w'.heap[b]?=w.heap[b]?:=fun b hb'=>hb.block b (h.apart b hb').1
 have hin:∀k,k∈aF sb gf outv fvs→w'.heap[k]?=w.heap[k]?:=fun k hk=>hb.block k (h.lt k hk)
 refine⟨by rw[hin sb (by simp[aF])];exact h.blk,aY h.row fun k hk=>?_,h.frs.keep hFk hF fun v hv k hk=>hin k ?_,h.tape.keep hFk hF,aY h.out fun k hk=>hin k (by simp[aF,hk]),h.nodup,fun k hk=>Nat.lt_of_lt_of_le (h.lt k hk) hb.size,fun k hk=>?_⟩
 ·cases hk;exact hin gf (by simp[aF])
 ·have:k∈aS fvs:=List.mem_flatMap.2 ⟨v,hv,hk⟩;simp[aF,this]
 ·rcases hG k hk with h1|⟨h1,h2⟩
  ·exact⟨Nat.lt_of_lt_of_le (h.apart k h1).1 hb.size,(h.apart k h1).2⟩
  ·exact⟨h2,fun hm=>by have:=h.lt k hm;omega⟩
theorem cO.pushed{fp:Nat→Value}{F:Nat→Prop}{base:Nat}{w w':World}{sb gf cap:Nat}{t0 tv outv s0:Value}{fb:List FVal}{v:FVal}{below:List aK}{f:aK}{tape:List Int}{out:List (List UInt8)}{cur:Array Value}{ov' u:Value}{a:aI}{xs:List Value}
 (h:cO fp F base w sb gf cap t0 tv outv s0 (fb++[v]) ⟨below++[f],tape,out⟩) (hcur:w.heap[gf]?=some (.cells cur 195 (0,0)))
 (hxs:fR F w xs f.ops) (hu:PV F w u a) (hca:aJ a≤200)
 (p1:w'.heap[gf]?=some (.cells (cur.setIfInBounds (fb.length*6+5) ov') 195 (0,0))) (p2:w'.ownsRow base 256 1 ov' (f.ops.length+1) (xs++[u])) (p3:∀k,ov'.ownBlock=some k→v.ov.ownBlock=some k∨w.heap.size≤k) (p4:Chg gf v.ov.ownBlock w w'):
 cO fp F base w' sb gf cap t0 tv outv s0 (fb++[{ v with ov:=ov' }]) ⟨below++[f.push a],tape,out⟩∧Kept (aF sb gf outv (fb++[v])) w w':=by
 obtain⟨vs',v0,e,hfb,hv⟩:=iE.unsnoc h.frs;obtain⟨rfl,e2⟩:=List.append_inj' e rfl;cases e2;have hrow:=h.row;rw[show (fb++[v]).length=fb.length+1 by simp] at hrow
 obtain⟨cur',c1,_,c3⟩:=tI (j:=5) (x:=ov') hrow (by omega)
 obtain rfl:cur'=cur:=by rw[hcur] at c1;cases c1;rfl
 have hvm:∀k∈v.owns,k∈aF sb gf outv (fb++[v]):=fun k hk=>by simp[aF,aS,hk]
 have hgv:gf∉v.owns:=fun hm=>by
  have:=(List.nodup_cons.1 (List.nodup_cons.1 h.nodup).2).1;exact this (by simp[aS,hm])
 have hnv:v.owns.Nodup:=by
  have h1:=h.nodup;have:aF sb gf outv (fb++[v])=(sb::gf::(outv.ownBlock.toList++aS fb))++v.owns:=by simp[aF,aS]
  rw[this] at h1;exact(List.nodup_append.1 h1).2.1
 have hFk:∀b,F b→w'.heap[b]?=w.heap[b]?:=fun b hb=>by
  obtain⟨h1,h2⟩:=h.apart b hb;exact p4.block b h1 (fun e=>h2 (by simp[aF,e])) (fun e=>h2 (hvm b (by simp[FVal.owns,←e])))
 have hchg:∀k,k<w.heap.size→k≠gf→k∉v.owns→w'.heap[k]?=w.heap[k]?:=fun k h1 h2 h3=>p4.block k h1 h2 fun e=>h3 (by simp[FVal.owns,←e])
 have hvvo:∀k,v.vv.ownBlock=some k→k<w.heap.size∧k≠gf∧v.ov.ownBlock≠some k:=fun k hk=>by
  have hm:k∈v.owns:=by simp[FVal.owns,hk]
  refine⟨h.lt k (hvm k hm),fun e=>hgv (by rw[←e];exact hm),fun e=>?_⟩
  unfold FVal.owns at hnv;rw[hk,e] at hnv;simp at hnv
 refine⟨h.step (G:=F) p4.size hchg (c3 w' p1 _ rfl) ?_ ?_ ?_ (fun _ h=>h) (fun _ h=>Or.inl h),?_⟩
 ·refine⟨hv.fn.keep hFk fun _ h=>h,hv.nx,hv.ln,eO.keep hFk (fun _ h=>h) hv.sp,hv.vars.keep hFk (fun _ h=>h) fun k hk=>?_,⟨xs++[u],?_,?_⟩,?_⟩
  ·obtain⟨h1,h2,h3⟩:=hvvo k hk;exact p4.block k h1 h2 (fun e=>h3 e.symm)
  ·show w'.ownsRow base 256 1 ov' (f.ops++[a]).length _
   rw[List.length_append];exact p2
  ·exact(hxs.keep hFk).append ⟨rfl,fun i hi=>by
    obtain rfl:i=0:=by simpa using hi
    exact⟨u,rfl,hu.keep hFk⟩⟩
  ·intro b hb;rcases List.mem_append.1 hb with hb|hb
   ·exact hv.ops.2 b hb
   ·rw[List.mem_singleton.1 hb];exact hca
 ·intro k hk;rcases List.mem_append.1 hk with hk|hk
  ·have hk':v.vv.ownBlock=some k:=by simpa using hk
   exact⟨Nat.lt_of_lt_of_le (hvvo k hk').1 p4.size,Or.inl (by simp[FVal.owns,hk'])⟩
  ·have hk':ov'.ownBlock=some k:=by simpa using hk
   refine⟨cG p2 k hk',?_⟩;rcases p3 k hk' with h1|h1
   ·exact Or.inl (by simp[FVal.owns,h1])
   ·exact Or.inr h1
 ·show (v.vv.ownBlock.toList++ov'.ownBlock.toList).Nodup
  refine List.nodup_append.2 ⟨by cases v.vv.ownBlock<;>simp,by cases ov'.ownBlock<;>simp,fun x hx y hy e=>?_⟩
  subst e;have h1:v.vv.ownBlock=some x:=by simpa using hx
  have h2:ov'.ownBlock=some x:=by simpa using hy
  obtain⟨h3,_,h4⟩:=hvvo x h1;rcases p3 x h2 with h5|h5
  ·exact h4 h5
  ·omega
 ·exact⟨p4.os,p4.tape,p4.output,p4.size,fun k hk hn=>hchg k hk (fun e=>hn (by simp[aF,e])) fun hm=>hn (hvm k hm)⟩
structure aW(w w':World):Prop where
 os:w'.os=w.os
 tape:w'.tape=w.tape
 output:w'.output=w.output
 heap:w'.heap=w.heap
theorem aW.refl(w:World):aW w w:=⟨rfl,rfl,rfl,rfl⟩
theorem aW.drewN(w:World)(n:Nat):aW w (w.drewN n):=⟨rfl,rfl,rfl,rfl⟩
theorem aW.drew(w:World):aW w w.drew:=⟨rfl,rfl,rfl,rfl⟩
theorem aW.trans{a b c:World}(h:aW a b)(k:aW b c):aW a c:=⟨k.os.trans h.os,k.tape.trans h.tape,k.output.trans h.output,k.heap.trans h.heap⟩
theorem aW.below{w w':World}(h:aW w w'):Below w.heap.size w w':=⟨h.os,h.tape,h.output,by rw[h.heap];exact Nat.le_refl _,fun k _=>by rw[h.heap]⟩
theorem cO.top{fp:Nat→Value}{F:Nat→Prop}{base:Nat}{w:World}{sb gf cap:Nat}{t0 tv outv s0:Value}{fvs:List FVal}{below:List aK}{f:aK}{tape:List Int}{out:List (List UInt8)}(h:cO fp F base w sb gf cap t0 tv outv s0 fvs ⟨below++[f],tape,out⟩):
 ∃fb v cur,fvs=fb++[v]∧fb.length=below.length∧KA fp F base w v f∧w.heap[sb]?=some (.cells #[t0,.slice (some ⟨gf,0,none⟩) (fb.length+1) cap,tv,outv,s0] 108 (0,0))∧w.heap[gf]?=some (.cells cur 195 (0,0))∧fb.length+1≤cap∧
  cur[fb.length*6]?=some v.fp∧cur[fb.length*6+1]?=some v.nx∧cur[fb.length*6+2]?=some v.ln∧cur[fb.length*6+3]?=some v.sp∧cur[fb.length*6+4]?=some v.vv∧cur[fb.length*6+5]?=some v.ov:=by
 obtain⟨fb,v,rfl,h1,h2⟩:=iE.unsnoc h.frs;have hrow:=h.row;have hblk:=h.blk;rw[show (fb++[v]).length=fb.length+1 by simp] at hrow hblk
 obtain⟨cur,c1,c2,_⟩:=tI (j:=0) (x:=undef) hrow (by omega)
 have hcap:fb.length+1≤cap:=by
  rcases hrow.2 with ⟨r1,_⟩|⟨g',cap',cur,r1,r2,r3,r4,_⟩
  ·cases r1
  ·cases r1;exact r4
 exact⟨fb,v,cur,rfl,h1.length,h2,hblk,c1,hcap,c2 0 (by omega),c2 1 (by omega),c2 2 (by omega),c2 3 (by omega),c2 4 (by omega),c2 5 (by omega)⟩
theorem cQ{w W:World}(h:W.heap=w.heap){a:Addr}{v:Value}(hc:w.cell? a=some v):W.cell? a=some v:=by
 have e:W.cell? a=w.cell? a:=World.cell?_of_block (by rw[h])
 rw[e];exact hc
theorem LJ(w w0:World)(sb fa fj:Nat)(t:TypeId)(z:Value)(P:World→Prop)(hW:w.alloc (.cells #[.iface t z] 361)=w0)
 (HT:Hid (∀W,aW w0 W→Calls Tryz.prog 158 #[.pointer (some ⟨sb,0,none⟩)] W fun e w'=>e=.returned (.pointer (some ⟨fa,fj,none⟩))∧aW w0 w'))
 (HP:Hid (∀W,aW w0 W→Calls Tryz.prog 371 #[.pointer (some ⟨fa,fj,none⟩),.iface t z] W fun e w'=>e=.returned (.tuple #[])∧P w')):
 Calls Tryz.prog 370 #[.agg #[.iface t z],.pointer (some ⟨sb,0,none⟩)] w fun e w'=>e=.returned (.tuple #[])∧P w':=by
 have hbox:(w.alloc (.cells #[.iface t z] 361)).heap[w.heap.size]?=some (.cells #[.iface t z] 361 (0,0)):=aR _ _ rfl _;rw[hW] at hbox;have HW:=aB hW;have c0:w0.cell? ⟨w.heap.size,0,none⟩=some (.iface t z):=aA hbox rfl;have HC0:=aB c0;have hlt:=aD hbox;clear hW hbox;go_enter Tryz.func370,Tryz.ntmps370;go_wp2_with fail;rw[HW.out];go_region_law (go_simp;first|(go_at_call 158;refine(HT.out _ (aW.drew _)).mono ?_;rintro e w1 ⟨rfl,hs1⟩;have c1:=cQ hs1.heap HC0.out;have hl1:w.heap.size<w1.heap.size:=by (rw[hs1.heap];exact hlt))|(go_at_call 371;refine(HP.out _ hs1).mono ?_;rintro e w2 ⟨rfl,hd2⟩))
 all_goals
  go_wp2_with fail;go_end0;exact⟨rfl,hd2⟩
theorem QE(fp:Nat→Value)(F:Nat→Prop)(base:Nat)(w:World)(sb gf cap:Nat)(t0 tv outv s0:Value)(fvs:List FVal)(below:List aK)(f:aK)(tape:List Int)(out:List (List UInt8))(u:Value)(a:aI)
 (h:cO fp F base w sb gf cap t0 tv outv s0 fvs ⟨below++[f],tape,out⟩) (hu:PV F w u a) (hca:aJ a≤200) (hops:f.ops.length≤100000) (hbel:below.length≤15) (hbase:base≤w.heap.size):
 Calls Tryz.prog 370 #[.agg #[u],.pointer (some ⟨sb,0,none⟩)] w fun e w'=>e=.returned (.tuple #[])∧Done fp F base sb t0 s0 (aF sb gf outv fvs) w ⟨below++[f.push a],tape,out⟩ w':=by
 obtain⟨t,z,rfl⟩:=hu.form;have hb0:Below w.heap.size w (w.alloc (.cells #[.iface t z] 361)):=(Below.refl _ _).alloc (Nat.le_refl _) _;have hbox:(w.alloc (.cells #[.iface t z] 361)).heap[w.heap.size]?=some (.cells #[.iface t z] 361 (0,0)):=aR _ _ rfl _;have h0:=h.grow hb0 (fun _ h=>h) (fun _ h=>Or.inl h)
 have hu0:PV F (w.alloc (.cells #[.iface t z] 361)) (.iface t z) a:=hu.keep fun k hk=>hb0.block k (h.apart k hk).1
 generalize hW:w.alloc (.cells #[.iface t z] 361)=w0 at*;have HW:=aB hW;obtain⟨fb,v,cur,rfl,hfl,hv,hblk,hcur,hcap,k0,k1,k2,k3,k4,k5⟩:=h0.top;obtain⟨⟨xs,hown,hxs⟩,hc200⟩:=hv.ops
 have hgv:v.ov.ownBlock≠some gf:=fun e=>by
  have:=(List.nodup_cons.1 (List.nodup_cons.1 h0.nodup).2).1;exact this (by simp[aS,FVal.owns,e])
 have HT:Hid (∀W,aW w0 W→Calls Tryz.prog 158 #[.pointer (some ⟨sb,0,none⟩)] W fun e w'=>e=.returned (.pointer (some ⟨gf,fb.length*6,none⟩))∧aW w0 w'):=fun W hS=>by
  refine(GF sb gf fb.length cap W (cQ hS.heap (aA hblk rfl)) (by omega)).mono ?_
  rintro e w' ⟨he,q,rfl⟩;exact⟨he,hS.trans (aW.drewN _ _)⟩
 have HP:Hid (∀W,aW w0 W→Calls Tryz.prog 371 #[.pointer (some ⟨gf,fb.length*6,none⟩),.iface t z] W fun e w'=>e=.returned (.tuple #[])∧Done fp F base sb t0 s0 (aF sb gf outv (fb++[v])) w ⟨below++[f.push a],tape,out⟩ w'):=fun W hS=>by
  have hbW:=hS.below;have hR:=h0.grow hbW (fun _ h=>h) (fun _ h=>Or.inl h)
  refine(vC base gf (fb.length*6) f.ops.length cur v.ov xs t z W (by rw[hS.heap];exact hcur) k5 (aY hown fun k _=>by rw[hS.heap]) hgv (by rw[hS.heap];exact Nat.le_trans hbase hb0.size) (by omega)).mono ?_
  rintro e w' ⟨he,ov',p1,p2,p3,p4⟩;obtain⟨q1,q2⟩:=hR.pushed (cur:=cur) (by rw[hS.heap];exact hcur) (hxs.keep fun k _=>by rw[hS.heap]) (hu0.keep fun k _=>by rw[hS.heap]) hca p1 p2 p3 p4
  have hk:Kept (aF sb gf outv (fb++[v])) w w':=(Kept.of_below (own:=aF sb gf outv (fb++[v])) (hb0.trans (hbW.mono hb0.size))).trans q2 fun x hx=>Or.inl hx
  refine⟨he,hk,F,gf,cap,tv,outv,_,Ext.refl _ _,q1,fun k hk'=>?_⟩
  have hsz:W.heap.size=w0.heap.size:=by rw[hS.heap]
  have h1:aF sb gf outv (fb++[{ v with ov:=ov' }])=(sb::gf::(outv.ownBlock.toList++aS fb))++({ v with ov:=ov' }:FVal).owns:=by simp[aF,aS]
  have h2:aF sb gf outv (fb++[v])=(sb::gf::(outv.ownBlock.toList++aS fb))++v.owns:=by simp[aF,aS]
  rw[h1] at hk';rw[h2];rcases List.mem_append.1 hk' with h3|h3
  ·exact Or.inl (List.mem_append_left _ h3)
  ·rcases List.mem_append.1 h3 with h3|h3
   ·exact Or.inl (List.mem_append_right _ (List.mem_append_left _ h3))
   ·have h4:ov'.ownBlock=some k:=by simpa using h3
    rcases p3 k h4 with h5|h5
    ·exact Or.inl (List.mem_append_right _ (by simp[FVal.owns,h5]))
    ·exact Or.inr (by have:=hb0.size;omega)
 clear hown hxs hc200 hgv;exact LJ w w0 sb gf (fb.length*6) t z _ HW.out HT HP
theorem fR.split{F:Nat→Prop}{w:World}{xs:List Value}{l m:List aI}(h:fR F w xs (l++m)):∃ys zs,xs=ys++zs∧ys.length=l.length∧zs.length=m.length∧fR F w ys l∧fR F w zs m:=by
 obtain⟨h1,h2⟩:=h;rw[List.length_append] at h1;refine⟨xs.take l.length,xs.drop l.length,(List.take_append_drop _ _).symm,by simp;omega,by simp;omega,⟨by simp;omega,fun i hi=>?_⟩,⟨by simp;omega,fun i hi=>?_⟩⟩
 ·obtain⟨u,e1,e2⟩:=h2 i (by simp;omega)
  rw[List.getElem_append_left hi] at e2;exact⟨u,by rw[List.getElem?_take,if_pos hi];exact e1,e2⟩
 ·obtain⟨u,e1,e2⟩:=h2 (l.length+i) (by simp;omega)
  rw[List.getElem_append_right (by omega)] at e2
  simp only[Nat.add_sub_cancel_left] at e2;exact⟨u,by rw[List.getElem?_drop];exact e1,e2⟩
theorem fR.unsnoc{F:Nat→Prop}{w:World}{xs:List Value}{l:List aI}{a:aI}(h:fR F w xs (l++[a])):∃ys u,xs=ys++[u]∧ys.length=l.length∧fR F w ys l∧PV F w u a:=by
 obtain⟨ys,zs,e,h1,h2,h3,h4⟩:=h.split;match zs,h2 with
 |[u],_=>
  obtain⟨u',e1,e2⟩:=h4.2 0 (by simp)
  simp at e1 e2;subst e1;exact⟨ys,u,e,h1,h3,e2⟩
theorem cO.setTop{fp:Nat→Value}{F:Nat→Prop}{base:Nat}{w:World}{sb gf cap:Nat}{t0 tv outv s0:Value}{fb:List FVal}{v v':FVal}{below:List aK}{f f':aK}{tape:List Int}{out:List (List UInt8)}{j:Nat}{x:Value}
 (h:cO fp F base w sb gf cap t0 tv outv s0 (fb++[v]) ⟨below++[f],tape,out⟩) (hj:j<6) (hv':v'.cells=v.cells.set j x) (ho:v'.owns=v.owns) (hfr:KA fp F base w v' f'):
 cO fp F base (w.setCell ⟨gf,fb.length*6+j,none⟩ x) sb gf cap t0 tv outv s0 (fb++[v']) ⟨below++[f'],tape,out⟩∧Kept (aF sb gf outv (fb++[v])) w (w.setCell ⟨gf,fb.length*6+j,none⟩ x):=by
 have hrow:=h.row;rw[show (fb++[v]).length=fb.length+1 by simp] at hrow
 obtain⟨cur,c1,_,c3⟩:=tI (j:=j) (x:=x) hrow hj;have hvm:∀k∈v.owns,k∈aF sb gf outv (fb++[v]):=fun k hk=>by simp[aF,aS,hk]
 have hgv:gf∉v.owns:=fun hm=>by
  have:=(List.nodup_cons.1 (List.nodup_cons.1 h.nodup).2).1;exact this (by simp[aS,hm])
 have hnv:v.owns.Nodup:=by
  have h1:=h.nodup;have:aF sb gf outv (fb++[v])=(sb::gf::(outv.ownBlock.toList++aS fb))++v.owns:=by simp[aF,aS]
  rw[this] at h1;exact(List.nodup_append.1 h1).2.1
 have hk:∀k,k≠gf→(w.setCell ⟨gf,fb.length*6+j,none⟩ x).heap[k]?=w.heap[k]?:=fun k hk=>Below.heap_setCell _ _ _ _ hk
 have hFk:∀b,F b→(w.setCell ⟨gf,fb.length*6+j,none⟩ x).heap[b]?=w.heap[b]?:=fun b hb=>hk b fun e=>(h.apart b hb).2 (by simp[aF,e])
 refine⟨h.step (G:=F) (by simp) (fun k _ h2 _=>hk k h2) (c3 _ (aQ c1) _ hv') (hfr.keep hFk (fun _ h=>h) fun k hm=>hk k fun e=>hgv (by rw[←ho,←e];exact hm)) (fun k hm=>?_) (by rw[ho];exact hnv) (fun _ h=>h) (fun _ h=>Or.inl h),⟨rfl,rfl,rfl,by simp,fun k _ hn=>hk k fun e=>hn (by simp[aF,e])⟩⟩
 rw[ho] at hm;exact⟨Nat.lt_of_lt_of_le (h.lt k (hvm k hm)) (by simp),Or.inl hm⟩
def Mid(fp:Nat→Value)(base sb gf n:Nat)(t0 s0:Value)(own:List Nat)(w0:World)(G:Nat→Prop)(m:cM)(w:World):Prop:=
 Kept own w0 w∧base≤w.heap.size∧∃cap tv outv fvs,fvs.length=n+1∧cO fp G base w sb gf cap t0 tv outv s0 fvs m∧∀k∈aF sb gf outv fvs,k∈own∨w0.heap.size≤k
section
variable {fp:Nat→Value} {base sb gf n:Nat} {t0 s0:Value} {own:List Nat} {w0 w w':World} {G G':Nat→Prop} {m:cM} {below:List aK} {f f':aK} {tape:List Int} {out:List (List UInt8)}
theorem Mid.init{cap:Nat}{tv outv:Value}{fvs:List FVal}(h:cO fp G base w sb gf cap t0 tv outv s0 fvs m)(hn:fvs.length=n+1)(hb:base≤w.heap.size)(ob:Obj):Mid fp base sb gf n t0 s0 (aF sb gf outv fvs) (w.alloc ob) G m (w.alloc ob):=
 ⟨Kept.refl _ _,Nat.le_trans hb (by simp),cap,tv,outv,fvs,hn,h.grow ((Below.refl _ _).alloc (Nat.le_refl _) _) (fun _ h=>h) (fun _ h=>Or.inl h),fun _ h=>Or.inl h⟩
theorem Mid.same(h:Mid fp base sb gf n t0 s0 own w0 G m w)(hs:aW w w'):Mid fp base sb gf n t0 s0 own w0 G m w':=by
 obtain⟨h1,h2,cap,tv,outv,fvs,h3,h4,h5⟩:=h;exact⟨h1.trans (Kept.of_below (own:=[]) hs.below) (fun x hx=>by simp at hx),by rw[hs.heap];exact h2,cap,tv,outv,fvs,h3,h4.grow hs.below (fun _ h=>h) (fun _ h=>Or.inl h),h5⟩
theorem Mid.grow(h:Mid fp base sb gf n t0 s0 own w0 G m w)(hb:Below w.heap.size w w')(hF:∀k,G k→G' k)(hG:∀k,G' k→G k∨(w.heap.size≤k∧k<w'.heap.size)):Mid fp base sb gf n t0 s0 own w0 G' m w':=by
 obtain⟨h1,h2,cap,tv,outv,fvs,h3,h4,h5⟩:=h;exact⟨h1.trans (Kept.of_below (own:=[]) hb) (fun x hx=>by simp at hx),Nat.le_trans h2 hb.size,cap,tv,outv,fvs,h3,h4.grow hb hF hG,h5⟩
theorem Mid.old(h:Mid fp base sb gf n t0 s0 own w0 G m w){k:Nat}(hk:k<w0.heap.size)(ho:k∉own):w.heap[k]?=w0.heap[k]?:=h.1.block k hk ho
theorem Mid.done{F:Nat→Prop}{ob:Obj}(h:Mid fp base sb gf n t0 s0 own (w.alloc ob) G m w')(hF:Ext F G w.heap.size):Done fp F base sb t0 s0 own w m w':=by
 obtain⟨h1,h2,cap,tv,outv,fvs,h3,h4,h5⟩:=h
 exact⟨(Kept.of_below (own:=own) ((Below.refl _ w).alloc (Nat.le_refl _) ob)).trans h1 (fun x hx=>Or.inl hx),G,gf,cap,tv,outv,fvs,hF,h4,fun k hk=>by
  rcases h5 k hk with h|h
  ·exact Or.inl h
  ·exact Or.inr (Nat.le_trans (by simp) h)⟩
theorem Mid.top(h:Mid fp base sb gf n t0 s0 own w0 G m w)(hn:n≤15):Calls Tryz.prog 158 #[.pointer (some ⟨sb,0,none⟩)] w fun e w'=>e=.returned (.pointer (some ⟨gf,n*6,none⟩))∧aW w w':=by
 obtain⟨h1,h2,cap,tv,outv,fvs,h3,h4,h5⟩:=h;have:=h4.blk;rw[h3] at this;refine(GF sb gf n cap w (aA this rfl) (by omega)).mono ?_
 rintro e w' ⟨he,q,rfl⟩;exact⟨he,aW.drewN _ _⟩
theorem Mid.cells(h:Mid fp base sb gf n t0 s0 own w0 G ⟨below++[f],tape,out⟩ w):∃v:FVal,KA fp G base w v f∧gf<w.heap.size∧∀j x,v.cells[j]?=some x→w.cell? ⟨gf,n*6+j,none⟩=some x∧w.frozen? ⟨gf,n*6+j,none⟩=false:=by
 obtain⟨h1,h2,cap,tv,outv,fvs,h3,h4,h5⟩:=h;obtain⟨fb,v,cur,rfl,hfl,hv,hblk,hcur,hcap,k0,k1,k2,k3,k4,k5⟩:=h4.top;have hfn:fb.length=n:=by simpa using h3
 subst hfn;refine⟨v,hv,aD hcur,fun j x hx=>?_⟩
 have hj:j<6:=(List.getElem?_eq_some_iff.1 hx).1;refine⟨aA hcur ?_,aE hcur⟩;rw[←hx];match j,hj with
 |0,_=>exact k0
 |1,_=>exact k1
 |2,_=>exact k2
 |3,_=>exact k3
 |4,_=>exact k4
 |5,_=>exact k5
theorem Mid.set(h:Mid fp base sb gf n t0 s0 own w0 G ⟨below++[f],tape,out⟩ w)(j:Nat)(x:Value)(hj:j<6)(g:FVal→FVal)(hg:∀v,(g v).cells=v.cells.set j x)(ho:∀v,KA fp G base w v f→(g v).owns=v.owns)(hfr:∀v,KA fp G base w v f→KA fp G base w (g v) f'):
 Mid fp base sb gf n t0 s0 own w0 G ⟨below++[f'],tape,out⟩ (w.setCell ⟨gf,n*6+j,none⟩ x):=by
 obtain⟨h1,h2,cap,tv,outv,fvs,h3,h4,h5⟩:=h;obtain⟨fb,v,cur,rfl,hfl,hv,_⟩:=h4.top;have hfn:fb.length=n:=by simpa using h3
 subst hfn;obtain⟨q1,q2⟩:=h4.setTop hj (hg v) (ho v hv) (hfr v hv);refine⟨h1.trans q2 h5,Nat.le_trans h2 q2.size,cap,tv,outv,_,by simp,q1,?_⟩
 rw[show aF sb gf outv (fb++[g v])=aF sb gf outv (fb++[v]) by simp[aF,aS,ho v hv]]
 exact h5
theorem Mid.push(h:Mid fp base sb gf n t0 s0 own w0 G ⟨below++[f],tape,out⟩ w){t:TypeId}{z:Value}{a:aI}(hu:PV G w (.iface t z) a)(hca:aJ a≤200)(hops:f.ops.length≤100000):Calls Tryz.prog 371 #[.pointer (some ⟨gf,n*6,none⟩),.iface t z] w fun e w'=>e=.returned (.tuple #[])∧Mid fp base sb gf n t0 s0 own w0 G ⟨below++[f.push a],tape,out⟩ w':=by
 obtain⟨h1,h2,cap,tv,outv,fvs,h3,h4,h5⟩:=h;obtain⟨fb,v,cur,rfl,hfl,hv,hblk,hcur,hcap,k0,k1,k2,k3,k4,k5⟩:=h4.top;have hfn:fb.length=n:=by simpa using h3
 subst hfn;obtain⟨⟨xs,hown,hxs⟩,hc200⟩:=hv.ops
 have hgv:v.ov.ownBlock≠some gf:=fun e=>by
  have:=(List.nodup_cons.1 (List.nodup_cons.1 h4.nodup).2).1;exact this (by simp[aS,FVal.owns,e])
 refine(vC base gf (fb.length*6) f.ops.length cur v.ov xs t z w hcur k5 hown hgv h2 (by omega)).mono ?_
 rintro e w' ⟨he,ov',p1,p2,p3,p4⟩;obtain⟨q1,q2⟩:=h4.pushed (cur:=cur) hcur hxs hu hca p1 p2 p3 p4;refine⟨he,h1.trans q2 h5,Nat.le_trans h2 q2.size,cap,tv,outv,_,by simp,q1,fun k hk'=>?_⟩
 have e1:aF sb gf outv (fb++[{ v with ov:=ov' }])=(sb::gf::(outv.ownBlock.toList++aS fb))++({ v with ov:=ov' }:FVal).owns:=by simp[aF,aS]
 have e2:aF sb gf outv (fb++[v])=(sb::gf::(outv.ownBlock.toList++aS fb))++v.owns:=by simp[aF,aS]
 rw[e1] at hk';rw[e2] at h5;rcases List.mem_append.1 hk' with h3|h3
 ·exact h5 k (List.mem_append_left _ h3)
 ·rcases List.mem_append.1 h3 with h3|h3
  ·exact h5 k (List.mem_append_right _ (List.mem_append_left _ h3))
  ·have h4:ov'.ownBlock=some k:=by simpa using h3
   rcases p3 k h4 with h6|h6
   ·exact h5 k (List.mem_append_right _ (by simp[FVal.owns,h6]))
   ·exact Or.inr (Nat.le_trans h1.size h6)
theorem Mid.popK(h:Mid fp base sb gf n t0 s0 own w0 G ⟨below++[f],tape,out⟩ w){vs:List aI}{a:aI}(hf:f.ops=vs++[a])(hops:f.ops.length≤100000):Calls Tryz.prog 171 #[.pointer (some ⟨gf,n*6,none⟩)] w fun e w'=>∃t z,e=.returned (.iface t z)∧PV G w' (.iface t z) a∧aJ a≤200∧Mid fp base sb gf n t0 s0 own w0 G ⟨below++[f.pop],tape,out⟩ w'∧∀k,G k→w'.heap[k]?=w.heap[k]?:=by
 obtain⟨h1,h2,cap,tv,outv,fvs,h3,h4,h5⟩:=h;obtain⟨fb,v,cur,rfl,hfl,hv,hblk,hcur,hcap,k0,k1,k2,k3,k4,k5⟩:=h4.top;have hfn:fb.length=n:=by simpa using h3
 subst hfn;obtain⟨⟨xs,hown,hxs⟩,hc200⟩:=hv.ops;rw[hf] at hown hxs hc200 hops;obtain⟨xs',u,rfl,hl,hxs',hu⟩:=fR.unsnoc hxs;obtain⟨t,z,rfl⟩:=hu.form;rw[List.length_append] at hown hops;refine(NC base gf (fb.length*6) vs.length cur v.ov xs' _ w hcur k5 hown hl ⟨t,z,rfl⟩ (by omega)).mono ?_
 rintro e w' ⟨rfl,ov',rfl,p2,p3⟩;have hpop:f.pop.ops=vs:=by simp[aK.pop,hf]
 have hfr:KA fp G base w { v with ov:=ov' } f.pop:=⟨hv.fn,hv.nx,hv.ln,hv.sp,hv.vars,⟨xs',by rw[hpop];exact p2,by rw[hpop];exact hxs'⟩,fun b hb=>hc200 b (List.mem_append_left _ (by rw[hpop] at hb;exact hb))⟩
 obtain⟨q1,q2⟩:=h4.setTop (j:=5) (x:=ov') (v':={ v with ov:=ov' }) (by omega) rfl (by simp[FVal.owns,p3]) hfr
 have hgf:∀k,G k→(w.setCell ⟨gf,fb.length*6+5,none⟩ ov').heap[k]?=w.heap[k]?:=fun k hk=>Below.heap_setCell _ _ _ _ fun e=>(h4.apart k hk).2 (by simp[aF,e])
 refine⟨t,z,rfl,hu.keep hgf,hc200 a (by simp),⟨h1.trans q2 h5,Nat.le_trans h2 q2.size,cap,tv,outv,_,by simp,q1,?_⟩,hgf⟩
 rw[show aF sb gf outv (fb++[{ v with ov:=ov' }])=aF sb gf outv (fb++[v]) by simp[aF,aS,FVal.owns,p3]]
 exact h5
theorem Mid.pop(h:Mid fp base sb gf n t0 s0 own w0 G ⟨below++[f],tape,out⟩ w){vs:List aI}{a:aI}(hf:f.ops=vs++[a])(hops:f.ops.length≤100000):Calls Tryz.prog 171 #[.pointer (some ⟨gf,n*6,none⟩)] w fun e w'=>∃t z,e=.returned (.iface t z)∧PV G w' (.iface t z) a∧aJ a≤200∧Mid fp base sb gf n t0 s0 own w0 G ⟨below++[f.pop],tape,out⟩ w':=by
 refine(h.popK hf hops).mono ?_;rintro e w' ⟨t,z,h1,h2,h3,h4,_⟩;exact⟨t,z,h1,h2,h3,h4⟩
end
def R5(k:Nat)(e:Ending):Prop:=(k=0∧e=.returned (.tuple #[]))∨(k≠0∧e=fE k)
theorem jI{w W:World}(h:W.heap=w.heap){k:Nat}(hk:k<w.heap.size):k<W.heap.size:=by rw[h];exact hk
theorem pS{w W:World}(h:W.heap=w.heap){a:Addr}(hc:w.frozen? a=false):W.frozen? a=false:=by
 have e:W.frozen? a=w.frozen? a:=by unfold World.frozen?;rw[h]
 rw[e];exact hc
theorem NQ(w w0:World)(sb fa fj:Nat)(P:World→Prop)(hW:w.alloc (.cells #[] 449)=w0)
 (HT:Hid (∀W,aW w0 W→Calls Tryz.prog 158 #[.pointer (some ⟨sb,0,none⟩)] W fun e w'=>e=.returned (.pointer (some ⟨fa,fj,none⟩))∧aW w0 w'))
 (HP:Hid (∀W,aW w0 W→Calls Tryz.prog 171 #[.pointer (some ⟨fa,fj,none⟩)] W fun e w'=>∃t z,e=.returned (.iface t z)∧P w')):
 Calls Tryz.prog 410 #[.agg #[],.pointer (some ⟨sb,0,none⟩)] w fun e w'=>e=.returned (.tuple #[])∧P w':=by
 have HW:=aB hW;clear hW;go_enter Tryz.func410,Tryz.ntmps410;go_wp2_with fail;rw[HW.out];refine(HT.out _ (aW.refl _)).mono ?_;rintro e w1 ⟨rfl,hs1⟩;go_wp2_with fail;refine(HP.out _ hs1).mono ?_;rintro e w2 ⟨t,z,rfl,h2⟩;go_wp2_with fail;go_end0;exact⟨rfl,h2⟩
theorem GE(w w0:World)(sb fa fj:Nat)(P S:World→Prop)(Q1:TypeId→Value→World→Prop)(Q2:Bool→World→Prop)(hW:w.alloc (.cells #[] 436)=w0)
 (HT:Hid (∀W,aW w0 W→Calls Tryz.prog 158 #[.pointer (some ⟨sb,0,none⟩)] W fun e w'=>e=.returned (.pointer (some ⟨fa,fj,none⟩))∧aW w0 w'))
 (HP:Hid (∀W,aW w0 W→Calls Tryz.prog 171 #[.pointer (some ⟨fa,fj,none⟩)] W fun e w'=>∃t z,e=.returned (.iface t z)∧Q1 t z w'))
 (HV:Hid (∀W t z,Q1 t z W→Calls Tryz.prog 385 #[.iface t z] W fun e w'=>(∃b,e=.returned (.bool b)∧Q2 b w')∨(e=fE 2∧S w')))
 (HU:Hid (∀W b,Q2 b W→Calls Tryz.prog 371 #[.pointer (some ⟨fa,fj,none⟩),.iface 316 (.bool b)] W fun e w'=>e=.returned (.tuple #[])∧P w')):
 Calls Tryz.prog 396 #[.agg #[],.pointer (some ⟨sb,0,none⟩)] w fun e w'=>(e=.returned (.tuple #[])∧P w')∨(e=fE 2∧S w'):=by
 have HW:=aB hW;clear hW;go_enter Tryz.func396,Tryz.ntmps396;go_wp2_with fail;rw[HW.out];refine(HT.out _ (aW.refl _)).mono ?_;rintro e w1 ⟨rfl,hs1⟩;go_wp2_with fail;refine(HP.out _ hs1).mono ?_;rintro e w2 ⟨t,z,rfl,h2⟩;have h3:=aB (HV.out _ t z h2);clear h2;go_wp2_with fail;refine h3.out.mono ?_;rintro e w3 (⟨b,rfl,h3⟩|⟨rfl,h3⟩)
 ·have h4:=aB (HU.out _ b h3);clear h3;go_wp2_with fail;refine h4.out.mono ?_;rintro e w4 ⟨rfl,h4⟩;go_wp2_with fail;go_end0;exact Or.inl ⟨rfl,h4⟩
 ·go_wp2_with fail;exact⟨rfl,Or.inr ⟨rfl,h3⟩⟩
theorem CF(w w0:World)(sb fa fj tg:Nat)(P S:World→Prop)(Q1:TypeId→Value→World→Prop)(Q2:Bool→World→Prop)(hW:w.alloc (.cells #[.int .i64 tg] 461)=w0)
 (HT:Hid (∀W,aW w0 W→Calls Tryz.prog 158 #[.pointer (some ⟨sb,0,none⟩)] W fun e w'=>e=.returned (.pointer (some ⟨fa,fj,none⟩))∧aW w0 w'))
 (HP:Hid (∀W,aW w0 W→Calls Tryz.prog 171 #[.pointer (some ⟨fa,fj,none⟩)] W fun e w'=>∃t z,e=.returned (.iface t z)∧Q1 t z w'))
 (HV:Hid (∀W t z,Q1 t z W→Calls Tryz.prog 385 #[.iface t z] W fun e w'=>(∃b,e=.returned (.bool b)∧Q2 b w')∨(e=fE 2∧S w')))
 (HQ:Hid (∀W,Q2 true W→P W)) (HN:Hid (∀W,Q2 false W→P (W.setCell ⟨fa,fj+1,none⟩ (.int .i64 tg))))
 (HB:Hid (∀W b,Q2 b W→W.cell? ⟨w.heap.size,0,none⟩=some (.int .i64 tg)∧w.heap.size<W.heap.size∧(∃u,W.cell? ⟨fa,fj+1,none⟩=some u)∧W.frozen? ⟨fa,fj+1,none⟩=false∧fa<W.heap.size)):
 Calls Tryz.prog 411 #[.agg #[.int .i64 tg],.pointer (some ⟨sb,0,none⟩)] w fun e w'=>(e=.returned (.tuple #[])∧P w')∨(e=fE 2∧S w'):=by
 have HW:=aB hW;clear hW;go_enter Tryz.func411,Tryz.ntmps411;go_wp2_with fail;rw[HW.out];refine(HT.out _ (aW.refl _)).mono ?_;rintro e w1 ⟨rfl,hs1⟩;go_wp2_with fail;refine(HP.out _ hs1).mono ?_;rintro e w2 ⟨t,z,rfl,h2⟩;have h3:=aB (HV.out _ t z h2);clear h2;go_wp2_with fail;refine h3.out.mono ?_;rintro e w3 (⟨b,rfl,h3⟩|⟨rfl,h3⟩)
 ·obtain⟨c1,c2,⟨u,c3⟩,c4,c5⟩:=HB.out _ b h3;cases b with
  |false=>
   have h4:=aB (HN.out _ h3);clear h3;go_wp2_with fail;go_end0;exact Or.inl ⟨rfl,h4.out⟩
  |true=>
   have h4:=aB (HQ.out _ h3);clear h3;go_wp2_with fail;go_end0;exact Or.inl ⟨rfl,h4.out⟩
 ·go_wp2_with fail;exact⟨rfl,Or.inr ⟨rfl,h3⟩⟩
theorem MP(w w0:World)(sb fa fj tg:Nat)(P:World→Prop)(hW:w.alloc (.cells #[.int .i64 tg] 462)=w0)
 (HT:Hid (∀W,aW w0 W→Calls Tryz.prog 158 #[.pointer (some ⟨sb,0,none⟩)] W fun e w'=>e=.returned (.pointer (some ⟨fa,fj,none⟩))∧aW w0 w'))
 (hc:∃u,w0.cell? ⟨fa,fj+1,none⟩=some u) (hf:w0.frozen? ⟨fa,fj+1,none⟩=false) (hl:fa<w0.heap.size)
 (HN:Hid (∀W,aW w0 W→P (W.setCell ⟨fa,fj+1,none⟩ (.int .i64 tg)))):
 Calls Tryz.prog 412 #[.agg #[.int .i64 tg],.pointer (some ⟨sb,0,none⟩)] w fun e w'=>e=.returned (.tuple #[])∧P w':=by
 have hbox:(w.alloc (.cells #[.int .i64 tg] 462)).heap[w.heap.size]?=some (.cells #[.int .i64 tg] 462 (0,0)):=aR _ _ rfl _;rw[hW] at hbox;have HW:=aB hW;have c0:w0.cell? ⟨w.heap.size,0,none⟩=some (.int .i64 tg):=aA hbox rfl;have HC0:=aB c0;have hlt:=aD hbox;obtain⟨u,hc⟩:=hc;have HC:=aB hc;have HF:=aB hf;clear hW hbox hc hf;go_enter Tryz.func412,Tryz.ntmps412;go_wp2_with fail;rw[HW.out];go_region_law (go_simp;go_at_call 158;refine(HT.out _ (aW.drew _)).mono ?_;rintro e w1 ⟨rfl,hs1⟩;have c1:=cQ hs1.heap HC0.out;have c2:=cQ hs1.heap HC.out;have c3:=pS hs1.heap HF.out;have hl1:=jI hs1.heap hlt;have hl2:=jI hs1.heap hl)
 all_goals
  go_wp2_with fail;go_end0;exact⟨rfl,HN.out _ hs1⟩
theorem xP(w w0:World)(sb fa fj tg:Nat)(wh:Bool)(P S:World→Prop)(Q1:TypeId→Value→World→Prop)(Q2 Q3:Bool→World→Prop)(hW:w.alloc (.cells #[.bool wh,.int .i64 tg] 438)=w0)
 (HT:Hid (∀W,aW w0 W→Calls Tryz.prog 158 #[.pointer (some ⟨sb,0,none⟩)] W fun e w'=>e=.returned (.pointer (some ⟨fa,fj,none⟩))∧aW w0 w'))
 (HP:Hid (∀W,aW w0 W→Calls Tryz.prog 171 #[.pointer (some ⟨fa,fj,none⟩)] W fun e w'=>∃t z,e=.returned (.iface t z)∧Q1 t z w'))
 (HV:Hid (∀W t z,Q1 t z W→Calls Tryz.prog 385 #[.iface t z] W fun e w'=>(∃b,e=.returned (.bool b)∧Q2 b w')∨(e=fE 2∧S w')))
 (HU:Hid (∀W b,Q2 b W→Calls Tryz.prog 371 #[.pointer (some ⟨fa,fj,none⟩),.iface 316 (.bool b)] W fun e w'=>e=.returned (.tuple #[])∧Q3 b w'))
 (HQ:Hid (∀W b,Q2 b W→b≠wh→P W)) (HN:Hid (∀W b,Q3 b W→b=wh→P (W.setCell ⟨fa,fj+1,none⟩ (.int .i64 tg))))
 (HB2:Hid (∀W b,Q2 b W→W.cell? ⟨w.heap.size,0,none⟩=some (.bool wh)∧w.heap.size<W.heap.size))
 (HB:Hid (∀W b,Q3 b W→W.cell? ⟨w.heap.size,1,none⟩=some (.int .i64 tg)∧w.heap.size<W.heap.size∧(∃u,W.cell? ⟨fa,fj+1,none⟩=some u)∧W.frozen? ⟨fa,fj+1,none⟩=false∧fa<W.heap.size)):
 Calls Tryz.prog 397 #[.agg #[.bool wh,.int .i64 tg],.pointer (some ⟨sb,0,none⟩)] w fun e w'=>(e=.returned (.tuple #[])∧P w')∨(e=fE 2∧S w'):=by
 have HW:=aB hW;clear hW;go_enter Tryz.func397,Tryz.ntmps397;go_wp2_with fail;rw[HW.out];refine(HT.out _ (aW.refl _)).mono ?_;rintro e w1 ⟨rfl,hs1⟩;go_wp2_with fail;refine(HP.out _ hs1).mono ?_;rintro e w2 ⟨t,z,rfl,h2⟩;have h3:=aB (HV.out _ t z h2);clear h2;go_wp2_with fail;refine h3.out.mono ?_;rintro e w3 (⟨b,rfl,h3⟩|⟨rfl,h3⟩)
 ·obtain⟨c1,c2⟩:=HB2.out _ b h3;by_cases hb:b=wh
  ·subst hb;have h4:=aB (HU.out _ b h3);clear h3;cases b with
   |true=>
    go_wp2_with fail;refine h4.out.mono ?_;rintro e w4 ⟨rfl,h4⟩;obtain⟨d1,d2,⟨u,d3⟩,d4,d5⟩:=HB.out _ _ h4;have h5:=aB (HN.out _ _ h4 rfl);clear h4;go_wp2_with fail;go_end0;exact Or.inl ⟨rfl,h5.out⟩
   |false=>
    go_wp2_with fail;refine h4.out.mono ?_;rintro e w4 ⟨rfl,h4⟩;obtain⟨d1,d2,⟨u,d3⟩,d4,d5⟩:=HB.out _ _ h4;have h5:=aB (HN.out _ _ h4 rfl);clear h4;go_wp2_with fail;go_end0;exact Or.inl ⟨rfl,h5.out⟩
  ·have h4:=aB (HQ.out _ b h3 hb);clear h3;cases b<;>cases wh<;>first|exact absurd rfl hb|(clear hb;go_wp2_with fail;go_end0;exact Or.inl ⟨rfl,h4.out⟩)
 ·go_wp2_with fail;exact⟨rfl,Or.inr ⟨rfl,h3⟩⟩
theorem EE(w w0:World)(sb fa fj:Nat)(op:List UInt8)(k:Nat)(P S:World→Prop)(Q1:TypeId→Value→World→Prop)(Q2:TypeId→Value→TypeId→Value→World→Prop)(Q3:TypeId→Value→World→Prop)(hW:w.alloc (.cells #[.string (bs op)] 435)=w0)
 (HT:Hid (∀W,aW w0 W→Calls Tryz.prog 158 #[.pointer (some ⟨sb,0,none⟩)] W fun e w'=>e=.returned (.pointer (some ⟨fa,fj,none⟩))∧aW w0 w'))
 (HP:Hid (∀W,aW w0 W→Calls Tryz.prog 171 #[.pointer (some ⟨fa,fj,none⟩)] W fun e w'=>∃t z,e=.returned (.iface t z)∧Q1 t z w'))
 (HP2:Hid (∀W t z,Q1 t z W→Calls Tryz.prog 171 #[.pointer (some ⟨fa,fj,none⟩)] W fun e w'=>∃t' z',e=.returned (.iface t' z')∧Q2 t z t' z' w'))
 (HB:Hid (∀W t z t' z',Q2 t z t' z' W→W.cell? ⟨w.heap.size,0,none⟩=some (.string (bs op))∧w.heap.size<W.heap.size))
 (HV:Hid (∀W t z t' z',Q2 t z t' z' W→Calls Tryz.prog 388 #[.string (bs op),.iface t' z',.iface t z] W fun e w'=>(∃t1 z1,e=.returned (.iface t1 z1)∧Q3 t1 z1 w')∨(e=fE k∧S w')))
 (HU:Hid (∀W t z,Q3 t z W→Calls Tryz.prog 371 #[.pointer (some ⟨fa,fj,none⟩),.iface t z] W fun e w'=>e=.returned (.tuple #[])∧P w')):
 Calls Tryz.prog 387 #[.agg #[.string (bs op)],.pointer (some ⟨sb,0,none⟩)] w fun e w'=>(e=.returned (.tuple #[])∧P w')∨(e=fE k∧S w'):=by
 have HW:=aB hW;clear hW;go_enter Tryz.func387,Tryz.ntmps387;go_wp2_with fail;rw[HW.out];refine(HT.out _ (aW.refl _)).mono ?_;rintro e w1 ⟨rfl,hs1⟩;go_wp2_with fail;refine(HP.out _ hs1).mono ?_;rintro e w2 ⟨t,z,rfl,h2⟩;have h3:=aB (HP2.out _ t z h2);clear h2;go_wp2_with fail;refine h3.out.mono ?_;rintro e w3 ⟨t',z',rfl,h4⟩;obtain⟨c1,c2⟩:=HB.out _ _ _ _ _ h4;have h5:=aB (HV.out _ _ _ _ _ h4);clear h4;go_wp2_with fail;refine h5.out.mono ?_;rintro e w4 (⟨t1,z1,rfl,h6⟩|⟨rfl,h6⟩)
 ·have h7:=aB (HU.out _ _ _ h6);clear h6;go_wp2_with fail;refine h7.out.mono ?_;rintro e w5 ⟨rfl,h8⟩;go_wp2_with fail;go_end0;exact Or.inl ⟨rfl,h8⟩
 ·go_wp2_with fail;exact⟨rfl,Or.inr ⟨rfl,h6⟩⟩
theorem IV(w w0:World)(sb fa fj:Nat)(k:Nat)(P S:World→Prop)(Q1:TypeId→Value→World→Prop)(Q2:TypeId→Value→TypeId→Value→World→Prop)(Q3:TypeId→Value→World→Prop)(hW:w.alloc (.cells #[] 405)=w0)
 (HT:Hid (∀W,aW w0 W→Calls Tryz.prog 158 #[.pointer (some ⟨sb,0,none⟩)] W fun e w'=>e=.returned (.pointer (some ⟨fa,fj,none⟩))∧aW w0 w'))
 (HP:Hid (∀W,aW w0 W→Calls Tryz.prog 171 #[.pointer (some ⟨fa,fj,none⟩)] W fun e w'=>∃t z,e=.returned (.iface t z)∧Q1 t z w'))
 (HP2:Hid (∀W t z,Q1 t z W→Calls Tryz.prog 171 #[.pointer (some ⟨fa,fj,none⟩)] W fun e w'=>∃t' z',e=.returned (.iface t' z')∧Q2 t z t' z' w'))
 (HV:Hid (∀W t z t' z',Q2 t z t' z' W→Calls Tryz.prog 381 #[.iface t' z',.iface t z] W fun e w'=>(∃t1 z1,e=.returned (.iface t1 z1)∧Q3 t1 z1 w')∨(e=fE k∧S w')))
 (HU:Hid (∀W t z,Q3 t z W→Calls Tryz.prog 371 #[.pointer (some ⟨fa,fj,none⟩),.iface t z] W fun e w'=>e=.returned (.tuple #[])∧P w')):
 Calls Tryz.prog 380 #[.agg #[],.pointer (some ⟨sb,0,none⟩)] w fun e w'=>(e=.returned (.tuple #[])∧P w')∨(e=fE k∧S w'):=by
 have HW:=aB hW;clear hW;go_enter Tryz.func380,Tryz.ntmps380;go_wp2_with fail;rw[HW.out];refine(HT.out _ (aW.refl _)).mono ?_;rintro e w1 ⟨rfl,hs1⟩;go_wp2_with fail;refine(HP.out _ hs1).mono ?_;rintro e w2 ⟨t,z,rfl,h2⟩;have h3:=aB (HP2.out _ t z h2);clear h2;go_wp2_with fail;refine h3.out.mono ?_;rintro e w3 ⟨t',z',rfl,h4⟩;have h5:=aB (HV.out _ _ _ _ _ h4);clear h4;go_wp2_with fail;refine h5.out.mono ?_;rintro e w4 (⟨t1,z1,rfl,h6⟩|⟨rfl,h6⟩)
 ·have h7:=aB (HU.out _ _ _ h6);clear h6;go_wp2_with fail;refine h7.out.mono ?_;rintro e w5 ⟨rfl,h8⟩;go_wp2_with fail;go_end0;exact Or.inl ⟨rfl,h8⟩
 ·go_wp2_with fail;exact⟨rfl,Or.inr ⟨rfl,h6⟩⟩
theorem DJ(w w0:World)(sb fa fj:Nat)(k:Nat)(P S:World→Prop)(Q1 Q3:TypeId→Value→World→Prop)(hW:w.alloc (.cells #[] 439)=w0)
 (HT:Hid (∀W,aW w0 W→Calls Tryz.prog 158 #[.pointer (some ⟨sb,0,none⟩)] W fun e w'=>e=.returned (.pointer (some ⟨fa,fj,none⟩))∧aW w0 w'))
 (HP:Hid (∀W,aW w0 W→Calls Tryz.prog 171 #[.pointer (some ⟨fa,fj,none⟩)] W fun e w'=>∃t z,e=.returned (.iface t z)∧Q1 t z w'))
 (HV:Hid (∀W t z,Q1 t z W→Calls Tryz.prog 399 #[.iface t z] W fun e w'=>(∃t1 z1,e=.returned (.iface t1 z1)∧Q3 t1 z1 w')∨(e=fE k∧S w')))
 (HU:Hid (∀W t z,Q3 t z W→Calls Tryz.prog 371 #[.pointer (some ⟨fa,fj,none⟩),.iface t z] W fun e w'=>e=.returned (.tuple #[])∧P w')):
 Calls Tryz.prog 398 #[.agg #[],.pointer (some ⟨sb,0,none⟩)] w fun e w'=>(e=.returned (.tuple #[])∧P w')∨(e=fE k∧S w'):=by
 have HW:=aB hW;clear hW;go_enter Tryz.func398,Tryz.ntmps398;go_wp2_with fail;rw[HW.out];refine(HT.out _ (aW.refl _)).mono ?_;rintro e w1 ⟨rfl,hs1⟩;go_wp2_with fail;refine(HP.out _ hs1).mono ?_;rintro e w2 ⟨t,z,rfl,h2⟩;have h5:=aB (HV.out _ t z h2);clear h2;go_wp2_with fail;refine h5.out.mono ?_;rintro e w4 (⟨t1,z1,rfl,h6⟩|⟨rfl,h6⟩)
 ·have h7:=aB (HU.out _ _ _ h6);clear h6;go_wp2_with fail;refine h7.out.mono ?_;rintro e w5 ⟨rfl,h8⟩;go_wp2_with fail;go_end0;exact Or.inl ⟨rfl,h8⟩
 ·go_wp2_with fail;exact⟨rfl,Or.inr ⟨rfl,h6⟩⟩
theorem MJ(w w0:World)(sb fa fj c:Nat)(k:Nat)(P S:World→Prop)(Q1:Option Addr→Nat→World→Prop)(Q3:TypeId→Value→World→Prop)(hW:w.alloc (.cells #[.int .i64 c] 404)=w0)
 (HT:Hid (∀W,aW w0 W→Calls Tryz.prog 158 #[.pointer (some ⟨sb,0,none⟩)] W fun e w'=>e=.returned (.pointer (some ⟨fa,fj,none⟩))∧aW w0 w'))
 (HP:Hid (∀W,aW w0 W→Calls Tryz.prog 377 #[.pointer (some ⟨fa,fj,none⟩),.int .i64 c] W fun e w'=>∃x d,e=.returned (.slice x c d)∧Q1 x d w'))
 (HV:Hid (∀W x d,Q1 x d W→Calls Tryz.prog 376 #[.slice x c d] W fun e w'=>(∃t1 z1,e=.returned (.iface t1 z1)∧Q3 t1 z1 w')∨(e=fE k∧S w')))
 (HU:Hid (∀W t z,Q3 t z W→Calls Tryz.prog 371 #[.pointer (some ⟨fa,fj,none⟩),.iface t z] W fun e w'=>e=.returned (.tuple #[])∧P w')):
 Calls Tryz.prog 375 #[.agg #[.int .i64 c],.pointer (some ⟨sb,0,none⟩)] w fun e w'=>(e=.returned (.tuple #[])∧P w')∨(e=fE k∧S w'):=by
 have hbox:(w.alloc (.cells #[.int .i64 c] 404)).heap[w.heap.size]?=some (.cells #[.int .i64 c] 404 (0,0)):=aR _ _ rfl _;rw[hW] at hbox;have HW:=aB hW;have HC0:=aB (aA (i:=0) hbox rfl);have hlt:=aD hbox;clear hW hbox;go_enter Tryz.func375,Tryz.ntmps375;go_wp2_with fail;rw[HW.out];refine(HT.out _ (aW.refl _)).mono ?_;rintro e w1 ⟨rfl,hs1⟩;have c1:=cQ hs1.heap HC0.out;have hl1:=jI hs1.heap hlt;go_wp2_with fail;refine(HP.out _ hs1).mono ?_;rintro e w2 ⟨x,d,rfl,h2⟩;have h5:=aB (HV.out _ x d h2);clear h2;go_wp2_with fail;refine h5.out.mono ?_;rintro e w4 (⟨t1,z1,rfl,h6⟩|⟨rfl,h6⟩)
 ·have h7:=aB (HU.out _ _ _ h6);clear h6;go_wp2_with fail;refine h7.out.mono ?_;rintro e w5 ⟨rfl,h8⟩;go_wp2_with fail;go_end0;exact Or.inl ⟨rfl,h8⟩
 ·go_wp2_with fail;exact⟨rfl,Or.inr ⟨rfl,h6⟩⟩
theorem TA{P:Program}{ops:Array Oper}{o:Oper}{a:Act}{w:World}{K:Act→World→Prop}{Q:Exit→Act→World→Prop}{E:Prop}(v0:Value)
 (h:if Region.wanted o (yielded ops a.tmps)=true then Oper.wp P o a w K Q else E) (_d:Hid False→K (a.put o.dst v0) w):
 if Region.wanted o (yielded ops a.tmps)=true then Oper.wp P o a w K Q else E:=h
theorem PA(w w0:World)(sb fa fj:Nat)(op:List UInt8)(P:World→Prop)(Q1 Q3:TypeId→Value→World→Prop)(hW:w.alloc (.cells #[.string (bs op)] 407)=w0)
 (HT:Hid (∀W,aW w0 W→Calls Tryz.prog 158 #[.pointer (some ⟨sb,0,none⟩)] W fun e w'=>e=.returned (.pointer (some ⟨fa,fj,none⟩))∧aW w0 w'))
 (HP:Hid (∀W,aW w0 W→Calls Tryz.prog 171 #[.pointer (some ⟨fa,fj,none⟩)] W fun e w'=>∃t z,e=.returned (.iface t z)∧Q1 t z w'))
 (HB:Hid (∀W t z,Q1 t z W→W.cell? ⟨w.heap.size,0,none⟩=some (.string (bs op))∧w.heap.size<W.heap.size))
 (HV:Hid (∀W t z,Q1 t z W→Calls Tryz.prog 384 #[.string (bs op),.iface t z] W fun e w'=>∃t1 z1,e=.returned (.iface t1 z1)∧Q3 t1 z1 w'))
 (HU:Hid (∀W t z,Q3 t z W→Calls Tryz.prog 371 #[.pointer (some ⟨fa,fj,none⟩),.iface t z] W fun e w'=>e=.returned (.tuple #[])∧P w')):
 Calls Tryz.prog 383 #[.agg #[.string (bs op)],.pointer (some ⟨sb,0,none⟩)] w fun e w'=>e=.returned (.tuple #[])∧P w':=by
 have hbox:(w.alloc (.cells #[.string (bs op)] 407)).heap[w.heap.size]?=some (.cells #[.string (bs op)] 407 (0,0)):=aR _ _ rfl _;rw[hW] at hbox;have HW:=aB hW;have HC0:=aB (aA (i:=0) hbox rfl);have hlt:=aD hbox;clear hW hbox;go_enter Tryz.func383,Tryz.ntmps383;go_wp2_with fail;rw[HW.out];refine(HT.out _ (aW.refl _)).mono ?_;rintro e w1 ⟨rfl,hs1⟩;have c1:=cQ hs1.heap HC0.out;have hl1:=jI hs1.heap hlt;go_wp2_with fail;go_region_law (go_simp;first|(go_at_call 171;refine(HP.out _ (hs1.trans (aW.drew _))).mono ?_;rintro e w2 ⟨t,z,rfl,h2⟩;have hb2:=HB.out _ _ _ h2;have b1:=hb2.1;have b2:=hb2.2;clear hb2)|(go_at_call 384;refine(HV.out _ _ _ h2).mono ?_;rintro e w3 ⟨t1,z1,rfl,h3⟩)|(go_at_call 371;refine(HU.out _ _ _ h3).mono ?_;rintro e w4 ⟨rfl,h4⟩))
 all_goals
  go_wp2_with fail;go_end0;exact⟨rfl,h4⟩
theorem GC(w w0:World)(sb fa fj:Nat)(op:List UInt8)(k:Nat)(S:World→Prop)(Q1:TypeId→Value→World→Prop)(hW:w.alloc (.cells #[.string (bs op)] 407)=w0)
 (HT:Hid (∀W,aW w0 W→Calls Tryz.prog 158 #[.pointer (some ⟨sb,0,none⟩)] W fun e w'=>e=.returned (.pointer (some ⟨fa,fj,none⟩))∧aW w0 w'))
 (HP:Hid (∀W,aW w0 W→Calls Tryz.prog 171 #[.pointer (some ⟨fa,fj,none⟩)] W fun e w'=>∃t z,e=.returned (.iface t z)∧Q1 t z w'))
 (HB:Hid (∀W t z,Q1 t z W→W.cell? ⟨w.heap.size,0,none⟩=some (.string (bs op))∧w.heap.size<W.heap.size))
 (HV:Hid (∀W t z,Q1 t z W→Calls Tryz.prog 384 #[.string (bs op),.iface t z] W fun e w'=>e=fE k∧S w')):
 Calls Tryz.prog 383 #[.agg #[.string (bs op)],.pointer (some ⟨sb,0,none⟩)] w fun e w'=>e=fE k∧S w':=by
 have hbox:(w.alloc (.cells #[.string (bs op)] 407)).heap[w.heap.size]?=some (.cells #[.string (bs op)] 407 (0,0)):=aR _ _ rfl _;rw[hW] at hbox;have HW:=aB hW;have HC0:=aB (aA (i:=0) hbox rfl);have hlt:=aD hbox;clear hW hbox;go_enter Tryz.func383,Tryz.ntmps383;go_wp2_with fail;rw[HW.out];refine(HT.out _ (aW.refl _)).mono ?_;rintro e w1 ⟨rfl,hs1⟩;have c1:=cQ hs1.heap HC0.out;have hl1:=jI hs1.heap hlt;go_wp2_with fail;go_region_law (first|(go_simp;go_at_call 171;refine(HP.out _ (hs1.trans (aW.drew _))).mono ?_;rintro e w2 ⟨t,z,rfl,h2⟩;have hb2:=HB.out _ _ _ h2;have b1:=hb2.1;have b2:=hb2.2;clear hb2)|(refine TA (.iface 316 (.bool true)) ?_ ?_;(focus go_simp;go_at_call 384;refine(HV.out _ _ _ h2).mono ?_;rintro e w3 ⟨rfl,h3⟩;exact⟨rfl,rfl,h3⟩);intro hfalse)|(refine TA (.tuple #[]) hfalse.out.elim ?_;intro hfalse2))
 all_goals exact hfalse.out.elim
theorem MI(w w0:World)(sb fa fj sl g n cap:Nat)(t:TypeId)(z:Value)(P:World→Prop)(hW:w.alloc (.cells #[.int .i64 sl] 402)=w0)
 (HT:Hid (∀W,aW w0 W→Calls Tryz.prog 158 #[.pointer (some ⟨sb,0,none⟩)] W fun e w'=>e=.returned (.pointer (some ⟨fa,fj,none⟩))∧aW w0 w'))
 (hv:w0.cell? ⟨fa,fj+4,none⟩=some (.slice (some ⟨g,0,none⟩) n cap)) (hx:w0.cell? ⟨g,sl,none⟩=some (.iface t z)) (hsl:sl<n)
 (HU:Hid (∀W,aW w0 W→Calls Tryz.prog 371 #[.pointer (some ⟨fa,fj,none⟩),.iface t z] W fun e w'=>e=.returned (.tuple #[])∧P w')):
 Calls Tryz.prog 374 #[.agg #[.int .i64 sl],.pointer (some ⟨sb,0,none⟩)] w fun e w'=>e=.returned (.tuple #[])∧P w':=by
 have hbox:(w.alloc (.cells #[.int .i64 sl] 402)).heap[w.heap.size]?=some (.cells #[.int .i64 sl] 402 (0,0)):=aR _ _ rfl _;rw[hW] at hbox;have HW:=aB hW;have HC0:=aB (aA (i:=0) hbox rfl);have hlt:=aD hbox;have HC1:=aB hv;have HC2:=aB hx;have e1:(0:Int)≤(sl:Int):=by omega
 have e2:(sl:Int)<(n:Int):=by omega
 clear hW hbox hv hx;go_enter Tryz.func374,Tryz.ntmps374;go_wp2_with fail;rw[HW.out];have c0:=HC0.out;go_region_law (go_simp;first|(go_at_call 158;refine(HT.out _ (by first|assumption|exact aW.drew _)).mono ?_;rintro e w1 ⟨rfl,hs1⟩;have c1:=cQ hs1.heap HC0.out;have hl1:=jI hs1.heap hlt;have c2:=cQ hs1.heap HC1.out;have c3:=cQ hs1.heap HC2.out)|(go_at_call 371;refine(HU.out _ hs1).mono ?_;rintro e w4 ⟨rfl,h4⟩))
 all_goals
  go_wp2_with fail;go_end0;exact⟨rfl,h4⟩
theorem JW(w w0:World)(sb fa fj ln:Nat)(sp:Option Addr)(P:World→Prop)(hW:w.alloc (.cells #[.int .i64 ln,.pointer sp] 365)=w0)
 (HT:Hid (∀W,aW w0 W→Calls Tryz.prog 158 #[.pointer (some ⟨sb,0,none⟩)] W fun e w'=>e=.returned (.pointer (some ⟨fa,fj,none⟩))∧aW w0 w'))
 (hc2:∃u,w0.cell? ⟨fa,fj+2,none⟩=some u) (hc3:∃u,w0.cell? ⟨fa,fj+3,none⟩=some u) (hf2:w0.frozen? ⟨fa,fj+2,none⟩=false) (hf3:w0.frozen? ⟨fa,fj+3,none⟩=false) (hl:fa<w0.heap.size)
 (HN:Hid (∀W,aW w0 W→P ((W.setCell ⟨fa,fj+2,none⟩ (.int .i64 ln)).setCell ⟨fa,fj+3,none⟩ (.pointer sp)))):
 Calls Tryz.prog 373 #[.agg #[.int .i64 ln,.pointer sp],.pointer (some ⟨sb,0,none⟩)] w fun e w'=>e=.returned (.tuple #[])∧P w':=by
 have hbox:(w.alloc (.cells #[.int .i64 ln,.pointer sp] 365)).heap[w.heap.size]?=some (.cells #[.int .i64 ln,.pointer sp] 365 (0,0)):=aR _ _ rfl _;rw[hW] at hbox;have HW:=aB hW;have HC0:=aB (aA (i:=0) hbox rfl);have HC1:=aB (aA (i:=1) hbox rfl);have hlt:=aD hbox;obtain⟨u2,hc2⟩:=hc2;obtain⟨u3,hc3⟩:=hc3;have HC2:=aB hc2;have HC3:=aB hc3;have HF2:=aB hf2;have HF3:=aB hf3;have c0:=HC0.out;have c1:=HC1.out;clear hW hbox hc2 hc3 hf2 hf3;go_enter Tryz.func373,Tryz.ntmps373;go_wp2_with fail;rw[HW.out];go_region_law (go_simp;go_at_call 158;refine(HT.out _ (aW.drew _)).mono ?_;rintro e w1 ⟨rfl,hs1⟩;have d0:=cQ hs1.heap HC0.out;have d1:=cQ hs1.heap HC1.out;have d2:=cQ hs1.heap HC2.out;have d3:=cQ hs1.heap HC3.out;have d4:=pS hs1.heap HF2.out;have d5:=pS hs1.heap HF3.out;have hl1:=jI hs1.heap hlt;have hl2:=jI hs1.heap hl)
 all_goals
  go_wp2_with fail;go_end0;exact⟨rfl,HN.out _ hs1⟩
theorem jL(n:Int):aJ (bB n)=1:=by rw[eN];rfl
theorem kT(b:Bool):aJ (bL b)=1:=by rw[eN];rfl
theorem iN:aJ bK≤200:=by rw[eN];decide
theorem VU(op:List UInt8)(a:aI):aJ (fB op a).1≤200:=by
 unfold fB;repeat' split
 all_goals first|(show aJ (bB _)≤200;rw[jL];omega)|(show aJ (bL _)≤200;rw[kT];omega)|exact iN
theorem RK(op:List UInt8)(x y:Int):aJ (iL op x y).1≤200:=by
 unfold iL;repeat' split
 all_goals first|(show aJ (bB _)≤200;rw[jL];omega)|(show aJ (bL _)≤200;rw[kT];omega)|exact iN
theorem IT(a b:aI):aJ (iK a b).1≤200:=by
 unfold iK;dsimp only;by_cases h:200<aJ (if a.sort=3 then aU (a.l++b.l) else bH (a.s++b.s))
 ·rw[if_pos h];exact iN
 ·rw[if_neg h];exact Nat.le_of_not_lt h
theorem UI(op:List UInt8)(a b:aI):aJ (eG op a b).1≤200:=by
 unfold eG;repeat' split
 all_goals first|exact RK _ _ _|exact IT _ _|(show aJ (bL _)≤200;rw[kT];omega)|exact iN
theorem ML(r:aI × Nat)(h:(gO r).2=0):aJ (gO r).1≤200:=by
 unfold gO at h ⊢
 by_cases h1:r.2=0
 ·rw[if_pos h1] at h ⊢
  by_cases h2:200<aJ r.1
  ·rw[if_pos h2] at h;cases h
  ·rw[if_neg h2];omega
 ·rw[if_neg h1] at h;exact absurd h h1
theorem PV.bool{F:Nat→Prop}{w:World}{v:Value}{a:aI}(h:PV F w v a)(hs:a.sort=1):a=bL (decide (a.n=1)):=by
 rcases h.cases with ⟨n,_,rfl,_⟩|⟨b,_,rfl⟩|⟨s,_,rfl⟩|⟨x,c,l,_,rfl,_⟩
 ·simp[bB] at hs
 ·cases b<;>rfl
 ·simp[bH] at hs
 ·simp[aU] at hs
theorem iF{f:aK}{vs:List aI}{a:aI}(h:f.ops=vs++[a]):f.last=a:=by simp[aK.last,h]
theorem lK{f:aK}{vs:List aI}{a:aI}(h:f.ops=vs++[a]):f.pop.ops=vs:=by simp[aK.pop,h]
def mZ(fp:Nat→Value)(F:Nat→Prop)(base sb:Nat)(t0 s0:Value)(own:List Nat)(w:World)(below:List aK)(tape:List Int)(out:List (List UInt8))(r:aK × Nat)(e:Ending)(w':World):Prop:=
 R5 r.2 e∧Done fp F base sb t0 s0 own w ⟨below++[r.1],tape,out⟩ w'
section
variable {fp:Nat→Value} {F:Nat→Prop} {base:Nat} {w:World} {sb gf cap:Nat} {t0 tv outv s0:Value} {fvs:List FVal} {below:List aK} {f:aK} {tape:List Int} {out:List (List UInt8)}
theorem mZ.ok{own:List Nat}{r:aK × Nat}{g:aK}{w':World}(hr:r=(g,0))(h:Done fp F base sb t0 s0 own w ⟨below++[g],tape,out⟩ w'):mZ fp F base sb t0 s0 own w below tape out r (.returned (.tuple #[])) w':=by
 subst hr;exact⟨Or.inl ⟨rfl,rfl⟩,h⟩
theorem mZ.stop{own:List Nat}{r:aK × Nat}{g:aK}{k:Nat}{w':World}(hr:r=(g,k))(hk:k≠0)(h:Done fp F base sb t0 s0 own w ⟨below++[g],tape,out⟩ w'):mZ fp F base sb t0 s0 own w below tape out r (fE k) w':=by
 subst hr;exact⟨Or.inr ⟨hk,rfl⟩,h⟩
theorem cO.count{m:cM}(h:cO fp F base w sb gf cap t0 tv outv s0 fvs m):fvs.length=m.frames.length:=h.frs.length
theorem cO.mid(h:cO fp F base w sb gf cap t0 tv outv s0 fvs ⟨below++[f],tape,out⟩)(hb:base≤w.heap.size)(ob:Obj):Mid fp base sb gf below.length t0 s0 (aF sb gf outv fvs) (w.alloc ob) F ⟨below++[f],tape,out⟩ (w.alloc ob):=
 Mid.init h (by rw[h.count];simp) hb ob
theorem Mid.topS{own:List Nat}{w0:World}{G:Nat→Prop}{n:Nat}{m:cM}(h:Mid fp base sb gf n t0 s0 own w0 G m w0)(hn:n≤15):Hid (∀W,aW w0 W→Calls Tryz.prog 158 #[.pointer (some ⟨sb,0,none⟩)] W fun e w'=>e=.returned (.pointer (some ⟨gf,n*6,none⟩))∧aW w0 w'):=fun W hS=>by
 refine((h.same hS).top hn).mono ?_;rintro e w' ⟨he,hs⟩;exact⟨he,hS.trans hs⟩
theorem Mid.box{n:Nat}{G:Nat→Prop}{m:cM}{cs:Array Value}{ty:TypeId}{W:World}(h:cO fp F base w sb gf cap t0 tv outv s0 fvs ⟨below++[f],tape,out⟩)(hM:Mid fp base sb gf n t0 s0 (aF sb gf outv fvs) (w.alloc (.cells cs ty)) G m W):W.heap[w.heap.size]?=some (.cells cs ty (0,0)):=by
 rw[hM.old (by simp) (fun hm=>Nat.lt_irrefl _ (h.lt _ hm))]
 exact aR _ _ rfl _
theorem M6(h:cO fp F base w sb gf cap t0 tv outv s0 fvs ⟨below++[f],tape,out⟩)(hbel:below.length≤15)(hbase:base≤w.heap.size)(hops:f.ops.length≤99000)(hne:∃vs a,f.ops=vs++[a]):
 Calls Tryz.prog 410 #[.agg #[],.pointer (some ⟨sb,0,none⟩)] w (mZ fp F base sb t0 s0 (aF sb gf outv fvs) w below tape out (aN .drop f)):=by
 obtain⟨vs,a,hf⟩:=hne;have hM:=h.mid hbase (.cells #[] 449);refine(NQ w _ sb gf (below.length*6) (fun w'=>Done fp F base sb t0 s0 (aF sb gf outv fvs) w ⟨below++[f.pop],tape,out⟩ w') rfl (hM.topS hbel) fun W hS=>?_).mono ?_
 ·refine((hM.same hS).pop hf (by omega)).mono ?_
  rintro e w' ⟨t,z,he,_,_,h2⟩;exact⟨t,z,he,h2.done (Ext.refl _ _)⟩
 ·rintro e w' ⟨rfl,h2⟩;exact mZ.ok rfl h2
theorem YY(h:cO fp F base w sb gf cap t0 tv outv s0 fvs ⟨below++[f],tape,out⟩)(hbel:below.length≤15)(hbase:base≤w.heap.size)(hops:f.ops.length≤99000)(hne:∃vs a,f.ops=vs++[a]):
 Calls Tryz.prog 396 #[.agg #[],.pointer (some ⟨sb,0,none⟩)] w (mZ fp F base sb t0 s0 (aF sb gf outv fvs) w below tape out (aN .truth f)):=by
 obtain⟨vs,a,hf⟩:=hne;have hM:=h.mid hbase (.cells #[] 436);have hl:f.pop.ops.length≤100000:=by rw[lK hf];rw[hf,List.length_append] at hops;omega
 refine(GE w _ sb gf (below.length*6) (fun w'=>a.sort=1∧Done fp F base sb t0 s0 (aF sb gf outv fvs) w ⟨below++[f.pop.push a],tape,out⟩ w') (fun w'=>a.sort≠1∧Done fp F base sb t0 s0 (aF sb gf outv fvs) w ⟨below++[f.pop],tape,out⟩ w')
  (fun t z W=>PV F W (.iface t z) a∧aJ a≤200∧Mid fp base sb gf below.length t0 s0 (aF sb gf outv fvs) (w.alloc (.cells #[] 436)) F ⟨below++[f.pop],tape,out⟩ W)
  (fun b W=>a.sort=1∧a=bL b∧Mid fp base sb gf below.length t0 s0 (aF sb gf outv fvs) (w.alloc (.cells #[] 436)) F ⟨below++[f.pop],tape,out⟩ W) rfl (hM.topS hbel) (fun W hS=>?_) (fun W t z hq=>?_) (fun W b hq=>?_)).mono ?_
 ·refine((hM.same hS).pop hf (by omega)).mono ?_
  rintro e w' ⟨t,z,he,h1,h2,h3⟩;exact⟨t,z,he,h1,h2,h3⟩
 ·obtain⟨h1,h2,h3⟩:=hq;refine(nR F _ a W h1).mono ?_;rintro e w' ⟨rfl,⟨hs,rfl⟩|⟨hs,rfl⟩⟩
  ·exact Or.inl ⟨_,rfl,hs,h1.bool hs,h3⟩
  ·exact Or.inr ⟨rfl,hs,h3.done (Ext.refl _ _)⟩
 ·obtain⟨h1,h2,h3⟩:=hq;rw[h2] at h1 ⊢
  refine(h3.push (PV.tru F W b) (by rw[kT];omega) hl).mono ?_
  rintro e w' ⟨he,h4⟩;exact⟨he,h1,h4.done (Ext.refl _ _)⟩
 ·have hr:aN .truth f=if a.sort=1 then (f.pop.push a,0) else (f.pop,2):=by simp[aN,iF hf]
  rw[hr];rintro e w' (⟨rfl,h1,h2⟩|⟨rfl,h1,h2⟩)
  ·exact mZ.ok (if_pos h1) h2
  ·exact mZ.stop (if_neg h1) (by decide) h2
end
section
variable {fp:Nat→Value} {F:Nat→Prop} {base:Nat} {w:World} {sb gf cap:Nat} {t0 tv outv s0:Value} {fvs:List FVal} {below:List aK} {f:aK} {tape:List Int} {out:List (List UInt8)}
theorem Mid.next{own:List Nat}{w0:World}{G:Nat→Prop}{n:Nat}(h:Mid fp base sb gf n t0 s0 own w0 G ⟨below++[f],tape,out⟩ w)(tg:Nat):Mid fp base sb gf n t0 s0 own w0 G ⟨below++[{ f with next:=tg }],tape,out⟩ (w.setCell ⟨gf,n*6+1,none⟩ (.int .i64 tg)):=
 h.set 1 (.int .i64 tg) (by omega) (fun v=>{ v with nx:=.int .i64 tg }) (fun _=>rfl) (fun _ _=>rfl) fun _ hv=>⟨hv.fn,rfl,hv.ln,hv.sp,hv.vars,hv.ops⟩
theorem Mid.cell{own:List Nat}{w0:World}{G:Nat→Prop}{n:Nat}(h:Mid fp base sb gf n t0 s0 own w0 G ⟨below++[f],tape,out⟩ w)(j:Nat)(hj:j<6):(∃u,w.cell? ⟨gf,n*6+j,none⟩=some u)∧w.frozen? ⟨gf,n*6+j,none⟩=false∧gf<w.heap.size:=by
 obtain⟨v,hv,hl,hc⟩:=h.cells;obtain⟨h1,h2⟩:=hc j (v.cells[j]'(by simpa [FVal.cells] using hj)) (List.getElem?_eq_getElem _)
 exact⟨⟨_,h1⟩,h2,hl⟩
theorem K9(tg:Nat)(h:cO fp F base w sb gf cap t0 tv outv s0 fvs ⟨below++[f],tape,out⟩)(hbel:below.length≤15)(hbase:base≤w.heap.size):
 Calls Tryz.prog 412 #[.agg #[.int .i64 tg],.pointer (some ⟨sb,0,none⟩)] w (mZ fp F base sb t0 s0 (aF sb gf outv fvs) w below tape out (aN (.jump tg) f)):=by
 have hM:=h.mid hbase (.cells #[.int .i64 tg] 462);obtain⟨h1,h2,h3⟩:=hM.cell 1 (by omega)
 refine(MP w _ sb gf (below.length*6) tg (fun w'=>Done fp F base sb t0 s0 (aF sb gf outv fvs) w ⟨below++[{ f with next:=tg }],tape,out⟩ w') rfl (hM.topS hbel) h1 h2 h3 fun W hS=>?_).mono ?_
 ·exact((hM.same hS).next tg).done (Ext.refl _ _)
 ·rintro e w' ⟨rfl,h2⟩;exact mZ.ok rfl h2
theorem UF(tg:Nat)(h:cO fp F base w sb gf cap t0 tv outv s0 fvs ⟨below++[f],tape,out⟩)(hbel:below.length≤15)(hbase:base≤w.heap.size)(hops:f.ops.length≤99000)(hne:∃vs a,f.ops=vs++[a]):
 Calls Tryz.prog 411 #[.agg #[.int .i64 tg],.pointer (some ⟨sb,0,none⟩)] w (mZ fp F base sb t0 s0 (aF sb gf outv fvs) w below tape out (aN (.skip tg) f)):=by
 obtain⟨vs,a,hf⟩:=hne;have hM:=h.mid hbase (.cells #[.int .i64 tg] 461)
 refine(CF w _ sb gf (below.length*6) tg (fun w'=>a.sort=1∧Done fp F base sb t0 s0 (aF sb gf outv fvs) w ⟨below++[if a.n=1 then f.pop else { f.pop with next:=tg }],tape,out⟩ w') (fun w'=>a.sort≠1∧Done fp F base sb t0 s0 (aF sb gf outv fvs) w ⟨below++[f.pop],tape,out⟩ w')
  (fun t z W=>PV F W (.iface t z) a∧aJ a≤200∧Mid fp base sb gf below.length t0 s0 (aF sb gf outv fvs) (w.alloc (.cells #[.int .i64 tg] 461)) F ⟨below++[f.pop],tape,out⟩ W)
  (fun b W=>a.sort=1∧b=decide (a.n=1)∧Mid fp base sb gf below.length t0 s0 (aF sb gf outv fvs) (w.alloc (.cells #[.int .i64 tg] 461)) F ⟨below++[f.pop],tape,out⟩ W) rfl (hM.topS hbel) (fun W hS=>?_) (fun W t z hq=>?_) (fun W hq=>?_) (fun W hq=>?_) (fun W b hq=>?_)).mono ?_
 ·refine((hM.same hS).pop hf (by omega)).mono ?_
  rintro e w' ⟨t,z,he,h1,h2,h3⟩;exact⟨t,z,he,h1,h2,h3⟩
 ·obtain⟨h1,h2,h3⟩:=hq;refine(nR F _ a W h1).mono ?_;rintro e w' ⟨rfl,⟨hs,rfl⟩|⟨hs,rfl⟩⟩
  ·exact Or.inl ⟨_,rfl,hs,rfl,h3⟩
  ·exact Or.inr ⟨rfl,hs,h3.done (Ext.refl _ _)⟩
 ·obtain⟨h1,h2,h3⟩:=hq;refine⟨h1,?_⟩;rw[if_pos (of_decide_eq_true h2.symm)];exact h3.done (Ext.refl _ _)
 ·obtain⟨h1,h2,h3⟩:=hq;refine⟨h1,?_⟩;rw[if_neg (of_decide_eq_false h2.symm)];exact(h3.next tg).done (Ext.refl _ _)
 ·obtain⟨h1,h2,h3⟩:=hq;have hb:=Mid.box h h3;obtain⟨k1,k2,k3⟩:=h3.cell 1 (by omega)
  exact⟨aA hb rfl,aD hb,k1,k2,k3⟩
 ·have hr:aN (.skip tg) f=if a.sort=1 then (if a.n=1 then f.pop else { f.pop with next:=tg },0) else (f.pop,2):=by simp[aN,iF hf]
  rw[hr];rintro e w' (⟨rfl,h1,h2⟩|⟨rfl,h1,h2⟩)
  ·exact mZ.ok (if_pos h1) h2
  ·exact mZ.stop (if_neg h1) (by decide) h2
theorem LC(wh:Bool)(tg:Nat)(h:cO fp F base w sb gf cap t0 tv outv s0 fvs ⟨below++[f],tape,out⟩)(hbel:below.length≤15)(hbase:base≤w.heap.size)(hops:f.ops.length≤99000)(hne:∃vs a,f.ops=vs++[a]):
 Calls Tryz.prog 397 #[.agg #[.bool wh,.int .i64 tg],.pointer (some ⟨sb,0,none⟩)] w (mZ fp F base sb t0 s0 (aF sb gf outv fvs) w below tape out (aN (.shortcut wh tg) f)):=by
 obtain⟨vs,a,hf⟩:=hne;have hM:=h.mid hbase (.cells #[.bool wh,.int .i64 tg] 438);have hl:f.pop.ops.length≤100000:=by rw[lK hf];rw[hf,List.length_append] at hops;omega
 refine(xP w _ sb gf (below.length*6) tg wh (fun w'=>a.sort=1∧Done fp F base sb t0 s0 (aF sb gf outv fvs) w ⟨below++[if decide (a.n=1)=wh then { f.pop.push a with next:=tg } else f.pop],tape,out⟩ w') (fun w'=>a.sort≠1∧Done fp F base sb t0 s0 (aF sb gf outv fvs) w ⟨below++[f.pop],tape,out⟩ w')
  (fun t z W=>PV F W (.iface t z) a∧aJ a≤200∧Mid fp base sb gf below.length t0 s0 (aF sb gf outv fvs) (w.alloc (.cells #[.bool wh,.int .i64 tg] 438)) F ⟨below++[f.pop],tape,out⟩ W)
  (fun b W=>a.sort=1∧b=decide (a.n=1)∧a=bL b∧Mid fp base sb gf below.length t0 s0 (aF sb gf outv fvs) (w.alloc (.cells #[.bool wh,.int .i64 tg] 438)) F ⟨below++[f.pop],tape,out⟩ W)
  (fun b W=>a.sort=1∧b=decide (a.n=1)∧Mid fp base sb gf below.length t0 s0 (aF sb gf outv fvs) (w.alloc (.cells #[.bool wh,.int .i64 tg] 438)) F ⟨below++[f.pop.push a],tape,out⟩ W) rfl (hM.topS hbel) (fun W hS=>?_) (fun W t z hq=>?_) (fun W b hq=>?_) (fun W b hq hne=>?_) (fun W b hq he=>?_) (fun W b hq=>?_) (fun W b hq=>?_)).mono ?_
 ·refine((hM.same hS).pop hf (by omega)).mono ?_
  rintro e w' ⟨t,z,he,h1,h2,h3⟩;exact⟨t,z,he,h1,h2,h3⟩
 ·obtain⟨h1,h2,h3⟩:=hq;refine(nR F _ a W h1).mono ?_;rintro e w' ⟨rfl,⟨hs,rfl⟩|⟨hs,rfl⟩⟩
  ·exact Or.inl ⟨_,rfl,hs,rfl,h1.bool hs,h3⟩
  ·exact Or.inr ⟨rfl,hs,h3.done (Ext.refl _ _)⟩
 ·obtain⟨h1,h2,h3,h4⟩:=hq;refine(h4.push (a:=a) (by rw[h3];exact PV.tru F W b) (by rw[h3,kT];omega) hl).mono ?_
  rintro e w' ⟨he,h5⟩;exact⟨he,h1,h2,h5⟩
 ·obtain⟨h1,h2,h3,h4⟩:=hq;refine⟨h1,?_⟩;rw[if_neg (by rw[←h2];exact hne)]
  exact h4.done (Ext.refl _ _)
 ·obtain⟨h1,h2,h3⟩:=hq;refine⟨h1,?_⟩;rw[if_pos (by rw[←h2];exact he)]
  exact(h3.next tg).done (Ext.refl _ _)
 ·obtain⟨h1,h2,h3,h4⟩:=hq;have hb:=Mid.box h h4;exact⟨aA hb rfl,aD hb⟩
 ·obtain⟨h1,h2,h3⟩:=hq;have hb:=Mid.box h h3;obtain⟨k1,k2,k3⟩:=h3.cell 1 (by omega)
  exact⟨aA hb rfl,aD hb,k1,k2,k3⟩
 ·have hr:aN (.shortcut wh tg) f=if a.sort=1 then (if decide (a.n=1)=wh then { f.pop.push a with next:=tg } else f.pop,0) else (f.pop,2):=by simp[aN,iF hf]
  rw[hr];rintro e w' (⟨rfl,h1,h2⟩|⟨rfl,h1,h2⟩)
  ·exact mZ.ok (if_pos h1) h2
  ·exact mZ.stop (if_neg h1) (by decide) h2
end
end Go.Proofs.YtblbkfdhjfppkaaGreatDoor
