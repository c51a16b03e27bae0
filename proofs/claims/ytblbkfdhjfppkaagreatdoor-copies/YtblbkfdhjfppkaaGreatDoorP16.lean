/- Contracts of the program: what is done with a frame's operands. -/
import Derived.Test.YtblbkfdhjfppkaaGreatDoorP15
set_option maxRecDepth 100000
set_option maxHeartbeats 4000000
namespace Go.Proofs.YtblbkfdhjfppkaaGreatDoor
open Hs
open Tryz(prog)
open Go.RowKit
structure Chg(gf:Nat)(row:Option Nat)(w w':World):Prop where
 os:w'.os=w.os
 tape:w'.tape=w.tape
 output:w'.output=w.output
 size:w.heap.size<=w'.heap.size
 block:∀k,k<w.heap.size->k≠gf->some k≠row->w'.heap[k]?=w.heap[k]?
theorem CR(w:World)(u:Value):∀j v,([u]:List Value)[j]?=some v->(w.alloc (.cells #[u] 256)).cell? ((⟨w.heap.size,0,none⟩:Addr).add j)=some v:=by
 intro j v hj;match j,hj with
 |0,hj=>simp at hj;subst hj;simp[Addr.add,go_sem]
 |j+1,hj=>simp at hj
theorem wH(t:TypeId)(z:Value):∀u∈([.iface t z]:List Value),u.oneCell'=true:=by
 intro u hu;simp at hu;rw[hu];rfl
theorem wL(base gf o n:Nat)(cur:Array Value)(ov:Value)(xs:List Value)(t:TypeId)(z:Value)(w:World)(hb:w.heap[gf]?=some (.cells cur 195 (0,0)))(ho:cur[o+5]?=some ov)(hown:w.ownsRow base 256 1 ov n xs)(hne:ov.ownBlock≠some gf)(hbase:base<=w.heap.size)(hn:n<=1000000):
 Calls prog 371 #[.pointer (some ⟨gf,o,none⟩),.iface t z] w fun e w'=>e=.returned (.tuple #[])/\∃ov',w'.heap[gf]?=some (.cells (cur.setIfInBounds (o+5) ov') 195 (0,0))/\w'.ownsRow base 256 1 ov' (n+1) (xs++[.iface t z])/\(∀k,ov'.ownBlock=some k->ov.ownBlock=some k\/w.heap.size<=k)/\Chg gf ov.ownBlock w w':=by
 obtain⟨i0,hi,hz0,hz1,hz2⟩:=info_parts mP;obtain⟨x,c,rfl⟩:=cV hown;have hgl:=aD hb;have c5:=aA hb ho;have HO:=aB hown;have HB:=aB hb;have HNE:=aB hne;clear hown hb hne;go_enter Tryz.func371,Tryz.ntmps371;go_wp2_with (at_builtin;refine wpList_append_lies _ (by rfl) _ _ 193 (by rfl) base 256 i0 _ 1 16 Tryz.underlying193 hi hz0 hz1 hz2 rfl (by decide) (.slice x n c) n xs (by rfl) (HO.out.alloc _) ⟨w.heap.size,0,none⟩ 1 1 [.iface t z] (by rfl) (by rfl) (CR w _) (wH t z) (by decide) (by unfold maxLen;omega) (by omega) (by simp;omega) (w.heap.size+1) (by simp) ?_)
 intro g4 cap4 w4 hown4 hgrow4 hat4 hg4
 have hblk4:w4.heap[gf]?=some (.cells cur 195 (0,0)):=by
  rw[hgrow4.block gf (by simp;omega) (fun e=>HNE.out e.symm),o9 _ _ _ hgl];exact HB.out
 have c5':=aA hblk4 ho;have f5':=aE hblk4 (i:=o+5);have hgl4:=aD hblk4
 have hgg:g4≠gf:=by
  rcases hat4 with h|h
  ·exact fun e=>HNE.out (by rw[<-e];exact h)
  ·omega
 have HOWN:=aB hown4;have HG:=aB hgrow4;have HAT:=aB hat4;have HBL:=aB hblk4;clear hown4 hgrow4 hat4 hblk4;go_wp2_with fail;go_end0;refine⟨rfl,.slice (some ⟨g4,0,none⟩) (n+1) cap4,aS HBL.out,?_,?_,?_⟩
 ·exact bA HOWN.out fun k hk=>m7 _ _ _ _ (by cases hk;exact hgg)
 ·intro k hk;cases hk;rcases HAT.out with h|h
  ·exact Or.inl h
  ·exact Or.inr (by show w.heap.size<=g4;omega)
 ·refine⟨HG.out.os.trans rfl,HG.out.tape.trans rfl,HG.out.output.trans rfl,p7 (by simp) (p7 HG.out.size (by simp)),fun k hk h1 h2=>?_⟩
  rw[m7 _ _ _ _ h1,HG.out.block k (by simp;omega) h2,o9 _ _ _ hk]
theorem PK(base gf o n:Nat)(cur:Array Value)(ov:Value)(xs:List Value)(u:Value)(w:World)(hb:w.heap[gf]?=some (.cells cur 195 (0,0)))(ho:cur[o+5]?=some ov)(hown:w.ownsRow base 256 1 ov (n+1) (xs++[u]))(hx:xs.length=n)(hu:∃t z,u=.iface t z)(hn:n<=1000000):
 Calls prog 171 #[.pointer (some ⟨gf,o,none⟩)] w fun e w'=>e=.returned u/\∃ov',w'=w.setCell ⟨gf,o+5,none⟩ ov'/\w.ownsRow base 256 1 ov' n xs/\ov'.ownBlock=ov.ownBlock:=by
 obtain⟨t,z,rfl⟩:=hu;rcases hown.2 with ⟨r1,r2⟩|⟨g,c,row,rfl,hg1,hrow,hcap,hcm,hcs,htk⟩
 ·omega
 have hgl:=aD hb;have c5:=aA hb ho;have f5:=aE hb (i:=o+5);have hrl:=aD hrow
 have hlast:row[n]?=some (.iface t z):=by
  have:(xs++[Value.iface t z])[n]?=some (.iface t z):=by rw[<-hx];simp
  rw[<-htk,x6,if_pos (by omega)] at this
  simpa using this
 have cl:=aA hrow hlast
 have HOWN:Hid (w.ownsRow base 256 1 (.slice (some ⟨g,0,none⟩) n c) n xs):=by
  refine⟨by rw[hx];omega,Or.inr ⟨g,c,row,rfl,hg1,hrow,by omega,hcm,hcs,?_⟩⟩
  have:=congrArg (List.take n) htk;rw[aS_] at this;rw[show min n ((n+1)*1)=n by omega] at this
  rw[Nat.mul_one,this,<-hx];simp
 have e1:(0:Int)<=n:=by omega
 have e2:(n:Int)<(n:Int)+1:=by omega
 have e3:(n:Int)<=c:=by omega
 clear hown hb ho hrow htk hlast;go_enter Tryz.func171,Tryz.ntmps171;go_wp2_with fail;go_ret;exact⟨rfl,_,rfl,HOWN.out,rfl⟩
theorem JG(sb gf n cap:Nat)(w:World)(hc:w.cell? ⟨sb,1,none⟩=some (.slice (some ⟨gf,0,none⟩) (n+1) cap))(hn:n<=1000):
 Calls prog 158 #[.pointer (some ⟨sb,0,none⟩)] w fun e w'=>e=.returned (.pointer (some ⟨gf,n*6,none⟩))/\∃q,w'=w.drewN q:=by
 have e1:(0:Int)<=(n:Int):=by omega
 have e2:(n:Int)<(n:Int)+1:=by omega
 go_enter Tryz.func158,Tryz.ntmps158;go_wp2_with fail;go_quiet (fail)
 go_wp2_with fail;go_ret;exact⟨rfl,_,rfl⟩
theorem ZP(gf o fb gc n cap k:Nat)(cur:Array Value)(nm u:Value)(w:World)(hb:w.heap[gf]?=some (.cells cur 195 (0,0)))(h0:cur[o]?=some (.pointer (some ⟨fb,0,none⟩)))(h1:cur[o+1]?=some (.int .i64 k))
 (hf:w.heap[fb]?=some (.cells #[nm,.slice (some ⟨gc,0,none⟩) n cap] 250 (0,0))) (hu:w.cell? ⟨gc,k,none⟩=some u) (hi:∃t z,u=.iface t z) (hk:k<n) (hn:n<=1000000):
 Calls prog 235 #[.pointer (some ⟨gf,o,none⟩)] w fun e w'=>e=.returned u/\∃q,w'=(w.drewN q).setCell ⟨gf,o+1,none⟩ (.int .i64 ((k+1:Nat):Int)):=by
 obtain⟨t,z,rfl⟩:=hi;have hgl:=aD hb;have hfl:=aD hf;have c0:=aA hb h0;have c1:=aA hb h1;have f1:=aE hb (i:=o+1);have d1:=aA hf (i:=1) rfl;have e1:(0:Int)<=(k:Int):=by omega
 have e2:(k:Int)<(n:Int):=by omega
 clear hb hf h0 h1;go_enter Tryz.func235,Tryz.ntmps235;go_wp2_with fail;go_quiet (fail)
 go_wp2_with fail;go_ret;exact⟨rfl,_,by congr 2⟩
theorem uU(base gf o n k:Nat)(cur:Array Value)(ov:Value)(xs ys:List Value)(w:World)(hb:w.heap[gf]?=some (.cells cur 195 (0,0)))(ho:cur[o+5]?=some ov)(hown:w.ownsRow base 256 1 ov (n+k) (xs++ys))(hx:xs.length=n)(hy:ys.length=k)(h1:∀u∈ys,u.oneCell'=true)(hn:n+k<=1000000):
 Calls prog 377 #[.pointer (some ⟨gf,o,none⟩),.int .i64 k] w fun e w'=>∃v' ov' w1,e=.returned v'/\Below w.heap.size w w1/\w1.ownsRow w.heap.size 256 1 v' k ys/\w'=w1.setCell ⟨gf,o+5,none⟩ ov'/\w.ownsRow base 256 1 ov' n xs/\ov'.ownBlock=ov.ownBlock:=by
 have hgl:=aD hb;have c5:=aA hb ho;have f5:=aE hb (i:=o+5);have e1:(0:Int)<=(n:Int):=by omega
 have e2:(n:Int)<=(n:Int)+(k:Int):=by omega
 rcases hown.2 with ⟨rfl,r2⟩|⟨g,c,row,rfl,hg1,hrow,hcap,hcm,hcs,htk⟩
 ·obtain⟨rfl,rfl⟩:n=0/\k=0:=by omega
  obtain rfl:=v8 hx;obtain rfl:=v8 hy;have HC:=aB (sL w);clear hown hb ho;go_enter Tryz.func377,Tryz.ntmps377;go_wp2_with fail;refine HC.out.mono ?_;rintro e w1 ⟨rfl,rfl⟩;go_wp2_with fail;go_ret;exact⟨_,_,_,rfl,m8 _ _,World.ownsRow_nil _ _ _ _,rfl,World.ownsRow_nil _ _ _ _,rfl⟩
 ·have e3:(n:Int)<=(c:Int):=by omega
  have e4:(n:Int)+(k:Int)<=(c:Int):=by omega
  have e5:((n+k:Nat):Int)-(k:Int)=(n:Int):=by omega
  have HC:Hid (∀off cc,off=n\/k=0->Calls prog 282 #[.slice (some ⟨g,off,none⟩) k cc] w fun e w'=>∃x' c',e=.returned (.slice x' k c')/\w'.ownsRow w.heap.size 256 1 (.slice x' k c') k ys/\Below w.heap.size w w'):=fun off cc hoff=>by
   refine(sM g off k cc ys w (by omega) (by omega) (fun j u hj=>?_) h1).mono ?_
   ·have hjl:j<ys.length:=(z6.1 hj).1;rcases hoff with rfl|h0
    ·refine aA hrow ?_;have hh:(xs++ys)[off+j]?=some u:=by rw[y8 (by omega),hx,az_];exact hj
     rw[<-htk,x6,if_pos (by omega)] at hh
     simpa using hh
    ·omega
   ·rintro e w1 ⟨v',rfl,ho',hb'⟩;obtain⟨x',c',rfl⟩:=cV ho';exact⟨x',c',rfl,ho',hb'⟩
  have HOWN:Hid (∀cc,cc=c->w.ownsRow base 256 1 (.slice (some ⟨g,0,none⟩) n cc) n xs):=by
   rintro cc rfl;refine⟨by rw[hx];omega,Or.inr ⟨g,cc,row,rfl,hg1,hrow,by omega,hcm,hcs,?_⟩⟩
   have:=congrArg (List.take n) htk;rw[aS_] at this;rw[show min n ((n+k)*1)=n by omega] at this
   rw[Nat.mul_one,this,<-hx];simp
  have HB:Hid (∀w1,Below w.heap.size w w1->w1.heap[gf]?=some (.cells cur 195 (0,0))):=fun w1 h=>by rw[h.block gf hgl];exact hb
  clear hown hb hrow htk;go_enter Tryz.func377,Tryz.ntmps377;go_wp2_with fail
  all_goals
   refine(HC.out _ _ (by omega)).mono ?_
   rintro e w1 ⟨x',c',rfl,ho',hb'⟩;have hblk:=HB.out w1 hb';have hgl1:=aD hblk;have c5':=aA hblk ho;have f5':=aE hblk (i:=o+5);have HO:=aB ho';have HBB:=aB hb';clear ho' hb' hblk;go_wp2_with fail;go_ret;exact⟨_,_,w1,rfl,HBB.out,HO.out,rfl,HOWN.out _ (by first|rfl|omega),rfl⟩
def eV(F:Nat->Prop)(w:World):Value->List (List UInt8)->Prop
 |v,[]=>v=.pointer none
 |v,x::l=>∃b o,v=.pointer (some ⟨b,0,none⟩)/\F b/\w.heap[b]?=some (.cells #[.string (bs x),.int .i64 l.length,o] 253 (0,0))/\eV F w o l
theorem eV.keep{F G:Nat->Prop}{w w':World}(hk:∀b,F b->w'.heap[b]?=w.heap[b]?)(hF:∀b,F b->G b):∀{l:List (List UInt8)} {v:Value},eV F w v l->eV G w' v l
 |[],_,h=>h
 |_::_,_,⟨b,o,h1,h2,h3,h4⟩=>⟨b,o,h1,hF b h2,by rw[hk b h2];exact h3,eV.keep hk hF h4⟩
theorem eV.form{F:Nat->Prop}{w:World}{l:List (List UInt8)}{v:Value}(h:eV F w v l):∃p,v=.pointer p:=by
 cases l with
 |nil=>exact⟨none,h⟩
 |cons x l=>obtain⟨b,o,h1,_⟩:=h;exact⟨_,h1⟩
def lA(fp:Nat->Value)(F:Nat->Prop)(w:World)(v:Value):aH->Prop
 |.begin l s=>∃sp,v=.iface 365 (.agg #[.int .i64 l,sp])/\eV F w sp s
 |.push a=>∃u,v=.iface 361 (.agg #[u])/\PV F w u a/\aJ a<=200
 |.load k=>v=.iface 402 (.agg #[.int .i64 k])
 |.declare k=>v=.iface 443 (.agg #[.int .i64 k])
 |.assign k n=>v=.iface 445 (.agg #[.int .i64 k,.int .i64 n])
 |.jump t=>v=.iface 462 (.agg #[.int .i64 t])
 |.skip t=>v=.iface 461 (.agg #[.int .i64 t])
 |.shortcut b t=>v=.iface 438 (.agg #[.bool b,.int .i64 t])
 |.truth=>v=.iface 436 (.agg #[])
 |.unary op=>v=.iface 407 (.agg #[.string (bs op)])
 |.binary op=>v=.iface 435 (.agg #[.string (bs op)])
 |.index=>v=.iface 405 (.agg #[])
 |.list n=>v=.iface 404 (.agg #[.int .i64 n])
 |.length=>v=.iface 439 (.agg #[])
 |.read=>v=.iface 440 (.agg #[])
 |.call k n=>v=.iface 442 (.agg #[fp k,.int .i64 n])
 |.give=>v=.iface 363 (.agg #[])
 |.drop=>v=.iface 449 (.agg #[])
 |.print=>v=.iface 448 (.agg #[])
theorem lA.keep{fp:Nat->Value}{F G:Nat->Prop}{w w':World}{v:Value}{i:aH}(h:lA fp F w v i)(hk:∀b,F b->w'.heap[b]?=w.heap[b]?)(hF:∀b,F b->G b):lA fp G w' v i:=by
 cases i<;>first
  |exact h
  |(obtain⟨sp,h1,h2⟩:=h;exact⟨sp,h1,eV.keep hk hF h2⟩)
  |(obtain⟨u,h1,h2,h3⟩:=h;exact⟨u,h1,(h2.keep hk).mono hF,h3⟩)
theorem lA.form{fp:Nat->Value}{F:Nat->Prop}{w:World}{v:Value}{i:aH}(h:lA fp F w v i):∃t z,v=.iface t z:=by
 cases i<;>first
  |exact⟨_,_,h⟩
  |(obtain⟨sp,h1,h2⟩:=h;exact⟨_,_,h1⟩)
def C4(fp:Nat->Value)(F:Nat->Prop)(w:World)(v:Value)(f:eP):Prop:=
 ∃fb gc cap cur,v=.pointer (some ⟨fb,0,none⟩)/\F fb/\w.heap[fb]?=some (.cells #[.string (bs f.name),.slice (some ⟨gc,0,none⟩) f.code.length cap] 250 (0,0))/\F gc/\w.heap[gc]?=some (.cells cur 355 (0,0))/\
  ∀i (h:i<f.code.length),∃u,cur[i]?=some u/\lA fp F w u f.code[i]
theorem C4.keep{fp:Nat->Value}{F G:Nat->Prop}{w w':World}{v:Value}{f:eP}(h:C4 fp F w v f)(hk:∀b,F b->w'.heap[b]?=w.heap[b]?)(hF:∀b,F b->G b):C4 fp G w' v f:=by
 obtain⟨fb,gc,cap,cur,h1,h2,h3,h4,h5,h6⟩:=h;refine⟨fb,gc,cap,cur,h1,hF _ h2,by rw[hk _ h2];exact h3,hF _ h4,by rw[hk _ h4];exact h5,fun i hi=>?_⟩
 obtain⟨u,e1,e2⟩:=h6 i hi;exact⟨u,e1,e2.keep hk hF⟩
def kX(fp:Nat->Value)(F:Nat->Prop)(w:World)(tab:List eP):Prop:=∀k f,tab[k]?=some f->C4 fp F w (fp k) f
theorem kX.keep{fp:Nat->Value}{F G:Nat->Prop}{w w':World}{tab:List eP}(h:kX fp F w tab)(hk:∀b,F b->w'.heap[b]?=w.heap[b]?)(hF:∀b,F b->G b):kX fp G w' tab:=fun k f hf=>(h k f hf).keep hk hF
structure FVal where
 fp:Value
 nx:Value
 ln:Value
 sp:Value
 vv:Value
 ov:Value
def FVal.cells(f:FVal):List Value:=[f.fp,f.nx,f.ln,f.sp,f.vv,f.ov]
def fZ:List FVal->List Value
 |[]=>[]
 |f::l=>f.cells++fZ l
theorem jK(l m:List FVal):fZ (l++m)=fZ l++fZ m:=by
 induction l with
 |nil=>rfl
 |cons f l ih=>simp[fZ,ih]
theorem eE(l:List FVal):(fZ l).length=l.length*6:=by
 induction l with
 |nil=>rfl
 |cons f l ih=>simp[fZ,FVal.cells,ih];omega
def FVal.owns(f:FVal):List Nat:=f.vv.ownBlock.toList++f.ov.ownBlock.toList
def lV(F:Nat->Prop)(base:Nat)(w:World)(v:Value)(l:List aI):Prop:=(∃xs,w.ownsRow base 256 1 v l.length xs/\fY F w xs l)/\∀a∈l,aJ a<=200
theorem lV.keep{F G:Nat->Prop}{base:Nat}{w w':World}{v:Value}{l:List aI}(h:lV F base w v l)(hk:∀b,F b->w'.heap[b]?=w.heap[b]?)(hF:∀b,F b->G b)(ho:∀k,v.ownBlock=some k->w'.heap[k]?=w.heap[k]?):lV G base w' v l:=by
 obtain⟨⟨xs,h1,h2⟩,h3⟩:=h;exact⟨⟨xs,bA h1 ho,(h2.keep hk).mono hF⟩,h3⟩
structure MH(fp:Nat->Value)(F:Nat->Prop)(base:Nat)(w:World)(v:FVal)(f:aK):Prop where
 fn:C4 fp F w v.fp f.fn
 nx:v.nx=.int .i64 f.next
 ln:v.ln=.int .i64 f.line
 sp:eV F w v.sp f.seen
 vars:lV F base w v.vv f.vars
 ops:lV F base w v.ov f.ops
theorem MH.keep{fp:Nat->Value}{F G:Nat->Prop}{base:Nat}{w w':World}{v:FVal}{f:aK}(h:MH fp F base w v f)(hk:∀b,F b->w'.heap[b]?=w.heap[b]?)(hF:∀b,F b->G b)(ho:∀k∈v.owns,w'.heap[k]?=w.heap[k]?):MH fp G base w' v f:=
 ⟨h.fn.keep hk hF,h.nx,h.ln,eV.keep hk hF h.sp,h.vars.keep hk hF fun k e=>ho k (by simp[FVal.owns,e]),h.ops.keep hk hF fun k e=>ho k (by simp[FVal.owns,e])⟩
def iT(fp:Nat->Value)(F:Nat->Prop)(base:Nat)(w:World):List FVal->List aK->Prop
 |[],[]=>True
 |v::vs,f::fs=>MH fp F base w v f/\iT fp F base w vs fs
 |_,_=>False
theorem iT.keep{fp:Nat->Value}{F G:Nat->Prop}{base:Nat}{w w':World}(hk:∀b,F b->w'.heap[b]?=w.heap[b]?)(hF:∀b,F b->G b):∀{vs:List FVal} {fs:List aK},iT fp F base w vs fs->(∀v∈vs,∀k∈v.owns,w'.heap[k]?=w.heap[k]?)->iT fp G base w' vs fs
 |[],[],_,_=>trivial
 |v::_,_::_,⟨h1,h2⟩,ho=>⟨h1.keep hk hF (ho v (x9 ..)),iT.keep hk hF h2 fun u hu=>ho u (r9 _ hu)⟩
 |[],_::_,h,_=>h.elim
 |_::_,[],h,_=>h.elim
theorem iT.length{fp:Nat->Value}{F:Nat->Prop}{base:Nat}{w:World}:∀{vs:List FVal} {fs:List aK},iT fp F base w vs fs->vs.length=fs.length
 |[],[],_=>rfl
 |_::_,_::_,⟨_,h⟩=>by simp[iT.length h]
 |[],_::_,h=>h.elim
 |_::_,[],h=>h.elim
theorem iT.snoc{fp:Nat->Value}{F:Nat->Prop}{base:Nat}{w:World}{v:FVal}{f:aK}:∀{vs:List FVal} {fs:List aK},iT fp F base w vs fs->MH fp F base w v f->iT fp F base w (vs++[v]) (fs++[f])
 |[],[],_,h=>⟨h,trivial⟩
 |_::_,_::_,⟨h1,h2⟩,h=>⟨h1,iT.snoc h2 h⟩
 |[],_::_,h,_=>h.elim
 |_::_,[],h,_=>h.elim
theorem iT.unsnoc{fp:Nat->Value}{F:Nat->Prop}{base:Nat}{w:World}{f:aK}:∀{vs:List FVal} {fs:List aK},iT fp F base w vs (fs++[f])->∃vs' v,vs=vs'++[v]/\iT fp F base w vs' fs/\MH fp F base w v f
 |[],[],h=>h.elim
 |[v],[],⟨h1,h2⟩=>⟨[],v,rfl,trivial,h1⟩
 |_::_::_,[],⟨_,h⟩=>h.elim
 |v::vs,g::fs,⟨h1,h2⟩=>by
  obtain⟨vs',u,e,h3,h4⟩:=iT.unsnoc (vs:=vs) (fs:=fs) h2;exact⟨v::vs',u,by rw[e];rfl,⟨h1,h3⟩,h4⟩
 |[],_::_,h=>h.elim
def aW(l:List FVal):List Nat:=l.flatMap FVal.owns
def aF(sb gf:Nat)(outv:Value)(fvs:List FVal):List Nat:=sb::gf::(outv.ownBlock.toList++aW fvs)
def lR(l:List (List UInt8)):List Value:=l.map fun x=>Value.string (bs x)
def rA(F:Nat->Prop)(w:World)(v:Value)(l:List Int):Prop:=
 (l=[]/\∃x c,v=.slice x 0 c)\/∃g o c,v=.slice (some ⟨g,o,none⟩) l.length c/\l.length<=c/\F g/\∀i (h:i<l.length),w.cell? ⟨g,o+i,none⟩=some (.int .i64 l[i])/\ -9223372036854775808<=l[i]/\l[i]<=9223372036854775807
theorem rA.keep{F G:Nat->Prop}{w w':World}{v:Value}{l:List Int}(h:rA F w v l)(hk:∀b,F b->w'.heap[b]?=w.heap[b]?)(hF:∀b,F b->G b):rA G w' v l:=by
 rcases h with h|⟨g,o,c,h1,h2,h3,h4⟩
 ·exact Or.inl h
 ·exact Or.inr ⟨g,o,c,h1,h2,hF g h3,fun i hi=>⟨by rw[World.cell?_of_block (hk g h3)];exact(h4 i hi).1,(h4 i hi).2⟩⟩
structure cT(fp:Nat->Value)(F:Nat->Prop)(base:Nat)(w:World)(sb gf cap:Nat)(t0 tv outv s0:Value)(fvs:List FVal)(m:cP):Prop where
 blk:w.heap[sb]?=some (.cells #[t0,.slice (some ⟨gf,0,none⟩) fvs.length cap,tv,outv,s0] 108 (0,0))
 row:w.ownsRow base 195 6 (.slice (some ⟨gf,0,none⟩) fvs.length cap) fvs.length (fZ fvs)
 frs:iT fp F base w fvs m.frames
 tape:rA F w tv m.tape
 out:w.ownsRow base 9 1 outv m.out.length (lR m.out)
 nodup:(aF sb gf outv fvs).Nodup
 lt:∀k∈aF sb gf outv fvs,k<w.heap.size
 apart:∀k,F k->k<w.heap.size/\k∉aF sb gf outv fvs
theorem cT.step{fp:Nat->Value}{F G:Nat->Prop}{base:Nat}{w w':World}{sb gf cap:Nat}{t0 tv outv s0:Value}{fb:List FVal}{v v':FVal}{below:List aK}{f f':aK}{tape:List Int}{out:List (List UInt8)}
 (h:cT fp F base w sb gf cap t0 tv outv s0 (fb++[v]) ⟨below++[f],tape,out⟩) (hsz:w.heap.size<=w'.heap.size) (hc:∀k,k<w.heap.size->k≠gf->k∉v.owns->w'.heap[k]?=w.heap[k]?)
 (hrow:w'.ownsRow base 195 6 (.slice (some ⟨gf,0,none⟩) (fb.length+1) cap) (fb.length+1) (fZ (fb++[v'])))
 (hfr:MH fp G base w' v' f') (ho:∀k∈v'.owns,k<w'.heap.size/\(k∈v.owns\/w.heap.size<=k)) (hnd:v'.owns.Nodup)
 (hF:∀k,F k->G k) (hG:∀k,G k->F k\/(w.heap.size<=k/\k<w'.heap.size/\k∉v'.owns)):
 cT fp G base w' sb gf cap t0 tv outv s0 (fb++[v']) ⟨below++[f'],tape,out⟩:=by
 have hlen:(fb++[v']).length=(fb++[v]).length:=by simp
 have hlen':(fb++[v']).length=fb.length+1:=by simp
 have hown:∀u:FVal,aF sb gf outv (fb++[u])=(sb::gf::(outv.ownBlock.toList++aW fb))++u.owns:=fun u=>by simp[aF,aW]
 have hnd0:=h.nodup;have hlt0:=h.lt;have hap0:=h.apart;rw[hown] at hnd0 hlt0 hap0;generalize hpre:(sb::gf::(outv.ownBlock.toList++aW fb))=pre at hnd0 hlt0 hap0 hown;obtain⟨hn1,hn2,hn3⟩:=ai_.1 hnd0;have hpv:∀k∈pre,k<w.heap.size/\k∉v.owns:=fun k hk=>⟨hlt0 k (y9 _ hk),fun hv=>hn3 k hk k hv rfl⟩
 have hsbm:sb∈pre:=by rw[<-hpre];simp
 have hgfm:gf∈pre:=by rw[<-hpre];simp
 have hsg:sb≠gf:=by
  rw[<-hpre] at hn1;have:=(r8.1 hn1).1;intro e;exact this (by simp[e])
 have hFk:∀b,F b->w'.heap[b]?=w.heap[b]?:=fun b hb=>by
  obtain⟨h1,h2⟩:=hap0 b hb;exact hc b h1 (fun e=>h2 (y9 _ (by rw[e];exact hgfm))) fun hv=>h2 (ab_ _ hv)
 have hfbm:∀u∈fb,∀k∈u.owns,k∈pre/\k≠gf:=fun u hu k hk=>by
  have hk1:k∈aW fb:=aA_.2 ⟨u,hu,hk⟩;refine⟨by rw[<-hpre];simp[hk1],?_⟩
  rw[<-hpre] at hn1;have:=(r8.1 (r8.1 hn1).2).1;intro e;exact this (by rw[<-e];simp[hk1])
 have houtm:∀k,outv.ownBlock=some k->k∈pre/\k≠gf:=fun k hk=>by
  refine⟨by rw[<-hpre];simp[hk],?_⟩
  rw[<-hpre] at hn1;have:=(r8.1 (r8.1 hn1).2).1;intro e;exact this (by rw[<-e];simp[hk])
 refine⟨?_,by rw[hlen'];exact hrow,?_,h.tape.keep hFk hF,bA h.out fun k hk=>?_,?_,?_,?_⟩
 ·rw[hlen,hc sb (hpv sb hsbm).1 hsg (hpv sb hsbm).2];exact h.blk
 ·obtain⟨vs',u,e,k1,k2⟩:=iT.unsnoc h.frs;obtain⟨rfl,e2⟩:=ap_ e rfl;exact(k1.keep hFk hF fun u hu k hk=>hc k (hpv k (hfbm u hu k hk).1).1 (hfbm u hu k hk).2 (hpv k (hfbm u hu k hk).1).2).snoc hfr
 ·obtain⟨h1,h2⟩:=houtm k hk;exact hc k (hpv k h1).1 h2 (hpv k h1).2
 ·rw[hown];refine ai_.2 ⟨hn1,hnd,fun a ha b hb e=>?_⟩
  subst e;rcases(ho a hb).2 with h1|h1
  ·exact(hpv a ha).2 h1
  ·have:=(hpv a ha).1;omega
 ·intro k hk;rw[hown] at hk;rcases o7.1 hk with hk|hk
  ·exact m9 (hpv k hk).1 hsz
  ·exact(ho k hk).1
 ·intro k hk;rw[hown];rcases hG k hk with h1|⟨h1,h2,h3⟩
  ·obtain⟨h4,h5⟩:=hap0 k h1;refine⟨m9 h4 hsz,fun hm=>?_⟩
   rcases o7.1 hm with hm|hm
   ·exact h5 (y9 _ hm)
   ·rcases(ho k hm).2 with h6|h6
    ·exact h5 (ab_ _ h6)
    ·omega
  ·refine⟨h2,fun hm=>?_⟩
   rcases o7.1 hm with hm|hm
   ·have:=(hpv k hm).1;omega
   ·exact h3 hm
structure Kept(own:List Nat)(w w':World):Prop where
 os:w'.os=w.os
 tape:w'.tape=w.tape
 output:w'.output=w.output
 size:w.heap.size<=w'.heap.size
 block:∀k,k<w.heap.size->k∉own->w'.heap[k]?=w.heap[k]?
structure Ext(F G:Nat->Prop)(n:Nat):Prop where
 sub:∀k,F k->G k
 new:∀k,G k->F k\/n<=k
theorem Ext.refl(F:Nat->Prop)(n:Nat):Ext F F n:=⟨fun _ h=>h,fun _ h=>Or.inl h⟩
theorem Ext.trans{F G H:Nat->Prop}{n m:Nat}(h:Ext F G n)(k:Ext G H m)(hn:n<=m):Ext F H n:=⟨fun x hx=>k.sub x (h.sub x hx),fun x hx=>by
 rcases k.new x hx with h1|h1
 ·exact h.new x h1
 ·exact Or.inr (p7 hn h1)⟩
theorem Ext.le{F G:Nat->Prop}{n m:Nat}(h:Ext F G n)(hn:m<=n):Ext F G m:=⟨h.sub,fun x hx=>(h.new x hx).imp_right (p7 hn)⟩
def Done(fp:Nat->Value)(F:Nat->Prop)(base:Nat)(sb:Nat)(t0 s0:Value)(own:List Nat)(w:World)(m:cP)(w':World):Prop:=
 Kept own w w'/\∃G gf cap tv outv fvs,Ext F G w.heap.size/\cT fp G base w' sb gf cap t0 tv outv s0 fvs m/\∀k∈aF sb gf outv fvs,k∈own\/w.heap.size<=k
theorem uM{w:World}{base gf cap j:Nat}{fb:List FVal}{v:FVal}{x:Value}(h:w.ownsRow base 195 6 (.slice (some ⟨gf,0,none⟩) (fb.length+1) cap) (fb.length+1) (fZ (fb++[v])))(hj:j<6):
 ∃cur,w.heap[gf]?=some (.cells cur 195 (0,0))/\(∀i,i<6->cur[fb.length*6+i]?=v.cells[i]?)/\
  ∀W:World,W.heap[gf]?=some (.cells (cur.setIfInBounds (fb.length*6+j) x) 195 (0,0))->∀v':FVal,v'.cells=v.cells.set j x->W.ownsRow base 195 6 (.slice (some ⟨gf,0,none⟩) (fb.length+1) cap) (fb.length+1) (fZ (fb++[v'])):=by
 rcases h.2 with ⟨r1,_⟩|⟨g',cap',cur,r1,r2,r3,r4,r5,r6,r7⟩
 ·cases r1
 cases r1;have hfl:∀u:FVal,fZ (fb++[u])=fZ fb++u.cells:=fun u=>by rw[jK];simp[fZ]
 have hc6:∀u:FVal,u.cells.length=6:=fun _=>rfl
 have hsz:(fb.length+1)*6<=cur.size:=by rw[r6];exact Nat.mul_le_mul_right _ r4
 refine⟨cur,r3,fun i hi=>?_,fun W hW v' hv'=>?_⟩
 ·have:(fZ (fb++[v]))[fb.length*6+i]?=v.cells[i]?:=by
   rw[hfl,y8 (by rw[eE];omega),eE,az_]
  rw[<-r7,x6,if_pos (by omega)] at this
  simpa using this
 ·refine⟨by rw[eE];simp,Or.inr ⟨gf,cap,_,rfl,r2,hW,r4,r5,by simpa using r6,?_⟩⟩
  rw[aG_,bd_,r7,hfl,hfl,hv',List.set_append_right _ _ (by rw[eE];omega),eE,az_]
theorem Kept.refl(own:List Nat)(w:World):Kept own w w:=⟨rfl,rfl,rfl,l9 _,fun _ _ _=>rfl⟩
theorem Kept.trans{own own':List Nat}{a b c:World}(h:Kept own a b)(k:Kept own' b c)(ho:∀x∈own',x∈own\/a.heap.size<=x):Kept own a c:=
 ⟨k.os.trans h.os,k.tape.trans h.tape,k.output.trans h.output,p7 h.size k.size,fun x hx hn=>by
   rw[k.block x (m9 hx h.size) (fun hm=>by rcases ho x hm with h1|h1;·exact hn h1
                                           ·omega),h.block x hx hn]⟩
theorem Kept.of_below{own:List Nat}{w w':World}(h:Below w.heap.size w w'):Kept own w w':=⟨h.os,h.tape,h.output,h.size,fun k hk _=>h.block k hk⟩
theorem cT.grow{fp:Nat->Value}{F G:Nat->Prop}{base:Nat}{w w':World}{sb gf cap:Nat}{t0 tv outv s0:Value}{fvs:List FVal}{m:cP}(h:cT fp F base w sb gf cap t0 tv outv s0 fvs m)(hb:Below w.heap.size w w')(hF:∀k,F k->G k)(hG:∀k,G k->F k\/(w.heap.size<=k/\k<w'.heap.size)):cT fp G base w' sb gf cap t0 tv outv s0 fvs m:=by
 have hFk:∀b,F b->w'.heap[b]?=w.heap[b]?:=fun b hb'=>hb.block b (h.apart b hb').1
 have hin:∀k,k∈aF sb gf outv fvs->w'.heap[k]?=w.heap[k]?:=fun k hk=>hb.block k (h.lt k hk)
 refine⟨by rw[hin sb (by simp[aF])];exact h.blk,bA h.row fun k hk=>?_,h.frs.keep hFk hF fun v hv k hk=>hin k ?_,h.tape.keep hFk hF,bA h.out fun k hk=>hin k (by simp[aF,hk]),h.nodup,fun k hk=>m9 (h.lt k hk) hb.size,fun k hk=>?_⟩
 ·cases hk;exact hin gf (by simp[aF])
 ·have:k∈aW fvs:=aA_.2 ⟨v,hv,hk⟩;simp[aF,this]
 ·rcases hG k hk with h1|⟨h1,h2⟩
  ·exact⟨m9 (h.apart k h1).1 hb.size,(h.apart k h1).2⟩
  ·exact⟨h2,fun hm=>by have:=h.lt k hm;omega⟩
theorem cT.pushed{fp:Nat->Value}{F:Nat->Prop}{base:Nat}{w w':World}{sb gf cap:Nat}{t0 tv outv s0:Value}{fb:List FVal}{v:FVal}{below:List aK}{f:aK}{tape:List Int}{out:List (List UInt8)}{cur:Array Value}{ov' u:Value}{a:aI}{xs:List Value}
 (h:cT fp F base w sb gf cap t0 tv outv s0 (fb++[v]) ⟨below++[f],tape,out⟩) (hcur:w.heap[gf]?=some (.cells cur 195 (0,0)))
 (hxs:fY F w xs f.ops) (hu:PV F w u a) (hca:aJ a<=200)
 (p1:w'.heap[gf]?=some (.cells (cur.setIfInBounds (fb.length*6+5) ov') 195 (0,0))) (p2:w'.ownsRow base 256 1 ov' (f.ops.length+1) (xs++[u])) (p3:∀k,ov'.ownBlock=some k->v.ov.ownBlock=some k\/w.heap.size<=k) (p4:Chg gf v.ov.ownBlock w w'):
 cT fp F base w' sb gf cap t0 tv outv s0 (fb++[{ v with ov:=ov' }]) ⟨below++[f.push a],tape,out⟩/\Kept (aF sb gf outv (fb++[v])) w w':=by
 obtain⟨vs',v0,e,hfb,hv⟩:=iT.unsnoc h.frs;obtain⟨rfl,e2⟩:=ap_ e rfl;cases e2;have hrow:=h.row;rw[show (fb++[v]).length=fb.length+1 by simp] at hrow
 obtain⟨cur',c1,_,c3⟩:=uM (j:=5) (x:=ov') hrow (by omega)
 obtain rfl:cur'=cur:=by rw[hcur] at c1;cases c1;rfl
 have hvm:∀k∈v.owns,k∈aF sb gf outv (fb++[v]):=fun k hk=>by simp[aF,aW,hk]
 have hgv:gf∉v.owns:=fun hm=>by
  have:=(r8.1 (r8.1 h.nodup).2).1;exact this (by simp[aW,hm])
 have hnv:v.owns.Nodup:=by
  have h1:=h.nodup;have:aF sb gf outv (fb++[v])=(sb::gf::(outv.ownBlock.toList++aW fb))++v.owns:=by simp[aF,aW]
  rw[this] at h1;exact(ai_.1 h1).2.1
 have hFk:∀b,F b->w'.heap[b]?=w.heap[b]?:=fun b hb=>by
  obtain⟨h1,h2⟩:=h.apart b hb;exact p4.block b h1 (fun e=>h2 (by simp[aF,e])) (fun e=>h2 (hvm b (by simp[FVal.owns,<-e])))
 have hchg:∀k,k<w.heap.size->k≠gf->k∉v.owns->w'.heap[k]?=w.heap[k]?:=fun k h1 h2 h3=>p4.block k h1 h2 fun e=>h3 (by simp[FVal.owns,<-e])
 have hvvo:∀k,v.vv.ownBlock=some k->k<w.heap.size/\k≠gf/\v.ov.ownBlock≠some k:=fun k hk=>by
  have hm:k∈v.owns:=by simp[FVal.owns,hk]
  refine⟨h.lt k (hvm k hm),fun e=>hgv (by rw[<-e];exact hm),fun e=>?_⟩
  unfold FVal.owns at hnv;rw[hk,e] at hnv;simp at hnv
 refine⟨h.step (G:=F) p4.size hchg (c3 w' p1 _ rfl) ?_ ?_ ?_ (fun _ h=>h) (fun _ h=>Or.inl h),?_⟩
 ·refine⟨hv.fn.keep hFk fun _ h=>h,hv.nx,hv.ln,eV.keep hFk (fun _ h=>h) hv.sp,hv.vars.keep hFk (fun _ h=>h) fun k hk=>?_,⟨xs++[u],?_,?_⟩,?_⟩
  ·obtain⟨h1,h2,h3⟩:=hvvo k hk;exact p4.block k h1 h2 (fun e=>h3 e.symm)
  ·show w'.ownsRow base 256 1 ov' (f.ops++[a]).length _
   rw[m6];exact p2
  ·exact(hxs.keep hFk).append ⟨rfl,fun i hi=>by
    obtain rfl:i=0:=by simpa using hi
    exact⟨u,rfl,hu.keep hFk⟩⟩
  ·intro b hb;rcases o7.1 hb with hb|hb
   ·exact hv.ops.2 b hb
   ·rw[o8.1 hb];exact hca
 ·intro k hk;rcases o7.1 hk with hk|hk
  ·have hk':v.vv.ownBlock=some k:=by simpa using hk
   exact⟨m9 (hvvo k hk').1 p4.size,Or.inl (by simp[FVal.owns,hk'])⟩
  ·have hk':ov'.ownBlock=some k:=by simpa using hk
   refine⟨cK p2 k hk',?_⟩;rcases p3 k hk' with h1|h1
   ·exact Or.inl (by simp[FVal.owns,h1])
   ·exact Or.inr h1
 ·show (v.vv.ownBlock.toList++ov'.ownBlock.toList).Nodup
  refine ai_.2 ⟨by cases v.vv.ownBlock<;>simp,by cases ov'.ownBlock<;>simp,fun x hx y hy e=>?_⟩
  subst e;have h1:v.vv.ownBlock=some x:=by simpa using hx
  have h2:ov'.ownBlock=some x:=by simpa using hy
  obtain⟨h3,_,h4⟩:=hvvo x h1;rcases p3 x h2 with h5|h5
  ·exact h4 h5
  ·omega
 ·exact⟨p4.os,p4.tape,p4.output,p4.size,fun k hk hn=>hchg k hk (fun e=>hn (by simp[aF,e])) fun hm=>hn (hvm k hm)⟩
structure aY(w w':World):Prop where
 os:w'.os=w.os
 tape:w'.tape=w.tape
 output:w'.output=w.output
 heap:w'.heap=w.heap
theorem aY.refl(w:World):aY w w:=⟨rfl,rfl,rfl,rfl⟩
theorem aY.drewN(w:World)(n:Nat):aY w (w.drewN n):=⟨rfl,rfl,rfl,rfl⟩
theorem aY.drew(w:World):aY w w.drew:=⟨rfl,rfl,rfl,rfl⟩
theorem aY.trans{a b c:World}(h:aY a b)(k:aY b c):aY a c:=⟨k.os.trans h.os,k.tape.trans h.tape,k.output.trans h.output,k.heap.trans h.heap⟩
theorem aY.below{w w':World}(h:aY w w'):Below w.heap.size w w':=⟨h.os,h.tape,h.output,by rw[h.heap];exact l9 _,fun k _=>by rw[h.heap]⟩
theorem cT.top{fp:Nat->Value}{F:Nat->Prop}{base:Nat}{w:World}{sb gf cap:Nat}{t0 tv outv s0:Value}{fvs:List FVal}{below:List aK}{f:aK}{tape:List Int}{out:List (List UInt8)}(h:cT fp F base w sb gf cap t0 tv outv s0 fvs ⟨below++[f],tape,out⟩):
 ∃fb v cur,fvs=fb++[v]/\fb.length=below.length/\MH fp F base w v f/\w.heap[sb]?=some (.cells #[t0,.slice (some ⟨gf,0,none⟩) (fb.length+1) cap,tv,outv,s0] 108 (0,0))/\w.heap[gf]?=some (.cells cur 195 (0,0))/\fb.length+1<=cap/\
  cur[fb.length*6]?=some v.fp/\cur[fb.length*6+1]?=some v.nx/\cur[fb.length*6+2]?=some v.ln/\cur[fb.length*6+3]?=some v.sp/\cur[fb.length*6+4]?=some v.vv/\cur[fb.length*6+5]?=some v.ov:=by
 obtain⟨fb,v,rfl,h1,h2⟩:=iT.unsnoc h.frs;have hrow:=h.row;have hblk:=h.blk;rw[show (fb++[v]).length=fb.length+1 by simp] at hrow hblk
 obtain⟨cur,c1,c2,_⟩:=uM (j:=0) (x:=undef) hrow (by omega)
 have hcap:fb.length+1<=cap:=by
  rcases hrow.2 with ⟨r1,_⟩|⟨g',cap',cur,r1,r2,r3,r4,_⟩
  ·cases r1
  ·cases r1;exact r4
 exact⟨fb,v,cur,rfl,h1.length,h2,hblk,c1,hcap,c2 0 (by omega),c2 1 (by omega),c2 2 (by omega),c2 3 (by omega),c2 4 (by omega),c2 5 (by omega)⟩
theorem cW{w W:World}(h:W.heap=w.heap){a:Addr}{v:Value}(hc:w.cell? a=some v):W.cell? a=some v:=by
 have e:W.cell? a=w.cell? a:=World.cell?_of_block (by rw[h])
 rw[e];exact hc
theorem NT(w w0:World)(sb fa fj:Nat)(t:TypeId)(z:Value)(P:World->Prop)(hW:w.alloc (.cells #[.iface t z] 361)=w0)
 (HT:Hid (∀W,aY w0 W->Calls prog 158 #[.pointer (some ⟨sb,0,none⟩)] W fun e w'=>e=.returned (.pointer (some ⟨fa,fj,none⟩))/\aY w0 w'))
 (HP:Hid (∀W,aY w0 W->Calls prog 371 #[.pointer (some ⟨fa,fj,none⟩),.iface t z] W fun e w'=>e=.returned (.tuple #[])/\P w')):
 Calls prog 370 #[.agg #[.iface t z],.pointer (some ⟨sb,0,none⟩)] w fun e w'=>e=.returned (.tuple #[])/\P w':=by
 have hbox:(w.alloc (.cells #[.iface t z] 361)).heap[w.heap.size]?=some (.cells #[.iface t z] 361 (0,0)):=aT _ _ rfl _;rw[hW] at hbox;have HW:=aB hW;have c0:w0.cell? ⟨w.heap.size,0,none⟩=some (.iface t z):=aA hbox rfl;have HC0:=aB c0;have hlt:=aD hbox;clear hW hbox;go_enter Tryz.func370,Tryz.ntmps370;go_wp2_with fail;rw[HW.out];go_region_law (go_simp;first|(go_at_call 158;refine(HT.out _ (aY.drew _)).mono ?_;rintro e w1 ⟨rfl,hs1⟩;have c1:=cW hs1.heap HC0.out;have hl1:w.heap.size<w1.heap.size:=by (rw[hs1.heap];exact hlt))|(go_at_call 371;refine(HP.out _ hs1).mono ?_;rintro e w2 ⟨rfl,hd2⟩))
 all_goals
  go_wp2_with fail;go_end0;exact⟨rfl,hd2⟩
theorem SR(fp:Nat->Value)(F:Nat->Prop)(base:Nat)(w:World)(sb gf cap:Nat)(t0 tv outv s0:Value)(fvs:List FVal)(below:List aK)(f:aK)(tape:List Int)(out:List (List UInt8))(u:Value)(a:aI)
 (h:cT fp F base w sb gf cap t0 tv outv s0 fvs ⟨below++[f],tape,out⟩) (hu:PV F w u a) (hca:aJ a<=200) (hops:f.ops.length<=100000) (hbel:below.length<=15) (hbase:base<=w.heap.size):
 Calls prog 370 #[.agg #[u],.pointer (some ⟨sb,0,none⟩)] w fun e w'=>e=.returned (.tuple #[])/\Done fp F base sb t0 s0 (aF sb gf outv fvs) w ⟨below++[f.push a],tape,out⟩ w':=by
 obtain⟨t,z,rfl⟩:=hu.form;have hb0:Below w.heap.size w (w.alloc (.cells #[.iface t z] 361)):=(m8 _ _).alloc (l9 _) _;have hbox:(w.alloc (.cells #[.iface t z] 361)).heap[w.heap.size]?=some (.cells #[.iface t z] 361 (0,0)):=aT _ _ rfl _;have h0:=h.grow hb0 (fun _ h=>h) (fun _ h=>Or.inl h)
 have hu0:PV F (w.alloc (.cells #[.iface t z] 361)) (.iface t z) a:=hu.keep fun k hk=>hb0.block k (h.apart k hk).1
 generalize hW:w.alloc (.cells #[.iface t z] 361)=w0 at*;have HW:=aB hW;obtain⟨fb,v,cur,rfl,hfl,hv,hblk,hcur,hcap,k0,k1,k2,k3,k4,k5⟩:=h0.top;obtain⟨⟨xs,hown,hxs⟩,hc200⟩:=hv.ops
 have hgv:v.ov.ownBlock≠some gf:=fun e=>by
  have:=(r8.1 (r8.1 h0.nodup).2).1;exact this (by simp[aW,FVal.owns,e])
 have HT:Hid (∀W,aY w0 W->Calls prog 158 #[.pointer (some ⟨sb,0,none⟩)] W fun e w'=>e=.returned (.pointer (some ⟨gf,fb.length*6,none⟩))/\aY w0 w'):=fun W hS=>by
  refine(JG sb gf fb.length cap W (cW hS.heap (aA hblk rfl)) (by omega)).mono ?_
  rintro e w' ⟨he,q,rfl⟩;exact⟨he,hS.trans (aY.drewN _ _)⟩
 have HP:Hid (∀W,aY w0 W->Calls prog 371 #[.pointer (some ⟨gf,fb.length*6,none⟩),.iface t z] W fun e w'=>e=.returned (.tuple #[])/\Done fp F base sb t0 s0 (aF sb gf outv (fb++[v])) w ⟨below++[f.push a],tape,out⟩ w'):=fun W hS=>by
  have hbW:=hS.below;have hR:=h0.grow hbW (fun _ h=>h) (fun _ h=>Or.inl h)
  refine(wL base gf (fb.length*6) f.ops.length cur v.ov xs t z W (by rw[hS.heap];exact hcur) k5 (bA hown fun k _=>by rw[hS.heap]) hgv (by rw[hS.heap];exact p7 hbase hb0.size) (by omega)).mono ?_
  rintro e w' ⟨he,ov',p1,p2,p3,p4⟩;obtain⟨q1,q2⟩:=hR.pushed (cur:=cur) (by rw[hS.heap];exact hcur) (hxs.keep fun k _=>by rw[hS.heap]) (hu0.keep fun k _=>by rw[hS.heap]) hca p1 p2 p3 p4
  have hk:Kept (aF sb gf outv (fb++[v])) w w':=(Kept.of_below (own:=aF sb gf outv (fb++[v])) (hb0.trans (hbW.mono hb0.size))).trans q2 fun x hx=>Or.inl hx
  refine⟨he,hk,F,gf,cap,tv,outv,_,Ext.refl _ _,q1,fun k hk'=>?_⟩
  have hsz:W.heap.size=w0.heap.size:=by rw[hS.heap]
  have h1:aF sb gf outv (fb++[{ v with ov:=ov' }])=(sb::gf::(outv.ownBlock.toList++aW fb))++({ v with ov:=ov' }:FVal).owns:=by simp[aF,aW]
  have h2:aF sb gf outv (fb++[v])=(sb::gf::(outv.ownBlock.toList++aW fb))++v.owns:=by simp[aF,aW]
  rw[h1] at hk';rw[h2];rcases o7.1 hk' with h3|h3
  ·exact Or.inl (y9 _ h3)
  ·rcases o7.1 h3 with h3|h3
   ·exact Or.inl (ab_ _ (y9 _ h3))
   ·have h4:ov'.ownBlock=some k:=by simpa using h3
    rcases p3 k h4 with h5|h5
    ·exact Or.inl (ab_ _ (by simp[FVal.owns,h5]))
    ·exact Or.inr (by have:=hb0.size;omega)
 clear hown hxs hc200 hgv;exact NT w w0 sb gf (fb.length*6) t z _ HW.out HT HP
theorem fY.split{F:Nat->Prop}{w:World}{xs:List Value}{l m:List aI}(h:fY F w xs (l++m)):∃ys zs,xs=ys++zs/\ys.length=l.length/\zs.length=m.length/\fY F w ys l/\fY F w zs m:=by
 obtain⟨h1,h2⟩:=h;rw[m6] at h1;refine⟨xs.take l.length,xs.drop l.length,(ae_ _ _).symm,by simp;omega,by simp;omega,⟨by simp;omega,fun i hi=>?_⟩,⟨by simp;omega,fun i hi=>?_⟩⟩
 ·obtain⟨u,e1,e2⟩:=h2 i (by simp;omega)
  rw[a7_ hi] at e2;exact⟨u,by rw[x6,if_pos hi];exact e1,e2⟩
 ·obtain⟨u,e1,e2⟩:=h2 (l.length+i) (by simp;omega)
  rw[a2_ (by omega)] at e2
  simp only[az_] at e2;exact⟨u,by rw[aV_];exact e1,e2⟩
theorem fY.unsnoc{F:Nat->Prop}{w:World}{xs:List Value}{l:List aI}{a:aI}(h:fY F w xs (l++[a])):∃ys u,xs=ys++[u]/\ys.length=l.length/\fY F w ys l/\PV F w u a:=by
 obtain⟨ys,zs,e,h1,h2,h3,h4⟩:=h.split;match zs,h2 with
 |[u],_=>
  obtain⟨u',e1,e2⟩:=h4.2 0 (by simp)
  simp at e1 e2;subst e1;exact⟨ys,u,e,h1,h3,e2⟩
theorem cT.setTop{fp:Nat->Value}{F:Nat->Prop}{base:Nat}{w:World}{sb gf cap:Nat}{t0 tv outv s0:Value}{fb:List FVal}{v v':FVal}{below:List aK}{f f':aK}{tape:List Int}{out:List (List UInt8)}{j:Nat}{x:Value}
 (h:cT fp F base w sb gf cap t0 tv outv s0 (fb++[v]) ⟨below++[f],tape,out⟩) (hj:j<6) (hv':v'.cells=v.cells.set j x) (ho:v'.owns=v.owns) (hfr:MH fp F base w v' f'):
 cT fp F base (w.setCell ⟨gf,fb.length*6+j,none⟩ x) sb gf cap t0 tv outv s0 (fb++[v']) ⟨below++[f'],tape,out⟩/\Kept (aF sb gf outv (fb++[v])) w (w.setCell ⟨gf,fb.length*6+j,none⟩ x):=by
 have hrow:=h.row;rw[show (fb++[v]).length=fb.length+1 by simp] at hrow
 obtain⟨cur,c1,_,c3⟩:=uM (j:=j) (x:=x) hrow hj;have hvm:∀k∈v.owns,k∈aF sb gf outv (fb++[v]):=fun k hk=>by simp[aF,aW,hk]
 have hgv:gf∉v.owns:=fun hm=>by
  have:=(r8.1 (r8.1 h.nodup).2).1;exact this (by simp[aW,hm])
 have hnv:v.owns.Nodup:=by
  have h1:=h.nodup;have:aF sb gf outv (fb++[v])=(sb::gf::(outv.ownBlock.toList++aW fb))++v.owns:=by simp[aF,aW]
  rw[this] at h1;exact(ai_.1 h1).2.1
 have hk:∀k,k≠gf->(w.setCell ⟨gf,fb.length*6+j,none⟩ x).heap[k]?=w.heap[k]?:=fun k hk=>m7 _ _ _ _ hk
 have hFk:∀b,F b->(w.setCell ⟨gf,fb.length*6+j,none⟩ x).heap[b]?=w.heap[b]?:=fun b hb=>hk b fun e=>(h.apart b hb).2 (by simp[aF,e])
 refine⟨h.step (G:=F) (by simp) (fun k _ h2 _=>hk k h2) (c3 _ (aS c1) _ hv') (hfr.keep hFk (fun _ h=>h) fun k hm=>hk k fun e=>hgv (by rw[<-ho,<-e];exact hm)) (fun k hm=>?_) (by rw[ho];exact hnv) (fun _ h=>h) (fun _ h=>Or.inl h),⟨rfl,rfl,rfl,by simp,fun k _ hn=>hk k fun e=>hn (by simp[aF,e])⟩⟩
 rw[ho] at hm;exact⟨m9 (h.lt k (hvm k hm)) (by simp),Or.inl hm⟩
def Mid(fp:Nat->Value)(base sb gf n:Nat)(t0 s0:Value)(own:List Nat)(w0:World)(G:Nat->Prop)(m:cP)(w:World):Prop:=
 Kept own w0 w/\base<=w.heap.size/\∃cap tv outv fvs,fvs.length=n+1/\cT fp G base w sb gf cap t0 tv outv s0 fvs m/\∀k∈aF sb gf outv fvs,k∈own\/w0.heap.size<=k
section
variable {fp:Nat->Value} {base sb gf n:Nat} {t0 s0:Value} {own:List Nat} {w0 w w':World} {G G':Nat->Prop} {m:cP} {below:List aK} {f f':aK} {tape:List Int} {out:List (List UInt8)}
theorem Mid.init{cap:Nat}{tv outv:Value}{fvs:List FVal}(h:cT fp G base w sb gf cap t0 tv outv s0 fvs m)(hn:fvs.length=n+1)(hb:base<=w.heap.size)(ob:Obj):Mid fp base sb gf n t0 s0 (aF sb gf outv fvs) (w.alloc ob) G m (w.alloc ob):=
 ⟨Kept.refl _ _,p7 hb (by simp),cap,tv,outv,fvs,hn,h.grow ((m8 _ _).alloc (l9 _) _) (fun _ h=>h) (fun _ h=>Or.inl h),fun _ h=>Or.inl h⟩
theorem Mid.same(h:Mid fp base sb gf n t0 s0 own w0 G m w)(hs:aY w w'):Mid fp base sb gf n t0 s0 own w0 G m w':=by
 obtain⟨h1,h2,cap,tv,outv,fvs,h3,h4,h5⟩:=h;exact⟨h1.trans (Kept.of_below (own:=[]) hs.below) (fun x hx=>by simp at hx),by rw[hs.heap];exact h2,cap,tv,outv,fvs,h3,h4.grow hs.below (fun _ h=>h) (fun _ h=>Or.inl h),h5⟩
theorem Mid.grow(h:Mid fp base sb gf n t0 s0 own w0 G m w)(hb:Below w.heap.size w w')(hF:∀k,G k->G' k)(hG:∀k,G' k->G k\/(w.heap.size<=k/\k<w'.heap.size)):Mid fp base sb gf n t0 s0 own w0 G' m w':=by
 obtain⟨h1,h2,cap,tv,outv,fvs,h3,h4,h5⟩:=h;exact⟨h1.trans (Kept.of_below (own:=[]) hb) (fun x hx=>by simp at hx),p7 h2 hb.size,cap,tv,outv,fvs,h3,h4.grow hb hF hG,h5⟩
theorem Mid.old(h:Mid fp base sb gf n t0 s0 own w0 G m w){k:Nat}(hk:k<w0.heap.size)(ho:k∉own):w.heap[k]?=w0.heap[k]?:=h.1.block k hk ho
theorem Mid.done{F:Nat->Prop}{ob:Obj}(h:Mid fp base sb gf n t0 s0 own (w.alloc ob) G m w')(hF:Ext F G w.heap.size):Done fp F base sb t0 s0 own w m w':=by
 obtain⟨h1,h2,cap,tv,outv,fvs,h3,h4,h5⟩:=h
 exact⟨(Kept.of_below (own:=own) ((m8 _ w).alloc (l9 _) ob)).trans h1 (fun x hx=>Or.inl hx),G,gf,cap,tv,outv,fvs,hF,h4,fun k hk=>by
  rcases h5 k hk with h|h
  ·exact Or.inl h
  ·exact Or.inr (p7 (by simp) h)⟩
theorem Mid.top(h:Mid fp base sb gf n t0 s0 own w0 G m w)(hn:n<=15):Calls prog 158 #[.pointer (some ⟨sb,0,none⟩)] w fun e w'=>e=.returned (.pointer (some ⟨gf,n*6,none⟩))/\aY w w':=by
 obtain⟨h1,h2,cap,tv,outv,fvs,h3,h4,h5⟩:=h;have:=h4.blk;rw[h3] at this;refine(JG sb gf n cap w (aA this rfl) (by omega)).mono ?_
 rintro e w' ⟨he,q,rfl⟩;exact⟨he,aY.drewN _ _⟩
theorem Mid.cells(h:Mid fp base sb gf n t0 s0 own w0 G ⟨below++[f],tape,out⟩ w):∃v:FVal,MH fp G base w v f/\gf<w.heap.size/\∀j x,v.cells[j]?=some x->w.cell? ⟨gf,n*6+j,none⟩=some x/\w.frozen? ⟨gf,n*6+j,none⟩=false:=by
 obtain⟨h1,h2,cap,tv,outv,fvs,h3,h4,h5⟩:=h;obtain⟨fb,v,cur,rfl,hfl,hv,hblk,hcur,hcap,k0,k1,k2,k3,k4,k5⟩:=h4.top;have hfn:fb.length=n:=by simpa using h3
 subst hfn;refine⟨v,hv,aD hcur,fun j x hx=>?_⟩
 have hj:j<6:=(z6.1 hx).1;refine⟨aA hcur ?_,aE hcur⟩;rw[<-hx];match j,hj with
 |0,_=>exact k0
 |1,_=>exact k1
 |2,_=>exact k2
 |3,_=>exact k3
 |4,_=>exact k4
 |5,_=>exact k5
theorem Mid.set(h:Mid fp base sb gf n t0 s0 own w0 G ⟨below++[f],tape,out⟩ w)(j:Nat)(x:Value)(hj:j<6)(g:FVal->FVal)(hg:∀v,(g v).cells=v.cells.set j x)(ho:∀v,MH fp G base w v f->(g v).owns=v.owns)(hfr:∀v,MH fp G base w v f->MH fp G base w (g v) f'):
 Mid fp base sb gf n t0 s0 own w0 G ⟨below++[f'],tape,out⟩ (w.setCell ⟨gf,n*6+j,none⟩ x):=by
 obtain⟨h1,h2,cap,tv,outv,fvs,h3,h4,h5⟩:=h;obtain⟨fb,v,cur,rfl,hfl,hv,_⟩:=h4.top;have hfn:fb.length=n:=by simpa using h3
 subst hfn;obtain⟨q1,q2⟩:=h4.setTop hj (hg v) (ho v hv) (hfr v hv);refine⟨h1.trans q2 h5,p7 h2 q2.size,cap,tv,outv,_,by simp,q1,?_⟩
 rw[show aF sb gf outv (fb++[g v])=aF sb gf outv (fb++[v]) by simp[aF,aW,ho v hv]]
 exact h5
theorem Mid.push(h:Mid fp base sb gf n t0 s0 own w0 G ⟨below++[f],tape,out⟩ w){t:TypeId}{z:Value}{a:aI}(hu:PV G w (.iface t z) a)(hca:aJ a<=200)(hops:f.ops.length<=100000):Calls prog 371 #[.pointer (some ⟨gf,n*6,none⟩),.iface t z] w fun e w'=>e=.returned (.tuple #[])/\Mid fp base sb gf n t0 s0 own w0 G ⟨below++[f.push a],tape,out⟩ w':=by
 obtain⟨h1,h2,cap,tv,outv,fvs,h3,h4,h5⟩:=h;obtain⟨fb,v,cur,rfl,hfl,hv,hblk,hcur,hcap,k0,k1,k2,k3,k4,k5⟩:=h4.top;have hfn:fb.length=n:=by simpa using h3
 subst hfn;obtain⟨⟨xs,hown,hxs⟩,hc200⟩:=hv.ops
 have hgv:v.ov.ownBlock≠some gf:=fun e=>by
  have:=(r8.1 (r8.1 h4.nodup).2).1;exact this (by simp[aW,FVal.owns,e])
 refine(wL base gf (fb.length*6) f.ops.length cur v.ov xs t z w hcur k5 hown hgv h2 (by omega)).mono ?_
 rintro e w' ⟨he,ov',p1,p2,p3,p4⟩;obtain⟨q1,q2⟩:=h4.pushed (cur:=cur) hcur hxs hu hca p1 p2 p3 p4;refine⟨he,h1.trans q2 h5,p7 h2 q2.size,cap,tv,outv,_,by simp,q1,fun k hk'=>?_⟩
 have e1:aF sb gf outv (fb++[{ v with ov:=ov' }])=(sb::gf::(outv.ownBlock.toList++aW fb))++({ v with ov:=ov' }:FVal).owns:=by simp[aF,aW]
 have e2:aF sb gf outv (fb++[v])=(sb::gf::(outv.ownBlock.toList++aW fb))++v.owns:=by simp[aF,aW]
 rw[e1] at hk';rw[e2] at h5;rcases o7.1 hk' with h3|h3
 ·exact h5 k (y9 _ h3)
 ·rcases o7.1 h3 with h3|h3
  ·exact h5 k (ab_ _ (y9 _ h3))
  ·have h4:ov'.ownBlock=some k:=by simpa using h3
   rcases p3 k h4 with h6|h6
   ·exact h5 k (ab_ _ (by simp[FVal.owns,h6]))
   ·exact Or.inr (p7 h1.size h6)
theorem Mid.popK(h:Mid fp base sb gf n t0 s0 own w0 G ⟨below++[f],tape,out⟩ w){vs:List aI}{a:aI}(hf:f.ops=vs++[a])(hops:f.ops.length<=100000):Calls prog 171 #[.pointer (some ⟨gf,n*6,none⟩)] w fun e w'=>∃t z,e=.returned (.iface t z)/\PV G w' (.iface t z) a/\aJ a<=200/\Mid fp base sb gf n t0 s0 own w0 G ⟨below++[f.pop],tape,out⟩ w'/\∀k,G k->w'.heap[k]?=w.heap[k]?:=by
 obtain⟨h1,h2,cap,tv,outv,fvs,h3,h4,h5⟩:=h;obtain⟨fb,v,cur,rfl,hfl,hv,hblk,hcur,hcap,k0,k1,k2,k3,k4,k5⟩:=h4.top;have hfn:fb.length=n:=by simpa using h3
 subst hfn;obtain⟨⟨xs,hown,hxs⟩,hc200⟩:=hv.ops;rw[hf] at hown hxs hc200 hops;obtain⟨xs',u,rfl,hl,hxs',hu⟩:=fY.unsnoc hxs;obtain⟨t,z,rfl⟩:=hu.form;rw[m6] at hown hops;refine(PK base gf (fb.length*6) vs.length cur v.ov xs' _ w hcur k5 hown hl ⟨t,z,rfl⟩ (by omega)).mono ?_
 rintro e w' ⟨rfl,ov',rfl,p2,p3⟩;have hpop:f.pop.ops=vs:=by simp[aK.pop,hf]
 have hfr:MH fp G base w { v with ov:=ov' } f.pop:=⟨hv.fn,hv.nx,hv.ln,hv.sp,hv.vars,⟨xs',by rw[hpop];exact p2,by rw[hpop];exact hxs'⟩,fun b hb=>hc200 b (y9 _ (by rw[hpop] at hb;exact hb))⟩
 obtain⟨q1,q2⟩:=h4.setTop (j:=5) (x:=ov') (v':={ v with ov:=ov' }) (by omega) rfl (by simp[FVal.owns,p3]) hfr
 have hgf:∀k,G k->(w.setCell ⟨gf,fb.length*6+5,none⟩ ov').heap[k]?=w.heap[k]?:=fun k hk=>m7 _ _ _ _ fun e=>(h4.apart k hk).2 (by simp[aF,e])
 refine⟨t,z,rfl,hu.keep hgf,hc200 a (by simp),⟨h1.trans q2 h5,p7 h2 q2.size,cap,tv,outv,_,by simp,q1,?_⟩,hgf⟩
 rw[show aF sb gf outv (fb++[{ v with ov:=ov' }])=aF sb gf outv (fb++[v]) by simp[aF,aW,FVal.owns,p3]]
 exact h5
theorem Mid.pop(h:Mid fp base sb gf n t0 s0 own w0 G ⟨below++[f],tape,out⟩ w){vs:List aI}{a:aI}(hf:f.ops=vs++[a])(hops:f.ops.length<=100000):Calls prog 171 #[.pointer (some ⟨gf,n*6,none⟩)] w fun e w'=>∃t z,e=.returned (.iface t z)/\PV G w' (.iface t z) a/\aJ a<=200/\Mid fp base sb gf n t0 s0 own w0 G ⟨below++[f.pop],tape,out⟩ w':=by
 refine(h.popK hf hops).mono ?_;rintro e w' ⟨t,z,h1,h2,h3,h4,_⟩;exact⟨t,z,h1,h2,h3,h4⟩
end
def Z6(k:Nat)(e:Ending):Prop:=(k=0/\e=.returned (.tuple #[]))\/(k≠0/\e=fK k)
theorem jX{w W:World}(h:W.heap=w.heap){k:Nat}(hk:k<w.heap.size):k<W.heap.size:=by rw[h];exact hk
theorem qR{w W:World}(h:W.heap=w.heap){a:Addr}(hc:w.frozen? a=false):W.frozen? a=false:=by
 have e:W.frozen? a=w.frozen? a:=by unfold World.frozen?;rw[h]
 rw[e];exact hc
theorem QB(w w0:World)(sb fa fj:Nat)(P:World->Prop)(hW:w.alloc (.cells #[] 449)=w0)
 (HT:Hid (∀W,aY w0 W->Calls prog 158 #[.pointer (some ⟨sb,0,none⟩)] W fun e w'=>e=.returned (.pointer (some ⟨fa,fj,none⟩))/\aY w0 w'))
 (HP:Hid (∀W,aY w0 W->Calls prog 171 #[.pointer (some ⟨fa,fj,none⟩)] W fun e w'=>∃t z,e=.returned (.iface t z)/\P w')):
 Calls prog 410 #[.agg #[],.pointer (some ⟨sb,0,none⟩)] w fun e w'=>e=.returned (.tuple #[])/\P w':=by
 have HW:=aB hW;clear hW;go_enter Tryz.func410,Tryz.ntmps410;go_wp2_with fail;rw[HW.out];refine(HT.out _ (aY.refl _)).mono ?_;rintro e w1 ⟨rfl,hs1⟩;go_wp2_with fail;refine(HP.out _ hs1).mono ?_;rintro e w2 ⟨t,z,rfl,h2⟩;go_wp2_with fail;go_end0;exact⟨rfl,h2⟩
theorem JF(w w0:World)(sb fa fj:Nat)(P S:World->Prop)(Q1:TypeId->Value->World->Prop)(Q2:Bool->World->Prop)(hW:w.alloc (.cells #[] 436)=w0)
 (HT:Hid (∀W,aY w0 W->Calls prog 158 #[.pointer (some ⟨sb,0,none⟩)] W fun e w'=>e=.returned (.pointer (some ⟨fa,fj,none⟩))/\aY w0 w'))
 (HP:Hid (∀W,aY w0 W->Calls prog 171 #[.pointer (some ⟨fa,fj,none⟩)] W fun e w'=>∃t z,e=.returned (.iface t z)/\Q1 t z w'))
 (HV:Hid (∀W t z,Q1 t z W->Calls prog 385 #[.iface t z] W fun e w'=>(∃b,e=.returned (.bool b)/\Q2 b w')\/(e=fK 2/\S w')))
 (HU:Hid (∀W b,Q2 b W->Calls prog 371 #[.pointer (some ⟨fa,fj,none⟩),.iface 316 (.bool b)] W fun e w'=>e=.returned (.tuple #[])/\P w')):
 Calls prog 396 #[.agg #[],.pointer (some ⟨sb,0,none⟩)] w fun e w'=>(e=.returned (.tuple #[])/\P w')\/(e=fK 2/\S w'):=by
 have HW:=aB hW;clear hW;go_enter Tryz.func396,Tryz.ntmps396;go_wp2_with fail;rw[HW.out];refine(HT.out _ (aY.refl _)).mono ?_;rintro e w1 ⟨rfl,hs1⟩;go_wp2_with fail;refine(HP.out _ hs1).mono ?_;rintro e w2 ⟨t,z,rfl,h2⟩;have h3:=aB (HV.out _ t z h2);clear h2;go_wp2_with fail;refine h3.out.mono ?_;rintro e w3 (⟨b,rfl,h3⟩|⟨rfl,h3⟩)
 ·have h4:=aB (HU.out _ b h3);clear h3;go_wp2_with fail;refine h4.out.mono ?_;rintro e w4 ⟨rfl,h4⟩;go_wp2_with fail;go_end0;exact Or.inl ⟨rfl,h4⟩
 ·go_wp2_with fail;exact⟨rfl,Or.inr ⟨rfl,h3⟩⟩
theorem EE(w w0:World)(sb fa fj tg:Nat)(P S:World->Prop)(Q1:TypeId->Value->World->Prop)(Q2:Bool->World->Prop)(hW:w.alloc (.cells #[.int .i64 tg] 461)=w0)
 (HT:Hid (∀W,aY w0 W->Calls prog 158 #[.pointer (some ⟨sb,0,none⟩)] W fun e w'=>e=.returned (.pointer (some ⟨fa,fj,none⟩))/\aY w0 w'))
 (HP:Hid (∀W,aY w0 W->Calls prog 171 #[.pointer (some ⟨fa,fj,none⟩)] W fun e w'=>∃t z,e=.returned (.iface t z)/\Q1 t z w'))
 (HV:Hid (∀W t z,Q1 t z W->Calls prog 385 #[.iface t z] W fun e w'=>(∃b,e=.returned (.bool b)/\Q2 b w')\/(e=fK 2/\S w')))
 (HQ:Hid (∀W,Q2 true W->P W)) (HN:Hid (∀W,Q2 false W->P (W.setCell ⟨fa,fj+1,none⟩ (.int .i64 tg))))
 (HB:Hid (∀W b,Q2 b W->W.cell? ⟨w.heap.size,0,none⟩=some (.int .i64 tg)/\w.heap.size<W.heap.size/\(∃u,W.cell? ⟨fa,fj+1,none⟩=some u)/\W.frozen? ⟨fa,fj+1,none⟩=false/\fa<W.heap.size)):
 Calls prog 411 #[.agg #[.int .i64 tg],.pointer (some ⟨sb,0,none⟩)] w fun e w'=>(e=.returned (.tuple #[])/\P w')\/(e=fK 2/\S w'):=by
 have HW:=aB hW;clear hW;go_enter Tryz.func411,Tryz.ntmps411;go_wp2_with fail;rw[HW.out];refine(HT.out _ (aY.refl _)).mono ?_;rintro e w1 ⟨rfl,hs1⟩;go_wp2_with fail;refine(HP.out _ hs1).mono ?_;rintro e w2 ⟨t,z,rfl,h2⟩;have h3:=aB (HV.out _ t z h2);clear h2;go_wp2_with fail;refine h3.out.mono ?_;rintro e w3 (⟨b,rfl,h3⟩|⟨rfl,h3⟩)
 ·obtain⟨c1,c2,⟨u,c3⟩,c4,c5⟩:=HB.out _ b h3;cases b with
  |false=>
   have h4:=aB (HN.out _ h3);clear h3;go_wp2_with fail;go_end0;exact Or.inl ⟨rfl,h4.out⟩
  |true=>
   have h4:=aB (HQ.out _ h3);clear h3;go_wp2_with fail;go_end0;exact Or.inl ⟨rfl,h4.out⟩
 ·go_wp2_with fail;exact⟨rfl,Or.inr ⟨rfl,h3⟩⟩
theorem OZ(w w0:World)(sb fa fj tg:Nat)(P:World->Prop)(hW:w.alloc (.cells #[.int .i64 tg] 462)=w0)
 (HT:Hid (∀W,aY w0 W->Calls prog 158 #[.pointer (some ⟨sb,0,none⟩)] W fun e w'=>e=.returned (.pointer (some ⟨fa,fj,none⟩))/\aY w0 w'))
 (hc:∃u,w0.cell? ⟨fa,fj+1,none⟩=some u) (hf:w0.frozen? ⟨fa,fj+1,none⟩=false) (hl:fa<w0.heap.size)
 (HN:Hid (∀W,aY w0 W->P (W.setCell ⟨fa,fj+1,none⟩ (.int .i64 tg)))):
 Calls prog 412 #[.agg #[.int .i64 tg],.pointer (some ⟨sb,0,none⟩)] w fun e w'=>e=.returned (.tuple #[])/\P w':=by
 have hbox:(w.alloc (.cells #[.int .i64 tg] 462)).heap[w.heap.size]?=some (.cells #[.int .i64 tg] 462 (0,0)):=aT _ _ rfl _;rw[hW] at hbox;have HW:=aB hW;have c0:w0.cell? ⟨w.heap.size,0,none⟩=some (.int .i64 tg):=aA hbox rfl;have HC0:=aB c0;have hlt:=aD hbox;obtain⟨u,hc⟩:=hc;have HC:=aB hc;have HF:=aB hf;clear hW hbox hc hf;go_enter Tryz.func412,Tryz.ntmps412;go_wp2_with fail;rw[HW.out];go_region_law (go_simp;go_at_call 158;refine(HT.out _ (aY.drew _)).mono ?_;rintro e w1 ⟨rfl,hs1⟩;have c1:=cW hs1.heap HC0.out;have c2:=cW hs1.heap HC.out;have c3:=qR hs1.heap HF.out;have hl1:=jX hs1.heap hlt;have hl2:=jX hs1.heap hl)
 all_goals
  go_wp2_with fail;go_end0;exact⟨rfl,HN.out _ hs1⟩
theorem zF(w w0:World)(sb fa fj tg:Nat)(wh:Bool)(P S:World->Prop)(Q1:TypeId->Value->World->Prop)(Q2 Q3:Bool->World->Prop)(hW:w.alloc (.cells #[.bool wh,.int .i64 tg] 438)=w0)
 (HT:Hid (∀W,aY w0 W->Calls prog 158 #[.pointer (some ⟨sb,0,none⟩)] W fun e w'=>e=.returned (.pointer (some ⟨fa,fj,none⟩))/\aY w0 w'))
 (HP:Hid (∀W,aY w0 W->Calls prog 171 #[.pointer (some ⟨fa,fj,none⟩)] W fun e w'=>∃t z,e=.returned (.iface t z)/\Q1 t z w'))
 (HV:Hid (∀W t z,Q1 t z W->Calls prog 385 #[.iface t z] W fun e w'=>(∃b,e=.returned (.bool b)/\Q2 b w')\/(e=fK 2/\S w')))
 (HU:Hid (∀W b,Q2 b W->Calls prog 371 #[.pointer (some ⟨fa,fj,none⟩),.iface 316 (.bool b)] W fun e w'=>e=.returned (.tuple #[])/\Q3 b w'))
 (HQ:Hid (∀W b,Q2 b W->b≠wh->P W)) (HN:Hid (∀W b,Q3 b W->b=wh->P (W.setCell ⟨fa,fj+1,none⟩ (.int .i64 tg))))
 (HB2:Hid (∀W b,Q2 b W->W.cell? ⟨w.heap.size,0,none⟩=some (.bool wh)/\w.heap.size<W.heap.size))
 (HB:Hid (∀W b,Q3 b W->W.cell? ⟨w.heap.size,1,none⟩=some (.int .i64 tg)/\w.heap.size<W.heap.size/\(∃u,W.cell? ⟨fa,fj+1,none⟩=some u)/\W.frozen? ⟨fa,fj+1,none⟩=false/\fa<W.heap.size)):
 Calls prog 397 #[.agg #[.bool wh,.int .i64 tg],.pointer (some ⟨sb,0,none⟩)] w fun e w'=>(e=.returned (.tuple #[])/\P w')\/(e=fK 2/\S w'):=by
 have HW:=aB hW;clear hW;go_enter Tryz.func397,Tryz.ntmps397;go_wp2_with fail;rw[HW.out];refine(HT.out _ (aY.refl _)).mono ?_;rintro e w1 ⟨rfl,hs1⟩;go_wp2_with fail;refine(HP.out _ hs1).mono ?_;rintro e w2 ⟨t,z,rfl,h2⟩;have h3:=aB (HV.out _ t z h2);clear h2;go_wp2_with fail;refine h3.out.mono ?_;rintro e w3 (⟨b,rfl,h3⟩|⟨rfl,h3⟩)
 ·obtain⟨c1,c2⟩:=HB2.out _ b h3;by_cases hb:b=wh
  ·subst hb;have h4:=aB (HU.out _ b h3);clear h3;cases b with
   |true=>
    go_wp2_with fail;refine h4.out.mono ?_;rintro e w4 ⟨rfl,h4⟩;obtain⟨d1,d2,⟨u,d3⟩,d4,d5⟩:=HB.out _ _ h4;have h5:=aB (HN.out _ _ h4 rfl);clear h4;go_wp2_with fail;go_end0;exact Or.inl ⟨rfl,h5.out⟩
   |false=>
    go_wp2_with fail;refine h4.out.mono ?_;rintro e w4 ⟨rfl,h4⟩;obtain⟨d1,d2,⟨u,d3⟩,d4,d5⟩:=HB.out _ _ h4;have h5:=aB (HN.out _ _ h4 rfl);clear h4;go_wp2_with fail;go_end0;exact Or.inl ⟨rfl,h5.out⟩
  ·have h4:=aB (HQ.out _ b h3 hb);clear h3;cases b<;>cases wh<;>first|exact absurd rfl hb|(clear hb;go_wp2_with fail;go_end0;exact Or.inl ⟨rfl,h4.out⟩)
 ·go_wp2_with fail;exact⟨rfl,Or.inr ⟨rfl,h3⟩⟩
theorem GG(w w0:World)(sb fa fj:Nat)(op:List UInt8)(k:Nat)(P S:World->Prop)(Q1:TypeId->Value->World->Prop)(Q2:TypeId->Value->TypeId->Value->World->Prop)(Q3:TypeId->Value->World->Prop)(hW:w.alloc (.cells #[.string (bs op)] 435)=w0)
 (HT:Hid (∀W,aY w0 W->Calls prog 158 #[.pointer (some ⟨sb,0,none⟩)] W fun e w'=>e=.returned (.pointer (some ⟨fa,fj,none⟩))/\aY w0 w'))
 (HP:Hid (∀W,aY w0 W->Calls prog 171 #[.pointer (some ⟨fa,fj,none⟩)] W fun e w'=>∃t z,e=.returned (.iface t z)/\Q1 t z w'))
 (HP2:Hid (∀W t z,Q1 t z W->Calls prog 171 #[.pointer (some ⟨fa,fj,none⟩)] W fun e w'=>∃t' z',e=.returned (.iface t' z')/\Q2 t z t' z' w'))
 (HB:Hid (∀W t z t' z',Q2 t z t' z' W->W.cell? ⟨w.heap.size,0,none⟩=some (.string (bs op))/\w.heap.size<W.heap.size))
 (HV:Hid (∀W t z t' z',Q2 t z t' z' W->Calls prog 388 #[.string (bs op),.iface t' z',.iface t z] W fun e w'=>(∃t1 z1,e=.returned (.iface t1 z1)/\Q3 t1 z1 w')\/(e=fK k/\S w')))
 (HU:Hid (∀W t z,Q3 t z W->Calls prog 371 #[.pointer (some ⟨fa,fj,none⟩),.iface t z] W fun e w'=>e=.returned (.tuple #[])/\P w')):
 Calls prog 387 #[.agg #[.string (bs op)],.pointer (some ⟨sb,0,none⟩)] w fun e w'=>(e=.returned (.tuple #[])/\P w')\/(e=fK k/\S w'):=by
 have HW:=aB hW;clear hW;go_enter Tryz.func387,Tryz.ntmps387;go_wp2_with fail;rw[HW.out];refine(HT.out _ (aY.refl _)).mono ?_;rintro e w1 ⟨rfl,hs1⟩;go_wp2_with fail;refine(HP.out _ hs1).mono ?_;rintro e w2 ⟨t,z,rfl,h2⟩;have h3:=aB (HP2.out _ t z h2);clear h2;go_wp2_with fail;refine h3.out.mono ?_;rintro e w3 ⟨t',z',rfl,h4⟩;obtain⟨c1,c2⟩:=HB.out _ _ _ _ _ h4;have h5:=aB (HV.out _ _ _ _ _ h4);clear h4;go_wp2_with fail;refine h5.out.mono ?_;rintro e w4 (⟨t1,z1,rfl,h6⟩|⟨rfl,h6⟩)
 ·have h7:=aB (HU.out _ _ _ h6);clear h6;go_wp2_with fail;refine h7.out.mono ?_;rintro e w5 ⟨rfl,h8⟩;go_wp2_with fail;go_end0;exact Or.inl ⟨rfl,h8⟩
 ·go_wp2_with fail;exact⟨rfl,Or.inr ⟨rfl,h6⟩⟩
theorem KZ(w w0:World)(sb fa fj:Nat)(k:Nat)(P S:World->Prop)(Q1:TypeId->Value->World->Prop)(Q2:TypeId->Value->TypeId->Value->World->Prop)(Q3:TypeId->Value->World->Prop)(hW:w.alloc (.cells #[] 405)=w0)
 (HT:Hid (∀W,aY w0 W->Calls prog 158 #[.pointer (some ⟨sb,0,none⟩)] W fun e w'=>e=.returned (.pointer (some ⟨fa,fj,none⟩))/\aY w0 w'))
 (HP:Hid (∀W,aY w0 W->Calls prog 171 #[.pointer (some ⟨fa,fj,none⟩)] W fun e w'=>∃t z,e=.returned (.iface t z)/\Q1 t z w'))
 (HP2:Hid (∀W t z,Q1 t z W->Calls prog 171 #[.pointer (some ⟨fa,fj,none⟩)] W fun e w'=>∃t' z',e=.returned (.iface t' z')/\Q2 t z t' z' w'))
 (HV:Hid (∀W t z t' z',Q2 t z t' z' W->Calls prog 381 #[.iface t' z',.iface t z] W fun e w'=>(∃t1 z1,e=.returned (.iface t1 z1)/\Q3 t1 z1 w')\/(e=fK k/\S w')))
 (HU:Hid (∀W t z,Q3 t z W->Calls prog 371 #[.pointer (some ⟨fa,fj,none⟩),.iface t z] W fun e w'=>e=.returned (.tuple #[])/\P w')):
 Calls prog 380 #[.agg #[],.pointer (some ⟨sb,0,none⟩)] w fun e w'=>(e=.returned (.tuple #[])/\P w')\/(e=fK k/\S w'):=by
 have HW:=aB hW;clear hW;go_enter Tryz.func380,Tryz.ntmps380;go_wp2_with fail;rw[HW.out];refine(HT.out _ (aY.refl _)).mono ?_;rintro e w1 ⟨rfl,hs1⟩;go_wp2_with fail;refine(HP.out _ hs1).mono ?_;rintro e w2 ⟨t,z,rfl,h2⟩;have h3:=aB (HP2.out _ t z h2);clear h2;go_wp2_with fail;refine h3.out.mono ?_;rintro e w3 ⟨t',z',rfl,h4⟩;have h5:=aB (HV.out _ _ _ _ _ h4);clear h4;go_wp2_with fail;refine h5.out.mono ?_;rintro e w4 (⟨t1,z1,rfl,h6⟩|⟨rfl,h6⟩)
 ·have h7:=aB (HU.out _ _ _ h6);clear h6;go_wp2_with fail;refine h7.out.mono ?_;rintro e w5 ⟨rfl,h8⟩;go_wp2_with fail;go_end0;exact Or.inl ⟨rfl,h8⟩
 ·go_wp2_with fail;exact⟨rfl,Or.inr ⟨rfl,h6⟩⟩
theorem FJ(w w0:World)(sb fa fj:Nat)(k:Nat)(P S:World->Prop)(Q1 Q3:TypeId->Value->World->Prop)(hW:w.alloc (.cells #[] 439)=w0)
 (HT:Hid (∀W,aY w0 W->Calls prog 158 #[.pointer (some ⟨sb,0,none⟩)] W fun e w'=>e=.returned (.pointer (some ⟨fa,fj,none⟩))/\aY w0 w'))
 (HP:Hid (∀W,aY w0 W->Calls prog 171 #[.pointer (some ⟨fa,fj,none⟩)] W fun e w'=>∃t z,e=.returned (.iface t z)/\Q1 t z w'))
 (HV:Hid (∀W t z,Q1 t z W->Calls prog 399 #[.iface t z] W fun e w'=>(∃t1 z1,e=.returned (.iface t1 z1)/\Q3 t1 z1 w')\/(e=fK k/\S w')))
 (HU:Hid (∀W t z,Q3 t z W->Calls prog 371 #[.pointer (some ⟨fa,fj,none⟩),.iface t z] W fun e w'=>e=.returned (.tuple #[])/\P w')):
 Calls prog 398 #[.agg #[],.pointer (some ⟨sb,0,none⟩)] w fun e w'=>(e=.returned (.tuple #[])/\P w')\/(e=fK k/\S w'):=by
 have HW:=aB hW;clear hW;go_enter Tryz.func398,Tryz.ntmps398;go_wp2_with fail;rw[HW.out];refine(HT.out _ (aY.refl _)).mono ?_;rintro e w1 ⟨rfl,hs1⟩;go_wp2_with fail;refine(HP.out _ hs1).mono ?_;rintro e w2 ⟨t,z,rfl,h2⟩;have h5:=aB (HV.out _ t z h2);clear h2;go_wp2_with fail;refine h5.out.mono ?_;rintro e w4 (⟨t1,z1,rfl,h6⟩|⟨rfl,h6⟩)
 ·have h7:=aB (HU.out _ _ _ h6);clear h6;go_wp2_with fail;refine h7.out.mono ?_;rintro e w5 ⟨rfl,h8⟩;go_wp2_with fail;go_end0;exact Or.inl ⟨rfl,h8⟩
 ·go_wp2_with fail;exact⟨rfl,Or.inr ⟨rfl,h6⟩⟩
theorem OT(w w0:World)(sb fa fj c:Nat)(k:Nat)(P S:World->Prop)(Q1:Option Addr->Nat->World->Prop)(Q3:TypeId->Value->World->Prop)(hW:w.alloc (.cells #[.int .i64 c] 404)=w0)
 (HT:Hid (∀W,aY w0 W->Calls prog 158 #[.pointer (some ⟨sb,0,none⟩)] W fun e w'=>e=.returned (.pointer (some ⟨fa,fj,none⟩))/\aY w0 w'))
 (HP:Hid (∀W,aY w0 W->Calls prog 377 #[.pointer (some ⟨fa,fj,none⟩),.int .i64 c] W fun e w'=>∃x d,e=.returned (.slice x c d)/\Q1 x d w'))
 (HV:Hid (∀W x d,Q1 x d W->Calls prog 376 #[.slice x c d] W fun e w'=>(∃t1 z1,e=.returned (.iface t1 z1)/\Q3 t1 z1 w')\/(e=fK k/\S w')))
 (HU:Hid (∀W t z,Q3 t z W->Calls prog 371 #[.pointer (some ⟨fa,fj,none⟩),.iface t z] W fun e w'=>e=.returned (.tuple #[])/\P w')):
 Calls prog 375 #[.agg #[.int .i64 c],.pointer (some ⟨sb,0,none⟩)] w fun e w'=>(e=.returned (.tuple #[])/\P w')\/(e=fK k/\S w'):=by
 have hbox:(w.alloc (.cells #[.int .i64 c] 404)).heap[w.heap.size]?=some (.cells #[.int .i64 c] 404 (0,0)):=aT _ _ rfl _;rw[hW] at hbox;have HW:=aB hW;have HC0:=aB (aA (i:=0) hbox rfl);have hlt:=aD hbox;clear hW hbox;go_enter Tryz.func375,Tryz.ntmps375;go_wp2_with fail;rw[HW.out];refine(HT.out _ (aY.refl _)).mono ?_;rintro e w1 ⟨rfl,hs1⟩;have c1:=cW hs1.heap HC0.out;have hl1:=jX hs1.heap hlt;go_wp2_with fail;refine(HP.out _ hs1).mono ?_;rintro e w2 ⟨x,d,rfl,h2⟩;have h5:=aB (HV.out _ x d h2);clear h2;go_wp2_with fail;refine h5.out.mono ?_;rintro e w4 (⟨t1,z1,rfl,h6⟩|⟨rfl,h6⟩)
 ·have h7:=aB (HU.out _ _ _ h6);clear h6;go_wp2_with fail;refine h7.out.mono ?_;rintro e w5 ⟨rfl,h8⟩;go_wp2_with fail;go_end0;exact Or.inl ⟨rfl,h8⟩
 ·go_wp2_with fail;exact⟨rfl,Or.inr ⟨rfl,h6⟩⟩
theorem VO{P:Program}{ops:Array Oper}{o:Oper}{a:Act}{w:World}{K:Act->World->Prop}{Q:Exit->Act->World->Prop}{E:Prop}(v0:Value)
 (h:if Region.wanted o (yielded ops a.tmps)=true then Oper.wp P o a w K Q else E) (_d:Hid False->K (a.put o.dst v0) w):
 if Region.wanted o (yielded ops a.tmps)=true then Oper.wp P o a w K Q else E:=h
theorem RN(w w0:World)(sb fa fj:Nat)(op:List UInt8)(P:World->Prop)(Q1 Q3:TypeId->Value->World->Prop)(hW:w.alloc (.cells #[.string (bs op)] 407)=w0)
 (HT:Hid (∀W,aY w0 W->Calls prog 158 #[.pointer (some ⟨sb,0,none⟩)] W fun e w'=>e=.returned (.pointer (some ⟨fa,fj,none⟩))/\aY w0 w'))
 (HP:Hid (∀W,aY w0 W->Calls prog 171 #[.pointer (some ⟨fa,fj,none⟩)] W fun e w'=>∃t z,e=.returned (.iface t z)/\Q1 t z w'))
 (HB:Hid (∀W t z,Q1 t z W->W.cell? ⟨w.heap.size,0,none⟩=some (.string (bs op))/\w.heap.size<W.heap.size))
 (HV:Hid (∀W t z,Q1 t z W->Calls prog 384 #[.string (bs op),.iface t z] W fun e w'=>∃t1 z1,e=.returned (.iface t1 z1)/\Q3 t1 z1 w'))
 (HU:Hid (∀W t z,Q3 t z W->Calls prog 371 #[.pointer (some ⟨fa,fj,none⟩),.iface t z] W fun e w'=>e=.returned (.tuple #[])/\P w')):
 Calls prog 383 #[.agg #[.string (bs op)],.pointer (some ⟨sb,0,none⟩)] w fun e w'=>e=.returned (.tuple #[])/\P w':=by
 have hbox:(w.alloc (.cells #[.string (bs op)] 407)).heap[w.heap.size]?=some (.cells #[.string (bs op)] 407 (0,0)):=aT _ _ rfl _;rw[hW] at hbox;have HW:=aB hW;have HC0:=aB (aA (i:=0) hbox rfl);have hlt:=aD hbox;clear hW hbox;go_enter Tryz.func383,Tryz.ntmps383;go_wp2_with fail;rw[HW.out];refine(HT.out _ (aY.refl _)).mono ?_;rintro e w1 ⟨rfl,hs1⟩;have c1:=cW hs1.heap HC0.out;have hl1:=jX hs1.heap hlt;go_wp2_with fail;go_region_law (go_simp;first|(go_at_call 171;refine(HP.out _ (hs1.trans (aY.drew _))).mono ?_;rintro e w2 ⟨t,z,rfl,h2⟩;have hb2:=HB.out _ _ _ h2;have b1:=hb2.1;have b2:=hb2.2;clear hb2)|(go_at_call 384;refine(HV.out _ _ _ h2).mono ?_;rintro e w3 ⟨t1,z1,rfl,h3⟩)|(go_at_call 371;refine(HU.out _ _ _ h3).mono ?_;rintro e w4 ⟨rfl,h4⟩))
 all_goals
  go_wp2_with fail;go_end0;exact⟨rfl,h4⟩
theorem JD(w w0:World)(sb fa fj:Nat)(op:List UInt8)(k:Nat)(S:World->Prop)(Q1:TypeId->Value->World->Prop)(hW:w.alloc (.cells #[.string (bs op)] 407)=w0)
 (HT:Hid (∀W,aY w0 W->Calls prog 158 #[.pointer (some ⟨sb,0,none⟩)] W fun e w'=>e=.returned (.pointer (some ⟨fa,fj,none⟩))/\aY w0 w'))
 (HP:Hid (∀W,aY w0 W->Calls prog 171 #[.pointer (some ⟨fa,fj,none⟩)] W fun e w'=>∃t z,e=.returned (.iface t z)/\Q1 t z w'))
 (HB:Hid (∀W t z,Q1 t z W->W.cell? ⟨w.heap.size,0,none⟩=some (.string (bs op))/\w.heap.size<W.heap.size))
 (HV:Hid (∀W t z,Q1 t z W->Calls prog 384 #[.string (bs op),.iface t z] W fun e w'=>e=fK k/\S w')):
 Calls prog 383 #[.agg #[.string (bs op)],.pointer (some ⟨sb,0,none⟩)] w fun e w'=>e=fK k/\S w':=by
 have hbox:(w.alloc (.cells #[.string (bs op)] 407)).heap[w.heap.size]?=some (.cells #[.string (bs op)] 407 (0,0)):=aT _ _ rfl _;rw[hW] at hbox;have HW:=aB hW;have HC0:=aB (aA (i:=0) hbox rfl);have hlt:=aD hbox;clear hW hbox;go_enter Tryz.func383,Tryz.ntmps383;go_wp2_with fail;rw[HW.out];refine(HT.out _ (aY.refl _)).mono ?_;rintro e w1 ⟨rfl,hs1⟩;have c1:=cW hs1.heap HC0.out;have hl1:=jX hs1.heap hlt;go_wp2_with fail;go_region_law (first|(go_simp;go_at_call 171;refine(HP.out _ (hs1.trans (aY.drew _))).mono ?_;rintro e w2 ⟨t,z,rfl,h2⟩;have hb2:=HB.out _ _ _ h2;have b1:=hb2.1;have b2:=hb2.2;clear hb2)|(refine VO (.iface 316 (.bool true)) ?_ ?_;(focus go_simp;go_at_call 384;refine(HV.out _ _ _ h2).mono ?_;rintro e w3 ⟨rfl,h3⟩;exact⟨rfl,rfl,h3⟩);intro hfalse)|(refine VO (.tuple #[]) hfalse.out.elim ?_;intro hfalse2))
 all_goals exact hfalse.out.elim
theorem OS(w w0:World)(sb fa fj sl g n cap:Nat)(t:TypeId)(z:Value)(P:World->Prop)(hW:w.alloc (.cells #[.int .i64 sl] 402)=w0)
 (HT:Hid (∀W,aY w0 W->Calls prog 158 #[.pointer (some ⟨sb,0,none⟩)] W fun e w'=>e=.returned (.pointer (some ⟨fa,fj,none⟩))/\aY w0 w'))
 (hv:w0.cell? ⟨fa,fj+4,none⟩=some (.slice (some ⟨g,0,none⟩) n cap)) (hx:w0.cell? ⟨g,sl,none⟩=some (.iface t z)) (hsl:sl<n)
 (HU:Hid (∀W,aY w0 W->Calls prog 371 #[.pointer (some ⟨fa,fj,none⟩),.iface t z] W fun e w'=>e=.returned (.tuple #[])/\P w')):
 Calls prog 374 #[.agg #[.int .i64 sl],.pointer (some ⟨sb,0,none⟩)] w fun e w'=>e=.returned (.tuple #[])/\P w':=by
 have hbox:(w.alloc (.cells #[.int .i64 sl] 402)).heap[w.heap.size]?=some (.cells #[.int .i64 sl] 402 (0,0)):=aT _ _ rfl _;rw[hW] at hbox;have HW:=aB hW;have HC0:=aB (aA (i:=0) hbox rfl);have hlt:=aD hbox;have HC1:=aB hv;have HC2:=aB hx;have e1:(0:Int)<=(sl:Int):=by omega
 have e2:(sl:Int)<(n:Int):=by omega
 clear hW hbox hv hx;go_enter Tryz.func374,Tryz.ntmps374;go_wp2_with fail;rw[HW.out];have c0:=HC0.out;go_region_law (go_simp;first|(go_at_call 158;refine(HT.out _ (by first|assumption|exact aY.drew _)).mono ?_;rintro e w1 ⟨rfl,hs1⟩;have c1:=cW hs1.heap HC0.out;have hl1:=jX hs1.heap hlt;have c2:=cW hs1.heap HC1.out;have c3:=cW hs1.heap HC2.out)|(go_at_call 371;refine(HU.out _ hs1).mono ?_;rintro e w4 ⟨rfl,h4⟩))
 all_goals
  go_wp2_with fail;go_end0;exact⟨rfl,h4⟩
theorem MD(w w0:World)(sb fa fj ln:Nat)(sp:Option Addr)(P:World->Prop)(hW:w.alloc (.cells #[.int .i64 ln,.pointer sp] 365)=w0)
 (HT:Hid (∀W,aY w0 W->Calls prog 158 #[.pointer (some ⟨sb,0,none⟩)] W fun e w'=>e=.returned (.pointer (some ⟨fa,fj,none⟩))/\aY w0 w'))
 (hc2:∃u,w0.cell? ⟨fa,fj+2,none⟩=some u) (hc3:∃u,w0.cell? ⟨fa,fj+3,none⟩=some u) (hf2:w0.frozen? ⟨fa,fj+2,none⟩=false) (hf3:w0.frozen? ⟨fa,fj+3,none⟩=false) (hl:fa<w0.heap.size)
 (HN:Hid (∀W,aY w0 W->P ((W.setCell ⟨fa,fj+2,none⟩ (.int .i64 ln)).setCell ⟨fa,fj+3,none⟩ (.pointer sp)))):
 Calls prog 373 #[.agg #[.int .i64 ln,.pointer sp],.pointer (some ⟨sb,0,none⟩)] w fun e w'=>e=.returned (.tuple #[])/\P w':=by
 have hbox:(w.alloc (.cells #[.int .i64 ln,.pointer sp] 365)).heap[w.heap.size]?=some (.cells #[.int .i64 ln,.pointer sp] 365 (0,0)):=aT _ _ rfl _;rw[hW] at hbox;have HW:=aB hW;have HC0:=aB (aA (i:=0) hbox rfl);have HC1:=aB (aA (i:=1) hbox rfl);have hlt:=aD hbox;obtain⟨u2,hc2⟩:=hc2;obtain⟨u3,hc3⟩:=hc3;have HC2:=aB hc2;have HC3:=aB hc3;have HF2:=aB hf2;have HF3:=aB hf3;have c0:=HC0.out;have c1:=HC1.out;clear hW hbox hc2 hc3 hf2 hf3;go_enter Tryz.func373,Tryz.ntmps373;go_wp2_with fail;rw[HW.out];go_region_law (go_simp;go_at_call 158;refine(HT.out _ (aY.drew _)).mono ?_;rintro e w1 ⟨rfl,hs1⟩;have d0:=cW hs1.heap HC0.out;have d1:=cW hs1.heap HC1.out;have d2:=cW hs1.heap HC2.out;have d3:=cW hs1.heap HC3.out;have d4:=qR hs1.heap HF2.out;have d5:=qR hs1.heap HF3.out;have hl1:=jX hs1.heap hlt;have hl2:=jX hs1.heap hl)
 all_goals
  go_wp2_with fail;go_end0;exact⟨rfl,HN.out _ hs1⟩
theorem kA(n:Int):aJ (aV n)=1:=by rw[eU];rfl
theorem lI(b:Bool):aJ (bM b)=1:=by rw[eU];rfl
theorem jD:aJ bL<=200:=by rw[eU];decide
theorem YC(op:List UInt8)(a:aI):aJ (fG op a).1<=200:=by
 unfold fG;repeat' split
 all_goals first|(show aJ (aV _)<=200;rw[kA];omega)|(show aJ (bM _)<=200;rw[lI];omega)|exact jD
theorem UC(op:List UInt8)(x y:Int):aJ (jB op x y).1<=200:=by
 unfold jB;repeat' split
 all_goals first|(show aJ (aV _)<=200;rw[kA];omega)|(show aJ (bM _)<=200;rw[lI];omega)|exact jD
theorem KX(a b:aI):aJ (jA a b).1<=200:=by
 unfold jA;dsimp only;by_cases h:200<aJ (if a.sort=3 then aR (a.l++b.l) else bI (a.s++b.s))
 ·rw[if_pos h];exact jD
 ·rw[if_neg h];exact Nat.le_of_not_lt h
theorem WU(op:List UInt8)(a b:aI):aJ (eM op a b).1<=200:=by
 unfold eM;repeat' split
 all_goals first|exact UC _ _ _|exact KX _ _|(show aJ (bM _)<=200;rw[lI];omega)|exact jD
theorem OV(r:aI × Nat)(h:(iA r).2=0):aJ (iA r).1<=200:=by
 unfold iA at h ⊢
 by_cases h1:r.2=0
 ·rw[if_pos h1] at h ⊢
  by_cases h2:200<aJ r.1
  ·rw[if_pos h2] at h;cases h
  ·rw[if_neg h2];omega
 ·rw[if_neg h1] at h;exact absurd h h1
theorem PV.bool{F:Nat->Prop}{w:World}{v:Value}{a:aI}(h:PV F w v a)(hs:a.sort=1):a=bM (decide (a.n=1)):=by
 rcases h.cases with ⟨n,_,rfl,_⟩|⟨b,_,rfl⟩|⟨s,_,rfl⟩|⟨x,c,l,_,rfl,_⟩
 ·simp[aV] at hs
 ·cases b<;>rfl
 ·simp[bI] at hs
 ·simp[aR] at hs
theorem iU{f:aK}{vs:List aI}{a:aI}(h:f.ops=vs++[a]):f.last=a:=by simp[aK.last,h]
theorem lY{f:aK}{vs:List aI}{a:aI}(h:f.ops=vs++[a]):f.pop.ops=vs:=by simp[aK.pop,h]
def nS(fp:Nat->Value)(F:Nat->Prop)(base sb:Nat)(t0 s0:Value)(own:List Nat)(w:World)(below:List aK)(tape:List Int)(out:List (List UInt8))(r:aK × Nat)(e:Ending)(w':World):Prop:=
 Z6 r.2 e/\Done fp F base sb t0 s0 own w ⟨below++[r.1],tape,out⟩ w'
section
variable {fp:Nat->Value} {F:Nat->Prop} {base:Nat} {w:World} {sb gf cap:Nat} {t0 tv outv s0:Value} {fvs:List FVal} {below:List aK} {f:aK} {tape:List Int} {out:List (List UInt8)}
theorem nS.ok{own:List Nat}{r:aK × Nat}{g:aK}{w':World}(hr:r=(g,0))(h:Done fp F base sb t0 s0 own w ⟨below++[g],tape,out⟩ w'):nS fp F base sb t0 s0 own w below tape out r (.returned (.tuple #[])) w':=by
 subst hr;exact⟨Or.inl ⟨rfl,rfl⟩,h⟩
theorem nS.stop{own:List Nat}{r:aK × Nat}{g:aK}{k:Nat}{w':World}(hr:r=(g,k))(hk:k≠0)(h:Done fp F base sb t0 s0 own w ⟨below++[g],tape,out⟩ w'):nS fp F base sb t0 s0 own w below tape out r (fK k) w':=by
 subst hr;exact⟨Or.inr ⟨hk,rfl⟩,h⟩
theorem cT.count{m:cP}(h:cT fp F base w sb gf cap t0 tv outv s0 fvs m):fvs.length=m.frames.length:=h.frs.length
theorem cT.mid(h:cT fp F base w sb gf cap t0 tv outv s0 fvs ⟨below++[f],tape,out⟩)(hb:base<=w.heap.size)(ob:Obj):Mid fp base sb gf below.length t0 s0 (aF sb gf outv fvs) (w.alloc ob) F ⟨below++[f],tape,out⟩ (w.alloc ob):=
 Mid.init h (by rw[h.count];simp) hb ob
theorem Mid.topS{own:List Nat}{w0:World}{G:Nat->Prop}{n:Nat}{m:cP}(h:Mid fp base sb gf n t0 s0 own w0 G m w0)(hn:n<=15):Hid (∀W,aY w0 W->Calls prog 158 #[.pointer (some ⟨sb,0,none⟩)] W fun e w'=>e=.returned (.pointer (some ⟨gf,n*6,none⟩))/\aY w0 w'):=fun W hS=>by
 refine((h.same hS).top hn).mono ?_;rintro e w' ⟨he,hs⟩;exact⟨he,hS.trans hs⟩
theorem Mid.box{n:Nat}{G:Nat->Prop}{m:cP}{cs:Array Value}{ty:TypeId}{W:World}(h:cT fp F base w sb gf cap t0 tv outv s0 fvs ⟨below++[f],tape,out⟩)(hM:Mid fp base sb gf n t0 s0 (aF sb gf outv fvs) (w.alloc (.cells cs ty)) G m W):W.heap[w.heap.size]?=some (.cells cs ty (0,0)):=by
 rw[hM.old (by simp) (fun hm=>Nat.lt_irrefl _ (h.lt _ hm))]
 exact aT _ _ rfl _
theorem U7(h:cT fp F base w sb gf cap t0 tv outv s0 fvs ⟨below++[f],tape,out⟩)(hbel:below.length<=15)(hbase:base<=w.heap.size)(hops:f.ops.length<=99000)(hne:∃vs a,f.ops=vs++[a]):
 Calls prog 410 #[.agg #[],.pointer (some ⟨sb,0,none⟩)] w (nS fp F base sb t0 s0 (aF sb gf outv fvs) w below tape out (aN .drop f)):=by
 obtain⟨vs,a,hf⟩:=hne;have hM:=h.mid hbase (.cells #[] 449);refine(QB w _ sb gf (below.length*6) (fun w'=>Done fp F base sb t0 s0 (aF sb gf outv fvs) w ⟨below++[f.pop],tape,out⟩ w') rfl (hM.topS hbel) fun W hS=>?_).mono ?_
 ·refine((hM.same hS).pop hf (by omega)).mono ?_
  rintro e w' ⟨t,z,he,_,_,h2⟩;exact⟨t,z,he,h2.done (Ext.refl _ _)⟩
 ·rintro e w' ⟨rfl,h2⟩;exact nS.ok rfl h2
theorem D6(h:cT fp F base w sb gf cap t0 tv outv s0 fvs ⟨below++[f],tape,out⟩)(hbel:below.length<=15)(hbase:base<=w.heap.size)(hops:f.ops.length<=99000)(hne:∃vs a,f.ops=vs++[a]):
 Calls prog 396 #[.agg #[],.pointer (some ⟨sb,0,none⟩)] w (nS fp F base sb t0 s0 (aF sb gf outv fvs) w below tape out (aN .truth f)):=by
 obtain⟨vs,a,hf⟩:=hne;have hM:=h.mid hbase (.cells #[] 436);have hl:f.pop.ops.length<=100000:=by rw[lY hf];rw[hf,m6] at hops;omega
 refine(JF w _ sb gf (below.length*6) (fun w'=>a.sort=1/\Done fp F base sb t0 s0 (aF sb gf outv fvs) w ⟨below++[f.pop.push a],tape,out⟩ w') (fun w'=>a.sort≠1/\Done fp F base sb t0 s0 (aF sb gf outv fvs) w ⟨below++[f.pop],tape,out⟩ w')
  (fun t z W=>PV F W (.iface t z) a/\aJ a<=200/\Mid fp base sb gf below.length t0 s0 (aF sb gf outv fvs) (w.alloc (.cells #[] 436)) F ⟨below++[f.pop],tape,out⟩ W)
  (fun b W=>a.sort=1/\a=bM b/\Mid fp base sb gf below.length t0 s0 (aF sb gf outv fvs) (w.alloc (.cells #[] 436)) F ⟨below++[f.pop],tape,out⟩ W) rfl (hM.topS hbel) (fun W hS=>?_) (fun W t z hq=>?_) (fun W b hq=>?_)).mono ?_
 ·refine((hM.same hS).pop hf (by omega)).mono ?_
  rintro e w' ⟨t,z,he,h1,h2,h3⟩;exact⟨t,z,he,h1,h2,h3⟩
 ·obtain⟨h1,h2,h3⟩:=hq;refine(oK F _ a W h1).mono ?_;rintro e w' ⟨rfl,⟨hs,rfl⟩|⟨hs,rfl⟩⟩
  ·exact Or.inl ⟨_,rfl,hs,h1.bool hs,h3⟩
  ·exact Or.inr ⟨rfl,hs,h3.done (Ext.refl _ _)⟩
 ·obtain⟨h1,h2,h3⟩:=hq;rw[h2] at h1 ⊢
  refine(h3.push (PV.tru F W b) (by rw[lI];omega) hl).mono ?_
  rintro e w' ⟨he,h4⟩;exact⟨he,h1,h4.done (Ext.refl _ _)⟩
 ·have hr:aN .truth f=if a.sort=1 then (f.pop.push a,0) else (f.pop,2):=by simp[aN,iU hf]
  rw[hr];rintro e w' (⟨rfl,h1,h2⟩|⟨rfl,h1,h2⟩)
  ·exact nS.ok (if_pos h1) h2
  ·exact nS.stop (if_neg h1) (by decide) h2
end
section
variable {fp:Nat->Value} {F:Nat->Prop} {base:Nat} {w:World} {sb gf cap:Nat} {t0 tv outv s0:Value} {fvs:List FVal} {below:List aK} {f:aK} {tape:List Int} {out:List (List UInt8)}
theorem Mid.next{own:List Nat}{w0:World}{G:Nat->Prop}{n:Nat}(h:Mid fp base sb gf n t0 s0 own w0 G ⟨below++[f],tape,out⟩ w)(tg:Nat):Mid fp base sb gf n t0 s0 own w0 G ⟨below++[{ f with next:=tg }],tape,out⟩ (w.setCell ⟨gf,n*6+1,none⟩ (.int .i64 tg)):=
 h.set 1 (.int .i64 tg) (by omega) (fun v=>{ v with nx:=.int .i64 tg }) (fun _=>rfl) (fun _ _=>rfl) fun _ hv=>⟨hv.fn,rfl,hv.ln,hv.sp,hv.vars,hv.ops⟩
theorem Mid.cell{own:List Nat}{w0:World}{G:Nat->Prop}{n:Nat}(h:Mid fp base sb gf n t0 s0 own w0 G ⟨below++[f],tape,out⟩ w)(j:Nat)(hj:j<6):(∃u,w.cell? ⟨gf,n*6+j,none⟩=some u)/\w.frozen? ⟨gf,n*6+j,none⟩=false/\gf<w.heap.size:=by
 obtain⟨v,hv,hl,hc⟩:=h.cells;obtain⟨h1,h2⟩:=hc j (v.cells[j]'(by simpa [FVal.cells] using hj)) (p9 _)
 exact⟨⟨_,h1⟩,h2,hl⟩
theorem S6(tg:Nat)(h:cT fp F base w sb gf cap t0 tv outv s0 fvs ⟨below++[f],tape,out⟩)(hbel:below.length<=15)(hbase:base<=w.heap.size):
 Calls prog 412 #[.agg #[.int .i64 tg],.pointer (some ⟨sb,0,none⟩)] w (nS fp F base sb t0 s0 (aF sb gf outv fvs) w below tape out (aN (.jump tg) f)):=by
 have hM:=h.mid hbase (.cells #[.int .i64 tg] 462);obtain⟨h1,h2,h3⟩:=hM.cell 1 (by omega)
 refine(OZ w _ sb gf (below.length*6) tg (fun w'=>Done fp F base sb t0 s0 (aF sb gf outv fvs) w ⟨below++[{ f with next:=tg }],tape,out⟩ w') rfl (hM.topS hbel) h1 h2 h3 fun W hS=>?_).mono ?_
 ·exact((hM.same hS).next tg).done (Ext.refl _ _)
 ·rintro e w' ⟨rfl,h2⟩;exact nS.ok rfl h2
theorem WR(tg:Nat)(h:cT fp F base w sb gf cap t0 tv outv s0 fvs ⟨below++[f],tape,out⟩)(hbel:below.length<=15)(hbase:base<=w.heap.size)(hops:f.ops.length<=99000)(hne:∃vs a,f.ops=vs++[a]):
 Calls prog 411 #[.agg #[.int .i64 tg],.pointer (some ⟨sb,0,none⟩)] w (nS fp F base sb t0 s0 (aF sb gf outv fvs) w below tape out (aN (.skip tg) f)):=by
 obtain⟨vs,a,hf⟩:=hne;have hM:=h.mid hbase (.cells #[.int .i64 tg] 461)
 refine(EE w _ sb gf (below.length*6) tg (fun w'=>a.sort=1/\Done fp F base sb t0 s0 (aF sb gf outv fvs) w ⟨below++[if a.n=1 then f.pop else { f.pop with next:=tg }],tape,out⟩ w') (fun w'=>a.sort≠1/\Done fp F base sb t0 s0 (aF sb gf outv fvs) w ⟨below++[f.pop],tape,out⟩ w')
  (fun t z W=>PV F W (.iface t z) a/\aJ a<=200/\Mid fp base sb gf below.length t0 s0 (aF sb gf outv fvs) (w.alloc (.cells #[.int .i64 tg] 461)) F ⟨below++[f.pop],tape,out⟩ W)
  (fun b W=>a.sort=1/\b=decide (a.n=1)/\Mid fp base sb gf below.length t0 s0 (aF sb gf outv fvs) (w.alloc (.cells #[.int .i64 tg] 461)) F ⟨below++[f.pop],tape,out⟩ W) rfl (hM.topS hbel) (fun W hS=>?_) (fun W t z hq=>?_) (fun W hq=>?_) (fun W hq=>?_) (fun W b hq=>?_)).mono ?_
 ·refine((hM.same hS).pop hf (by omega)).mono ?_
  rintro e w' ⟨t,z,he,h1,h2,h3⟩;exact⟨t,z,he,h1,h2,h3⟩
 ·obtain⟨h1,h2,h3⟩:=hq;refine(oK F _ a W h1).mono ?_;rintro e w' ⟨rfl,⟨hs,rfl⟩|⟨hs,rfl⟩⟩
  ·exact Or.inl ⟨_,rfl,hs,rfl,h3⟩
  ·exact Or.inr ⟨rfl,hs,h3.done (Ext.refl _ _)⟩
 ·obtain⟨h1,h2,h3⟩:=hq;refine⟨h1,?_⟩;rw[if_pos (of_decide_eq_true h2.symm)];exact h3.done (Ext.refl _ _)
 ·obtain⟨h1,h2,h3⟩:=hq;refine⟨h1,?_⟩;rw[if_neg (of_decide_eq_false h2.symm)];exact(h3.next tg).done (Ext.refl _ _)
 ·obtain⟨h1,h2,h3⟩:=hq;have hb:=Mid.box h h3;obtain⟨k1,k2,k3⟩:=h3.cell 1 (by omega)
  exact⟨aA hb rfl,aD hb,k1,k2,k3⟩
 ·have hr:aN (.skip tg) f=if a.sort=1 then (if a.n=1 then f.pop else { f.pop with next:=tg },0) else (f.pop,2):=by simp[aN,iU hf]
  rw[hr];rintro e w' (⟨rfl,h1,h2⟩|⟨rfl,h1,h2⟩)
  ·exact nS.ok (if_pos h1) h2
  ·exact nS.stop (if_neg h1) (by decide) h2
theorem NM(wh:Bool)(tg:Nat)(h:cT fp F base w sb gf cap t0 tv outv s0 fvs ⟨below++[f],tape,out⟩)(hbel:below.length<=15)(hbase:base<=w.heap.size)(hops:f.ops.length<=99000)(hne:∃vs a,f.ops=vs++[a]):
 Calls prog 397 #[.agg #[.bool wh,.int .i64 tg],.pointer (some ⟨sb,0,none⟩)] w (nS fp F base sb t0 s0 (aF sb gf outv fvs) w below tape out (aN (.shortcut wh tg) f)):=by
 obtain⟨vs,a,hf⟩:=hne;have hM:=h.mid hbase (.cells #[.bool wh,.int .i64 tg] 438);have hl:f.pop.ops.length<=100000:=by rw[lY hf];rw[hf,m6] at hops;omega
 refine(zF w _ sb gf (below.length*6) tg wh (fun w'=>a.sort=1/\Done fp F base sb t0 s0 (aF sb gf outv fvs) w ⟨below++[if decide (a.n=1)=wh then { f.pop.push a with next:=tg } else f.pop],tape,out⟩ w') (fun w'=>a.sort≠1/\Done fp F base sb t0 s0 (aF sb gf outv fvs) w ⟨below++[f.pop],tape,out⟩ w')
  (fun t z W=>PV F W (.iface t z) a/\aJ a<=200/\Mid fp base sb gf below.length t0 s0 (aF sb gf outv fvs) (w.alloc (.cells #[.bool wh,.int .i64 tg] 438)) F ⟨below++[f.pop],tape,out⟩ W)
  (fun b W=>a.sort=1/\b=decide (a.n=1)/\a=bM b/\Mid fp base sb gf below.length t0 s0 (aF sb gf outv fvs) (w.alloc (.cells #[.bool wh,.int .i64 tg] 438)) F ⟨below++[f.pop],tape,out⟩ W)
  (fun b W=>a.sort=1/\b=decide (a.n=1)/\Mid fp base sb gf below.length t0 s0 (aF sb gf outv fvs) (w.alloc (.cells #[.bool wh,.int .i64 tg] 438)) F ⟨below++[f.pop.push a],tape,out⟩ W) rfl (hM.topS hbel) (fun W hS=>?_) (fun W t z hq=>?_) (fun W b hq=>?_) (fun W b hq hne=>?_) (fun W b hq he=>?_) (fun W b hq=>?_) (fun W b hq=>?_)).mono ?_
 ·refine((hM.same hS).pop hf (by omega)).mono ?_
  rintro e w' ⟨t,z,he,h1,h2,h3⟩;exact⟨t,z,he,h1,h2,h3⟩
 ·obtain⟨h1,h2,h3⟩:=hq;refine(oK F _ a W h1).mono ?_;rintro e w' ⟨rfl,⟨hs,rfl⟩|⟨hs,rfl⟩⟩
  ·exact Or.inl ⟨_,rfl,hs,rfl,h1.bool hs,h3⟩
  ·exact Or.inr ⟨rfl,hs,h3.done (Ext.refl _ _)⟩
 ·obtain⟨h1,h2,h3,h4⟩:=hq;refine(h4.push (a:=a) (by rw[h3];exact PV.tru F W b) (by rw[h3,lI];omega) hl).mono ?_
  rintro e w' ⟨he,h5⟩;exact⟨he,h1,h2,h5⟩
 ·obtain⟨h1,h2,h3,h4⟩:=hq;refine⟨h1,?_⟩;rw[if_neg (by rw[<-h2];exact hne)]
  exact h4.done (Ext.refl _ _)
 ·obtain⟨h1,h2,h3⟩:=hq;refine⟨h1,?_⟩;rw[if_pos (by rw[<-h2];exact he)]
  exact(h3.next tg).done (Ext.refl _ _)
 ·obtain⟨h1,h2,h3,h4⟩:=hq;have hb:=Mid.box h h4;exact⟨aA hb rfl,aD hb⟩
 ·obtain⟨h1,h2,h3⟩:=hq;have hb:=Mid.box h h3;obtain⟨k1,k2,k3⟩:=h3.cell 1 (by omega)
  exact⟨aA hb rfl,aD hb,k1,k2,k3⟩
 ·have hr:aN (.shortcut wh tg) f=if a.sort=1 then (if decide (a.n=1)=wh then { f.pop.push a with next:=tg } else f.pop,0) else (f.pop,2):=by simp[aN,iU hf]
  rw[hr];rintro e w' (⟨rfl,h1,h2⟩|⟨rfl,h1,h2⟩)
  ·exact nS.ok (if_pos h1) h2
  ·exact nS.stop (if_neg h1) (by decide) h2
end
section
variable {fp:Nat->Value} {F:Nat->Prop} {base:Nat} {w:World} {sb gf cap:Nat} {t0 tv outv s0:Value} {fvs:List FVal} {below:List aK} {f:aK} {tape:List Int} {out:List (List UInt8)}
theorem Mid.apart{own:List Nat}{w0:World}{G:Nat->Prop}{n:Nat}{m:cP}(h:Mid fp base sb gf n t0 s0 own w0 G m w):∀k,G k->k<w.heap.size/\k≠gf:=by
 obtain⟨h1,h2,cap,tv,outv,fvs,h3,h4,h5⟩:=h;exact fun k hk=>⟨(h4.apart k hk).1,fun e=>(h4.apart k hk).2 (by simp[aF,e])⟩
theorem lV.cell{G:Nat->Prop}{v:Value}{l:List aI}{k:Nat}(h:lV G base w v l)(hk:k<l.length):∃g cap t z,v=.slice (some ⟨g,0,none⟩) l.length cap/\w.cell? ⟨g,k,none⟩=some (.iface t z)/\PV G w (.iface t z) l[k]/\aJ l[k]<=200:=by
 obtain⟨⟨xs,h1,h2,h3⟩,h4⟩:=h;obtain⟨u,e1,e2⟩:=h3 k hk;obtain⟨t,z,rfl⟩:=e2.form;rcases h1.2 with ⟨r1,r2⟩|⟨g,c,row,rfl,hg1,hrow,hcap,hcm,hcs,htk⟩
 ·omega
 refine⟨g,c,t,z,rfl,aA hrow ?_,e2,h4 _ (u_9 _)⟩;rw[<-htk,x6] at e1;split at e1
 ·simpa using e1
 ·cases e1
theorem S3(k:Nat)(h:cT fp F base w sb gf cap t0 tv outv s0 fvs ⟨below++[f],tape,out⟩)(hbel:below.length<=15)(hbase:base<=w.heap.size)(hops:f.ops.length<=99000)(hk:k<f.vars.length):
 Calls prog 374 #[.agg #[.int .i64 k],.pointer (some ⟨sb,0,none⟩)] w (nS fp F base sb t0 s0 (aF sb gf outv fvs) w below tape out (aN (.load k) f)):=by
 have hM:=h.mid hbase (.cells #[.int .i64 k] 402);obtain⟨v,hv,hl,hc⟩:=hM.cells;obtain⟨g,c,t,z,e1,e2,e3,e4⟩:=hv.vars.cell hk;have h4:=(hc 4 v.vv rfl).1;rw[e1] at h4;refine(OS w _ sb gf (below.length*6) k g f.vars.length c t z (fun w'=>Done fp F base sb t0 s0 (aF sb gf outv fvs) w ⟨below++[f.push f.vars[k]],tape,out⟩ w') rfl (hM.topS hbel) h4 e2 hk fun W hS=>?_).mono ?_
 ·refine((hM.same hS).push (e3.keep fun b _=>by rw[hS.heap]) e4 (by omega)).mono ?_
  rintro e w' ⟨he,h2⟩;exact⟨he,h2.done (Ext.refl _ _)⟩
 ·rintro e w' ⟨rfl,h2⟩;refine nS.ok ?_ h2;simp[aN,p9 hk]
theorem M1(l:Nat)(sp:Value)(s:List (List UInt8))(h:cT fp F base w sb gf cap t0 tv outv s0 fvs ⟨below++[f],tape,out⟩)(hbel:below.length<=15)(hbase:base<=w.heap.size)(hs:eV F w sp s):
 Calls prog 373 #[.agg #[.int .i64 l,sp],.pointer (some ⟨sb,0,none⟩)] w (nS fp F base sb t0 s0 (aF sb gf outv fvs) w below tape out (aN (.begin l s) f)):=by
 obtain⟨sp,rfl⟩:=hs.form;have hM:=h.mid hbase (.cells #[.int .i64 l,.pointer sp] 365);obtain⟨h1,h2,h3⟩:=hM.cell 2 (by omega)
 obtain⟨k1,k2,k3⟩:=hM.cell 3 (by omega)
 refine(MD w _ sb gf (below.length*6) l sp (fun w'=>Done fp F base sb t0 s0 (aF sb gf outv fvs) w ⟨below++[{ f with line:=l,seen:=s }],tape,out⟩ w') rfl (hM.topS hbel) h1 k1 h2 k2 h3 fun W hS=>?_).mono ?_
 ·have hW:=hM.same hS
  have hs0:eV F W (.pointer sp) s:=eV.keep (fun b hb=>by
   rw[hS.heap];exact o9 _ _ _ (h.apart b hb).1) (fun _ h=>h) hs
  have h5:Mid fp base sb gf below.length t0 s0 (aF sb gf outv fvs) _ F ⟨below++[{ f with line:=l }],tape,out⟩ _:=hW.set 2 (.int .i64 l) (by omega) (fun v=>{ v with ln:=.int .i64 l }) (fun _=>rfl) (fun _ _=>rfl) fun _ hv=>⟨hv.fn,hv.nx,rfl,hv.sp,hv.vars,hv.ops⟩
  have hs1:eV F (W.setCell ⟨gf,below.length*6+2,none⟩ (.int .i64 l)) (.pointer sp) s:=eV.keep (fun b hb=>m7 _ _ _ _ (hW.apart b hb).2) (fun _ h=>h) hs0
  have h6:Mid fp base sb gf below.length t0 s0 (aF sb gf outv fvs) _ F ⟨below++[{ f with line:=l,seen:=s }],tape,out⟩ _:=h5.set 3 (.pointer sp) (by omega) (fun v=>{ v with sp:=.pointer sp }) (fun _=>rfl) (fun _ _=>rfl) fun _ hv=>⟨hv.fn,hv.nx,hv.ln,hs1,hv.vars,hv.ops⟩
  exact h6.done (Ext.refl _ _)
 ·rintro e w' ⟨rfl,h2⟩;exact nS.ok rfl h2
theorem D0(op:List UInt8)(ho:op=[45]\/op=[33])(h:cT fp F base w sb gf cap t0 tv outv s0 fvs ⟨below++[f],tape,out⟩)(hbel:below.length<=15)(hbase:base<=w.heap.size)(hops:f.ops.length<=99000)(hne:∃vs a,f.ops=vs++[a]):
 Calls prog 383 #[.agg #[.string (bs op)],.pointer (some ⟨sb,0,none⟩)] w (nS fp F base sb t0 s0 (aF sb gf outv fvs) w below tape out (aN (.unary op) f)):=by
 obtain⟨vs,a,hf⟩:=hne;have hM:=h.mid hbase (.cells #[.string (bs op)] 407);have hl:f.pop.ops.length<=100000:=by rw[lY hf];rw[hf,m6] at hops;omega
 have hun:∀(W:World) (v:Value),PV F W v a->Calls prog 384 #[.string (bs op),v] W (kZ F W (fG (op++[120]) a)):=fun W v hv=>by
  rcases ho with rfl|rfl
  ·exact CC 45 (Or.inl rfl) F v a W hv
  ·exact CC 33 (Or.inr rfl) F v a W hv
 have hr:aN (.unary op) f=if (fG (op++[120]) a).2=0 then (f.pop.push (fG (op++[120]) a).1,0) else (f.pop,(fG (op++[120]) a).2):=by simp[aN,iU hf]
 have hcl:=YC (op++[120]) a;generalize fG (op++[120]) a=r at hun hr hcl;rw[hr]
 have HP:Hid (∀W,aY (w.alloc (.cells #[.string (bs op)] 407)) W->Calls prog 171 #[.pointer (some ⟨gf,below.length*6,none⟩)] W fun e w'=>∃t z,e=.returned (.iface t z)/\PV F w' (.iface t z) a/\Mid fp base sb gf below.length t0 s0 (aF sb gf outv fvs) (w.alloc (.cells #[.string (bs op)] 407)) F ⟨below++[f.pop],tape,out⟩ w'):=fun W hS=>by
  refine((hM.same hS).pop hf (by omega)).mono ?_
  rintro e w' ⟨t,z,he,h1,h2,h3⟩;exact⟨t,z,he,h1,h3⟩
 by_cases hz:r.2=0
 ·rw[if_pos hz];refine(RN w _ sb gf (below.length*6) op (fun w'=>Done fp F base sb t0 s0 (aF sb gf outv fvs) w ⟨below++[f.pop.push r.1],tape,out⟩ w') (fun t z W=>PV F W (.iface t z) a/\Mid fp base sb gf below.length t0 s0 (aF sb gf outv fvs) (w.alloc (.cells #[.string (bs op)] 407)) F ⟨below++[f.pop],tape,out⟩ W) (fun t z W=>PV F W (.iface t z) r.1/\Mid fp base sb gf below.length t0 s0 (aF sb gf outv fvs) (w.alloc (.cells #[.string (bs op)] 407)) F ⟨below++[f.pop],tape,out⟩ W) rfl (hM.topS hbel) HP (fun W t z hq=>?_) (fun W t z hq=>?_) (fun W t z hq=>?_)).mono ?_
  ·have hb:=Mid.box h hq.2;exact⟨aA hb rfl,aD hb⟩
  ·refine(hun W _ hq.1).mono ?_;rintro e w' ⟨rfl,⟨_,u,rfl,hu⟩|⟨hk,_⟩⟩
   ·obtain⟨t1,z1,rfl⟩:=hu.form;exact⟨t1,z1,rfl,hu,hq.2⟩
   ·exact absurd hz hk
  ·refine(hq.2.push hq.1 hcl hl).mono ?_;rintro e w' ⟨he,h4⟩;exact⟨he,h4.done (Ext.refl _ _)⟩
  ·rintro e w' ⟨rfl,h2⟩;exact nS.ok rfl h2
 ·rw[if_neg hz];refine(JD w _ sb gf (below.length*6) op r.2 (fun w'=>Done fp F base sb t0 s0 (aF sb gf outv fvs) w ⟨below++[f.pop],tape,out⟩ w') (fun t z W=>PV F W (.iface t z) a/\Mid fp base sb gf below.length t0 s0 (aF sb gf outv fvs) (w.alloc (.cells #[.string (bs op)] 407)) F ⟨below++[f.pop],tape,out⟩ W) rfl (hM.topS hbel) HP (fun W t z hq=>?_) (fun W t z hq=>?_)).mono ?_
  ·have hb:=Mid.box h hq.2;exact⟨aA hb rfl,aD hb⟩
  ·refine(hun W _ hq.1).mono ?_;rintro e w' ⟨rfl,⟨hk,_⟩|⟨hk,rfl⟩⟩
   ·exact absurd hk hz
   ·exact⟨rfl,hq.2.done (Ext.refl _ _)⟩
  ·rintro e w' ⟨rfl,h2⟩;exact nS.stop rfl hz h2
theorem C1(op:List UInt8)(h:cT fp F base w sb gf cap t0 tv outv s0 fvs ⟨below++[f],tape,out⟩)(hbel:below.length<=15)(hbase:base<=w.heap.size)(hops:f.ops.length<=99000)(hne:∃vs a b,f.ops=vs++[a,b]):
 Calls prog 387 #[.agg #[.string (bs op)],.pointer (some ⟨sb,0,none⟩)] w (nS fp F base sb t0 s0 (aF sb gf outv fvs) w below tape out (aN (.binary op) f)):=by
 obtain⟨vs,a,b,hf⟩:=hne;have hf:f.ops=(vs++[a])++[b]:=by rw[hf];simp
 have hM:=h.mid hbase (.cells #[.string (bs op)] 435);have hf2:f.pop.ops=vs++[a]:=lY hf;have hlen:=hops;rw[hf,m6,m6] at hlen;have hl1:f.pop.ops.length<=100000:=by rw[hf2,m6];omega
 have hl2:f.pop.pop.ops.length<=100000:=by rw[lY hf2];omega
 have hr:aN (.binary op) f=if (eM op a b).2=0 then (f.pop.pop.push (eM op a b).1,0) else (f.pop.pop,(eM op a b).2):=by simp[aN,iU hf,iU hf2]
 have hcl:=WU op a b;have hbi:∀(W:World) (u v:Value),PV F W u a->PV F W v b->(∀k,F k->k<W.heap.size)->aJ a<=200->aJ b<=200->Calls prog 388 #[.string (bs op),u,v] W (eN F W (eM op a b)):=fun W u v h1 h2 h3 h4 h5=>OD op F u v a b W h1 h2 h3 (by omega) (by omega)
 generalize eM op a b=r at hbi hr hcl;rw[hr]
 refine(GG w _ sb gf (below.length*6) op r.2 (fun w'=>r.2=0/\Done fp F base sb t0 s0 (aF sb gf outv fvs) w ⟨below++[f.pop.pop.push r.1],tape,out⟩ w') (fun w'=>r.2≠0/\Done fp F base sb t0 s0 (aF sb gf outv fvs) w ⟨below++[f.pop.pop],tape,out⟩ w')
  (fun t z W=>PV F W (.iface t z) b/\aJ b<=200/\Mid fp base sb gf below.length t0 s0 (aF sb gf outv fvs) (w.alloc (.cells #[.string (bs op)] 435)) F ⟨below++[f.pop],tape,out⟩ W)
  (fun t z t' z' W=>PV F W (.iface t z) b/\aJ b<=200/\PV F W (.iface t' z') a/\aJ a<=200/\Mid fp base sb gf below.length t0 s0 (aF sb gf outv fvs) (w.alloc (.cells #[.string (bs op)] 435)) F ⟨below++[f.pop.pop],tape,out⟩ W)
  (fun t z W=>r.2=0/\∃G,Ext F G w.heap.size/\PV G W (.iface t z) r.1/\Mid fp base sb gf below.length t0 s0 (aF sb gf outv fvs) (w.alloc (.cells #[.string (bs op)] 435)) G ⟨below++[f.pop.pop],tape,out⟩ W) rfl (hM.topS hbel) (fun W hS=>?_) (fun W t z hq=>?_) (fun W t z t' z' hq=>?_) (fun W t z t' z' hq=>?_) (fun W t z hq=>?_)).mono ?_
 ·refine((hM.same hS).pop hf (by omega)).mono ?_
  rintro e w' ⟨t,z,he,h1,h2,h3⟩;exact⟨t,z,he,h1,h2,h3⟩
 ·obtain⟨h1,h2,h3⟩:=hq;refine(h3.popK hf2 hl1).mono ?_;rintro e w' ⟨t',z',he,k1,k2,k3,k4⟩;exact⟨t',z',he,h1.keep k4,h2,k1,k2,k3⟩
 ·have hb:=Mid.box h hq.2.2.2.2;exact⟨aA hb rfl,aD hb⟩
 ·obtain⟨h1,h2,h3,h4,h5⟩:=hq;refine(hbi W _ _ h3 h1 (fun k hk=>(h5.apart k hk).1) h4 h2).mono ?_
  rintro e w' ⟨hb,⟨hz,u,rfl,hu⟩|⟨hz,rfl⟩⟩
  ·obtain⟨t1,z1,rfl⟩:=hu.form;exact Or.inl ⟨t1,z1,rfl,hz,Grow F W w',⟨fun _=>Or.inl,fun k hk=>hk.imp_right fun h1=>p7 (p7 (by simp) h5.1.size) h1.1⟩,hu,h5.grow hb (fun _=>Or.inl) fun _ h=>h⟩
  ·exact Or.inr ⟨rfl,hz,(h5.grow hb (fun _ h=>h) fun _=>Or.inl).done (Ext.refl _ _)⟩
 ·obtain⟨hz,G,hG,h1,h2⟩:=hq;refine(h2.push h1 hcl hl2).mono ?_;rintro e w' ⟨he,h4⟩;exact⟨he,hz,h4.done hG⟩
 ·rintro e w' (⟨rfl,h1,h2⟩|⟨rfl,h1,h2⟩)
  ·exact nS.ok (if_pos h1) h2
  ·exact nS.stop (if_neg h1) h1 h2
end
section
variable {fp:Nat->Value} {F G G':Nat->Prop} {base:Nat} {w:World} {sb gf cap:Nat} {t0 tv outv s0:Value} {fvs:List FVal} {below:List aK} {f:aK} {tape:List Int} {out:List (List UInt8)}
theorem cT.more{m:cP}(h:cT fp G base w sb gf cap t0 tv outv s0 fvs m)(hF:∀k,G k->G' k)(hG:∀k,G' k->G k\/(k<w.heap.size/\k∉aF sb gf outv fvs)):cT fp G' base w sb gf cap t0 tv outv s0 fvs m:=
 ⟨h.blk,h.row,h.frs.keep (fun _ _=>rfl) hF fun _ _ _ _=>rfl,h.tape.keep (fun _ _=>rfl) hF,h.out,h.nodup,h.lt,fun k hk=>by
   rcases hG k hk with h1|h1
   ·exact h.apart k h1
   ·exact h1⟩
theorem cT.popMany{vs us:List aI}(h:cT fp G base w sb gf cap t0 tv outv s0 fvs ⟨below++[f],tape,out⟩)(hf:f.ops=vs++us)(hops:f.ops.length<=100000):
 Calls prog 377 #[.pointer (some ⟨gf,below.length*6,none⟩),.int .i64 us.length] w fun e w'=>∃v' ys fvs',e=.returned v'/\Kept (aF sb gf outv fvs) w w'/\aF sb gf outv fvs'=aF sb gf outv fvs/\fvs'.length=fvs.length/\cT fp G base w' sb gf cap t0 tv outv s0 fvs' ⟨below++[f.popMany us.length],tape,out⟩/\
  w'.ownsRow w.heap.size 256 1 v' us.length ys/\fY G w' ys us/\(∀a∈us,aJ a<=200)/\∀k,G k->w'.heap[k]?=w.heap[k]?:=by
 obtain⟨fb,v,cur,rfl,hfl,hv,hblk,hcur,hcap,k0,k1,k2,k3,k4,k5⟩:=h.top;rw[<-hfl];obtain⟨⟨xs,hown,hxs⟩,hc200⟩:=hv.ops;rw[hf] at hown hxs hc200;obtain⟨xs',ys,rfl,hl1,hl2,hx1,hx2⟩:=hxs.split;rw[hf,m6] at hops;rw[m6] at hown;refine(uU base gf (fb.length*6) vs.length us.length cur v.ov xs' ys w hcur k5 hown hl1 hl2 (oA hx2) (by omega)).mono ?_
 rintro e w' ⟨v',ov',w1,he,hb,p1,rfl,p2,p3⟩;have hpop:(f.popMany us.length).ops=vs:=by simp[aK.popMany,hf]
 have hR1:=h.grow hb (fun _ h=>h) (fun _ h=>Or.inl h)
 have hv1:MH fp G base w1 { v with ov:=ov' } (f.popMany us.length):=by
  have hk:∀b,G b->w1.heap[b]?=w.heap[b]?:=fun b hb'=>hb.block b (h.apart b hb').1
  have hvm:∀k∈v.owns,k<w.heap.size:=fun k hk=>h.lt k (by simp[aF,aW,hk])
  have hv':=hv.keep hk (fun _ h=>h) fun k hm=>hb.block k (hvm k hm)
  refine⟨hv'.fn,hv'.nx,hv'.ln,hv'.sp,hv'.vars,⟨xs',?_,?_⟩,fun b hb'=>hc200 b (y9 _ (by rw[hpop] at hb';exact hb'))⟩
  ·rw[hpop];exact bA p2 fun k e=>hb.block k (hvm k (by rw[p3] at e;simp[FVal.owns,e]))
  ·rw[hpop];exact hx1.keep hk
 obtain⟨q1,q2⟩:=hR1.setTop (j:=5) (x:=ov') (v':={ v with ov:=ov' }) (by omega) rfl (by simp[FVal.owns,p3]) hv1
 have hgf:gf<w.heap.size:=aD hcur
 have hkG:∀k,G k->(w1.setCell ⟨gf,fb.length*6+5,none⟩ ov').heap[k]?=w.heap[k]?:=fun k hk=>by
  rw[m7 _ _ _ _ fun e=>(h.apart k hk).2 (by simp[aF,e]),hb.block k (h.apart k hk).1]
 refine⟨v',ys,_,he,(Kept.of_below hb).trans q2 fun x hx=>Or.inl hx,by simp[aF,aW,FVal.owns,p3],by simp,q1,bA p1 fun k hk=>m7 _ _ _ _ ?_,hx2.keep hkG,fun a ha=>hc200 a (ab_ _ ha),hkG⟩
 have:=bX p1 k hk;show k≠gf
 omega
theorem Mid.popMany{own:List Nat}{w0:World}{n:Nat}{vs us:List aI}(h:Mid fp base sb gf n t0 s0 own w0 G ⟨below++[f],tape,out⟩ w)(hn:n=below.length)(hf:f.ops=vs++us)(hops:f.ops.length<=100000):
 Calls prog 377 #[.pointer (some ⟨gf,n*6,none⟩),.int .i64 us.length] w fun e w'=>∃x d,e=.returned (.slice x us.length d)/\∃G',Ext G G' w.heap.size/\PVs G' w' (.slice x us.length d) us/\(∀a∈us,aJ a<=200)/\Mid fp base sb gf n t0 s0 own w0 G' ⟨below++[f.popMany us.length],tape,out⟩ w'/\∀k,G k->w'.heap[k]?=w.heap[k]?:=by
 obtain⟨h1,h2,cap,tv,outv,fvs,h3,h4,h5⟩:=h;subst hn;refine(h4.popMany hf hops).mono ?_;rintro e w' ⟨v',ys,fvs',he,k1,k2,k3,k4,k5,k6,k7,k8⟩;obtain⟨x,d,rfl⟩:=cV k5;refine⟨x,d,he,fun k=>G k\/(Value.slice x us.length d).ownBlock=some k,⟨fun _=>Or.inl,fun k hk=>hk.imp_right fun e=>bX k5 k e⟩,PVs.ofRow k5 (k6.mono fun _=>Or.inl) fun _=>Or.inr,k7,⟨h1.trans k1 h5,p7 h2 k1.size,cap,tv,outv,fvs',by rw[k3,h3],k4.more (fun _=>Or.inl) fun k hk=>?_,by rw[k2];exact h5⟩,k8⟩
 rcases hk with hk|hk
 ·exact Or.inl hk
 ·refine Or.inr ⟨cK k5 k hk,fun hm=>?_⟩
  rw[k2] at hm;have:=h4.lt k hm;have:=bX k5 k hk;omega
theorem S4(vs us:List aI)(h:cT fp F base w sb gf cap t0 tv outv s0 fvs ⟨below++[f],tape,out⟩)(hbel:below.length<=15)(hbase:base<=w.heap.size)(hops:f.ops.length<=99000)(hf:f.ops=vs++us):
 Calls prog 375 #[.agg #[.int .i64 us.length],.pointer (some ⟨sb,0,none⟩)] w (nS fp F base sb t0 s0 (aF sb gf outv fvs) w below tape out (aN (.list us.length) f)):=by
 have hM:=h.mid hbase (.cells #[.int .i64 us.length] 404);have hm:f.many us.length=us:=by simp[aK.many,hf]
 have hpop:(f.popMany us.length).ops=vs:=by simp[aK.popMany,hf]
 have hl:(f.popMany us.length).ops.length<=100000:=by rw[hpop];rw[hf,m6] at hops;omega
 have hlu:us.length<=99000:=by rw[hf,m6] at hops;omega
 have hr:aN (.list us.length) f=if aJ (aR us)<=200 then ((f.popMany us.length).push (aR us),0) else (f.popMany us.length,6):=by
  simp only[aN,hm,iA,if_true];by_cases hc:200<aJ (aR us)
  ·rw[if_pos hc];exact(if_neg (by omega)).symm
  ·rw[if_neg hc];exact(if_pos (by omega)).symm
 rw[hr]
 refine(OT w _ sb gf (below.length*6) us.length 6 (fun w'=>aJ (aR us)<=200/\Done fp F base sb t0 s0 (aF sb gf outv fvs) w ⟨below++[(f.popMany us.length).push (aR us)],tape,out⟩ w') (fun w'=>¬aJ (aR us)<=200/\Done fp F base sb t0 s0 (aF sb gf outv fvs) w ⟨below++[f.popMany us.length],tape,out⟩ w')
  (fun x d W=>∃G,Ext F G w.heap.size/\PVs G W (.slice x us.length d) us/\(∀a∈us,aJ a<=200)/\Mid fp base sb gf below.length t0 s0 (aF sb gf outv fvs) (w.alloc (.cells #[.int .i64 us.length] 404)) G ⟨below++[f.popMany us.length],tape,out⟩ W)
  (fun t z W=>aJ (aR us)<=200/\∃G,Ext F G w.heap.size/\PV G W (.iface t z) (aR us)/\Mid fp base sb gf below.length t0 s0 (aF sb gf outv fvs) (w.alloc (.cells #[.int .i64 us.length] 404)) G ⟨below++[f.popMany us.length],tape,out⟩ W) rfl (hM.topS hbel) (fun W hS=>?_) (fun W x d hq=>?_) (fun W t z hq=>?_)).mono ?_
 ·refine((hM.same hS).popMany rfl hf (by omega)).mono ?_
  rintro e w' ⟨x,d,he,G,h1,h2,h3,h4,_⟩;exact⟨x,d,he,G,h1.le (by rw[hS.heap];simp),h2,h3,h4⟩
 ·obtain⟨G,h1,h2,h3,h4⟩:=hq
  have hsum:∀l:List aI,(∀a∈l,aJ a<=200)->(l.map aJ).sum<=200*l.length:=fun l=>by
   induction l with
   |nil=>simp
   |cons a l ih=>intro hh;have e1:=hh a (by simp);have e2:=ih fun b hb=>hh b (by simp[hb]);simp;omega
  have hcc:aJ (aR us)<=1000000000:=by
   have:=hsum us h3;rw[eU];simp[aR];omega
  refine(KM G x d us W h2 hcc).mono ?_;rintro e w' ⟨rfl,⟨hz,rfl⟩|⟨hz,rfl⟩⟩
  ·exact Or.inl ⟨_,_,rfl,hz,G,h1,PV.lst h2,h4⟩
  ·exact Or.inr ⟨rfl,by omega,h4.done h1⟩
 ·obtain⟨hz,G,hG,h1,h2⟩:=hq;refine(h2.push h1 hz hl).mono ?_;rintro e w' ⟨he,h4⟩;exact⟨he,hz,h4.done hG⟩
 ·rintro e w' (⟨rfl,h1,h2⟩|⟨rfl,h1,h2⟩)
  ·exact nS.ok (if_pos h1) h2
  ·exact nS.stop (if_neg h1) (by decide) h2
end
theorem cT.declared{fp:Nat->Value}{F:Nat->Prop}{base:Nat}{w w':World}{sb gf cap:Nat}{t0 tv outv s0:Value}{fb:List FVal}{v:FVal}{below:List aK}{f:aK}{tape:List Int}{out:List (List UInt8)}{cur:Array Value}{vv' u:Value}{a:aI}{xs:List Value}{d:Nat}
 (h:cT fp F base w sb gf cap t0 tv outv s0 (fb++[v]) ⟨below++[f],tape,out⟩) (hcur:w.heap[gf]?=some (.cells cur 195 (0,0)))
 (hxs:fY F w xs (f.vars.take d)) (hd:d<=f.vars.length) (hu:PV F w u a) (hca:aJ a<=200)
 (p1:w'.heap[gf]?=some (.cells (cur.setIfInBounds (fb.length*6+4) vv') 195 (0,0))) (p2:w'.ownsRow base 256 1 vv' (d+1) (xs++[u])) (p3:∀k,vv'.ownBlock=some k->v.vv.ownBlock=some k\/w.heap.size<=k) (p4:Chg gf v.vv.ownBlock w w'):
 cT fp F base w' sb gf cap t0 tv outv s0 (fb++[{ v with vv:=vv' }]) ⟨below++[{ f with vars:=f.vars.take d++[a] }],tape,out⟩/\Kept (aF sb gf outv (fb++[v])) w w':=by
 obtain⟨vs',v0,e,hfb,hv⟩:=iT.unsnoc h.frs;obtain⟨rfl,e2⟩:=ap_ e rfl;cases e2;have hrow:=h.row;rw[show (fb++[v]).length=fb.length+1 by simp] at hrow
 obtain⟨cur',c1,_,c3⟩:=uM (j:=4) (x:=vv') hrow (by omega)
 obtain rfl:cur'=cur:=by rw[hcur] at c1;cases c1;rfl
 have hvm:∀k∈v.owns,k∈aF sb gf outv (fb++[v]):=fun k hk=>by simp[aF,aW,hk]
 have hgv:gf∉v.owns:=fun hm=>by
  have:=(r8.1 (r8.1 h.nodup).2).1;exact this (by simp[aW,hm])
 have hnv:v.owns.Nodup:=by
  have h1:=h.nodup;have:aF sb gf outv (fb++[v])=(sb::gf::(outv.ownBlock.toList++aW fb))++v.owns:=by simp[aF,aW]
  rw[this] at h1;exact(ai_.1 h1).2.1
 have hFk:∀b,F b->w'.heap[b]?=w.heap[b]?:=fun b hb=>by
  obtain⟨h1,h2⟩:=h.apart b hb;exact p4.block b h1 (fun e=>h2 (by simp[aF,e])) (fun e=>h2 (hvm b (by simp[FVal.owns,<-e])))
 have hchg:∀k,k<w.heap.size->k≠gf->k∉v.owns->w'.heap[k]?=w.heap[k]?:=fun k h1 h2 h3=>p4.block k h1 h2 fun e=>h3 (by simp[FVal.owns,<-e])
 have hvvo:∀k,v.ov.ownBlock=some k->k<w.heap.size/\k≠gf/\v.vv.ownBlock≠some k:=fun k hk=>by
  have hm:k∈v.owns:=by simp[FVal.owns,hk]
  refine⟨h.lt k (hvm k hm),fun e=>hgv (by rw[<-e];exact hm),fun e=>?_⟩
  unfold FVal.owns at hnv;rw[hk,e] at hnv;simp at hnv
 refine⟨h.step (G:=F) p4.size hchg (c3 w' p1 _ rfl) ?_ ?_ ?_ (fun _ h=>h) (fun _ h=>Or.inl h),?_⟩
 ·refine⟨hv.fn.keep hFk fun _ h=>h,hv.nx,hv.ln,eV.keep hFk (fun _ h=>h) hv.sp,⟨⟨xs++[u],?_,?_⟩,?_⟩,hv.ops.keep hFk (fun _ h=>h) fun k hk=>?_⟩
  ·show w'.ownsRow base 256 1 vv' (f.vars.take d++[a]).length _
   rw[m6,an_,Nat.min_eq_left hd];exact p2
  ·exact(hxs.keep hFk).append ⟨rfl,fun i hi=>by
    obtain rfl:i=0:=by simpa using hi
    exact⟨u,rfl,hu.keep hFk⟩⟩
  ·intro b hb;rcases o7.1 hb with hb|hb
   ·exact hv.vars.2 b (aY_ hb)
   ·rw[o8.1 hb];exact hca
  ·obtain⟨h1,h2,h3⟩:=hvvo k hk;exact p4.block k h1 h2 (fun e=>h3 e.symm)
 ·intro k hk;rcases o7.1 hk with hk|hk
  ·have hk':vv'.ownBlock=some k:=by simpa using hk
   refine⟨cK p2 k hk',?_⟩;rcases p3 k hk' with h1|h1
   ·exact Or.inl (by simp[FVal.owns,h1])
   ·exact Or.inr h1
  ·have hk':v.ov.ownBlock=some k:=by simpa using hk
   exact⟨m9 (hvvo k hk').1 p4.size,Or.inl (by simp[FVal.owns,hk'])⟩
 ·show (vv'.ownBlock.toList++v.ov.ownBlock.toList).Nodup
  refine ai_.2 ⟨by cases vv'.ownBlock<;>simp,by cases v.ov.ownBlock<;>simp,fun x hx y hy e=>?_⟩
  subst e;have h1:vv'.ownBlock=some x:=by simpa using hx
  have h2:v.ov.ownBlock=some x:=by simpa using hy
  obtain⟨h3,_,h4⟩:=hvvo x h2;rcases p3 x h1 with h5|h5
  ·exact h4 h5
  ·omega
 ·exact⟨p4.os,p4.tape,p4.output,p4.size,fun k hk hn=>hchg k hk (fun e=>hn (by simp[aF,e])) fun hm=>hn (hvm k hm)⟩
theorem FZ(w w0:World)(sb fa fj base d:Nat)(g n c:Nat)(hdn:d<=n)(hnc:n<=c)(_hn:n<=100001)(P:World->Prop)(Q:TypeId->Value->World->Prop)(xs:List Value)(hW:w.alloc (.cells #[.int .i64 d] 443)=w0)(hd:d<=100000)
 (HT:Hid (∀W,aY w0 W->Calls prog 158 #[.pointer (some ⟨sb,0,none⟩)] W fun e w'=>e=.returned (.pointer (some ⟨fa,fj,none⟩))/\aY w0 w'))
 (hv:w0.cell? ⟨fa,fj+4,none⟩=some (.slice (some ⟨g,0,none⟩) n c))
 (HP:Hid (∀W,aY w0 W->Calls prog 171 #[.pointer (some ⟨fa,fj,none⟩)] W fun e w'=>∃t z,e=.returned (.iface t z)/\Q t z w'))
 (HQ:Hid (∀W t z,Q t z W->W.cell? ⟨w.heap.size,0,none⟩=some (.int .i64 d)/\w.heap.size<W.heap.size/\W.cell? ⟨fa,fj+4,none⟩=some (.slice (some ⟨g,0,none⟩) n c)/\fa<W.heap.size/\base<=W.heap.size))
 (HO:Hid (∀W t z,Q t z W->W.ownsRow base 256 1 (.slice (some ⟨g,0,none⟩) d c) d xs))
 (HG:Hid (∀W t z,Q t z W->∀w5:World,(W.alloc (.cells #[.iface t z] 256)).grownBy w5 (some g)->(∃u,w5.cell? ⟨fa,fj+4,none⟩=some u)/\w5.frozen? ⟨fa,fj+4,none⟩=false/\fa<w5.heap.size))
 (HN:Hid (∀W t z,Q t z W->∀g5 cap5 (w5:World),w5.ownsRow base 256 1 (.slice (some ⟨g5,0,none⟩) (d+1) cap5) (d+1) (xs++[.iface t z])->(W.alloc (.cells #[.iface t z] 256)).grownBy w5 (some g)->((some g)=some g5\/W.heap.size+1<=g5)->P (w5.setCell ⟨fa,fj+4,none⟩ (.slice (some ⟨g5,0,none⟩) (d+1) cap5)))):
 Calls prog 403 #[.agg #[.int .i64 d],.pointer (some ⟨sb,0,none⟩)] w fun e w'=>e=.returned (.tuple #[])/\P w':=by
 obtain⟨i0,hi,hz0,hz1,hz2⟩:=info_parts mP;have hbox:(w.alloc (.cells #[.int .i64 d] 443)).heap[w.heap.size]?=some (.cells #[.int .i64 d] 443 (0,0)):=aT _ _ rfl _;rw[hW] at hbox;have HW:=aB hW;have HC0:=aB (aA (i:=0) hbox rfl);have hlt:=aD hbox;have HC1:=aB hv;have e1:(0:Int)<=(d:Int):=by omega
 have e2:(d:Int)<=(n:Int):=by omega
 have e3:(d:Int)<=(c:Int):=by omega
 clear hW hbox hv;go_enter Tryz.func403,Tryz.ntmps403;go_wp2_with fail;rw[HW.out];refine(HT.out _ (aY.refl _)).mono ?_;rintro e w1 ⟨rfl,hs1⟩;have c0:=cW hs1.heap HC0.out;have hl1:=jX hs1.heap hlt;have c1:=cW hs1.heap HC1.out;go_wp2_with fail;go_region_law (first|(go_simp;go_at_call 171;refine(HP.out _ (hs1.trans (aY.drew _))).mono ?_;rintro e w2 ⟨t,z,rfl,h2⟩;have hq:=HQ.out _ _ _ h2;have b1:=hq.1;have b2:=hq.2.1;have b3:=hq.2.2.1;have b4:=hq.2.2.2.1;have b5:=hq.2.2.2.2;clear hq)|(refine step_append_lies _ (by rfl) _ _ 193 (by rfl) base 256 i0 _ 1 16 Tryz.underlying193 hi hz0 hz1 hz2 rfl (by decide) (.slice (some ⟨g,0,none⟩) d c) d xs (by rfl) ((HO.out _ _ _ h2).alloc _) ⟨w2.heap.size,0,none⟩ 1 1 [.iface t z] (by rfl) (by rfl) (CR w2 _) (wH t z) (by decide) (by unfold maxLen;omega) (by omega) (by simp;omega) (w2.heap.size+1) (by simp) ?_;intro g5 cap5 w5 hown5 hgrow5 hat5 hg5;have hz:=HG.out _ _ _ h2 w5 hgrow5;obtain⟨⟨u5,y1⟩,y2,y3⟩:=hz))
 all_goals
  go_wp2_with fail;go_end0;exact⟨rfl,HN.out _ _ _ h2 _ _ _ hown5 hgrow5 (hat5.imp_right fun e=>Nat.le_of_eq e.symm)⟩
theorem GA(w w0:World)(sb fa fj base:Nat)(P:World->Prop)(Q:TypeId->Value->World->Prop)(xs:List Value)(hW:w.alloc (.cells #[.int .i64 0] 443)=w0)
 (HT:Hid (∀W,aY w0 W->Calls prog 158 #[.pointer (some ⟨sb,0,none⟩)] W fun e w'=>e=.returned (.pointer (some ⟨fa,fj,none⟩))/\aY w0 w'))
 (hv:w0.cell? ⟨fa,fj+4,none⟩=some (.slice none 0 0))
 (HP:Hid (∀W,aY w0 W->Calls prog 171 #[.pointer (some ⟨fa,fj,none⟩)] W fun e w'=>∃t z,e=.returned (.iface t z)/\Q t z w'))
 (HQ:Hid (∀W t z,Q t z W->W.cell? ⟨w.heap.size,0,none⟩=some (.int .i64 0)/\w.heap.size<W.heap.size/\W.cell? ⟨fa,fj+4,none⟩=some (.slice none 0 0)/\fa<W.heap.size/\base<=W.heap.size))
 (HO:Hid (∀W t z,Q t z W->W.ownsRow base 256 1 (.slice none 0 0) 0 xs))
 (HG:Hid (∀W t z,Q t z W->∀w5:World,(W.alloc (.cells #[.iface t z] 256)).grownBy w5 none->(∃u,w5.cell? ⟨fa,fj+4,none⟩=some u)/\w5.frozen? ⟨fa,fj+4,none⟩=false/\fa<w5.heap.size))
 (HN:Hid (∀W t z,Q t z W->∀g5 cap5 (w5:World),w5.ownsRow base 256 1 (.slice (some ⟨g5,0,none⟩) 1 cap5) 1 (xs++[.iface t z])->(W.alloc (.cells #[.iface t z] 256)).grownBy w5 none->(none=some g5\/W.heap.size+1<=g5)->P (w5.setCell ⟨fa,fj+4,none⟩ (.slice (some ⟨g5,0,none⟩) 1 cap5)))):
 Calls prog 403 #[.agg #[.int .i64 0],.pointer (some ⟨sb,0,none⟩)] w fun e w'=>e=.returned (.tuple #[])/\P w':=by
 obtain⟨i0,hi,hz0,hz1,hz2⟩:=info_parts mP;have hbox:(w.alloc (.cells #[.int .i64 0] 443)).heap[w.heap.size]?=some (.cells #[.int .i64 0] 443 (0,0)):=aT _ _ rfl _;rw[hW] at hbox;have HW:=aB hW;have HC0:=aB (aA (i:=0) hbox rfl);have hlt:=aD hbox;have HC1:=aB hv;clear hW hbox hv;go_enter Tryz.func403,Tryz.ntmps403;go_wp2_with fail;rw[HW.out];refine(HT.out _ (aY.refl _)).mono ?_;rintro e w1 ⟨rfl,hs1⟩;have c0:=cW hs1.heap HC0.out;have hl1:=jX hs1.heap hlt;have c1:=cW hs1.heap HC1.out;go_wp2_with fail;go_region_law (first|(go_simp;go_at_call 171;refine(HP.out _ (hs1.trans (aY.drew _))).mono ?_;rintro e w2 ⟨t,z,rfl,h2⟩;have hq:=HQ.out _ _ _ h2;have b1:=hq.1;have b2:=hq.2.1;have b3:=hq.2.2.1;have b4:=hq.2.2.2.1;have b5:=hq.2.2.2.2;clear hq)|(refine step_append_lies _ (by rfl) _ _ 193 (by rfl) base 256 i0 _ 1 16 Tryz.underlying193 hi hz0 hz1 hz2 rfl (by decide) (.slice none 0 0) 0 xs (by rfl) ((HO.out _ _ _ h2).alloc _) ⟨w2.heap.size,0,none⟩ 1 1 [.iface t z] (by rfl) (by rfl) (CR w2 _) (wH t z) (by decide) (by unfold maxLen;omega) (by omega) (by simp;omega) (w2.heap.size+1) (by simp) ?_;intro g5 cap5 w5 hown5 hgrow5 hat5 hg5;have hz:=HG.out _ _ _ h2 w5 hgrow5;obtain⟨⟨u5,y1⟩,y2,y3⟩:=hz))
 all_goals
  go_wp2_with fail;go_end0;exact⟨rfl,HN.out _ _ _ h2 _ _ _ hown5 hgrow5 (hat5.imp_right fun e=>Nat.le_of_eq e.symm)⟩
end Go.Proofs.YtblbkfdhjfppkaaGreatDoor
