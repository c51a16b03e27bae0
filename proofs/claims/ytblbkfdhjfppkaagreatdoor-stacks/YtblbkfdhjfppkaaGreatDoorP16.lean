/- Contracts of the program: what is done with a frame's operands. -/
import Derived.Test.YtblbkfdhjfppkaaGreatDoorP15
set_option linter.defProp false
set_option maxRecDepth 100000
set_option maxHeartbeats 4000000
namespace Go.Proofs.YtblbkfdhjfppkaaGreatDoor
open Hs
open _root_.Go.Proofs.Tryz(prog)
open Go.RowKit
structure Chg(gf:Nat)(row:Option Nat)(w w':World):Prop where
 os:w'.os=w.os
 tape:w'.tape=w.tape
 output:w'.output=w.output
 size:w.heap.size<=w'.heap.size
 block:∀k,k<w.heap.size->k≠gf->some k≠row->w'.heap[k]?=w.heap[k]?
def CT(w:World)(u:Value):∀j v,([u]:List Value)[j]?=some v->(w.alloc (.cells #[u] 256)).cell? ((⟨w.heap.size,0,none⟩:Addr).add j)=some v:=by
 intro j v a;match j,a with
 |0,a=>simp at a;subst a;simp[Addr.add,go_sem]
 |j+1,a=>simp at a
def wP(t:TypeId)(z:Value):∀u∈([.iface t z]:List Value),u.oneCell'=true:=by
 intro u a;simp at a;rw[a];rfl
def wT(base gf o n:Nat)(cur:Array Value)(l:Value)(xs:List Value)(t:TypeId)(z:Value)(w:World)(u:w.heap[gf]?=some (.cells cur 195 (0,0)))(I:cur[o+5]?=some l)(f:w.ownsRow base 256 1 l n xs)(m:l.ownBlock≠some gf)(v:base<=w.heap.size)(V:n<=1000000):
 Calls prog 371 #[.pointer (some ⟨gf,o,none⟩),.iface t z] w fun e F=>e=.returned (.tuple #[])/\∃j,F.heap[gf]?=some (.cells (cur.setIfInBounds (o+5) j) 195 (0,0))/\F.ownsRow base 256 1 j (n+1) (xs++[.iface t z])/\(∀k,j.ownBlock=some k->l.ownBlock=some k\/w.heap.size<=k)/\Chg gf l.ownBlock w F:=by
 obtain⟨T,M,C,D,G⟩:=info_parts mW;obtain⟨x,c,rfl⟩:=cU f;have H:=aD u;have W:=aA u I;have P:=aB f;have S:=aB u;have s:=aB m;clear f u m;go_enter Tryz.func371,Tryz.ntmps371;go_wp2_with (at_builtin;refine wpList_append_lies _ (by rfl) _ _ 193 (by rfl) base 256 T _ 1 16 Tryz.underlying193 M C D G rfl (by decide) (.slice x n c) n xs (by rfl) (P.out.alloc _) ⟨w.heap.size,0,none⟩ 1 1 [.iface t z] (by rfl) (by rfl) (CT w _) (wP t z) (by decide) (by unfold maxLen;omega) (by omega) (by simp;omega) (w.heap.size+1) (by simp) ?_)
 intro E r K g b d N
 have a:K.heap[gf]?=some (.cells cur 195 (0,0)):=by
  rw[b.block gf (by simp;omega) (fun e=>s.out e.symm),aA_ _ _ _ H];exact S.out
 have U:=aA a I;have Q:=aE a (i:=o+5);have J:=aD a
 have y:E≠gf:=by
  rcases d with h|h
  ·exact fun e=>s.out (by rw[<-e];exact h)
  ·omega
 have HOWN:=aB g;have p:=aB b;have A:=aB d;have B:=aB a;clear g b d a;go_wp2_with fail;go_end0;refine⟨rfl,.slice (some ⟨E,0,none⟩) (n+1) r,aS B.out,?_,?_,?_⟩
 ·exact aY HOWN.out fun k q=>ax_ _ _ _ _ (by cases q;exact y)
 ·intro k q;cases q;rcases A.out with h|h
  ·exact av_ h
  ·exact as_ (by show w.heap.size<=E;omega)
 ·refine⟨p.out.os.trans rfl,p.out.tape.trans rfl,p.out.output.trans rfl,aF_ (by simp) (aF_ p.out.size (by simp)),fun k q O L=>?_⟩
  rw[ax_ _ _ _ _ O,p.out.block k (by simp;omega) L,aA_ _ _ _ q]
def PR(base gf o n:Nat)(cur:Array Value)(p:Value)(xs:List Value)(u:Value)(w:World)(k:w.heap[gf]?=some (.cells cur 195 (0,0)))(v:cur[o+5]?=some p)(d:w.ownsRow base 256 1 p (n+1) (xs++[u]))(r:xs.length=n)(A:∃t z,u=.iface t z)(C:n<=1000000):
 Calls prog 171 #[.pointer (some ⟨gf,o,none⟩)] w fun e x=>e=.returned u/\∃h,x=w.setCell ⟨gf,o+5,none⟩ h/\w.ownsRow base 256 1 h n xs/\h.ownBlock=p.ownBlock:=by
 obtain⟨t,z,rfl⟩:=A;rcases d.2 with ⟨F,J⟩|⟨g,c,j,rfl,q,a,s,l,m,f⟩
 ·omega
 have B:=aD k;have H:=aA k v;have K:=aE k (i:=o+5);have y:=aD a
 have b:j[n]?=some (.iface t z):=by
  have:(xs++[Value.iface t z])[n]?=some (.iface t z):=by rw[<-r];simp
  rw[<-f,aU_,if_pos (by omega)] at this
  simpa using this
 have E:=aA a b
 have HOWN:Hid (w.ownsRow base 256 1 (.slice (some ⟨g,0,none⟩) n c) n xs):=by
  refine⟨by rw[r];omega,as_ ⟨g,c,j,rfl,q,a,by omega,l,m,?_⟩⟩
  have:=congrArg (List.take n) f;rw[bO_] at this;rw[show min n ((n+1)*1)=n by omega] at this
  rw[b4_,this,<-r];simp
 have I:(0:Int)<=n:=by omega
 have G:(n:Int)<(n:Int)+1:=by omega
 have D:(n:Int)<=c:=by omega
 clear d k v a f b;go_enter Tryz.func171,Tryz.ntmps171;go_wp2_with fail;go_ret;exact⟨rfl,_,rfl,HOWN.out,rfl⟩
def uF(sb gf n a:Nat)(w:World)(d:w.cell? ⟨sb,1,none⟩=some (.slice (some ⟨gf,0,none⟩) (n+1) a))(c:n<=1000):
 Calls prog 158 #[.pointer (some ⟨sb,0,none⟩)] w fun e b=>e=.returned (.pointer (some ⟨gf,n*6,none⟩))/\∃q,b=w.drewN q:=by
 have f:(0:Int)<=(n:Int):=by omega
 have g:(n:Int)<(n:Int)+1:=by omega
 go_enter Tryz.func158,Tryz.ntmps158;go_wp2_with fail;go_quiet (fail)
 go_wp2_with fail;go_ret;exact⟨rfl,_,rfl⟩
def B6(gf o f g n c k:Nat)(cur:Array Value)(m u:Value)(w:World)(a:w.heap[gf]?=some (.cells cur 195 (0,0)))(d:cur[o]?=some (.pointer (some ⟨f,0,none⟩)))(h:cur[o+1]?=some (.int .i64 k))
 (b:w.heap[f]?=some (.cells #[m,.slice (some ⟨g,0,none⟩) n c] 250 (0,0))) (B:w.cell? ⟨g,k,none⟩=some u) (l:∃t z,u=.iface t z) (y:k<n) (s:n<=1000000):
 Calls prog 235 #[.pointer (some ⟨gf,o,none⟩)] w fun e j=>e=.returned u/\∃q,j=(w.drewN q).setCell ⟨gf,o+1,none⟩ (.int .i64 ((k+1:Nat):Int)):=by
 obtain⟨t,z,rfl⟩:=l;have p:=aD a;have r:=aD b;have C:=aA a d;have v:=aA a h;have x:=aE a (i:=o+1);have D:=aA b (i:=1) rfl;have E:(0:Int)<=(k:Int):=by omega
 have A:(k:Int)<(n:Int):=by omega
 clear a b d h;go_enter Tryz.func235,Tryz.ntmps235;go_wp2_with fail;go_quiet (fail)
 go_wp2_with fail;go_ret;exact⟨rfl,_,by congr 2⟩
def vB(base gf o n k:Nat)(cur:Array Value)(F:Value)(xs r:List Value)(w:World)(v:w.heap[gf]?=some (.cells cur 195 (0,0)))(E:cur[o+5]?=some F)(l:w.ownsRow base 256 1 F (n+k) (xs++r))(B:xs.length=n)(S:r.length=k)(U:∀u∈r,u.oneCell'=true)(Y:n+k<=1000000):
 Calls prog 377 #[.pointer (some ⟨gf,o,none⟩),.int .i64 k] w fun e A=>∃I t b,e=.returned I/\Below w.heap.size w b/\b.ownsRow w.heap.size 256 1 I k r/\A=b.setCell ⟨gf,o+5,none⟩ t/\w.ownsRow base 256 1 t n xs/\t.ownBlock=F.ownBlock:=by
 have J:=aD v;have c5:=aA v E;have f5:=aE v (i:=o+5);have e1:(0:Int)<=(n:Int):=by omega
 have e2:(n:Int)<=(n:Int)+(k:Int):=by omega
 rcases l.2 with ⟨rfl,r2⟩|⟨g,c,K,rfl,H,p,N,C,D,s⟩
 ·obtain⟨rfl,rfl⟩:n=0/\k=0:=by omega
  obtain rfl:=aN_ B;obtain rfl:=aN_ S;have G:=aB (sT w);clear l v E;go_enter Tryz.func377,Tryz.ntmps377;go_wp2_with fail;refine G.out.mono ?_;rintro e b ⟨rfl,rfl⟩;go_wp2_with fail;go_ret;exact⟨_,_,_,rfl,ay_ _ _,World.ownsRow_nil _ _ _ _,rfl,World.ownsRow_nil _ _ _ _,rfl⟩
 ·have e3:(n:Int)<=(c:Int):=by omega
  have e4:(n:Int)+(k:Int)<=(c:Int):=by omega
  have Z:((n+k:Nat):Int)-(k:Int)=(n:Int):=by omega
  have G:Hid (∀d q,d=n\/k=0->Calls prog 282 #[.slice (some ⟨g,d,none⟩) k q] w fun e A=>∃y z,e=.returned (.slice y k z)/\A.ownsRow w.heap.size 256 1 (.slice y k z) k r/\Below w.heap.size w A):=fun d q x=>by
   refine(sU g d k q r w (by omega) (by omega) (fun j u M=>?_) U).mono ?_
   ·have T:j<r.length:=(aZ_.1 M).1;rcases x with rfl|h0
    ·refine aA p ?_;have O:(xs++r)[d+j]?=some u:=by rw[aV_ (by omega),B,bs_];exact M
     rw[<-s,aU_,if_pos (by omega)] at O
     simpa using O
    ·omega
   ·rintro e b ⟨I,rfl,f,m⟩;obtain⟨y,z,rfl⟩:=cU f;exact⟨y,z,rfl,f,m⟩
  have HOWN:Hid (∀q,q=c->w.ownsRow base 256 1 (.slice (some ⟨g,0,none⟩) n q) n xs):=by
   rintro q rfl;refine⟨by rw[B];omega,as_ ⟨g,q,K,rfl,H,p,by omega,C,D,?_⟩⟩
   have:=congrArg (List.take n) s;rw[bO_] at this;rw[show min n ((n+k)*1)=n by omega] at this
   rw[b4_,this,<-B];simp
  have X:Hid (∀b,Below w.heap.size w b->b.heap[gf]?=some (.cells cur 195 (0,0))):=fun b h=>by rw[h.block gf J];exact v
  clear l v p s;go_enter Tryz.func377,Tryz.ntmps377;go_wp2_with fail
  all_goals
   refine(G.out _ _ (by omega)).mono ?_
   rintro e b ⟨y,z,rfl,f,m⟩;have a:=X.out b m;have P:=aD a;have Q:=aA a E;have W:=aE a (i:=o+5);have V:=aB f;have L:=aB m;clear f m a;go_wp2_with fail;go_ret;exact⟨_,_,b,rfl,L.out,V.out,rfl,HOWN.out _ (by first|rfl|omega),rfl⟩
def eE(F:Nat->Prop)(w:World):Value->List (List UInt8)->Prop
 |v,[]=>v=.pointer none
 |v,x::l=>∃b o,v=.pointer (some ⟨b,0,none⟩)/\F b/\w.heap[b]?=some (.cells #[.string (bs x),.int .i64 l.length,o] 253 (0,0))/\eE F w o l
def eE.keep{F G:Nat->Prop}{w w':World}(d:∀b,F b->w'.heap[b]?=w.heap[b]?)(c:∀b,F b->G b):∀{l:List (List UInt8)} {v:Value},eE F w v l->eE G w' v l
 |[],_,h=>h
 |_::_,_,⟨b,o,e,a,f,g⟩=>⟨b,o,e,c b a,by rw[d b a];exact f,eE.keep d c g⟩
def eE.form{F:Nat->Prop}{w:World}{l:List (List UInt8)}{v:Value}(h:eE F w v l):∃p,v=.pointer p:=by
 cases l with
 |nil=>exact⟨none,h⟩
 |cons x l=>obtain⟨b,o,a,_⟩:=h;exact⟨_,a⟩
def lC(fp:Nat->Value)(F:Nat->Prop)(w:World)(v:Value):aH->Prop
 |.begin l s=>∃sp,v=.iface 365 (.agg #[.int .i64 l,sp])/\eE F w sp s
 |.push a=>∃u,v=.iface 361 (.agg #[u])/\PV F w u a/\aK a<=200
 |.load k=>v=.iface 402 (.agg #[.int .i64 k])
 |.declare k=>v=.iface 443 (.agg #[.int .i64 k])
 |.assign k n=>v=.iface 445 (.agg #[.int .i64 k,.int .i64 n])
 |.jump t=>v=.iface 462 (.agg #[.int .i64 t])
 |.skip t=>v=.iface 461 (.agg #[.int .i64 t])
 |.shortcut b t=>v=.iface 438 (.agg #[.bool b,.int .i64 t])
 |.truth=>v=.iface 436 (.agg #[])
 |.unary op=>v=.iface 407 (.agg #[.string (bs op)])
 |.binary op=>v=.iface 435 (.agg #[.string (bs op)])
 |.index=>v=.iface 405 (.agg #[])
 |.list n=>v=.iface 404 (.agg #[.int .i64 n])
 |.length=>v=.iface 439 (.agg #[])
 |.read=>v=.iface 440 (.agg #[])
 |.call k n=>v=.iface 442 (.agg #[fp k,.int .i64 n])
 |.give=>v=.iface 363 (.agg #[])
 |.drop=>v=.iface 449 (.agg #[])
 |.print=>v=.iface 448 (.agg #[])
def lC.keep{d:Nat->Value}{F G:Nat->Prop}{w w':World}{v:Value}{i:aH}(h:lC d F w v i)(f:∀b,F b->w'.heap[b]?=w.heap[b]?)(e:∀b,F b->G b):lC d G w' v i:=by
 cases i<;>first
  |exact h
  |(obtain⟨j,a,c⟩:=h;exact⟨j,a,eE.keep f e c⟩)
  |(obtain⟨u,a,c,g⟩:=h;exact⟨u,a,(c.keep f).mono e,g⟩)
def lC.form{a:Nat->Value}{F:Nat->Prop}{w:World}{v:Value}{i:aH}(h:lC a F w v i):∃t z,v=.iface t z:=by
 cases i<;>first
  |exact⟨_,_,h⟩
  |(obtain⟨d,b,c⟩:=h;exact⟨_,_,b⟩)
def F6(fp:Nat->Value)(F:Nat->Prop)(w:World)(v:Value)(f:dY):Prop:=
 ∃fb gc cap cur,v=.pointer (some ⟨fb,0,none⟩)/\F fb/\w.heap[fb]?=some (.cells #[.string (bs f.name),.slice (some ⟨gc,0,none⟩) f.code.length cap] 250 (0,0))/\F gc/\w.heap[gc]?=some (.cells cur 355 (0,0))/\
  ∀i (h:i<f.code.length),∃u,cur[i]?=some u/\lC fp F w u f.code[i]
def F6.keep{g:Nat->Value}{F G:Nat->Prop}{w w':World}{v:Value}{f:dY}(h:F6 g F w v f)(c:∀b,F b->w'.heap[b]?=w.heap[b]?)(a:∀b,F b->G b):F6 g G w' v f:=by
 obtain⟨m,o,e,d,s,j,r,k,l,n⟩:=h;refine⟨m,o,e,d,s,a _ j,by rw[c _ j];exact r,a _ k,by rw[c _ k];exact l,fun i q=>?_⟩
 obtain⟨u,t,p⟩:=n i q;exact⟨u,t,p.keep c a⟩
def lA(fp:Nat->Value)(F:Nat->Prop)(w:World)(tab:List dY):Prop:=∀k f,tab[k]?=some f->F6 fp F w (fp k) f
def lA.keep{c:Nat->Value}{F G:Nat->Prop}{w w':World}{a:List dY}(h:lA c F w a)(e:∀b,F b->w'.heap[b]?=w.heap[b]?)(d:∀b,F b->G b):lA c G w' a:=fun k f g=>(h k f g).keep e d
structure FVal where
 fp:Value
 nx:Value
 ln:Value
 sp:Value
 vv:Value
 ov:Value
def FVal.cells(f:FVal):List Value:=[f.fp,f.nx,f.ln,f.sp,f.vv,f.ov]
def fV:List FVal->List Value
 |[]=>[]
 |f::l=>f.cells++fV l
def jL(l m:List FVal):fV (l++m)=fV l++fV m:=by
 induction l with
 |nil=>rfl
 |cons f l a=>simp[fV,a]
def dZ(l:List FVal):(fV l).length=l.length*6:=by
 induction l with
 |nil=>rfl
 |cons f l a=>simp[fV,FVal.cells,a];omega
def FVal.owns(f:FVal):List Nat:=f.vv.ownBlock.toList++f.ov.ownBlock.toList
def lZ(F:Nat->Prop)(base:Nat)(w:World)(v:Value)(l:List aJ):Prop:=(∃xs,w.ownsRow base 256 1 v l.length xs/\fT F w xs l)/\∀a∈l,aK a<=200
def lZ.keep{F G:Nat->Prop}{base:Nat}{w w':World}{v:Value}{l:List aJ}(h:lZ F base w v l)(f:∀b,F b->w'.heap[b]?=w.heap[b]?)(d:∀b,F b->G b)(i:∀k,v.ownBlock=some k->w'.heap[k]?=w.heap[k]?):lZ G base w' v l:=by
 obtain⟨⟨e,a,c⟩,g⟩:=h;exact⟨⟨e,aY a i,(c.keep f).mono d⟩,g⟩
structure MI(fp:Nat->Value)(F:Nat->Prop)(base:Nat)(w:World)(v:FVal)(f:aI):Prop where
 fn:F6 fp F w v.fp f.fn
 nx:v.nx=.int .i64 f.next
 ln:v.ln=.int .i64 f.line
 sp:eE F w v.sp f.seen
 vars:lZ F base w v.vv f.vars
 ops:lZ F base w v.ov f.ops
def MI.keep{d:Nat->Value}{F G:Nat->Prop}{base:Nat}{w w':World}{v:FVal}{f:aI}(h:MI d F base w v f)(c:∀b,F b->w'.heap[b]?=w.heap[b]?)(a:∀b,F b->G b)(g:∀k∈v.owns,w'.heap[k]?=w.heap[k]?):MI d G base w' v f:=
 ⟨h.fn.keep c a,h.nx,h.ln,eE.keep c a h.sp,h.vars.keep c a fun k e=>g k (by simp[FVal.owns,e]),h.ops.keep c a fun k e=>g k (by simp[FVal.owns,e])⟩
def iR(fp:Nat->Value)(F:Nat->Prop)(base:Nat)(w:World):List FVal->List aI->Prop
 |[],[]=>True
 |v::vs,f::fs=>MI fp F base w v f/\iR fp F base w vs fs
 |_,_=>False
def iR.keep{d:Nat->Value}{F G:Nat->Prop}{base:Nat}{w w':World}(e:∀b,F b->w'.heap[b]?=w.heap[b]?)(a:∀b,F b->G b):∀{vs:List FVal} {fs:List aI},iR d F base w vs fs->(∀v∈vs,∀k∈v.owns,w'.heap[k]?=w.heap[k]?)->iR d G base w' vs fs
 |[],[],_,_=>trivial
 |v::_,_::_,⟨i,f⟩,c=>⟨i.keep e a (c v (aS_ ..)),iR.keep e a f fun u g=>c u (aJ_ _ g)⟩
 |[],_::_,h,_=>h.elim
 |_::_,[],h,_=>h.elim
def iR.length{a:Nat->Value}{F:Nat->Prop}{base:Nat}{w:World}:∀{vs:List FVal} {fs:List aI},iR a F base w vs fs->vs.length=fs.length
 |[],[],_=>rfl
 |_::_,_::_,⟨_,h⟩=>by simp[iR.length h]
 |[],_::_,h=>h.elim
 |_::_,[],h=>h.elim
def iR.snoc{a:Nat->Value}{F:Nat->Prop}{base:Nat}{w:World}{v:FVal}{f:aI}:∀{vs:List FVal} {fs:List aI},iR a F base w vs fs->MI a F base w v f->iR a F base w (vs++[v]) (fs++[f])
 |[],[],_,h=>⟨h,trivial⟩
 |_::_,_::_,⟨b,c⟩,h=>⟨b,iR.snoc c h⟩
 |[],_::_,h,_=>h.elim
 |_::_,[],h,_=>h.elim
def iR.unsnoc{b:Nat->Value}{F:Nat->Prop}{base:Nat}{w:World}{f:aI}:∀{vs:List FVal} {fs:List aI},iR b F base w vs (fs++[f])->∃a v,vs=a++[v]/\iR b F base w a fs/\MI b F base w v f
 |[],[],h=>h.elim
 |[v],[],⟨c,d⟩=>⟨[],v,rfl,trivial,c⟩
 |_::_::_,[],⟨_,h⟩=>h.elim
 |v::vs,g::fs,⟨c,d⟩=>by
  obtain⟨a,u,e,j,i⟩:=iR.unsnoc (vs:=vs) (fs:=fs) d;exact⟨v::a,u,by rw[e];rfl,⟨c,j⟩,i⟩
 |[],_::_,h=>h.elim
def aT(l:List FVal):List Nat:=l.flatMap FVal.owns
def aF(sb gf:Nat)(outv:Value)(fvs:List FVal):List Nat:=sb::gf::(outv.ownBlock.toList++aT fvs)
def lV(l:List (List UInt8)):List Value:=l.map fun x=>Value.string (bs x)
def rH(F:Nat->Prop)(w:World)(v:Value)(l:List Int):Prop:=
 (l=[]/\∃x c,v=.slice x 0 c)\/∃g o c,v=.slice (some ⟨g,o,none⟩) l.length c/\l.length<=c/\F g/\∀i (h:i<l.length),w.cell? ⟨g,o+i,none⟩=some (.int .i64 l[i])/\ -9223372036854775808<=l[i]/\l[i]<=9223372036854775807
def rH.keep{F G:Nat->Prop}{w w':World}{v:Value}{l:List Int}(h:rH F w v l)(k:∀b,F b->w'.heap[b]?=w.heap[b]?)(f:∀b,F b->G b):rH G w' v l:=by
 rcases h with h|⟨g,o,c,m,j,d,e⟩
 ·exact av_ h
 ·exact as_ ⟨g,o,c,m,j,f g d,fun i a=>⟨by rw[World.cell?_of_block (k g d)];exact(e i a).1,(e i a).2⟩⟩
structure cT(fp:Nat->Value)(F:Nat->Prop)(base:Nat)(w:World)(sb gf cap:Nat)(t0 tv outv s0:Value)(fvs:List FVal)(m:cF):Prop where
 blk:w.heap[sb]?=some (.cells #[t0,.slice (some ⟨gf,0,none⟩) fvs.length cap,tv,outv,s0] 108 (0,0))
 row:w.ownsRow base 195 6 (.slice (some ⟨gf,0,none⟩) fvs.length cap) fvs.length (fV fvs)
 frs:iR fp F base w fvs m.frames
 tape:rH F w tv m.tape
 out:w.ownsRow base 9 1 outv m.out.length (lV m.out)
 nodup:(aF sb gf outv fvs).Nodup
 lt:∀k∈aF sb gf outv fvs,k<w.heap.size
 apart:∀k,F k->k<w.heap.size/\k∉aF sb gf outv fvs
def cT.step{T:Nat->Value}{F G:Nat->Prop}{base:Nat}{w w':World}{sb gf C:Nat}{t0 tv i s0:Value}{m:List FVal}{v v':FVal}{q:List aI}{f f':aI}{z:List Int}{L:List (List UInt8)}
 (h:cT T F base w sb gf C t0 tv i s0 (m++[v]) ⟨q++[f],z,L⟩) (K:w.heap.size<=w'.heap.size) (O:∀k,k<w.heap.size->k≠gf->k∉v.owns->w'.heap[k]?=w.heap[k]?)
 (I:w'.ownsRow base 195 6 (.slice (some ⟨gf,0,none⟩) (m.length+1) C) (m.length+1) (fV (m++[v'])))
 (W:MI T G base w' v' f') (S:∀k∈v'.owns,k<w'.heap.size/\(k∈v.owns\/w.heap.size<=k)) (V:v'.owns.Nodup)
 (Z:∀k,F k->G k) (hG:∀k,G k->F k\/(w.heap.size<=k/\k<w'.heap.size/\k∉v'.owns)):
 cT T G base w' sb gf C t0 tv i s0 (m++[v']) ⟨q++[f'],z,L⟩:=by
 have M:(m++[v']).length=(m++[v]).length:=by simp
 have A:(m++[v']).length=m.length+1:=by simp
 have j:∀u:FVal,aF sb gf i (m++[u])=(sb::gf::(i.ownBlock.toList++aT m))++u.owns:=fun u=>by simp[aF,aT]
 have p:=h.nodup;have t:=h.lt;have n:=h.apart;rw[j] at p t n;generalize c:(sb::gf::(i.ownBlock.toList++aT m))=s at p t n j;obtain⟨l,aa,X⟩:=be_.1 p;have g:∀k∈s,k<w.heap.size/\k∉v.owns:=fun k d=>⟨t k (aP_ _ d),fun U=>X k d k U rfl⟩
 have y:sb∈s:=by rw[<-c];simp
 have H:gf∈s:=by rw[<-c];simp
 have Q:sb≠gf:=by
  rw[<-c] at l;have:=(aK_.1 l).1;intro e;exact this (by simp[e])
 have N:∀b,F b->w'.heap[b]?=w.heap[b]?:=fun b P=>by
  obtain⟨x,D⟩:=n b P;exact O b x (fun e=>D (aP_ _ (by rw[e];exact H))) fun U=>D (aL_ _ U)
 have o:∀u∈m,∀k∈u.owns,k∈s/\k≠gf:=fun u J k d=>by
  have E:k∈aT m:=bt_.2 ⟨u,J,d⟩;refine⟨by rw[<-c];simp[E],?_⟩
  rw[<-c] at l;have:=(aK_.1 (aK_.1 l).2).1;intro e;exact this (by rw[<-e];simp[E])
 have B:∀k,i.ownBlock=some k->k∈s/\k≠gf:=fun k d=>by
  refine⟨by rw[<-c];simp[d],?_⟩
  rw[<-c] at l;have:=(aK_.1 (aK_.1 l).2).1;intro e;exact this (by rw[<-e];simp[d])
 refine⟨?_,by rw[A];exact I,?_,h.tape.keep N Z,aY h.out fun k d=>?_,?_,?_,?_⟩
 ·rw[M,O sb (g sb y).1 Q (g sb y).2];exact h.blk
 ·obtain⟨ab,u,e,k1,k2⟩:=iR.unsnoc h.frs;obtain⟨rfl,e2⟩:=bh_ e rfl;exact(k1.keep N Z fun u J k d=>O k (g k (o u J k d).1).1 (o u J k d).2 (g k (o u J k d).1).2).snoc W
 ·obtain⟨x,D⟩:=B k d;exact O k (g k x).1 D (g k x).2
 ·rw[j];refine be_.2 ⟨l,V,fun a ha b P e=>?_⟩
  subst e;rcases(S a P).2 with x|x
  ·exact(g a ha).2 x
  ·have:=(g a ha).1;omega
 ·intro k d;rw[j] at d;rcases aE_.1 d with d|d
  ·exact az_ (g k d).1 K
  ·exact(S k d).1
 ·intro k d;rw[j];rcases hG k d with x|⟨x,D,h3⟩
  ·obtain⟨h4,Y⟩:=n k x;refine⟨az_ h4 K,fun r=>?_⟩
   rcases aE_.1 r with r|r
   ·exact Y (aP_ _ r)
   ·rcases(S k r).2 with h6|h6
    ·exact Y (aL_ _ h6)
    ·omega
  ·refine⟨D,fun r=>?_⟩
   rcases aE_.1 r with r|r
   ·have:=(g k r).1;omega
   ·exact h3 r
structure Kept(own:List Nat)(w w':World):Prop where
 os:w'.os=w.os
 tape:w'.tape=w.tape
 output:w'.output=w.output
 size:w.heap.size<=w'.heap.size
 block:∀k,k<w.heap.size->k∉own->w'.heap[k]?=w.heap[k]?
structure Ext(F G:Nat->Prop)(n:Nat):Prop where
 sub:∀k,F k->G k
 new:∀k,G k->F k\/n<=k
def Ext.refl(F:Nat->Prop)(n:Nat):Ext F F n:=⟨fun _ h=>h,fun _ h=>av_ h⟩
def Ext.trans{F G H:Nat->Prop}{n m:Nat}(h:Ext F G n)(k:Ext G H m)(c:n<=m):Ext F H n:=⟨fun x a=>k.sub x (h.sub x a),fun x a=>by
 rcases k.new x a with b|b
 ·exact h.new x b
 ·exact as_ (aF_ c b)⟩
def Ext.le{F G:Nat->Prop}{n m:Nat}(h:Ext F G n)(b:m<=n):Ext F G m:=⟨h.sub,fun x a=>(h.new x a).imp_right (aF_ b)⟩
def Done(fp:Nat->Value)(F:Nat->Prop)(base:Nat)(sb:Nat)(t0 s0:Value)(own:List Nat)(w:World)(m:cF)(w':World):Prop:=
 Kept own w w'/\∃G gf cap tv outv fvs,Ext F G w.heap.size/\cT fp G base w' sb gf cap t0 tv outv s0 fvs m/\∀k∈aF sb gf outv fvs,k∈own\/w.heap.size<=k
def uW{w:World}{base gf d j:Nat}{a:List FVal}{v:FVal}{x:Value}(h:w.ownsRow base 195 6 (.slice (some ⟨gf,0,none⟩) (a.length+1) d) (a.length+1) (fV (a++[v])))(y:j<6):
 ∃b,w.heap[gf]?=some (.cells b 195 (0,0))/\(∀i,i<6->b[a.length*6+i]?=v.cells[i]?)/\
  ∀W:World,W.heap[gf]?=some (.cells (b.setIfInBounds (a.length*6+j) x) 195 (0,0))->∀g:FVal,g.cells=v.cells.set j x->W.ownsRow base 195 6 (.slice (some ⟨gf,0,none⟩) (a.length+1) d) (a.length+1) (fV (a++[g])):=by
 rcases h.2 with ⟨e,_⟩|⟨A,k,b,e,t,q,m,p,l,n⟩
 ·cases e
 cases e;have c:∀u:FVal,fV (a++[u])=fV a++u.cells:=fun u=>by rw[jL];simp[fV]
 have o:∀u:FVal,u.cells.length=6:=fun _=>rfl
 have r:(a.length+1)*6<=b.size:=by rw[l];exact Nat.mul_le_mul_right _ m
 refine⟨b,q,fun i z=>?_,fun W s g f=>?_⟩
 ·have:(fV (a++[v]))[a.length*6+i]?=v.cells[i]?:=by
   rw[c,aV_ (by rw[dZ];omega),dZ,bs_]
  rw[<-n,aU_,if_pos (by omega)] at this
  simpa using this
 ·refine⟨by rw[dZ];simp,as_ ⟨gf,d,_,rfl,t,s,m,p,by simpa using l,?_⟩⟩
  rw[bB_,b6_,n,c,c,f,List.set_append_right _ _ (by rw[dZ];omega),dZ,bs_]
def Kept.refl(own:List Nat)(w:World):Kept own w w:=⟨rfl,rfl,rfl,au_ _,fun _ _ _=>rfl⟩
def Kept.trans{own d:List Nat}{a b c:World}(h:Kept own a b)(k:Kept d b c)(j:∀x∈d,x∈own\/a.heap.size<=x):Kept own a c:=
 ⟨k.os.trans h.os,k.tape.trans h.tape,k.output.trans h.output,aF_ h.size k.size,fun x e g=>by
   rw[k.block x (az_ e h.size) (fun i=>by rcases j x i with f|f;·exact g f
                                          ·omega),h.block x e g]⟩
def Kept.of_below{own:List Nat}{w w':World}(h:Below w.heap.size w w'):Kept own w w':=⟨h.os,h.tape,h.output,h.size,fun k a _=>h.block k a⟩
def cT.grow{o:Nat->Value}{F G:Nat->Prop}{base:Nat}{w w':World}{sb gf g:Nat}{q p a r:Value}{e:List FVal}{m:cF}(h:cT o F base w sb gf g q p a r e m)(i:Below w.heap.size w w')(n:∀k,F k->G k)(x:∀k,G k->F k\/(w.heap.size<=k/\k<w'.heap.size)):cT o G base w' sb gf g q p a r e m:=by
 have f:∀b,F b->w'.heap[b]?=w.heap[b]?:=fun b j=>i.block b (h.apart b j).1
 have d:∀k,k∈aF sb gf a e->w'.heap[k]?=w.heap[k]?:=fun k c=>i.block k (h.lt k c)
 refine⟨by rw[d sb (by simp[aF])];exact h.blk,aY h.row fun k c=>?_,h.frs.keep f n fun v u k c=>d k ?_,h.tape.keep f n,aY h.out fun k c=>d k (by simp[aF,c]),h.nodup,fun k c=>az_ (h.lt k c) i.size,fun k c=>?_⟩
 ·cases c;exact d gf (by simp[aF])
 ·have:k∈aT e:=bt_.2 ⟨v,u,c⟩;simp[aF,this]
 ·rcases x k c with l|⟨l,s⟩
  ·exact⟨az_ (h.apart k l).1 i.size,(h.apart k l).2⟩
  ·exact⟨s,fun t=>by have:=h.lt k t;omega⟩
def cT.pushed{U:Nat->Value}{F:Nat->Prop}{base:Nat}{w w':World}{sb gf L:Nat}{Y X d Z:Value}{q:List FVal}{v:FVal}{m:List aI}{f:aI}{A:List Int}{K:List (List UInt8)}{cur:Array Value}{c u:Value}{a:aJ}{xs:List Value}
 (h:cT U F base w sb gf L Y X d Z (q++[v]) ⟨m++[f],A,K⟩) (I:w.heap[gf]?=some (.cells cur 195 (0,0)))
 (N:fT F w xs f.ops) (hu:PV F w u a) (P:aK a<=200)
 (p1:w'.heap[gf]?=some (.cells (cur.setIfInBounds (q.length*6+5) c) 195 (0,0))) (W:w'.ownsRow base 256 1 c (f.ops.length+1) (xs++[u])) (V:∀k,c.ownBlock=some k->v.ov.ownBlock=some k\/w.heap.size<=k) (r:Chg gf v.ov.ownBlock w w'):
 cT U F base w' sb gf L Y X d Z (q++[{ v with ov:=c }]) ⟨m++[f.push a],A,K⟩/\Kept (aF sb gf d (q++[v])) w w':=by
 obtain⟨aa,v0,e,ab,H⟩:=iR.unsnoc h.frs;obtain⟨rfl,e2⟩:=bh_ e rfl;cases e2;have t:=h.row;rw[show (q++[v]).length=q.length+1 by simp] at t
 obtain⟨J,T,_,c3⟩:=uW (j:=5) (x:=c) t (by omega)
 obtain rfl:J=cur:=by rw[I] at T;cases T;rfl
 have D:∀k∈v.owns,k∈aF sb gf d (q++[v]):=fun k g=>by simp[aF,aT,g]
 have O:gf∉v.owns:=fun E=>by
  have:=(aK_.1 (aK_.1 h.nodup).2).1;exact this (by simp[aT,E])
 have C:v.owns.Nodup:=by
  have l:=h.nodup;have:aF sb gf d (q++[v])=(sb::gf::(d.ownBlock.toList++aT q))++v.owns:=by simp[aF,aT]
  rw[this] at l;exact(be_.1 l).2.1
 have o:∀b,F b->w'.heap[b]?=w.heap[b]?:=fun b B=>by
  obtain⟨l,s⟩:=h.apart b B;exact r.block b l (fun e=>s (by simp[aF,e])) (fun e=>s (D b (by simp[FVal.owns,<-e])))
 have z:∀k,k<w.heap.size->k≠gf->k∉v.owns->w'.heap[k]?=w.heap[k]?:=fun k l s M=>r.block k l s fun e=>M (by simp[FVal.owns,<-e])
 have p:∀k,v.vv.ownBlock=some k->k<w.heap.size/\k≠gf/\v.ov.ownBlock≠some k:=fun k g=>by
  have E:k∈v.owns:=by simp[FVal.owns,g]
  refine⟨h.lt k (D k E),fun e=>O (by rw[<-e];exact E),fun e=>?_⟩
  unfold FVal.owns at C;rw[g,e] at C;simp at C
 refine⟨h.step (G:=F) r.size z (c3 w' p1 _ rfl) ?_ ?_ ?_ (fun _ h=>h) (fun _ h=>av_ h),?_⟩
 ·refine⟨H.fn.keep o fun _ h=>h,H.nx,H.ln,eE.keep o (fun _ h=>h) H.sp,H.vars.keep o (fun _ h=>h) fun k g=>?_,⟨xs++[u],?_,?_⟩,?_⟩
  ·obtain⟨l,s,M⟩:=p k g;exact r.block k l s (fun e=>M e.symm)
  ·show w'.ownsRow base 256 1 c (f.ops++[a]).length _
   rw[aw_];exact W
  ·exact(N.keep o).append ⟨rfl,fun i hi=>by
    obtain rfl:i=0:=by simpa using hi
    exact⟨u,rfl,hu.keep o⟩⟩
  ·intro b B;rcases aE_.1 B with B|B
   ·exact H.ops.2 b B
   ·rw[aD_.1 B];exact P
 ·intro k g;rcases aE_.1 g with g|g
  ·have n:v.vv.ownBlock=some k:=by simpa using g
   exact⟨az_ (p k n).1 r.size,av_ (by simp[FVal.owns,n])⟩
  ·have n:c.ownBlock=some k:=by simpa using g
   refine⟨cK W k n,?_⟩;rcases V k n with l|l
   ·exact av_ (by simp[FVal.owns,l])
   ·exact as_ l
 ·show (v.vv.ownBlock.toList++c.ownBlock.toList).Nodup
  refine be_.2 ⟨by cases v.vv.ownBlock<;>simp,by cases c.ownBlock<;>simp,fun x hx y hy e=>?_⟩
  subst e;have l:v.vv.ownBlock=some x:=by simpa using hx
  have s:c.ownBlock=some x:=by simpa using hy
  obtain⟨M,_,h4⟩:=p x l;rcases V x s with Q|Q
  ·exact h4 Q
  ·omega
 ·exact⟨r.os,r.tape,r.output,r.size,fun k g S=>z k g (fun e=>S (by simp[aF,e])) fun E=>S (D k E)⟩
structure aQ(w w':World):Prop where
 os:w'.os=w.os
 tape:w'.tape=w.tape
 output:w'.output=w.output
 heap:w'.heap=w.heap
def aQ.refl(w:World):aQ w w:=⟨rfl,rfl,rfl,rfl⟩
def aQ.drewN(w:World)(n:Nat):aQ w (w.drewN n):=⟨rfl,rfl,rfl,rfl⟩
def aQ.drew(w:World):aQ w w.drew:=⟨rfl,rfl,rfl,rfl⟩
def aQ.trans{a b c:World}(h:aQ a b)(k:aQ b c):aQ a c:=⟨k.os.trans h.os,k.tape.trans h.tape,k.output.trans h.output,k.heap.trans h.heap⟩
def aQ.below{w w':World}(h:aQ w w'):Below w.heap.size w w':=⟨h.os,h.tape,h.output,by rw[h.heap];exact au_ _,fun k _=>by rw[h.heap]⟩
def cT.top{q:Nat->Value}{F:Nat->Prop}{base:Nat}{w:World}{sb gf e:Nat}{t s g u:Value}{m:List FVal}{c:List aI}{f:aI}{n:List Int}{p:List (List UInt8)}(h:cT q F base w sb gf e t s g u m ⟨c++[f],n,p⟩):
 ∃b v a,m=b++[v]/\b.length=c.length/\MI q F base w v f/\w.heap[sb]?=some (.cells #[t,.slice (some ⟨gf,0,none⟩) (b.length+1) e,s,g,u] 108 (0,0))/\w.heap[gf]?=some (.cells a 195 (0,0))/\b.length+1<=e/\
  a[b.length*6]?=some v.fp/\a[b.length*6+1]?=some v.nx/\a[b.length*6+2]?=some v.ln/\a[b.length*6+3]?=some v.sp/\a[b.length*6+4]?=some v.vv/\a[b.length*6+5]?=some v.ov:=by
 obtain⟨b,v,rfl,B,z⟩:=iR.unsnoc h.frs;have d:=h.row;have i:=h.blk;rw[show (b++[v]).length=b.length+1 by simp] at d i
 obtain⟨a,y,k,_⟩:=uW (j:=0) (x:=undef) d (by omega)
 have l:b.length+1<=e:=by
  rcases d.2 with ⟨o,_⟩|⟨E,r,a,o,C,D,A,_⟩
  ·cases o
  ·cases o;exact A
 exact⟨b,v,a,rfl,B.length,z,i,y,l,k 0 (by omega),k 1 (by omega),k 2 (by omega),k 3 (by omega),k 4 (by omega),k 5 (by omega)⟩
def bB{w W:World}(h:W.heap=w.heap){a:Addr}{v:Value}(b:w.cell? a=some v):W.cell? a=some v:=by
 have e:W.cell? a=w.cell? a:=World.cell?_of_block (by rw[h])
 rw[e];exact b
def NY(w c:World)(sb j k:Nat)(t:TypeId)(z:Value)(P:World->Prop)(h:w.alloc (.cells #[.iface t z] 361)=c)
 (q:Hid (∀W,aQ c W->Calls prog 158 #[.pointer (some ⟨sb,0,none⟩)] W fun e d=>e=.returned (.pointer (some ⟨j,k,none⟩))/\aQ c d))
 (l:Hid (∀W,aQ c W->Calls prog 371 #[.pointer (some ⟨j,k,none⟩),.iface t z] W fun e d=>e=.returned (.tuple #[])/\P d)):
 Calls prog 370 #[.agg #[.iface t z],.pointer (some ⟨sb,0,none⟩)] w fun e d=>e=.returned (.tuple #[])/\P d:=by
 have a:(w.alloc (.cells #[.iface t z] 361)).heap[w.heap.size]?=some (.cells #[.iface t z] 361 (0,0)):=aM _ _ rfl _;rw[h] at a;have m:=aB h;have n:c.cell? ⟨w.heap.size,0,none⟩=some (.iface t z):=aA a rfl;have g:=aB n;have i:=aD a;clear h a;go_enter Tryz.func370,Tryz.ntmps370;go_wp2_with fail;rw[m.out];go_region_law (go_simp;first|(go_at_call 158;refine(q.out _ (aQ.drew _)).mono ?_;rintro e p ⟨rfl,b⟩;have r:=bB b.heap g.out;have o:w.heap.size<p.heap.size:=by (rw[b.heap];exact i))|(go_at_call 371;refine(l.out _ b).mono ?_;rintro e s ⟨rfl,f⟩))
 all_goals
  go_wp2_with fail;go_end0;exact⟨rfl,f⟩
def TD(N:Nat->Value)(F:Nat->Prop)(base:Nat)(w:World)(sb gf p:Nat)(P tv b Q:Value)(D:List FVal)(c:List aI)(f:aI)(i:List Int)(B:List (List UInt8))(u:Value)(a:aJ)
 (h:cT N F base w sb gf p P tv b Q D ⟨c++[f],i,B⟩) (Y:PV F w u a) (L:aK a<=200) (U:f.ops.length<=100000) (Z:c.length<=15) (s:base<=w.heap.size):
 Calls prog 370 #[.agg #[u],.pointer (some ⟨sb,0,none⟩)] w fun e n=>e=.returned (.tuple #[])/\Done N F base sb P Q (aF sb gf b D) w ⟨c++[f.push a],i,B⟩ n:=by
 obtain⟨t,z,rfl⟩:=Y.form;have d:Below w.heap.size w (w.alloc (.cells #[.iface t z] 361)):=(ay_ _ _).alloc (au_ _) _;have aa:(w.alloc (.cells #[.iface t z] 361)).heap[w.heap.size]?=some (.cells #[.iface t z] 361 (0,0)):=aM _ _ rfl _;have S:=h.grow d (fun _ h=>h) (fun _ h=>av_ h)
 have O:PV F (w.alloc (.cells #[.iface t z] 361)) (.iface t z) a:=Y.keep fun k K=>d.block k (h.apart k K).1
 generalize hW:w.alloc (.cells #[.iface t z] 361)=H at*;have HW:=aB hW;obtain⟨g,v,o,rfl,ac,hv,J,l,T,k0,k1,k2,k3,k4,k5⟩:=S.top;obtain⟨⟨xs,m,E⟩,r⟩:=hv.ops
 have C:v.ov.ownBlock≠some gf:=fun e=>by
  have:=(aK_.1 (aK_.1 S.nodup).2).1;exact this (by simp[aT,FVal.owns,e])
 have HT:Hid (∀W,aQ H W->Calls prog 158 #[.pointer (some ⟨sb,0,none⟩)] W fun e n=>e=.returned (.pointer (some ⟨gf,g.length*6,none⟩))/\aQ H n):=fun W j=>by
  refine(uF sb gf g.length p W (bB j.heap (aA J rfl)) (by omega)).mono ?_
  rintro e n ⟨M,q,rfl⟩;exact⟨M,j.trans (aQ.drewN _ _)⟩
 have HP:Hid (∀W,aQ H W->Calls prog 371 #[.pointer (some ⟨gf,g.length*6,none⟩),.iface t z] W fun e n=>e=.returned (.tuple #[])/\Done N F base sb P Q (aF sb gf b (g++[v])) w ⟨c++[f.push a],i,B⟩ n):=fun W j=>by
  have I:=j.below;have hR:=S.grow I (fun _ h=>h) (fun _ h=>av_ h)
  refine(wT base gf (g.length*6) f.ops.length o v.ov xs t z W (by rw[j.heap];exact l) k5 (aY m fun k _=>by rw[j.heap]) C (by rw[j.heap];exact aF_ s d.size) (by omega)).mono ?_
  rintro e n ⟨M,y,p1,p2,X,p4⟩;obtain⟨q1,q2⟩:=hR.pushed (cur:=o) (by rw[j.heap];exact l) (E.keep fun k _=>by rw[j.heap]) (O.keep fun k _=>by rw[j.heap]) L p1 p2 X p4
  have K:Kept (aF sb gf b (g++[v])) w n:=(Kept.of_below (own:=aF sb gf b (g++[v])) (d.trans (I.mono d.size))).trans q2 fun x hx=>av_ hx
  refine⟨M,K,F,gf,p,tv,b,_,Ext.refl _ _,q1,fun k G=>?_⟩
  have ab:W.heap.size=H.heap.size:=by rw[j.heap]
  have h1:aF sb gf b (g++[{ v with ov:=y }])=(sb::gf::(b.ownBlock.toList++aT g))++({ v with ov:=y }:FVal).owns:=by simp[aF,aT]
  have h2:aF sb gf b (g++[v])=(sb::gf::(b.ownBlock.toList++aT g))++v.owns:=by simp[aF,aT]
  rw[h1] at G;rw[h2];rcases aE_.1 G with A|A
  ·exact av_ (aP_ _ A)
  ·rcases aE_.1 A with A|A
   ·exact av_ (aL_ _ (aP_ _ A))
   ·have h4:y.ownBlock=some k:=by simpa using A
    rcases X k h4 with V|V
    ·exact av_ (aL_ _ (by simp[FVal.owns,V]))
    ·exact as_ (by have:=d.size;omega)
 clear m E r C;exact NY w H sb gf (g.length*6) t z _ HW.out HT HP
def fT.split{F:Nat->Prop}{w:World}{xs:List Value}{l m:List aJ}(h:fT F w xs (l++m)):∃e c,xs=e++c/\e.length=l.length/\c.length=m.length/\fT F w e l/\fT F w c m:=by
 obtain⟨g,f⟩:=h;rw[aw_] at g;refine⟨xs.take l.length,xs.drop l.length,(a5_ _ _).symm,by simp;omega,by simp;omega,⟨by simp;omega,fun i b=>?_⟩,⟨by simp;omega,fun i b=>?_⟩⟩
 ·obtain⟨u,d,a⟩:=f i (by simp;omega)
  rw[bv_ b] at a;exact⟨u,by rw[aU_,if_pos b];exact d,a⟩
 ·obtain⟨u,d,a⟩:=f (l.length+i) (by simp;omega)
  rw[bM_ (by omega)] at a
  simp only[bs_] at a;exact⟨u,by rw[bU_];exact d,a⟩
def fT.unsnoc{F:Nat->Prop}{w:World}{xs:List Value}{l:List aJ}{a:aJ}(h:fT F w xs (l++[a])):∃b u,xs=b++[u]/\b.length=l.length/\fT F w b l/\PV F w u a:=by
 obtain⟨b,f,e,g,i,k,j⟩:=h.split;match f,i with
 |[u],_=>
  obtain⟨m,c,d⟩:=j.2 0 (by simp)
  simp at c d;subst c;exact⟨b,u,e,g,k,d⟩
def cT.setTop{s:Nat->Value}{F:Nat->Prop}{base:Nat}{w:World}{sb gf o:Nat}{C B a E:Value}{c:List FVal}{v v':FVal}{d:List aI}{f A:aI}{l:List Int}{n:List (List UInt8)}{j:Nat}{x:Value}
 (h:cT s F base w sb gf o C B a E (c++[v]) ⟨d++[f],l,n⟩) (I:j<6) (t:v'.cells=v.cells.set j x) (q:v'.owns=v.owns) (u:MI s F base w v' A):
 cT s F base (w.setCell ⟨gf,c.length*6+j,none⟩ x) sb gf o C B a E (c++[v']) ⟨d++[A],l,n⟩/\Kept (aF sb gf a (c++[v])) w (w.setCell ⟨gf,c.length*6+j,none⟩ x):=by
 have i:=h.row;rw[show (c++[v]).length=c.length+1 by simp] at i
 obtain⟨N,L,_,J⟩:=uW (j:=j) (x:=x) i I;have z:∀k∈v.owns,k∈aF sb gf a (c++[v]):=fun k g=>by simp[aF,aT,g]
 have r:gf∉v.owns:=fun m=>by
  have:=(aK_.1 (aK_.1 h.nodup).2).1;exact this (by simp[aT,m])
 have p:v.owns.Nodup:=by
  have D:=h.nodup;have:aF sb gf a (c++[v])=(sb::gf::(a.ownBlock.toList++aT c))++v.owns:=by simp[aF,aT]
  rw[this] at D;exact(be_.1 D).2.1
 have g:∀k,k≠gf->(w.setCell ⟨gf,c.length*6+j,none⟩ x).heap[k]?=w.heap[k]?:=fun k g=>ax_ _ _ _ _ g
 have y:∀b,F b->(w.setCell ⟨gf,c.length*6+j,none⟩ x).heap[b]?=w.heap[b]?:=fun b H=>g b fun e=>(h.apart b H).2 (by simp[aF,e])
 refine⟨h.step (G:=F) (by simp) (fun k _ M _=>g k M) (J _ (aS L) _ t) (u.keep y (fun _ h=>h) fun k m=>g k fun e=>r (by rw[<-q,<-e];exact m)) (fun k m=>?_) (by rw[q];exact p) (fun _ h=>h) (fun _ h=>av_ h),⟨rfl,rfl,rfl,by simp,fun k _ K=>g k fun e=>K (by simp[aF,e])⟩⟩
 rw[q] at m;exact⟨az_ (h.lt k (z k m)) (by simp),av_ m⟩
def Mid(fp:Nat->Value)(base sb gf n:Nat)(t0 s0:Value)(own:List Nat)(w0:World)(G:Nat->Prop)(m:cF)(w:World):Prop:=
 Kept own w0 w/\base<=w.heap.size/\∃cap tv outv fvs,fvs.length=n+1/\cT fp G base w sb gf cap t0 tv outv s0 fvs m/\∀k∈aF sb gf outv fvs,k∈own\/w0.heap.size<=k
section
variable {fp:Nat->Value} {base sb gf n:Nat} {t0 s0:Value} {own:List Nat} {w0 w w':World} {G G':Nat->Prop} {m:cF} {below:List aI} {f f':aI} {tape:List Int} {out:List (List UInt8)}
def Mid.init{c:Nat}{e a:Value}{b:List FVal}(h:cT fp G base w sb gf c t0 e a s0 b m)(g:b.length=n+1)(f:base<=w.heap.size)(d:Obj):Mid fp base sb gf n t0 s0 (aF sb gf a b) (w.alloc d) G m (w.alloc d):=
 ⟨Kept.refl _ _,aF_ f (by simp),c,e,a,b,g,h.grow ((ay_ _ _).alloc (au_ _) _) (fun _ h=>h) (fun _ h=>av_ h),fun _ h=>av_ h⟩
def Mid.same(h:Mid fp base sb gf n t0 s0 own w0 G m w)(c:aQ w w'):Mid fp base sb gf n t0 s0 own w0 G m w':=by
 obtain⟨i,g,d,l,a,b,k,j,f⟩:=h;exact⟨i.trans (Kept.of_below (own:=[]) c.below) (fun x e=>by simp at e),by rw[c.heap];exact g,d,l,a,b,k,j.grow c.below (fun _ h=>h) (fun _ h=>av_ h),f⟩
def Mid.grow(h:Mid fp base sb gf n t0 s0 own w0 G m w)(b:Below w.heap.size w w')(j:∀k,G k->G' k)(p:∀k,G' k->G k\/(w.heap.size<=k/\k<w'.heap.size)):Mid fp base sb gf n t0 s0 own w0 G' m w':=by
 obtain⟨g,i,d,q,a,c,o,l,f⟩:=h;exact⟨g.trans (Kept.of_below (own:=[]) b) (fun x e=>by simp at e),aF_ i b.size,d,q,a,c,o,l.grow b j p,f⟩
def Mid.old(h:Mid fp base sb gf n t0 s0 own w0 G m w){k:Nat}(a:k<w0.heap.size)(b:k∉own):w.heap[k]?=w0.heap[k]?:=h.1.block k a b
def Mid.done{F:Nat->Prop}{d:Obj}(h:Mid fp base sb gf n t0 s0 own (w.alloc d) G m w')(i:Ext F G w.heap.size):Done fp F base sb t0 s0 own w m w':=by
 obtain⟨g,p,c,o,a,b,q,j,f⟩:=h
 exact⟨(Kept.of_below (own:=own) ((ay_ _ w).alloc (au_ _) d)).trans g (fun x e=>av_ e),G,gf,c,o,a,b,i,j,fun k l=>by
  rcases f k l with h|h
  ·exact av_ h
  ·exact as_ (aF_ (by simp) h)⟩
def Mid.top(h:Mid fp base sb gf n t0 s0 own w0 G m w)(j:n<=15):Calls prog 158 #[.pointer (some ⟨sb,0,none⟩)] w fun e b=>e=.returned (.pointer (some ⟨gf,n*6,none⟩))/\aQ w b:=by
 obtain⟨k,l,a,p,c,d,i,g,o⟩:=h;have:=g.blk;rw[i] at this;refine(uF sb gf n a w (aA this rfl) (by omega)).mono ?_
 rintro e b ⟨f,q,rfl⟩;exact⟨f,aQ.drewN _ _⟩
def Mid.cells(h:Mid fp base sb gf n t0 s0 own w0 G ⟨below++[f],tape,out⟩ w):∃v:FVal,MI fp G base w v f/\gf<w.heap.size/\∀j x,v.cells[j]?=some x->w.cell? ⟨gf,n*6+j,none⟩=some x/\w.frozen? ⟨gf,n*6+j,none⟩=false:=by
 obtain⟨F,D,B,E,d,q,r,z,C⟩:=h;obtain⟨l,v,o,rfl,t,s,g,a,c,A,k,y,u,m,p⟩:=z.top;have b:l.length=n:=by simpa using r
 subst b;refine⟨v,s,aD a,fun j x e=>?_⟩
 have i:j<6:=(aZ_.1 e).1;refine⟨aA a ?_,aE a⟩;rw[<-e];match j,i with
 |0,_=>exact A
 |1,_=>exact k
 |2,_=>exact y
 |3,_=>exact u
 |4,_=>exact m
 |5,_=>exact p
def Mid.set(h:Mid fp base sb gf n t0 s0 own w0 G ⟨below++[f],tape,out⟩ w)(j:Nat)(x:Value)(p:j<6)(g:FVal->FVal)(B:∀v,(g v).cells=v.cells.set j x)(l:∀v,MI fp G base w v f->(g v).owns=v.owns)(e:∀v,MI fp G base w v f->MI fp G base w (g v) f'):
 Mid fp base sb gf n t0 s0 own w0 G ⟨below++[f'],tape,out⟩ (w.setCell ⟨gf,n*6+j,none⟩ x):=by
 obtain⟨A,q,i,y,a,t,u,o,k⟩:=h;obtain⟨b,v,r,rfl,z,d,_⟩:=o.top;have c:b.length=n:=by simpa using u
 subst c;obtain⟨s,m⟩:=o.setTop p (B v) (l v d) (e v d);refine⟨A.trans m k,aF_ q m.size,i,y,a,_,by simp,s,?_⟩
 rw[show aF sb gf a (b++[g v])=aF sb gf a (b++[v]) by simp[aF,aT,l v d]]
 exact k
def Mid.push(h:Mid fp base sb gf n t0 s0 own w0 G ⟨below++[f],tape,out⟩ w){t:TypeId}{z:Value}{a:aJ}(P:PV G w (.iface t z) a)(y:aK a<=200)(D:f.ops.length<=100000):Calls prog 371 #[.pointer (some ⟨gf,n*6,none⟩),.iface t z] w fun e B=>e=.returned (.tuple #[])/\Mid fp base sb gf n t0 s0 own w0 G ⟨below++[f.push a],tape,out⟩ B:=by
 obtain⟨I,E,A,U,b,Q,c,p,l⟩:=h;obtain⟨j,v,g,rfl,W,V,J,d,C,k0,Z,k2,k3,k4,N⟩:=p.top;have u:j.length=n:=by simpa using c
 subst u;obtain⟨⟨T,m,q⟩,r⟩:=V.ops
 have s:v.ov.ownBlock≠some gf:=fun e=>by
  have:=(aK_.1 (aK_.1 p.nodup).2).1;exact this (by simp[aT,FVal.owns,e])
 refine(wT base gf (j.length*6) f.ops.length g v.ov T t z w d N m s E (by omega)).mono ?_
 rintro e B ⟨X,i,K,S,F,M⟩;obtain⟨O,H⟩:=p.pushed (cur:=g) d q P y K S F M;refine⟨X,I.trans H l,aF_ E H.size,A,U,b,_,by simp,O,fun k o=>?_⟩
 have Y:aF sb gf b (j++[{ v with ov:=i }])=(sb::gf::(b.ownBlock.toList++aT j))++({ v with ov:=i }:FVal).owns:=by simp[aF,aT]
 have L:aF sb gf b (j++[v])=(sb::gf::(b.ownBlock.toList++aT j))++v.owns:=by simp[aF,aT]
 rw[Y] at o;rw[L] at l;rcases aE_.1 o with c|c
 ·exact l k (aP_ _ c)
 ·rcases aE_.1 c with c|c
  ·exact l k (aL_ _ (aP_ _ c))
  ·have p:i.ownBlock=some k:=by simpa using c
   rcases F k p with x|x
   ·exact l k (aL_ _ (by simp[FVal.owns,x]))
   ·exact as_ (aF_ I.size x)
def Mid.popK(h:Mid fp base sb gf n t0 s0 own w0 G ⟨below++[f],tape,out⟩ w){vs:List aJ}{a:aJ}(L:f.ops=vs++[a])(m:f.ops.length<=100000):Calls prog 171 #[.pointer (some ⟨gf,n*6,none⟩)] w fun e B=>∃t z,e=.returned (.iface t z)/\PV G B (.iface t z) a/\aK a<=200/\Mid fp base sb gf n t0 s0 own w0 G ⟨below++[f.pop],tape,out⟩ B/\∀k,G k->B.heap[k]?=w.heap[k]?:=by
 obtain⟨h1,S,H,Z,d,W,Y,F,J⟩:=h;obtain⟨r,v,D,rfl,aa,o,P,s,K,k0,k1,k2,k3,k4,U⟩:=F.top;have C:r.length=n:=by simpa using Y
 subst C;obtain⟨⟨xs,i,p⟩,c⟩:=o.ops;rw[L] at i p c m;obtain⟨A,u,rfl,Q,q,O⟩:=fT.unsnoc p;obtain⟨t,z,rfl⟩:=O.form;rw[aw_] at i m;refine(PR base gf (r.length*6) vs.length D v.ov A _ w s U i Q ⟨t,z,rfl⟩ (by omega)).mono ?_
 rintro e B ⟨rfl,l,rfl,X,M⟩;have g:f.pop.ops=vs:=by simp[aI.pop,L]
 have E:MI fp G base w { v with ov:=l } f.pop:=⟨o.fn,o.nx,o.ln,o.sp,o.vars,⟨A,by rw[g];exact X,by rw[g];exact q⟩,fun b I=>c b (aP_ _ (by rw[g] at I;exact I))⟩
 obtain⟨V,N⟩:=F.setTop (j:=5) (x:=l) (v':={ v with ov:=l }) (by omega) rfl (by simp[FVal.owns,M]) E
 have y:∀k,G k->(w.setCell ⟨gf,r.length*6+5,none⟩ l).heap[k]?=w.heap[k]?:=fun k T=>ax_ _ _ _ _ fun e=>(F.apart k T).2 (by simp[aF,e])
 refine⟨t,z,rfl,O.keep y,c a (by simp),⟨h1.trans N J,aF_ S N.size,H,Z,d,_,by simp,V,?_⟩,y⟩
 rw[show aF sb gf d (r++[{ v with ov:=l }])=aF sb gf d (r++[v]) by simp[aF,aT,FVal.owns,M]]
 exact J
def Mid.pop(h:Mid fp base sb gf n t0 s0 own w0 G ⟨below++[f],tape,out⟩ w){vs:List aJ}{a:aJ}(k:f.ops=vs++[a])(b:f.ops.length<=100000):Calls prog 171 #[.pointer (some ⟨gf,n*6,none⟩)] w fun e c=>∃t z,e=.returned (.iface t z)/\PV G c (.iface t z) a/\aK a<=200/\Mid fp base sb gf n t0 s0 own w0 G ⟨below++[f.pop],tape,out⟩ c:=by
 refine(h.popK k b).mono ?_;rintro e c ⟨t,z,d,g,j,i,_⟩;exact⟨t,z,d,g,j,i⟩
end
def v7(k:Nat)(e:Ending):Prop:=(k=0/\e=.returned (.tuple #[]))\/(k≠0/\e=fH k)
def gM{w W:World}(h:W.heap=w.heap){k:Nat}(a:k<w.heap.size):k<W.heap.size:=by rw[h];exact a
def qV{w W:World}(h:W.heap=w.heap){a:Addr}(b:w.frozen? a=false):W.frozen? a=false:=by
 have e:W.frozen? a=w.frozen? a:=by unfold World.frozen?;rw[h]
 rw[e];exact b
def QM(w b:World)(sb d f:Nat)(P:World->Prop)(g:w.alloc (.cells #[] 449)=b)
 (k:Hid (∀W,aQ b W->Calls prog 158 #[.pointer (some ⟨sb,0,none⟩)] W fun e a=>e=.returned (.pointer (some ⟨d,f,none⟩))/\aQ b a))
 (h:Hid (∀W,aQ b W->Calls prog 171 #[.pointer (some ⟨d,f,none⟩)] W fun e a=>∃t z,e=.returned (.iface t z)/\P a)):
 Calls prog 410 #[.agg #[],.pointer (some ⟨sb,0,none⟩)] w fun e a=>e=.returned (.tuple #[])/\P a:=by
 have j:=aB g;clear g;go_enter Tryz.func410,Tryz.ntmps410;go_wp2_with fail;rw[j.out];refine(k.out _ (aQ.refl _)).mono ?_;rintro e m ⟨rfl,c⟩;go_wp2_with fail;refine(h.out _ c).mono ?_;rintro e l ⟨t,z,rfl,i⟩;go_wp2_with fail;go_end0;exact⟨rfl,i⟩
def JK(w d:World)(sb g h:Nat)(P S:World->Prop)(j:TypeId->Value->World->Prop)(l:Bool->World->Prop)(m:w.alloc (.cells #[] 436)=d)
 (q:Hid (∀W,aQ d W->Calls prog 158 #[.pointer (some ⟨sb,0,none⟩)] W fun e a=>e=.returned (.pointer (some ⟨g,h,none⟩))/\aQ d a))
 (n:Hid (∀W,aQ d W->Calls prog 171 #[.pointer (some ⟨g,h,none⟩)] W fun e a=>∃t z,e=.returned (.iface t z)/\j t z a))
 (r:Hid (∀W t z,j t z W->Calls prog 385 #[.iface t z] W fun e a=>(∃b,e=.returned (.bool b)/\l b a)\/(e=fH 2/\S a)))
 (p:Hid (∀W b,l b W->Calls prog 371 #[.pointer (some ⟨g,h,none⟩),.iface 316 (.bool b)] W fun e a=>e=.returned (.tuple #[])/\P a)):
 Calls prog 396 #[.agg #[],.pointer (some ⟨sb,0,none⟩)] w fun e a=>(e=.returned (.tuple #[])/\P a)\/(e=fH 2/\S a):=by
 have o:=aB m;clear m;go_enter Tryz.func396,Tryz.ntmps396;go_wp2_with fail;rw[o.out];refine(q.out _ (aQ.refl _)).mono ?_;rintro e x ⟨rfl,f⟩;go_wp2_with fail;refine(n.out _ f).mono ?_;rintro e v ⟨t,z,rfl,k⟩;have c:=aB (r.out _ t z k);clear k;go_wp2_with fail;refine c.out.mono ?_;rintro e u (⟨b,rfl,c⟩|⟨rfl,c⟩)
 ·have i:=aB (p.out _ b c);clear c;go_wp2_with fail;refine i.out.mono ?_;rintro e s ⟨rfl,i⟩;go_wp2_with fail;go_end0;exact av_ ⟨rfl,i⟩
 ·go_wp2_with fail;exact⟨rfl,as_ ⟨rfl,c⟩⟩
def EH(w g:World)(sb d f h:Nat)(P S:World->Prop)(l:TypeId->Value->World->Prop)(i:Bool->World->Prop)(n:w.alloc (.cells #[.int .i64 h] 461)=g)
 (s:Hid (∀W,aQ g W->Calls prog 158 #[.pointer (some ⟨sb,0,none⟩)] W fun e a=>e=.returned (.pointer (some ⟨d,f,none⟩))/\aQ g a))
 (o:Hid (∀W,aQ g W->Calls prog 171 #[.pointer (some ⟨d,f,none⟩)] W fun e a=>∃t z,e=.returned (.iface t z)/\l t z a))
 (v:Hid (∀W t z,l t z W->Calls prog 385 #[.iface t z] W fun e a=>(∃b,e=.returned (.bool b)/\i b a)\/(e=fH 2/\S a)))
 (r:Hid (∀W,i true W->P W)) (p:Hid (∀W,i false W->P (W.setCell ⟨d,f+1,none⟩ (.int .i64 h))))
 (x:Hid (∀W b,i b W->W.cell? ⟨w.heap.size,0,none⟩=some (.int .i64 h)/\w.heap.size<W.heap.size/\(∃u,W.cell? ⟨d,f+1,none⟩=some u)/\W.frozen? ⟨d,f+1,none⟩=false/\d<W.heap.size)):
 Calls prog 411 #[.agg #[.int .i64 h],.pointer (some ⟨sb,0,none⟩)] w fun e a=>(e=.returned (.tuple #[])/\P a)\/(e=fH 2/\S a):=by
 have q:=aB n;clear n;go_enter Tryz.func411,Tryz.ntmps411;go_wp2_with fail;rw[q.out];refine(s.out _ (aQ.refl _)).mono ?_;rintro e E ⟨rfl,j⟩;go_wp2_with fail;refine(o.out _ j).mono ?_;rintro e C ⟨t,z,rfl,m⟩;have c:=aB (v.out _ t z m);clear m;go_wp2_with fail;refine c.out.mono ?_;rintro e A (⟨b,rfl,c⟩|⟨rfl,c⟩)
 ·obtain⟨y,F,⟨u,G⟩,B,D⟩:=x.out _ b c;cases b with
  |false=>
   have k:=aB (p.out _ c);clear c;go_wp2_with fail;go_end0;exact av_ ⟨rfl,k.out⟩
  |true=>
   have k:=aB (r.out _ c);clear c;go_wp2_with fail;go_end0;exact av_ ⟨rfl,k.out⟩
 ·go_wp2_with fail;exact⟨rfl,as_ ⟨rfl,c⟩⟩
def PF(w c:World)(sb f h d:Nat)(P:World->Prop)(k:w.alloc (.cells #[.int .i64 d] 462)=c)
 (v:Hid (∀W,aQ c W->Calls prog 158 #[.pointer (some ⟨sb,0,none⟩)] W fun e i=>e=.returned (.pointer (some ⟨f,h,none⟩))/\aQ c i))
 (g:∃u,c.cell? ⟨f,h+1,none⟩=some u) (m:c.frozen? ⟨f,h+1,none⟩=false) (o:f<c.heap.size)
 (q:Hid (∀W,aQ c W->P (W.setCell ⟨f,h+1,none⟩ (.int .i64 d)))):
 Calls prog 412 #[.agg #[.int .i64 d],.pointer (some ⟨sb,0,none⟩)] w fun e i=>e=.returned (.tuple #[])/\P i:=by
 have a:(w.alloc (.cells #[.int .i64 d] 462)).heap[w.heap.size]?=some (.cells #[.int .i64 d] 462 (0,0)):=aM _ _ rfl _;rw[k] at a;have r:=aB k;have s:c.cell? ⟨w.heap.size,0,none⟩=some (.int .i64 d):=aA a rfl;have j:=aB s;have l:=aD a;obtain⟨u,g⟩:=g;have p:=aB g;have n:=aB m;clear k a g m;go_enter Tryz.func412,Tryz.ntmps412;go_wp2_with fail;rw[r.out];go_region_law (go_simp;go_at_call 158;refine(v.out _ (aQ.drew _)).mono ?_;rintro e z ⟨rfl,b⟩;have y:=bB b.heap j.out;have A:=bB b.heap p.out;have B:=qV b.heap n.out;have t:=gM b.heap l;have x:=gM b.heap o)
 all_goals
  go_wp2_with fail;go_end0;exact⟨rfl,q.out _ b⟩
def zK(w i:World)(sb f h k:Nat)(g:Bool)(P S:World->Prop)(q:TypeId->Value->World->Prop)(l p:Bool->World->Prop)(v:w.alloc (.cells #[.bool g,.int .i64 k] 438)=i)
 (J:Hid (∀W,aQ i W->Calls prog 158 #[.pointer (some ⟨sb,0,none⟩)] W fun e c=>e=.returned (.pointer (some ⟨f,h,none⟩))/\aQ i c))
 (A:Hid (∀W,aQ i W->Calls prog 171 #[.pointer (some ⟨f,h,none⟩)] W fun e c=>∃t z,e=.returned (.iface t z)/\q t z c))
 (K:Hid (∀W t z,q t z W->Calls prog 385 #[.iface t z] W fun e c=>(∃b,e=.returned (.bool b)/\l b c)\/(e=fH 2/\S c)))
 (H:Hid (∀W b,l b W->Calls prog 371 #[.pointer (some ⟨f,h,none⟩),.iface 316 (.bool b)] W fun e c=>e=.returned (.tuple #[])/\p b c))
 (F:Hid (∀W b,l b W->b≠g->P W)) (s:Hid (∀W b,p b W->b=g->P (W.setCell ⟨f,h+1,none⟩ (.int .i64 k))))
 (o:Hid (∀W b,l b W->W.cell? ⟨w.heap.size,0,none⟩=some (.bool g)/\w.heap.size<W.heap.size))
 (x:Hid (∀W b,p b W->W.cell? ⟨w.heap.size,1,none⟩=some (.int .i64 k)/\w.heap.size<W.heap.size/\(∃u,W.cell? ⟨f,h+1,none⟩=some u)/\W.frozen? ⟨f,h+1,none⟩=false/\f<W.heap.size)):
 Calls prog 397 #[.agg #[.bool g,.int .i64 k],.pointer (some ⟨sb,0,none⟩)] w fun e c=>(e=.returned (.tuple #[])/\P c)\/(e=fH 2/\S c):=by
 have D:=aB v;clear v;go_enter Tryz.func397,Tryz.ntmps397;go_wp2_with fail;rw[D.out];refine(J.out _ (aQ.refl _)).mono ?_;rintro e O ⟨rfl,n⟩;go_wp2_with fail;refine(A.out _ n).mono ?_;rintro e N ⟨t,z,rfl,r⟩;have d:=aB (K.out _ t z r);clear r;go_wp2_with fail;refine d.out.mono ?_;rintro e M (⟨b,rfl,d⟩|⟨rfl,d⟩)
 ·obtain⟨L,Q⟩:=o.out _ b d;by_cases j:b=g
  ·subst j;have a:=aB (H.out _ b d);clear d;cases b with
   |true=>
    go_wp2_with fail;refine a.out.mono ?_;rintro e y ⟨rfl,a⟩;obtain⟨I,E,⟨u,B⟩,G,C⟩:=x.out _ _ a;have m:=aB (s.out _ _ a rfl);clear a;go_wp2_with fail;go_end0;exact av_ ⟨rfl,m.out⟩
   |false=>
    go_wp2_with fail;refine a.out.mono ?_;rintro e y ⟨rfl,a⟩;obtain⟨I,E,⟨u,B⟩,G,C⟩:=x.out _ _ a;have m:=aB (s.out _ _ a rfl);clear a;go_wp2_with fail;go_end0;exact av_ ⟨rfl,m.out⟩
  ·have a:=aB (F.out _ b d j);clear d;cases b<;>cases g<;>first|exact absurd rfl j|(clear j;go_wp2_with fail;go_end0;exact av_ ⟨rfl,a.out⟩)
 ·go_wp2_with fail;exact⟨rfl,as_ ⟨rfl,d⟩⟩
def GI(w d:World)(sb g h:Nat)(op:List UInt8)(k:Nat)(P S:World->Prop)(p:TypeId->Value->World->Prop)(m:TypeId->Value->TypeId->Value->World->Prop)(s:TypeId->Value->World->Prop)(r:w.alloc (.cells #[.string (bs op)] 435)=d)
 (D:Hid (∀W,aQ d W->Calls prog 158 #[.pointer (some ⟨sb,0,none⟩)] W fun e a=>e=.returned (.pointer (some ⟨g,h,none⟩))/\aQ d a))
 (v:Hid (∀W,aQ d W->Calls prog 171 #[.pointer (some ⟨g,h,none⟩)] W fun e a=>∃t z,e=.returned (.iface t z)/\p t z a))
 (n:Hid (∀W t z,p t z W->Calls prog 171 #[.pointer (some ⟨g,h,none⟩)] W fun e a=>∃c b,e=.returned (.iface c b)/\m t z c b a))
 (F:Hid (∀W t z c b,m t z c b W->W.cell? ⟨w.heap.size,0,none⟩=some (.string (bs op))/\w.heap.size<W.heap.size))
 (E:Hid (∀W t z c b,m t z c b W->Calls prog 388 #[.string (bs op),.iface c b,.iface t z] W fun e a=>(∃i l,e=.returned (.iface i l)/\s i l a)\/(e=fH k/\S a)))
 (B:Hid (∀W t z,s t z W->Calls prog 371 #[.pointer (some ⟨g,h,none⟩),.iface t z] W fun e a=>e=.returned (.tuple #[])/\P a)):
 Calls prog 387 #[.agg #[.string (bs op)],.pointer (some ⟨sb,0,none⟩)] w fun e a=>(e=.returned (.tuple #[])/\P a)\/(e=fH k/\S a):=by
 have A:=aB r;clear r;go_enter Tryz.func387,Tryz.ntmps387;go_wp2_with fail;rw[A.out];refine(D.out _ (aQ.refl _)).mono ?_;rintro e L ⟨rfl,j⟩;go_wp2_with fail;refine(v.out _ j).mono ?_;rintro e K ⟨t,z,rfl,q⟩;have C:=aB (n.out _ t z q);clear q;go_wp2_with fail;refine C.out.mono ?_;rintro e J ⟨c,b,rfl,o⟩;obtain⟨H,M⟩:=F.out _ _ _ _ _ o;have u:=aB (E.out _ _ _ _ _ o);clear o;go_wp2_with fail;refine u.out.mono ?_;rintro e G (⟨i,l,rfl,f⟩|⟨rfl,f⟩)
 ·have x:=aB (B.out _ _ _ f);clear f;go_wp2_with fail;refine x.out.mono ?_;rintro e I ⟨rfl,y⟩;go_wp2_with fail;go_end0;exact av_ ⟨rfl,y⟩
 ·go_wp2_with fail;exact⟨rfl,as_ ⟨rfl,f⟩⟩
def LD(w d:World)(sb g h:Nat)(k:Nat)(P S:World->Prop)(n:TypeId->Value->World->Prop)(p:TypeId->Value->TypeId->Value->World->Prop)(r:TypeId->Value->World->Prop)(q:w.alloc (.cells #[] 405)=d)
 (D:Hid (∀W,aQ d W->Calls prog 158 #[.pointer (some ⟨sb,0,none⟩)] W fun e a=>e=.returned (.pointer (some ⟨g,h,none⟩))/\aQ d a))
 (v:Hid (∀W,aQ d W->Calls prog 171 #[.pointer (some ⟨g,h,none⟩)] W fun e a=>∃t z,e=.returned (.iface t z)/\n t z a))
 (m:Hid (∀W t z,n t z W->Calls prog 171 #[.pointer (some ⟨g,h,none⟩)] W fun e a=>∃c b,e=.returned (.iface c b)/\p t z c b a))
 (E:Hid (∀W t z c b,p t z c b W->Calls prog 381 #[.iface c b,.iface t z] W fun e a=>(∃i l,e=.returned (.iface i l)/\r i l a)\/(e=fH k/\S a)))
 (B:Hid (∀W t z,r t z W->Calls prog 371 #[.pointer (some ⟨g,h,none⟩),.iface t z] W fun e a=>e=.returned (.tuple #[])/\P a)):
 Calls prog 380 #[.agg #[],.pointer (some ⟨sb,0,none⟩)] w fun e a=>(e=.returned (.tuple #[])/\P a)\/(e=fH k/\S a):=by
 have A:=aB q;clear q;go_enter Tryz.func380,Tryz.ntmps380;go_wp2_with fail;rw[A.out];refine(D.out _ (aQ.refl _)).mono ?_;rintro e J ⟨rfl,j⟩;go_wp2_with fail;refine(v.out _ j).mono ?_;rintro e I ⟨t,z,rfl,o⟩;have C:=aB (m.out _ t z o);clear o;go_wp2_with fail;refine C.out.mono ?_;rintro e H ⟨c,b,rfl,s⟩;have u:=aB (E.out _ _ _ _ _ s);clear s;go_wp2_with fail;refine u.out.mono ?_;rintro e F (⟨i,l,rfl,f⟩|⟨rfl,f⟩)
 ·have x:=aB (B.out _ _ _ f);clear f;go_wp2_with fail;refine x.out.mono ?_;rintro e G ⟨rfl,y⟩;go_wp2_with fail;go_end0;exact av_ ⟨rfl,y⟩
 ·go_wp2_with fail;exact⟨rfl,as_ ⟨rfl,f⟩⟩
def FI(w b:World)(sb h i:Nat)(k:Nat)(P S:World->Prop)(j n:TypeId->Value->World->Prop)(m:w.alloc (.cells #[] 439)=b)
 (v:Hid (∀W,aQ b W->Calls prog 158 #[.pointer (some ⟨sb,0,none⟩)] W fun e a=>e=.returned (.pointer (some ⟨h,i,none⟩))/\aQ b a))
 (p:Hid (∀W,aQ b W->Calls prog 171 #[.pointer (some ⟨h,i,none⟩)] W fun e a=>∃t z,e=.returned (.iface t z)/\j t z a))
 (x:Hid (∀W t z,j t z W->Calls prog 399 #[.iface t z] W fun e a=>(∃d g,e=.returned (.iface d g)/\n d g a)\/(e=fH k/\S a)))
 (u:Hid (∀W t z,n t z W->Calls prog 371 #[.pointer (some ⟨h,i,none⟩),.iface t z] W fun e a=>e=.returned (.tuple #[])/\P a)):
 Calls prog 398 #[.agg #[],.pointer (some ⟨sb,0,none⟩)] w fun e a=>(e=.returned (.tuple #[])/\P a)\/(e=fH k/\S a):=by
 have s:=aB m;clear m;go_enter Tryz.func398,Tryz.ntmps398;go_wp2_with fail;rw[s.out];refine(v.out _ (aQ.refl _)).mono ?_;rintro e C ⟨rfl,f⟩;go_wp2_with fail;refine(p.out _ f).mono ?_;rintro e B ⟨t,z,rfl,l⟩;have o:=aB (x.out _ t z l);clear l;go_wp2_with fail;refine o.out.mono ?_;rintro e y (⟨d,g,rfl,c⟩|⟨rfl,c⟩)
 ·have q:=aB (u.out _ _ _ c);clear c;go_wp2_with fail;refine q.out.mono ?_;rintro e A ⟨rfl,r⟩;go_wp2_with fail;go_end0;exact av_ ⟨rfl,r⟩
 ·go_wp2_with fail;exact⟨rfl,as_ ⟨rfl,c⟩⟩
def OY(w g:World)(sb n o c:Nat)(k:Nat)(P S:World->Prop)(r:Option Addr->Nat->World->Prop)(u:TypeId->Value->World->Prop)(p:w.alloc (.cells #[.int .i64 c] 404)=g)
 (F:Hid (∀W,aQ g W->Calls prog 158 #[.pointer (some ⟨sb,0,none⟩)] W fun e b=>e=.returned (.pointer (some ⟨n,o,none⟩))/\aQ g b))
 (y:Hid (∀W,aQ g W->Calls prog 377 #[.pointer (some ⟨n,o,none⟩),.int .i64 c] W fun e b=>∃x d,e=.returned (.slice x c d)/\r x d b))
 (G:Hid (∀W x d,r x d W->Calls prog 376 #[.slice x c d] W fun e b=>(∃j m,e=.returned (.iface j m)/\u j m b)\/(e=fH k/\S b)))
 (D:Hid (∀W t z,u t z W->Calls prog 371 #[.pointer (some ⟨n,o,none⟩),.iface t z] W fun e b=>e=.returned (.tuple #[])/\P b)):
 Calls prog 375 #[.agg #[.int .i64 c],.pointer (some ⟨sb,0,none⟩)] w fun e b=>(e=.returned (.tuple #[])/\P b)\/(e=fH k/\S b):=by
 have a:(w.alloc (.cells #[.int .i64 c] 404)).heap[w.heap.size]?=some (.cells #[.int .i64 c] 404 (0,0)):=aM _ _ rfl _;rw[p] at a;have C:=aB p;have l:=aB (aA (i:=0) a rfl);have q:=aD a;clear p a;go_enter Tryz.func375,Tryz.ntmps375;go_wp2_with fail;rw[C.out];refine(F.out _ (aQ.refl _)).mono ?_;rintro e L ⟨rfl,f⟩;have I:=bB f.heap l.out;have E:=gM f.heap q;go_wp2_with fail;refine(y.out _ f).mono ?_;rintro e K ⟨x,d,rfl,s⟩;have v:=aB (G.out _ x d s);clear s;go_wp2_with fail;refine v.out.mono ?_;rintro e H (⟨j,m,rfl,h⟩|⟨rfl,h⟩)
 ·have A:=aB (D.out _ _ _ h);clear h;go_wp2_with fail;refine A.out.mono ?_;rintro e J ⟨rfl,B⟩;go_wp2_with fail;go_end0;exact av_ ⟨rfl,B⟩
 ·go_wp2_with fail;exact⟨rfl,as_ ⟨rfl,h⟩⟩
def WH{P:Program}{b:Array Oper}{o:Oper}{a:Act}{w:World}{K:Act->World->Prop}{Q:Exit->Act->World->Prop}{E:Prop}(c:Value)
 (h:if Region.wanted o (yielded b a.tmps)=true then Oper.wp P o a w K Q else E) (_d:Hid False->K (a.put o.dst c) w):
 if Region.wanted o (yielded b a.tmps)=true then Oper.wp P o a w K Q else E:=h
def RY(w f:World)(sb l m:Nat)(op:List UInt8)(P:World->Prop)(g q:TypeId->Value->World->Prop)(n:w.alloc (.cells #[.string (bs op)] 407)=f)
 (y:Hid (∀W,aQ f W->Calls prog 158 #[.pointer (some ⟨sb,0,none⟩)] W fun e b=>e=.returned (.pointer (some ⟨l,m,none⟩))/\aQ f b))
 (r:Hid (∀W,aQ f W->Calls prog 171 #[.pointer (some ⟨l,m,none⟩)] W fun e b=>∃t z,e=.returned (.iface t z)/\g t z b))
 (C:Hid (∀W t z,g t z W->W.cell? ⟨w.heap.size,0,none⟩=some (.string (bs op))/\w.heap.size<W.heap.size))
 (A:Hid (∀W t z,g t z W->Calls prog 384 #[.string (bs op),.iface t z] W fun e b=>∃h k,e=.returned (.iface h k)/\q h k b))
 (u:Hid (∀W t z,q t z W->Calls prog 371 #[.pointer (some ⟨l,m,none⟩),.iface t z] W fun e b=>e=.returned (.tuple #[])/\P b)):
 Calls prog 383 #[.agg #[.string (bs op)],.pointer (some ⟨sb,0,none⟩)] w fun e b=>e=.returned (.tuple #[])/\P b:=by
 have a:(w.alloc (.cells #[.string (bs op)] 407)).heap[w.heap.size]?=some (.cells #[.string (bs op)] 407 (0,0)):=aM _ _ rfl _;rw[n] at a;have s:=aB n;have j:=aB (aA (i:=0) a rfl);have o:=aD a;clear n a;go_enter Tryz.func383,Tryz.ntmps383;go_wp2_with fail;rw[s.out];refine(y.out _ (aQ.refl _)).mono ?_;rintro e J ⟨rfl,c⟩;have E:=bB c.heap j.out;have x:=gM c.heap o;go_wp2_with fail;go_region_law (go_simp;first|(go_at_call 171;refine(r.out _ (c.trans (aQ.drew _))).mono ?_;rintro e H ⟨t,z,rfl,p⟩;have d:=C.out _ _ _ p;have F:=d.1;have I:=d.2;clear d)|(go_at_call 384;refine(A.out _ _ _ p).mono ?_;rintro e G ⟨h,k,rfl,v⟩)|(go_at_call 371;refine(u.out _ _ _ v).mono ?_;rintro e D ⟨rfl,B⟩))
 all_goals
  go_wp2_with fail;go_end0;exact⟨rfl,B⟩
def JI(w h:World)(sb p q:Nat)(op:List UInt8)(k:Nat)(S:World->Prop)(j:TypeId->Value->World->Prop)(m:w.alloc (.cells #[.string (bs op)] 407)=h)
 (x:Hid (∀W,aQ h W->Calls prog 158 #[.pointer (some ⟨sb,0,none⟩)] W fun e c=>e=.returned (.pointer (some ⟨p,q,none⟩))/\aQ h c))
 (r:Hid (∀W,aQ h W->Calls prog 171 #[.pointer (some ⟨p,q,none⟩)] W fun e c=>∃t z,e=.returned (.iface t z)/\j t z c))
 (A:Hid (∀W t z,j t z W->W.cell? ⟨w.heap.size,0,none⟩=some (.string (bs op))/\w.heap.size<W.heap.size))
 (y:Hid (∀W t z,j t z W->Calls prog 384 #[.string (bs op),.iface t z] W fun e c=>e=fH k/\S c)):
 Calls prog 383 #[.agg #[.string (bs op)],.pointer (some ⟨sb,0,none⟩)] w fun e c=>e=fH k/\S c:=by
 have b:(w.alloc (.cells #[.string (bs op)] 407)).heap[w.heap.size]?=some (.cells #[.string (bs op)] 407 (0,0)):=aM _ _ rfl _;rw[m] at b;have s:=aB m;have l:=aB (aA (i:=0) b rfl);have n:=aD b;clear m b;go_enter Tryz.func383,Tryz.ntmps383;go_wp2_with fail;rw[s.out];refine(x.out _ (aQ.refl _)).mono ?_;rintro e G ⟨rfl,d⟩;have B:=bB d.heap l.out;have v:=gM d.heap n;go_wp2_with fail;go_region_law (first|(go_simp;go_at_call 171;refine(r.out _ (d.trans (aQ.drew _))).mono ?_;rintro e E ⟨t,z,rfl,o⟩;have f:=A.out _ _ _ o;have C:=f.1;have F:=f.2;clear f)|(refine WH (.iface 316 (.bool true)) ?_ ?_;(focus go_simp;go_at_call 384;refine(y.out _ _ _ o).mono ?_;rintro e D ⟨rfl,u⟩;exact⟨rfl,rfl,u⟩);intro a)|(refine WH (.tuple #[]) a.out.elim ?_;intro g))
 all_goals exact a.out.elim
def OX(w d:World)(sb k l c g n q:Nat)(t:TypeId)(z:Value)(P:World->Prop)(m:w.alloc (.cells #[.int .i64 c] 402)=d)
 (A:Hid (∀W,aQ d W->Calls prog 158 #[.pointer (some ⟨sb,0,none⟩)] W fun e f=>e=.returned (.pointer (some ⟨k,l,none⟩))/\aQ d f))
 (r:d.cell? ⟨k,l+4,none⟩=some (.slice (some ⟨g,0,none⟩) n q)) (s:d.cell? ⟨g,c,none⟩=some (.iface t z)) (u:c<n)
 (x:Hid (∀W,aQ d W->Calls prog 371 #[.pointer (some ⟨k,l,none⟩),.iface t z] W fun e f=>e=.returned (.tuple #[])/\P f)):
 Calls prog 374 #[.agg #[.int .i64 c],.pointer (some ⟨sb,0,none⟩)] w fun e f=>e=.returned (.tuple #[])/\P f:=by
 have a:(w.alloc (.cells #[.int .i64 c] 402)).heap[w.heap.size]?=some (.cells #[.int .i64 c] 402 (0,0)):=aM _ _ rfl _;rw[m] at a;have v:=aB m;have h:=aB (aA (i:=0) a rfl);have o:=aD a;have j:=aB r;have p:=aB s;have I:(0:Int)<=(c:Int):=by omega
 have F:(c:Int)<(n:Int):=by omega
 clear m a r s;go_enter Tryz.func374,Tryz.ntmps374;go_wp2_with fail;rw[v.out];have G:=h.out;go_region_law (go_simp;first|(go_at_call 158;refine(A.out _ (by first|assumption|exact aQ.drew _)).mono ?_;rintro e H ⟨rfl,b⟩;have E:=bB b.heap h.out;have y:=gM b.heap o;have J:=bB b.heap j.out;have C:=bB b.heap p.out)|(go_at_call 371;refine(x.out _ b).mono ?_;rintro e D ⟨rfl,B⟩))
 all_goals
  go_wp2_with fail;go_end0;exact⟨rfl,B⟩
def ME(w c:World)(sb g h o:Nat)(m:Option Addr)(P:World->Prop)(r:w.alloc (.cells #[.int .i64 o,.pointer m] 365)=c)
 (C:Hid (∀W,aQ c W->Calls prog 158 #[.pointer (some ⟨sb,0,none⟩)] W fun e p=>e=.returned (.pointer (some ⟨g,h,none⟩))/\aQ c p))
 (d:∃u,c.cell? ⟨g,h+2,none⟩=some u) (f:∃u,c.cell? ⟨g,h+3,none⟩=some u) (n:c.frozen? ⟨g,h+2,none⟩=false) (l:c.frozen? ⟨g,h+3,none⟩=false) (y:g<c.heap.size)
 (z:Hid (∀W,aQ c W->P ((W.setCell ⟨g,h+2,none⟩ (.int .i64 o)).setCell ⟨g,h+3,none⟩ (.pointer m)))):
 Calls prog 373 #[.agg #[.int .i64 o,.pointer m],.pointer (some ⟨sb,0,none⟩)] w fun e p=>e=.returned (.tuple #[])/\P p:=by
 have b:(w.alloc (.cells #[.int .i64 o,.pointer m] 365)).heap[w.heap.size]?=some (.cells #[.int .i64 o,.pointer m] 365 (0,0)):=aM _ _ rfl _;rw[r] at b;have A:=aB r;have j:=aB (aA (i:=0) b rfl);have k:=aB (aA (i:=1) b rfl);have s:=aD b;obtain⟨u2,d⟩:=d;obtain⟨u3,f⟩:=f;have x:=aB d;have t:=aB f;have v:=aB n;have q:=aB l;have K:=j.out;have E:=k.out;clear r b d f n l;go_enter Tryz.func373,Tryz.ntmps373;go_wp2_with fail;rw[A.out];go_region_law (go_simp;go_at_call 158;refine(C.out _ (aQ.drew _)).mono ?_;rintro e M ⟨rfl,a⟩;have F:=bB a.heap j.out;have L:=bB a.heap k.out;have I:=bB a.heap x.out;have G:=bB a.heap t.out;have J:=qV a.heap v.out;have H:=qV a.heap q.out;have B:=gM a.heap s;have D:=gM a.heap y)
 all_goals
  go_wp2_with fail;go_end0;exact⟨rfl,z.out _ a⟩
def kA(n:Int):aK (bC n)=1:=by rw[eR];rfl
def lM(b:Bool):aK (bO b)=1:=by rw[eR];rfl
def jE:aK bN<=200:=by rw[eR];decide
def ZC(op:List UInt8)(a:aJ):aK (fF op a).1<=200:=by
 unfold fF;repeat' split
 all_goals first|(show aK (bC _)<=200;rw[kA];omega)|(show aK (bO _)<=200;rw[lM];omega)|exact jE
def UO(op:List UInt8)(x y:Int):aK (jA op x y).1<=200:=by
 unfold jA;repeat' split
 all_goals first|(show aK (bC _)<=200;rw[kA];omega)|(show aK (bO _)<=200;rw[lM];omega)|exact jE
def LA(a b:aJ):aK (iZ a b).1<=200:=by
 unfold iZ;dsimp only;by_cases h:200<aK (if a.sort=3 then aW (a.l++b.l) else bK (a.s++b.s))
 ·rw[if_pos h];exact jE
 ·rw[if_neg h];exact Nat.le_of_not_lt h
def XS(op:List UInt8)(a b:aJ):aK (eL op a b).1<=200:=by
 unfold eL;repeat' split
 all_goals first|exact UO _ _ _|exact LA _ _|(show aK (bO _)<=200;rw[lM];omega)|exact jE
def PA(r:aJ × Nat)(h:(gY r).2=0):aK (gY r).1<=200:=by
 unfold gY at h ⊢
 by_cases a:r.2=0
 ·rw[if_pos a] at h ⊢
  by_cases b:200<aK r.1
  ·rw[if_pos b] at h;cases h
  ·rw[if_neg b];omega
 ·rw[if_neg a] at h;exact absurd h a
def PV.bool{F:Nat->Prop}{w:World}{v:Value}{a:aJ}(h:PV F w v a)(d:a.sort=1):a=bO (decide (a.n=1)):=by
 rcases h.cases with ⟨n,_,rfl,_⟩|⟨b,_,rfl⟩|⟨s,_,rfl⟩|⟨x,c,l,_,rfl,_⟩
 ·simp[bC] at d
 ·cases b<;>rfl
 ·simp[bK] at d
 ·simp[aW] at d
def iS{f:aI}{vs:List aJ}{a:aJ}(h:f.ops=vs++[a]):f.last=a:=by simp[aI.last,h]
def mF{f:aI}{vs:List aJ}{a:aJ}(h:f.ops=vs++[a]):f.pop.ops=vs:=by simp[aI.pop,h]
def nY(fp:Nat->Value)(F:Nat->Prop)(base sb:Nat)(t0 s0:Value)(own:List Nat)(w:World)(below:List aI)(tape:List Int)(out:List (List UInt8))(r:aI × Nat)(e:Ending)(w':World):Prop:=
 v7 r.2 e/\Done fp F base sb t0 s0 own w ⟨below++[r.1],tape,out⟩ w'
section
variable {fp:Nat->Value} {F:Nat->Prop} {base:Nat} {w:World} {sb gf cap:Nat} {t0 tv outv s0:Value} {fvs:List FVal} {below:List aI} {f:aI} {tape:List Int} {out:List (List UInt8)}
def nY.ok{own:List Nat}{r:aI × Nat}{g:aI}{w':World}(a:r=(g,0))(h:Done fp F base sb t0 s0 own w ⟨below++[g],tape,out⟩ w'):nY fp F base sb t0 s0 own w below tape out r (.returned (.tuple #[])) w':=by
 subst a;exact⟨av_ ⟨rfl,rfl⟩,h⟩
def nY.stop{own:List Nat}{r:aI × Nat}{g:aI}{k:Nat}{w':World}(a:r=(g,k))(b:k≠0)(h:Done fp F base sb t0 s0 own w ⟨below++[g],tape,out⟩ w'):nY fp F base sb t0 s0 own w below tape out r (fH k) w':=by
 subst a;exact⟨as_ ⟨b,rfl⟩,h⟩
def cT.count{m:cF}(h:cT fp F base w sb gf cap t0 tv outv s0 fvs m):fvs.length=m.frames.length:=h.frs.length
def cT.mid(h:cT fp F base w sb gf cap t0 tv outv s0 fvs ⟨below++[f],tape,out⟩)(b:base<=w.heap.size)(a:Obj):Mid fp base sb gf below.length t0 s0 (aF sb gf outv fvs) (w.alloc a) F ⟨below++[f],tape,out⟩ (w.alloc a):=
 Mid.init h (by rw[h.count];simp) b a
def Mid.topS{own:List Nat}{a:World}{G:Nat->Prop}{n:Nat}{m:cF}(h:Mid fp base sb gf n t0 s0 own a G m a)(d:n<=15):Hid (∀W,aQ a W->Calls prog 158 #[.pointer (some ⟨sb,0,none⟩)] W fun e b=>e=.returned (.pointer (some ⟨gf,n*6,none⟩))/\aQ a b):=fun W c=>by
 refine((h.same c).top d).mono ?_;rintro e b ⟨f,g⟩;exact⟨f,c.trans g⟩
def Mid.box{n:Nat}{G:Nat->Prop}{m:cF}{cs:Array Value}{a:TypeId}{W:World}(h:cT fp F base w sb gf cap t0 tv outv s0 fvs ⟨below++[f],tape,out⟩)(c:Mid fp base sb gf n t0 s0 (aF sb gf outv fvs) (w.alloc (.cells cs a)) G m W):W.heap[w.heap.size]?=some (.cells cs a (0,0)):=by
 rw[c.old (by simp) (fun b=>Nat.lt_irrefl _ (h.lt _ b))]
 exact aM _ _ rfl _
def Z3(h:cT fp F base w sb gf cap t0 tv outv s0 fvs ⟨below++[f],tape,out⟩)(c:below.length<=15)(b:base<=w.heap.size)(j:f.ops.length<=99000)(i:∃k a,f.ops=k++[a]):
 Calls prog 410 #[.agg #[],.pointer (some ⟨sb,0,none⟩)] w (nY fp F base sb t0 s0 (aF sb gf outv fvs) w below tape out (aL .drop f)):=by
 obtain⟨k,a,n⟩:=i;have l:=h.mid b (.cells #[] 449);refine(QM w _ sb gf (below.length*6) (fun d=>Done fp F base sb t0 s0 (aF sb gf outv fvs) w ⟨below++[f.pop],tape,out⟩ d) rfl (l.topS c) fun W o=>?_).mono ?_
 ·refine((l.same o).pop n (by omega)).mono ?_
  rintro e d ⟨t,z,m,_,_,g⟩;exact⟨t,z,m,g.done (Ext.refl _ _)⟩
 ·rintro e d ⟨rfl,g⟩;exact nY.ok rfl g
def H7(h:cT fp F base w sb gf cap t0 tv outv s0 fvs ⟨below++[f],tape,out⟩)(l:below.length<=15)(g:base<=w.heap.size)(k:f.ops.length<=99000)(o:∃s a,f.ops=s++[a]):
 Calls prog 396 #[.agg #[],.pointer (some ⟨sb,0,none⟩)] w (nY fp F base sb t0 s0 (aF sb gf outv fvs) w below tape out (aL .truth f)):=by
 obtain⟨s,a,m⟩:=o;have r:=h.mid g (.cells #[] 436);have x:f.pop.ops.length<=100000:=by rw[mF m];rw[m,aw_] at k;omega
 refine(JK w _ sb gf (below.length*6) (fun i=>a.sort=1/\Done fp F base sb t0 s0 (aF sb gf outv fvs) w ⟨below++[f.pop.push a],tape,out⟩ i) (fun i=>a.sort≠1/\Done fp F base sb t0 s0 (aF sb gf outv fvs) w ⟨below++[f.pop],tape,out⟩ i)
  (fun t z W=>PV F W (.iface t z) a/\aK a<=200/\Mid fp base sb gf below.length t0 s0 (aF sb gf outv fvs) (w.alloc (.cells #[] 436)) F ⟨below++[f.pop],tape,out⟩ W)
  (fun b W=>a.sort=1/\a=bO b/\Mid fp base sb gf below.length t0 s0 (aF sb gf outv fvs) (w.alloc (.cells #[] 436)) F ⟨below++[f.pop],tape,out⟩ W) rfl (r.topS l) (fun W v=>?_) (fun W t z p=>?_) (fun W b p=>?_)).mono ?_
 ·refine((r.same v).pop m (by omega)).mono ?_
  rintro e i ⟨t,z,q,c,d,j⟩;exact⟨t,z,q,c,d,j⟩
 ·obtain⟨c,d,j⟩:=p;refine(oP F _ a W c).mono ?_;rintro e i ⟨rfl,⟨n,rfl⟩|⟨n,rfl⟩⟩
  ·exact av_ ⟨_,rfl,n,c.bool n,j⟩
  ·exact as_ ⟨rfl,n,j.done (Ext.refl _ _)⟩
 ·obtain⟨c,d,j⟩:=p;rw[d] at c ⊢
  refine(j.push (PV.tru F W b) (by rw[lM];omega) x).mono ?_
  rintro e i ⟨q,y⟩;exact⟨q,c,y.done (Ext.refl _ _)⟩
 ·have u:aL .truth f=if a.sort=1 then (f.pop.push a,0) else (f.pop,2):=by simp[aL,iS m]
  rw[u];rintro e i (⟨rfl,c,d⟩|⟨rfl,c,d⟩)
  ·exact nY.ok (if_pos c) d
  ·exact nY.stop (if_neg c) (by decide) d
end
section
variable {fp:Nat->Value} {F:Nat->Prop} {base:Nat} {w:World} {sb gf cap:Nat} {t0 tv outv s0:Value} {fvs:List FVal} {below:List aI} {f:aI} {tape:List Int} {out:List (List UInt8)}
def Mid.next{own:List Nat}{c:World}{G:Nat->Prop}{n:Nat}(h:Mid fp base sb gf n t0 s0 own c G ⟨below++[f],tape,out⟩ w)(b:Nat):Mid fp base sb gf n t0 s0 own c G ⟨below++[{ f with next:=b }],tape,out⟩ (w.setCell ⟨gf,n*6+1,none⟩ (.int .i64 b)):=
 h.set 1 (.int .i64 b) (by omega) (fun v=>{ v with nx:=.int .i64 b }) (fun _=>rfl) (fun _ _=>rfl) fun _ a=>⟨a.fn,rfl,a.ln,a.sp,a.vars,a.ops⟩
def Mid.cell{own:List Nat}{a:World}{G:Nat->Prop}{n:Nat}(h:Mid fp base sb gf n t0 s0 own a G ⟨below++[f],tape,out⟩ w)(j:Nat)(b:j<6):(∃u,w.cell? ⟨gf,n*6+j,none⟩=some u)/\w.frozen? ⟨gf,n*6+j,none⟩=false/\gf<w.heap.size:=by
 obtain⟨v,i,c,g⟩:=h.cells;obtain⟨d,e⟩:=g j (v.cells[j]'(by simpa [FVal.cells] using b)) (aH_ _)
 exact⟨⟨_,d⟩,e,c⟩
def X7(b:Nat)(h:cT fp F base w sb gf cap t0 tv outv s0 fvs ⟨below++[f],tape,out⟩)(c:below.length<=15)(a:base<=w.heap.size):
 Calls prog 412 #[.agg #[.int .i64 b],.pointer (some ⟨sb,0,none⟩)] w (nY fp F base sb t0 s0 (aF sb gf outv fvs) w below tape out (aL (.jump b) f)):=by
 have g:=h.mid a (.cells #[.int .i64 b] 462);obtain⟨j,d,k⟩:=g.cell 1 (by omega)
 refine(PF w _ sb gf (below.length*6) b (fun i=>Done fp F base sb t0 s0 (aF sb gf outv fvs) w ⟨below++[{ f with next:=b }],tape,out⟩ i) rfl (g.topS c) j d k fun W l=>?_).mono ?_
 ·exact((g.same l).next b).done (Ext.refl _ _)
 ·rintro e i ⟨rfl,d⟩;exact nY.ok rfl d
def XP(i:Nat)(h:cT fp F base w sb gf cap t0 tv outv s0 fvs ⟨below++[f],tape,out⟩)(m:below.length<=15)(j:base<=w.heap.size)(s:f.ops.length<=99000)(n:∃u a,f.ops=u++[a]):
 Calls prog 411 #[.agg #[.int .i64 i],.pointer (some ⟨sb,0,none⟩)] w (nY fp F base sb t0 s0 (aF sb gf outv fvs) w below tape out (aL (.skip i) f)):=by
 obtain⟨u,a,r⟩:=n;have q:=h.mid j (.cells #[.int .i64 i] 461)
 refine(EH w _ sb gf (below.length*6) i (fun l=>a.sort=1/\Done fp F base sb t0 s0 (aF sb gf outv fvs) w ⟨below++[if a.n=1 then f.pop else { f.pop with next:=i }],tape,out⟩ l) (fun l=>a.sort≠1/\Done fp F base sb t0 s0 (aF sb gf outv fvs) w ⟨below++[f.pop],tape,out⟩ l)
  (fun t z W=>PV F W (.iface t z) a/\aK a<=200/\Mid fp base sb gf below.length t0 s0 (aF sb gf outv fvs) (w.alloc (.cells #[.int .i64 i] 461)) F ⟨below++[f.pop],tape,out⟩ W)
  (fun b W=>a.sort=1/\b=decide (a.n=1)/\Mid fp base sb gf below.length t0 s0 (aF sb gf outv fvs) (w.alloc (.cells #[.int .i64 i] 461)) F ⟨below++[f.pop],tape,out⟩ W) rfl (q.topS m) (fun W x=>?_) (fun W t z k=>?_) (fun W k=>?_) (fun W k=>?_) (fun W b k=>?_)).mono ?_
 ·refine((q.same x).pop r (by omega)).mono ?_
  rintro e l ⟨t,z,A,c,d,g⟩;exact⟨t,z,A,c,d,g⟩
 ·obtain⟨c,d,g⟩:=k;refine(oP F _ a W c).mono ?_;rintro e l ⟨rfl,⟨o,rfl⟩|⟨o,rfl⟩⟩
  ·exact av_ ⟨_,rfl,o,rfl,g⟩
  ·exact as_ ⟨rfl,o,g.done (Ext.refl _ _)⟩
 ·obtain⟨c,d,g⟩:=k;refine⟨c,?_⟩;rw[if_pos (of_decide_eq_true d.symm)];exact g.done (Ext.refl _ _)
 ·obtain⟨c,d,g⟩:=k;refine⟨c,?_⟩;rw[if_neg (of_decide_eq_false d.symm)];exact(g.next i).done (Ext.refl _ _)
 ·obtain⟨c,d,g⟩:=k;have p:=Mid.box h g;obtain⟨C,B,y⟩:=g.cell 1 (by omega)
  exact⟨aA p rfl,aD p,C,B,y⟩
 ·have v:aL (.skip i) f=if a.sort=1 then (if a.n=1 then f.pop else { f.pop with next:=i },0) else (f.pop,2):=by simp[aL,iS r]
  rw[v];rintro e l (⟨rfl,c,d⟩|⟨rfl,c,d⟩)
  ·exact nY.ok (if_pos c) d
  ·exact nY.stop (if_neg c) (by decide) d
def NQ(k:Bool)(i:Nat)(h:cT fp F base w sb gf cap t0 tv outv s0 fvs ⟨below++[f],tape,out⟩)(q:below.length<=15)(l:base<=w.heap.size)(p:f.ops.length<=99000)(n:∃y a,f.ops=y++[a]):
 Calls prog 397 #[.agg #[.bool k,.int .i64 i],.pointer (some ⟨sb,0,none⟩)] w (nY fp F base sb t0 s0 (aF sb gf outv fvs) w below tape out (aL (.shortcut k i) f)):=by
 obtain⟨y,a,u⟩:=n;have x:=h.mid l (.cells #[.bool k,.int .i64 i] 438);have D:f.pop.ops.length<=100000:=by rw[mF u];rw[u,aw_] at p;omega
 refine(zK w _ sb gf (below.length*6) i k (fun m=>a.sort=1/\Done fp F base sb t0 s0 (aF sb gf outv fvs) w ⟨below++[if decide (a.n=1)=k then { f.pop.push a with next:=i } else f.pop],tape,out⟩ m) (fun m=>a.sort≠1/\Done fp F base sb t0 s0 (aF sb gf outv fvs) w ⟨below++[f.pop],tape,out⟩ m)
  (fun t z W=>PV F W (.iface t z) a/\aK a<=200/\Mid fp base sb gf below.length t0 s0 (aF sb gf outv fvs) (w.alloc (.cells #[.bool k,.int .i64 i] 438)) F ⟨below++[f.pop],tape,out⟩ W)
  (fun b W=>a.sort=1/\b=decide (a.n=1)/\a=bO b/\Mid fp base sb gf below.length t0 s0 (aF sb gf outv fvs) (w.alloc (.cells #[.bool k,.int .i64 i] 438)) F ⟨below++[f.pop],tape,out⟩ W)
  (fun b W=>a.sort=1/\b=decide (a.n=1)/\Mid fp base sb gf below.length t0 s0 (aF sb gf outv fvs) (w.alloc (.cells #[.bool k,.int .i64 i] 438)) F ⟨below++[f.pop.push a],tape,out⟩ W) rfl (x.topS q) (fun W C=>?_) (fun W t z j=>?_) (fun W b j=>?_) (fun W b j n=>?_) (fun W b j r=>?_) (fun W b j=>?_) (fun W b j=>?_)).mono ?_
 ·refine((x.same C).pop u (by omega)).mono ?_
  rintro e m ⟨t,z,r,c,d,g⟩;exact⟨t,z,r,c,d,g⟩
 ·obtain⟨c,d,g⟩:=j;refine(oP F _ a W c).mono ?_;rintro e m ⟨rfl,⟨v,rfl⟩|⟨v,rfl⟩⟩
  ·exact av_ ⟨_,rfl,v,rfl,c.bool v,g⟩
  ·exact as_ ⟨rfl,v,g.done (Ext.refl _ _)⟩
 ·obtain⟨c,d,g,s⟩:=j;refine(s.push (a:=a) (by rw[g];exact PV.tru F W b) (by rw[g,lM];omega) D).mono ?_
  rintro e m ⟨r,A⟩;exact⟨r,c,d,A⟩
 ·obtain⟨c,d,g,s⟩:=j;refine⟨c,?_⟩;rw[if_neg (by rw[<-d];exact n)]
  exact s.done (Ext.refl _ _)
 ·obtain⟨c,d,g⟩:=j;refine⟨c,?_⟩;rw[if_pos (by rw[<-d];exact r)]
  exact(g.next i).done (Ext.refl _ _)
 ·obtain⟨c,d,g,s⟩:=j;have o:=Mid.box h s;exact⟨aA o rfl,aD o⟩
 ·obtain⟨c,d,g⟩:=j;have o:=Mid.box h g;obtain⟨H,G,E⟩:=g.cell 1 (by omega)
  exact⟨aA o rfl,aD o,H,G,E⟩
 ·have B:aL (.shortcut k i) f=if a.sort=1 then (if decide (a.n=1)=k then { f.pop.push a with next:=i } else f.pop,0) else (f.pop,2):=by simp[aL,iS u]
  rw[B];rintro e m (⟨rfl,c,d⟩|⟨rfl,c,d⟩)
  ·exact nY.ok (if_pos c) d
  ·exact nY.stop (if_neg c) (by decide) d
end
section
variable {fp:Nat->Value} {F:Nat->Prop} {base:Nat} {w:World} {sb gf cap:Nat} {t0 tv outv s0:Value} {fvs:List FVal} {below:List aI} {f:aI} {tape:List Int} {out:List (List UInt8)}
def Mid.apart{own:List Nat}{d:World}{G:Nat->Prop}{n:Nat}{m:cF}(h:Mid fp base sb gf n t0 s0 own d G m w):∀k,G k->k<w.heap.size/\k≠gf:=by
 obtain⟨j,l,g,p,c,f,o,a,i⟩:=h;exact fun k b=>⟨(a.apart k b).1,fun e=>(a.apart k b).2 (by simp[aF,e])⟩
def lZ.cell{G:Nat->Prop}{v:Value}{l:List aJ}{k:Nat}(h:lZ G base w v l)(o:k<l.length):∃g e t z,v=.slice (some ⟨g,0,none⟩) l.length e/\w.cell? ⟨g,k,none⟩=some (.iface t z)/\PV G w (.iface t z) l[k]/\aK l[k]<=200:=by
 obtain⟨⟨A,r,x,p⟩,s⟩:=h;obtain⟨u,b,i⟩:=p k o;obtain⟨t,z,rfl⟩:=i.form;rcases r.2 with ⟨y,B⟩|⟨g,c,q,rfl,n,a,f,j,m,d⟩
 ·omega
 refine⟨g,c,t,z,rfl,aA a ?_,i,s _ (aR_ _)⟩;rw[<-d,aU_] at b;split at b
 ·simpa using b
 ·cases b
def X1(k:Nat)(h:cT fp F base w sb gf cap t0 tv outv s0 fvs ⟨below++[f],tape,out⟩)(d:below.length<=15)(a:base<=w.heap.size)(o:f.ops.length<=99000)(m:k<f.vars.length):
 Calls prog 374 #[.agg #[.int .i64 k],.pointer (some ⟨sb,0,none⟩)] w (nY fp F base sb t0 s0 (aF sb gf outv fvs) w below tape out (aL (.load k) f)):=by
 have j:=h.mid a (.cells #[.int .i64 k] 402);obtain⟨v,u,B,r⟩:=j.cells;obtain⟨g,c,t,z,A,s,q,x⟩:=u.vars.cell m;have p:=(r 4 v.vv rfl).1;rw[A] at p;refine(OX w _ sb gf (below.length*6) k g f.vars.length c t z (fun i=>Done fp F base sb t0 s0 (aF sb gf outv fvs) w ⟨below++[f.push f.vars[k]],tape,out⟩ i) rfl (j.topS d) p s m fun W n=>?_).mono ?_
 ·refine((j.same n).push (q.keep fun b _=>by rw[n.heap]) x (by omega)).mono ?_
  rintro e i ⟨y,l⟩;exact⟨y,l.done (Ext.refl _ _)⟩
 ·rintro e i ⟨rfl,l⟩;refine nY.ok ?_ l;simp[aL,aH_ m]
def P7(l:Nat)(c:Value)(s:List (List UInt8))(h:cT fp F base w sb gf cap t0 tv outv s0 fvs ⟨below++[f],tape,out⟩)(g:below.length<=15)(d:base<=w.heap.size)(q:eE F w c s):
 Calls prog 373 #[.agg #[.int .i64 l,c],.pointer (some ⟨sb,0,none⟩)] w (nY fp F base sb t0 s0 (aF sb gf outv fvs) w below tape out (aL (.begin l s) f)):=by
 obtain⟨c,rfl⟩:=q.form;have i:=h.mid d (.cells #[.int .i64 l,.pointer c] 365);obtain⟨y,n,x⟩:=i.cell 2 (by omega)
 obtain⟨A,z,B⟩:=i.cell 3 (by omega)
 refine(ME w _ sb gf (below.length*6) l c (fun o=>Done fp F base sb t0 s0 (aF sb gf outv fvs) w ⟨below++[{ f with line:=l,seen:=s }],tape,out⟩ o) rfl (i.topS g) y A n z x fun W p=>?_).mono ?_
 ·have r:=i.same p
  have k:eE F W (.pointer c) s:=eE.keep (fun b j=>by
   rw[p.heap];exact aA_ _ _ _ (h.apart b j).1) (fun _ h=>h) q
  have t:Mid fp base sb gf below.length t0 s0 (aF sb gf outv fvs) _ F ⟨below++[{ f with line:=l }],tape,out⟩ _:=r.set 2 (.int .i64 l) (by omega) (fun v=>{ v with ln:=.int .i64 l }) (fun _=>rfl) (fun _ _=>rfl) fun _ a=>⟨a.fn,a.nx,rfl,a.sp,a.vars,a.ops⟩
  have m:eE F (W.setCell ⟨gf,below.length*6+2,none⟩ (.int .i64 l)) (.pointer c) s:=eE.keep (fun b j=>ax_ _ _ _ _ (r.apart b j).2) (fun _ h=>h) k
  have u:Mid fp base sb gf below.length t0 s0 (aF sb gf outv fvs) _ F ⟨below++[{ f with line:=l,seen:=s }],tape,out⟩ _:=t.set 3 (.pointer c) (by omega) (fun v=>{ v with sp:=.pointer c }) (fun _=>rfl) (fun _ _=>rfl) fun _ a=>⟨a.fn,a.nx,a.ln,m,a.vars,a.ops⟩
  exact u.done (Ext.refl _ _)
 ·rintro e o ⟨rfl,n⟩;exact nY.ok rfl n
def G6(op:List UInt8)(G:op=[45]\/op=[33])(h:cT fp F base w sb gf cap t0 tv outv s0 fvs ⟨below++[f],tape,out⟩)(d:below.length<=15)(g:base<=w.heap.size)(k:f.ops.length<=99000)(s:∃D a,f.ops=D++[a]):
 Calls prog 383 #[.agg #[.string (bs op)],.pointer (some ⟨sb,0,none⟩)] w (nY fp F base sb t0 s0 (aF sb gf outv fvs) w below tape out (aL (.unary op) f)):=by
 obtain⟨D,a,n⟩:=s;have q:=h.mid g (.cells #[.string (bs op)] 407);have I:f.pop.ops.length<=100000:=by rw[mF n];rw[n,aw_] at k;omega
 have i:∀(W:World) (v:Value),PV F W v a->Calls prog 384 #[.string (bs op),v] W (lB F W (fF (op++[120]) a)):=fun W v C=>by
  rcases G with rfl|rfl
  ·exact CD 45 (av_ rfl) F v a W C
  ·exact CD 33 (as_ rfl) F v a W C
 have y:aL (.unary op) f=if (fF (op++[120]) a).2=0 then (f.pop.push (fF (op++[120]) a).1,0) else (f.pop,(fF (op++[120]) a).2):=by simp[aL,iS n]
 have l:=ZC (op++[120]) a;generalize fF (op++[120]) a=r at i y l;rw[y]
 have A:Hid (∀W,aQ (w.alloc (.cells #[.string (bs op)] 407)) W->Calls prog 171 #[.pointer (some ⟨gf,below.length*6,none⟩)] W fun e b=>∃t z,e=.returned (.iface t z)/\PV F b (.iface t z) a/\Mid fp base sb gf below.length t0 s0 (aF sb gf outv fvs) (w.alloc (.cells #[.string (bs op)] 407)) F ⟨below++[f.pop],tape,out⟩ b):=fun W E=>by
  refine((q.same E).pop n (by omega)).mono ?_
  rintro e b ⟨t,z,x,L,o,K⟩;exact⟨t,z,x,L,K⟩
 by_cases m:r.2=0
 ·rw[if_pos m];refine(RY w _ sb gf (below.length*6) op (fun b=>Done fp F base sb t0 s0 (aF sb gf outv fvs) w ⟨below++[f.pop.push r.1],tape,out⟩ b) (fun t z W=>PV F W (.iface t z) a/\Mid fp base sb gf below.length t0 s0 (aF sb gf outv fvs) (w.alloc (.cells #[.string (bs op)] 407)) F ⟨below++[f.pop],tape,out⟩ W) (fun t z W=>PV F W (.iface t z) r.1/\Mid fp base sb gf below.length t0 s0 (aF sb gf outv fvs) (w.alloc (.cells #[.string (bs op)] 407)) F ⟨below++[f.pop],tape,out⟩ W) rfl (q.topS d) A (fun W t z c=>?_) (fun W t z c=>?_) (fun W t z c=>?_)).mono ?_
  ·have j:=Mid.box h c.2;exact⟨aA j rfl,aD j⟩
  ·refine(i W _ c.1).mono ?_;rintro e b ⟨rfl,⟨_,u,rfl,B⟩|⟨p,_⟩⟩
   ·obtain⟨H,J,rfl⟩:=B.form;exact⟨H,J,rfl,B,c.2⟩
   ·exact absurd m p
  ·refine(c.2.push c.1 l I).mono ?_;rintro e b ⟨x,M⟩;exact⟨x,M.done (Ext.refl _ _)⟩
  ·rintro e b ⟨rfl,o⟩;exact nY.ok rfl o
 ·rw[if_neg m];refine(JI w _ sb gf (below.length*6) op r.2 (fun b=>Done fp F base sb t0 s0 (aF sb gf outv fvs) w ⟨below++[f.pop],tape,out⟩ b) (fun t z W=>PV F W (.iface t z) a/\Mid fp base sb gf below.length t0 s0 (aF sb gf outv fvs) (w.alloc (.cells #[.string (bs op)] 407)) F ⟨below++[f.pop],tape,out⟩ W) rfl (q.topS d) A (fun W t z c=>?_) (fun W t z c=>?_)).mono ?_
  ·have j:=Mid.box h c.2;exact⟨aA j rfl,aD j⟩
  ·refine(i W _ c.1).mono ?_;rintro e b ⟨rfl,⟨p,_⟩|⟨p,rfl⟩⟩
   ·exact absurd p m
   ·exact⟨rfl,c.2.done (Ext.refl _ _)⟩
  ·rintro e b ⟨rfl,o⟩;exact nY.stop rfl m o
def E9(op:List UInt8)(h:cT fp F base w sb gf cap t0 tv outv s0 fvs ⟨below++[f],tape,out⟩)(y:below.length<=15)(j:base<=w.heap.size)(x:f.ops.length<=99000)(J:∃I a b,f.ops=I++[a,b]):
 Calls prog 387 #[.agg #[.string (bs op)],.pointer (some ⟨sb,0,none⟩)] w (nY fp F base sb t0 s0 (aF sb gf outv fvs) w below tape out (aL (.binary op) f)):=by
 obtain⟨I,a,b,n⟩:=J;have n:f.ops=(I++[a])++[b]:=by rw[n];simp
 have O:=h.mid j (.cells #[.string (bs op)] 435);have i:f.pop.ops=I++[a]:=mF n;have B:=x;rw[n,aw_,aw_] at B;have L:f.pop.ops.length<=100000:=by rw[i,aw_];omega
 have M:f.pop.pop.ops.length<=100000:=by rw[mF i];omega
 have N:aL (.binary op) f=if (eL op a b).2=0 then (f.pop.pop.push (eL op a b).1,0) else (f.pop.pop,(eL op a b).2):=by simp[aL,iS n,iS i]
 have A:=XS op a b;have s:∀(W:World) (u v:Value),PV F W u a->PV F W v b->(∀k,F k->k<W.heap.size)->aK a<=200->aK b<=200->Calls prog 388 #[.string (bs op),u,v] W (eM F W (eL op a b)):=fun W u v c d l H q=>OI op F u v a b W c d l (by omega) (by omega)
 generalize eL op a b=r at s N A;rw[N]
 refine(GI w _ sb gf (below.length*6) op r.2 (fun g=>r.2=0/\Done fp F base sb t0 s0 (aF sb gf outv fvs) w ⟨below++[f.pop.pop.push r.1],tape,out⟩ g) (fun g=>r.2≠0/\Done fp F base sb t0 s0 (aF sb gf outv fvs) w ⟨below++[f.pop.pop],tape,out⟩ g)
  (fun t z W=>PV F W (.iface t z) b/\aK b<=200/\Mid fp base sb gf below.length t0 s0 (aF sb gf outv fvs) (w.alloc (.cells #[.string (bs op)] 435)) F ⟨below++[f.pop],tape,out⟩ W)
  (fun t z E p W=>PV F W (.iface t z) b/\aK b<=200/\PV F W (.iface E p) a/\aK a<=200/\Mid fp base sb gf below.length t0 s0 (aF sb gf outv fvs) (w.alloc (.cells #[.string (bs op)] 435)) F ⟨below++[f.pop.pop],tape,out⟩ W)
  (fun t z W=>r.2=0/\∃G,Ext F G w.heap.size/\PV G W (.iface t z) r.1/\Mid fp base sb gf below.length t0 s0 (aF sb gf outv fvs) (w.alloc (.cells #[.string (bs op)] 435)) G ⟨below++[f.pop.pop],tape,out⟩ W) rfl (O.topS y) (fun W Q=>?_) (fun W t z m=>?_) (fun W t z E p m=>?_) (fun W t z E p m=>?_) (fun W t z m=>?_)).mono ?_
 ·refine((O.same Q).pop n (by omega)).mono ?_
  rintro e g ⟨t,z,C,c,d,l⟩;exact⟨t,z,C,c,d,l⟩
 ·obtain⟨c,d,l⟩:=m;refine(l.popK i L).mono ?_;rintro e g ⟨E,p,C,Z,X,V,S⟩;exact⟨E,p,C,c.keep S,d,Z,X,V⟩
 ·have o:=Mid.box h m.2.2.2.2;exact⟨aA o rfl,aD o⟩
 ·obtain⟨c,d,l,H,q⟩:=m;refine(s W _ _ l c (fun k K=>(q.apart k K).1) H d).mono ?_
  rintro e g ⟨o,⟨D,u,rfl,P⟩|⟨D,rfl⟩⟩
  ·obtain⟨T,U,rfl⟩:=P.form;exact av_ ⟨T,U,rfl,D,Grow F W g,⟨fun _=>av_,fun k K=>K.imp_right fun c=>aF_ (aF_ (by simp) q.1.size) c.1⟩,P,q.grow o (fun _=>av_) fun _ h=>h⟩
  ·exact as_ ⟨rfl,D,(q.grow o (fun _ h=>h) fun _=>av_).done (Ext.refl _ _)⟩
 ·obtain⟨D,G,Y,c,d⟩:=m;refine(d.push c A M).mono ?_;rintro e g ⟨C,H⟩;exact⟨C,D,H.done Y⟩
 ·rintro e g (⟨rfl,c,d⟩|⟨rfl,c,d⟩)
  ·exact nY.ok (if_pos c) d
  ·exact nY.stop (if_neg c) c d
end
section
variable {fp:Nat->Value} {F G G':Nat->Prop} {base:Nat} {w:World} {sb gf cap:Nat} {t0 tv outv s0:Value} {fvs:List FVal} {below:List aI} {f:aI} {tape:List Int} {out:List (List UInt8)}
def cT.more{m:cF}(h:cT fp G base w sb gf cap t0 tv outv s0 fvs m)(b:∀k,G k->G' k)(d:∀k,G' k->G k\/(k<w.heap.size/\k∉aF sb gf outv fvs)):cT fp G' base w sb gf cap t0 tv outv s0 fvs m:=
 ⟨h.blk,h.row,h.frs.keep (fun _ _=>rfl) b fun _ _ _ _=>rfl,h.tape.keep (fun _ _=>rfl) b,h.out,h.nodup,h.lt,fun k c=>by
   rcases d k c with a|a
   ·exact h.apart k a
   ·exact a⟩
def cT.popMany{vs us:List aJ}(h:cT fp G base w sb gf cap t0 tv outv s0 fvs ⟨below++[f],tape,out⟩)(D:f.ops=vs++us)(t:f.ops.length<=100000):
 Calls prog 377 #[.pointer (some ⟨gf,below.length*6,none⟩),.int .i64 us.length] w fun e r=>∃z u i,e=.returned z/\Kept (aF sb gf outv fvs) w r/\aF sb gf outv i=aF sb gf outv fvs/\i.length=fvs.length/\cT fp G base r sb gf cap t0 tv outv s0 i ⟨below++[f.popMany us.length],tape,out⟩/\
  r.ownsRow w.heap.size 256 1 z us.length u/\fT G r u us/\(∀a∈us,aK a<=200)/\∀k,G k->r.heap[k]?=w.heap[k]?:=by
 obtain⟨P,v,H,rfl,I,S,T,p,O,k0,k1,k2,k3,k4,W⟩:=h.top;rw[<-I];obtain⟨⟨xs,g,s⟩,c⟩:=S.ops;rw[D] at g s c;obtain⟨C,u,rfl,J,M,F,y⟩:=s.split;rw[D,aw_] at t;rw[aw_] at g;refine(vB base gf (P.length*6) vs.length us.length H v.ov C u w p W g J M (oG y) (by omega)).mono ?_
 rintro e r ⟨z,o,L,he,q,Q,rfl,Z,E⟩;have d:(f.popMany us.length).ops=vs:=by simp[aI.popMany,D]
 have N:=h.grow q (fun _ h=>h) (fun _ h=>av_ h)
 have K:MI fp G base L { v with ov:=o } (f.popMany us.length):=by
  have m:∀b,G b->L.heap[b]?=w.heap[b]?:=fun b n=>q.block b (h.apart b n).1
  have B:∀k∈v.owns,k<w.heap.size:=fun k m=>h.lt k (by simp[aF,aT,m])
  have l:=S.keep m (fun _ h=>h) fun k V=>q.block k (B k V)
  refine⟨l.fn,l.nx,l.ln,l.sp,l.vars,⟨C,?_,?_⟩,fun b n=>c b (aP_ _ (by rw[d] at n;exact n))⟩
  ·rw[d];exact aY Z fun k e=>q.block k (B k (by rw[E] at e;simp[FVal.owns,e]))
  ·rw[d];exact F.keep m
 obtain⟨X,U⟩:=N.setTop (j:=5) (x:=o) (v':={ v with ov:=o }) (by omega) rfl (by simp[FVal.owns,E]) K
 have aa:gf<w.heap.size:=aD p
 have A:∀k,G k->(L.setCell ⟨gf,P.length*6+5,none⟩ o).heap[k]?=w.heap[k]?:=fun k m=>by
  rw[ax_ _ _ _ _ fun e=>(h.apart k m).2 (by simp[aF,e]),q.block k (h.apart k m).1]
 refine⟨z,u,_,he,(Kept.of_below q).trans U fun x hx=>av_ hx,by simp[aF,aT,FVal.owns,E],by simp,X,aY Q fun k m=>ax_ _ _ _ _ ?_,y.keep A,fun a Y=>c a (aL_ _ Y),A⟩
 have:=cC Q k m;show k≠gf
 omega
def Mid.popMany{own:List Nat}{p:World}{n:Nat}{vs us:List aJ}(h:Mid fp base sb gf n t0 s0 own p G ⟨below++[f],tape,out⟩ w)(v:n=below.length)(A:f.ops=vs++us)(g:f.ops.length<=100000):
 Calls prog 377 #[.pointer (some ⟨gf,n*6,none⟩),.int .i64 us.length] w fun e l=>∃x d,e=.returned (.slice x us.length d)/\∃m,Ext G m w.heap.size/\PVs m l (.slice x us.length d) us/\(∀a∈us,aK a<=200)/\Mid fp base sb gf n t0 s0 own p m ⟨below++[f.popMany us.length],tape,out⟩ l/\∀k,G k->l.heap[k]?=w.heap[k]?:=by
 obtain⟨K,B,o,F,c,D,E,t,q⟩:=h;subst v;refine(t.popMany A g).mono ?_;rintro e l ⟨M,L,i,J,u,s,I,z,j,C,y,H⟩;obtain⟨x,d,rfl⟩:=cU j;refine⟨x,d,J,fun k=>G k\/(Value.slice x us.length d).ownBlock=some k,⟨fun _=>av_,fun k b=>b.imp_right fun e=>cC j k e⟩,PVs.ofRow j (C.mono fun _=>av_) fun _=>as_,y,⟨K.trans u q,aF_ B u.size,o,F,c,i,by rw[I,E],z.more (fun _=>av_) fun k b=>?_,by rw[s];exact q⟩,H⟩
 rcases b with b|b
 ·exact av_ b
 ·refine as_ ⟨cK j k b,fun r=>?_⟩
  rw[s] at r;have:=t.lt k r;have:=cC j k b;omega
def X2(vs us:List aJ)(h:cT fp F base w sb gf cap t0 tv outv s0 fvs ⟨below++[f],tape,out⟩)(q:below.length<=15)(j:base<=w.heap.size)(i:f.ops.length<=99000)(o:f.ops=vs++us):
 Calls prog 375 #[.agg #[.int .i64 us.length],.pointer (some ⟨sb,0,none⟩)] w (nY fp F base sb t0 s0 (aF sb gf outv fvs) w below tape out (aL (.list us.length) f)):=by
 have B:=h.mid j (.cells #[.int .i64 us.length] 404);have K:f.many us.length=us:=by simp[aI.many,o]
 have n:(f.popMany us.length).ops=vs:=by simp[aI.popMany,o]
 have J:(f.popMany us.length).ops.length<=100000:=by rw[n];rw[o,aw_] at i;omega
 have I:us.length<=99000:=by rw[o,aw_] at i;omega
 have H:aL (.list us.length) f=if aK (aW us)<=200 then ((f.popMany us.length).push (aW us),0) else (f.popMany us.length,6):=by
  simp only[aL,K,gY,if_true];by_cases C:200<aK (aW us)
  ·rw[if_pos C];exact(if_neg (by omega)).symm
  ·rw[if_neg C];exact(if_pos (by omega)).symm
 rw[H]
 refine(OY w _ sb gf (below.length*6) us.length 6 (fun k=>aK (aW us)<=200/\Done fp F base sb t0 s0 (aF sb gf outv fvs) w ⟨below++[(f.popMany us.length).push (aW us)],tape,out⟩ k) (fun k=>¬aK (aW us)<=200/\Done fp F base sb t0 s0 (aF sb gf outv fvs) w ⟨below++[f.popMany us.length],tape,out⟩ k)
  (fun x d W=>∃G,Ext F G w.heap.size/\PVs G W (.slice x us.length d) us/\(∀a∈us,aK a<=200)/\Mid fp base sb gf below.length t0 s0 (aF sb gf outv fvs) (w.alloc (.cells #[.int .i64 us.length] 404)) G ⟨below++[f.popMany us.length],tape,out⟩ W)
  (fun t z W=>aK (aW us)<=200/\∃G,Ext F G w.heap.size/\PV G W (.iface t z) (aW us)/\Mid fp base sb gf below.length t0 s0 (aF sb gf outv fvs) (w.alloc (.cells #[.int .i64 us.length] 404)) G ⟨below++[f.popMany us.length],tape,out⟩ W) rfl (B.topS q) (fun W A=>?_) (fun W x d v=>?_) (fun W t z v=>?_)).mono ?_
 ·refine((B.same A).popMany rfl o (by omega)).mono ?_
  rintro e k ⟨x,d,y,G,g,c,u,m,_⟩;exact⟨x,d,y,G,g.le (by rw[A.heap];simp),c,u,m⟩
 ·obtain⟨G,g,c,u,m⟩:=v
  have p:∀l:List aJ,(∀a∈l,aK a<=200)->(l.map aK).sum<=200*l.length:=fun l=>by
   induction l with
   |nil=>simp
   |cons a l L=>intro D;have O:=D a (by simp);have N:=L fun b E=>D b (by simp[E]);simp;omega
  have s:aK (aW us)<=1000000000:=by
   have:=p us u;rw[eR];simp[aW];omega
  refine(KO G x d us W c s).mono ?_;rintro e k ⟨rfl,⟨r,rfl⟩|⟨r,rfl⟩⟩
  ·exact av_ ⟨_,_,rfl,r,G,g,PV.lst c,m⟩
  ·exact as_ ⟨rfl,by omega,m.done g⟩
 ·obtain⟨r,G,M,g,c⟩:=v;refine(c.push g r J).mono ?_;rintro e k ⟨y,m⟩;exact⟨y,r,m.done M⟩
 ·rintro e k (⟨rfl,g,c⟩|⟨rfl,g,c⟩)
  ·exact nY.ok (if_pos g) c
  ·exact nY.stop (if_neg g) (by decide) c
end
def cT.declared{V:Nat->Value}{F:Nat->Prop}{base:Nat}{w w':World}{sb gf M:Nat}{Z Y g s0:Value}{r:List FVal}{v:FVal}{n:List aI}{f:aI}{B:List Int}{L:List (List UInt8)}{cur:Array Value}{c u:Value}{a:aJ}{xs:List Value}{d:Nat}
 (h:cT V F base w sb gf M Z Y g s0 (r++[v]) ⟨n++[f],B,L⟩) (J:w.heap[gf]?=some (.cells cur 195 (0,0)))
 (O:fT F w xs (f.vars.take d)) (hd:d<=f.vars.length) (hu:PV F w u a) (Q:aK a<=200)
 (p1:w'.heap[gf]?=some (.cells (cur.setIfInBounds (r.length*6+4) c) 195 (0,0))) (X:w'.ownsRow base 256 1 c (d+1) (xs++[u])) (W:∀k,c.ownBlock=some k->v.vv.ownBlock=some k\/w.heap.size<=k) (s:Chg gf v.vv.ownBlock w w'):
 cT V F base w' sb gf M Z Y g s0 (r++[{ v with vv:=c }]) ⟨n++[{ f with vars:=f.vars.take d++[a] }],B,L⟩/\Kept (aF sb gf g (r++[v])) w w':=by
 obtain⟨aa,v0,e,ab,I⟩:=iR.unsnoc h.frs;obtain⟨rfl,e2⟩:=bh_ e rfl;cases e2;have z:=h.row;rw[show (r++[v]).length=r.length+1 by simp] at z
 obtain⟨K,U,_,c3⟩:=uW (j:=4) (x:=c) z (by omega)
 obtain rfl:K=cur:=by rw[J] at U;cases U;rfl
 have E:∀k∈v.owns,k∈aF sb gf g (r++[v]):=fun k l=>by simp[aF,aT,l]
 have P:gf∉v.owns:=fun H=>by
  have:=(aK_.1 (aK_.1 h.nodup).2).1;exact this (by simp[aT,H])
 have D:v.owns.Nodup:=by
  have m:=h.nodup;have:aF sb gf g (r++[v])=(sb::gf::(g.ownBlock.toList++aT r))++v.owns:=by simp[aF,aT]
  rw[this] at m;exact(be_.1 m).2.1
 have p:∀b,F b->w'.heap[b]?=w.heap[b]?:=fun b C=>by
  obtain⟨m,t⟩:=h.apart b C;exact s.block b m (fun e=>t (by simp[aF,e])) (fun e=>t (E b (by simp[FVal.owns,<-e])))
 have A:∀k,k<w.heap.size->k≠gf->k∉v.owns->w'.heap[k]?=w.heap[k]?:=fun k m t N=>s.block k m t fun e=>N (by simp[FVal.owns,<-e])
 have q:∀k,v.ov.ownBlock=some k->k<w.heap.size/\k≠gf/\v.vv.ownBlock≠some k:=fun k l=>by
  have H:k∈v.owns:=by simp[FVal.owns,l]
  refine⟨h.lt k (E k H),fun e=>P (by rw[<-e];exact H),fun e=>?_⟩
  unfold FVal.owns at D;rw[l,e] at D;simp at D
 refine⟨h.step (G:=F) s.size A (c3 w' p1 _ rfl) ?_ ?_ ?_ (fun _ h=>h) (fun _ h=>av_ h),?_⟩
 ·refine⟨I.fn.keep p fun _ h=>h,I.nx,I.ln,eE.keep p (fun _ h=>h) I.sp,⟨⟨xs++[u],?_,?_⟩,?_⟩,I.ops.keep p (fun _ h=>h) fun k l=>?_⟩
  ·show w'.ownsRow base 256 1 c (f.vars.take d++[a]).length _
   rw[aw_,bc_,Nat.min_eq_left hd];exact X
  ·exact(O.keep p).append ⟨rfl,fun i hi=>by
    obtain rfl:i=0:=by simpa using hi
    exact⟨u,rfl,hu.keep p⟩⟩
  ·intro b C;rcases aE_.1 C with C|C
   ·exact I.vars.2 b (bJ_ C)
   ·rw[aD_.1 C];exact Q
  ·obtain⟨m,t,N⟩:=q k l;exact s.block k m t (fun e=>N e.symm)
 ·intro k l;rcases aE_.1 l with l|l
  ·have o:c.ownBlock=some k:=by simpa using l
   refine⟨cK X k o,?_⟩;rcases W k o with m|m
   ·exact av_ (by simp[FVal.owns,m])
   ·exact as_ m
  ·have o:v.ov.ownBlock=some k:=by simpa using l
   exact⟨az_ (q k o).1 s.size,av_ (by simp[FVal.owns,o])⟩
 ·show (c.ownBlock.toList++v.ov.ownBlock.toList).Nodup
  refine be_.2 ⟨by cases c.ownBlock<;>simp,by cases v.ov.ownBlock<;>simp,fun x hx y hy e=>?_⟩
  subst e;have m:c.ownBlock=some x:=by simpa using hx
  have t:v.ov.ownBlock=some x:=by simpa using hy
  obtain⟨N,_,h4⟩:=q x t;rcases W x m with S|S
  ·exact h4 S
  ·omega
 ·exact⟨s.os,s.tape,s.output,s.size,fun k l T=>A k l (fun e=>T (by simp[aF,e])) fun H=>T (E k H)⟩
def GB(w p:World)(sb k l base d:Nat)(g n c:Nat)(I:d<=n)(M:n<=c)(_hn:n<=100001)(P:World->Prop)(Q:TypeId->Value->World->Prop)(xs:List Value)(E:w.alloc (.cells #[.int .i64 d] 443)=p)(hd:d<=100000)
 (U:Hid (∀W,aQ p W->Calls prog 158 #[.pointer (some ⟨sb,0,none⟩)] W fun e q=>e=.returned (.pointer (some ⟨k,l,none⟩))/\aQ p q))
 (G:p.cell? ⟨k,l+4,none⟩=some (.slice (some ⟨g,0,none⟩) n c))
 (H:Hid (∀W,aQ p W->Calls prog 171 #[.pointer (some ⟨k,l,none⟩)] W fun e q=>∃t z,e=.returned (.iface t z)/\Q t z q))
 (N:Hid (∀W t z,Q t z W->W.cell? ⟨w.heap.size,0,none⟩=some (.int .i64 d)/\w.heap.size<W.heap.size/\W.cell? ⟨k,l+4,none⟩=some (.slice (some ⟨g,0,none⟩) n c)/\k<W.heap.size/\base<=W.heap.size))
 (V:Hid (∀W t z,Q t z W->W.ownsRow base 256 1 (.slice (some ⟨g,0,none⟩) d c) d xs))
 (J:Hid (∀W t z,Q t z W->∀h:World,(W.alloc (.cells #[.iface t z] 256)).grownBy h (some g)->(∃u,h.cell? ⟨k,l+4,none⟩=some u)/\h.frozen? ⟨k,l+4,none⟩=false/\k<h.heap.size))
 (K:Hid (∀W t z,Q t z W->∀r f (h:World),h.ownsRow base 256 1 (.slice (some ⟨r,0,none⟩) (d+1) f) (d+1) (xs++[.iface t z])->(W.alloc (.cells #[.iface t z] 256)).grownBy h (some g)->((some g)=some r\/W.heap.size+1<=r)->P (h.setCell ⟨k,l+4,none⟩ (.slice (some ⟨r,0,none⟩) (d+1) f)))):
 Calls prog 403 #[.agg #[.int .i64 d],.pointer (some ⟨sb,0,none⟩)] w fun e q=>e=.returned (.tuple #[])/\P q:=by
 obtain⟨Y,O,x,y,D⟩:=info_parts mW;have b:(w.alloc (.cells #[.int .i64 d] 443)).heap[w.heap.size]?=some (.cells #[.int .i64 d] 443 (0,0)):=aM _ _ rfl _;rw[E] at b;have L:=aB E;have A:=aB (aA (i:=0) b rfl);have F:=aD b;have C:=aB G;have e1:(0:Int)<=(d:Int):=by omega
 have e2:(d:Int)<=(n:Int):=by omega
 have e3:(d:Int)<=(c:Int):=by omega
 clear E b G;go_enter Tryz.func403,Tryz.ntmps403;go_wp2_with fail;rw[L.out];refine(U.out _ (aQ.refl _)).mono ?_;rintro e w1 ⟨rfl,j⟩;have c0:=bB j.heap A.out;have T:=gM j.heap F;have c1:=bB j.heap C.out;go_wp2_with fail;go_region_law (first|(go_simp;go_at_call 171;refine(H.out _ (j.trans (aQ.drew _))).mono ?_;rintro e B ⟨t,z,rfl,v⟩;have o:=N.out _ _ _ v;have b1:=o.1;have b2:=o.2.1;have Z:=o.2.2.1;have b4:=o.2.2.2.1;have b5:=o.2.2.2.2;clear o)|(refine step_append_lies _ (by rfl) _ _ 193 (by rfl) base 256 Y _ 1 16 Tryz.underlying193 O x y D rfl (by decide) (.slice (some ⟨g,0,none⟩) d c) d xs (by rfl) ((V.out _ _ _ v).alloc _) ⟨B.heap.size,0,none⟩ 1 1 [.iface t z] (by rfl) (by rfl) (CT B _) (wP t z) (by decide) (by unfold maxLen;omega) (by omega) (by simp;omega) (B.heap.size+1) (by simp) ?_;intro r f h m a s S;have X:=J.out _ _ _ v h a;obtain⟨⟨u5,y1⟩,y2,y3⟩:=X))
 all_goals
  go_wp2_with fail;go_end0;exact⟨rfl,K.out _ _ _ v _ _ _ m a (s.imp_right fun e=>Nat.le_of_eq e.symm)⟩
def GC(w l:World)(sb g h base:Nat)(P:World->Prop)(Q:TypeId->Value->World->Prop)(xs:List Value)(A:w.alloc (.cells #[.int .i64 0] 443)=l)
 (L:Hid (∀W,aQ l W->Calls prog 158 #[.pointer (some ⟨sb,0,none⟩)] W fun e m=>e=.returned (.pointer (some ⟨g,h,none⟩))/\aQ l m))
 (C:l.cell? ⟨g,h+4,none⟩=some (.slice none 0 0))
 (D:Hid (∀W,aQ l W->Calls prog 171 #[.pointer (some ⟨g,h,none⟩)] W fun e m=>∃t z,e=.returned (.iface t z)/\Q t z m))
 (H:Hid (∀W t z,Q t z W->W.cell? ⟨w.heap.size,0,none⟩=some (.int .i64 0)/\w.heap.size<W.heap.size/\W.cell? ⟨g,h+4,none⟩=some (.slice none 0 0)/\g<W.heap.size/\base<=W.heap.size))
 (M:Hid (∀W t z,Q t z W->W.ownsRow base 256 1 (.slice none 0 0) 0 xs))
 (E:Hid (∀W t z,Q t z W->∀d:World,(W.alloc (.cells #[.iface t z] 256)).grownBy d none->(∃u,d.cell? ⟨g,h+4,none⟩=some u)/\d.frozen? ⟨g,h+4,none⟩=false/\g<d.heap.size))
 (F:Hid (∀W t z,Q t z W->∀n c (d:World),d.ownsRow base 256 1 (.slice (some ⟨n,0,none⟩) 1 c) 1 (xs++[.iface t z])->(W.alloc (.cells #[.iface t z] 256)).grownBy d none->(none=some n\/W.heap.size+1<=n)->P (d.setCell ⟨g,h+4,none⟩ (.slice (some ⟨n,0,none⟩) 1 c)))):
 Calls prog 403 #[.agg #[.int .i64 0],.pointer (some ⟨sb,0,none⟩)] w fun e m=>e=.returned (.tuple #[])/\P m:=by
 obtain⟨O,I,q,r,y⟩:=info_parts mW;have b:(w.alloc (.cells #[.int .i64 0] 443)).heap[w.heap.size]?=some (.cells #[.int .i64 0] 443 (0,0)):=aM _ _ rfl _;rw[A] at b;have G:=aB A;have s:=aB (aA (i:=0) b rfl);have B:=aD b;have x:=aB C;clear A b C;go_enter Tryz.func403,Tryz.ntmps403;go_wp2_with fail;rw[G.out];refine(L.out _ (aQ.refl _)).mono ?_;rintro e w1 ⟨rfl,f⟩;have c0:=bB f.heap s.out;have K:=gM f.heap B;have T:=bB f.heap x.out;go_wp2_with fail;go_region_law (first|(go_simp;go_at_call 171;refine(D.out _ (f.trans (aQ.drew _))).mono ?_;rintro e v ⟨t,z,rfl,p⟩;have k:=H.out _ _ _ p;have V:=k.1;have Z:=k.2.1;have S:=k.2.2.1;have X:=k.2.2.2.1;have b5:=k.2.2.2.2;clear k)|(refine step_append_lies _ (by rfl) _ _ 193 (by rfl) base 256 O _ 1 16 Tryz.underlying193 I q r y rfl (by decide) (.slice none 0 0) 0 xs (by rfl) ((M.out _ _ _ p).alloc _) ⟨v.heap.size,0,none⟩ 1 1 [.iface t z] (by rfl) (by rfl) (CT v _) (wP t z) (by decide) (by unfold maxLen;omega) (by omega) (by simp;omega) (v.heap.size+1) (by simp) ?_;intro n c d j a o J;have N:=E.out _ _ _ p d a;obtain⟨⟨u5,U⟩,y2,Y⟩:=N))
 all_goals
  go_wp2_with fail;go_end0;exact⟨rfl,F.out _ _ _ p _ _ _ j a (o.imp_right fun e=>Nat.le_of_eq e.symm)⟩
end Go.Proofs.YtblbkfdhjfppkaaGreatDoor
