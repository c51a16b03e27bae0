/- Contracts of the program: what is done with a frame's operands. -/
import Derived.Test.YtblbkfdhjfppkaaGreatDoorP15
set_option linter.defProp false
set_option maxRecDepth 100000
set_option maxHeartbeats 4000000
namespace Go.Proofs.YtblbkfdhjfppkaaGreatDoor
open Hs
open _root_.Go.Proofs.Tryz
open Go.RowKit
structure Chg(gf:Nat)(row:Option Nat)(w w':World):Prop where
 os:w'.os=w.os
 tape:w'.tape=w.tape
 output:w'.output=w.output
 size:w.heap.size<=w'.heap.size
 block:∀k,k<w.heap.size->k≠gf->some k≠row->w'.heap[k]?=w.heap[k]?
def CT(w:World)(u:Value):∀j v,([u]:List Value)[j]?=some v->(w.alloc (.cells #[u] 256)).cell? ((⟨w.heap.size,0,none⟩:Addr).add j)=some v:=by
 intro j v a;match j,a with
 |0,a=>simp at a;subst a;simp[Addr.add,go_sem]
 |j+1,a=>simp at a
def wP(t:TypeId)(z:Value):∀u∈([.iface t z]:List Value),u.oneCell'=true:=by
 intro u a;simp at a;rw[a];rfl
def wT(base gf o n:Nat)(cur:Array Value)(s:Value)(xs:List Value)(t:TypeId)(z:Value)(w:World)(u:w.heap[gf]?=some (.cells cur 195 (0,0)))(I:cur[o+5]?=some s)(d:w.ownsRow base 256 1 s n xs)(l:s.ownBlock≠some gf)(B:base<=w.heap.size)(W:n<=1000000):
 Calls prog 371 #[.pointer (some ⟨gf,o,none⟩),.iface t z] w fun e v=>e=.returned (.tuple #[])/\∃j,v.heap[gf]?=some (.cells (cur.setIfInBounds (o+5) j) 195 (0,0))/\v.ownsRow base 256 1 j (n+1) (xs++[.iface t z])/\(∀k,j.ownBlock=some k->s.ownBlock=some k\/w.heap.size<=k)/\Chg gf s.ownBlock w v:=by
 obtain⟨P,T,y,C,E⟩:=info_parts mW;obtain⟨x,c,rfl⟩:=cU d;have H:=aD u;have V:=aA u I;have Q:=aB d;have N:=aB u;have r:=aB l;clear d u l;go_enter func371,ntmps371;go_wp2_with (at_builtin;refine wpList_append_lies _ (by rfl) _ _ 193 (by rfl) base 256 P _ 1 16 underlying193 T y C E rfl (by decide) (.slice x n c) n xs (by rfl) (Q.out.alloc _) ⟨w.heap.size,0,none⟩ 1 1 [.iface t z] (by rfl) (by rfl) (CT w _) (wP t z) (by decide) (by unfold maxLen;omega) (by omega) (by simp;omega) (w.heap.size+1) (by simp) ?_)
 intro D q K g b f M
 have a:K.heap[gf]?=some (.cells cur 195 (0,0)):=by
  rw[b.block gf (by simp;omega) (fun e=>r.out e.symm),aA_ _ _ _ H];exact N.out
 have S:=aA a I;have U:=aE a (i:=o+5);have J:=aD a
 have G:D≠gf:=by
  rcases f with h|h
  ·exact fun e=>r.out (by rw[<-e];exact h)
  ·omega
 have HOWN:=aB g;have p:=aB b;have A:=aB f;have F:=aB a;clear g b f a;go_wp2_with fail;go_end0;refine⟨rfl,.slice (some ⟨D,0,none⟩) (n+1) q,aS F.out,?_,?_,?_⟩
 ·exact aY HOWN.out fun k m=>ax_ _ _ _ _ (by cases m;exact G)
 ·intro k m;cases m;rcases A.out with h|h
  ·exact av_ h
  ·exact as_ (by show w.heap.size<=D;omega)
 ·refine⟨p.out.os.trans rfl,p.out.tape.trans rfl,p.out.output.trans rfl,aF_ (by simp) (aF_ p.out.size (by simp)),fun k m O L=>?_⟩
  rw[ax_ _ _ _ _ O,p.out.block k (by simp;omega) L,aA_ _ _ _ m]
def PR(base gf o n:Nat)(cur:Array Value)(q:Value)(xs:List Value)(u:Value)(w:World)(k:w.heap[gf]?=some (.cells cur 195 (0,0)))(v:cur[o+5]?=some q)(d:w.ownsRow base 256 1 q (n+1) (xs++[u]))(r:xs.length=n)(y:∃t z,u=.iface t z)(G:n<=1000000):
 Calls prog 171 #[.pointer (some ⟨gf,o,none⟩)] w fun e x=>e=.returned u/\∃h,x=w.setCell ⟨gf,o+5,none⟩ h/\w.ownsRow base 256 1 h n xs/\h.ownBlock=q.ownBlock:=by
 obtain⟨t,z,rfl⟩:=y;rcases d.2 with ⟨C,H⟩|⟨g,c,j,rfl,m,a,s,l,p,f⟩
 ·omega
 have B:=aD k;have F:=aA k v;have E:=aE k (i:=o+5);have A:=aD a
 have b:j[n]?=some (.iface t z):=by
  have:(xs++[Value.iface t z])[n]?=some (.iface t z):=by rw[<-r];simp
  rw[<-f,aU_,if_pos (by omega)] at this
  simpa using this
 have I:=aA a b
 have HOWN:Hid (w.ownsRow base 256 1 (.slice (some ⟨g,0,none⟩) n c) n xs):=by
  refine⟨by rw[r];omega,as_ ⟨g,c,j,rfl,m,a,by omega,l,p,?_⟩⟩
  have:=congrArg (List.take n) f;rw[bO_] at this;rw[show min n ((n+1)*1)=n by omega] at this
  rw[b4_,this,<-r];simp
 have J:(0:Int)<=n:=by omega
 have D:(n:Int)<(n:Int)+1:=by omega
 have K:(n:Int)<=c:=by omega
 clear d k v a f b;go_enter func171,ntmps171;go_wp2_with fail;go_ret;exact⟨rfl,_,rfl,HOWN.out,rfl⟩
def uF(sb gf n a:Nat)(w:World)(f:w.cell? ⟨sb,1,none⟩=some (.slice (some ⟨gf,0,none⟩) (n+1) a))(g:n<=1000):
 Calls prog 158 #[.pointer (some ⟨sb,0,none⟩)] w fun e b=>e=.returned (.pointer (some ⟨gf,n*6,none⟩))/\∃q,b=w.drewN q:=by
 have c:(0:Int)<=(n:Int):=by omega
 have d:(n:Int)<(n:Int)+1:=by omega
 go_enter func158,ntmps158;go_wp2_with fail;go_quiet (fail)
 go_wp2_with fail;go_ret;exact⟨rfl,_,rfl⟩
def B6(gf o h g n b k:Nat)(cur:Array Value)(j u:Value)(w:World)(a:w.heap[gf]?=some (.cells cur 195 (0,0)))(d:cur[o]?=some (.pointer (some ⟨h,0,none⟩)))(f:cur[o+1]?=some (.int .i64 k))
 (c:w.heap[h]?=some (.cells #[j,.slice (some ⟨g,0,none⟩) n b] 250 (0,0))) (B:w.cell? ⟨g,k,none⟩=some u) (p:∃t z,u=.iface t z) (s:k<n) (C:n<=1000000):
 Calls prog 235 #[.pointer (some ⟨gf,o,none⟩)] w fun e l=>e=.returned u/\∃q,l=(w.drewN q).setCell ⟨gf,o+1,none⟩ (.int .i64 ((k+1:Nat):Int)):=by
 obtain⟨t,z,rfl⟩:=p;have r:=aD a;have m:=aD c;have E:=aA a d;have A:=aA a f;have v:=aE a (i:=o+1);have x:=aA c (i:=1) rfl;have D:(0:Int)<=(k:Int):=by omega
 have y:(k:Int)<(n:Int):=by omega
 clear a c d f;go_enter func235,ntmps235;go_wp2_with fail;go_quiet (fail)
 go_wp2_with fail;go_ret;exact⟨rfl,_,by congr 2⟩
def vB(base gf o n k:Nat)(cur:Array Value)(J:Value)(xs r:List Value)(w:World)(v:w.heap[gf]?=some (.cells cur 195 (0,0)))(H:cur[o+5]?=some J)(d:w.ownsRow base 256 1 J (n+k) (xs++r))(B:xs.length=n)(V:r.length=k)(T:∀u∈r,u.oneCell'=true)(hn:n+k<=1000000):
 Calls prog 377 #[.pointer (some ⟨gf,o,none⟩),.int .i64 k] w fun e A=>∃C t b,e=.returned C/\Below w.heap.size w b/\b.ownsRow w.heap.size 256 1 C k r/\A=b.setCell ⟨gf,o+5,none⟩ t/\w.ownsRow base 256 1 t n xs/\t.ownBlock=J.ownBlock:=by
 have L:=aD v;have c5:=aA v H;have f5:=aE v (i:=o+5);have e1:(0:Int)<=(n:Int):=by omega
 have e2:(n:Int)<=(n:Int)+(k:Int):=by omega
 rcases d.2 with ⟨rfl,r2⟩|⟨g,c,K,rfl,F,p,M,D,I,s⟩
 ·obtain⟨rfl,rfl⟩:n=0/\k=0:=by omega
  obtain rfl:=aN_ B;obtain rfl:=aN_ V;have G:=aB (sT w);clear d v H;go_enter func377,ntmps377;go_wp2_with fail;refine G.out.mono ?_;rintro e b ⟨rfl,rfl⟩;go_wp2_with fail;go_ret;exact⟨_,_,_,rfl,ay_ _ _,World.ownsRow_nil _ _ _ _,rfl,World.ownsRow_nil _ _ _ _,rfl⟩
 ·have e3:(n:Int)<=(c:Int):=by omega
  have e4:(n:Int)+(k:Int)<=(c:Int):=by omega
  have Y:((n+k:Nat):Int)-(k:Int)=(n:Int):=by omega
  have G:Hid (∀f q,f=n\/k=0->Calls prog 282 #[.slice (some ⟨g,f,none⟩) k q] w fun e A=>∃y x,e=.returned (.slice y k x)/\A.ownsRow w.heap.size 256 1 (.slice y k x) k r/\Below w.heap.size w A):=fun f q z=>by
   refine(sU g f k q r w (by omega) (by omega) (fun j u O=>?_) T).mono ?_
   ·have Q:j<r.length:=(aZ_.1 O).1;rcases z with rfl|Z
    ·refine aA p ?_;have N:(xs++r)[f+j]?=some u:=by rw[aV_ (by omega),B,bs_];exact O
     rw[<-s,aU_,if_pos (by omega)] at N
     simpa using N
    ·omega
   ·rintro e b ⟨C,rfl,l,m⟩;obtain⟨y,x,rfl⟩:=cU l;exact⟨y,x,rfl,l,m⟩
  have HOWN:Hid (∀q,q=c->w.ownsRow base 256 1 (.slice (some ⟨g,0,none⟩) n q) n xs):=by
   rintro q rfl;refine⟨by rw[B];omega,as_ ⟨g,q,K,rfl,F,p,by omega,D,I,?_⟩⟩
   have:=congrArg (List.take n) s;rw[bO_] at this;rw[show min n ((n+k)*1)=n by omega] at this
   rw[b4_,this,<-B];simp
  have S:Hid (∀b,Below w.heap.size w b->b.heap[gf]?=some (.cells cur 195 (0,0))):=fun b h=>by rw[h.block gf L];exact v
  clear d v p s;go_enter func377,ntmps377;go_wp2_with fail
  all_goals
   refine(G.out _ _ (by omega)).mono ?_
   rintro e b ⟨y,x,rfl,l,m⟩;have a:=S.out b m;have P:=aD a;have W:=aA a H;have X:=aE a (i:=o+5);have U:=aB l;have E:=aB m;clear l m a;go_wp2_with fail;go_ret;exact⟨_,_,b,rfl,E.out,U.out,rfl,HOWN.out _ (by first|rfl|omega),rfl⟩
def eE(F:Nat->Prop)(w:World):Value->List (List UInt8)->Prop
 |v,[]=>v=.pointer none
 |v,x::l=>∃b o,v=.pointer (some ⟨b,0,none⟩)/\F b/\w.heap[b]?=some (.cells #[.string (bs x),.int .i64 l.length,o] 253 (0,0))/\eE F w o l
def eE.keep{F G:Nat->Prop}{w w':World}(a:∀b,F b->w'.heap[b]?=w.heap[b]?)(d:∀b,F b->G b):∀{l:List (List UInt8)} {v:Value},eE F w v l->eE G w' v l
 |[],_,h=>h
 |_::_,_,⟨b,o,f,c,g,e⟩=>⟨b,o,f,d b c,by rw[a b c];exact g,eE.keep a d e⟩
def eE.form{F:Nat->Prop}{w:World}{l:List (List UInt8)}{v:Value}(h:eE F w v l):∃p,v=.pointer p:=by
 cases l with
 |nil=>exact⟨none,h⟩
 |cons x l=>obtain⟨b,o,a,_⟩:=h;exact⟨_,a⟩
def lC(fp:Nat->Value)(F:Nat->Prop)(w:World)(v:Value):aH->Prop
 |.begin l s=>∃sp,v=.iface 365 (.agg #[.int .i64 l,sp])/\eE F w sp s
 |.push a=>∃u,v=.iface 361 (.agg #[u])/\PV F w u a/\aK a<=200
 |.load k=>v=.iface 402 (.agg #[.int .i64 k])
 |.declare k=>v=.iface 443 (.agg #[.int .i64 k])
 |.assign k n=>v=.iface 445 (.agg #[.int .i64 k,.int .i64 n])
 |.jump t=>v=.iface 462 (.agg #[.int .i64 t])
 |.skip t=>v=.iface 461 (.agg #[.int .i64 t])
 |.shortcut b t=>v=.iface 438 (.agg #[.bool b,.int .i64 t])
 |.truth=>v=.iface 436 (.agg #[])
 |.unary op=>v=.iface 407 (.agg #[.string (bs op)])
 |.binary op=>v=.iface 435 (.agg #[.string (bs op)])
 |.index=>v=.iface 405 (.agg #[])
 |.list n=>v=.iface 404 (.agg #[.int .i64 n])
 |.length=>v=.iface 439 (.agg #[])
 |.read=>v=.iface 440 (.agg #[])
 |.call k n=>v=.iface 442 (.agg #[fp k,.int .i64 n])
 |.give=>v=.iface 363 (.agg #[])
 |.drop=>v=.iface 449 (.agg #[])
 |.print=>v=.iface 448 (.agg #[])
def lC.keep{e:Nat->Value}{F G:Nat->Prop}{w w':World}{v:Value}{i:aH}(h:lC e F w v i)(d:∀b,F b->w'.heap[b]?=w.heap[b]?)(f:∀b,F b->G b):lC e G w' v i:=by
 cases i<;>first
  |exact h
  |(obtain⟨g,c,a⟩:=h;exact⟨g,c,eE.keep d f a⟩)
  |(obtain⟨u,c,a,j⟩:=h;exact⟨u,c,(a.keep d).mono f,j⟩)
def lC.form{b:Nat->Value}{F:Nat->Prop}{w:World}{v:Value}{i:aH}(h:lC b F w v i):∃t z,v=.iface t z:=by
 cases i<;>first
  |exact⟨_,_,h⟩
  |(obtain⟨c,a,d⟩:=h;exact⟨_,_,a⟩)
def F6(fp:Nat->Value)(F:Nat->Prop)(w:World)(v:Value)(f:dY):Prop:=
 ∃fb gc cap cur,v=.pointer (some ⟨fb,0,none⟩)/\F fb/\w.heap[fb]?=some (.cells #[.string (bs f.name),.slice (some ⟨gc,0,none⟩) f.code.length cap] 250 (0,0))/\F gc/\w.heap[gc]?=some (.cells cur 355 (0,0))/\
  ∀i (h:i<f.code.length),∃u,cur[i]?=some u/\lC fp F w u f.code[i]
def F6.keep{j:Nat->Value}{F G:Nat->Prop}{w w':World}{v:Value}{f:dY}(h:F6 j F w v f)(a:∀b,F b->w'.heap[b]?=w.heap[b]?)(d:∀b,F b->G b):F6 j G w' v f:=by
 obtain⟨q,o,c,e,l,g,p,k,m,s⟩:=h;refine⟨q,o,c,e,l,d _ g,by rw[a _ g];exact p,d _ k,by rw[a _ k];exact m,fun i r=>?_⟩
 obtain⟨u,t,n⟩:=s i r;exact⟨u,t,n.keep a d⟩
def lA(fp:Nat->Value)(F:Nat->Prop)(w:World)(tab:List dY):Prop:=∀k f,tab[k]?=some f->F6 fp F w (fp k) f
def lA.keep{c:Nat->Value}{F G:Nat->Prop}{w w':World}{a:List dY}(h:lA c F w a)(d:∀b,F b->w'.heap[b]?=w.heap[b]?)(g:∀b,F b->G b):lA c G w' a:=fun k f e=>(h k f e).keep d g
structure FVal where
 fp:Value
 nx:Value
 ln:Value
 sp:Value
 vv:Value
 ov:Value
def FVal.cells(f:FVal):List Value:=[f.fp,f.nx,f.ln,f.sp,f.vv,f.ov]
def fV:List FVal->List Value
 |[]=>[]
 |f::l=>f.cells++fV l
def jL(l m:List FVal):fV (l++m)=fV l++fV m:=by
 induction l with
 |nil=>rfl
 |cons f l a=>simp[fV,a]
def dZ(l:List FVal):(fV l).length=l.length*6:=by
 induction l with
 |nil=>rfl
 |cons f l a=>simp[fV,FVal.cells,a];omega
def FVal.owns(f:FVal):List Nat:=f.vv.ownBlock.toList++f.ov.ownBlock.toList
def lZ(F:Nat->Prop)(base:Nat)(w:World)(v:Value)(l:List aJ):Prop:=(∃xs,w.ownsRow base 256 1 v l.length xs/\fT F w xs l)/\∀a∈l,aK a<=200
def lZ.keep{F G:Nat->Prop}{base:Nat}{w w':World}{v:Value}{l:List aJ}(h:lZ F base w v l)(a:∀b,F b->w'.heap[b]?=w.heap[b]?)(i:∀b,F b->G b)(c:∀k,v.ownBlock=some k->w'.heap[k]?=w.heap[k]?):lZ G base w' v l:=by
 obtain⟨⟨f,e,d⟩,g⟩:=h;exact⟨⟨f,aY e c,(d.keep a).mono i⟩,g⟩
structure MI(fp:Nat->Value)(F:Nat->Prop)(base:Nat)(w:World)(v:FVal)(f:aI):Prop where
 fn:F6 fp F w v.fp f.fn
 nx:v.nx=.int .i64 f.next
 ln:v.ln=.int .i64 f.line
 sp:eE F w v.sp f.seen
 vars:lZ F base w v.vv f.vars
 ops:lZ F base w v.ov f.ops
def MI.keep{g:Nat->Value}{F G:Nat->Prop}{base:Nat}{w w':World}{v:FVal}{f:aI}(h:MI g F base w v f)(a:∀b,F b->w'.heap[b]?=w.heap[b]?)(c:∀b,F b->G b)(d:∀k∈v.owns,w'.heap[k]?=w.heap[k]?):MI g G base w' v f:=
 ⟨h.fn.keep a c,h.nx,h.ln,eE.keep a c h.sp,h.vars.keep a c fun k e=>d k (by simp[FVal.owns,e]),h.ops.keep a c fun k e=>d k (by simp[FVal.owns,e])⟩
def iR(fp:Nat->Value)(F:Nat->Prop)(base:Nat)(w:World):List FVal->List aI->Prop
 |[],[]=>True
 |v::vs,f::fs=>MI fp F base w v f/\iR fp F base w vs fs
 |_,_=>False
def iR.keep{a:Nat->Value}{F G:Nat->Prop}{base:Nat}{w w':World}(c:∀b,F b->w'.heap[b]?=w.heap[b]?)(d:∀b,F b->G b):∀{vs:List FVal} {fs:List aI},iR a F base w vs fs->(∀v∈vs,∀k∈v.owns,w'.heap[k]?=w.heap[k]?)->iR a G base w' vs fs
 |[],[],_,_=>trivial
 |v::_,_::_,⟨g,f⟩,e=>⟨g.keep c d (e v (aS_ ..)),iR.keep c d f fun u i=>e u (aJ_ _ i)⟩
 |[],_::_,h,_=>h.elim
 |_::_,[],h,_=>h.elim
def iR.length{a:Nat->Value}{F:Nat->Prop}{base:Nat}{w:World}:∀{vs:List FVal} {fs:List aI},iR a F base w vs fs->vs.length=fs.length
 |[],[],_=>rfl
 |_::_,_::_,⟨_,h⟩=>by simp[iR.length h]
 |[],_::_,h=>h.elim
 |_::_,[],h=>h.elim
def iR.snoc{a:Nat->Value}{F:Nat->Prop}{base:Nat}{w:World}{v:FVal}{f:aI}:∀{vs:List FVal} {fs:List aI},iR a F base w vs fs->MI a F base w v f->iR a F base w (vs++[v]) (fs++[f])
 |[],[],_,h=>⟨h,trivial⟩
 |_::_,_::_,⟨c,b⟩,h=>⟨c,iR.snoc b h⟩
 |[],_::_,h,_=>h.elim
 |_::_,[],h,_=>h.elim
def iR.unsnoc{c:Nat->Value}{F:Nat->Prop}{base:Nat}{w:World}{f:aI}:∀{vs:List FVal} {fs:List aI},iR c F base w vs (fs++[f])->∃a v,vs=a++[v]/\iR c F base w a fs/\MI c F base w v f
 |[],[],h=>h.elim
 |[v],[],⟨b,d⟩=>⟨[],v,rfl,trivial,b⟩
 |_::_::_,[],⟨_,h⟩=>h.elim
 |v::vs,g::fs,⟨b,d⟩=>by
  obtain⟨a,u,e,j,i⟩:=iR.unsnoc (vs:=vs) (fs:=fs) d;exact⟨v::a,u,by rw[e];rfl,⟨b,j⟩,i⟩
 |[],_::_,h=>h.elim
def aT(l:List FVal):List Nat:=l.flatMap FVal.owns
def aF(sb gf:Nat)(outv:Value)(fvs:List FVal):List Nat:=sb::gf::(outv.ownBlock.toList++aT fvs)
def lV(l:List (List UInt8)):List Value:=l.map fun x=>Value.string (bs x)
def rH(F:Nat->Prop)(w:World)(v:Value)(l:List Int):Prop:=
 (l=[]/\∃x c,v=.slice x 0 c)\/∃g o c,v=.slice (some ⟨g,o,none⟩) l.length c/\l.length<=c/\F g/\∀i (h:i<l.length),w.cell? ⟨g,o+i,none⟩=some (.int .i64 l[i])/\ -9223372036854775808<=l[i]/\l[i]<=9223372036854775807
def rH.keep{F G:Nat->Prop}{w w':World}{v:Value}{l:List Int}(h:rH F w v l)(j:∀b,F b->w'.heap[b]?=w.heap[b]?)(m:∀b,F b->G b):rH G w' v l:=by
 rcases h with h|⟨g,o,c,k,f,d,a⟩
 ·exact av_ h
 ·exact as_ ⟨g,o,c,k,f,m g d,fun i e=>⟨by rw[World.cell?_of_block (j g d)];exact(a i e).1,(a i e).2⟩⟩
structure cT(fp:Nat->Value)(F:Nat->Prop)(base:Nat)(w:World)(sb gf cap:Nat)(t0 tv outv s0:Value)(fvs:List FVal)(m:cF):Prop where
 blk:w.heap[sb]?=some (.cells #[t0,.slice (some ⟨gf,0,none⟩) fvs.length cap,tv,outv,s0] 108 (0,0))
 row:w.ownsRow base 195 6 (.slice (some ⟨gf,0,none⟩) fvs.length cap) fvs.length (fV fvs)
 frs:iR fp F base w fvs m.frames
 tape:rH F w tv m.tape
 out:w.ownsRow base 9 1 outv m.out.length (lV m.out)
 nodup:(aF sb gf outv fvs).Nodup
 lt:∀k∈aF sb gf outv fvs,k<w.heap.size
 apart:∀k,F k->k<w.heap.size/\k∉aF sb gf outv fvs
def cT.step{Q:Nat->Value}{F G:Nat->Prop}{base:Nat}{w w':World}{sb gf A:Nat}{t0 Y i Z:Value}{n:List FVal}{v v':FVal}{q:List aI}{f f':aI}{z:List Int}{I:List (List UInt8)}
 (h:cT Q F base w sb gf A t0 Y i Z (n++[v]) ⟨q++[f],z,I⟩) (K:w.heap.size<=w'.heap.size) (O:∀k,k<w.heap.size->k≠gf->k∉v.owns->w'.heap[k]?=w.heap[k]?)
 (M:w'.ownsRow base 195 6 (.slice (some ⟨gf,0,none⟩) (n.length+1) A) (n.length+1) (fV (n++[v'])))
 (P:MI Q G base w' v' f') (U:∀k∈v'.owns,k<w'.heap.size/\(k∈v.owns\/w.heap.size<=k)) (W:v'.owns.Nodup)
 (hF:∀k,F k->G k) (hG:∀k,G k->F k\/(w.heap.size<=k/\k<w'.heap.size/\k∉v'.owns)):
 cT Q G base w' sb gf A t0 Y i Z (n++[v']) ⟨q++[f'],z,I⟩:=by
 have J:(n++[v']).length=(n++[v]).length:=by simp
 have B:(n++[v']).length=n.length+1:=by simp
 have j:∀u:FVal,aF sb gf i (n++[u])=(sb::gf::(i.ownBlock.toList++aT n))++u.owns:=fun u=>by simp[aF,aT]
 have p:=h.nodup;have r:=h.lt;have m:=h.apart;rw[j] at p r m;generalize c:(sb::gf::(i.ownBlock.toList++aT n))=o at p r m j;obtain⟨l,aa,T⟩:=be_.1 p;have g:∀k∈o,k<w.heap.size/\k∉v.owns:=fun k d=>⟨r k (aP_ _ d),fun X=>T k d k X rfl⟩
 have y:sb∈o:=by rw[<-c];simp
 have E:gf∈o:=by rw[<-c];simp
 have V:sb≠gf:=by
  rw[<-c] at l;have:=(aK_.1 l).1;intro e;exact this (by simp[e])
 have N:∀b,F b->w'.heap[b]?=w.heap[b]?:=fun b S=>by
  obtain⟨x,D⟩:=m b S;exact O b x (fun e=>D (aP_ _ (by rw[e];exact E))) fun X=>D (aL_ _ X)
 have t:∀u∈n,∀k∈u.owns,k∈o/\k≠gf:=fun u L k d=>by
  have H:k∈aT n:=bt_.2 ⟨u,L,d⟩;refine⟨by rw[<-c];simp[H],?_⟩
  rw[<-c] at l;have:=(aK_.1 (aK_.1 l).2).1;intro e;exact this (by rw[<-e];simp[H])
 have C:∀k,i.ownBlock=some k->k∈o/\k≠gf:=fun k d=>by
  refine⟨by rw[<-c];simp[d],?_⟩
  rw[<-c] at l;have:=(aK_.1 (aK_.1 l).2).1;intro e;exact this (by rw[<-e];simp[d])
 refine⟨?_,by rw[B];exact M,?_,h.tape.keep N hF,aY h.out fun k d=>?_,?_,?_,?_⟩
 ·rw[J,O sb (g sb y).1 V (g sb y).2];exact h.blk
 ·obtain⟨ab,u,e,k1,k2⟩:=iR.unsnoc h.frs;obtain⟨rfl,e2⟩:=bh_ e rfl;exact(k1.keep N hF fun u L k d=>O k (g k (t u L k d).1).1 (t u L k d).2 (g k (t u L k d).1).2).snoc P
 ·obtain⟨x,D⟩:=C k d;exact O k (g k x).1 D (g k x).2
 ·rw[j];refine be_.2 ⟨l,W,fun a ha b S e=>?_⟩
  subst e;rcases(U a S).2 with x|x
  ·exact(g a ha).2 x
  ·have:=(g a ha).1;omega
 ·intro k d;rw[j] at d;rcases aE_.1 d with d|d
  ·exact az_ (g k d).1 K
  ·exact(U k d).1
 ·intro k d;rw[j];rcases hG k d with x|⟨x,D,h3⟩
  ·obtain⟨h4,h5⟩:=m k x;refine⟨az_ h4 K,fun s=>?_⟩
   rcases aE_.1 s with s|s
   ·exact h5 (aP_ _ s)
   ·rcases(U k s).2 with h6|h6
    ·exact h5 (aL_ _ h6)
    ·omega
  ·refine⟨D,fun s=>?_⟩
   rcases aE_.1 s with s|s
   ·have:=(g k s).1;omega
   ·exact h3 s
structure Kept(own:List Nat)(w w':World):Prop where
 os:w'.os=w.os
 tape:w'.tape=w.tape
 output:w'.output=w.output
 size:w.heap.size<=w'.heap.size
 block:∀k,k<w.heap.size->k∉own->w'.heap[k]?=w.heap[k]?
structure Ext(F G:Nat->Prop)(n:Nat):Prop where
 sub:∀k,F k->G k
 new:∀k,G k->F k\/n<=k
def Ext.refl(F:Nat->Prop)(n:Nat):Ext F F n:=⟨fun _ h=>h,fun _ h=>av_ h⟩
def Ext.trans{F G H:Nat->Prop}{n m:Nat}(h:Ext F G n)(k:Ext G H m)(c:n<=m):Ext F H n:=⟨fun x b=>k.sub x (h.sub x b),fun x b=>by
 rcases k.new x b with a|a
 ·exact h.new x a
 ·exact as_ (aF_ c a)⟩
def Ext.le{F G:Nat->Prop}{n m:Nat}(h:Ext F G n)(b:m<=n):Ext F G m:=⟨h.sub,fun x a=>(h.new x a).imp_right (aF_ b)⟩
def Done(fp:Nat->Value)(F:Nat->Prop)(base:Nat)(sb:Nat)(t0 s0:Value)(own:List Nat)(w:World)(m:cF)(w':World):Prop:=
 Kept own w w'/\∃G gf cap tv outv fvs,Ext F G w.heap.size/\cT fp G base w' sb gf cap t0 tv outv s0 fvs m/\∀k∈aF sb gf outv fvs,k∈own\/w.heap.size<=k
def uW{w:World}{base gf c j:Nat}{b:List FVal}{v:FVal}{x:Value}(h:w.ownsRow base 195 6 (.slice (some ⟨gf,0,none⟩) (b.length+1) c) (b.length+1) (fV (b++[v])))(A:j<6):
 ∃a,w.heap[gf]?=some (.cells a 195 (0,0))/\(∀i,i<6->a[b.length*6+i]?=v.cells[i]?)/\
  ∀W:World,W.heap[gf]?=some (.cells (a.setIfInBounds (b.length*6+j) x) 195 (0,0))->∀e:FVal,e.cells=v.cells.set j x->W.ownsRow base 195 6 (.slice (some ⟨gf,0,none⟩) (b.length+1) c) (b.length+1) (fV (b++[e])):=by
 rcases h.2 with ⟨f,_⟩|⟨y,k,a,f,s,o,m,q,l,n⟩
 ·cases f
 cases f;have d:∀u:FVal,fV (b++[u])=fV b++u.cells:=fun u=>by rw[jL];simp[fV]
 have t:∀u:FVal,u.cells.length=6:=fun _=>rfl
 have r:(b.length+1)*6<=a.size:=by rw[l];exact Nat.mul_le_mul_right _ m
 refine⟨a,o,fun i z=>?_,fun W p e g=>?_⟩
 ·have:(fV (b++[v]))[b.length*6+i]?=v.cells[i]?:=by
   rw[d,aV_ (by rw[dZ];omega),dZ,bs_]
  rw[<-n,aU_,if_pos (by omega)] at this
  simpa using this
 ·refine⟨by rw[dZ];simp,as_ ⟨gf,c,_,rfl,s,p,m,q,by simpa using l,?_⟩⟩
  rw[bB_,b6_,n,d,d,g,List.set_append_right _ _ (by rw[dZ];omega),dZ,bs_]
def Kept.refl(own:List Nat)(w:World):Kept own w w:=⟨rfl,rfl,rfl,au_ _,fun _ _ _=>rfl⟩
def Kept.trans{own d:List Nat}{a b c:World}(h:Kept own a b)(k:Kept d b c)(j:∀x∈d,x∈own\/a.heap.size<=x):Kept own a c:=
 ⟨k.os.trans h.os,k.tape.trans h.tape,k.output.trans h.output,aF_ h.size k.size,fun x f g=>by
   rw[k.block x (az_ f h.size) (fun i=>by rcases j x i with e|e;·exact g e
                                          ·omega),h.block x f g]⟩
def Kept.of_below{own:List Nat}{w w':World}(h:Below w.heap.size w w'):Kept own w w':=⟨h.os,h.tape,h.output,h.size,fun k a _=>h.block k a⟩
def cT.grow{n:Nat->Value}{F G:Nat->Prop}{base:Nat}{w w':World}{sb gf f:Nat}{r o c p:Value}{e:List FVal}{m:cF}(h:cT n F base w sb gf f r o c p e m)(i:Below w.heap.size w w')(q:∀k,F k->G k)(t:∀k,G k->F k\/(w.heap.size<=k/\k<w'.heap.size)):cT n G base w' sb gf f r o c p e m:=by
 have g:∀b,F b->w'.heap[b]?=w.heap[b]?:=fun b l=>i.block b (h.apart b l).1
 have d:∀k,k∈aF sb gf c e->w'.heap[k]?=w.heap[k]?:=fun k a=>i.block k (h.lt k a)
 refine⟨by rw[d sb (by simp[aF])];exact h.blk,aY h.row fun k a=>?_,h.frs.keep g q fun v x k a=>d k ?_,h.tape.keep g q,aY h.out fun k a=>d k (by simp[aF,a]),h.nodup,fun k a=>az_ (h.lt k a) i.size,fun k a=>?_⟩
 ·cases a;exact d gf (by simp[aF])
 ·have:k∈aT e:=bt_.2 ⟨v,x,a⟩;simp[aF,this]
 ·rcases t k a with j|⟨j,s⟩
  ·exact⟨az_ (h.apart k j).1 i.size,(h.apart k j).2⟩
  ·exact⟨s,fun u=>by have:=h.lt k u;omega⟩
def cT.pushed{T:Nat->Value}{F:Nat->Prop}{base:Nat}{w w':World}{sb gf J:Nat}{Y U d V:Value}{r:List FVal}{v:FVal}{o:List aI}{f:aI}{z:List Int}{I:List (List UInt8)}{cur:Array Value}{c u:Value}{a:aJ}{xs:List Value}
 (h:cT T F base w sb gf J Y U d V (r++[v]) ⟨o++[f],z,I⟩) (K:w.heap[gf]?=some (.cells cur 195 (0,0)))
 (O:fT F w xs f.ops) (hu:PV F w u a) (N:aK a<=200)
 (p1:w'.heap[gf]?=some (.cells (cur.setIfInBounds (r.length*6+5) c) 195 (0,0))) (S:w'.ownsRow base 256 1 c (f.ops.length+1) (xs++[u])) (Q:∀k,c.ownBlock=some k->v.ov.ownBlock=some k\/w.heap.size<=k) (q:Chg gf v.ov.ownBlock w w'):
 cT T F base w' sb gf J Y U d V (r++[{ v with ov:=c }]) ⟨o++[f.push a],z,I⟩/\Kept (aF sb gf d (r++[v])) w w':=by
 obtain⟨ab,v0,e,aa,H⟩:=iR.unsnoc h.frs;obtain⟨rfl,e2⟩:=bh_ e rfl;cases e2;have A:=h.row;rw[show (r++[v]).length=r.length+1 by simp] at A
 obtain⟨L,X,_,c3⟩:=uW (j:=5) (x:=c) A (by omega)
 obtain rfl:L=cur:=by rw[K] at X;cases X;rfl
 have D:∀k∈v.owns,k∈aF sb gf d (r++[v]):=fun k g=>by simp[aF,aT,g]
 have P:gf∉v.owns:=fun E=>by
  have:=(aK_.1 (aK_.1 h.nodup).2).1;exact this (by simp[aT,E])
 have B:v.owns.Nodup:=by
  have l:=h.nodup;have:aF sb gf d (r++[v])=(sb::gf::(d.ownBlock.toList++aT r))++v.owns:=by simp[aF,aT]
  rw[this] at l;exact(be_.1 l).2.1
 have p:∀b,F b->w'.heap[b]?=w.heap[b]?:=fun b C=>by
  obtain⟨l,s⟩:=h.apart b C;exact q.block b l (fun e=>s (by simp[aF,e])) (fun e=>s (D b (by simp[FVal.owns,<-e])))
 have t:∀k,k<w.heap.size->k≠gf->k∉v.owns->w'.heap[k]?=w.heap[k]?:=fun k l s M=>q.block k l s fun e=>M (by simp[FVal.owns,<-e])
 have m:∀k,v.vv.ownBlock=some k->k<w.heap.size/\k≠gf/\v.ov.ownBlock≠some k:=fun k g=>by
  have E:k∈v.owns:=by simp[FVal.owns,g]
  refine⟨h.lt k (D k E),fun e=>P (by rw[<-e];exact E),fun e=>?_⟩
  unfold FVal.owns at B;rw[g,e] at B;simp at B
 refine⟨h.step (G:=F) q.size t (c3 w' p1 _ rfl) ?_ ?_ ?_ (fun _ h=>h) (fun _ h=>av_ h),?_⟩
 ·refine⟨H.fn.keep p fun _ h=>h,H.nx,H.ln,eE.keep p (fun _ h=>h) H.sp,H.vars.keep p (fun _ h=>h) fun k g=>?_,⟨xs++[u],?_,?_⟩,?_⟩
  ·obtain⟨l,s,M⟩:=m k g;exact q.block k l s (fun e=>M e.symm)
  ·show w'.ownsRow base 256 1 c (f.ops++[a]).length _
   rw[aw_];exact S
  ·exact(O.keep p).append ⟨rfl,fun i hi=>by
    obtain rfl:i=0:=by simpa using hi
    exact⟨u,rfl,hu.keep p⟩⟩
  ·intro b C;rcases aE_.1 C with C|C
   ·exact H.ops.2 b C
   ·rw[aD_.1 C];exact N
 ·intro k g;rcases aE_.1 g with g|g
  ·have n:v.vv.ownBlock=some k:=by simpa using g
   exact⟨az_ (m k n).1 q.size,av_ (by simp[FVal.owns,n])⟩
  ·have n:c.ownBlock=some k:=by simpa using g
   refine⟨cK S k n,?_⟩;rcases Q k n with l|l
   ·exact av_ (by simp[FVal.owns,l])
   ·exact as_ l
 ·show (v.vv.ownBlock.toList++c.ownBlock.toList).Nodup
  refine be_.2 ⟨by cases v.vv.ownBlock<;>simp,by cases c.ownBlock<;>simp,fun x hx y hy e=>?_⟩
  subst e;have l:v.vv.ownBlock=some x:=by simpa using hx
  have s:c.ownBlock=some x:=by simpa using hy
  obtain⟨M,_,h4⟩:=m x l;rcases Q x s with W|W
  ·exact h4 W
  ·omega
 ·exact⟨q.os,q.tape,q.output,q.size,fun k g Z=>t k g (fun e=>Z (by simp[aF,e])) fun E=>Z (D k E)⟩
structure aQ(w w':World):Prop where
 os:w'.os=w.os
 tape:w'.tape=w.tape
 output:w'.output=w.output
 heap:w'.heap=w.heap
def aQ.refl(w:World):aQ w w:=⟨rfl,rfl,rfl,rfl⟩
def aQ.drewN(w:World)(n:Nat):aQ w (w.drewN n):=⟨rfl,rfl,rfl,rfl⟩
def aQ.drew(w:World):aQ w w.drew:=⟨rfl,rfl,rfl,rfl⟩
def aQ.trans{a b c:World}(h:aQ a b)(k:aQ b c):aQ a c:=⟨k.os.trans h.os,k.tape.trans h.tape,k.output.trans h.output,k.heap.trans h.heap⟩
def aQ.below{w w':World}(h:aQ w w'):Below w.heap.size w w':=⟨h.os,h.tape,h.output,by rw[h.heap];exact au_ _,fun k _=>by rw[h.heap]⟩
def cT.top{q:Nat->Value}{F:Nat->Prop}{base:Nat}{w:World}{sb gf e:Nat}{u s i t:Value}{m:List FVal}{c:List aI}{f:aI}{n:List Int}{p:List (List UInt8)}(h:cT q F base w sb gf e u s i t m ⟨c++[f],n,p⟩):
 ∃b v a,m=b++[v]/\b.length=c.length/\MI q F base w v f/\w.heap[sb]?=some (.cells #[u,.slice (some ⟨gf,0,none⟩) (b.length+1) e,s,i,t] 108 (0,0))/\w.heap[gf]?=some (.cells a 195 (0,0))/\b.length+1<=e/\
  a[b.length*6]?=some v.fp/\a[b.length*6+1]?=some v.nx/\a[b.length*6+2]?=some v.ln/\a[b.length*6+3]?=some v.sp/\a[b.length*6+4]?=some v.vv/\a[b.length*6+5]?=some v.ov:=by
 obtain⟨b,v,rfl,A,y⟩:=iR.unsnoc h.frs;have d:=h.row;have g:=h.blk;rw[show (b++[v]).length=b.length+1 by simp] at d g
 obtain⟨a,B,k,_⟩:=uW (j:=0) (x:=undef) d (by omega)
 have l:b.length+1<=e:=by
  rcases d.2 with ⟨o,_⟩|⟨D,r,a,o,E,C,z,_⟩
  ·cases o
  ·cases o;exact z
 exact⟨b,v,a,rfl,A.length,y,g,B,l,k 0 (by omega),k 1 (by omega),k 2 (by omega),k 3 (by omega),k 4 (by omega),k 5 (by omega)⟩
def bB{w W:World}(h:W.heap=w.heap){a:Addr}{v:Value}(b:w.cell? a=some v):W.cell? a=some v:=by
 have e:W.cell? a=w.cell? a:=World.cell?_of_block (by rw[h])
 rw[e];exact b
def NY(w d:World)(sb j k:Nat)(t:TypeId)(z:Value)(P:World->Prop)(h:w.alloc (.cells #[.iface t z] 361)=d)
 (q:Hid (∀W,aQ d W->Calls prog 158 #[.pointer (some ⟨sb,0,none⟩)] W fun e c=>e=.returned (.pointer (some ⟨j,k,none⟩))/\aQ d c))
 (p:Hid (∀W,aQ d W->Calls prog 371 #[.pointer (some ⟨j,k,none⟩),.iface t z] W fun e c=>e=.returned (.tuple #[])/\P c)):
 Calls prog 370 #[.agg #[.iface t z],.pointer (some ⟨sb,0,none⟩)] w fun e c=>e=.returned (.tuple #[])/\P c:=by
 have a:(w.alloc (.cells #[.iface t z] 361)).heap[w.heap.size]?=some (.cells #[.iface t z] 361 (0,0)):=aM _ _ rfl _;rw[h] at a;have m:=aB h;have o:d.cell? ⟨w.heap.size,0,none⟩=some (.iface t z):=aA a rfl;have i:=aB o;have g:=aD a;clear h a;go_enter func370,ntmps370;go_wp2_with fail;rw[m.out];go_region_law (go_simp;first|(go_at_call 158;refine(q.out _ (aQ.drew _)).mono ?_;rintro e l ⟨rfl,b⟩;have r:=bB b.heap i.out;have n:w.heap.size<l.heap.size:=by (rw[b.heap];exact g))|(go_at_call 371;refine(p.out _ b).mono ?_;rintro e s ⟨rfl,f⟩))
 all_goals
  go_wp2_with fail;go_end0;exact⟨rfl,f⟩
def TD(M:Nat->Value)(F:Nat->Prop)(base:Nat)(w:World)(sb gf B:Nat)(L U b O:Value)(D:List FVal)(c:List aI)(f:aI)(i:List Int)(A:List (List UInt8))(u:Value)(a:aJ)
 (h:cT M F base w sb gf B L U b O D ⟨c++[f],i,A⟩) (hu:PV F w u a) (K:aK a<=200) (Z:f.ops.length<=100000) (X:c.length<=15) (s:base<=w.heap.size):
 Calls prog 370 #[.agg #[u],.pointer (some ⟨sb,0,none⟩)] w fun e m=>e=.returned (.tuple #[])/\Done M F base sb L O (aF sb gf b D) w ⟨c++[f.push a],i,A⟩ m:=by
 obtain⟨t,z,rfl⟩:=hu.form;have d:Below w.heap.size w (w.alloc (.cells #[.iface t z] 361)):=(ay_ _ _).alloc (au_ _) _;have aa:(w.alloc (.cells #[.iface t z] 361)).heap[w.heap.size]?=some (.cells #[.iface t z] 361 (0,0)):=aM _ _ rfl _;have S:=h.grow d (fun _ h=>h) (fun _ h=>av_ h)
 have P:PV F (w.alloc (.cells #[.iface t z] 361)) (.iface t z) a:=hu.keep fun k N=>d.block k (h.apart k N).1
 generalize hW:w.alloc (.cells #[.iface t z] 361)=J at*;have HW:=aB hW;obtain⟨g,v,o,rfl,ac,hv,E,n,V,k0,k1,k2,k3,k4,k5⟩:=S.top;obtain⟨⟨xs,l,H⟩,y⟩:=hv.ops
 have G:v.ov.ownBlock≠some gf:=fun e=>by
  have:=(aK_.1 (aK_.1 S.nodup).2).1;exact this (by simp[aT,FVal.owns,e])
 have HT:Hid (∀W,aQ J W->Calls prog 158 #[.pointer (some ⟨sb,0,none⟩)] W fun e m=>e=.returned (.pointer (some ⟨gf,g.length*6,none⟩))/\aQ J m):=fun W j=>by
  refine(uF sb gf g.length B W (bB j.heap (aA E rfl)) (by omega)).mono ?_
  rintro e m ⟨Q,q,rfl⟩;exact⟨Q,j.trans (aQ.drewN _ _)⟩
 have HP:Hid (∀W,aQ J W->Calls prog 371 #[.pointer (some ⟨gf,g.length*6,none⟩),.iface t z] W fun e m=>e=.returned (.tuple #[])/\Done M F base sb L O (aF sb gf b (g++[v])) w ⟨c++[f.push a],i,A⟩ m):=fun W j=>by
  have I:=j.below;have hR:=S.grow I (fun _ h=>h) (fun _ h=>av_ h)
  refine(wT base gf (g.length*6) f.ops.length o v.ov xs t z W (by rw[j.heap];exact n) k5 (aY l fun k _=>by rw[j.heap]) G (by rw[j.heap];exact aF_ s d.size) (by omega)).mono ?_
  rintro e m ⟨Q,r,p1,p2,T,p4⟩;obtain⟨q1,q2⟩:=hR.pushed (cur:=o) (by rw[j.heap];exact n) (H.keep fun k _=>by rw[j.heap]) (P.keep fun k _=>by rw[j.heap]) K p1 p2 T p4
  have N:Kept (aF sb gf b (g++[v])) w m:=(Kept.of_below (own:=aF sb gf b (g++[v])) (d.trans (I.mono d.size))).trans q2 fun x hx=>av_ hx
  refine⟨Q,N,F,gf,B,U,b,_,Ext.refl _ _,q1,fun k C=>?_⟩
  have ab:W.heap.size=J.heap.size:=by rw[j.heap]
  have h1:aF sb gf b (g++[{ v with ov:=r }])=(sb::gf::(b.ownBlock.toList++aT g))++({ v with ov:=r }:FVal).owns:=by simp[aF,aT]
  have h2:aF sb gf b (g++[v])=(sb::gf::(b.ownBlock.toList++aT g))++v.owns:=by simp[aF,aT]
  rw[h1] at C;rw[h2];rcases aE_.1 C with p|p
  ·exact av_ (aP_ _ p)
  ·rcases aE_.1 p with p|p
   ·exact av_ (aL_ _ (aP_ _ p))
   ·have h4:r.ownBlock=some k:=by simpa using p
    rcases T k h4 with Y|Y
    ·exact av_ (aL_ _ (by simp[FVal.owns,Y]))
    ·exact as_ (by have:=d.size;omega)
 clear l H y G;exact NY w J sb gf (g.length*6) t z _ HW.out HT HP
def fT.split{F:Nat->Prop}{w:World}{xs:List Value}{l m:List aJ}(h:fT F w xs (l++m)):∃c e,xs=c++e/\c.length=l.length/\e.length=m.length/\fT F w c l/\fT F w e m:=by
 obtain⟨g,f⟩:=h;rw[aw_] at g;refine⟨xs.take l.length,xs.drop l.length,(a5_ _ _).symm,by simp;omega,by simp;omega,⟨by simp;omega,fun i d=>?_⟩,⟨by simp;omega,fun i d=>?_⟩⟩
 ·obtain⟨u,b,a⟩:=f i (by simp;omega)
  rw[bv_ d] at a;exact⟨u,by rw[aU_,if_pos d];exact b,a⟩
 ·obtain⟨u,b,a⟩:=f (l.length+i) (by simp;omega)
  rw[bM_ (by omega)] at a
  simp only[bs_] at a;exact⟨u,by rw[bU_];exact b,a⟩
def fT.unsnoc{F:Nat->Prop}{w:World}{xs:List Value}{l:List aJ}{a:aJ}(h:fT F w xs (l++[a])):∃b u,xs=b++[u]/\b.length=l.length/\fT F w b l/\PV F w u a:=by
 obtain⟨b,j,e,i,f,k,g⟩:=h.split;match j,f with
 |[u],_=>
  obtain⟨m,c,d⟩:=g.2 0 (by simp)
  simp at c d;subst c;exact⟨b,u,e,i,k,d⟩
def cT.setTop{q:Nat->Value}{F:Nat->Prop}{base:Nat}{w:World}{sb gf o:Nat}{D A a C:Value}{c:List FVal}{v v':FVal}{d:List aI}{f E:aI}{i:List Int}{n:List (List UInt8)}{j:Nat}{x:Value}
 (h:cT q F base w sb gf o D A a C (c++[v]) ⟨d++[f],i,n⟩) (N:j<6) (s:v'.cells=v.cells.set j x) (u:v'.owns=v.owns) (p:MI q F base w v' E):
 cT q F base (w.setCell ⟨gf,c.length*6+j,none⟩ x) sb gf o D A a C (c++[v']) ⟨d++[E],i,n⟩/\Kept (aF sb gf a (c++[v])) w (w.setCell ⟨gf,c.length*6+j,none⟩ x):=by
 have l:=h.row;rw[show (c++[v]).length=c.length+1 by simp] at l
 obtain⟨K,J,_,L⟩:=uW (j:=j) (x:=x) l N;have t:∀k∈v.owns,k∈aF sb gf a (c++[v]):=fun k g=>by simp[aF,aT,g]
 have y:gf∉v.owns:=fun m=>by
  have:=(aK_.1 (aK_.1 h.nodup).2).1;exact this (by simp[aT,m])
 have r:v.owns.Nodup:=by
  have B:=h.nodup;have:aF sb gf a (c++[v])=(sb::gf::(a.ownBlock.toList++aT c))++v.owns:=by simp[aF,aT]
  rw[this] at B;exact(be_.1 B).2.1
 have g:∀k,k≠gf->(w.setCell ⟨gf,c.length*6+j,none⟩ x).heap[k]?=w.heap[k]?:=fun k g=>ax_ _ _ _ _ g
 have z:∀b,F b->(w.setCell ⟨gf,c.length*6+j,none⟩ x).heap[b]?=w.heap[b]?:=fun b I=>g b fun e=>(h.apart b I).2 (by simp[aF,e])
 refine⟨h.step (G:=F) (by simp) (fun k _ H _=>g k H) (L _ (aS J) _ s) (p.keep z (fun _ h=>h) fun k m=>g k fun e=>y (by rw[<-u,<-e];exact m)) (fun k m=>?_) (by rw[u];exact r) (fun _ h=>h) (fun _ h=>av_ h),⟨rfl,rfl,rfl,by simp,fun k _ M=>g k fun e=>M (by simp[aF,e])⟩⟩
 rw[u] at m;exact⟨az_ (h.lt k (t k m)) (by simp),av_ m⟩
def Mid(fp:Nat->Value)(base sb gf n:Nat)(t0 s0:Value)(own:List Nat)(w0:World)(G:Nat->Prop)(m:cF)(w:World):Prop:=
 Kept own w0 w/\base<=w.heap.size/\∃cap tv outv fvs,fvs.length=n+1/\cT fp G base w sb gf cap t0 tv outv s0 fvs m/\∀k∈aF sb gf outv fvs,k∈own\/w0.heap.size<=k
section
variable {fp:Nat->Value} {base sb gf n:Nat} {t0 s0:Value} {own:List Nat} {w0 w w':World} {G G':Nat->Prop} {m:cF} {below:List aI} {f f':aI} {tape:List Int} {out:List (List UInt8)}
def Mid.init{c:Nat}{d a:Value}{b:List FVal}(h:cT fp G base w sb gf c t0 d a s0 b m)(g:b.length=n+1)(f:base<=w.heap.size)(e:Obj):Mid fp base sb gf n t0 s0 (aF sb gf a b) (w.alloc e) G m (w.alloc e):=
 ⟨Kept.refl _ _,aF_ f (by simp),c,d,a,b,g,h.grow ((ay_ _ _).alloc (au_ _) _) (fun _ h=>h) (fun _ h=>av_ h),fun _ h=>av_ h⟩
def Mid.same(h:Mid fp base sb gf n t0 s0 own w0 G m w)(d:aQ w w'):Mid fp base sb gf n t0 s0 own w0 G m w':=by
 obtain⟨i,f,b,e,a,c,k,g,j⟩:=h;exact⟨i.trans (Kept.of_below (own:=[]) d.below) (fun x l=>by simp at l),by rw[d.heap];exact f,b,e,a,c,k,g.grow d.below (fun _ h=>h) (fun _ h=>av_ h),j⟩
def Mid.grow(h:Mid fp base sb gf n t0 s0 own w0 G m w)(d:Below w.heap.size w w')(p:∀k,G k->G' k)(o:∀k,G' k->G k\/(w.heap.size<=k/\k<w'.heap.size)):Mid fp base sb gf n t0 s0 own w0 G' m w':=by
 obtain⟨i,f,b,e,a,c,l,g,j⟩:=h;exact⟨i.trans (Kept.of_below (own:=[]) d) (fun x q=>by simp at q),aF_ f d.size,b,e,a,c,l,g.grow d p o,j⟩
def Mid.old(h:Mid fp base sb gf n t0 s0 own w0 G m w){k:Nat}(a:k<w0.heap.size)(b:k∉own):w.heap[k]?=w0.heap[k]?:=h.1.block k a b
def Mid.done{F:Nat->Prop}{d:Obj}(h:Mid fp base sb gf n t0 s0 own (w.alloc d) G m w')(l:Ext F G w.heap.size):Done fp F base sb t0 s0 own w m w':=by
 obtain⟨i,p,b,e,a,c,q,g,j⟩:=h
 exact⟨(Kept.of_below (own:=own) ((ay_ _ w).alloc (au_ _) d)).trans i (fun x o=>av_ o),G,gf,b,e,a,c,l,g,fun k f=>by
  rcases j k f with h|h
  ·exact av_ h
  ·exact as_ (aF_ (by simp) h)⟩
def Mid.top(h:Mid fp base sb gf n t0 s0 own w0 G m w)(p:n<=15):Calls prog 158 #[.pointer (some ⟨sb,0,none⟩)] w fun e b=>e=.returned (.pointer (some ⟨gf,n*6,none⟩))/\aQ w b:=by
 obtain⟨l,k,a,j,c,g,i,f,o⟩:=h;have:=f.blk;rw[i] at this;refine(uF sb gf n a w (aA this rfl) (by omega)).mono ?_
 rintro e b ⟨d,q,rfl⟩;exact⟨d,aQ.drewN _ _⟩
def Mid.cells(h:Mid fp base sb gf n t0 s0 own w0 G ⟨below++[f],tape,out⟩ w):∃v:FVal,MI fp G base w v f/\gf<w.heap.size/\∀j x,v.cells[j]?=some x->w.cell? ⟨gf,n*6+j,none⟩=some x/\w.frozen? ⟨gf,n*6+j,none⟩=false:=by
 obtain⟨E,C,o,D,g,s,t,l,F⟩:=h;obtain⟨u,v,q,rfl,r,z,e,a,c,m,i,y,k,B,p⟩:=l.top;have b:u.length=n:=by simpa using t
 subst b;refine⟨v,z,aD a,fun j x d=>?_⟩
 have A:j<6:=(aZ_.1 d).1;refine⟨aA a ?_,aE a⟩;rw[<-d];match j,A with
 |0,_=>exact m
 |1,_=>exact i
 |2,_=>exact y
 |3,_=>exact k
 |4,_=>exact B
 |5,_=>exact p
def Mid.set(h:Mid fp base sb gf n t0 s0 own w0 G ⟨below++[f],tape,out⟩ w)(j:Nat)(x:Value)(B:j<6)(g:FVal->FVal)(q:∀v,(g v).cells=v.cells.set j x)(m:∀v,MI fp G base w v f->(g v).owns=v.owns)(b:∀v,MI fp G base w v f->MI fp G base w (g v) f'):
 Mid fp base sb gf n t0 s0 own w0 G ⟨below++[f'],tape,out⟩ (w.setCell ⟨gf,n*6+j,none⟩ x):=by
 obtain⟨t,p,c,r,a,z,A,k,l⟩:=h;obtain⟨d,v,u,rfl,y,e,_⟩:=k.top;have i:d.length=n:=by simpa using A
 subst i;obtain⟨s,o⟩:=k.setTop B (q v) (m v e) (b v e);refine⟨t.trans o l,aF_ p o.size,c,r,a,_,by simp,s,?_⟩
 rw[show aF sb gf a (d++[g v])=aF sb gf a (d++[v]) by simp[aF,aT,m v e]]
 exact l
def Mid.push(h:Mid fp base sb gf n t0 s0 own w0 G ⟨below++[f],tape,out⟩ w){t:TypeId}{z:Value}{a:aJ}(U:PV G w (.iface t z) a)(q:aK a<=200)(E:f.ops.length<=100000):Calls prog 371 #[.pointer (some ⟨gf,n*6,none⟩),.iface t z] w fun e C=>e=.returned (.tuple #[])/\Mid fp base sb gf n t0 s0 own w0 G ⟨below++[f.push a],tape,out⟩ C:=by
 obtain⟨F,D,u,M,b,V,c,o,p⟩:=h;obtain⟨j,v,g,rfl,S,Y,I,d,H,k0,Z,k2,k3,k4,O⟩:=o.top;have A:j.length=n:=by simpa using c
 subst A;obtain⟨⟨T,l,r⟩,x⟩:=Y.ops
 have s:v.ov.ownBlock≠some gf:=fun e=>by
  have:=(aK_.1 (aK_.1 o.nodup).2).1;exact this (by simp[aT,FVal.owns,e])
 refine(wT base gf (j.length*6) f.ops.length g v.ov T t z w d O l s D (by omega)).mono ?_
 rintro e C ⟨X,i,Q,L,B,K⟩;obtain⟨N,J⟩:=o.pushed (cur:=g) d r U q Q L B K;refine⟨X,F.trans J p,aF_ D J.size,u,M,b,_,by simp,N,fun k m=>?_⟩
 have W:aF sb gf b (j++[{ v with ov:=i }])=(sb::gf::(b.ownBlock.toList++aT j))++({ v with ov:=i }:FVal).owns:=by simp[aF,aT]
 have P:aF sb gf b (j++[v])=(sb::gf::(b.ownBlock.toList++aT j))++v.owns:=by simp[aF,aT]
 rw[W] at m;rw[P] at p;rcases aE_.1 m with c|c
 ·exact p k (aP_ _ c)
 ·rcases aE_.1 c with c|c
  ·exact p k (aL_ _ (aP_ _ c))
  ·have o:i.ownBlock=some k:=by simpa using c
   rcases B k o with y|y
   ·exact p k (aL_ _ (by simp[FVal.owns,y]))
   ·exact as_ (aF_ F.size y)
def Mid.popK(h:Mid fp base sb gf n t0 s0 own w0 G ⟨below++[f],tape,out⟩ w){vs:List aJ}{a:aJ}(M:f.ops=vs++[a])(m:f.ops.length<=100000):Calls prog 171 #[.pointer (some ⟨gf,n*6,none⟩)] w fun e B=>∃t z,e=.returned (.iface t z)/\PV G B (.iface t z) a/\aK a<=200/\Mid fp base sb gf n t0 s0 own w0 G ⟨below++[f.pop],tape,out⟩ B/\∀k,G k->B.heap[k]?=w.heap[k]?:=by
 obtain⟨W,Q,E,T,l,aa,h3,D,K⟩:=h;obtain⟨A,v,F,rfl,Z,o,O,y,L,k0,k1,k2,k3,k4,X⟩:=D.top;have H:A.length=n:=by simpa using h3
 subst H;obtain⟨⟨xs,d,s⟩,c⟩:=o.ops;rw[M] at d s c m;obtain⟨p,u,rfl,Y,r,N⟩:=fT.unsnoc s;obtain⟨t,z,rfl⟩:=N.form;rw[aw_] at d m;refine(PR base gf (A.length*6) vs.length F v.ov p _ w y X d Y ⟨t,z,rfl⟩ (by omega)).mono ?_
 rintro e B ⟨rfl,g,rfl,S,I⟩;have i:f.pop.ops=vs:=by simp[aI.pop,M]
 have C:MI fp G base w { v with ov:=g } f.pop:=⟨o.fn,o.nx,o.ln,o.sp,o.vars,⟨p,by rw[i];exact S,by rw[i];exact r⟩,fun b J=>c b (aP_ _ (by rw[i] at J;exact J))⟩
 obtain⟨V,P⟩:=D.setTop (j:=5) (x:=g) (v':={ v with ov:=g }) (by omega) rfl (by simp[FVal.owns,I]) C
 have q:∀k,G k->(w.setCell ⟨gf,A.length*6+5,none⟩ g).heap[k]?=w.heap[k]?:=fun k U=>ax_ _ _ _ _ fun e=>(D.apart k U).2 (by simp[aF,e])
 refine⟨t,z,rfl,N.keep q,c a (by simp),⟨W.trans P K,aF_ Q P.size,E,T,l,_,by simp,V,?_⟩,q⟩
 rw[show aF sb gf l (A++[{ v with ov:=g }])=aF sb gf l (A++[v]) by simp[aF,aT,FVal.owns,I]]
 exact K
def Mid.pop(h:Mid fp base sb gf n t0 s0 own w0 G ⟨below++[f],tape,out⟩ w){vs:List aJ}{a:aJ}(d:f.ops=vs++[a])(b:f.ops.length<=100000):Calls prog 171 #[.pointer (some ⟨gf,n*6,none⟩)] w fun e c=>∃t z,e=.returned (.iface t z)/\PV G c (.iface t z) a/\aK a<=200/\Mid fp base sb gf n t0 s0 own w0 G ⟨below++[f.pop],tape,out⟩ c:=by
 refine(h.popK d b).mono ?_;rintro e c ⟨t,z,j,g,k,i,_⟩;exact⟨t,z,j,g,k,i⟩
end
def v7(k:Nat)(e:Ending):Prop:=(k=0/\e=.returned (.tuple #[]))\/(k≠0/\e=fH k)
def gM{w W:World}(h:W.heap=w.heap){k:Nat}(a:k<w.heap.size):k<W.heap.size:=by rw[h];exact a
def qV{w W:World}(h:W.heap=w.heap){a:Addr}(b:w.frozen? a=false):W.frozen? a=false:=by
 have e:W.frozen? a=w.frozen? a:=by unfold World.frozen?;rw[h]
 rw[e];exact b
def QM(w b:World)(sb d g:Nat)(P:World->Prop)(f:w.alloc (.cells #[] 449)=b)
 (k:Hid (∀W,aQ b W->Calls prog 158 #[.pointer (some ⟨sb,0,none⟩)] W fun e a=>e=.returned (.pointer (some ⟨d,g,none⟩))/\aQ b a))
 (j:Hid (∀W,aQ b W->Calls prog 171 #[.pointer (some ⟨d,g,none⟩)] W fun e a=>∃t z,e=.returned (.iface t z)/\P a)):
 Calls prog 410 #[.agg #[],.pointer (some ⟨sb,0,none⟩)] w fun e a=>e=.returned (.tuple #[])/\P a:=by
 have i:=aB f;clear f;go_enter func410,ntmps410;go_wp2_with fail;rw[i.out];refine(k.out _ (aQ.refl _)).mono ?_;rintro e l ⟨rfl,c⟩;go_wp2_with fail;refine(j.out _ c).mono ?_;rintro e m ⟨t,z,rfl,h⟩;go_wp2_with fail;go_end0;exact⟨rfl,h⟩
def JK(w d:World)(sb f i:Nat)(P S:World->Prop)(l:TypeId->Value->World->Prop)(m:Bool->World->Prop)(k:w.alloc (.cells #[] 436)=d)
 (r:Hid (∀W,aQ d W->Calls prog 158 #[.pointer (some ⟨sb,0,none⟩)] W fun e a=>e=.returned (.pointer (some ⟨f,i,none⟩))/\aQ d a))
 (q:Hid (∀W,aQ d W->Calls prog 171 #[.pointer (some ⟨f,i,none⟩)] W fun e a=>∃t z,e=.returned (.iface t z)/\l t z a))
 (p:Hid (∀W t z,l t z W->Calls prog 385 #[.iface t z] W fun e a=>(∃b,e=.returned (.bool b)/\m b a)\/(e=fH 2/\S a)))
 (n:Hid (∀W b,m b W->Calls prog 371 #[.pointer (some ⟨f,i,none⟩),.iface 316 (.bool b)] W fun e a=>e=.returned (.tuple #[])/\P a)):
 Calls prog 396 #[.agg #[],.pointer (some ⟨sb,0,none⟩)] w fun e a=>(e=.returned (.tuple #[])/\P a)\/(e=fH 2/\S a):=by
 have o:=aB k;clear k;go_enter func396,ntmps396;go_wp2_with fail;rw[o.out];refine(r.out _ (aQ.refl _)).mono ?_;rintro e u ⟨rfl,h⟩;go_wp2_with fail;refine(q.out _ h).mono ?_;rintro e x ⟨t,z,rfl,j⟩;have c:=aB (p.out _ t z j);clear j;go_wp2_with fail;refine c.out.mono ?_;rintro e v (⟨b,rfl,c⟩|⟨rfl,c⟩)
 ·have g:=aB (n.out _ b c);clear c;go_wp2_with fail;refine g.out.mono ?_;rintro e s ⟨rfl,g⟩;go_wp2_with fail;go_end0;exact av_ ⟨rfl,g⟩
 ·go_wp2_with fail;exact⟨rfl,as_ ⟨rfl,c⟩⟩
def EH(w h:World)(sb d f g:Nat)(P S:World->Prop)(n:TypeId->Value->World->Prop)(i:Bool->World->Prop)(m:w.alloc (.cells #[.int .i64 g] 461)=h)
 (x:Hid (∀W,aQ h W->Calls prog 158 #[.pointer (some ⟨sb,0,none⟩)] W fun e a=>e=.returned (.pointer (some ⟨d,f,none⟩))/\aQ h a))
 (v:Hid (∀W,aQ h W->Calls prog 171 #[.pointer (some ⟨d,f,none⟩)] W fun e a=>∃t z,e=.returned (.iface t z)/\n t z a))
 (s:Hid (∀W t z,n t z W->Calls prog 385 #[.iface t z] W fun e a=>(∃b,e=.returned (.bool b)/\i b a)\/(e=fH 2/\S a)))
 (o:Hid (∀W,i true W->P W)) (q:Hid (∀W,i false W->P (W.setCell ⟨d,f+1,none⟩ (.int .i64 g))))
 (p:Hid (∀W b,i b W->W.cell? ⟨w.heap.size,0,none⟩=some (.int .i64 g)/\w.heap.size<W.heap.size/\(∃u,W.cell? ⟨d,f+1,none⟩=some u)/\W.frozen? ⟨d,f+1,none⟩=false/\d<W.heap.size)):
 Calls prog 411 #[.agg #[.int .i64 g],.pointer (some ⟨sb,0,none⟩)] w fun e a=>(e=.returned (.tuple #[])/\P a)\/(e=fH 2/\S a):=by
 have r:=aB m;clear m;go_enter func411,ntmps411;go_wp2_with fail;rw[r.out];refine(x.out _ (aQ.refl _)).mono ?_;rintro e y ⟨rfl,k⟩;go_wp2_with fail;refine(v.out _ k).mono ?_;rintro e F ⟨t,z,rfl,l⟩;have c:=aB (s.out _ t z l);clear l;go_wp2_with fail;refine c.out.mono ?_;rintro e A (⟨b,rfl,c⟩|⟨rfl,c⟩)
 ·obtain⟨B,C,⟨u,D⟩,G,E⟩:=p.out _ b c;cases b with
  |false=>
   have j:=aB (q.out _ c);clear c;go_wp2_with fail;go_end0;exact av_ ⟨rfl,j.out⟩
  |true=>
   have j:=aB (o.out _ c);clear c;go_wp2_with fail;go_end0;exact av_ ⟨rfl,j.out⟩
 ·go_wp2_with fail;exact⟨rfl,as_ ⟨rfl,c⟩⟩
def PF(w c:World)(sb f g d:Nat)(P:World->Prop)(k:w.alloc (.cells #[.int .i64 d] 462)=c)
 (x:Hid (∀W,aQ c W->Calls prog 158 #[.pointer (some ⟨sb,0,none⟩)] W fun e j=>e=.returned (.pointer (some ⟨f,g,none⟩))/\aQ c j))
 (h:∃u,c.cell? ⟨f,g+1,none⟩=some u) (m:c.frozen? ⟨f,g+1,none⟩=false) (r:f<c.heap.size)
 (s:Hid (∀W,aQ c W->P (W.setCell ⟨f,g+1,none⟩ (.int .i64 d)))):
 Calls prog 412 #[.agg #[.int .i64 d],.pointer (some ⟨sb,0,none⟩)] w fun e j=>e=.returned (.tuple #[])/\P j:=by
 have a:(w.alloc (.cells #[.int .i64 d] 462)).heap[w.heap.size]?=some (.cells #[.int .i64 d] 462 (0,0)):=aM _ _ rfl _;rw[k] at a;have t:=aB k;have p:c.cell? ⟨w.heap.size,0,none⟩=some (.int .i64 d):=aA a rfl;have l:=aB p;have i:=aD a;obtain⟨u,h⟩:=h;have q:=aB h;have n:=aB m;clear k a h m;go_enter func412,ntmps412;go_wp2_with fail;rw[t.out];go_region_law (go_simp;go_at_call 158;refine(x.out _ (aQ.drew _)).mono ?_;rintro e y ⟨rfl,b⟩;have z:=bB b.heap l.out;have A:=bB b.heap q.out;have B:=qV b.heap n.out;have v:=gM b.heap i;have o:=gM b.heap r)
 all_goals
  go_wp2_with fail;go_end0;exact⟨rfl,s.out _ b⟩
def zK(w k:World)(sb g h j:Nat)(f:Bool)(P S:World->Prop)(x:TypeId->Value->World->Prop)(l m:Bool->World->Prop)(r:w.alloc (.cells #[.bool f,.int .i64 j] 438)=k)
 (K:Hid (∀W,aQ k W->Calls prog 158 #[.pointer (some ⟨sb,0,none⟩)] W fun e c=>e=.returned (.pointer (some ⟨g,h,none⟩))/\aQ k c))
 (J:Hid (∀W,aQ k W->Calls prog 171 #[.pointer (some ⟨g,h,none⟩)] W fun e c=>∃t z,e=.returned (.iface t z)/\x t z c))
 (I:Hid (∀W t z,x t z W->Calls prog 385 #[.iface t z] W fun e c=>(∃b,e=.returned (.bool b)/\l b c)\/(e=fH 2/\S c)))
 (F:Hid (∀W b,l b W->Calls prog 371 #[.pointer (some ⟨g,h,none⟩),.iface 316 (.bool b)] W fun e c=>e=.returned (.tuple #[])/\m b c))
 (C:Hid (∀W b,l b W->b≠f->P W)) (v:Hid (∀W b,m b W->b=f->P (W.setCell ⟨g,h+1,none⟩ (.int .i64 j))))
 (p:Hid (∀W b,l b W->W.cell? ⟨w.heap.size,0,none⟩=some (.bool f)/\w.heap.size<W.heap.size))
 (s:Hid (∀W b,m b W->W.cell? ⟨w.heap.size,1,none⟩=some (.int .i64 j)/\w.heap.size<W.heap.size/\(∃u,W.cell? ⟨g,h+1,none⟩=some u)/\W.frozen? ⟨g,h+1,none⟩=false/\g<W.heap.size)):
 Calls prog 397 #[.agg #[.bool f,.int .i64 j],.pointer (some ⟨sb,0,none⟩)] w fun e c=>(e=.returned (.tuple #[])/\P c)\/(e=fH 2/\S c):=by
 have G:=aB r;clear r;go_enter func397,ntmps397;go_wp2_with fail;rw[G.out];refine(K.out _ (aQ.refl _)).mono ?_;rintro e L ⟨rfl,o⟩;go_wp2_with fail;refine(J.out _ o).mono ?_;rintro e Q ⟨t,z,rfl,q⟩;have d:=aB (I.out _ t z q);clear q;go_wp2_with fail;refine d.out.mono ?_;rintro e M (⟨b,rfl,d⟩|⟨rfl,d⟩)
 ·obtain⟨N,O⟩:=p.out _ b d;by_cases i:b=f
  ·subst i;have a:=aB (F.out _ b d);clear d;cases b with
   |true=>
    go_wp2_with fail;refine a.out.mono ?_;rintro e y ⟨rfl,a⟩;obtain⟨D,A,⟨u,B⟩,H,E⟩:=s.out _ _ a;have n:=aB (v.out _ _ a rfl);clear a;go_wp2_with fail;go_end0;exact av_ ⟨rfl,n.out⟩
   |false=>
    go_wp2_with fail;refine a.out.mono ?_;rintro e y ⟨rfl,a⟩;obtain⟨D,A,⟨u,B⟩,H,E⟩:=s.out _ _ a;have n:=aB (v.out _ _ a rfl);clear a;go_wp2_with fail;go_end0;exact av_ ⟨rfl,n.out⟩
  ·have a:=aB (C.out _ b d i);clear d;cases b<;>cases f<;>first|exact absurd rfl i|(clear i;go_wp2_with fail;go_end0;exact av_ ⟨rfl,a.out⟩)
 ·go_wp2_with fail;exact⟨rfl,as_ ⟨rfl,d⟩⟩
def GI(w f:World)(sb d h:Nat)(op:List UInt8)(k:Nat)(P S:World->Prop)(s:TypeId->Value->World->Prop)(o:TypeId->Value->TypeId->Value->World->Prop)(q:TypeId->Value->World->Prop)(r:w.alloc (.cells #[.string (bs op)] 435)=f)
 (F:Hid (∀W,aQ f W->Calls prog 158 #[.pointer (some ⟨sb,0,none⟩)] W fun e a=>e=.returned (.pointer (some ⟨d,h,none⟩))/\aQ f a))
 (E:Hid (∀W,aQ f W->Calls prog 171 #[.pointer (some ⟨d,h,none⟩)] W fun e a=>∃t z,e=.returned (.iface t z)/\s t z a))
 (n:Hid (∀W t z,s t z W->Calls prog 171 #[.pointer (some ⟨d,h,none⟩)] W fun e a=>∃b c,e=.returned (.iface b c)/\o t z b c a))
 (u:Hid (∀W t z b c,o t z b c W->W.cell? ⟨w.heap.size,0,none⟩=some (.string (bs op))/\w.heap.size<W.heap.size))
 (D:Hid (∀W t z b c,o t z b c W->Calls prog 388 #[.string (bs op),.iface b c,.iface t z] W fun e a=>(∃l j,e=.returned (.iface l j)/\q l j a)\/(e=fH k/\S a)))
 (B:Hid (∀W t z,q t z W->Calls prog 371 #[.pointer (some ⟨d,h,none⟩),.iface t z] W fun e a=>e=.returned (.tuple #[])/\P a)):
 Calls prog 387 #[.agg #[.string (bs op)],.pointer (some ⟨sb,0,none⟩)] w fun e a=>(e=.returned (.tuple #[])/\P a)\/(e=fH k/\S a):=by
 have C:=aB r;clear r;go_enter func387,ntmps387;go_wp2_with fail;rw[C.out];refine(F.out _ (aQ.refl _)).mono ?_;rintro e H ⟨rfl,m⟩;go_wp2_with fail;refine(E.out _ m).mono ?_;rintro e L ⟨t,z,rfl,p⟩;have A:=aB (n.out _ t z p);clear p;go_wp2_with fail;refine A.out.mono ?_;rintro e I ⟨b,c,rfl,i⟩;obtain⟨J,K⟩:=u.out _ _ _ _ _ i;have x:=aB (D.out _ _ _ _ _ i);clear i;go_wp2_with fail;refine x.out.mono ?_;rintro e G (⟨l,j,rfl,g⟩|⟨rfl,g⟩)
 ·have v:=aB (B.out _ _ _ g);clear g;go_wp2_with fail;refine v.out.mono ?_;rintro e M ⟨rfl,y⟩;go_wp2_with fail;go_end0;exact av_ ⟨rfl,y⟩
 ·go_wp2_with fail;exact⟨rfl,as_ ⟨rfl,g⟩⟩
def LD(w f:World)(sb d h:Nat)(k:Nat)(P S:World->Prop)(r:TypeId->Value->World->Prop)(s:TypeId->Value->TypeId->Value->World->Prop)(o:TypeId->Value->World->Prop)(p:w.alloc (.cells #[] 405)=f)
 (E:Hid (∀W,aQ f W->Calls prog 158 #[.pointer (some ⟨sb,0,none⟩)] W fun e a=>e=.returned (.pointer (some ⟨d,h,none⟩))/\aQ f a))
 (D:Hid (∀W,aQ f W->Calls prog 171 #[.pointer (some ⟨d,h,none⟩)] W fun e a=>∃t z,e=.returned (.iface t z)/\r t z a))
 (m:Hid (∀W t z,r t z W->Calls prog 171 #[.pointer (some ⟨d,h,none⟩)] W fun e a=>∃b c,e=.returned (.iface b c)/\s t z b c a))
 (C:Hid (∀W t z b c,s t z b c W->Calls prog 381 #[.iface b c,.iface t z] W fun e a=>(∃j i,e=.returned (.iface j i)/\o j i a)\/(e=fH k/\S a)))
 (A:Hid (∀W t z,o t z W->Calls prog 371 #[.pointer (some ⟨d,h,none⟩),.iface t z] W fun e a=>e=.returned (.tuple #[])/\P a)):
 Calls prog 380 #[.agg #[],.pointer (some ⟨sb,0,none⟩)] w fun e a=>(e=.returned (.tuple #[])/\P a)\/(e=fH k/\S a):=by
 have B:=aB p;clear p;go_enter func380,ntmps380;go_wp2_with fail;rw[B.out];refine(E.out _ (aQ.refl _)).mono ?_;rintro e G ⟨rfl,l⟩;go_wp2_with fail;refine(D.out _ l).mono ?_;rintro e I ⟨t,z,rfl,n⟩;have y:=aB (m.out _ t z n);clear n;go_wp2_with fail;refine y.out.mono ?_;rintro e H ⟨b,c,rfl,q⟩;have v:=aB (C.out _ _ _ _ _ q);clear q;go_wp2_with fail;refine v.out.mono ?_;rintro e F (⟨j,i,rfl,g⟩|⟨rfl,g⟩)
 ·have u:=aB (A.out _ _ _ g);clear g;go_wp2_with fail;refine u.out.mono ?_;rintro e J ⟨rfl,x⟩;go_wp2_with fail;go_end0;exact av_ ⟨rfl,x⟩
 ·go_wp2_with fail;exact⟨rfl,as_ ⟨rfl,g⟩⟩
def FI(w b:World)(sb d i:Nat)(k:Nat)(P S:World->Prop)(n l:TypeId->Value->World->Prop)(m:w.alloc (.cells #[] 439)=b)
 (x:Hid (∀W,aQ b W->Calls prog 158 #[.pointer (some ⟨sb,0,none⟩)] W fun e a=>e=.returned (.pointer (some ⟨d,i,none⟩))/\aQ b a))
 (v:Hid (∀W,aQ b W->Calls prog 171 #[.pointer (some ⟨d,i,none⟩)] W fun e a=>∃t z,e=.returned (.iface t z)/\n t z a))
 (u:Hid (∀W t z,n t z W->Calls prog 399 #[.iface t z] W fun e a=>(∃g f,e=.returned (.iface g f)/\l g f a)\/(e=fH k/\S a)))
 (r:Hid (∀W t z,l t z W->Calls prog 371 #[.pointer (some ⟨d,i,none⟩),.iface t z] W fun e a=>e=.returned (.tuple #[])/\P a)):
 Calls prog 398 #[.agg #[],.pointer (some ⟨sb,0,none⟩)] w fun e a=>(e=.returned (.tuple #[])/\P a)\/(e=fH k/\S a):=by
 have s:=aB m;clear m;go_enter func398,ntmps398;go_wp2_with fail;rw[s.out];refine(x.out _ (aQ.refl _)).mono ?_;rintro e A ⟨rfl,h⟩;go_wp2_with fail;refine(v.out _ h).mono ?_;rintro e B ⟨t,z,rfl,j⟩;have p:=aB (u.out _ t z j);clear j;go_wp2_with fail;refine p.out.mono ?_;rintro e y (⟨g,f,rfl,c⟩|⟨rfl,c⟩)
 ·have o:=aB (r.out _ _ _ c);clear c;go_wp2_with fail;refine o.out.mono ?_;rintro e C ⟨rfl,q⟩;go_wp2_with fail;go_end0;exact av_ ⟨rfl,q⟩
 ·go_wp2_with fail;exact⟨rfl,as_ ⟨rfl,c⟩⟩
def OY(w g:World)(sb l q c:Nat)(k:Nat)(P S:World->Prop)(u:Option Addr->Nat->World->Prop)(s:TypeId->Value->World->Prop)(m:w.alloc (.cells #[.int .i64 c] 404)=g)
 (G:Hid (∀W,aQ g W->Calls prog 158 #[.pointer (some ⟨sb,0,none⟩)] W fun e b=>e=.returned (.pointer (some ⟨l,q,none⟩))/\aQ g b))
 (F:Hid (∀W,aQ g W->Calls prog 377 #[.pointer (some ⟨l,q,none⟩),.int .i64 c] W fun e b=>∃x d,e=.returned (.slice x c d)/\u x d b))
 (E:Hid (∀W x d,u x d W->Calls prog 376 #[.slice x c d] W fun e b=>(∃o n,e=.returned (.iface o n)/\s o n b)\/(e=fH k/\S b)))
 (B:Hid (∀W t z,s t z W->Calls prog 371 #[.pointer (some ⟨l,q,none⟩),.iface t z] W fun e b=>e=.returned (.tuple #[])/\P b)):
 Calls prog 375 #[.agg #[.int .i64 c],.pointer (some ⟨sb,0,none⟩)] w fun e b=>(e=.returned (.tuple #[])/\P b)\/(e=fH k/\S b):=by
 have a:(w.alloc (.cells #[.int .i64 c] 404)).heap[w.heap.size]?=some (.cells #[.int .i64 c] 404 (0,0)):=aM _ _ rfl _;rw[m] at a;have C:=aB m;have p:=aB (aA (i:=0) a rfl);have j:=aD a;clear m a;go_enter func375,ntmps375;go_wp2_with fail;rw[C.out];refine(G.out _ (aQ.refl _)).mono ?_;rintro e I ⟨rfl,f⟩;have J:=bB f.heap p.out;have D:=gM f.heap j;go_wp2_with fail;refine(F.out _ f).mono ?_;rintro e K ⟨x,d,rfl,r⟩;have y:=aB (E.out _ x d r);clear r;go_wp2_with fail;refine y.out.mono ?_;rintro e H (⟨o,n,rfl,h⟩|⟨rfl,h⟩)
 ·have v:=aB (B.out _ _ _ h);clear h;go_wp2_with fail;refine v.out.mono ?_;rintro e L ⟨rfl,A⟩;go_wp2_with fail;go_end0;exact av_ ⟨rfl,A⟩
 ·go_wp2_with fail;exact⟨rfl,as_ ⟨rfl,h⟩⟩
def WH{P:Program}{b:Array Oper}{o:Oper}{a:Act}{w:World}{K:Act->World->Prop}{Q:Exit->Act->World->Prop}{E:Prop}(c:Value)
 (h:if Region.wanted o (yielded b a.tmps)=true then Oper.wp P o a w K Q else E) (_d:Hid False->K (a.put o.dst c) w):
 if Region.wanted o (yielded b a.tmps)=true then Oper.wp P o a w K Q else E:=h
def RY(w f:World)(sb h o:Nat)(op:List UInt8)(P:World->Prop)(m q:TypeId->Value->World->Prop)(j:w.alloc (.cells #[.string (bs op)] 407)=f)
 (C:Hid (∀W,aQ f W->Calls prog 158 #[.pointer (some ⟨sb,0,none⟩)] W fun e b=>e=.returned (.pointer (some ⟨h,o,none⟩))/\aQ f b))
 (B:Hid (∀W,aQ f W->Calls prog 171 #[.pointer (some ⟨h,o,none⟩)] W fun e b=>∃t z,e=.returned (.iface t z)/\m t z b))
 (r:Hid (∀W t z,m t z W->W.cell? ⟨w.heap.size,0,none⟩=some (.string (bs op))/\w.heap.size<W.heap.size))
 (A:Hid (∀W t z,m t z W->Calls prog 384 #[.string (bs op),.iface t z] W fun e b=>∃l k,e=.returned (.iface l k)/\q l k b))
 (v:Hid (∀W t z,q t z W->Calls prog 371 #[.pointer (some ⟨h,o,none⟩),.iface t z] W fun e b=>e=.returned (.tuple #[])/\P b)):
 Calls prog 383 #[.agg #[.string (bs op)],.pointer (some ⟨sb,0,none⟩)] w fun e b=>e=.returned (.tuple #[])/\P b:=by
 have a:(w.alloc (.cells #[.string (bs op)] 407)).heap[w.heap.size]?=some (.cells #[.string (bs op)] 407 (0,0)):=aM _ _ rfl _;rw[j] at a;have x:=aB j;have n:=aB (aA (i:=0) a rfl);have g:=aD a;clear j a;go_enter func383,ntmps383;go_wp2_with fail;rw[x.out];refine(C.out _ (aQ.refl _)).mono ?_;rintro e E ⟨rfl,c⟩;have H:=bB c.heap n.out;have y:=gM c.heap g;go_wp2_with fail;go_region_law (go_simp;first|(go_at_call 171;refine(B.out _ (c.trans (aQ.drew _))).mono ?_;rintro e J ⟨t,z,rfl,p⟩;have d:=r.out _ _ _ p;have F:=d.1;have I:=d.2;clear d)|(go_at_call 384;refine(A.out _ _ _ p).mono ?_;rintro e G ⟨l,k,rfl,u⟩)|(go_at_call 371;refine(v.out _ _ _ u).mono ?_;rintro e D ⟨rfl,s⟩))
 all_goals
  go_wp2_with fail;go_end0;exact⟨rfl,s⟩
def JI(w h:World)(sb p q:Nat)(op:List UInt8)(k:Nat)(S:World->Prop)(m:TypeId->Value->World->Prop)(l:w.alloc (.cells #[.string (bs op)] 407)=h)
 (A:Hid (∀W,aQ h W->Calls prog 158 #[.pointer (some ⟨sb,0,none⟩)] W fun e c=>e=.returned (.pointer (some ⟨p,q,none⟩))/\aQ h c))
 (y:Hid (∀W,aQ h W->Calls prog 171 #[.pointer (some ⟨p,q,none⟩)] W fun e c=>∃t z,e=.returned (.iface t z)/\m t z c))
 (r:Hid (∀W t z,m t z W->W.cell? ⟨w.heap.size,0,none⟩=some (.string (bs op))/\w.heap.size<W.heap.size))
 (x:Hid (∀W t z,m t z W->Calls prog 384 #[.string (bs op),.iface t z] W fun e c=>e=fH k/\S c)):
 Calls prog 383 #[.agg #[.string (bs op)],.pointer (some ⟨sb,0,none⟩)] w fun e c=>e=fH k/\S c:=by
 have b:(w.alloc (.cells #[.string (bs op)] 407)).heap[w.heap.size]?=some (.cells #[.string (bs op)] 407 (0,0)):=aM _ _ rfl _;rw[l] at b;have u:=aB l;have n:=aB (aA (i:=0) b rfl);have j:=aD b;clear l b;go_enter func383,ntmps383;go_wp2_with fail;rw[u.out];refine(A.out _ (aQ.refl _)).mono ?_;rintro e B ⟨rfl,d⟩;have E:=bB d.heap n.out;have v:=gM d.heap j;go_wp2_with fail;go_region_law (first|(go_simp;go_at_call 171;refine(y.out _ (d.trans (aQ.drew _))).mono ?_;rintro e G ⟨t,z,rfl,o⟩;have f:=r.out _ _ _ o;have C:=f.1;have F:=f.2;clear f)|(refine WH (.iface 316 (.bool true)) ?_ ?_;(focus go_simp;go_at_call 384;refine(x.out _ _ _ o).mono ?_;rintro e D ⟨rfl,s⟩;exact⟨rfl,rfl,s⟩);intro a)|(refine WH (.tuple #[]) a.out.elim ?_;intro g))
 all_goals exact a.out.elim
def OX(w d:World)(sb l q c g n o:Nat)(t:TypeId)(z:Value)(P:World->Prop)(m:w.alloc (.cells #[.int .i64 c] 402)=d)
 (B:Hid (∀W,aQ d W->Calls prog 158 #[.pointer (some ⟨sb,0,none⟩)] W fun e f=>e=.returned (.pointer (some ⟨l,q,none⟩))/\aQ d f))
 (s:d.cell? ⟨l,q+4,none⟩=some (.slice (some ⟨g,0,none⟩) n o)) (r:d.cell? ⟨g,c,none⟩=some (.iface t z)) (u:c<n)
 (x:Hid (∀W,aQ d W->Calls prog 371 #[.pointer (some ⟨l,q,none⟩),.iface t z] W fun e f=>e=.returned (.tuple #[])/\P f)):
 Calls prog 374 #[.agg #[.int .i64 c],.pointer (some ⟨sb,0,none⟩)] w fun e f=>e=.returned (.tuple #[])/\P f:=by
 have a:(w.alloc (.cells #[.int .i64 c] 402)).heap[w.heap.size]?=some (.cells #[.int .i64 c] 402 (0,0)):=aM _ _ rfl _;rw[m] at a;have y:=aB m;have h:=aB (aA (i:=0) a rfl);have j:=aD a;have k:=aB s;have p:=aB r;have J:(0:Int)<=(c:Int):=by omega
 have F:(c:Int)<(n:Int):=by omega
 clear m a s r;go_enter func374,ntmps374;go_wp2_with fail;rw[y.out];have E:=h.out;go_region_law (go_simp;first|(go_at_call 158;refine(B.out _ (by first|assumption|exact aQ.drew _)).mono ?_;rintro e D ⟨rfl,b⟩;have G:=bB b.heap h.out;have A:=gM b.heap j;have H:=bB b.heap k.out;have I:=bB b.heap p.out)|(go_at_call 371;refine(x.out _ b).mono ?_;rintro e C ⟨rfl,v⟩))
 all_goals
  go_wp2_with fail;go_end0;exact⟨rfl,v⟩
def ME(w d:World)(sb g h o:Nat)(j:Option Addr)(P:World->Prop)(r:w.alloc (.cells #[.int .i64 o,.pointer j] 365)=d)
 (D:Hid (∀W,aQ d W->Calls prog 158 #[.pointer (some ⟨sb,0,none⟩)] W fun e q=>e=.returned (.pointer (some ⟨g,h,none⟩))/\aQ d q))
 (c:∃u,d.cell? ⟨g,h+2,none⟩=some u) (f:∃u,d.cell? ⟨g,h+3,none⟩=some u) (m:d.frozen? ⟨g,h+2,none⟩=false) (l:d.frozen? ⟨g,h+3,none⟩=false) (z:g<d.heap.size)
 (A:Hid (∀W,aQ d W->P ((W.setCell ⟨g,h+2,none⟩ (.int .i64 o)).setCell ⟨g,h+3,none⟩ (.pointer j)))):
 Calls prog 373 #[.agg #[.int .i64 o,.pointer j],.pointer (some ⟨sb,0,none⟩)] w fun e q=>e=.returned (.tuple #[])/\P q:=by
 have b:(w.alloc (.cells #[.int .i64 o,.pointer j] 365)).heap[w.heap.size]?=some (.cells #[.int .i64 o,.pointer j] 365 (0,0)):=aM _ _ rfl _;rw[r] at b;have B:=aB r;have n:=aB (aA (i:=0) b rfl);have k:=aB (aA (i:=1) b rfl);have p:=aD b;obtain⟨u2,c⟩:=c;obtain⟨u3,f⟩:=f;have x:=aB c;have s:=aB f;have t:=aB m;have v:=aB l;have I:=n.out;have J:=k.out;clear r b c f m l;go_enter func373,ntmps373;go_wp2_with fail;rw[B.out];go_region_law (go_simp;go_at_call 158;refine(D.out _ (aQ.drew _)).mono ?_;rintro e E ⟨rfl,a⟩;have K:=bB a.heap n.out;have H:=bB a.heap k.out;have F:=bB a.heap x.out;have G:=bB a.heap s.out;have M:=qV a.heap t.out;have L:=qV a.heap v.out;have C:=gM a.heap p;have y:=gM a.heap z)
 all_goals
  go_wp2_with fail;go_end0;exact⟨rfl,A.out _ a⟩
def kA(n:Int):aK (bC n)=1:=by rw[eR];rfl
def lM(b:Bool):aK (bO b)=1:=by rw[eR];rfl
def jE:aK bN<=200:=by rw[eR];decide
def ZC(op:List UInt8)(a:aJ):aK (fF op a).1<=200:=by
 unfold fF;repeat' split
 all_goals first|(show aK (bC _)<=200;rw[kA];omega)|(show aK (bO _)<=200;rw[lM];omega)|exact jE
def UO(op:List UInt8)(x y:Int):aK (jA op x y).1<=200:=by
 unfold jA;repeat' split
 all_goals first|(show aK (bC _)<=200;rw[kA];omega)|(show aK (bO _)<=200;rw[lM];omega)|exact jE
def LA(a b:aJ):aK (iZ a b).1<=200:=by
 unfold iZ;dsimp only;by_cases h:200<aK (if a.sort=3 then aW (a.l++b.l) else bK (a.s++b.s))
 ·rw[if_pos h];exact jE
 ·rw[if_neg h];exact Nat.le_of_not_lt h
def XS(op:List UInt8)(a b:aJ):aK (eL op a b).1<=200:=by
 unfold eL;repeat' split
 all_goals first|exact UO _ _ _|exact LA _ _|(show aK (bO _)<=200;rw[lM];omega)|exact jE
def PA(r:aJ × Nat)(h:(gY r).2=0):aK (gY r).1<=200:=by
 unfold gY at h ⊢
 by_cases a:r.2=0
 ·rw[if_pos a] at h ⊢
  by_cases b:200<aK r.1
  ·rw[if_pos b] at h;cases h
  ·rw[if_neg b];omega
 ·rw[if_neg a] at h;exact absurd h a
def PV.bool{F:Nat->Prop}{w:World}{v:Value}{a:aJ}(h:PV F w v a)(d:a.sort=1):a=bO (decide (a.n=1)):=by
 rcases h.cases with ⟨n,_,rfl,_⟩|⟨b,_,rfl⟩|⟨s,_,rfl⟩|⟨x,c,l,_,rfl,_⟩
 ·simp[bC] at d
 ·cases b<;>rfl
 ·simp[bK] at d
 ·simp[aW] at d
def iS{f:aI}{vs:List aJ}{a:aJ}(h:f.ops=vs++[a]):f.last=a:=by simp[aI.last,h]
def mF{f:aI}{vs:List aJ}{a:aJ}(h:f.ops=vs++[a]):f.pop.ops=vs:=by simp[aI.pop,h]
def nY(fp:Nat->Value)(F:Nat->Prop)(base sb:Nat)(t0 s0:Value)(own:List Nat)(w:World)(below:List aI)(tape:List Int)(out:List (List UInt8))(r:aI × Nat)(e:Ending)(w':World):Prop:=
 v7 r.2 e/\Done fp F base sb t0 s0 own w ⟨below++[r.1],tape,out⟩ w'
section
variable {fp:Nat->Value} {F:Nat->Prop} {base:Nat} {w:World} {sb gf cap:Nat} {t0 tv outv s0:Value} {fvs:List FVal} {below:List aI} {f:aI} {tape:List Int} {out:List (List UInt8)}
def nY.ok{own:List Nat}{r:aI × Nat}{g:aI}{w':World}(a:r=(g,0))(h:Done fp F base sb t0 s0 own w ⟨below++[g],tape,out⟩ w'):nY fp F base sb t0 s0 own w below tape out r (.returned (.tuple #[])) w':=by
 subst a;exact⟨av_ ⟨rfl,rfl⟩,h⟩
def nY.stop{own:List Nat}{r:aI × Nat}{g:aI}{k:Nat}{w':World}(b:r=(g,k))(a:k≠0)(h:Done fp F base sb t0 s0 own w ⟨below++[g],tape,out⟩ w'):nY fp F base sb t0 s0 own w below tape out r (fH k) w':=by
 subst b;exact⟨as_ ⟨a,rfl⟩,h⟩
def cT.count{m:cF}(h:cT fp F base w sb gf cap t0 tv outv s0 fvs m):fvs.length=m.frames.length:=h.frs.length
def cT.mid(h:cT fp F base w sb gf cap t0 tv outv s0 fvs ⟨below++[f],tape,out⟩)(b:base<=w.heap.size)(a:Obj):Mid fp base sb gf below.length t0 s0 (aF sb gf outv fvs) (w.alloc a) F ⟨below++[f],tape,out⟩ (w.alloc a):=
 Mid.init h (by rw[h.count];simp) b a
def Mid.topS{own:List Nat}{a:World}{G:Nat->Prop}{n:Nat}{m:cF}(h:Mid fp base sb gf n t0 s0 own a G m a)(g:n<=15):Hid (∀W,aQ a W->Calls prog 158 #[.pointer (some ⟨sb,0,none⟩)] W fun e b=>e=.returned (.pointer (some ⟨gf,n*6,none⟩))/\aQ a b):=fun W c=>by
 refine((h.same c).top g).mono ?_;rintro e b ⟨d,f⟩;exact⟨d,c.trans f⟩
def Mid.box{n:Nat}{G:Nat->Prop}{m:cF}{cs:Array Value}{a:TypeId}{W:World}(h:cT fp F base w sb gf cap t0 tv outv s0 fvs ⟨below++[f],tape,out⟩)(c:Mid fp base sb gf n t0 s0 (aF sb gf outv fvs) (w.alloc (.cells cs a)) G m W):W.heap[w.heap.size]?=some (.cells cs a (0,0)):=by
 rw[c.old (by simp) (fun b=>Nat.lt_irrefl _ (h.lt _ b))]
 exact aM _ _ rfl _
def Z3(h:cT fp F base w sb gf cap t0 tv outv s0 fvs ⟨below++[f],tape,out⟩)(c:below.length<=15)(b:base<=w.heap.size)(l:f.ops.length<=99000)(d:∃j a,f.ops=j++[a]):
 Calls prog 410 #[.agg #[],.pointer (some ⟨sb,0,none⟩)] w (nY fp F base sb t0 s0 (aF sb gf outv fvs) w below tape out (aL .drop f)):=by
 obtain⟨j,a,m⟩:=d;have k:=h.mid b (.cells #[] 449);refine(QM w _ sb gf (below.length*6) (fun g=>Done fp F base sb t0 s0 (aF sb gf outv fvs) w ⟨below++[f.pop],tape,out⟩ g) rfl (k.topS c) fun W o=>?_).mono ?_
 ·refine((k.same o).pop m (by omega)).mono ?_
  rintro e g ⟨t,z,n,_,_,i⟩;exact⟨t,z,n,i.done (Ext.refl _ _)⟩
 ·rintro e g ⟨rfl,i⟩;exact nY.ok rfl i
def H7(h:cT fp F base w sb gf cap t0 tv outv s0 fvs ⟨below++[f],tape,out⟩)(l:below.length<=15)(i:base<=w.heap.size)(k:f.ops.length<=99000)(o:∃s a,f.ops=s++[a]):
 Calls prog 396 #[.agg #[],.pointer (some ⟨sb,0,none⟩)] w (nY fp F base sb t0 s0 (aF sb gf outv fvs) w below tape out (aL .truth f)):=by
 obtain⟨s,a,m⟩:=o;have r:=h.mid i (.cells #[] 436);have v:f.pop.ops.length<=100000:=by rw[mF m];rw[m,aw_] at k;omega
 refine(JK w _ sb gf (below.length*6) (fun g=>a.sort=1/\Done fp F base sb t0 s0 (aF sb gf outv fvs) w ⟨below++[f.pop.push a],tape,out⟩ g) (fun g=>a.sort≠1/\Done fp F base sb t0 s0 (aF sb gf outv fvs) w ⟨below++[f.pop],tape,out⟩ g)
  (fun t z W=>PV F W (.iface t z) a/\aK a<=200/\Mid fp base sb gf below.length t0 s0 (aF sb gf outv fvs) (w.alloc (.cells #[] 436)) F ⟨below++[f.pop],tape,out⟩ W)
  (fun b W=>a.sort=1/\a=bO b/\Mid fp base sb gf below.length t0 s0 (aF sb gf outv fvs) (w.alloc (.cells #[] 436)) F ⟨below++[f.pop],tape,out⟩ W) rfl (r.topS l) (fun W y=>?_) (fun W t z p=>?_) (fun W b p=>?_)).mono ?_
 ·refine((r.same y).pop m (by omega)).mono ?_
  rintro e g ⟨t,z,q,c,d,j⟩;exact⟨t,z,q,c,d,j⟩
 ·obtain⟨c,d,j⟩:=p;refine(oP F _ a W c).mono ?_;rintro e g ⟨rfl,⟨n,rfl⟩|⟨n,rfl⟩⟩
  ·exact av_ ⟨_,rfl,n,c.bool n,j⟩
  ·exact as_ ⟨rfl,n,j.done (Ext.refl _ _)⟩
 ·obtain⟨c,d,j⟩:=p;rw[d] at c ⊢
  refine(j.push (PV.tru F W b) (by rw[lM];omega) v).mono ?_
  rintro e g ⟨q,u⟩;exact⟨q,c,u.done (Ext.refl _ _)⟩
 ·have x:aL .truth f=if a.sort=1 then (f.pop.push a,0) else (f.pop,2):=by simp[aL,iS m]
  rw[x];rintro e g (⟨rfl,c,d⟩|⟨rfl,c,d⟩)
  ·exact nY.ok (if_pos c) d
  ·exact nY.stop (if_neg c) (by decide) d
end
section
variable {fp:Nat->Value} {F:Nat->Prop} {base:Nat} {w:World} {sb gf cap:Nat} {t0 tv outv s0:Value} {fvs:List FVal} {below:List aI} {f:aI} {tape:List Int} {out:List (List UInt8)}
def Mid.next{own:List Nat}{c:World}{G:Nat->Prop}{n:Nat}(h:Mid fp base sb gf n t0 s0 own c G ⟨below++[f],tape,out⟩ w)(b:Nat):Mid fp base sb gf n t0 s0 own c G ⟨below++[{ f with next:=b }],tape,out⟩ (w.setCell ⟨gf,n*6+1,none⟩ (.int .i64 b)):=
 h.set 1 (.int .i64 b) (by omega) (fun v=>{ v with nx:=.int .i64 b }) (fun _=>rfl) (fun _ _=>rfl) fun _ a=>⟨a.fn,rfl,a.ln,a.sp,a.vars,a.ops⟩
def Mid.cell{own:List Nat}{e:World}{G:Nat->Prop}{n:Nat}(h:Mid fp base sb gf n t0 s0 own e G ⟨below++[f],tape,out⟩ w)(j:Nat)(a:j<6):(∃u,w.cell? ⟨gf,n*6+j,none⟩=some u)/\w.frozen? ⟨gf,n*6+j,none⟩=false/\gf<w.heap.size:=by
 obtain⟨v,i,b,g⟩:=h.cells;obtain⟨d,c⟩:=g j (v.cells[j]'(by simpa [FVal.cells] using a)) (aH_ _)
 exact⟨⟨_,d⟩,c,b⟩
def X7(b:Nat)(h:cT fp F base w sb gf cap t0 tv outv s0 fvs ⟨below++[f],tape,out⟩)(c:below.length<=15)(a:base<=w.heap.size):
 Calls prog 412 #[.agg #[.int .i64 b],.pointer (some ⟨sb,0,none⟩)] w (nY fp F base sb t0 s0 (aF sb gf outv fvs) w below tape out (aL (.jump b) f)):=by
 have g:=h.mid a (.cells #[.int .i64 b] 462);obtain⟨k,d,l⟩:=g.cell 1 (by omega)
 refine(PF w _ sb gf (below.length*6) b (fun i=>Done fp F base sb t0 s0 (aF sb gf outv fvs) w ⟨below++[{ f with next:=b }],tape,out⟩ i) rfl (g.topS c) k d l fun W j=>?_).mono ?_
 ·exact((g.same j).next b).done (Ext.refl _ _)
 ·rintro e i ⟨rfl,d⟩;exact nY.ok rfl d
def XP(i:Nat)(h:cT fp F base w sb gf cap t0 tv outv s0 fvs ⟨below++[f],tape,out⟩)(m:below.length<=15)(j:base<=w.heap.size)(q:f.ops.length<=99000)(n:∃s a,f.ops=s++[a]):
 Calls prog 411 #[.agg #[.int .i64 i],.pointer (some ⟨sb,0,none⟩)] w (nY fp F base sb t0 s0 (aF sb gf outv fvs) w below tape out (aL (.skip i) f)):=by
 obtain⟨s,a,u⟩:=n;have p:=h.mid j (.cells #[.int .i64 i] 461)
 refine(EH w _ sb gf (below.length*6) i (fun l=>a.sort=1/\Done fp F base sb t0 s0 (aF sb gf outv fvs) w ⟨below++[if a.n=1 then f.pop else { f.pop with next:=i }],tape,out⟩ l) (fun l=>a.sort≠1/\Done fp F base sb t0 s0 (aF sb gf outv fvs) w ⟨below++[f.pop],tape,out⟩ l)
  (fun t z W=>PV F W (.iface t z) a/\aK a<=200/\Mid fp base sb gf below.length t0 s0 (aF sb gf outv fvs) (w.alloc (.cells #[.int .i64 i] 461)) F ⟨below++[f.pop],tape,out⟩ W)
  (fun b W=>a.sort=1/\b=decide (a.n=1)/\Mid fp base sb gf below.length t0 s0 (aF sb gf outv fvs) (w.alloc (.cells #[.int .i64 i] 461)) F ⟨below++[f.pop],tape,out⟩ W) rfl (p.topS m) (fun W C=>?_) (fun W t z k=>?_) (fun W k=>?_) (fun W k=>?_) (fun W b k=>?_)).mono ?_
 ·refine((p.same C).pop u (by omega)).mono ?_
  rintro e l ⟨t,z,B,c,d,g⟩;exact⟨t,z,B,c,d,g⟩
 ·obtain⟨c,d,g⟩:=k;refine(oP F _ a W c).mono ?_;rintro e l ⟨rfl,⟨o,rfl⟩|⟨o,rfl⟩⟩
  ·exact av_ ⟨_,rfl,o,rfl,g⟩
  ·exact as_ ⟨rfl,o,g.done (Ext.refl _ _)⟩
 ·obtain⟨c,d,g⟩:=k;refine⟨c,?_⟩;rw[if_pos (of_decide_eq_true d.symm)];exact g.done (Ext.refl _ _)
 ·obtain⟨c,d,g⟩:=k;refine⟨c,?_⟩;rw[if_neg (of_decide_eq_false d.symm)];exact(g.next i).done (Ext.refl _ _)
 ·obtain⟨c,d,g⟩:=k;have r:=Mid.box h g;obtain⟨v,A,x⟩:=g.cell 1 (by omega)
  exact⟨aA r rfl,aD r,v,A,x⟩
 ·have y:aL (.skip i) f=if a.sort=1 then (if a.n=1 then f.pop else { f.pop with next:=i },0) else (f.pop,2):=by simp[aL,iS u]
  rw[y];rintro e l (⟨rfl,c,d⟩|⟨rfl,c,d⟩)
  ·exact nY.ok (if_pos c) d
  ·exact nY.stop (if_neg c) (by decide) d
def NQ(k:Bool)(j:Nat)(h:cT fp F base w sb gf cap t0 tv outv s0 fvs ⟨below++[f],tape,out⟩)(r:below.length<=15)(n:base<=w.heap.size)(o:f.ops.length<=99000)(l:∃y a,f.ops=y++[a]):
 Calls prog 397 #[.agg #[.bool k,.int .i64 j],.pointer (some ⟨sb,0,none⟩)] w (nY fp F base sb t0 s0 (aF sb gf outv fvs) w below tape out (aL (.shortcut k j) f)):=by
 obtain⟨y,a,u⟩:=l;have x:=h.mid n (.cells #[.bool k,.int .i64 j] 438);have D:f.pop.ops.length<=100000:=by rw[mF u];rw[u,aw_] at o;omega
 refine(zK w _ sb gf (below.length*6) j k (fun m=>a.sort=1/\Done fp F base sb t0 s0 (aF sb gf outv fvs) w ⟨below++[if decide (a.n=1)=k then { f.pop.push a with next:=j } else f.pop],tape,out⟩ m) (fun m=>a.sort≠1/\Done fp F base sb t0 s0 (aF sb gf outv fvs) w ⟨below++[f.pop],tape,out⟩ m)
  (fun t z W=>PV F W (.iface t z) a/\aK a<=200/\Mid fp base sb gf below.length t0 s0 (aF sb gf outv fvs) (w.alloc (.cells #[.bool k,.int .i64 j] 438)) F ⟨below++[f.pop],tape,out⟩ W)
  (fun b W=>a.sort=1/\b=decide (a.n=1)/\a=bO b/\Mid fp base sb gf below.length t0 s0 (aF sb gf outv fvs) (w.alloc (.cells #[.bool k,.int .i64 j] 438)) F ⟨below++[f.pop],tape,out⟩ W)
  (fun b W=>a.sort=1/\b=decide (a.n=1)/\Mid fp base sb gf below.length t0 s0 (aF sb gf outv fvs) (w.alloc (.cells #[.bool k,.int .i64 j] 438)) F ⟨below++[f.pop.push a],tape,out⟩ W) rfl (x.topS r) (fun W H=>?_) (fun W t z i=>?_) (fun W b i=>?_) (fun W b i l=>?_) (fun W b i s=>?_) (fun W b i=>?_) (fun W b i=>?_)).mono ?_
 ·refine((x.same H).pop u (by omega)).mono ?_
  rintro e m ⟨t,z,s,c,d,g⟩;exact⟨t,z,s,c,d,g⟩
 ·obtain⟨c,d,g⟩:=i;refine(oP F _ a W c).mono ?_;rintro e m ⟨rfl,⟨v,rfl⟩|⟨v,rfl⟩⟩
  ·exact av_ ⟨_,rfl,v,rfl,c.bool v,g⟩
  ·exact as_ ⟨rfl,v,g.done (Ext.refl _ _)⟩
 ·obtain⟨c,d,g,q⟩:=i;refine(q.push (a:=a) (by rw[g];exact PV.tru F W b) (by rw[g,lM];omega) D).mono ?_
  rintro e m ⟨s,C⟩;exact⟨s,c,d,C⟩
 ·obtain⟨c,d,g,q⟩:=i;refine⟨c,?_⟩;rw[if_neg (by rw[<-d];exact l)]
  exact q.done (Ext.refl _ _)
 ·obtain⟨c,d,g⟩:=i;refine⟨c,?_⟩;rw[if_pos (by rw[<-d];exact s)]
  exact(g.next j).done (Ext.refl _ _)
 ·obtain⟨c,d,g,q⟩:=i;have p:=Mid.box h q;exact⟨aA p rfl,aD p⟩
 ·obtain⟨c,d,g⟩:=i;have p:=Mid.box h g;obtain⟨A,G,B⟩:=g.cell 1 (by omega)
  exact⟨aA p rfl,aD p,A,G,B⟩
 ·have E:aL (.shortcut k j) f=if a.sort=1 then (if decide (a.n=1)=k then { f.pop.push a with next:=j } else f.pop,0) else (f.pop,2):=by simp[aL,iS u]
  rw[E];rintro e m (⟨rfl,c,d⟩|⟨rfl,c,d⟩)
  ·exact nY.ok (if_pos c) d
  ·exact nY.stop (if_neg c) (by decide) d
end
section
variable {fp:Nat->Value} {F:Nat->Prop} {base:Nat} {w:World} {sb gf cap:Nat} {t0 tv outv s0:Value} {fvs:List FVal} {below:List aI} {f:aI} {tape:List Int} {out:List (List UInt8)}
def Mid.apart{own:List Nat}{d:World}{G:Nat->Prop}{n:Nat}{m:cF}(h:Mid fp base sb gf n t0 s0 own d G m w):∀k,G k->k<w.heap.size/\k≠gf:=by
 obtain⟨l,j,f,i,c,g,o,b,p⟩:=h;exact fun k a=>⟨(b.apart k a).1,fun e=>(b.apart k a).2 (by simp[aF,e])⟩
def lZ.cell{G:Nat->Prop}{v:Value}{l:List aJ}{k:Nat}(h:lZ G base w v l)(m:k<l.length):∃g e t z,v=.slice (some ⟨g,0,none⟩) l.length e/\w.cell? ⟨g,k,none⟩=some (.iface t z)/\PV G w (.iface t z) l[k]/\aK l[k]<=200:=by
 obtain⟨⟨A,o,x,q⟩,n⟩:=h;obtain⟨u,b,i⟩:=q k m;obtain⟨t,z,rfl⟩:=i.form;rcases o.2 with ⟨y,B⟩|⟨g,c,s,rfl,p,a,f,j,r,d⟩
 ·omega
 refine⟨g,c,t,z,rfl,aA a ?_,i,n _ (aR_ _)⟩;rw[<-d,aU_] at b;split at b
 ·simpa using b
 ·cases b
def X1(k:Nat)(h:cT fp F base w sb gf cap t0 tv outv s0 fvs ⟨below++[f],tape,out⟩)(d:below.length<=15)(a:base<=w.heap.size)(n:f.ops.length<=99000)(m:k<f.vars.length):
 Calls prog 374 #[.agg #[.int .i64 k],.pointer (some ⟨sb,0,none⟩)] w (nY fp F base sb t0 s0 (aF sb gf outv fvs) w below tape out (aL (.load k) f)):=by
 have l:=h.mid a (.cells #[.int .i64 k] 402);obtain⟨v,u,B,A⟩:=l.cells;obtain⟨g,c,t,z,r,q,x,y⟩:=u.vars.cell m;have o:=(A 4 v.vv rfl).1;rw[r] at o;refine(OX w _ sb gf (below.length*6) k g f.vars.length c t z (fun i=>Done fp F base sb t0 s0 (aF sb gf outv fvs) w ⟨below++[f.push f.vars[k]],tape,out⟩ i) rfl (l.topS d) o q m fun W p=>?_).mono ?_
 ·refine((l.same p).push (x.keep fun b _=>by rw[p.heap]) y (by omega)).mono ?_
  rintro e i ⟨s,j⟩;exact⟨s,j.done (Ext.refl _ _)⟩
 ·rintro e i ⟨rfl,j⟩;refine nY.ok ?_ j;simp[aL,aH_ m]
def P7(l:Nat)(sp:Value)(s:List (List UInt8))(h:cT fp F base w sb gf cap t0 tv outv s0 fvs ⟨below++[f],tape,out⟩)(d:below.length<=15)(c:base<=w.heap.size)(p:eE F w sp s):
 Calls prog 373 #[.agg #[.int .i64 l,sp],.pointer (some ⟨sb,0,none⟩)] w (nY fp F base sb t0 s0 (aF sb gf outv fvs) w below tape out (aL (.begin l s) f)):=by
 obtain⟨sp,rfl⟩:=p.form;have g:=h.mid c (.cells #[.int .i64 l,.pointer sp] 365);obtain⟨t,i,x⟩:=g.cell 2 (by omega)
 obtain⟨r,z,A⟩:=g.cell 3 (by omega)
 refine(ME w _ sb gf (below.length*6) l sp (fun n=>Done fp F base sb t0 s0 (aF sb gf outv fvs) w ⟨below++[{ f with line:=l,seen:=s }],tape,out⟩ n) rfl (g.topS d) t r i z x fun W q=>?_).mono ?_
 ·have o:=g.same q
  have k:eE F W (.pointer sp) s:=eE.keep (fun b j=>by
   rw[q.heap];exact aA_ _ _ _ (h.apart b j).1) (fun _ h=>h) p
  have u:Mid fp base sb gf below.length t0 s0 (aF sb gf outv fvs) _ F ⟨below++[{ f with line:=l }],tape,out⟩ _:=o.set 2 (.int .i64 l) (by omega) (fun v=>{ v with ln:=.int .i64 l }) (fun _=>rfl) (fun _ _=>rfl) fun _ a=>⟨a.fn,a.nx,rfl,a.sp,a.vars,a.ops⟩
  have m:eE F (W.setCell ⟨gf,below.length*6+2,none⟩ (.int .i64 l)) (.pointer sp) s:=eE.keep (fun b j=>ax_ _ _ _ _ (o.apart b j).2) (fun _ h=>h) k
  have y:Mid fp base sb gf below.length t0 s0 (aF sb gf outv fvs) _ F ⟨below++[{ f with line:=l,seen:=s }],tape,out⟩ _:=u.set 3 (.pointer sp) (by omega) (fun v=>{ v with sp:=.pointer sp }) (fun _=>rfl) (fun _ _=>rfl) fun _ a=>⟨a.fn,a.nx,a.ln,m,a.vars,a.ops⟩
  exact y.done (Ext.refl _ _)
 ·rintro e n ⟨rfl,i⟩;exact nY.ok rfl i
def G6(op:List UInt8)(I:op=[45]\/op=[33])(h:cT fp F base w sb gf cap t0 tv outv s0 fvs ⟨below++[f],tape,out⟩)(d:below.length<=15)(g:base<=w.heap.size)(j:f.ops.length<=99000)(q:∃y a,f.ops=y++[a]):
 Calls prog 383 #[.agg #[.string (bs op)],.pointer (some ⟨sb,0,none⟩)] w (nY fp F base sb t0 s0 (aF sb gf outv fvs) w below tape out (aL (.unary op) f)):=by
 obtain⟨y,a,p⟩:=q;have s:=h.mid g (.cells #[.string (bs op)] 407);have K:f.pop.ops.length<=100000:=by rw[mF p];rw[p,aw_] at j;omega
 have i:∀(W:World) (v:Value),PV F W v a->Calls prog 384 #[.string (bs op),v] W (lB F W (fF (op++[120]) a)):=fun W v C=>by
  rcases I with rfl|rfl
  ·exact CD 45 (av_ rfl) F v a W C
  ·exact CD 33 (as_ rfl) F v a W C
 have A:aL (.unary op) f=if (fF (op++[120]) a).2=0 then (f.pop.push (fF (op++[120]) a).1,0) else (f.pop,(fF (op++[120]) a).2):=by simp[aL,iS p]
 have m:=ZC (op++[120]) a;generalize fF (op++[120]) a=r at i A m;rw[A]
 have D:Hid (∀W,aQ (w.alloc (.cells #[.string (bs op)] 407)) W->Calls prog 171 #[.pointer (some ⟨gf,below.length*6,none⟩)] W fun e b=>∃t z,e=.returned (.iface t z)/\PV F b (.iface t z) a/\Mid fp base sb gf below.length t0 s0 (aF sb gf outv fvs) (w.alloc (.cells #[.string (bs op)] 407)) F ⟨below++[f.pop],tape,out⟩ b):=fun W M=>by
  refine((s.same M).pop p (by omega)).mono ?_
  rintro e b ⟨t,z,x,H,n,L⟩;exact⟨t,z,x,H,L⟩
 by_cases l:r.2=0
 ·rw[if_pos l];refine(RY w _ sb gf (below.length*6) op (fun b=>Done fp F base sb t0 s0 (aF sb gf outv fvs) w ⟨below++[f.pop.push r.1],tape,out⟩ b) (fun t z W=>PV F W (.iface t z) a/\Mid fp base sb gf below.length t0 s0 (aF sb gf outv fvs) (w.alloc (.cells #[.string (bs op)] 407)) F ⟨below++[f.pop],tape,out⟩ W) (fun t z W=>PV F W (.iface t z) r.1/\Mid fp base sb gf below.length t0 s0 (aF sb gf outv fvs) (w.alloc (.cells #[.string (bs op)] 407)) F ⟨below++[f.pop],tape,out⟩ W) rfl (s.topS d) D (fun W t z c=>?_) (fun W t z c=>?_) (fun W t z c=>?_)).mono ?_
  ·have k:=Mid.box h c.2;exact⟨aA k rfl,aD k⟩
  ·refine(i W _ c.1).mono ?_;rintro e b ⟨rfl,⟨_,u,rfl,B⟩|⟨o,_⟩⟩
   ·obtain⟨J,G,rfl⟩:=B.form;exact⟨J,G,rfl,B,c.2⟩
   ·exact absurd l o
  ·refine(c.2.push c.1 m K).mono ?_;rintro e b ⟨x,E⟩;exact⟨x,E.done (Ext.refl _ _)⟩
  ·rintro e b ⟨rfl,n⟩;exact nY.ok rfl n
 ·rw[if_neg l];refine(JI w _ sb gf (below.length*6) op r.2 (fun b=>Done fp F base sb t0 s0 (aF sb gf outv fvs) w ⟨below++[f.pop],tape,out⟩ b) (fun t z W=>PV F W (.iface t z) a/\Mid fp base sb gf below.length t0 s0 (aF sb gf outv fvs) (w.alloc (.cells #[.string (bs op)] 407)) F ⟨below++[f.pop],tape,out⟩ W) rfl (s.topS d) D (fun W t z c=>?_) (fun W t z c=>?_)).mono ?_
  ·have k:=Mid.box h c.2;exact⟨aA k rfl,aD k⟩
  ·refine(i W _ c.1).mono ?_;rintro e b ⟨rfl,⟨o,_⟩|⟨o,rfl⟩⟩
   ·exact absurd o l
   ·exact⟨rfl,c.2.done (Ext.refl _ _)⟩
  ·rintro e b ⟨rfl,n⟩;exact nY.stop rfl l n
def E9(op:List UInt8)(h:cT fp F base w sb gf cap t0 tv outv s0 fvs ⟨below++[f],tape,out⟩)(C:below.length<=15)(j:base<=w.heap.size)(p:f.ops.length<=99000)(J:∃H a b,f.ops=H++[a,b]):
 Calls prog 387 #[.agg #[.string (bs op)],.pointer (some ⟨sb,0,none⟩)] w (nY fp F base sb t0 s0 (aF sb gf outv fvs) w below tape out (aL (.binary op) f)):=by
 obtain⟨H,a,b,n⟩:=J;have n:f.ops=(H++[a])++[b]:=by rw[n];simp
 have N:=h.mid j (.cells #[.string (bs op)] 435);have i:f.pop.ops=H++[a]:=mF n;have A:=p;rw[n,aw_,aw_] at A;have M:f.pop.ops.length<=100000:=by rw[i,aw_];omega
 have L:f.pop.pop.ops.length<=100000:=by rw[mF i];omega
 have O:aL (.binary op) f=if (eL op a b).2=0 then (f.pop.pop.push (eL op a b).1,0) else (f.pop.pop,(eL op a b).2):=by simp[aL,iS n,iS i]
 have E:=XS op a b;have x:∀(W:World) (u v:Value),PV F W u a->PV F W v b->(∀k,F k->k<W.heap.size)->aK a<=200->aK b<=200->Calls prog 388 #[.string (bs op),u,v] W (eM F W (eL op a b)):=fun W u v c d m I y=>OI op F u v a b W c d m (by omega) (by omega)
 generalize eL op a b=r at x O E;rw[O]
 refine(GI w _ sb gf (below.length*6) op r.2 (fun g=>r.2=0/\Done fp F base sb t0 s0 (aF sb gf outv fvs) w ⟨below++[f.pop.pop.push r.1],tape,out⟩ g) (fun g=>r.2≠0/\Done fp F base sb t0 s0 (aF sb gf outv fvs) w ⟨below++[f.pop.pop],tape,out⟩ g)
  (fun t z W=>PV F W (.iface t z) b/\aK b<=200/\Mid fp base sb gf below.length t0 s0 (aF sb gf outv fvs) (w.alloc (.cells #[.string (bs op)] 435)) F ⟨below++[f.pop],tape,out⟩ W)
  (fun t z o s W=>PV F W (.iface t z) b/\aK b<=200/\PV F W (.iface o s) a/\aK a<=200/\Mid fp base sb gf below.length t0 s0 (aF sb gf outv fvs) (w.alloc (.cells #[.string (bs op)] 435)) F ⟨below++[f.pop.pop],tape,out⟩ W)
  (fun t z W=>r.2=0/\∃G,Ext F G w.heap.size/\PV G W (.iface t z) r.1/\Mid fp base sb gf below.length t0 s0 (aF sb gf outv fvs) (w.alloc (.cells #[.string (bs op)] 435)) G ⟨below++[f.pop.pop],tape,out⟩ W) rfl (N.topS C) (fun W Y=>?_) (fun W t z l=>?_) (fun W t z o s l=>?_) (fun W t z o s l=>?_) (fun W t z l=>?_)).mono ?_
 ·refine((N.same Y).pop n (by omega)).mono ?_
  rintro e g ⟨t,z,D,c,d,m⟩;exact⟨t,z,D,c,d,m⟩
 ·obtain⟨c,d,m⟩:=l;refine(m.popK i M).mono ?_;rintro e g ⟨o,s,D,Q,X,S,Z⟩;exact⟨o,s,D,c.keep Z,d,Q,X,S⟩
 ·have q:=Mid.box h l.2.2.2.2;exact⟨aA q rfl,aD q⟩
 ·obtain⟨c,d,m,I,y⟩:=l;refine(x W _ _ m c (fun k K=>(y.apart k K).1) I d).mono ?_
  rintro e g ⟨q,⟨B,u,rfl,P⟩|⟨B,rfl⟩⟩
  ·obtain⟨U,T,rfl⟩:=P.form;exact av_ ⟨U,T,rfl,B,Grow F W g,⟨fun _=>av_,fun k K=>K.imp_right fun c=>aF_ (aF_ (by simp) y.1.size) c.1⟩,P,y.grow q (fun _=>av_) fun _ h=>h⟩
  ·exact as_ ⟨rfl,B,(y.grow q (fun _ h=>h) fun _=>av_).done (Ext.refl _ _)⟩
 ·obtain⟨B,G,V,c,d⟩:=l;refine(d.push c E L).mono ?_;rintro e g ⟨D,I⟩;exact⟨D,B,I.done V⟩
 ·rintro e g (⟨rfl,c,d⟩|⟨rfl,c,d⟩)
  ·exact nY.ok (if_pos c) d
  ·exact nY.stop (if_neg c) c d
end
section
variable {fp:Nat->Value} {F G G':Nat->Prop} {base:Nat} {w:World} {sb gf cap:Nat} {t0 tv outv s0:Value} {fvs:List FVal} {below:List aI} {f:aI} {tape:List Int} {out:List (List UInt8)}
def cT.more{m:cF}(h:cT fp G base w sb gf cap t0 tv outv s0 fvs m)(b:∀k,G k->G' k)(d:∀k,G' k->G k\/(k<w.heap.size/\k∉aF sb gf outv fvs)):cT fp G' base w sb gf cap t0 tv outv s0 fvs m:=
 ⟨h.blk,h.row,h.frs.keep (fun _ _=>rfl) b fun _ _ _ _=>rfl,h.tape.keep (fun _ _=>rfl) b,h.out,h.nodup,h.lt,fun k c=>by
   rcases d k c with a|a
   ·exact h.apart k a
   ·exact a⟩
def cT.popMany{vs us:List aJ}(h:cT fp G base w sb gf cap t0 tv outv s0 fvs ⟨below++[f],tape,out⟩)(K:f.ops=vs++us)(y:f.ops.length<=100000):
 Calls prog 377 #[.pointer (some ⟨gf,below.length*6,none⟩),.int .i64 us.length] w fun e q=>∃u C g,e=.returned u/\Kept (aF sb gf outv fvs) w q/\aF sb gf outv g=aF sb gf outv fvs/\g.length=fvs.length/\cT fp G base q sb gf cap t0 tv outv s0 g ⟨below++[f.popMany us.length],tape,out⟩/\
  q.ownsRow w.heap.size 256 1 u us.length C/\fT G q C us/\(∀a∈us,aK a<=200)/\∀k,G k->q.heap[k]?=w.heap[k]?:=by
 obtain⟨Q,v,J,rfl,L,S,T,p,O,k0,k1,k2,k3,k4,X⟩:=h.top;rw[<-L];obtain⟨⟨xs,d,A⟩,c⟩:=S.ops;rw[K] at d A c;obtain⟨s,C,rfl,M,H,I,t⟩:=A.split;rw[K,aw_] at y;rw[aw_] at d;refine(vB base gf (Q.length*6) vs.length us.length J v.ov s C w p X d M H (oG t) (by omega)).mono ?_
 rintro e q ⟨u,n,E,he,r,P,rfl,U,D⟩;have l:(f.popMany us.length).ops=vs:=by simp[aI.popMany,K]
 have N:=h.grow r (fun _ h=>h) (fun _ h=>av_ h)
 have F:MI fp G base E { v with ov:=n } (f.popMany us.length):=by
  have m:∀b,G b->E.heap[b]?=w.heap[b]?:=fun b o=>r.block b (h.apart b o).1
  have B:∀k∈v.owns,k<w.heap.size:=fun k m=>h.lt k (by simp[aF,aT,m])
  have i:=S.keep m (fun _ h=>h) fun k Z=>r.block k (B k Z)
  refine⟨i.fn,i.nx,i.ln,i.sp,i.vars,⟨s,?_,?_⟩,fun b o=>c b (aP_ _ (by rw[l] at o;exact o))⟩
  ·rw[l];exact aY U fun k e=>r.block k (B k (by rw[D] at e;simp[FVal.owns,e]))
  ·rw[l];exact I.keep m
 obtain⟨W,q2⟩:=N.setTop (j:=5) (x:=n) (v':={ v with ov:=n }) (by omega) rfl (by simp[FVal.owns,D]) F
 have V:gf<w.heap.size:=aD p
 have z:∀k,G k->(E.setCell ⟨gf,Q.length*6+5,none⟩ n).heap[k]?=w.heap[k]?:=fun k m=>by
  rw[ax_ _ _ _ _ fun e=>(h.apart k m).2 (by simp[aF,e]),r.block k (h.apart k m).1]
 refine⟨u,C,_,he,(Kept.of_below r).trans q2 fun x Y=>av_ Y,by simp[aF,aT,FVal.owns,D],by simp,W,aY P fun k m=>ax_ _ _ _ _ ?_,t.keep z,fun a ha=>c a (aL_ _ ha),z⟩
 have:=cC P k m;show k≠gf
 omega
def Mid.popMany{own:List Nat}{s:World}{n:Nat}{vs us:List aJ}(h:Mid fp base sb gf n t0 s0 own s G ⟨below++[f],tape,out⟩ w)(I:n=below.length)(D:f.ops=vs++us)(g:f.ops.length<=100000):
 Calls prog 377 #[.pointer (some ⟨gf,n*6,none⟩),.int .i64 us.length] w fun e l=>∃x d,e=.returned (.slice x us.length d)/\∃m,Ext G m w.heap.size/\PVs m l (.slice x us.length d) us/\(∀a∈us,aK a<=200)/\Mid fp base sb gf n t0 s0 own s m ⟨below++[f.popMany us.length],tape,out⟩ l/\∀k,G k->l.heap[k]?=w.heap[k]?:=by
 obtain⟨C,v,o,A,j,F,H,q,r⟩:=h;subst I;refine(q.popMany D g).mono ?_;rintro e l ⟨L,M,c,J,p,u,B,K,i,E,z,y⟩;obtain⟨x,d,rfl⟩:=cU i;refine⟨x,d,J,fun k=>G k\/(Value.slice x us.length d).ownBlock=some k,⟨fun _=>av_,fun k b=>b.imp_right fun e=>cC i k e⟩,PVs.ofRow i (E.mono fun _=>av_) fun _=>as_,z,⟨C.trans p r,aF_ v p.size,o,A,j,c,by rw[B,H],K.more (fun _=>av_) fun k b=>?_,by rw[u];exact r⟩,y⟩
 rcases b with b|b
 ·exact av_ b
 ·refine as_ ⟨cK i k b,fun t=>?_⟩
  rw[u] at t;have:=q.lt k t;have:=cC i k b;omega
def X2(vs us:List aJ)(h:cT fp F base w sb gf cap t0 tv outv s0 fvs ⟨below++[f],tape,out⟩)(q:below.length<=15)(k:base<=w.heap.size)(i:f.ops.length<=99000)(p:f.ops=vs++us):
 Calls prog 375 #[.agg #[.int .i64 us.length],.pointer (some ⟨sb,0,none⟩)] w (nY fp F base sb t0 s0 (aF sb gf outv fvs) w below tape out (aL (.list us.length) f)):=by
 have A:=h.mid k (.cells #[.int .i64 us.length] 404);have L:f.many us.length=us:=by simp[aI.many,p]
 have r:(f.popMany us.length).ops=vs:=by simp[aI.popMany,p]
 have H:(f.popMany us.length).ops.length<=100000:=by rw[r];rw[p,aw_] at i;omega
 have J:us.length<=99000:=by rw[p,aw_] at i;omega
 have I:aL (.list us.length) f=if aK (aW us)<=200 then ((f.popMany us.length).push (aW us),0) else (f.popMany us.length,6):=by
  simp only[aL,L,gY,if_true];by_cases D:200<aK (aW us)
  ·rw[if_pos D];exact(if_neg (by omega)).symm
  ·rw[if_neg D];exact(if_pos (by omega)).symm
 rw[I]
 refine(OY w _ sb gf (below.length*6) us.length 6 (fun j=>aK (aW us)<=200/\Done fp F base sb t0 s0 (aF sb gf outv fvs) w ⟨below++[(f.popMany us.length).push (aW us)],tape,out⟩ j) (fun j=>¬aK (aW us)<=200/\Done fp F base sb t0 s0 (aF sb gf outv fvs) w ⟨below++[f.popMany us.length],tape,out⟩ j)
  (fun x d W=>∃G,Ext F G w.heap.size/\PVs G W (.slice x us.length d) us/\(∀a∈us,aK a<=200)/\Mid fp base sb gf below.length t0 s0 (aF sb gf outv fvs) (w.alloc (.cells #[.int .i64 us.length] 404)) G ⟨below++[f.popMany us.length],tape,out⟩ W)
  (fun t z W=>aK (aW us)<=200/\∃G,Ext F G w.heap.size/\PV G W (.iface t z) (aW us)/\Mid fp base sb gf below.length t0 s0 (aF sb gf outv fvs) (w.alloc (.cells #[.int .i64 us.length] 404)) G ⟨below++[f.popMany us.length],tape,out⟩ W) rfl (A.topS q) (fun W C=>?_) (fun W x d u=>?_) (fun W t z u=>?_)).mono ?_
 ·refine((A.same C).popMany rfl p (by omega)).mono ?_
  rintro e j ⟨x,d,y,G,g,c,v,m,_⟩;exact⟨x,d,y,G,g.le (by rw[C.heap];simp),c,v,m⟩
 ·obtain⟨G,g,c,v,m⟩:=u
  have n:∀l:List aJ,(∀a∈l,aK a<=200)->(l.map aK).sum<=200*l.length:=fun l=>by
   induction l with
   |nil=>simp
   |cons a l M=>intro B;have O:=B a (by simp);have N:=M fun b E=>B b (by simp[E]);simp;omega
  have s:aK (aW us)<=1000000000:=by
   have:=n us v;rw[eR];simp[aW];omega
  refine(KO G x d us W c s).mono ?_;rintro e j ⟨rfl,⟨o,rfl⟩|⟨o,rfl⟩⟩
  ·exact av_ ⟨_,_,rfl,o,G,g,PV.lst c,m⟩
  ·exact as_ ⟨rfl,by omega,m.done g⟩
 ·obtain⟨o,G,K,g,c⟩:=u;refine(c.push g o H).mono ?_;rintro e j ⟨y,m⟩;exact⟨y,o,m.done K⟩
 ·rintro e j (⟨rfl,g,c⟩|⟨rfl,g,c⟩)
  ·exact nY.ok (if_pos g) c
  ·exact nY.stop (if_neg g) (by decide) c
end
def cT.declared{U:Nat->Value}{F:Nat->Prop}{base:Nat}{w w':World}{sb gf K:Nat}{Z V g W:Value}{s:List FVal}{v:FVal}{p:List aI}{f:aI}{A:List Int}{J:List (List UInt8)}{cur:Array Value}{c u:Value}{a:aJ}{xs:List Value}{d:Nat}
 (h:cT U F base w sb gf K Z V g W (s++[v]) ⟨p++[f],A,J⟩) (L:w.heap[gf]?=some (.cells cur 195 (0,0)))
 (P:fT F w xs (f.vars.take d)) (hd:d<=f.vars.length) (hu:PV F w u a) (O:aK a<=200)
 (p1:w'.heap[gf]?=some (.cells (cur.setIfInBounds (s.length*6+4) c) 195 (0,0))) (T:w'.ownsRow base 256 1 c (d+1) (xs++[u])) (S:∀k,c.ownBlock=some k->v.vv.ownBlock=some k\/w.heap.size<=k) (r:Chg gf v.vv.ownBlock w w'):
 cT U F base w' sb gf K Z V g W (s++[{ v with vv:=c }]) ⟨p++[{ f with vars:=f.vars.take d++[a] }],A,J⟩/\Kept (aF sb gf g (s++[v])) w w':=by
 obtain⟨ab,v0,e,aa,I⟩:=iR.unsnoc h.frs;obtain⟨rfl,e2⟩:=bh_ e rfl;cases e2;have B:=h.row;rw[show (s++[v]).length=s.length+1 by simp] at B
 obtain⟨M,Y,_,c3⟩:=uW (j:=4) (x:=c) B (by omega)
 obtain rfl:M=cur:=by rw[L] at Y;cases Y;rfl
 have E:∀k∈v.owns,k∈aF sb gf g (s++[v]):=fun k l=>by simp[aF,aT,l]
 have Q:gf∉v.owns:=fun H=>by
  have:=(aK_.1 (aK_.1 h.nodup).2).1;exact this (by simp[aT,H])
 have D:v.owns.Nodup:=by
  have m:=h.nodup;have:aF sb gf g (s++[v])=(sb::gf::(g.ownBlock.toList++aT s))++v.owns:=by simp[aF,aT]
  rw[this] at m;exact(be_.1 m).2.1
 have q:∀b,F b->w'.heap[b]?=w.heap[b]?:=fun b C=>by
  obtain⟨m,t⟩:=h.apart b C;exact r.block b m (fun e=>t (by simp[aF,e])) (fun e=>t (E b (by simp[FVal.owns,<-e])))
 have z:∀k,k<w.heap.size->k≠gf->k∉v.owns->w'.heap[k]?=w.heap[k]?:=fun k m t N=>r.block k m t fun e=>N (by simp[FVal.owns,<-e])
 have n:∀k,v.ov.ownBlock=some k->k<w.heap.size/\k≠gf/\v.vv.ownBlock≠some k:=fun k l=>by
  have H:k∈v.owns:=by simp[FVal.owns,l]
  refine⟨h.lt k (E k H),fun e=>Q (by rw[<-e];exact H),fun e=>?_⟩
  unfold FVal.owns at D;rw[l,e] at D;simp at D
 refine⟨h.step (G:=F) r.size z (c3 w' p1 _ rfl) ?_ ?_ ?_ (fun _ h=>h) (fun _ h=>av_ h),?_⟩
 ·refine⟨I.fn.keep q fun _ h=>h,I.nx,I.ln,eE.keep q (fun _ h=>h) I.sp,⟨⟨xs++[u],?_,?_⟩,?_⟩,I.ops.keep q (fun _ h=>h) fun k l=>?_⟩
  ·show w'.ownsRow base 256 1 c (f.vars.take d++[a]).length _
   rw[aw_,bc_,Nat.min_eq_left hd];exact T
  ·exact(P.keep q).append ⟨rfl,fun i hi=>by
    obtain rfl:i=0:=by simpa using hi
    exact⟨u,rfl,hu.keep q⟩⟩
  ·intro b C;rcases aE_.1 C with C|C
   ·exact I.vars.2 b (bJ_ C)
   ·rw[aD_.1 C];exact O
  ·obtain⟨m,t,N⟩:=n k l;exact r.block k m t (fun e=>N e.symm)
 ·intro k l;rcases aE_.1 l with l|l
  ·have o:c.ownBlock=some k:=by simpa using l
   refine⟨cK T k o,?_⟩;rcases S k o with m|m
   ·exact av_ (by simp[FVal.owns,m])
   ·exact as_ m
  ·have o:v.ov.ownBlock=some k:=by simpa using l
   exact⟨az_ (n k o).1 r.size,av_ (by simp[FVal.owns,o])⟩
 ·show (c.ownBlock.toList++v.ov.ownBlock.toList).Nodup
  refine be_.2 ⟨by cases c.ownBlock<;>simp,by cases v.ov.ownBlock<;>simp,fun x hx y hy e=>?_⟩
  subst e;have m:c.ownBlock=some x:=by simpa using hx
  have t:v.ov.ownBlock=some x:=by simpa using hy
  obtain⟨N,_,h4⟩:=n x t;rcases S x m with X|X
  ·exact h4 X
  ·omega
 ·exact⟨r.os,r.tape,r.output,r.size,fun k l hn=>z k l (fun e=>hn (by simp[aF,e])) fun H=>hn (E k H)⟩
def GB(w q:World)(sb j m base d:Nat)(g n c:Nat)(O:d<=n)(M:n<=c)(_hn:n<=100001)(P:World->Prop)(Q:TypeId->Value->World->Prop)(xs:List Value)(B:w.alloc (.cells #[.int .i64 d] 443)=q)(Z:d<=100000)
 (Y:Hid (∀W,aQ q W->Calls prog 158 #[.pointer (some ⟨sb,0,none⟩)] W fun e p=>e=.returned (.pointer (some ⟨j,m,none⟩))/\aQ q p))
 (G:q.cell? ⟨j,m+4,none⟩=some (.slice (some ⟨g,0,none⟩) n c))
 (X:Hid (∀W,aQ q W->Calls prog 171 #[.pointer (some ⟨j,m,none⟩)] W fun e p=>∃t z,e=.returned (.iface t z)/\Q t z p))
 (H:Hid (∀W t z,Q t z W->W.cell? ⟨w.heap.size,0,none⟩=some (.int .i64 d)/\w.heap.size<W.heap.size/\W.cell? ⟨j,m+4,none⟩=some (.slice (some ⟨g,0,none⟩) n c)/\j<W.heap.size/\base<=W.heap.size))
 (L:Hid (∀W t z,Q t z W->W.ownsRow base 256 1 (.slice (some ⟨g,0,none⟩) d c) d xs))
 (I:Hid (∀W t z,Q t z W->∀h:World,(W.alloc (.cells #[.iface t z] 256)).grownBy h (some g)->(∃u,h.cell? ⟨j,m+4,none⟩=some u)/\h.frozen? ⟨j,m+4,none⟩=false/\j<h.heap.size))
 (N:Hid (∀W t z,Q t z W->∀s f (h:World),h.ownsRow base 256 1 (.slice (some ⟨s,0,none⟩) (d+1) f) (d+1) (xs++[.iface t z])->(W.alloc (.cells #[.iface t z] 256)).grownBy h (some g)->((some g)=some s\/W.heap.size+1<=s)->P (h.setCell ⟨j,m+4,none⟩ (.slice (some ⟨s,0,none⟩) (d+1) f)))):
 Calls prog 403 #[.agg #[.int .i64 d],.pointer (some ⟨sb,0,none⟩)] w fun e p=>e=.returned (.tuple #[])/\P p:=by
 obtain⟨K,S,y,C,D⟩:=info_parts mW;have a:(w.alloc (.cells #[.int .i64 d] 443)).heap[w.heap.size]?=some (.cells #[.int .i64 d] 443 (0,0)):=aM _ _ rfl _;rw[B] at a;have T:=aB B;have E:=aB (aA (i:=0) a rfl);have x:=aD a;have A:=aB G;have e1:(0:Int)<=(d:Int):=by omega
 have e2:(d:Int)<=(n:Int):=by omega
 have e3:(d:Int)<=(c:Int):=by omega
 clear B a G;go_enter func403,ntmps403;go_wp2_with fail;rw[T.out];refine(Y.out _ (aQ.refl _)).mono ?_;rintro e w1 ⟨rfl,k⟩;have c0:=bB k.heap E.out;have U:=gM k.heap x;have c1:=bB k.heap A.out;go_wp2_with fail;go_region_law (first|(go_simp;go_at_call 171;refine(X.out _ (k.trans (aQ.drew _))).mono ?_;rintro e F ⟨t,z,rfl,v⟩;have o:=H.out _ _ _ v;have b1:=o.1;have b2:=o.2.1;have b3:=o.2.2.1;have b4:=o.2.2.2.1;have b5:=o.2.2.2.2;clear o)|(refine step_append_lies _ (by rfl) _ _ 193 (by rfl) base 256 K _ 1 16 underlying193 S y C D rfl (by decide) (.slice (some ⟨g,0,none⟩) d c) d xs (by rfl) ((L.out _ _ _ v).alloc _) ⟨F.heap.size,0,none⟩ 1 1 [.iface t z] (by rfl) (by rfl) (CT F _) (wP t z) (by decide) (by unfold maxLen;omega) (by omega) (by simp;omega) (F.heap.size+1) (by simp) ?_;intro s f h l b r V;have J:=I.out _ _ _ v h b;obtain⟨⟨u5,y1⟩,y2,y3⟩:=J))
 all_goals
  go_wp2_with fail;go_end0;exact⟨rfl,N.out _ _ _ v _ _ _ l b (r.imp_right fun e=>Nat.le_of_eq e.symm)⟩
def GC(w m:World)(sb f j base:Nat)(P:World->Prop)(Q:TypeId->Value->World->Prop)(xs:List Value)(v:w.alloc (.cells #[.int .i64 0] 443)=m)
 (O:Hid (∀W,aQ m W->Calls prog 158 #[.pointer (some ⟨sb,0,none⟩)] W fun e l=>e=.returned (.pointer (some ⟨f,j,none⟩))/\aQ m l))
 (C:m.cell? ⟨f,j+4,none⟩=some (.slice none 0 0))
 (N:Hid (∀W,aQ m W->Calls prog 171 #[.pointer (some ⟨f,j,none⟩)] W fun e l=>∃t z,e=.returned (.iface t z)/\Q t z l))
 (D:Hid (∀W t z,Q t z W->W.cell? ⟨w.heap.size,0,none⟩=some (.int .i64 0)/\w.heap.size<W.heap.size/\W.cell? ⟨f,j+4,none⟩=some (.slice none 0 0)/\f<W.heap.size/\base<=W.heap.size))
 (H:Hid (∀W t z,Q t z W->W.ownsRow base 256 1 (.slice none 0 0) 0 xs))
 (E:Hid (∀W t z,Q t z W->∀d:World,(W.alloc (.cells #[.iface t z] 256)).grownBy d none->(∃u,d.cell? ⟨f,j+4,none⟩=some u)/\d.frozen? ⟨f,j+4,none⟩=false/\f<d.heap.size))
 (I:Hid (∀W t z,Q t z W->∀o c (d:World),d.ownsRow base 256 1 (.slice (some ⟨o,0,none⟩) 1 c) 1 (xs++[.iface t z])->(W.alloc (.cells #[.iface t z] 256)).grownBy d none->(none=some o\/W.heap.size+1<=o)->P (d.setCell ⟨f,j+4,none⟩ (.slice (some ⟨o,0,none⟩) 1 c)))):
 Calls prog 403 #[.agg #[.int .i64 0],.pointer (some ⟨sb,0,none⟩)] w fun e l=>e=.returned (.tuple #[])/\P l:=by
 obtain⟨G,J,r,x,y⟩:=info_parts mW;have a:(w.alloc (.cells #[.int .i64 0] 443)).heap[w.heap.size]?=some (.cells #[.int .i64 0] 443 (0,0)):=aM _ _ rfl _;rw[v] at a;have K:=aB v;have A:=aB (aA (i:=0) a rfl);have q:=aD a;have s:=aB C;clear v a C;go_enter func403,ntmps403;go_wp2_with fail;rw[K.out];refine(O.out _ (aQ.refl _)).mono ?_;rintro e S ⟨rfl,g⟩;have Z:=bB g.heap A.out;have L:=gM g.heap q;have c1:=bB g.heap s.out;go_wp2_with fail;go_region_law (first|(go_simp;go_at_call 171;refine(N.out _ (g.trans (aQ.drew _))).mono ?_;rintro e B ⟨t,z,rfl,p⟩;have k:=D.out _ _ _ p;have T:=k.1;have b2:=k.2.1;have V:=k.2.2.1;have b4:=k.2.2.2.1;have U:=k.2.2.2.2;clear k)|(refine step_append_lies _ (by rfl) _ _ 193 (by rfl) base 256 G _ 1 16 underlying193 J r x y rfl (by decide) (.slice none 0 0) 0 xs (by rfl) ((H.out _ _ _ p).alloc _) ⟨B.heap.size,0,none⟩ 1 1 [.iface t z] (by rfl) (by rfl) (CT B _) (wP t z) (by decide) (by unfold maxLen;omega) (by omega) (by simp;omega) (B.heap.size+1) (by simp) ?_;intro o c d h b n M;have F:=E.out _ _ _ p d b;obtain⟨⟨u5,X⟩,y2,Y⟩:=F))
 all_goals
  go_wp2_with fail;go_end0;exact⟨rfl,I.out _ _ _ p _ _ _ h b (n.imp_right fun e=>Nat.le_of_eq e.symm)⟩
end Go.Proofs.YtblbkfdhjfppkaaGreatDoor
