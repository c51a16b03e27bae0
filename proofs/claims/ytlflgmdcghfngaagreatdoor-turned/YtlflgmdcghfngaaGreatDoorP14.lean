/- Contracts of the program: what is done with a frame's operands. -/
import Derived.Test.YtlflgmdcghfngaaGreatDoorB04
import Derived.Test.YtlflgmdcghfngaaGreatDoorP13
set_option linter.defProp false
set_option maxRecDepth 100000
set_option maxHeartbeats 4000000
namespace Go.Proofs.YtlflgmdcghfngaaGreatDoor
open Hs
open _root_.Go.Proofs.Tryz
open Go.RowKit
variable{own:List Nat}{xs:List Value}{l:List aM}{b_ gf sb:Nat}{W w w':aG}{f:aJ}{a:aM}{c u v:aQ}{F G:bY}{fp:eK}
structure Chg(gf:Nat)(row:Option Nat)(w w':aG):Prop where
 os:w'.os=w.os
 tape:w'.tape=w.tape
 output:w'.output=w.output
 size:w.heap.size<=w'.heap.size
 block:∀k,k<w.heap.size->k≠gf->some k≠row->w'.heap[k]?=w.heap[k]?
def FT(w:aG)(u:aQ):∀j v,([u]:List Value)[j]?=some v->(w.alloc (.cells #[u] 136)).cell? ((⟨w.heap.size,0,none⟩:Addr).add j)=some v:=by
 intro j v a;match j,a with
 |0,a=>simp at a;subst a;simp[Addr.add,go_sem]
 |j+1,a=>simp at a
def zA(t:TypeId)(z:aQ):∀u∈([.iface t z]:List Value),u.oneCell'=true:=by
 intro u a;simp at a;rw[a];rfl
def zG(b_ gf o n:Nat)(cur:Array Value)(s:aQ)(xs:List Value)(t:TypeId)(z:aQ)(w:aG)(u:w.heap[gf]?=some (.cells cur 118 (0,0)))(H:cur[o+5]?=some s)(d:w.ownsRow b_ 136 1 s n xs)(l:s.ownBlock≠some gf)(A:b_<=w.heap.size)(V:n<=1000000):
 Calls prog 251 #[.pointer (some (aH gf o)),.iface t z] w λe w'=>e=aX (.tuple #[])/\∃j,w'.heap[gf]?=some (.cells (cur.setIfInBounds (o+5) j) 118 (0,0))/\w'.ownsRow b_ 136 1 j (n+1) (xs++[.iface t z])/\(∀k,j.ownBlock=some k->s.ownBlock=some k\/w.heap.size<=k)/\Chg gf s.ownBlock w w':=by
 obtain⟨O,S,v,B,D⟩:=info_parts oH;obtain⟨x,c,rfl⟩:=dE d;have G:=aC u;have U:=aA u H;have P:=aB d;have M:=aB u;have r:=aB l;clear d u l;go_in
 go_wp2_with (at_builtin;refine wpList_append_lies _ r_ _ _ 116 r_ b_ 136 O _ 1 16 underlying116 S v B D rfl d_ (.slice x n c) n xs r_ (P.alloc _) (aH w.heap.size 0) 1 1 [.iface t z] r_ r_ (FT w _) (zA t z) d_ (by unfold maxLen;omega) o_ t_ (w.heap.size+1) s_ ?_)
 intro C q J g b f L
 have a:J.heap[gf]?=some (.cells cur 118 (0,0)):=by
  rw[b.block gf t_ (λe=>r.out e.symm),ek _ _ _ G];exact M
 have Q:=aA a H;have T:=aD a (i:=o+5);have I:=aC a
 have F:C≠gf:=by
  rcases f with h|h
  ·exact λe=>r (by rw[<-e];exact h)
  ·omega
 have HOWN:=aB g;have p:=aB b;have y:=aB f;have E:=aB a;clear g b f a;go_wp2
 go_end0;refine⟨rfl,.slice (some (aH C 0)) (n+1) q,aK E,?_,?_,?_⟩
 ·exact aY HOWN λk m=>ei _ _ _ _ (by cases m;exact F)
 ·intro k m;cases m;rcases y with h|h
  ·exact d7 h
  ·exact d6 (by show w.heap.size<=C;omega)
 ·refine⟨p.os.trans rfl,p.tape.trans rfl,p.output.trans rfl,em s_ (em p.size s_),λk m N K=>?_⟩
  rw[ei _ _ _ _ N,p.out.block k t_ K,ek _ _ _ m]
def TX(b_ gf o n:Nat)(cur:Array Value)(q:aQ)(xs:List Value)(u:aQ)(w:aG)(k:w.heap[gf]?=some (.cells cur 118 (0,0)))(v:cur[o+5]?=some q)(d:w.ownsRow b_ 136 1 q (n+1) (xs++[u]))(r:xs.length=n)(x:∃t z,u=.iface t z)(F:n<=1000000):
 Calls prog 87 #[.pointer (some (aH gf o))] w λe w'=>e=aX u/\∃h,w'=w.setCell (aH gf (o+5)) h/\w.ownsRow b_ 136 1 h n xs/\h.ownBlock=q.ownBlock:=by
 obtain⟨t,z,rfl⟩:=x;rcases d.2 with ⟨B,G⟩|⟨g,c,j,rfl,m,a,s,l,p,f⟩
 ·omega
 have A:=aC k;have E:=aA k v;have D:=aD k (i:=o+5);have y:=aC a
 have b:j[n]?=some (.iface t z):=by
  have:(xs++[Value.iface t z])[n]?=some (.iface t z):=by rw[<-r];simp
  rw[<-f,ga,if_pos o_] at this
  simpa using this
 have H:=aA a b
 have HOWN:Hid (w.ownsRow b_ 136 1 (.slice (some (aH g 0)) n c) n xs):=by
  refine⟨by rw[r];omega,d6 ⟨g,c,j,rfl,m,a,o_,l,p,?_⟩⟩
  have:=congrArg (List.take n) f;rw[jf] at this;rw[show min n ((n+1)*1)=n by omega] at this
  rw[jo,this,<-r];simp
 have I:(0:Int)<=n:=o_
 have C:(n:Int)<(n:Int)+1:=o_
 have J:(n:Int)<=c:=o_
 clear d k v a f b;go_in
 go_wp2
 go_ret;exact⟨rfl,_,rfl,HOWN,rfl⟩
def nG(sb gf n a:Nat)(w:aG)(d:w.cell? (aH sb 1)=some (.slice (some (aH gf 0)) (n+1) a))(f:n<=1000):
 Calls prog 74 #[aZ sb] w λe w'=>e=aX (.pointer (some (aH gf (n*6))))/\∃q,w'=w.drewN q:=by
 have b:(0:Int)<=(n:Int):=o_
 have c:(n:Int)<(n:Int)+1:=o_
 go_in
 go_wp2_with fail;go_quiet (fail)
 go_wp2
 go_ret;exact⟨rfl,_,rfl⟩
def T8(gf o fb g n b k:Nat)(cur:Array Value)(h u:aQ)(w:aG)(a:w.heap[gf]?=some (.cells cur 118 (0,0)))(d:cur[o]?=some (aZ fb))(f:cur[o+1]?=some (I_ k))
 (c:w.heap[fb]?=some (.cells #[h,.slice (some (aH g 0)) n b] 130 (0,0))) (x:w.cell? (aH g k)=some u) (hi:∃t z,u=.iface t z) (m:k<n) (y:n<=1000000):
 Calls prog 120 #[.pointer (some (aH gf o))] w λe w'=>e=aX u/\∃q,w'=(w.drewN q).setCell (aH gf (o+1)) (I_ ((k+1:Nat):Int)):=by
 obtain⟨t,z,rfl⟩:=hi;have l:=aC a;have j:=aC c;have B:=aA a d;have v:=aA a f;have p:=aD a (i:=o+1);have r:=aA c (i:=1) rfl;have A:(0:Int)<=(k:Int):=o_
 have s:(k:Int)<(n:Int):=o_
 clear a c d f;go_in
 go_wp2_with fail;go_quiet (fail)
 go_wp2
 go_ret;exact⟨rfl,_,by congr 2⟩
def xJ(b_ gf o n k:Nat)(cur:Array Value)(I:aQ)(xs r:List Value)(w:aG)(v:w.heap[gf]?=some (.cells cur 118 (0,0)))(G:cur[o+5]?=some I)(d:w.ownsRow b_ 136 1 I (n+k) (xs++r))(A:xs.length=n)(U:r.length=k)(S:∀u∈r,u.oneCell'=true)(hn:n+k<=1000000):
 Calls prog 257 #[.pointer (some (aH gf o)),I_ k] w λe w'=>∃B t b,e=aX B/\Below w.heap.size w b/\b.ownsRow w.heap.size 136 1 B k r/\w'=b.setCell (aH gf (o+5)) t/\w.ownsRow b_ 136 1 t n xs/\t.ownBlock=I.ownBlock:=by
 have K:=aC v;have c5:=aA v G;have f5:=aD v (i:=o+5);have e1:(0:Int)<=(n:Int):=o_
 have Z:(n:Int)<=(n:Int)+(k:Int):=o_
 rcases d.2 with ⟨rfl,r2⟩|⟨g,c,J,rfl,E,p,L,C,H,s⟩
 ·obtain⟨rfl,rfl⟩:n=0/\k=0:=o_
  obtain rfl:=gg A;obtain rfl:=gg U;have F:=aB (uU w);clear d v G;go_in
  go_wp2_with fail;refine F.mono ?_;rintro e b ⟨rfl,rfl⟩;go_wp2
  go_ret;exact⟨_,_,_,rfl,eh _ _,World.ownsRow_nil _ _ _ _,rfl,World.ownsRow_nil _ _ _ _,rfl⟩
 ·have e3:(n:Int)<=(c:Int):=o_
  have e4:(n:Int)+(k:Int)<=(c:Int):=o_
  have X:((n+k:Nat):Int)-(k:Int)=(n:Int):=o_
  have F:Hid (∀f q,f=n\/k=0->Calls prog 151 #[.slice (some (aH g f)) k q] w λe w'=>∃y x,e=aX (.slice y k x)/\w'.ownsRow w.heap.size 136 1 (.slice y k x) k r/\Below w.heap.size w w'):=λf q z=>by
   refine(uV g f k q r w o_ o_ (λj u N=>?_) S).mono ?_
   ·have P:j<r.length:=(gq.1 N).1;rcases z with rfl|Y
    ·refine aA p ?_;have M:(xs++r)[f+j]?=some u:=by rw[gl o_,A,jd];exact N
     rw[<-s,ga,if_pos o_] at M
     simpa using M
    ·omega
   ·rintro e b ⟨B,rfl,l,m⟩;obtain⟨y,x,rfl⟩:=dE l;exact⟨y,x,rfl,l,m⟩
  have HOWN:Hid (∀q,q=c->w.ownsRow b_ 136 1 (.slice (some (aH g 0)) n q) n xs):=by
   rintro q rfl;refine⟨by rw[A];omega,d6 ⟨g,q,J,rfl,E,p,o_,C,H,?_⟩⟩
   have:=congrArg (List.take n) s;rw[jf] at this;rw[show min n ((n+k)*1)=n by omega] at this
   rw[jo,this,<-A];simp
  have Q:Hid (∀b,Below w.heap.size w b->b.heap[gf]?=some (.cells cur 118 (0,0))):=λb h=>by rw[h.block gf K];exact v
  clear d v p s;go_in
  go_wp2_with fail
  all_goals
   refine(F _ _ o_).mono ?_
   rintro e b ⟨y,x,rfl,l,m⟩;have a:=Q b m;have O:=aC a;have V:=aA a G;have W:=aD a (i:=o+5);have T:=aB l;have D:=aB m;clear l m a;go_wp2
   go_ret;exact⟨_,_,b,rfl,D,T,rfl,HOWN _ (by first|rfl|omega),rfl⟩
def eF(F:bY)(w:aG):Value->cN->Prop
 |v,[]=>v=.pointer none
 |v,x::l=>∃b o,v=aZ b/\F b/\w.heap[b]?=some (.cells #[.string (bs x),I_ l.length,o] 133 (0,0))/\eF F w o l
def eF.keep(a:∀b,F b->w'.heap[b]?=w.heap[b]?)(d:∀b,F b->G b):∀{l:cN} {v:aQ},eF F w v l->eF G w' v l
 |[],_,h=>h
 |_::_,_,⟨b,o,f,c,g,e⟩=>⟨b,o,f,d b c,by rw[a b c];exact g,eF.keep a d e⟩
def eF.form{l:cN}(h:eF F w v l):∃p,v=.pointer p:=by
 cases l with
 |nil=>exact⟨none,h⟩
 |cons x l=>obtain⟨b,o,a,_⟩:=h;exact⟨_,a⟩
def lN(fp:eK)(F:bY)(w:aG)(v:aQ):aI->Prop
 |.begin l s=>∃sp,v=.iface 245 (.agg #[I_ l,sp])/\eF F w sp s
 |.push a=>∃u,v=.iface 241 (.agg #[u])/\PV F w u a/\aO a<=200
 |.load k=>v=.iface 273 (.agg #[I_ k])
 |.declare k=>v=.iface 321 (.agg #[I_ k])
 |.assign k n=>v=.iface 323 (.agg #[I_ k,I_ n])
 |.jump t=>v=.iface 340 (.agg #[I_ t])
 |.skip t=>v=.iface 339 (.agg #[I_ t])
 |.shortcut b t=>v=.iface 309 (.agg #[.bool b,I_ t])
 |.truth=>v=.iface 307 (.agg #[])
 |.unary op=>v=.iface 278 (.agg #[.string (bs op)])
 |.binary op=>v=.iface 306 (.agg #[.string (bs op)])
 |.index=>v=.iface 276 (.agg #[])
 |.list n=>v=.iface 275 (.agg #[I_ n])
 |.length=>v=.iface 310 (.agg #[])
 |.read=>v=.iface 311 (.agg #[])
 |.call k n=>v=.iface 313 (.agg #[fp k,I_ n])
 |.give=>v=.iface 243 (.agg #[])
 |.drop=>v=.iface 327 (.agg #[])
 |.print=>v=.iface 326 (.agg #[])
def lN.keep{i:aI}(h:lN fp F w v i)(d:∀b,F b->w'.heap[b]?=w.heap[b]?)(e:∀b,F b->G b):lN fp G w' v i:=by
 cases i<;>first
  |exact h
  |(obtain⟨f,c,a⟩:=h;exact⟨f,c,eF.keep d e a⟩)
  |(obtain⟨u,c,a,g⟩:=h;exact⟨u,c,(a.keep d).mono e,g⟩)
def lN.form{i:aI}(h:lN fp F w v i):∃t z,v=.iface t z:=by
 cases i<;>first
  |exact⟨_,_,h⟩
  |(obtain⟨b,a,c⟩:=h;exact⟨_,_,a⟩)
def C9(fp:eK)(F:bY)(w:aG)(v:aQ)(f:eV):Prop:=
 ∃fb gc cap cur,v=aZ fb/\F fb/\w.heap[fb]?=some (.cells #[.string (bs f.name),.slice (some (aH gc 0)) f.code.length cap] 130 (0,0))/\F gc/\w.heap[gc]?=some (.cells cur 228 (0,0))/\
  ∀i (h:i<f.code.length),∃u,cur[i]?=some u/\lN fp F w u f.code[i]
def C9.keep{f:eV}(h:C9 fp F w v f)(a:∀b,F b->w'.heap[b]?=w.heap[b]?)(d:∀b,F b->G b):C9 fp G w' v f:=by
 obtain⟨p,n,c,e,k,g,o,j,l,r⟩:=h;refine⟨p,n,c,e,k,d _ g,by rw[a _ g];exact o,d _ j,by rw[a _ j];exact l,λi q=>?_⟩
 obtain⟨u,s,m⟩:=r i q;exact⟨u,s,m.keep a d⟩
def lZ(fp:eK)(F:bY)(w:aG)(tab:List eV):Prop:=∀k f,tab[k]?=some f->C9 fp F w (fp k) f
def lZ.keep{a:List eV}(h:lZ fp F w a)(c:∀b,F b->w'.heap[b]?=w.heap[b]?)(e:∀b,F b->G b):lZ fp G w' a:=λk f d=>(h k f d).keep c e
structure FVal where
 fp:Value
 nx:Value
 ln:Value
 sp:Value
 vv:Value
 ov:Value
def FVal.cells(f:FVal):List Value:=[f.fp,f.nx,f.ln,f.sp,f.vv,f.ov]
def gU:List FVal->List Value
 |[]=>[]
 |f::l=>f.cells++gU l
def kJ(l m:List FVal):gU (l++m)=gU l++gU m:=by
 induction l with
 |nil=>rfl
 |cons f l a=>simp[gU,a]
def eN(l:List FVal):(gU l).length=l.length*6:=by
 induction l with
 |nil=>rfl
 |cons f l a=>simp[gU,FVal.cells,a];omega
def FVal.ownX(sh:Bool)(f:FVal):List Nat:=(cond sh [] f.vv.ownBlock.toList)++f.ov.ownBlock.toList
def lA(F:bY)(b_:Nat)(w:aG)(v:aQ)(l:List aM):Prop:=(∃xs,w.ownsRow b_ 136 1 v l.length xs/\gP F w xs l)/\∀a∈l,aO a<=200
def lA.keep(h:lA F b_ w v l)(a:∀b,F b->w'.heap[b]?=w.heap[b]?)(i:∀b,F b->G b)(c:∀k,v.ownBlock=some k->w'.heap[k]?=w.heap[k]?):lA G b_ w' v l:=by
 obtain⟨⟨f,e,d⟩,g⟩:=h;exact⟨⟨f,aY e c,(d.keep a).mono i⟩,g⟩
def Z3(sh:Bool)(F:bY)(b_:Nat)(w:aG)(v:aQ)(l:List aM):Prop:=cond sh (PVs F w v l/\∀a∈l,aO a<=200) (lA F b_ w v l)
def Z3.keep{a:Bool}(h:Z3 a F b_ w v l)(c:∀b,F b->w'.heap[b]?=w.heap[b]?)(d:∀b,F b->G b)(e:a=false->∀k,v.ownBlock=some k->w'.heap[k]?=w.heap[k]?):Z3 a G b_ w' v l:=by
 cases a
 ·exact lA.keep h c d (e rfl)
 ·exact⟨(PVs.keep h.1 c).mono d,h.2⟩
structure QH(sh:Bool)(fp:eK)(F:bY)(b_:Nat)(w:aG)(v:FVal)(f:aJ):Prop where
 fn:C9 fp F w v.fp f.fn
 nx:v.nx=I_ f.next
 ln:v.ln=I_ f.l_
 sp:eF F w v.sp f.e_
 g_:Z3 sh F b_ w v.vv f.g_
 ops:lA F b_ w v.ov f.ops
def QH.keep{d:Bool}{v:FVal}(h:QH d fp F b_ w v f)(a:∀b,F b->w'.heap[b]?=w.heap[b]?)(c:∀b,F b->G b)(g:∀k∈(v.ownX d),w'.heap[k]?=w.heap[k]?):QH d fp G b_ w' v f:=
 ⟨h.fn.keep a c,h.nx,h.ln,eF.keep a c h.sp,h.g_.keep a c (λi k e=>g k (by simp[FVal.ownX,i,e])),h.ops.keep a c λk e=>g k (by simp[FVal.ownX,e])⟩
def jQ(sh:Bool)(fp:eK)(F:bY)(b_:Nat)(w:aG):List FVal->List aJ->Prop
 |[],[]=>True
 |v::vs,f::fs=>QH sh fp F b_ w v f/\jQ sh fp F b_ w vs fs
 |_,_=>False
def jQ.keep{a:Bool}(c:∀b,F b->w'.heap[b]?=w.heap[b]?)(d:∀b,F b->G b):∀{vs:List FVal} {fs:List aJ},jQ a fp F b_ w vs fs->(∀v∈vs,∀k∈(v.ownX a),w'.heap[k]?=w.heap[k]?)->jQ a fp G b_ w' vs fs
 |[],[],_,_=>trivial
 |v::_,_::_,⟨g,f⟩,e=>⟨g.keep c d (e v (fw ..)),jQ.keep c d f λu i=>e u (fe _ i)⟩
 |[],_::_,h,_=>h.elim
 |_::_,[],h,_=>h.elim
def jQ.length{a:Bool}:∀{vs:List FVal} {fs:List aJ},jQ a fp F b_ w vs fs->vs.length=fs.length
 |[],[],_=>rfl
 |_::_,_::_,⟨_,h⟩=>by simp[jQ.length h]
 |[],_::_,h=>h.elim
 |_::_,[],h=>h.elim
def jQ.snoc{a:Bool}{v:FVal}:∀{vs:List FVal} {fs:List aJ},jQ a fp F b_ w vs fs->QH a fp F b_ w v f->jQ a fp F b_ w (vs++[v]) (fs++[f])
 |[],[],_,h=>⟨h,trivial⟩
 |_::_,_::_,⟨c,b⟩,h=>⟨c,jQ.snoc b h⟩
 |[],_::_,h,_=>h.elim
 |_::_,[],h,_=>h.elim
def jQ.unsnoc{c:Bool}:∀{vs:List FVal} {fs:List aJ},jQ c fp F b_ w vs (fs++[f])->∃a v,vs=a++[v]/\jQ c fp F b_ w a fs/\QH c fp F b_ w v f
 |[],[],h=>h.elim
 |[v],[],⟨b,d⟩=>⟨[],v,rfl,trivial,b⟩
 |_::_::_,[],⟨_,h⟩=>h.elim
 |v::vs,g::fs,⟨b,d⟩=>by
  obtain⟨a,u,e,j,i⟩:=jQ.unsnoc (vs:=vs) (fs:=fs) d;exact⟨v::a,u,by rw[e];rfl,⟨b,j⟩,i⟩
 |[],_::_,h=>h.elim
def cB(sh:Bool)(l:List FVal):List Nat:=l.flatMap (FVal.ownX sh)
def aR(sh:Bool)(sb gf:Nat)(u_:aQ)(v_:List FVal):List Nat:=sb::gf::(u_.ownBlock.toList++cB sh v_)
def mZ(l:cN):List Value:=l.map λx=>Value.string (bs x)
def tK(F:bY)(w:aG)(v:aQ)(l:List Int):Prop:=
 (l=[]/\∃x c,v=.slice x 0 c)\/∃g o c,v=.slice (some (aH g o)) l.length c/\l.length<=c/\F g/\∀i (h:i<l.length),w.cell? (aH g (o+i))=some (I_ l[i])/\ -9223372036854775808<=l[i]/\l[i]<=9223372036854775807
def tK.keep{l:List Int}(h:tK F w v l)(j:∀b,F b->w'.heap[b]?=w.heap[b]?)(m:∀b,F b->G b):tK G w' v l:=by
 rcases h with h|⟨g,o,c,k,f,d,a⟩
 ·exact d7 h
 ·exact d6 ⟨g,o,c,k,f,m g d,λi e=>⟨by rw[World.cell?_of_block (j g d)];exact(a i e).1,(a i e).2⟩⟩
structure dA(sh:Bool)(fp:eK)(F:bY)(b_:Nat)(w:aG)(sb gf cap:Nat)(t0 tv u_ s0:aQ)(v_:List FVal)(m:cS):Prop where
 blk:w.heap[sb]?=some (.cells #[t0,.slice (some (aH gf 0)) v_.length cap,tv,u_,s0] 53 (0,0))
 row:w.ownsRow b_ 118 6 (.slice (some (aH gf 0)) v_.length cap) v_.length (gU v_)
 frs:jQ sh fp F b_ w v_ m.f_
 tape:tK F w tv m.tape
 out:w.ownsRow b_ 9 1 u_ m.out.length (mZ m.out)
 nodup:(aR sh sb gf u_ v_).Nodup
 lt:∀k∈aR sh sb gf u_ v_,k<w.heap.size
 apart:∀k,F k->k<w.heap.size/\k∉aR sh sb gf u_ v_
def dA.step{m:Bool}{A:Nat}{t0 X i Y:aQ}{fb:List FVal}{v v':FVal}{q:List aJ}{f':aJ}{z:List Int}{I:cN}
 (h:dA m fp F b_ w sb gf A t0 X i Y (fb++[v]) ⟨q++[f],z,I⟩) (K:w.heap.size<=w'.heap.size) (O:∀k,k<w.heap.size->k≠gf->k∉(v.ownX m)->w'.heap[k]?=w.heap[k]?)
 (M:w'.ownsRow b_ 118 6 (.slice (some (aH gf 0)) (fb.length+1) A) (fb.length+1) (gU (fb++[v'])))
 (P:QH m fp G b_ w' v' f') (T:∀k∈(v'.ownX m),k<w'.heap.size/\(k∈(v.ownX m)\/w.heap.size<=k)) (V:(v'.ownX m).Nodup)
 (hF:∀k,F k->G k) (hG:∀k,G k->F k\/(w.heap.size<=k/\k<w'.heap.size/\k∉(v'.ownX m))):
 dA m fp G b_ w' sb gf A t0 X i Y (fb++[v']) ⟨q++[f'],z,I⟩:=by
 have J:(fb++[v']).length=(fb++[v]).length:=s_
 have B:(fb++[v']).length=fb.length+1:=s_
 have j:∀u:FVal,aR m sb gf i (fb++[u])=(sb::gf::(i.ownBlock.toList++cB m fb))++(u.ownX m):=λu=>by simp[aR,cB]
 have p:=h.nodup;have r:=h.lt;have n:=h.apart;rw[j] at p r n;generalize c:(sb::gf::(i.ownBlock.toList++cB m fb))=o at p r n j;obtain⟨l,aa,S⟩:=gt.1 p;have g:∀k∈o,k<w.heap.size/\k∉(v.ownX m):=λk d=>⟨r k (fk _ d),λW=>S k d k W rfl⟩
 have y:sb∈o:=by rw[<-c];simp
 have E:gf∈o:=by rw[<-c];simp
 have U:sb≠gf:=by
  rw[<-c] at l;have:=(e7.1 l).1;intro e;exact this (by simp[e])
 have N:∀b,F b->w'.heap[b]?=w.heap[b]?:=λb Q=>by
  obtain⟨x,D⟩:=n b Q;exact O b x (λe=>D (fk _ (by rw[e];exact E))) λW=>D (fq _ W)
 have t:∀u∈fb,∀k∈(u.ownX m),k∈o/\k≠gf:=λu L k d=>by
  have H:k∈cB m fb:=ig.2 ⟨u,L,d⟩;refine⟨by rw[<-c];simp[H],?_⟩
  rw[<-c] at l;have:=(e7.1 (e7.1 l).2).1;intro e;exact this (by rw[<-e];simp[H])
 have C:∀k,i.ownBlock=some k->k∈o/\k≠gf:=λk d=>by
  refine⟨by rw[<-c];simp[d],?_⟩
  rw[<-c] at l;have:=(e7.1 (e7.1 l).2).1;intro e;exact this (by rw[<-e];simp[d])
 refine⟨?_,by rw[B];exact M,?_,h.tape.keep N hF,aY h.out λk d=>?_,?_,?_,?_⟩
 ·rw[J,O sb (g sb y).1 U (g sb y).2];exact h.blk
 ·obtain⟨ab,u,e,k1,k2⟩:=jQ.unsnoc h.frs;obtain⟨rfl,e2⟩:=ib e rfl;exact(k1.keep N hF λu L k d=>O k (g k (t u L k d).1).1 (t u L k d).2 (g k (t u L k d).1).2).snoc P
 ·obtain⟨x,D⟩:=C k d;exact O k (g k x).1 D (g k x).2
 ·rw[j];refine gt.2 ⟨l,V,λa ha b Q e=>?_⟩
  subst e;rcases(T a Q).2 with x|x
  ·exact(g a ha).2 x
  ·have:=(g a ha).1;omega
 ·intro k d;rw[j] at d;rcases eu.1 d with d|d
  ·exact ej (g k d).1 K
  ·exact(T k d).1
 ·intro k d;rw[j];rcases hG k d with x|⟨x,D,h3⟩
  ·obtain⟨h4,Z⟩:=n k x;refine⟨ej h4 K,λs=>?_⟩
   rcases eu.1 s with s|s
   ·exact Z (fk _ s)
   ·rcases(T k s).2 with h6|h6
    ·exact Z (fq _ h6)
    ·omega
  ·refine⟨D,λs=>?_⟩
   rcases eu.1 s with s|s
   ·have:=(g k s).1;omega
   ·exact h3 s
structure Kept(own:List Nat)(w w':aG):Prop where
 os:w'.os=w.os
 tape:w'.tape=w.tape
 output:w'.output=w.output
 size:w.heap.size<=w'.heap.size
 block:∀k,k<w.heap.size->k∉own->w'.heap[k]?=w.heap[k]?
structure Ext(F G:bY)(n:Nat):Prop where
 sub:∀k,F k->G k
 new:∀k,G k->F k\/n<=k
def Ext.refl(F:bY)(n:Nat):Ext F F n:=⟨λ_ h=>h,λ_ h=>d7 h⟩
def Ext.trans{H:bY}{n m:Nat}(h:Ext F G n)(k:Ext G H m)(c:n<=m):Ext F H n:=⟨λx b=>k.sub x (h.sub x b),λx b=>by
 rcases k.new x b with a|a
 ·exact h.new x a
 ·exact d6 (em c a)⟩
def Ext.le{n m:Nat}(h:Ext F G n)(b:m<=n):Ext F G m:=⟨h.sub,λx a=>(h.new x a).imp_right (em b)⟩
def gB(sh:Bool)(fp:eK)(F:bY)(b_ sb gf:Nat)(t0 s0:aQ)(own:List Nat)(w:aG)(m:cS)(w':aG):Prop:=
 Kept own w w'/\∃G cap tv u_ v_,Ext F G w.heap.size/\dA sh fp G b_ w' sb gf cap t0 tv u_ s0 v_ m/\∀k∈aR sh sb gf u_ v_,k∈own\/w.heap.size<=k
def Done(fp:eK)(F:bY)(b_:Nat)(sb:Nat)(t0 s0:aQ)(own:List Nat)(w:aG)(m:cS)(w':aG):Prop:=
 Kept own w w'/\∃G gf cap tv u_ v_,Ext F G w.heap.size/\dA false fp G b_ w' sb gf cap t0 tv u_ s0 v_ m/\∀k∈aR false sb gf u_ v_,k∈own\/w.heap.size<=k
def gB.done{b a:aQ}{m:cS}(h:gB false fp F b_ sb gf b a own w m w'):Done fp F b_ sb b a own w m w':=by
 obtain⟨d,G,c⟩:=h;exact⟨d,G,gf,c⟩
def xC{b j:Nat}{fb:List FVal}{v:FVal}{x:aQ}(h:w.ownsRow b_ 118 6 (.slice (some (aH gf 0)) (fb.length+1) b) (fb.length+1) (gU (fb++[v])))(z:j<6):
 ∃a,w.heap[gf]?=some (.cells a 118 (0,0))/\(∀i,i<6->a[fb.length*6+i]?=v.cells[i]?)/\
  ∀W:aG,W.heap[gf]?=some (.cells (a.setIfInBounds (fb.length*6+j) x) 118 (0,0))->∀d:FVal,d.cells=v.cells.set j x->W.ownsRow b_ 118 6 (.slice (some (aH gf 0)) (fb.length+1) b) (fb.length+1) (gU (fb++[d])):=by
 rcases h.2 with ⟨e,_⟩|⟨t,g,a,e,r,n,l,p,k,m⟩
 ·cases e
 cases e;have c:∀u:FVal,gU (fb++[u])=gU fb++u.cells:=λu=>by rw[kJ];simp[gU]
 have s:∀u:FVal,u.cells.length=6:=λ_=>rfl
 have q:(fb.length+1)*6<=a.size:=by rw[k];exact Nat.mul_le_mul_right _ l
 refine⟨a,n,λi y=>?_,λW o d f=>?_⟩
 ·have:(gU (fb++[v]))[fb.length*6+i]?=v.cells[i]?:=by
   rw[c,gl (by rw[eN];omega),eN,jd]
  rw[<-m,ga,if_pos o_] at this
  simpa using this
 ·refine⟨by rw[eN];simp,d6 ⟨gf,b,_,rfl,r,o,l,p,by simpa using k,?_⟩⟩
  rw[jy,jz,m,c,c,f,List.set_append_right _ _ (by rw[eN];omega),eN,jd]
def Kept.refl(own:List Nat)(w:aG):Kept own w w:=⟨rfl,rfl,rfl,cL,λ_ _ _=>rfl⟩
def Kept.trans{d:List Nat}{a b c:aG}(h:Kept own a b)(k:Kept d b c)(j:∀x∈d,x∈own\/a.heap.size<=x):Kept own a c:=
 ⟨k.os.trans h.os,k.tape.trans h.tape,k.output.trans h.output,em h.size k.size,λx f g=>by
   rw[k.block x (ej f h.size) (λi=>by rcases j x i with e|e;·exact g e
                                      ·omega),h.block x f g]⟩
def Kept.of_below(h:Below w.heap.size w w'):Kept own w w':=⟨h.os,h.tape,h.output,h.size,λk a _=>h.block k a⟩
def dA.grow{j:Bool}{f:Nat}{r o p:aQ}{e:List FVal}{m:cS}(h:dA j fp F b_ w sb gf f r o c p e m)(i:Below w.heap.size w w')(q:∀k,F k->G k)(t:∀k,G k->F k\/(w.heap.size<=k/\k<w'.heap.size)):dA j fp G b_ w' sb gf f r o c p e m:=by
 have g:∀b,F b->w'.heap[b]?=w.heap[b]?:=λb n=>i.block b (h.apart b n).1
 have d:∀k,k∈aR j sb gf c e->w'.heap[k]?=w.heap[k]?:=λk a=>i.block k (h.lt k a)
 refine⟨by rw[d sb (by simp[aR])];exact h.blk,aY h.row λk a=>?_,h.frs.keep g q λv x k a=>d k ?_,h.tape.keep g q,aY h.out λk a=>d k (by simp[aR,a]),h.nodup,λk a=>ej (h.lt k a) i.size,λk a=>?_⟩
 ·cases a;exact d gf (by simp[aR])
 ·have:k∈cB j e:=ig.2 ⟨v,x,a⟩;simp[aR,this]
 ·rcases t k a with l|⟨l,s⟩
  ·exact⟨ej (h.apart k l).1 i.size,(h.apart k l).2⟩
  ·exact⟨s,λu=>by have:=h.lt k u;omega⟩
def dA.pushed{g:Bool}{K:Nat}{Y U d V:aQ}{fb:List FVal}{v:FVal}{p:List aJ}{A:List Int}{J:cN}{cur:Array Value}
 (h:dA g fp F b_ w sb gf K Y U d V (fb++[v]) ⟨p++[f],A,J⟩) (L:w.heap[gf]?=some (.cells cur 118 (0,0)))
 (P:gP F w xs f.ops) (hu:PV F w u a) (O:aO a<=200)
 (p1:w'.heap[gf]?=some (.cells (cur.setIfInBounds (fb.length*6+5) c) 118 (0,0))) (T:w'.ownsRow b_ 136 1 c (f.ops.length+1) (xs++[u])) (S:∀k,c.ownBlock=some k->v.ov.ownBlock=some k\/w.heap.size<=k) (r:Chg gf v.ov.ownBlock w w'):
 dA g fp F b_ w' sb gf K Y U d V (fb++[{ v with ov:=c }]) ⟨p++[f.push a],A,J⟩/\Kept (aR g sb gf d (fb++[v])) w w':=by
 obtain⟨ab,v0,e,aa,I⟩:=jQ.unsnoc h.frs;obtain⟨rfl,e2⟩:=ib e rfl;cases e2;have B:=h.row;rw[show (fb++[v]).length=fb.length+1 by simp] at B
 obtain⟨M,X,_,c3⟩:=xC (j:=5) (x:=c) B o_
 obtain rfl:M=cur:=by rw[L] at X;cases X;rfl
 have E:∀k∈(v.ownX g),k∈aR g sb gf d (fb++[v]):=λk l=>by simp[aR,cB,l]
 have Q:gf∉(v.ownX g):=λH=>by
  have:=(e7.1 (e7.1 h.nodup).2).1;exact this (by simp[cB,H])
 have C:(v.ownX g).Nodup:=by
  have m:=h.nodup;have:aR g sb gf d (fb++[v])=(sb::gf::(d.ownBlock.toList++cB g fb))++(v.ownX g):=by simp[aR,cB]
  rw[this] at m;exact(gt.1 m).2.1
 have q:∀b,F b->w'.heap[b]?=w.heap[b]?:=λb D=>by
  obtain⟨m,t⟩:=h.apart b D;exact r.block b m (λe=>t (by simp[aR,e])) (λe=>t (E b (by simp[FVal.ownX,<-e])))
 have z:∀k,k<w.heap.size->k≠gf->k∉(v.ownX g)->w'.heap[k]?=w.heap[k]?:=λk m t N=>r.block k m t λe=>N (by simp[FVal.ownX,<-e])
 have n:∀k,g=false->v.vv.ownBlock=some k->k<w.heap.size/\k≠gf/\v.ov.ownBlock≠some k:=λk s l=>by
  have H:k∈(v.ownX g):=by simp[FVal.ownX,s,l]
  refine⟨h.lt k (E k H),λe=>Q (by rw[<-e];exact H),λe=>?_⟩
  unfold FVal.ownX at C;rw[l,e,s] at C;simp at C
 refine⟨h.step (G:=F) r.size z (c3 w' p1 _ rfl) ?_ ?_ ?_ dP (λ_ h=>d7 h),?_⟩
 ·refine⟨I.fn.keep q dP,I.nx,I.ln,eF.keep q dP I.sp,I.g_.keep q dP λs k l=>?_,⟨xs++[u],?_,?_⟩,?_⟩
  ·obtain⟨m,t,N⟩:=n k s l;exact r.block k m t (λe=>N e.symm)
  ·show w'.ownsRow b_ 136 1 c (f.ops++[a]).length _
   rw[el];exact T
  ·exact(P.keep q).append ⟨rfl,λi hi=>by
    obtain rfl:i=0:=by simpa using hi
    exact⟨u,rfl,hu.keep q⟩⟩
  ·intro b D;rcases eu.1 D with D|D
   ·exact I.ops.2 b D
   ·rw[ew.1 D];exact O
 ·intro k l;rcases eu.1 l with l|l
  ·obtain⟨s,o⟩:g=false/\v.vv.ownBlock=some k:=by
    cases g
    ·exact⟨rfl,by simpa using l⟩
    ·cases l
   exact⟨ej (n k s o).1 r.size,d7 (by simp[FVal.ownX,s,o])⟩
  ·have o:c.ownBlock=some k:=by simpa using l
   refine⟨cQ T k o,?_⟩;rcases S k o with m|m
   ·exact d7 (by simp[FVal.ownX,m])
   ·exact d6 m
 ·show ((cond g [] v.vv.ownBlock.toList)++c.ownBlock.toList).Nodup
  refine gt.2 ⟨by cases g<;>cases v.vv.ownBlock<;>simp,by cases c.ownBlock<;>simp,λx Z y hy e=>?_⟩
  subst e
  obtain⟨s,m⟩:g=false/\v.vv.ownBlock=some x:=by
   cases g
   ·exact⟨rfl,by simpa using Z⟩
   ·cases Z
  have t:c.ownBlock=some x:=by simpa using hy
  obtain⟨N,_,h4⟩:=n x s m;rcases S x t with W|W
  ·exact h4 W
  ·omega
 ·exact⟨r.os,r.tape,r.output,r.size,λk l hn=>z k l (λe=>hn (by simp[aR,e])) λH=>hn (E k H)⟩
structure aU(w w':aG):Prop where
 os:w'.os=w.os
 tape:w'.tape=w.tape
 output:w'.output=w.output
 heap:w'.heap=w.heap
def aU.refl(w:aG):aU w w:=⟨rfl,rfl,rfl,rfl⟩
def aU.drewN(w:aG)(n:Nat):aU w (w.drewN n):=⟨rfl,rfl,rfl,rfl⟩
def aU.drew(w:aG):aU w w.drew:=⟨rfl,rfl,rfl,rfl⟩
def aU.trans{a b c:aG}(h:aU a b)(k:aU b c):aU a c:=⟨k.os.trans h.os,k.tape.trans h.tape,k.output.trans h.output,k.heap.trans h.heap⟩
def aU.below(h:aU w w'):Below w.heap.size w w':=⟨h.os,h.tape,h.output,by rw[h.heap];exact en _,λk _=>by rw[h.heap]⟩
def dA.top{r:Bool}{e:Nat}{s i t:aQ}{m:List FVal}{c:List aJ}{n:List Int}{p:cN}(h:dA r fp F b_ w sb gf e u s i t m ⟨c++[f],n,p⟩):
 ∃b v a,m=b++[v]/\b.length=c.length/\QH r fp F b_ w v f/\w.heap[sb]?=some (.cells #[u,.slice (some (aH gf 0)) (b.length+1) e,s,i,t] 53 (0,0))/\w.heap[gf]?=some (.cells a 118 (0,0))/\b.length+1<=e/\
  a[b.length*6]?=some v.fp/\a[b.length*6+1]?=some v.nx/\a[b.length*6+2]?=some v.ln/\a[b.length*6+3]?=some v.sp/\a[b.length*6+4]?=some v.vv/\a[b.length*6+5]?=some v.ov:=by
 obtain⟨b,v,rfl,A,y⟩:=jQ.unsnoc h.frs;have d:=h.row;have g:=h.blk;rw[show (b++[v]).length=b.length+1 by simp] at d g
 obtain⟨a,B,k,_⟩:=xC (j:=0) (x:=undef) d o_
 have l:b.length+1<=e:=by
  rcases d.2 with ⟨o,_⟩|⟨D,q,a,o,E,C,z,_⟩
  ·cases o
  ·cases o;exact z
 exact⟨b,v,a,rfl,A.length,y,g,B,l,k 0 o_,k 1 o_,k 2 o_,k 3 o_,k 4 o_,k 5 o_⟩
def bN(h:W.heap=w.heap){a:Addr}(b:w.cell? a=some v):W.cell? a=some v:=by
 have e:W.cell? a=w.cell? a:=World.cell?_of_block (by rw[h])
 rw[e];exact b
def SA(w c:aG)(sb i j:Nat)(t:TypeId)(z:aQ)(P:World->Prop)(g:w.alloc (.cells #[.iface t z] 241)=c)
 (p:Hid (∀W,aU c W->Calls prog 74 #[aZ sb] W λe w'=>e=aX (.pointer (some (aH i j)))/\aU c w'))
 (o:Hid (∀W,aU c W->Calls prog 251 #[.pointer (some (aH i j)),.iface t z] W λe w'=>e=aX (.tuple #[])/\P w')):
 Calls prog 250 #[.agg #[.iface t z],aZ sb] w λe w'=>e=aX (.tuple #[])/\P w':=by
 have a:(w.alloc (.cells #[.iface t z] 241)).heap[w.heap.size]?=some (.cells #[.iface t z] 241 (0,0)):=aN _ _ rfl _;rw[g] at a;have l:=aB g;have n:=aA (i:=0) a rfl;have h:=aB n;have f:=aC a;clear g a;go_in
 go_wp2_with fail;rw[l.out];go_region_law (go_simp;first|(go_at_call 74;refine(p _ (aU.drew _)).mono ?_;rintro e k ⟨rfl,b⟩;have q:=bN b.heap h;have m:w.heap.size<k.heap.size:=by (rw[b.heap];exact f))|(go_at_call 251;refine(o _ b).mono ?_;rintro e r ⟨rfl,d⟩))
 all_goals
  go_wp2
  go_end0;exact⟨rfl,d⟩
def XM{d:Bool}(fp:eK)(F:bY)(b_:Nat)(w:aG)(sb gf B:Nat)(L T b N:aQ)(D:List FVal)(c:List aJ)(f:aJ)(j:List Int)(A:cN)(u:aQ)(a:aM)
 (h:dA d fp F b_ w sb gf B L T b N D ⟨c++[f],j,A⟩) (Z:PV F w u a) (K:aO a<=200) (Y:f.ops.length<=100000) (V:c.length<=15) (s:b_<=w.heap.size):
 Calls prog 250 #[.agg #[u],aZ sb] w λe w'=>e=aX (.tuple #[])/\gB d fp F b_ sb gf L N (aR d sb gf b D) w ⟨c++[f.push a],j,A⟩ w':=by
 obtain⟨t,z,rfl⟩:=Z.form;have g:Below w.heap.size w (w.alloc (.cells #[.iface t z] 241)):=(eh _ _).alloc cL _;have aa:(w.alloc (.cells #[.iface t z] 241)).heap[w.heap.size]?=some (.cells #[.iface t z] 241 (0,0)):=aN _ _ rfl _;have Q:=h.grow g dP (λ_ h=>d7 h)
 have O:PV F (w.alloc (.cells #[.iface t z] 241)) (.iface t z) a:=Z.keep λk M=>g.block k (h.apart k M).1
 generalize hW:w.alloc (.cells #[.iface t z] 241)=J at*;have HW:=aB hW;obtain⟨i,v,o,rfl,ac,hv,E,n,U,k0,k1,k2,k3,k4,k5⟩:=Q.top;obtain⟨⟨xs,m,H⟩,y⟩:=hv.ops
 have G:v.ov.ownBlock≠some gf:=λe=>by
  have:=(e7.1 (e7.1 Q.nodup).2).1;exact this (by simp[cB,FVal.ownX,e])
 have HT:Hid (∀W,aU J W->Calls prog 74 #[aZ sb] W λe w'=>e=aX (.pointer (some (aH gf (i.length*6))))/\aU J w'):=λW l=>by
  refine(nG sb gf i.length B W (bN l.heap (aA E rfl)) o_).mono ?_
  rintro e w' ⟨P,q,rfl⟩;exact⟨P,l.trans (aU.drewN _ _)⟩
 have HP:Hid (∀W,aU J W->Calls prog 251 #[.pointer (some (aH gf (i.length*6))),.iface t z] W λe w'=>e=aX (.tuple #[])/\gB d fp F b_ sb gf L N (aR d sb gf b (i++[v])) w ⟨c++[f.push a],j,A⟩ w'):=λW l=>by
  have I:=l.below;have hR:=Q.grow I dP (λ_ h=>d7 h)
  refine(zG b_ gf (i.length*6) f.ops.length o v.ov xs t z W (by rw[l.heap];exact n) k5 (aY m λk _=>by rw[l.heap]) G (by rw[l.heap];exact em s g.size) o_).mono ?_
  rintro e w' ⟨P,r,p1,p2,S,p4⟩;obtain⟨q1,q2⟩:=hR.pushed (cur:=o) (by rw[l.heap];exact n) (H.keep λk _=>by rw[l.heap]) (O.keep λk _=>by rw[l.heap]) K p1 p2 S p4
  have M:Kept (aR d sb gf b (i++[v])) w w':=(Kept.of_below (own:=aR d sb gf b (i++[v])) (g.trans (I.mono g.size))).trans q2 λx hx=>d7 hx
  refine⟨P,M,F,B,T,b,_,Ext.refl _ _,q1,λk C=>?_⟩
  have ab:W.heap.size=J.heap.size:=by rw[l.heap]
  have h1:aR d sb gf b (i++[{ v with ov:=r }])=(sb::gf::(b.ownBlock.toList++cB d i))++({ v with ov:=r }:FVal).ownX d:=by simp[aR,cB]
  have h2:aR d sb gf b (i++[v])=(sb::gf::(b.ownBlock.toList++cB d i))++(v.ownX d):=by simp[aR,cB]
  rw[h1] at C;rw[h2];rcases eu.1 C with p|p
  ·exact d7 (fk _ p)
  ·rcases eu.1 p with p|p
   ·exact d7 (fq _ (fk _ p))
   ·have h4:r.ownBlock=some k:=by simpa using p
    rcases S k h4 with X|X
    ·exact d7 (fq _ (by simp[FVal.ownX,X]))
    ·exact d6 (by have:=g.size;omega)
 clear m H y G;exact SA w J sb gf (i.length*6) t z _ HW HT HP
def gP.split{m:List aM}(h:gP F w xs (l++m)):∃c e,xs=c++e/\c.length=l.length/\e.length=m.length/\gP F w c l/\gP F w e m:=by
 obtain⟨g,f⟩:=h;rw[el] at g;refine⟨xs.take l.length,xs.drop l.length,(g9 _ _).symm,t_,t_,⟨t_,λi d=>?_⟩,⟨t_,λi d=>?_⟩⟩
 ·obtain⟨u,b,a⟩:=f i t_
  rw[jq d] at a;exact⟨u,by rw[ga,if_pos d];exact b,a⟩
 ·obtain⟨u,b,a⟩:=f (l.length+i) t_
  rw[km o_] at a
  simp only[jd] at a;exact⟨u,by rw[jx];exact b,a⟩
def gP.unsnoc(h:gP F w xs (l++[a])):∃b u,xs=b++[u]/\b.length=l.length/\gP F w b l/\PV F w u a:=by
 obtain⟨b,j,e,i,f,k,g⟩:=h.split;match j,f with
 |[u],_=>
  obtain⟨m,c,d⟩:=g.2 0 s_
  simp at c d;subst c;exact⟨b,u,e,i,k,d⟩
def dA.setTop{c:Bool}{o:Nat}{C z a B:aQ}{fb:List FVal}{v v':FVal}{d:List aJ}{D:aJ}{i:List Int}{n:cN}{j:Nat}{x:aQ}
 (h:dA c fp F b_ w sb gf o C z a B (fb++[v]) ⟨d++[f],i,n⟩) (M:j<6) (r:v'.cells=v.cells.set j x) (t:(v'.ownX c)=(v.ownX c)) (p:QH c fp F b_ w v' D):
 dA c fp F b_ (w.setCell (aH gf (fb.length*6+j)) x) sb gf o C z a B (fb++[v']) ⟨d++[D],i,n⟩/\Kept (aR c sb gf a (fb++[v])) w (w.setCell (aH gf (fb.length*6+j)) x):=by
 have l:=h.row;rw[show (fb++[v]).length=fb.length+1 by simp] at l
 obtain⟨J,I,_,K⟩:=xC (j:=j) (x:=x) l M;have s:∀k∈(v.ownX c),k∈aR c sb gf a (fb++[v]):=λk g=>by simp[aR,cB,g]
 have u:gf∉(v.ownX c):=λm=>by
  have:=(e7.1 (e7.1 h.nodup).2).1;exact this (by simp[cB,m])
 have q:(v.ownX c).Nodup:=by
  have A:=h.nodup;have:aR c sb gf a (fb++[v])=(sb::gf::(a.ownBlock.toList++cB c fb))++(v.ownX c):=by simp[aR,cB]
  rw[this] at A;exact(gt.1 A).2.1
 have g:∀k,k≠gf->(w.setCell (aH gf (fb.length*6+j)) x).heap[k]?=w.heap[k]?:=λk g=>ei _ _ _ _ g
 have y:∀b,F b->(w.setCell (aH gf (fb.length*6+j)) x).heap[b]?=w.heap[b]?:=λb H=>g b λe=>(h.apart b H).2 (by simp[aR,e])
 refine⟨h.step (G:=F) s_ (λk _ E _=>g k E) (K _ (aK I) _ r) (p.keep y dP λk m=>g k λe=>u (by rw[<-t,<-e];exact m)) (λk m=>?_) (by rw[t];exact q) dP (λ_ h=>d7 h),⟨rfl,rfl,rfl,s_,λk _ L=>g k λe=>L (by simp[aR,e])⟩⟩
 rw[t] at m;exact⟨ej (h.lt k (s k m)) s_,d7 m⟩
def dX(sh:Bool)(fp:eK)(b_ sb gf n:Nat)(t0 s0:aQ)(own:List Nat)(w0:aG)(G:bY)(m:cS)(w:aG):Prop:=
 Kept own w0 w/\b_<=w.heap.size/\∃cap tv u_ v_,v_.length=n+1/\dA sh fp G b_ w sb gf cap t0 tv u_ s0 v_ m/\∀k∈aR sh sb gf u_ v_,k∈own\/w0.heap.size<=k
section
variable {sh:Bool} {fp:eK} {b_ sb gf n:Nat} {t0 s0:aQ} {own:List Nat} {w0 w w':aG} {G G':bY} {m:cS} {w_:List aJ} {f f':aJ} {tape:List Int} {out:cN}
def dX.init{c:Nat}{d a:aQ}{b:List FVal}(h:dA sh fp G b_ w sb gf c t0 d a s0 b m)(g:b.length=n+1)(f:b_<=w.heap.size)(e:Obj):dX sh fp b_ sb gf n t0 s0 (aR sh sb gf a b) (w.alloc e) G m (w.alloc e):=
 ⟨Kept.refl _ _,em f s_,c,d,a,b,g,h.grow ((eh _ _).alloc cL _) dP (λ_ h=>d7 h),λ_ h=>d7 h⟩
def dX.same(h:dX sh fp b_ sb gf n t0 s0 own w0 G m w)(d:aU w w'):dX sh fp b_ sb gf n t0 s0 own w0 G m w':=by
 obtain⟨i,f,b,e,a,c,k,g,j⟩:=h;exact⟨i.trans (Kept.of_below (own:=[]) d.below) (λx l=>by simp at l),by rw[d.heap];exact f,b,e,a,c,k,g.grow d.below dP (λ_ h=>d7 h),j⟩
def dX.grow(h:dX sh fp b_ sb gf n t0 s0 own w0 G m w)(d:Below w.heap.size w w')(p:∀k,G k->G' k)(o:∀k,G' k->G k\/(w.heap.size<=k/\k<w'.heap.size)):dX sh fp b_ sb gf n t0 s0 own w0 G' m w':=by
 obtain⟨i,f,b,e,a,c,l,g,j⟩:=h;exact⟨i.trans (Kept.of_below (own:=[]) d) (λx q=>by simp at q),em f d.size,b,e,a,c,l,g.grow d p o,j⟩
def dX.old(h:dX sh fp b_ sb gf n t0 s0 own w0 G m w){k:Nat}(a:k<w0.heap.size)(b:k∉own):w.heap[k]?=w0.heap[k]?:=h.1.block k a b
def dX.doneX{F:bY}{d:Obj}(h:dX sh fp b_ sb gf n t0 s0 own (w.alloc d) G m w')(l:Ext F G w.heap.size):gB sh fp F b_ sb gf t0 s0 own w m w':=by
 obtain⟨i,p,b,e,a,c,q,g,j⟩:=h
 exact⟨(Kept.of_below (own:=own) ((eh _ w).alloc cL d)).trans i (λx o=>d7 o),G,b,e,a,c,l,g,λk f=>by
  rcases j k f with h|h
  ·exact d7 h
  ·exact d6 (em s_ h)⟩
def dX.done{F:bY}{a:Obj}(h:dX false fp b_ sb gf n t0 s0 own (w.alloc a) G m w')(b:Ext F G w.heap.size):Done fp F b_ sb t0 s0 own w m w':=(h.doneX b).done
def dX.top(h:dX sh fp b_ sb gf n t0 s0 own w0 G m w)(o:n<=15):Calls prog 74 #[aZ sb] w λe w'=>e=aX (.pointer (some (aH gf (n*6))))/\aU w w':=by
 obtain⟨k,j,a,i,b,f,g,d,l⟩:=h;have:=d.blk;rw[g] at this;refine(nG sb gf n a w (aA this rfl) o_).mono ?_
 rintro e w' ⟨c,q,rfl⟩;exact⟨c,aU.drewN _ _⟩
def dX.cells(h:dX sh fp b_ sb gf n t0 s0 own w0 G ⟨w_++[f],tape,out⟩ w):∃v:FVal,QH sh fp G b_ w v f/\gf<w.heap.size/\∀j x,v.cells[j]?=some x->w.cell? (aH gf (n*6+j))=some x/\w.frozen? (aH gf (n*6+j))=false:=by
 obtain⟨E,C,o,D,g,s,t,l,F⟩:=h;obtain⟨u,v,q,rfl,r,z,e,a,c,m,i,y,k,B,p⟩:=l.top;have b:u.length=n:=by simpa using t
 subst b;refine⟨v,z,aC a,λj x d=>?_⟩
 have A:j<6:=(gq.1 d).1;refine⟨aA a ?_,aD a⟩;rw[<-d];match j,A with
 |0,_=>exact m
 |1,_=>exact i
 |2,_=>exact y
 |3,_=>exact k
 |4,_=>exact B
 |5,_=>exact p
def dX.set(h:dX sh fp b_ sb gf n t0 s0 own w0 G ⟨w_++[f],tape,out⟩ w)(j:Nat)(x:aQ)(B:j<6)(g:FVal->FVal)(q:∀v,(g v).cells=v.cells.set j x)(m:∀v,QH sh fp G b_ w v f->(g v).ownX sh=(v.ownX sh))(b:∀v,QH sh fp G b_ w v f->QH sh fp G b_ w (g v) f'):
 dX sh fp b_ sb gf n t0 s0 own w0 G ⟨w_++[f'],tape,out⟩ (w.setCell (aH gf (n*6+j)) x):=by
 obtain⟨t,p,c,r,a,z,A,k,l⟩:=h;obtain⟨d,v,u,rfl,y,e,_⟩:=k.top;have i:d.length=n:=by simpa using A
 subst i;obtain⟨s,o⟩:=k.setTop B (q v) (m v e) (b v e);refine⟨t.trans o l,em p o.size,c,r,a,_,s_,s,?_⟩
 rw[show aR sh sb gf a (d++[g v])=aR sh sb gf a (d++[v]) by simp[aR,cB,m v e]]
 exact l
def dX.push(h:dX sh fp b_ sb gf n t0 s0 own w0 G ⟨w_++[f],tape,out⟩ w){t:TypeId}{z:aQ}{a:aM}(T:PV G w (.iface t z) a)(q:aO a<=200)(D:f.ops.length<=100000):Calls prog 251 #[.pointer (some (aH gf (n*6))),.iface t z] w λe w'=>e=aX (.tuple #[])/\dX sh fp b_ sb gf n t0 s0 own w0 G ⟨w_++[f.push a],tape,out⟩ w':=by
 obtain⟨E,C,u,L,b,U,c,o,p⟩:=h;obtain⟨j,v,g,rfl,Q,X,H,d,F,k0,Y,k2,Z,k4,N⟩:=o.top;have A:j.length=n:=by simpa using c
 subst A;obtain⟨⟨S,l,r⟩,x⟩:=X.ops
 have s:v.ov.ownBlock≠some gf:=λe=>by
  have:=(e7.1 (e7.1 o.nodup).2).1;exact this (by simp[cB,FVal.ownX,e])
 refine(zG b_ gf (j.length*6) f.ops.length g v.ov S t z w d N l s C o_).mono ?_
 rintro e w' ⟨W,i,P,K,B,J⟩;obtain⟨M,I⟩:=o.pushed (cur:=g) d r T q P K B J;refine⟨W,E.trans I p,em C I.size,u,L,b,_,s_,M,λk m=>?_⟩
 have V:aR sh sb gf b (j++[{ v with ov:=i }])=(sb::gf::(b.ownBlock.toList++cB sh j))++({ v with ov:=i }:FVal).ownX sh:=by simp[aR,cB]
 have O:aR sh sb gf b (j++[v])=(sb::gf::(b.ownBlock.toList++cB sh j))++(v.ownX sh):=by simp[aR,cB]
 rw[V] at m;rw[O] at p;rcases eu.1 m with c|c
 ·exact p k (fk _ c)
 ·rcases eu.1 c with c|c
  ·exact p k (fq _ (fk _ c))
  ·have o:i.ownBlock=some k:=by simpa using c
   rcases B k o with y|y
   ·exact p k (fq _ (by simp[FVal.ownX,y]))
   ·exact d6 (em E.size y)
def dX.popK(h:dX sh fp b_ sb gf n t0 s0 own w0 G ⟨w_++[f],tape,out⟩ w){vs:List aM}{a:aM}(L:f.ops=vs++[a])(m:f.ops.length<=100000):Calls prog 87 #[.pointer (some (aH gf (n*6)))] w λe w'=>∃t z,e=aX (.iface t z)/\PV G w' (.iface t z) a/\aO a<=200/\dX sh fp b_ sb gf n t0 s0 own w0 G ⟨w_++[f.pop],tape,out⟩ w'/\∀k,G k->w'.heap[k]?=w.heap[k]?:=by
 obtain⟨V,P,D,S,l,Z,h3,C,J⟩:=h;obtain⟨A,v,E,rfl,Y,o,N,y,K,k0,k1,k2,k3,k4,W⟩:=C.top;have F:A.length=n:=by simpa using h3
 subst F;obtain⟨⟨xs,d,s⟩,c⟩:=o.ops;rw[L] at d s c m;obtain⟨p,u,rfl,X,r,M⟩:=gP.unsnoc s;obtain⟨t,z,rfl⟩:=M.form;rw[el] at d m;refine(TX b_ gf (A.length*6) vs.length E v.ov p _ w y W d X ⟨t,z,rfl⟩ o_).mono ?_
 rintro e w' ⟨rfl,g,rfl,Q,H⟩;have i:f.pop.ops=vs:=by simp[aJ.pop,L]
 have B:QH sh fp G b_ w { v with ov:=g } f.pop:=⟨o.fn,o.nx,o.ln,o.sp,o.g_,⟨p,by rw[i];exact Q,by rw[i];exact r⟩,λb I=>c b (fk _ (by rw[i] at I;exact I))⟩
 obtain⟨U,O⟩:=C.setTop (j:=5) (x:=g) (v':={ v with ov:=g }) o_ rfl (by simp[FVal.ownX,H]) B
 have q:∀k,G k->(w.setCell (aH gf (A.length*6+5)) g).heap[k]?=w.heap[k]?:=λk T=>ei _ _ _ _ λe=>(C.apart k T).2 (by simp[aR,e])
 refine⟨t,z,rfl,M.keep q,c a s_,⟨V.trans O J,em P O.size,D,S,l,_,s_,U,?_⟩,q⟩
 rw[show aR sh sb gf l (A++[{ v with ov:=g }])=aR sh sb gf l (A++[v]) by simp[aR,cB,FVal.ownX,H]]
 exact J
def dX.pop(h:dX sh fp b_ sb gf n t0 s0 own w0 G ⟨w_++[f],tape,out⟩ w){vs:List aM}{a:aM}(c:f.ops=vs++[a])(b:f.ops.length<=100000):Calls prog 87 #[.pointer (some (aH gf (n*6)))] w λe w'=>∃t z,e=aX (.iface t z)/\PV G w' (.iface t z) a/\aO a<=200/\dX sh fp b_ sb gf n t0 s0 own w0 G ⟨w_++[f.pop],tape,out⟩ w':=by
 refine(h.popK c b).mono ?_;rintro e w' ⟨t,z,i,d,j,g,_⟩;exact⟨t,z,i,d,j,g⟩
end
def bd_(k:Nat)(e:Ending):Prop:=(k=0/\e=aX (.tuple #[]))\/(k≠0/\e=fQ k)
def jR(h:W.heap=w.heap){k:Nat}(a:k<w.heap.size):k<W.heap.size:=by rw[h];exact a
def sX(h:W.heap=w.heap){a:Addr}(b:w.frozen? a=false):W.frozen? a=false:=by
 have e:W.frozen? a=w.frozen? a:=by unfold World.frozen?;rw[h]
 rw[e];exact b
def UQ(w a:aG)(sb c f:Nat)(P:World->Prop)(d:w.alloc (.cells #[] 327)=a)
 (j:Hid (∀W,aU a W->Calls prog 74 #[aZ sb] W λe w'=>e=aX (.pointer (some (aH c f)))/\aU a w'))
 (i:Hid (∀W,aU a W->Calls prog 87 #[.pointer (some (aH c f))] W λe w'=>∃t z,e=aX (.iface t z)/\P w')):
 Calls prog 290 #[.agg #[],aZ sb] w λe w'=>e=aX (.tuple #[])/\P w':=by
 have h:=aB d;clear d;go_in
 go_wp2_with fail;rw[h.out];refine(j _ (aU.refl _)).mono ?_;rintro e k ⟨rfl,b⟩;go_wp2_with fail;refine(i _ b).mono ?_;rintro e l ⟨t,z,rfl,g⟩;go_wp2
 go_end0;exact⟨rfl,g⟩
def NA(w c:aG)(sb d h:Nat)(P S:World->Prop)(k:TypeId->Value->World->Prop)(l:Bool->World->Prop)(j:w.alloc (.cells #[] 307)=c)
 (q:Hid (∀W,aU c W->Calls prog 74 #[aZ sb] W λe w'=>e=aX (.pointer (some (aH d h)))/\aU c w'))
 (p:Hid (∀W,aU c W->Calls prog 87 #[.pointer (some (aH d h))] W λe w'=>∃t z,e=aX (.iface t z)/\k t z w'))
 (o:Hid (∀W t z,k t z W->Calls prog 265 #[.iface t z] W λe w'=>(∃b,e=aX (.bool b)/\l b w')\/(e=fQ 2/\S w')))
 (m:Hid (∀W b,l b W->Calls prog 251 #[.pointer (some (aH d h)),.iface 185 (.bool b)] W λe w'=>e=aX (.tuple #[])/\P w')):
 Calls prog 276 #[.agg #[],aZ sb] w λe w'=>(e=aX (.tuple #[])/\P w')\/(e=fQ 2/\S w'):=by
 have n:=aB j;clear j;go_in
 go_wp2_with fail;rw[n.out];refine(q _ (aU.refl _)).mono ?_;rintro e s ⟨rfl,g⟩;go_wp2_with fail;refine(p _ g).mono ?_;rintro e v ⟨t,z,rfl,i⟩;have a:=aB (o _ t z i);clear i;go_wp2_with fail;refine a.mono ?_;rintro e u (⟨b,rfl,a⟩|⟨rfl,a⟩)
 ·have f:=aB (m _ b a);clear a;go_wp2_with fail;refine f.mono ?_;rintro e r ⟨rfl,f⟩;go_wp2
  go_end0;exact d7 ⟨rfl,f⟩
 ·go_wp2_with fail;exact⟨rfl,d6 ⟨rfl,a⟩⟩
def IP(w g:aG)(sb c d f:Nat)(P S:World->Prop)(m:TypeId->Value->World->Prop)(h:Bool->World->Prop)(l:w.alloc (.cells #[I_ f] 339)=g)
 (v:Hid (∀W,aU g W->Calls prog 74 #[aZ sb] W λe w'=>e=aX (.pointer (some (aH c d)))/\aU g w'))
 (s:Hid (∀W,aU g W->Calls prog 87 #[.pointer (some (aH c d))] W λe w'=>∃t z,e=aX (.iface t z)/\m t z w'))
 (r:Hid (∀W t z,m t z W->Calls prog 265 #[.iface t z] W λe w'=>(∃b,e=aX (.bool b)/\h b w')\/(e=fQ 2/\S w')))
 (n:Hid (∀W,h true W->P W)) (p:Hid (∀W,h false W->P (W.setCell (aH c (d+1)) (I_ f))))
 (o:Hid (∀W b,h b W->W.cell? (aH w.heap.size 0)=some (I_ f)/\w.heap.size<W.heap.size/\(∃u,W.cell? (aH c (d+1))=some u)/\W.frozen? (aH c (d+1))=false/\c<W.heap.size)):
 Calls prog 291 #[.agg #[I_ f],aZ sb] w λe w'=>(e=aX (.tuple #[])/\P w')\/(e=fQ 2/\S w'):=by
 have q:=aB l;clear l;go_in
 go_wp2_with fail;rw[q.out];refine(v _ (aU.refl _)).mono ?_;rintro e x ⟨rfl,j⟩;go_wp2_with fail;refine(s _ j).mono ?_;rintro e E ⟨t,z,rfl,k⟩;have a:=aB (r _ t z k);clear k;go_wp2_with fail;refine a.mono ?_;rintro e y (⟨b,rfl,a⟩|⟨rfl,a⟩)
 ·obtain⟨A,B,⟨u,C⟩,F,D⟩:=o _ b a;cases b with
  |false=>
   have i:=aB (p _ a);clear a;go_wp2
   go_end0;exact d7 ⟨rfl,i⟩
  |true=>
   have i:=aB (n _ a);clear a;go_wp2
   go_end0;exact d7 ⟨rfl,i⟩
 ·go_wp2_with fail;exact⟨rfl,d6 ⟨rfl,a⟩⟩
def TI(w c:aG)(sb f g d:Nat)(P:World->Prop)(j:w.alloc (.cells #[I_ d] 340)=c)
 (v:Hid (∀W,aU c W->Calls prog 74 #[aZ sb] W λe w'=>e=aX (.pointer (some (aH f g)))/\aU c w'))
 (h:∃u,c.cell? (aH f (g+1))=some u) (l:c.frozen? (aH f (g+1))=false) (q:f<c.heap.size)
 (r:Hid (∀W,aU c W->P (W.setCell (aH f (g+1)) (I_ d)))):
 Calls prog 292 #[.agg #[I_ d],aZ sb] w λe w'=>e=aX (.tuple #[])/\P w':=by
 have a:(w.alloc (.cells #[I_ d] 340)).heap[w.heap.size]?=some (.cells #[I_ d] 340 (0,0)):=aN _ _ rfl _;rw[j] at a;have s:=aB j;have o:=aA (i:=0) a rfl;have k:=aB o;have i:=aC a;obtain⟨u,h⟩:=h;have p:=aB h;have m:=aB l;clear j a h l;go_in
 go_wp2_with fail;rw[s.out];go_region_law (go_simp;go_at_call 74;refine(v _ (aU.drew _)).mono ?_;rintro e x ⟨rfl,b⟩;have y:=bN b.heap k;have z:=bN b.heap p;have A:=sX b.heap m;have t:=jR b.heap i;have n:=jR b.heap q)
 all_goals
  go_wp2
  go_end0;exact⟨rfl,r _ b⟩
def CF(w j:aG)(sb f g i:Nat)(d:Bool)(P S:World->Prop)(v:TypeId->Value->World->Prop)(k l:Bool->World->Prop)(q:w.alloc (.cells #[.bool d,I_ i] 309)=j)
 (J:Hid (∀W,aU j W->Calls prog 74 #[aZ sb] W λe w'=>e=aX (.pointer (some (aH f g)))/\aU j w'))
 (I:Hid (∀W,aU j W->Calls prog 87 #[.pointer (some (aH f g))] W λe w'=>∃t z,e=aX (.iface t z)/\v t z w'))
 (H:Hid (∀W t z,v t z W->Calls prog 265 #[.iface t z] W λe w'=>(∃b,e=aX (.bool b)/\k b w')\/(e=fQ 2/\S w')))
 (E:Hid (∀W b,k b W->Calls prog 251 #[.pointer (some (aH f g)),.iface 185 (.bool b)] W λe w'=>e=aX (.tuple #[])/\l b w'))
 (B:Hid (∀W b,k b W->b≠d->P W)) (s:Hid (∀W b,l b W->b=d->P (W.setCell (aH f (g+1)) (I_ i))))
 (o:Hid (∀W b,k b W->W.cell? (aH w.heap.size 0)=some (.bool d)/\w.heap.size<W.heap.size))
 (r:Hid (∀W b,l b W->W.cell? (aH w.heap.size 1)=some (I_ i)/\w.heap.size<W.heap.size/\(∃u,W.cell? (aH f (g+1))=some u)/\W.frozen? (aH f (g+1))=false/\f<W.heap.size)):
 Calls prog 277 #[.agg #[.bool d,I_ i],aZ sb] w λe w'=>(e=aX (.tuple #[])/\P w')\/(e=fQ 2/\S w'):=by
 have F:=aB q;clear q;go_in
 go_wp2_with fail;rw[F.out];refine(J _ (aU.refl _)).mono ?_;rintro e K ⟨rfl,n⟩;go_wp2_with fail;refine(I _ n).mono ?_;rintro e O ⟨t,z,rfl,p⟩;have c:=aB (H _ t z p);clear p;go_wp2_with fail;refine c.mono ?_;rintro e L (⟨b,rfl,c⟩|⟨rfl,c⟩)
 ·obtain⟨M,N⟩:=o _ b c;by_cases h:b=d
  ·subst h;have a:=aB (E _ b c);clear c;cases b with
   |true=>
    go_wp2_with fail;refine a.mono ?_;rintro e x ⟨rfl,a⟩;obtain⟨C,y,⟨u,A⟩,G,D⟩:=r _ _ a;have m:=aB (s _ _ a rfl);clear a;go_wp2
    go_end0;exact d7 ⟨rfl,m⟩
   |false=>
    go_wp2_with fail;refine a.mono ?_;rintro e x ⟨rfl,a⟩;obtain⟨C,y,⟨u,A⟩,G,D⟩:=r _ _ a;have m:=aB (s _ _ a rfl);clear a;go_wp2
    go_end0;exact d7 ⟨rfl,m⟩
  ·have a:=aB (B _ b c h);clear c;cases b<;>cases d<;>first|exact absurd rfl h|(clear h;go_wp2_with fail;go_end0;exact d7 ⟨rfl,a⟩)
 ·go_wp2_with fail;exact⟨rfl,d6 ⟨rfl,c⟩⟩
def KQ(w d:aG)(sb c g:Nat)(op:cC)(k:Nat)(P S:World->Prop)(r:TypeId->Value->World->Prop)(n:TypeId->Value->TypeId->Value->World->Prop)(p:TypeId->Value->World->Prop)(q:w.alloc (.cells #[.string (bs op)] 306)=d)
 (E:Hid (∀W,aU d W->Calls prog 74 #[aZ sb] W λe w'=>e=aX (.pointer (some (aH c g)))/\aU d w'))
 (D:Hid (∀W,aU d W->Calls prog 87 #[.pointer (some (aH c g))] W λe w'=>∃t z,e=aX (.iface t z)/\r t z w'))
 (m:Hid (∀W t z,r t z W->Calls prog 87 #[.pointer (some (aH c g))] W λe w'=>∃a b,e=aX (.iface a b)/\n t z a b w'))
 (s:Hid (∀W t z a b,n t z a b W->W.cell? (aH w.heap.size 0)=some (.string (bs op))/\w.heap.size<W.heap.size))
 (C:Hid (∀W t z a b,n t z a b W->Calls prog 268 #[.string (bs op),.iface a b,.iface t z] W λe w'=>(∃j i,e=aX (.iface j i)/\p j i w')\/(e=fQ k/\S w')))
 (A:Hid (∀W t z,p t z W->Calls prog 251 #[.pointer (some (aH c g)),.iface t z] W λe w'=>e=aX (.tuple #[])/\P w')):
 Calls prog 267 #[.agg #[.string (bs op)],aZ sb] w λe w'=>(e=aX (.tuple #[])/\P w')\/(e=fQ k/\S w'):=by
 have B:=aB q;clear q;go_in
 go_wp2_with fail;rw[B.out];refine(E _ (aU.refl _)).mono ?_;rintro e G ⟨rfl,l⟩;go_wp2_with fail;refine(D _ l).mono ?_;rintro e K ⟨t,z,rfl,o⟩;have y:=aB (m _ t z o);clear o;go_wp2_with fail;refine y.mono ?_;rintro e H ⟨a,b,rfl,h⟩;obtain⟨I,J⟩:=s _ _ _ _ _ h;have v:=aB (C _ _ _ _ _ h);clear h;go_wp2_with fail;refine v.mono ?_;rintro e F (⟨j,i,rfl,f⟩|⟨rfl,f⟩)
 ·have u:=aB (A _ _ _ f);clear f;go_wp2_with fail;refine u.mono ?_;rintro e L ⟨rfl,x⟩;go_wp2
  go_end0;exact d7 ⟨rfl,x⟩
 ·go_wp2_with fail;exact⟨rfl,d6 ⟨rfl,f⟩⟩
def OT(w d:aG)(sb c g:Nat)(k:Nat)(P S:World->Prop)(q:TypeId->Value->World->Prop)(r:TypeId->Value->TypeId->Value->World->Prop)(n:TypeId->Value->World->Prop)(o:w.alloc (.cells #[] 276)=d)
 (D:Hid (∀W,aU d W->Calls prog 74 #[aZ sb] W λe w'=>e=aX (.pointer (some (aH c g)))/\aU d w'))
 (C:Hid (∀W,aU d W->Calls prog 87 #[.pointer (some (aH c g))] W λe w'=>∃t z,e=aX (.iface t z)/\q t z w'))
 (l:Hid (∀W t z,q t z W->Calls prog 87 #[.pointer (some (aH c g))] W λe w'=>∃a b,e=aX (.iface a b)/\r t z a b w'))
 (B:Hid (∀W t z a b,r t z a b W->Calls prog 261 #[.iface a b,.iface t z] W λe w'=>(∃i h,e=aX (.iface i h)/\n i h w')\/(e=fQ k/\S w')))
 (y:Hid (∀W t z,n t z W->Calls prog 251 #[.pointer (some (aH c g)),.iface t z] W λe w'=>e=aX (.tuple #[])/\P w')):
 Calls prog 260 #[.agg #[],aZ sb] w λe w'=>(e=aX (.tuple #[])/\P w')\/(e=fQ k/\S w'):=by
 have A:=aB o;clear o;go_in
 go_wp2_with fail;rw[A.out];refine(D _ (aU.refl _)).mono ?_;rintro e F ⟨rfl,j⟩;go_wp2_with fail;refine(C _ j).mono ?_;rintro e H ⟨t,z,rfl,m⟩;have x:=aB (l _ t z m);clear m;go_wp2_with fail;refine x.mono ?_;rintro e G ⟨a,b,rfl,p⟩;have u:=aB (B _ _ _ _ _ p);clear p;go_wp2_with fail;refine u.mono ?_;rintro e E (⟨i,h,rfl,f⟩|⟨rfl,f⟩)
 ·have s:=aB (y _ _ _ f);clear f;go_wp2_with fail;refine s.mono ?_;rintro e I ⟨rfl,v⟩;go_wp2
  go_end0;exact d7 ⟨rfl,v⟩
 ·go_wp2_with fail;exact⟨rfl,d6 ⟨rfl,f⟩⟩
def JR(w a:aG)(sb c h:Nat)(k:Nat)(P S:World->Prop)(m j:TypeId->Value->World->Prop)(l:w.alloc (.cells #[] 310)=a)
 (v:Hid (∀W,aU a W->Calls prog 74 #[aZ sb] W λe w'=>e=aX (.pointer (some (aH c h)))/\aU a w'))
 (u:Hid (∀W,aU a W->Calls prog 87 #[.pointer (some (aH c h))] W λe w'=>∃t z,e=aX (.iface t z)/\m t z w'))
 (s:Hid (∀W t z,m t z W->Calls prog 279 #[.iface t z] W λe w'=>(∃f d,e=aX (.iface f d)/\j f d w')\/(e=fQ k/\S w')))
 (q:Hid (∀W t z,j t z W->Calls prog 251 #[.pointer (some (aH c h)),.iface t z] W λe w'=>e=aX (.tuple #[])/\P w')):
 Calls prog 278 #[.agg #[],aZ sb] w λe w'=>(e=aX (.tuple #[])/\P w')\/(e=fQ k/\S w'):=by
 have r:=aB l;clear l;go_in
 go_wp2_with fail;rw[r.out];refine(v _ (aU.refl _)).mono ?_;rintro e y ⟨rfl,g⟩;go_wp2_with fail;refine(u _ g).mono ?_;rintro e A ⟨t,z,rfl,i⟩;have o:=aB (s _ t z i);clear i;go_wp2_with fail;refine o.mono ?_;rintro e x (⟨f,d,rfl,b⟩|⟨rfl,b⟩)
 ·have n:=aB (q _ _ _ b);clear b;go_wp2_with fail;refine n.mono ?_;rintro e B ⟨rfl,p⟩;go_wp2
  go_end0;exact d7 ⟨rfl,p⟩
 ·go_wp2_with fail;exact⟨rfl,d6 ⟨rfl,b⟩⟩
def TC(w f:aG)(sb j p c:Nat)(k:Nat)(P S:World->Prop)(s:Option Addr->Nat->World->Prop)(r:TypeId->Value->World->Prop)(l:w.alloc (.cells #[I_ c] 275)=f)
 (F:Hid (∀W,aU f W->Calls prog 74 #[aZ sb] W λe w'=>e=aX (.pointer (some (aH j p)))/\aU f w'))
 (E:Hid (∀W,aU f W->Calls prog 257 #[.pointer (some (aH j p)),I_ c] W λe w'=>∃x d,e=aX (.slice x c d)/\s x d w'))
 (D:Hid (∀W x d,s x d W->Calls prog 256 #[.slice x c d] W λe w'=>(∃n m,e=aX (.iface n m)/\r n m w')\/(e=fQ k/\S w')))
 (A:Hid (∀W t z,r t z W->Calls prog 251 #[.pointer (some (aH j p)),.iface t z] W λe w'=>e=aX (.tuple #[])/\P w')):
 Calls prog 255 #[.agg #[I_ c],aZ sb] w λe w'=>(e=aX (.tuple #[])/\P w')\/(e=fQ k/\S w'):=by
 have a:(w.alloc (.cells #[I_ c] 275)).heap[w.heap.size]?=some (.cells #[I_ c] 275 (0,0)):=aN _ _ rfl _;rw[l] at a;have B:=aB l;have o:=aB (aA (i:=0) a rfl);have h:=aC a;clear l a;go_in
 go_wp2_with fail;rw[B.out];refine(F _ (aU.refl _)).mono ?_;rintro e H ⟨rfl,b⟩;have I:=bN b.heap o;have C:=jR b.heap h;go_wp2_with fail;refine(E _ b).mono ?_;rintro e J ⟨x,d,rfl,q⟩;have v:=aB (D _ x d q);clear q;go_wp2_with fail;refine v.mono ?_;rintro e G (⟨n,m,rfl,g⟩|⟨rfl,g⟩)
 ·have u:=aB (A _ _ _ g);clear g;go_wp2_with fail;refine u.mono ?_;rintro e K ⟨rfl,y⟩;go_wp2
  go_end0;exact d7 ⟨rfl,y⟩
 ·go_wp2_with fail;exact⟨rfl,d6 ⟨rfl,g⟩⟩
def NC{P:Program}{b:Array Oper}{o:Oper}{a:Act}{K:Act->World->Prop}{Q:Exit->Act->World->Prop}{E:Prop}(c:aQ)
 (h:if Region.wanted o (yielded b a.tmps)=true then Oper.wp P o a w K Q else E) (_d:Hid False->K (a.put o.dst c) w):
 if Region.wanted o (yielded b a.tmps)=true then Oper.wp P o a w K Q else E:=h
def WE(w d:aG)(sb g n:Nat)(op:cC)(P:World->Prop)(l p:TypeId->Value->World->Prop)(h:w.alloc (.cells #[.string (bs op)] 278)=d)
 (B:Hid (∀W,aU d W->Calls prog 74 #[aZ sb] W λe w'=>e=aX (.pointer (some (aH g n)))/\aU d w'))
 (A:Hid (∀W,aU d W->Calls prog 87 #[.pointer (some (aH g n))] W λe w'=>∃t z,e=aX (.iface t z)/\l t z w'))
 (q:Hid (∀W t z,l t z W->W.cell? (aH w.heap.size 0)=some (.string (bs op))/\w.heap.size<W.heap.size))
 (y:Hid (∀W t z,l t z W->Calls prog 264 #[.string (bs op),.iface t z] W λe w'=>∃k j,e=aX (.iface k j)/\p k j w'))
 (u:Hid (∀W t z,p t z W->Calls prog 251 #[.pointer (some (aH g n)),.iface t z] W λe w'=>e=aX (.tuple #[])/\P w')):
 Calls prog 263 #[.agg #[.string (bs op)],aZ sb] w λe w'=>e=aX (.tuple #[])/\P w':=by
 have a:(w.alloc (.cells #[.string (bs op)] 278)).heap[w.heap.size]?=some (.cells #[.string (bs op)] 278 (0,0)):=aN _ _ rfl _;rw[h] at a;have v:=aB h;have m:=aB (aA (i:=0) a rfl);have f:=aC a;clear h a;go_in
 go_wp2_with fail;rw[v.out];refine(B _ (aU.refl _)).mono ?_;rintro e D ⟨rfl,b⟩;have G:=bN b.heap m;have x:=jR b.heap f;go_wp2_with fail;go_region_law (go_simp;first|(go_at_call 87;refine(A _ (b.trans (aU.drew _))).mono ?_;rintro e I ⟨t,z,rfl,o⟩;have c:=q _ _ _ o;have E:=c.1;have H:=c.2;clear c)|(go_at_call 264;refine(y _ _ _ o).mono ?_;rintro e F ⟨k,j,rfl,s⟩)|(go_at_call 251;refine(u _ _ _ s).mono ?_;rintro e C ⟨rfl,r⟩))
 all_goals
  go_wp2
  go_end0;exact⟨rfl,r⟩
def MW(w g:aG)(sb o p:Nat)(op:cC)(k:Nat)(S:World->Prop)(l:TypeId->Value->World->Prop)(j:w.alloc (.cells #[.string (bs op)] 278)=g)
 (y:Hid (∀W,aU g W->Calls prog 74 #[aZ sb] W λe w'=>e=aX (.pointer (some (aH o p)))/\aU g w'))
 (x:Hid (∀W,aU g W->Calls prog 87 #[.pointer (some (aH o p))] W λe w'=>∃t z,e=aX (.iface t z)/\l t z w'))
 (q:Hid (∀W t z,l t z W->W.cell? (aH w.heap.size 0)=some (.string (bs op))/\w.heap.size<W.heap.size))
 (v:Hid (∀W t z,l t z W->Calls prog 264 #[.string (bs op),.iface t z] W λe w'=>e=fQ k/\S w')):
 Calls prog 263 #[.agg #[.string (bs op)],aZ sb] w λe w'=>e=fQ k/\S w':=by
 have b:(w.alloc (.cells #[.string (bs op)] 278)).heap[w.heap.size]?=some (.cells #[.string (bs op)] 278 (0,0)):=aN _ _ rfl _;rw[j] at b;have s:=aB j;have m:=aB (aA (i:=0) b rfl);have h:=aC b;clear j b;go_in
 go_wp2_with fail;rw[s.out];refine(y _ (aU.refl _)).mono ?_;rintro e A ⟨rfl,c⟩;have D:=bN c.heap m;have u:=jR c.heap h;go_wp2_with fail;go_region_law (first|(go_simp;go_at_call 87;refine(x _ (c.trans (aU.drew _))).mono ?_;rintro e F ⟨t,z,rfl,n⟩;have d:=q _ _ _ n;have B:=d.1;have E:=d.2;clear d)|(refine NC (.iface 185 (.bool true)) ?_ ?_;(focus go_simp;go_at_call 264;refine(v _ _ _ n).mono ?_;rintro e C ⟨rfl,r⟩;exact⟨rfl,rfl,r⟩);intro a)|(refine NC (.tuple #[]) a.out.elim ?_;intro f))
 all_goals exact a.out.elim
def TB(w d:World)(sb k p c g n m:Nat)(t:TypeId)(z:Value)(P:World->Prop)(l:w.alloc (.cells #[.int .i64 c] 273)=d)
 (A:Hid (∀W,aU d W->Calls prog 74 #[.pointer (some ⟨sb,0,none⟩)] W λe w'=>e=.returned (.pointer (some ⟨k,p,none⟩))/\aU d w'))
 (r:d.cell? ⟨k,p+4,none⟩=some (.slice (some ⟨g,0,none⟩) n m)) (q:d.cell? ⟨g,c,none⟩=some (.iface t z)) (s:c<n)
 (v:Hid (∀W,aU d W->Calls prog 251 #[.pointer (some ⟨k,p,none⟩),.iface t z] W λe w'=>e=.returned (.tuple #[])/\P w')):
 Calls prog 254 #[.agg #[.int .i64 c],.pointer (some ⟨sb,0,none⟩)] w λe w'=>e=.returned (.tuple #[])/\P w':=by
 have a:(w.alloc (.cells #[.int .i64 c] 273)).heap[w.heap.size]?=some (.cells #[.int .i64 c] 273 (0,0)):=aN _ _ rfl _;rw[l] at a;have x:=aB l;have f:=aB (aA (i:=0) a rfl);have h:=aC a;have j:=aB r;have o:=aB q;have I:(0:Int)<=(c:Int):=o_
 have E:(c:Int)<(n:Int):=o_
 clear l a r q;go_enter func254,ntmps254;go_wp2_with fail;rw[x.out];have D:=f.out;go_region_law (go_simp;first|(go_at_call 74;refine(A.out _ (by first|assumption|exact aU.drew _)).mono ?_;rintro e C ⟨rfl,b⟩;have F:=bN b.heap f.out;have y:=jR b.heap h;have G:=bN b.heap j.out;have H:=bN b.heap o.out)|(go_at_call 251;refine(v.out _ b).mono ?_;rintro e B ⟨rfl,u⟩))
 all_goals
  go_wp2_with fail;go_end0;exact⟨rfl,u⟩
def PZ(w d:World)(sb g h o:Nat)(j:Option Addr)(P:World->Prop)(q:w.alloc (.cells #[.int .i64 o,.pointer j] 245)=d)
 (C:Hid (∀W,aU d W->Calls prog 74 #[.pointer (some ⟨sb,0,none⟩)] W λe w'=>e=.returned (.pointer (some ⟨g,h,none⟩))/\aU d w'))
 (c:∃u,d.cell? ⟨g,h+2,none⟩=some u) (f:∃u,d.cell? ⟨g,h+3,none⟩=some u) (m:d.frozen? ⟨g,h+2,none⟩=false) (l:d.frozen? ⟨g,h+3,none⟩=false) (y:g<d.heap.size)
 (z:Hid (∀W,aU d W->P ((W.setCell ⟨g,h+2,none⟩ (.int .i64 o)).setCell ⟨g,h+3,none⟩ (.pointer j)))):
 Calls prog 253 #[.agg #[.int .i64 o,.pointer j],.pointer (some ⟨sb,0,none⟩)] w λe w'=>e=.returned (.tuple #[])/\P w':=by
 have b:(w.alloc (.cells #[.int .i64 o,.pointer j] 245)).heap[w.heap.size]?=some (.cells #[.int .i64 o,.pointer j] 245 (0,0)):=aN _ _ rfl _;rw[q] at b;have A:=aB q;have n:=aB (aA (i:=0) b rfl);have k:=aB (aA (i:=1) b rfl);have p:=aC b;obtain⟨u2,c⟩:=c;obtain⟨u3,f⟩:=f;have v:=aB c;have r:=aB f;have s:=aB m;have t:=aB l;have H:=n.out;have I:=k.out;clear q b c f m l;go_enter func253,ntmps253;go_wp2_with fail;rw[A.out];go_region_law (go_simp;go_at_call 74;refine(C.out _ (aU.drew _)).mono ?_;rintro e D ⟨rfl,a⟩;have J:=bN a.heap n.out;have G:=bN a.heap k.out;have E:=bN a.heap v.out;have F:=bN a.heap r.out;have L:=sX a.heap s.out;have K:=sX a.heap t.out;have B:=jR a.heap p;have x:=jR a.heap y)
 all_goals
  go_wp2_with fail;go_end0;exact⟨rfl,z.out _ a⟩
def kZ(n:Int):aO (bH n)=1:=by rw[fJ];rfl
def mP(b:Bool):aO (bV b)=1:=by rw[fJ];rfl
def kC:aO bS<=200:=by rw[fJ];decide
def O1(op:cC)(a:aM):aO (fW op a).1<=200:=by
 unfold fW;repeat' split
 all_goals first|(show aO (bH _)<=200;rw[kZ];omega)|(show aO (bV _)<=200;rw[mP];omega)|exact kC
def ZC(op:cC)(x y:Int):aO (jZ op x y).1<=200:=by
 unfold jZ;repeat' split
 all_goals first|(show aO (bH _)<=200;rw[kZ];omega)|(show aO (bV _)<=200;rw[mP];omega)|exact kC
def OR(a b:aM):aO (jY a b).1<=200:=by
 unfold jY;dsimp only;by_cases h:200<aO (if a.sort=3 then bB (a.l++b.l) else bP (a.s++b.s))
 ·rw[if_pos h];exact kC
 ·rw[if_neg h];exact Nat.le_of_not_lt h
def J5(op:cC)(a b:aM):aO (fA op a b).1<=200:=by
 unfold fA;repeat' split
 all_goals first|exact ZC _ _ _|exact OR _ _|(show aO (bV _)<=200;rw[mP];omega)|exact kC
def TE(r:aM × Nat)(h:(iS r).2=0):aO (iS r).1<=200:=by
 unfold iS at h ⊢
 by_cases a:r.2=0
 ·rw[if_pos a] at h ⊢
  by_cases b:200<aO r.1
  ·rw[if_pos b] at h;cases h
  ·rw[if_neg b];omega
 ·rw[if_neg a] at h;exact absurd h a
def PV.bool(h:PV F w v a)(d:a.sort=1):a=bV (decide (a.n=1)):=by
 rcases h.cases with ⟨n,_,rfl,_⟩|⟨b,_,rfl⟩|⟨s,_,rfl⟩|⟨x,c,l,_,rfl,_⟩
 ·simp[bH] at d
 ·cases b<;>rfl
 ·simp[bP] at d
 ·simp[bB] at d
def jS{vs:List aM}(h:f.ops=vs++[a]):f.last=a:=by simp[aJ.last,h]
def nN{vs:List aM}(h:f.ops=vs++[a]):f.pop.ops=vs:=by simp[aJ.pop,h]
def iW(sh:Bool)(fp:eK)(F:bY)(b_ sb gf:Nat)(t0 s0:aQ)(own:List Nat)(w:aG)(w_:List aJ)(tape:List Int)(out:cN)(r:aJ × Nat)(e:Ending)(w':aG):Prop:=
 bd_ r.2 e/\gB sh fp F b_ sb gf t0 s0 own w ⟨w_++[r.1],tape,out⟩ w'
def DoP(fp:eK)(F:bY)(b_ sb:Nat)(t0 s0:aQ)(own:List Nat)(w:aG)(w_:List aJ)(tape:List Int)(out:cN)(r:aJ × Nat)(e:Ending)(w':aG):Prop:=
 bd_ r.2 e/\Done fp F b_ sb t0 s0 own w ⟨w_++[r.1],tape,out⟩ w'
section
variable {sh:Bool} {fp:eK} {F:bY} {b_:Nat} {w:aG} {sb gf cap:Nat} {t0 tv u_ s0:aQ} {v_:List FVal} {w_:List aJ} {f:aJ} {tape:List Int} {out:cN}
def iW.ok{own:List Nat}{r:aJ × Nat}{g:aJ}{w':aG}(a:r=(g,0))(h:gB sh fp F b_ sb gf t0 s0 own w ⟨w_++[g],tape,out⟩ w'):iW sh fp F b_ sb gf t0 s0 own w w_ tape out r (aX (.tuple #[])) w':=by
 subst a;exact⟨d7 ⟨rfl,rfl⟩,h⟩
def iW.stop{own:List Nat}{r:aJ × Nat}{g:aJ}{k:Nat}{w':aG}(b:r=(g,k))(a:k≠0)(h:gB sh fp F b_ sb gf t0 s0 own w ⟨w_++[g],tape,out⟩ w'):iW sh fp F b_ sb gf t0 s0 own w w_ tape out r (fQ k) w':=by
 subst b;exact⟨d6 ⟨a,rfl⟩,h⟩
def iW.toP{own:List Nat}{r:aJ × Nat}{e:Ending}{w':aG}(h:iW false fp F b_ sb gf t0 s0 own w w_ tape out r e w'):DoP fp F b_ sb t0 s0 own w w_ tape out r e w':=⟨h.1,h.2.done⟩
def DoP.ok{own:List Nat}{r:aJ × Nat}{g:aJ}{w':aG}(a:r=(g,0))(h:Done fp F b_ sb t0 s0 own w ⟨w_++[g],tape,out⟩ w'):DoP fp F b_ sb t0 s0 own w w_ tape out r (aX (.tuple #[])) w':=by
 subst a;exact⟨d7 ⟨rfl,rfl⟩,h⟩
def DoP.stop{own:List Nat}{r:aJ × Nat}{g:aJ}{k:Nat}{w':aG}(b:r=(g,k))(a:k≠0)(h:Done fp F b_ sb t0 s0 own w ⟨w_++[g],tape,out⟩ w'):DoP fp F b_ sb t0 s0 own w w_ tape out r (fQ k) w':=by
 subst b;exact⟨d6 ⟨a,rfl⟩,h⟩
def dA.count{m:cS}(h:dA sh fp F b_ w sb gf cap t0 tv u_ s0 v_ m):v_.length=m.f_.length:=h.frs.length
def dA.mid(h:dA sh fp F b_ w sb gf cap t0 tv u_ s0 v_ ⟨w_++[f],tape,out⟩)(b:b_<=w.heap.size)(a:Obj):dX sh fp b_ sb gf w_.length t0 s0 (aR sh sb gf u_ v_) (w.alloc a) F ⟨w_++[f],tape,out⟩ (w.alloc a):=
 dX.init h (by rw[h.count];simp) b a
def dX.topS{own:List Nat}{a:aG}{G:bY}{n:Nat}{m:cS}(h:dX sh fp b_ sb gf n t0 s0 own a G m a)(f:n<=15):Hid (∀W,aU a W->Calls prog 74 #[aZ sb] W λe w'=>e=aX (.pointer (some (aH gf (n*6))))/\aU a w'):=λW b=>by
 refine((h.same b).top f).mono ?_;rintro e w' ⟨c,d⟩;exact⟨c,b.trans d⟩
def dX.box{n:Nat}{G:bY}{m:cS}{cs:Array Value}{a:TypeId}{W:aG}(h:dA sh fp F b_ w sb gf cap t0 tv u_ s0 v_ ⟨w_++[f],tape,out⟩)(c:dX sh fp b_ sb gf n t0 s0 (aR sh sb gf u_ v_) (w.alloc (.cells cs a)) G m W):W.heap[w.heap.size]?=some (.cells cs a (0,0)):=by
 rw[c.old s_ (λb=>Nat.lt_irrefl _ (h.lt _ b))]
 exact aN _ _ rfl _
def cc_(h:dA sh fp F b_ w sb gf cap t0 tv u_ s0 v_ ⟨w_++[f],tape,out⟩)(c:w_.length<=15)(b:b_<=w.heap.size)(l:f.ops.length<=99000)(d:∃j a,f.ops=j++[a]):
 Calls prog 290 #[.agg #[],aZ sb] w (iW sh fp F b_ sb gf t0 s0 (aR sh sb gf u_ v_) w w_ tape out (aL .drop f)):=by
 obtain⟨j,a,m⟩:=d;have k:=h.mid b (.cells #[] 327);refine(UQ w _ sb gf (w_.length*6) (λg=>gB sh fp F b_ sb gf t0 s0 (aR sh sb gf u_ v_) w ⟨w_++[f.pop],tape,out⟩ g) rfl (k.topS c) λW o=>?_).mono ?_
 ·refine((k.same o).pop m o_).mono ?_
  rintro e g ⟨t,z,n,_,_,i⟩;exact⟨t,z,n,i.doneX (Ext.refl _ _)⟩
 ·rintro e g ⟨rfl,i⟩;exact iW.ok rfl i
def j5(h:dA sh fp F b_ w sb gf cap t0 tv u_ s0 v_ ⟨w_++[f],tape,out⟩)(l:w_.length<=15)(i:b_<=w.heap.size)(k:f.ops.length<=99000)(o:∃s a,f.ops=s++[a]):
 Calls prog 276 #[.agg #[],aZ sb] w (iW sh fp F b_ sb gf t0 s0 (aR sh sb gf u_ v_) w w_ tape out (aL .truth f)):=by
 obtain⟨s,a,m⟩:=o;have r:=h.mid i (.cells #[] 307);have v:f.pop.ops.length<=100000:=by rw[nN m];rw[m,el] at k;omega
 refine(NA w _ sb gf (w_.length*6) (λg=>a.sort=1/\gB sh fp F b_ sb gf t0 s0 (aR sh sb gf u_ v_) w ⟨w_++[f.pop.push a],tape,out⟩ g) (λg=>a.sort≠1/\gB sh fp F b_ sb gf t0 s0 (aR sh sb gf u_ v_) w ⟨w_++[f.pop],tape,out⟩ g)
  (λt z W=>PV F W (.iface t z) a/\aO a<=200/\dX sh fp b_ sb gf w_.length t0 s0 (aR sh sb gf u_ v_) (w.alloc (.cells #[] 307)) F ⟨w_++[f.pop],tape,out⟩ W)
  (λb W=>a.sort=1/\a=bV b/\dX sh fp b_ sb gf w_.length t0 s0 (aR sh sb gf u_ v_) (w.alloc (.cells #[] 307)) F ⟨w_++[f.pop],tape,out⟩ W) rfl (r.topS l) (λW y=>?_) (λW t z p=>?_) (λW b p=>?_)).mono ?_
 ·refine((r.same y).pop m o_).mono ?_
  rintro e g ⟨t,z,q,c,d,j⟩;exact⟨t,z,q,c,d,j⟩
 ·obtain⟨c,d,j⟩:=p;refine(qK F _ a W c).mono ?_;rintro e g ⟨rfl,⟨n,rfl⟩|⟨n,rfl⟩⟩
  ·exact d7 ⟨_,rfl,n,c.bool n,j⟩
  ·exact d6 ⟨rfl,n,j.doneX (Ext.refl _ _)⟩
 ·obtain⟨c,d,j⟩:=p;rw[d] at c ⊢
  refine(j.push (PV.tru F W b) (by rw[mP];omega) v).mono ?_
  rintro e g ⟨q,u⟩;exact⟨q,c,u.doneX (Ext.refl _ _)⟩
 ·have x:aL .truth f=if a.sort=1 then (f.pop.push a,0) else (f.pop,2):=by simp[aL,jS m]
  rw[x];rintro e g (⟨rfl,c,d⟩|⟨rfl,c,d⟩)
  ·exact iW.ok (if_pos c) d
  ·exact iW.stop (if_neg c) d_ d
end
section
variable {sh:Bool} {fp:eK} {F:bY} {b_:Nat} {w:aG} {sb gf cap:Nat} {t0 tv u_ s0:aQ} {v_:List FVal} {w_:List aJ} {f:aJ} {tape:List Int} {out:cN}
def dX.next{own:List Nat}{c:aG}{G:bY}{n:Nat}(h:dX sh fp b_ sb gf n t0 s0 own c G ⟨w_++[f],tape,out⟩ w)(b:Nat):dX sh fp b_ sb gf n t0 s0 own c G ⟨w_++[{ f with next:=b }],tape,out⟩ (w.setCell (aH gf (n*6+1)) (I_ b)):=
 h.set 1 (I_ b) o_ (λv=>{ v with nx:=I_ b }) (λ_=>rfl) (λ_ _=>rfl) λ_ a=>⟨a.fn,rfl,a.ln,a.sp,a.g_,a.ops⟩
def dX.cell{own:List Nat}{e:aG}{G:bY}{n:Nat}(h:dX sh fp b_ sb gf n t0 s0 own e G ⟨w_++[f],tape,out⟩ w)(j:Nat)(a:j<6):(∃u,w.cell? (aH gf (n*6+j))=some u)/\w.frozen? (aH gf (n*6+j))=false/\gf<w.heap.size:=by
 obtain⟨v,i,b,g⟩:=h.cells;obtain⟨d,c⟩:=g j (v.cells[j]'(by simpa [FVal.cells] using a)) (fh _)
 exact⟨⟨_,d⟩,c,b⟩
def bV_(b:Nat)(h:dA sh fp F b_ w sb gf cap t0 tv u_ s0 v_ ⟨w_++[f],tape,out⟩)(c:w_.length<=15)(a:b_<=w.heap.size):
 Calls prog 292 #[.agg #[I_ b],aZ sb] w (iW sh fp F b_ sb gf t0 s0 (aR sh sb gf u_ v_) w w_ tape out (aL (.jump b) f)):=by
 have g:=h.mid a (.cells #[I_ b] 340);obtain⟨k,d,l⟩:=g.cell 1 o_
 refine(TI w _ sb gf (w_.length*6) b (λi=>gB sh fp F b_ sb gf t0 s0 (aR sh sb gf u_ v_) w ⟨w_++[{ f with next:=b }],tape,out⟩ i) rfl (g.topS c) k d l λW j=>?_).mono ?_
 ·exact((g.same j).next b).doneX (Ext.refl _ _)
 ·rintro e i ⟨rfl,d⟩;exact iW.ok rfl d
def J1(i:Nat)(h:dA sh fp F b_ w sb gf cap t0 tv u_ s0 v_ ⟨w_++[f],tape,out⟩)(m:w_.length<=15)(j:b_<=w.heap.size)(q:f.ops.length<=99000)(n:∃s a,f.ops=s++[a]):
 Calls prog 291 #[.agg #[I_ i],aZ sb] w (iW sh fp F b_ sb gf t0 s0 (aR sh sb gf u_ v_) w w_ tape out (aL (.skip i) f)):=by
 obtain⟨s,a,u⟩:=n;have p:=h.mid j (.cells #[I_ i] 339)
 refine(IP w _ sb gf (w_.length*6) i (λl=>a.sort=1/\gB sh fp F b_ sb gf t0 s0 (aR sh sb gf u_ v_) w ⟨w_++[if a.n=1 then f.pop else { f.pop with next:=i }],tape,out⟩ l) (λl=>a.sort≠1/\gB sh fp F b_ sb gf t0 s0 (aR sh sb gf u_ v_) w ⟨w_++[f.pop],tape,out⟩ l)
  (λt z W=>PV F W (.iface t z) a/\aO a<=200/\dX sh fp b_ sb gf w_.length t0 s0 (aR sh sb gf u_ v_) (w.alloc (.cells #[I_ i] 339)) F ⟨w_++[f.pop],tape,out⟩ W)
  (λb W=>a.sort=1/\b=decide (a.n=1)/\dX sh fp b_ sb gf w_.length t0 s0 (aR sh sb gf u_ v_) (w.alloc (.cells #[I_ i] 339)) F ⟨w_++[f.pop],tape,out⟩ W) rfl (p.topS m) (λW C=>?_) (λW t z k=>?_) (λW k=>?_) (λW k=>?_) (λW b k=>?_)).mono ?_
 ·refine((p.same C).pop u o_).mono ?_
  rintro e l ⟨t,z,B,c,d,g⟩;exact⟨t,z,B,c,d,g⟩
 ·obtain⟨c,d,g⟩:=k;refine(qK F _ a W c).mono ?_;rintro e l ⟨rfl,⟨o,rfl⟩|⟨o,rfl⟩⟩
  ·exact d7 ⟨_,rfl,o,rfl,g⟩
  ·exact d6 ⟨rfl,o,g.doneX (Ext.refl _ _)⟩
 ·obtain⟨c,d,g⟩:=k;refine⟨c,?_⟩;rw[if_pos (of_decide_eq_true d.symm)];exact g.doneX (Ext.refl _ _)
 ·obtain⟨c,d,g⟩:=k;refine⟨c,?_⟩;rw[if_neg (of_decide_eq_false d.symm)];exact(g.next i).doneX (Ext.refl _ _)
 ·obtain⟨c,d,g⟩:=k;have r:=dX.box h g;obtain⟨v,A,x⟩:=g.cell 1 o_
  exact⟨aA r rfl,aC r,v,A,x⟩
 ·have y:aL (.skip i) f=if a.sort=1 then (if a.n=1 then f.pop else { f.pop with next:=i },0) else (f.pop,2):=by simp[aL,jS u]
  rw[y];rintro e l (⟨rfl,c,d⟩|⟨rfl,c,d⟩)
  ·exact iW.ok (if_pos c) d
  ·exact iW.stop (if_neg c) d_ d
def RP(k:Bool)(j:Nat)(h:dA sh fp F b_ w sb gf cap t0 tv u_ s0 v_ ⟨w_++[f],tape,out⟩)(r:w_.length<=15)(n:b_<=w.heap.size)(o:f.ops.length<=99000)(l:∃y a,f.ops=y++[a]):
 Calls prog 277 #[.agg #[.bool k,I_ j],aZ sb] w (iW sh fp F b_ sb gf t0 s0 (aR sh sb gf u_ v_) w w_ tape out (aL (.shortcut k j) f)):=by
 obtain⟨y,a,u⟩:=l;have x:=h.mid n (.cells #[.bool k,I_ j] 309);have D:f.pop.ops.length<=100000:=by rw[nN u];rw[u,el] at o;omega
 refine(CF w _ sb gf (w_.length*6) j k (λm=>a.sort=1/\gB sh fp F b_ sb gf t0 s0 (aR sh sb gf u_ v_) w ⟨w_++[if decide (a.n=1)=k then { f.pop.push a with next:=j } else f.pop],tape,out⟩ m) (λm=>a.sort≠1/\gB sh fp F b_ sb gf t0 s0 (aR sh sb gf u_ v_) w ⟨w_++[f.pop],tape,out⟩ m)
  (λt z W=>PV F W (.iface t z) a/\aO a<=200/\dX sh fp b_ sb gf w_.length t0 s0 (aR sh sb gf u_ v_) (w.alloc (.cells #[.bool k,I_ j] 309)) F ⟨w_++[f.pop],tape,out⟩ W)
  (λb W=>a.sort=1/\b=decide (a.n=1)/\a=bV b/\dX sh fp b_ sb gf w_.length t0 s0 (aR sh sb gf u_ v_) (w.alloc (.cells #[.bool k,I_ j] 309)) F ⟨w_++[f.pop],tape,out⟩ W)
  (λb W=>a.sort=1/\b=decide (a.n=1)/\dX sh fp b_ sb gf w_.length t0 s0 (aR sh sb gf u_ v_) (w.alloc (.cells #[.bool k,I_ j] 309)) F ⟨w_++[f.pop.push a],tape,out⟩ W) rfl (x.topS r) (λW H=>?_) (λW t z i=>?_) (λW b i=>?_) (λW b i l=>?_) (λW b i s=>?_) (λW b i=>?_) (λW b i=>?_)).mono ?_
 ·refine((x.same H).pop u o_).mono ?_
  rintro e m ⟨t,z,s,c,d,g⟩;exact⟨t,z,s,c,d,g⟩
 ·obtain⟨c,d,g⟩:=i;refine(qK F _ a W c).mono ?_;rintro e m ⟨rfl,⟨v,rfl⟩|⟨v,rfl⟩⟩
  ·exact d7 ⟨_,rfl,v,rfl,c.bool v,g⟩
  ·exact d6 ⟨rfl,v,g.doneX (Ext.refl _ _)⟩
 ·obtain⟨c,d,g,q⟩:=i;refine(q.push (a:=a) (by rw[g];exact PV.tru F W b) (by rw[g,mP];omega) D).mono ?_
  rintro e m ⟨s,C⟩;exact⟨s,c,d,C⟩
 ·obtain⟨c,d,g,q⟩:=i;refine⟨c,?_⟩;rw[if_neg (by rw[<-d];exact l)]
  exact q.doneX (Ext.refl _ _)
 ·obtain⟨c,d,g⟩:=i;refine⟨c,?_⟩;rw[if_pos (by rw[<-d];exact s)]
  exact(g.next j).doneX (Ext.refl _ _)
 ·obtain⟨c,d,g,q⟩:=i;have p:=dX.box h q;exact⟨aA p rfl,aC p⟩
 ·obtain⟨c,d,g⟩:=i;have p:=dX.box h g;obtain⟨A,G,B⟩:=g.cell 1 o_
  exact⟨aA p rfl,aC p,A,G,B⟩
 ·have E:aL (.shortcut k j) f=if a.sort=1 then (if decide (a.n=1)=k then { f.pop.push a with next:=j } else f.pop,0) else (f.pop,2):=by simp[aL,jS u]
  rw[E];rintro e m (⟨rfl,c,d⟩|⟨rfl,c,d⟩)
  ·exact iW.ok (if_pos c) d
  ·exact iW.stop (if_neg c) d_ d
end
section
variable {sh:Bool} {fp:eK} {F:bY} {b_:Nat} {w:aG} {sb gf cap:Nat} {t0 tv u_ s0:aQ} {v_:List FVal} {w_:List aJ} {f:aJ} {tape:List Int} {out:cN}
def dX.apart{own:List Nat}{d:aG}{G:bY}{n:Nat}{m:cS}(h:dX sh fp b_ sb gf n t0 s0 own d G m w):∀k,G k->k<w.heap.size/\k≠gf:=by
 obtain⟨l,j,f,i,c,g,o,b,p⟩:=h;exact λk a=>⟨(b.apart k a).1,λe=>(b.apart k a).2 (by simp[aR,e])⟩
def lA.cell{G:bY}{v:aQ}{l:List aM}{k:Nat}(h:lA G b_ w v l)(j:k<l.length):∃g cap t z,v=.slice (some (aH g 0)) l.length cap/\w.cell? (aH g k)=some (.iface t z)/\PV G w (.iface t z) l[k]/\aO l[k]<=200:=by
 obtain⟨⟨y,n,s,p⟩,m⟩:=h;obtain⟨u,b,f⟩:=p k j;obtain⟨t,z,rfl⟩:=f.form;rcases n.2 with ⟨x,A⟩|⟨g,c,r,rfl,o,a,e,i,q,d⟩
 ·omega
 refine⟨g,c,t,z,rfl,aA a ?_,f,m _ (fo _)⟩;rw[<-d,ga] at b;split at b
 ·simpa using b
 ·cases b
def Z3.cell{G:bY}{v:aQ}{l:List aM}{k:Nat}(h:Z3 sh G b_ w v l)(a:k<l.length):∃g cap t z,v=.slice (some (aH g 0)) l.length cap/\w.cell? (aH g k)=some (.iface t z)/\PV G w (.iface t z) l[k]/\aO l[k]<=200:=by
 cases sh
 ·exact lA.cell h a
 ·obtain⟨d,c⟩:=h;rcases PVs.row d with ⟨rfl,_⟩|⟨g,cap,m,e,_,_,⟨_,f⟩,j⟩
  ·cases a
  ·obtain⟨u,i,b⟩:=f k a;obtain⟨t,z,rfl⟩:=b.form;exact⟨g,cap,t,z,e,j k _ i,b,c _ (fo _)⟩
def bP_(k:Nat)(h:dA sh fp F b_ w sb gf cap t0 tv u_ s0 v_ ⟨w_++[f],tape,out⟩)(d:w_.length<=15)(a:b_<=w.heap.size)(n:f.ops.length<=99000)(m:k<f.g_.length):
 Calls prog 254 #[.agg #[I_ k],aZ sb] w (iW sh fp F b_ sb gf t0 s0 (aR sh sb gf u_ v_) w w_ tape out (aL (.load k) f)):=by
 have l:=h.mid a (.cells #[I_ k] 273);obtain⟨v,u,B,A⟩:=l.cells;obtain⟨g,c,t,z,r,q,x,y⟩:=u.g_.cell m;have o:=(A 4 v.vv rfl).1;rw[r] at o;refine(TB w _ sb gf (w_.length*6) k g f.g_.length c t z (λi=>gB sh fp F b_ sb gf t0 s0 (aR sh sb gf u_ v_) w ⟨w_++[f.push f.g_[k]],tape,out⟩ i) rfl (l.topS d) o q m λW p=>?_).mono ?_
 ·refine((l.same p).push (x.keep λb _=>by rw[p.heap]) y o_).mono ?_
  rintro e i ⟨s,j⟩;exact⟨s,j.doneX (Ext.refl _ _)⟩
 ·rintro e i ⟨rfl,j⟩;refine iW.ok ?_ j;simp[aL,fh m]
def aX_(l:Nat)(sp:aQ)(s:cN)(h:dA sh fp F b_ w sb gf cap t0 tv u_ s0 v_ ⟨w_++[f],tape,out⟩)(d:w_.length<=15)(c:b_<=w.heap.size)(p:eF F w sp s):
 Calls prog 253 #[.agg #[I_ l,sp],aZ sb] w (iW sh fp F b_ sb gf t0 s0 (aR sh sb gf u_ v_) w w_ tape out (aL (.begin l s) f)):=by
 obtain⟨sp,rfl⟩:=p.form;have g:=h.mid c (.cells #[I_ l,.pointer sp] 245);obtain⟨t,i,x⟩:=g.cell 2 o_
 obtain⟨r,z,A⟩:=g.cell 3 o_
 refine(PZ w _ sb gf (w_.length*6) l sp (λn=>gB sh fp F b_ sb gf t0 s0 (aR sh sb gf u_ v_) w ⟨w_++[{ f with l_:=l,e_:=s }],tape,out⟩ n) rfl (g.topS d) t r i z x λW q=>?_).mono ?_
 ·have o:=g.same q
  have k:eF F W (.pointer sp) s:=eF.keep (λb j=>by
   rw[q.heap];exact ek _ _ _ (h.apart b j).1) dP p
  have u:dX sh fp b_ sb gf w_.length t0 s0 (aR sh sb gf u_ v_) _ F ⟨w_++[{ f with l_:=l }],tape,out⟩ _:=o.set 2 (I_ l) o_ (λv=>{ v with ln:=I_ l }) (λ_=>rfl) (λ_ _=>rfl) λ_ a=>⟨a.fn,a.nx,rfl,a.sp,a.g_,a.ops⟩
  have m:eF F (W.setCell (aH gf (w_.length*6+2)) (I_ l)) (.pointer sp) s:=eF.keep (λb j=>ei _ _ _ _ (o.apart b j).2) dP k
  have y:dX sh fp b_ sb gf w_.length t0 s0 (aR sh sb gf u_ v_) _ F ⟨w_++[{ f with l_:=l,e_:=s }],tape,out⟩ _:=u.set 3 (.pointer sp) o_ (λv=>{ v with sp:=.pointer sp }) (λ_=>rfl) (λ_ _=>rfl) λ_ a=>⟨a.fn,a.nx,a.ln,m,a.g_,a.ops⟩
  exact y.doneX (Ext.refl _ _)
 ·rintro e n ⟨rfl,i⟩;exact iW.ok rfl i
def d9(op:cC)(I:op=[45]\/op=[33])(h:dA sh fp F b_ w sb gf cap t0 tv u_ s0 v_ ⟨w_++[f],tape,out⟩)(d:w_.length<=15)(g:b_<=w.heap.size)(j:f.ops.length<=99000)(q:∃y a,f.ops=y++[a]):
 Calls prog 263 #[.agg #[.string (bs op)],aZ sb] w (iW sh fp F b_ sb gf t0 s0 (aR sh sb gf u_ v_) w w_ tape out (aL (.unary op) f)):=by
 obtain⟨y,a,p⟩:=q;have s:=h.mid g (.cells #[.string (bs op)] 278);have K:f.pop.ops.length<=100000:=by rw[nN p];rw[p,el] at j;omega
 have i:∀(W:aG) (v:aQ),PV F W v a->Calls prog 264 #[.string (bs op),v] W (mC F W (fW (op++[120]) a)):=λW v C=>by
  rcases I with rfl|rfl
  ·exact FF 45 (d7 rfl) F v a W C
  ·exact FF 33 (d6 rfl) F v a W C
 have A:aL (.unary op) f=if (fW (op++[120]) a).2=0 then (f.pop.push (fW (op++[120]) a).1,0) else (f.pop,(fW (op++[120]) a).2):=by simp[aL,jS p]
 have m:=O1 (op++[120]) a;generalize fW (op++[120]) a=r at i A m;rw[A]
 have D:Hid (∀W,aU (w.alloc (.cells #[.string (bs op)] 278)) W->Calls prog 87 #[.pointer (some (aH gf (w_.length*6)))] W λe b=>∃t z,e=aX (.iface t z)/\PV F b (.iface t z) a/\dX sh fp b_ sb gf w_.length t0 s0 (aR sh sb gf u_ v_) (w.alloc (.cells #[.string (bs op)] 278)) F ⟨w_++[f.pop],tape,out⟩ b):=λW M=>by
  refine((s.same M).pop p o_).mono ?_
  rintro e b ⟨t,z,x,H,n,L⟩;exact⟨t,z,x,H,L⟩
 by_cases l:r.2=0
 ·rw[if_pos l];refine(WE w _ sb gf (w_.length*6) op (λb=>gB sh fp F b_ sb gf t0 s0 (aR sh sb gf u_ v_) w ⟨w_++[f.pop.push r.1],tape,out⟩ b) (λt z W=>PV F W (.iface t z) a/\dX sh fp b_ sb gf w_.length t0 s0 (aR sh sb gf u_ v_) (w.alloc (.cells #[.string (bs op)] 278)) F ⟨w_++[f.pop],tape,out⟩ W) (λt z W=>PV F W (.iface t z) r.1/\dX sh fp b_ sb gf w_.length t0 s0 (aR sh sb gf u_ v_) (w.alloc (.cells #[.string (bs op)] 278)) F ⟨w_++[f.pop],tape,out⟩ W) rfl (s.topS d) D (λW t z c=>?_) (λW t z c=>?_) (λW t z c=>?_)).mono ?_
  ·have k:=dX.box h c.2;exact⟨aA k rfl,aC k⟩
  ·refine(i W _ c.1).mono ?_;rintro e b ⟨rfl,⟨_,u,rfl,B⟩|⟨o,_⟩⟩
   ·obtain⟨J,G,rfl⟩:=B.form;exact⟨J,G,rfl,B,c.2⟩
   ·exact absurd l o
  ·refine(c.2.push c.1 m K).mono ?_;rintro e b ⟨x,E⟩;exact⟨x,E.doneX (Ext.refl _ _)⟩
  ·rintro e b ⟨rfl,n⟩;exact iW.ok rfl n
 ·rw[if_neg l];refine(MW w _ sb gf (w_.length*6) op r.2 (λb=>gB sh fp F b_ sb gf t0 s0 (aR sh sb gf u_ v_) w ⟨w_++[f.pop],tape,out⟩ b) (λt z W=>PV F W (.iface t z) a/\dX sh fp b_ sb gf w_.length t0 s0 (aR sh sb gf u_ v_) (w.alloc (.cells #[.string (bs op)] 278)) F ⟨w_++[f.pop],tape,out⟩ W) rfl (s.topS d) D (λW t z c=>?_) (λW t z c=>?_)).mono ?_
  ·have k:=dX.box h c.2;exact⟨aA k rfl,aC k⟩
  ·refine(i W _ c.1).mono ?_;rintro e b ⟨rfl,⟨o,_⟩|⟨o,rfl⟩⟩
   ·exact absurd o l
   ·exact⟨rfl,c.2.doneX (Ext.refl _ _)⟩
  ·rintro e b ⟨rfl,n⟩;exact iW.stop rfl l n
def Y6(op:cC)(h:dA sh fp F b_ w sb gf cap t0 tv u_ s0 v_ ⟨w_++[f],tape,out⟩)(C:w_.length<=15)(j:b_<=w.heap.size)(p:f.ops.length<=99000)(J:∃H a b,f.ops=H++[a,b]):
 Calls prog 267 #[.agg #[.string (bs op)],aZ sb] w (iW sh fp F b_ sb gf t0 s0 (aR sh sb gf u_ v_) w w_ tape out (aL (.binary op) f)):=by
 obtain⟨H,a,b,n⟩:=J;have n:f.ops=(H++[a])++[b]:=by rw[n];simp
 have N:=h.mid j (.cells #[.string (bs op)] 306);have i:f.pop.ops=H++[a]:=nN n;have A:=p;rw[n,el,el] at A;have M:f.pop.ops.length<=100000:=by rw[i,el];omega
 have L:f.pop.pop.ops.length<=100000:=by rw[nN i];omega
 have O:aL (.binary op) f=if (fA op a b).2=0 then (f.pop.pop.push (fA op a b).1,0) else (f.pop.pop,(fA op a b).2):=by simp[aL,jS n,jS i]
 have E:=J5 op a b;have x:∀(W:aG) (u v:aQ),PV F W u a->PV F W v b->(∀k,F k->k<W.heap.size)->aO a<=200->aO b<=200->Calls prog 268 #[.string (bs op),u,v] W (fD F W (fA op a b)):=λW u v c d m I y=>SL op F u v a b W c d m o_ o_
 generalize fA op a b=r at x O E;rw[O]
 refine(KQ w _ sb gf (w_.length*6) op r.2 (λg=>r.2=0/\gB sh fp F b_ sb gf t0 s0 (aR sh sb gf u_ v_) w ⟨w_++[f.pop.pop.push r.1],tape,out⟩ g) (λg=>r.2≠0/\gB sh fp F b_ sb gf t0 s0 (aR sh sb gf u_ v_) w ⟨w_++[f.pop.pop],tape,out⟩ g)
  (λt z W=>PV F W (.iface t z) b/\aO b<=200/\dX sh fp b_ sb gf w_.length t0 s0 (aR sh sb gf u_ v_) (w.alloc (.cells #[.string (bs op)] 306)) F ⟨w_++[f.pop],tape,out⟩ W)
  (λt z o s W=>PV F W (.iface t z) b/\aO b<=200/\PV F W (.iface o s) a/\aO a<=200/\dX sh fp b_ sb gf w_.length t0 s0 (aR sh sb gf u_ v_) (w.alloc (.cells #[.string (bs op)] 306)) F ⟨w_++[f.pop.pop],tape,out⟩ W)
  (λt z W=>r.2=0/\∃G,Ext F G w.heap.size/\PV G W (.iface t z) r.1/\dX sh fp b_ sb gf w_.length t0 s0 (aR sh sb gf u_ v_) (w.alloc (.cells #[.string (bs op)] 306)) G ⟨w_++[f.pop.pop],tape,out⟩ W) rfl (N.topS C) (λW Y=>?_) (λW t z l=>?_) (λW t z o s l=>?_) (λW t z o s l=>?_) (λW t z l=>?_)).mono ?_
 ·refine((N.same Y).pop n o_).mono ?_
  rintro e g ⟨t,z,D,c,d,m⟩;exact⟨t,z,D,c,d,m⟩
 ·obtain⟨c,d,m⟩:=l;refine(m.popK i M).mono ?_;rintro e g ⟨o,s,D,Q,X,S,Z⟩;exact⟨o,s,D,c.keep Z,d,Q,X,S⟩
 ·have q:=dX.box h l.2.2.2.2;exact⟨aA q rfl,aC q⟩
 ·obtain⟨c,d,m,I,y⟩:=l;refine(x W _ _ m c (λk K=>(y.apart k K).1) I d).mono ?_
  rintro e g ⟨q,⟨B,u,rfl,P⟩|⟨B,rfl⟩⟩
  ·obtain⟨U,T,rfl⟩:=P.form;exact d7 ⟨U,T,rfl,B,Grow F W g,⟨λ_=>d7,λk K=>K.imp_right λc=>em (em s_ y.1.size) c.1⟩,P,y.grow q (λ_=>d7) dP⟩
  ·exact d6 ⟨rfl,B,(y.grow q dP λ_=>d7).doneX (Ext.refl _ _)⟩
 ·obtain⟨B,G,V,c,d⟩:=l;refine(d.push c E L).mono ?_;rintro e g ⟨D,I⟩;exact⟨D,B,I.doneX V⟩
 ·rintro e g (⟨rfl,c,d⟩|⟨rfl,c,d⟩)
  ·exact iW.ok (if_pos c) d
  ·exact iW.stop (if_neg c) c d
end
section
variable {sh:Bool} {fp:eK} {F G G':bY} {b_:Nat} {w:aG} {sb gf cap:Nat} {t0 tv u_ s0:aQ} {v_:List FVal} {w_:List aJ} {f:aJ} {tape:List Int} {out:cN}
def dA.more{m:cS}(h:dA sh fp G b_ w sb gf cap t0 tv u_ s0 v_ m)(b:∀k,G k->G' k)(d:∀k,G' k->G k\/(k<w.heap.size/\k∉aR sh sb gf u_ v_)):dA sh fp G' b_ w sb gf cap t0 tv u_ s0 v_ m:=
 ⟨h.blk,h.row,h.frs.keep (λ_ _=>rfl) b λ_ _ _ _=>rfl,h.tape.keep (λ_ _=>rfl) b,h.out,h.nodup,h.lt,λk c=>by
   rcases d k c with a|a
   ·exact h.apart k a
   ·exact a⟩
def dA.popMany{vs us:List aM}(h:dA sh fp G b_ w sb gf cap t0 tv u_ s0 v_ ⟨w_++[f],tape,out⟩)(J:f.ops=vs++us)(u:f.ops.length<=100000):
 Calls prog 257 #[.pointer (some (aH gf (w_.length*6))),I_ us.length] w λe w'=>∃t B g,e=aX t/\Kept (aR sh sb gf u_ v_) w w'/\aR sh sb gf u_ g=aR sh sb gf u_ v_/\g.length=v_.length/\dA sh fp G b_ w' sb gf cap t0 tv u_ s0 g ⟨w_++[f.popMany us.length],tape,out⟩/\
  w'.ownsRow w.heap.size 136 1 t us.length B/\gP G w' B us/\(∀a∈us,aO a<=200)/\∀k,G k->w'.heap[k]?=w.heap[k]?:=by
 obtain⟨P,v,I,rfl,K,Q,S,p,N,k0,k1,k2,k3,k4,W⟩:=h.top;rw[<-K];obtain⟨⟨xs,d,z⟩,c⟩:=Q.ops;rw[J] at d z c;obtain⟨r,B,rfl,L,F,H,s⟩:=z.split;rw[J,el] at u;rw[el] at d;refine(xJ b_ gf (P.length*6) vs.length us.length I v.ov r B w p W d L F (qA s) o_).mono ?_
 rintro e w' ⟨t,n,D,Z,q,O,rfl,T,C⟩;have l:(f.popMany us.length).ops=vs:=by simp[aJ.popMany,J]
 have M:=h.grow q dP (λ_ h=>d7 h)
 have E:QH sh fp G b_ D { v with ov:=n } (f.popMany us.length):=by
  have m:∀b,G b->D.heap[b]?=w.heap[b]?:=λb o=>q.block b (h.apart b o).1
  have A:∀k∈(v.ownX sh),k<w.heap.size:=λk m=>h.lt k (by simp[aR,cB,m])
  have i:=Q.keep m dP λk Y=>q.block k (A k Y)
  refine⟨i.fn,i.nx,i.ln,i.sp,i.g_,⟨r,?_,?_⟩,λb o=>c b (fk _ (by rw[l] at o;exact o))⟩
  ·rw[l];exact aY T λk e=>q.block k (A k (by rw[C] at e;simp[FVal.ownX,e]))
  ·rw[l];exact H.keep m
 obtain⟨V,q2⟩:=M.setTop (j:=5) (x:=n) (v':={ v with ov:=n }) o_ rfl (by simp[FVal.ownX,C]) E
 have U:gf<w.heap.size:=aC p
 have y:∀k,G k->(D.setCell (aH gf (P.length*6+5)) n).heap[k]?=w.heap[k]?:=λk m=>by
  rw[ei _ _ _ _ λe=>(h.apart k m).2 (by simp[aR,e]),q.block k (h.apart k m).1]
 refine⟨t,B,_,Z,(Kept.of_below q).trans q2 λx X=>d7 X,by simp[aR,cB,FVal.ownX,C],s_,V,aY O λk m=>ei _ _ _ _ ?_,s.keep y,λa ha=>c a (fq _ ha),y⟩
 have:=cT O k m;show k≠gf
 omega
def dX.popMany{own:List Nat}{q:aG}{n:Nat}{vs us:List aM}(h:dX sh fp b_ sb gf n t0 s0 own q G ⟨w_++[f],tape,out⟩ w)(F:n=w_.length)(B:f.ops=vs++us)(g:f.ops.length<=100000):
 Calls prog 257 #[.pointer (some (aH gf (n*6))),I_ us.length] w λe w'=>∃x d,e=aX (.slice x us.length d)/\∃G',Ext G G' w.heap.size/\PVs G' w' (.slice x us.length d) us/\(∀a∈us,aO a<=200)/\dX sh fp b_ sb gf n t0 s0 own q G' ⟨w_++[f.popMany us.length],tape,out⟩ w'/\∀k,G k->w'.heap[k]?=w.heap[k]?:=by
 obtain⟨A,t,l,y,j,D,E,o,p⟩:=h;subst F;refine(o.popMany B g).mono ?_;rintro e w' ⟨J,K,c,H,m,s,z,I,i,C,v,u⟩;obtain⟨x,d,rfl⟩:=dE i;refine⟨x,d,H,λk=>G k\/(Value.slice x us.length d).ownBlock=some k,⟨λ_=>d7,λk b=>b.imp_right λe=>cT i k e⟩,PVs.ofRow i (C.mono λ_=>d7) λ_=>d6,v,⟨A.trans m p,em t m.size,l,y,j,c,by rw[z,E],I.more (λ_=>d7) λk b=>?_,by rw[s];exact p⟩,u⟩
 rcases b with b|b
 ·exact d7 b
 ·refine d6 ⟨cQ i k b,λr=>?_⟩
  rw[s] at r;have:=o.lt k r;have:=cT i k b;omega
def bQ_(vs us:List aM)(h:dA sh fp F b_ w sb gf cap t0 tv u_ s0 v_ ⟨w_++[f],tape,out⟩)(q:w_.length<=15)(k:b_<=w.heap.size)(i:f.ops.length<=99000)(p:f.ops=vs++us):
 Calls prog 255 #[.agg #[I_ us.length],aZ sb] w (iW sh fp F b_ sb gf t0 s0 (aR sh sb gf u_ v_) w w_ tape out (aL (.list us.length) f)):=by
 have A:=h.mid k (.cells #[I_ us.length] 275);have L:f.many us.length=us:=by simp[aJ.many,p]
 have r:(f.popMany us.length).ops=vs:=by simp[aJ.popMany,p]
 have H:(f.popMany us.length).ops.length<=100000:=by rw[r];rw[p,el] at i;omega
 have J:us.length<=99000:=by rw[p,el] at i;omega
 have I:aL (.list us.length) f=if aO (bB us)<=200 then ((f.popMany us.length).push (bB us),0) else (f.popMany us.length,6):=by
  simp only[aL,L,iS,if_true];by_cases D:200<aO (bB us)
  ·rw[if_pos D];exact(if_neg o_).symm
  ·rw[if_neg D];exact(if_pos o_).symm
 rw[I]
 refine(TC w _ sb gf (w_.length*6) us.length 6 (λj=>aO (bB us)<=200/\gB sh fp F b_ sb gf t0 s0 (aR sh sb gf u_ v_) w ⟨w_++[(f.popMany us.length).push (bB us)],tape,out⟩ j) (λj=>¬aO (bB us)<=200/\gB sh fp F b_ sb gf t0 s0 (aR sh sb gf u_ v_) w ⟨w_++[f.popMany us.length],tape,out⟩ j)
  (λx d W=>∃G,Ext F G w.heap.size/\PVs G W (.slice x us.length d) us/\(∀a∈us,aO a<=200)/\dX sh fp b_ sb gf w_.length t0 s0 (aR sh sb gf u_ v_) (w.alloc (.cells #[I_ us.length] 275)) G ⟨w_++[f.popMany us.length],tape,out⟩ W)
  (λt z W=>aO (bB us)<=200/\∃G,Ext F G w.heap.size/\PV G W (.iface t z) (bB us)/\dX sh fp b_ sb gf w_.length t0 s0 (aR sh sb gf u_ v_) (w.alloc (.cells #[I_ us.length] 275)) G ⟨w_++[f.popMany us.length],tape,out⟩ W) rfl (A.topS q) (λW C=>?_) (λW x d u=>?_) (λW t z u=>?_)).mono ?_
 ·refine((A.same C).popMany rfl p o_).mono ?_
  rintro e j ⟨x,d,y,G,g,c,v,m,_⟩;exact⟨x,d,y,G,g.le (by rw[C.heap];simp),c,v,m⟩
 ·obtain⟨G,g,c,v,m⟩:=u
  have n:∀l:List aM,(∀a∈l,aO a<=200)->(l.map aO).sum<=200*l.length:=λl=>by
   induction l with
   |nil=>simp
   |cons a l M=>intro B;have O:=B a s_;have N:=M λb E=>B b (by simp[E]);simp;omega
  have s:aO (bB us)<=1000000000:=by
   have:=n us v;rw[fJ];simp[bB];omega
  refine(OG G x d us W c s).mono ?_;rintro e j ⟨rfl,⟨o,rfl⟩|⟨o,rfl⟩⟩
  ·exact d7 ⟨_,_,rfl,o,G,g,PV.lst c,m⟩
  ·exact d6 ⟨rfl,o_,m.doneX g⟩
 ·obtain⟨o,G,K,g,c⟩:=u;refine(c.push g o H).mono ?_;rintro e j ⟨y,m⟩;exact⟨y,o,m.doneX K⟩
 ·rintro e j (⟨rfl,g,c⟩|⟨rfl,g,c⟩)
  ·exact iW.ok (if_pos g) c
  ·exact iW.stop (if_neg g) d_ c
end
def dA.declared{J:Nat}{X T g U:aQ}{fb:List FVal}{v:FVal}{p:List aJ}{z:List Int}{I:cN}{cur:Array Value}{d:Nat}
 (h:dA false fp F b_ w sb gf J X T g U (fb++[v]) ⟨p++[f],z,I⟩) (K:w.heap[gf]?=some (.cells cur 118 (0,0)))
 (O:gP F w xs (f.g_.take d)) (Z:d<=f.g_.length) (hu:PV F w u a) (N:aO a<=200)
 (p1:w'.heap[gf]?=some (.cells (cur.setIfInBounds (fb.length*6+4) c) 118 (0,0))) (S:w'.ownsRow b_ 136 1 c (d+1) (xs++[u])) (Q:∀k,c.ownBlock=some k->v.vv.ownBlock=some k\/w.heap.size<=k) (r:Chg gf v.vv.ownBlock w w'):
 dA false fp F b_ w' sb gf J X T g U (fb++[{ v with vv:=c }]) ⟨p++[{ f with g_:=f.g_.take d++[a] }],z,I⟩/\Kept (aR false sb gf g (fb++[v])) w w':=by
 obtain⟨ab,v0,e,aa,H⟩:=jQ.unsnoc h.frs;obtain⟨rfl,e2⟩:=ib e rfl;cases e2;have A:=h.row;rw[show (fb++[v]).length=fb.length+1 by simp] at A
 obtain⟨L,W,_,c3⟩:=xC (j:=4) (x:=c) A o_
 obtain rfl:L=cur:=by rw[K] at W;cases W;rfl
 have D:∀k∈(v.ownX false),k∈aR false sb gf g (fb++[v]):=λk l=>by simp[aR,cB,l]
 have P:gf∉(v.ownX false):=λE=>by
  have:=(e7.1 (e7.1 h.nodup).2).1;exact this (by simp[cB,E])
 have C:(v.ownX false).Nodup:=by
  have m:=h.nodup;have:aR false sb gf g (fb++[v])=(sb::gf::(g.ownBlock.toList++cB false fb))++(v.ownX false):=by simp[aR,cB]
  rw[this] at m;exact(gt.1 m).2.1
 have q:∀b,F b->w'.heap[b]?=w.heap[b]?:=λb B=>by
  obtain⟨m,s⟩:=h.apart b B;exact r.block b m (λe=>s (by simp[aR,e])) (λe=>s (D b (by simp[FVal.ownX,<-e])))
 have t:∀k,k<w.heap.size->k≠gf->k∉(v.ownX false)->w'.heap[k]?=w.heap[k]?:=λk m s M=>r.block k m s λe=>M (by simp[FVal.ownX,<-e])
 have n:∀k,v.ov.ownBlock=some k->k<w.heap.size/\k≠gf/\v.vv.ownBlock≠some k:=λk l=>by
  have E:k∈(v.ownX false):=by simp[FVal.ownX,l]
  refine⟨h.lt k (D k E),λe=>P (by rw[<-e];exact E),λe=>?_⟩
  unfold FVal.ownX at C;rw[l,e] at C;simp at C
 refine⟨h.step (G:=F) r.size t (c3 w' p1 _ rfl) ?_ ?_ ?_ dP (λ_ h=>d7 h),?_⟩
 ·refine⟨H.fn.keep q dP,H.nx,H.ln,eF.keep q dP H.sp,⟨⟨xs++[u],?_,?_⟩,?_⟩,H.ops.keep q dP λk l=>?_⟩
  ·show w'.ownsRow b_ 136 1 c (f.g_.take d++[a]).length _
   rw[el,g8,Nat.min_eq_left Z];exact S
  ·exact(O.keep q).append ⟨rfl,λi hi=>by
    obtain rfl:i=0:=by simpa using hi
    exact⟨u,rfl,hu.keep q⟩⟩
  ·intro b B;rcases eu.1 B with B|B
   ·exact H.g_.2 b (kg B)
   ·rw[ew.1 B];exact N
  ·obtain⟨m,s,M⟩:=n k l;exact r.block k m s (λe=>M e.symm)
 ·intro k l;rcases eu.1 l with l|l
  ·have o:c.ownBlock=some k:=by simpa using l
   refine⟨cQ S k o,?_⟩;rcases Q k o with m|m
   ·exact d7 (by simp[FVal.ownX,m])
   ·exact d6 m
  ·have o:v.ov.ownBlock=some k:=by simpa using l
   exact⟨ej (n k o).1 r.size,d7 (by simp[FVal.ownX,o])⟩
 ·show (c.ownBlock.toList++v.ov.ownBlock.toList).Nodup
  refine gt.2 ⟨by cases c.ownBlock<;>simp,by cases v.ov.ownBlock<;>simp,λx hx y hy e=>?_⟩
  subst e;have m:c.ownBlock=some x:=by simpa using hx
  have s:v.ov.ownBlock=some x:=by simpa using hy
  obtain⟨M,_,h4⟩:=n x s;rcases Q x m with V|V
  ·exact h4 V
  ·omega
 ·exact⟨r.os,r.tape,r.output,r.size,λk l Y=>t k l (λe=>Y (by simp[aR,e])) λE=>Y (D k E)⟩
def KI(w p:aG)(sb j m b_ d:Nat)(g n c:Nat)(N:d<=n)(L:n<=c)(_hn:n<=100001)(P:World->Prop)(Q:TypeId->Value->World->Prop)(xs:List Value)(A:w.alloc (.cells #[I_ d] 321)=p)(Y:d<=100000)
 (X:Hid (∀W,aU p W->Calls prog 74 #[aZ sb] W λe w'=>e=.returned (.pointer (some (aH j m)))/\aU p w'))
 (F:p.cell? (aH j (m+4))=some (.slice (some (aH g 0)) n c))
 (V:Hid (∀W,aU p W->Calls prog 87 #[.pointer (some (aH j m))] W λe w'=>∃t z,e=.returned (.iface t z)/\Q t z w'))
 (G:Hid (∀W t z,Q t z W->W.cell? (aH w.heap.size 0)=some (I_ d)/\w.heap.size<W.heap.size/\W.cell? (aH j (m+4))=some (.slice (some (aH g 0)) n c)/\j<W.heap.size/\b_<=W.heap.size))
 (K:Hid (∀W t z,Q t z W->W.ownsRow b_ 136 1 (.slice (some (aH g 0)) d c) d xs))
 (H:Hid (∀W t z,Q t z W->∀h:aG,(W.alloc (.cells #[.iface t z] 136)).grownBy h (some g)->(∃u,h.cell? (aH j (m+4))=some u)/\h.frozen? (aH j (m+4))=false/\j<h.heap.size))
 (M:Hid (∀W t z,Q t z W->∀r f (h:aG),h.ownsRow b_ 136 1 (.slice (some (aH r 0)) (d+1) f) (d+1) (xs++[.iface t z])->(W.alloc (.cells #[.iface t z] 136)).grownBy h (some g)->((some g)=some r\/W.heap.size+1<=r)->P (h.setCell (aH j (m+4)) (.slice (some (aH r 0)) (d+1) f)))):
 Calls prog 283 #[.agg #[I_ d],aZ sb] w λe w'=>e=.returned (.tuple #[])/\P w':=by
 obtain⟨J,O,x,B,C⟩:=info_parts oH;have a:(w.alloc (.cells #[I_ d] 321)).heap[w.heap.size]?=some (.cells #[I_ d] 321 (0,0)):=aN _ _ rfl _;rw[A] at a;have S:=aB A;have D:=aB (aA (i:=0) a rfl);have v:=aC a;have y:=aB F;have e1:(0:Int)<=(d:Int):=o_
 have e2:(d:Int)<=(n:Int):=o_
 have e3:(d:Int)<=(c:Int):=o_
 clear A a F;go_in
 go_wp2_with fail;rw[S.out];refine(X _ (aU.refl _)).mono ?_;rintro e Z ⟨rfl,k⟩;have c0:=bN k.heap D;have T:=jR k.heap v;have c1:=bN k.heap y;go_wp2_with fail;go_region_law (first|(go_simp;go_at_call 87;refine(V _ (k.trans (aU.drew _))).mono ?_;rintro e E ⟨t,z,rfl,s⟩;have o:=G _ _ _ s;have b1:=o.1;have b2:=o.2.1;have b3:=o.2.2.1;have b4:=o.2.2.2.1;have b5:=o.2.2.2.2;clear o)|(refine step_append_lies _ r_ _ _ 116 r_ b_ 136 J _ 1 16 underlying116 O x B C rfl d_ (.slice (some (aH g 0)) d c) d xs r_ ((K _ _ _ s).alloc _) (aH E.heap.size 0) 1 1 [.iface t z] r_ r_ (FT E _) (zA t z) d_ (by unfold maxLen;omega) o_ t_ (E.heap.size+1) s_ ?_;intro r f h l b q U;have I:=H _ _ _ s h b;obtain⟨⟨u5,y1⟩,y2,y3⟩:=I))
 all_goals
  go_wp2
  go_end0;exact⟨rfl,M _ _ _ s _ _ _ l b (q.imp_right λe=>jl e.symm)⟩
def KJ(w l:aG)(sb f j b_:Nat)(P:World->Prop)(Q:TypeId->Value->World->Prop)(xs:List Value)(s:w.alloc (.cells #[I_ 0] 321)=l)
 (N:Hid (∀W,aU l W->Calls prog 74 #[aZ sb] W λe w'=>e=.returned (.pointer (some (aH f j)))/\aU l w'))
 (B:l.cell? (aH f (j+4))=some (.slice none 0 0))
 (M:Hid (∀W,aU l W->Calls prog 87 #[.pointer (some (aH f j))] W λe w'=>∃t z,e=.returned (.iface t z)/\Q t z w'))
 (C:Hid (∀W t z,Q t z W->W.cell? (aH w.heap.size 0)=some (I_ 0)/\w.heap.size<W.heap.size/\W.cell? (aH f (j+4))=some (.slice none 0 0)/\f<W.heap.size/\b_<=W.heap.size))
 (G:Hid (∀W t z,Q t z W->W.ownsRow b_ 136 1 (.slice none 0 0) 0 xs))
 (D:Hid (∀W t z,Q t z W->∀d:aG,(W.alloc (.cells #[.iface t z] 136)).grownBy d none->(∃u,d.cell? (aH f (j+4))=some u)/\d.frozen? (aH f (j+4))=false/\f<d.heap.size))
 (H:Hid (∀W t z,Q t z W->∀n c (d:aG),d.ownsRow b_ 136 1 (.slice (some (aH n 0)) 1 c) 1 (xs++[.iface t z])->(W.alloc (.cells #[.iface t z] 136)).grownBy d none->(none=some n\/W.heap.size+1<=n)->P (d.setCell (aH f (j+4)) (.slice (some (aH n 0)) 1 c)))):
 Calls prog 283 #[.agg #[I_ 0],aZ sb] w λe w'=>e=.returned (.tuple #[])/\P w':=by
 obtain⟨F,I,q,v,x⟩:=info_parts oH;have a:(w.alloc (.cells #[I_ 0] 321)).heap[w.heap.size]?=some (.cells #[I_ 0] 321 (0,0)):=aN _ _ rfl _;rw[s] at a;have J:=aB s;have y:=aB (aA (i:=0) a rfl);have p:=aC a;have r:=aB B;clear s a B;go_in
 go_wp2_with fail;rw[J.out];refine(N _ (aU.refl _)).mono ?_;rintro e O ⟨rfl,g⟩;have Y:=bN g.heap y;have K:=jR g.heap p;have Z:=bN g.heap r;go_wp2_with fail;go_region_law (first|(go_simp;go_at_call 87;refine(M _ (g.trans (aU.drew _))).mono ?_;rintro e A ⟨t,z,rfl,o⟩;have k:=C _ _ _ o;have S:=k.1;have b2:=k.2.1;have U:=k.2.2.1;have b4:=k.2.2.2.1;have T:=k.2.2.2.2;clear k)|(refine step_append_lies _ r_ _ _ 116 r_ b_ 136 F _ 1 16 underlying116 I q v x rfl d_ (.slice none 0 0) 0 xs r_ ((G _ _ _ o).alloc _) (aH A.heap.size 0) 1 1 [.iface t z] r_ r_ (FT A _) (zA t z) d_ (by unfold maxLen;omega) o_ t_ (A.heap.size+1) s_ ?_;intro n c d h b m L;have E:=D _ _ _ o d b;obtain⟨⟨u5,V⟩,y2,X⟩:=E))
 all_goals
  go_wp2
  go_end0;exact⟨rfl,H _ _ _ o _ _ _ h b (m.imp_right λe=>jl e.symm)⟩
section
variable {fp:eK} {F:bY} {b_:Nat} {w:aG} {sb gf cap:Nat} {t0 tv u_ s0:aQ} {v_:List FVal} {w_:List aJ} {f:aJ} {tape:List Int} {out:cN}
def dA.popR{fb:List FVal}{v:FVal}{vs:List aM}{a:aM}(h:dA false fp F b_ w sb gf cap t0 tv u_ s0 (fb++[v]) ⟨w_++[f],tape,out⟩)(E:f.ops=vs++[a])(l:f.ops.length<=100000):
 Calls prog 87 #[.pointer (some (aH gf (fb.length*6)))] w λe w'=>∃t z c,e=.returned (.iface t z)/\PV F w' (.iface t z) a/\aO a<=200/\c.ownBlock=v.ov.ownBlock/\dA false fp F b_ w' sb gf cap t0 tv u_ s0 (fb++[{ v with ov:=c }]) ⟨w_++[f.pop],tape,out⟩/\Kept (aR false sb gf u_ (fb++[v])) w w'/\∀k,k≠gf->w'.heap[k]?=w.heap[k]?:=by
 obtain⟨M,W,A,e,O,m,H,q,D,T,Q,V,S,X,K⟩:=h.top;obtain⟨rfl,L⟩:=ib e rfl;cases L;obtain⟨⟨U,g,p⟩,d⟩:=m.ops;rw[E] at g p d l;obtain⟨n,u,rfl,N,o,G⟩:=gP.unsnoc p;obtain⟨t,z,rfl⟩:=G.form;rw[el] at g l;refine(TX b_ gf (fb.length*6) vs.length A v.ov n _ w q K g N ⟨t,z,rfl⟩ o_).mono ?_
 rintro e w' ⟨rfl,c,rfl,I,B⟩;have i:f.pop.ops=vs:=by simp[aJ.pop,E]
 have r:QH false fp F b_ w { v with ov:=c } f.pop:=⟨m.fn,m.nx,m.ln,m.sp,m.g_,⟨n,by rw[i];exact I,by rw[i];exact o⟩,λb C=>d b (fk _ (by rw[i] at C;exact C))⟩
 obtain⟨J,P⟩:=h.setTop (j:=5) (x:=c) (v':={ v with ov:=c }) o_ rfl (by simp[FVal.ownX,B]) r
 have s:∀k,F k->(w.setCell (aH gf (fb.length*6+5)) c).heap[k]?=w.heap[k]?:=λk y=>ei _ _ _ _ λe=>(h.apart k y).2 (by simp[aR,e])
 exact⟨t,z,c,rfl,G.keep s,d a s_,B,J,P,λk y=>ei _ _ _ _ y⟩
def dA.declaredC{fb:List FVal}{v:FVal}{d:Nat}{xs:List Value}{a:aM}{t:TypeId}{z:aQ}{g b:Nat}{l:aG}{y:Option Nat}(h:dA false fp F b_ w sb gf cap t0 tv u_ s0 (fb++[v]) ⟨w_++[f],tape,out⟩)(M:PV F w (.iface t z) a)(r:aO a<=200)(s:gP F w xs (f.g_.take d))(H:d<=f.g_.length)(j:y=v.vv.ownBlock)
 (I:l.ownsRow b_ 136 1 (.slice (some (aH g 0)) (d+1) b) (d+1) (xs++[.iface t z])) (m:(w.alloc (.cells #[.iface t z] 136)).grownBy l y) (n:y=some g\/w.heap.size+1<=g):
 dA false fp F b_ (l.setCell (aH gf (fb.length*6+4)) (.slice (some (aH g 0)) (d+1) b)) sb gf cap t0 tv u_ s0 (fb++[{ v with vv:=.slice (some (aH g 0)) (d+1) b }]) ⟨w_++[{ f with g_:=f.g_.take d++[a] }],tape,out⟩/\Kept (aR false sb gf u_ (fb++[v])) w (l.setCell (aH gf (fb.length*6+4)) (.slice (some (aH g 0)) (d+1) b)):=by
 obtain⟨K,X,A,e,L,W,G,c,E,S,P,V,Q,T,U⟩:=h.top;obtain⟨rfl,J⟩:=ib e rfl;cases J;have B:=aC c
 have p:v.vv.ownBlock≠some gf:=λe=>by
  have:=(e7.1 (e7.1 h.nodup).2).1;exact this (by simp[cB,FVal.ownX,e])
 have C:g≠gf:=by
  rcases n with e|e
  ·intro O;rw[j] at e;exact p (by rw[e,O])
  ·omega
 have D:∀k,k<w.heap.size->some k≠v.vv.ownBlock->l.heap[k]?=w.heap[k]?:=λk x q=>by
  rw[m.block k t_ (by rw[j];exact q),ek _ _ _ x]
 have o:l.heap[gf]?=some (.cells A 118 (0,0)):=by rw[D gf B (λe=>p e.symm)];exact c
 refine h.declared (a:=a) (u:=.iface t z) (xs:=xs) c s H M r (aK o) (aY I λk i=>ei _ _ _ _ (by cases i;exact C)) (λk i=>?_) ⟨m.os.trans rfl,m.tape.trans rfl,m.output.trans rfl,em s_ (em m.size s_),λk x q N=>?_⟩
 ·cases i;rcases n with e|e
  ·exact d7 (by rw[<-j];exact e)
  ·exact d6 (by show w.heap.size<=g;omega)
 ·rw[ei _ _ _ _ q,D k x N]
def zX(fp:eK)(F:bY)(b_ sb gf cap:Nat)(t0 tv u_ s0:aQ)(fb:List FVal)(v:FVal)(w_:List aJ)(f:aJ)(tape:List Int)(out:cN)(w0:aG)(a:aM)(t:TypeId)(z:aQ)(W:aG):Prop:=
 ∃ov',ov'.ownBlock=v.ov.ownBlock/\PV F W (.iface t z) a/\aO a<=200/\dA false fp F b_ W sb gf cap t0 tv u_ s0 (fb++[{ v with ov:=ov' }]) ⟨w_++[f.pop],tape,out⟩/\Kept (aR false sb gf u_ (fb++[v])) w0 W/\∀k,k≠gf->W.heap[k]?=w0.heap[k]?
def zX.fin{fb:List FVal}{v:FVal}{u W:aG}{a:aM}{t:TypeId}{z:aQ}{d:Nat}{xs:List Value}{C:Obj}(h:dA false fp F b_ w sb gf cap t0 tv u_ s0 (fb++[v]) ⟨w_++[f],tape,out⟩)(y:u=w.alloc C)(M:zX fp F b_ sb gf cap t0 tv u_ s0 fb v w_ f tape out u a t z W)(G:d<=f.g_.length)(q:gP F u xs (f.g_.take d))(x:f.last=a)
 (g c:Nat) (A:aG) (i:Option Nat) (n:i=v.vv.ownBlock) (J:A.ownsRow b_ 136 1 (.slice (some (aH g 0)) (d+1) c) (d+1) (xs++[.iface t z])) (L:(W.alloc (.cells #[.iface t z] 136)).grownBy A i) (m:i=some g\/W.heap.size+1<=g):
 Done fp F b_ sb t0 s0 (aR false sb gf u_ (fb++[v])) w ⟨w_++[(aL (.declare d) f).1],tape,out⟩ (A.setCell (aH gf (fb.length*6+4)) (.slice (some (aH g 0)) (d+1) c)):=by
 subst y;obtain⟨j,B,I,S,N,D,T⟩:=M;have s:∀k,F k->k≠gf:=λk r e=>(h.apart k r).2 (by simp[aR,e])
 obtain⟨O,E⟩:=N.declaredC (d:=d) (xs:=xs) I S (q.keep λb K=>T b (s b K)) G n J L m
 have l:aR false sb gf u_ (fb++[{ v with ov:=j }])=aR false sb gf u_ (fb++[v]):=by simp[aR,cB,FVal.ownX,B]
 rw[l] at E;have P:=((Kept.of_below (own:=aR false sb gf u_ (fb++[v])) ((eh _ w).alloc cL C)).trans D λ_ h=>d7 h).trans E λ_ h=>d7 h
 refine⟨P,F,gf,cap,tv,u_,fb++[{ v with ov:=j,vv:=.slice (some (aH g 0)) (d+1) c }],Ext.refl _ _,?_,λk r=>?_⟩
 ·have e:(aL (.declare d) f).1={ f.pop with g_:=f.pop.g_.take d++[a] }:=by simp[aL,x,aJ.pop]
  rw[e];exact O
 ·have U:aR false sb gf u_ (fb++[{ v with ov:=j,vv:=.slice (some (aH g 0)) (d+1) c }])=(sb::gf::(u_.ownBlock.toList++cB false fb))++(g::v.ov.ownBlock.toList):=by
   have H:(Value.slice (some (aH g 0)) (d+1) c).ownBlock=some g:=rfl;simp[aR,cB,FVal.ownX,B,H]
  have Q:aR false sb gf u_ (fb++[v])=(sb::gf::(u_.ownBlock.toList++cB false fb))++(v.ownX false):=by simp[aR,cB]
  have p:k∈(sb::gf::(u_.ownBlock.toList++cB false fb))++(g::v.ov.ownBlock.toList):=by rw[<-U];exact r
  rw[Q];rcases eu.1 p with o|o
  ·exact d7 (fk _ o)
  ·rcases eo.1 o with rfl|o
   ·rcases m with e|e
    ·exact d7 (fq _ (by rw[n] at e;simp[FVal.ownX,e]))
    ·have:=D.size;exact d6 (by simp at this;omega)
   ·exact d7 (fq _ (fq _ o))
def zX.reads{fb:List FVal}{v:FVal}{W:aG}{a:aM}{t:TypeId}{z:aQ}{cs:Array Value}{m:TypeId}(h:dA false fp F b_ w sb gf cap t0 tv u_ s0 (fb++[v]) ⟨w_++[f],tape,out⟩)(p:b_<=w.heap.size)(s:zX fp F b_ sb gf cap t0 tv u_ s0 fb v w_ f tape out (w.alloc (.cells cs m)) a t z W):
 W.heap[w.heap.size]?=some (.cells cs m (0,0))/\W.cell? (aH gf (fb.length*6+4))=some v.vv/\gf<W.heap.size/\b_<=W.heap.size/\
  ∀d:aG,(W.alloc (.cells #[.iface t z] 136)).grownBy d v.vv.ownBlock->(∃u,d.cell? (aH gf (fb.length*6+4))=some u)/\d.frozen? (aH gf (fb.length*6+4))=false/\gf<d.heap.size:=by
 obtain⟨j,L,I,N,x,y,D⟩:=s;obtain⟨B,G,i,e,C,P,n,b,l,K,H,O,J,o,M⟩:=x.top;obtain⟨rfl,A⟩:=ib e rfl;have E:G={ v with ov:=j }:=by simpa using A.symm
 subst E;have g:=aC b;have r:gf<w.heap.size:=h.lt gf (by simp[aR])
 have k:v.vv.ownBlock≠some gf:=λe=>by
  have:=(e7.1 (e7.1 h.nodup).2).1;exact this (by simp[cB,FVal.ownX,e])
 refine⟨by rw[D _ o_];exact aN _ _ rfl _,aA b o,g,em p (em s_ y.size),λd q=>?_⟩
 have c:d.heap[gf]?=some (.cells i 118 (0,0)):=by
  rw[q.block gf t_ (λe=>k e.symm),ek _ _ _ g];exact b
 exact⟨⟨_,aA c o⟩,aD c,aC c⟩
def A7(d:Nat)(h:dA false fp F b_ w sb gf cap t0 tv u_ s0 v_ ⟨w_++[f],tape,out⟩)(u:w_.length<=15)(b:b_<=w.heap.size)(ac:f.ops.length<=99000)(G:∃vs a,f.ops=vs++[a])(D:d<=f.g_.length)(af:f.g_.length<=90001):
 Calls prog 283 #[.agg #[.int .i64 d],.pointer (some ⟨sb,0,none⟩)] w (DoP fp F b_ sb t0 s0 (aR false sb gf u_ v_) w w_ tape out (aL (.declare d) f)):=by
 obtain⟨vs,a,O⟩:=G;have hM:=h.mid b (.cells #[.int .i64 d] 321);obtain⟨m,v,J,rfl,P, -⟩:=h.top;have h0:=h.grow ((eh _ w).alloc (en _) (.cells #[.int .i64 d] 321)) (λ_ h=>h) (λ_ h=>d7 h)
 have M:=hM.topS u;rw[<-P] at M;obtain⟨ae,v0,J,e, -,hv,ab,p,aa,k0,k1,k2,k3,k4,k5⟩:=h0.top;obtain⟨rfl,e2⟩:=ib e rfl;cases e2
 have HP:Hid (∀W,aU (w.alloc (.cells #[.int .i64 d] 321)) W->Calls prog 87 #[.pointer (some ⟨gf,m.length*6,none⟩)] W λe n=>∃t z,e=.returned (.iface t z)/\zX fp F b_ sb gf cap t0 tv u_ s0 m v w_ f tape out (w.alloc (.cells #[.int .i64 d] 321)) a t z n):=λW hS=>by
  refine((h0.grow hS.below (λ_ h=>h) (λ_ h=>d7 h)).popR O o_).mono ?_
  rintro e n ⟨t,z,s,he,h1,x,h3,h4,h5,h6⟩;exact⟨t,z,he,s,h3,h1,x,h4,(Kept.of_below (own:=aR false sb gf u_ (m++[v])) hS.below).trans h5 λ_ h=>d7 h,λk hk=>by rw[h6 k hk,hS.heap]⟩
 obtain⟨⟨Q,A,B⟩,V⟩:=hv.g_
 have X:v.vv.ownBlock≠some gf:=λe=>by
  have:=(e7.1 (e7.1 h.nodup).2).1;exact this (by simp[cB,FVal.ownX,e])
 have o:gP F (w.alloc (.cells #[.int .i64 d] 321)) (Q.take d) (f.g_.take d):=by
  have hh:=B;rw[<-g9 d f.g_] at hh;obtain⟨ys,zs,rfl,l1,l2,j,r2⟩:=hh.split;rw[g8,Nat.min_eq_left D] at l1;rw[<-l1,List.take_left,l1];exact j
 rcases A.2 with ⟨j,r2⟩|⟨g,c,K,j,N,y,E,U,S,Z⟩
 ·obtain rfl:d=0:=o_
  refine(KJ w _ sb gf (m.length*6) b_ (λn=>Done fp F b_ sb t0 s0 (aR false sb gf u_ (m++[v])) w ⟨w_++[(aL (.declare 0) f).1],tape,out⟩ n) (zX fp F b_ sb gf cap t0 tv u_ s0 m v w_ f tape out (w.alloc (.cells #[.int .i64 0] 321)) a) [] rfl M (by rw[<-j];exact aA p k4) HP (λW t z i=>?_) (λW t z i=>World.ownsRow_nil _ _ _ _) (λW t z i=>?_) (λW t z i=>?_)).mono ?_
  ·obtain⟨C,Y,I,q4,q5⟩:=zX.reads h b i;exact⟨aA C rfl,aC C,by rw[Y,j],I,q4⟩
  ·have:=(zX.reads h b i).2.2.2.2;rw[j] at this;exact this
  ·intro T l w5 H L q;exact zX.fin h rfl i D (by simpa using o) (jS O) T l w5 none (by rw[j];rfl) H L q
  ·rintro e n ⟨rfl,x⟩;exact DoP.ok rfl x
 ·refine(KI w _ sb gf (m.length*6) b_ d g f.g_.length c D E o_ (λn=>Done fp F b_ sb t0 s0 (aR false sb gf u_ (m++[v])) w ⟨w_++[(aL (.declare d) f).1],tape,out⟩ n) (zX fp F b_ sb gf cap t0 tv u_ s0 m v w_ f tape out (w.alloc (.cells #[.int .i64 d] 321)) a) (Q.take d) rfl o_ M (by rw[<-j];exact aA p k4) HP (λW t z i=>?_) (λW t z i=>?_) (λW t z i=>?_) (λW t z i=>?_)).mono ?_
  ·obtain⟨C,Y,I,q4,q5⟩:=zX.reads h b i;exact⟨aA C rfl,aC C,by rw[Y,j],I,q4⟩
  ·obtain⟨s,_,_,_,_,_,h6⟩:=i;have r:W.heap[g]?=_:=(h6 g (λe=>X (by rw[j,e];rfl))).trans y
   have ad:Q.length=f.g_.length:=B.1;refine⟨by rw[g8];omega,d6 ⟨g,c,K,rfl,N,r,o_,U,S,?_⟩⟩
   have:=congrArg (List.take d) Z;rw[jf,show min d (f.g_.length*1)=d by omega] at this
   rw[jo];exact this
  ·have:=(zX.reads h b i).2.2.2.2;rw[j] at this;exact this
  ·intro T l w5 H L q;exact zX.fin h rfl i D o (jS O) T l w5 (some g) (by rw[j];rfl) H L q
  ·rintro e n ⟨rfl,x⟩;exact DoP.ok rfl x
end
def RX(w a:aG)(sb:Nat)(x:Option Addr)(c:Nat)(b:w.alloc (.cells #[] 311)=a)(d:a.cell? (aH sb 2)=some (.slice x 0 c)):
 Calls prog 281 #[.agg #[],aZ sb] w λe w'=>e=fQ 7/\w'=a:=by
 go_in
 go_wp2_with fail;exact⟨rfl,rfl,rfl⟩
def RW(w b:aG)(sb q s g o n c:Nat)(i:Int)(P j:World->Prop)(D:w.alloc (.cells #[] 311)=b)(J:n+1<=c)(_hnn:n<=17592186044416)
 (x:Hid (∀W,aU b W->Calls prog 74 #[aZ sb] W λe w'=>e=aX (.pointer (some (aH q s)))/\aU b w'))
 (m:b.cell? (aH sb 2)=some (.slice (some (aH g o)) (n+1) c)) (l:b.cell? (aH g o)=some (I_ i))
 (v:Hid (∀W,aU b W->Calls prog 251 #[.pointer (some (aH q s)),.iface 183 (I_ i)] W λe w'=>e=aX (.tuple #[])/\j w'))
 (u:Hid (∀W,j W->W.cell? (aH sb 2)=some (.slice (some (aH g o)) (n+1) c)/\W.frozen? (aH sb 2)=false/\sb<W.heap.size))
 (r:Hid (∀W d p,j W->(n=0\/(d=o+1/\p=c-1))->P (W.setCell (aH sb 2) (.slice (some (aH g d)) n p)))):
 Calls prog 281 #[.agg #[],aZ sb] w λe w'=>e=aX (.tuple #[])/\P w':=by
 have f:=aB m;have k:=aB l;have H:=m;have I:=l;have A:((n:Int)+1=0)=False:=t_
 have K:(1:Int)<=(n:Int)+1:=o_
 have G:(n:Int)+1<=(c:Int):=o_
 have L:(0:Int)<(n:Int)+1:=o_
 clear m l;go_in
 go_wp2_with fail;go_region_law (first|(go_simp;go_at_call 74;refine(x _ (by first|assumption|exact aU.drew _)).mono ?_;rintro e z ⟨rfl,a⟩;have F:=bN a.heap f;have B:=bN a.heap k)|(go_simp;go_at_call 251;refine(v _ a).mono ?_;rintro e y ⟨rfl,R⟩;have t:=u _ R;obtain⟨C,M,E⟩:=t))
 all_goals
  go_wp2_with fail
  all_goals
   go_end0;first|exact⟨rfl,r _ _ _ R (d6 ⟨rfl,rfl⟩)⟩|exact⟨rfl,r _ _ _ R (d7 o_)⟩
section
variable {fp:eK} {F:bY} {b_:Nat} {w:aG} {sb gf cap:Nat} {t0 tv u_ s0:aQ} {v_:List FVal} {w_:List aJ} {f:aJ} {tape:List Int} {out:cN}
def dA.setTape{m:cS}{c:aQ}{d:List Int}(h:dA false fp F b_ w sb gf cap t0 tv u_ s0 v_ m)(o:tK F w c d):
 dA false fp F b_ (w.setCell (aH sb 2) c) sb gf cap t0 c u_ s0 v_ ⟨m.f_,d,m.out⟩/\Kept (aR false sb gf u_ v_) w (w.setCell (aH sb 2) c):=by
 have g:∀k,k≠sb->(w.setCell (aH sb 2) c).heap[k]?=w.heap[k]?:=λk g=>ei _ _ _ _ g
 have j:=(e7.1 h.nodup).1;have i:∀b,F b->(w.setCell (aH sb 2) c).heap[b]?=w.heap[b]?:=λb p=>g b λe=>(h.apart b p).2 (by simp[aR,e])
 have f:∀k,k∈gf::(u_.ownBlock.toList++cB false v_)->(w.setCell (aH sb 2) c).heap[k]?=w.heap[k]?:=λk l=>g k λe=>j (by rw[<-e];exact l)
 refine⟨⟨?_,aY h.row λk a=>?_,h.frs.keep i dP λv n k a=>f k ?_,o.keep i dP,aY h.out λk a=>f k (by simp[a]),h.nodup,λk a=>ej (h.lt k a) s_,λk a=>⟨ej (h.apart k a).1 s_,(h.apart k a).2⟩⟩,⟨rfl,rfl,rfl,s_,λk _ q=>g k λe=>q (by simp[aR,e])⟩⟩
 ·rw[aK h.blk];rfl
 ·cases a;exact f gf s_
 ·have:k∈cB false v_:=ig.2 ⟨v,n,a⟩;simp[this]
def DoM(fp:eK)(F:bY)(b_ sb:Nat)(t0 s0:aQ)(own:List Nat)(w:aG)(r:cS × Nat)(e:Ending)(w':aG):Prop:=
 bd_ r.2 e/\Done fp F b_ sb t0 s0 own w r.1 w'
def dX.tapes{own:List Nat}{i:aG}{G:bY}{n:Nat}{m:cS}(h:dX false fp b_ sb gf n t0 s0 own i G m w):∃tv,tK G w tv m.tape/\w.cell? (aH sb 2)=some tv/\w.frozen? (aH sb 2)=false/\sb<w.heap.size/\
 ∀b a,tK G w b a->dX false fp b_ sb gf n t0 s0 own i G ⟨m.f_,a,m.out⟩ (w.setCell (aH sb 2) b):=by
 obtain⟨p,k,e,tv,d,f,q,c,g⟩:=h;refine⟨tv,c.tape,aA c.blk rfl,aD c.blk,aC c.blk,λb a l=>?_⟩
 obtain⟨o,j⟩:=c.setTape l;exact⟨p.trans j g,em k j.size,e,b,d,f,q,o,g⟩
def dX.pushK{own:List Nat}{N:aG}{G:bY}{n:Nat}(h:dX false fp b_ sb gf n t0 s0 own N G ⟨w_++[f],tape,out⟩ w){t:TypeId}{z:aQ}{a:aM}(Y:PV G w (.iface t z) a)(s:aO a<=200)(K:f.ops.length<=100000):Calls prog 251 #[.pointer (some (aH gf (n*6))),.iface t z] w λe w'=>e=aX (.tuple #[])/\dX false fp b_ sb gf n t0 s0 own N G ⟨w_++[f.push a],tape,out⟩ w'/\w'.heap[sb]?=w.heap[sb]?/\∀k,G k->w'.heap[k]?=w.heap[k]?:=by
 obtain⟨L,J,B,Q,b,Z,d,c,p⟩:=h;obtain⟨l,v,i,rfl,W,hv,q,g,M,k0,k1,k2,k3,k4,T⟩:=c.top;have H:l.length=n:=by simpa using d
 subst H;obtain⟨⟨X,m,x⟩,C⟩:=hv.ops;have E:=e7.1 (e7.1 c.nodup).2;have y:v.ov.ownBlock≠some gf:=λe=>E.1 (by simp[cB,FVal.ownX,e])
 have u:v.ov.ownBlock≠some sb:=λe=>(e7.1 c.nodup).1 (by simp[cB,FVal.ownX,e])
 have D:sb≠gf:=λe=>(e7.1 c.nodup).1 (by simp[e])
 refine(zG b_ gf (l.length*6) f.ops.length i v.ov X t z w g T m y J o_).mono ?_
 rintro e w' ⟨he,j,V,P,I,r⟩;obtain⟨S,O⟩:=c.pushed (cur:=i) g x Y s V P I r;refine⟨he,⟨L.trans O p,em J O.size,B,Q,b,_,s_,S,λk o=>?_⟩,r.block sb (aC q) D (λe=>u e.symm),λk A=>r.block k (c.apart k A).1 (λe=>(c.apart k A).2 (by simp[aR,e])) λe=>(c.apart k A).2 (by simp[aR,cB,FVal.ownX,<-e])⟩
 have e1:aR false sb gf b (l++[{ v with ov:=j }])=(sb::gf::(b.ownBlock.toList++cB false l))++({ v with ov:=j }:FVal).ownX false:=by simp[aR,cB]
 have U:aR false sb gf b (l++[v])=(sb::gf::(b.ownBlock.toList++cB false l))++(v.ownX false):=by simp[aR,cB]
 rw[e1] at o;rw[U] at p;rcases eu.1 o with d|d
 ·exact p k (fk _ d)
 ·rcases eu.1 d with d|d
  ·exact p k (fq _ (fk _ d))
  ·have c:j.ownBlock=some k:=by simpa using d
   rcases I k c with F|F
   ·exact p k (fq _ (by simp[FVal.ownX,F]))
   ·exact d6 (em L.size F)
def bw_(v:List eV)(h:dA false fp F b_ w sb gf cap t0 tv u_ s0 v_ ⟨w_++[f],tape,out⟩)(p:w_.length<=15)(b:b_<=w.heap.size)(I:f.ops.length<=99000)(B:tape.length<=17592186044416):
 Calls prog 281 #[.agg #[],aZ sb] w (DoM fp F b_ sb t0 s0 (aR false sb gf u_ v_) w (Hs.doI v .read w_ f tape out)):=by
 have s:=h.mid b (.cells #[] 311);obtain⟨A,J,u,Y,N,L⟩:=s.tapes;cases tape with
 |nil=>
  have V:∃x c,A=.slice x 0 c:=by
   rcases J with ⟨_,d⟩|⟨g,o,c,d,_⟩
   ·exact d
   ·exact⟨_,_,d⟩
  obtain⟨x,c,rfl⟩:=V;refine(RX w _ sb x c rfl u).mono ?_;rintro e n ⟨rfl,rfl⟩;exact⟨d6 ⟨show (7:Nat)≠0 by decide,rfl⟩,s.done (Ext.refl _ _)⟩
 |cons i l=>
  rcases J with ⟨O,_⟩|⟨g,o,c,rfl,M,q,a⟩
  ·cases O
  have E:=a 0 s_
  simp only[ep] at u M B
  refine(RW w _ sb gf (w_.length*6) g o l.length c i (λn=>Done fp F b_ sb t0 s0 (aR false sb gf u_ v_) w ⟨w_++[f.push (bH i)],l,out⟩ n)
   (λW=>dX false fp b_ sb gf w_.length t0 s0 (aR false sb gf u_ v_) (w.alloc (.cells #[] 311)) F ⟨w_++[f.push (bH i)],i::l,out⟩ W/\W.cell? (aH sb 2)=some (.slice (some (aH g o)) (l.length+1) c)/\∀k,F k->W.heap[k]?=(w.alloc (.cells #[] 311)).heap[k]?) rfl M o_ (s.topS p) u E.1 (λW H=>?_) (λW t=>?_) (λW U Z t C=>?_)).mono ?_
  ·refine((s.same H).pushK (PV.num F W i E.2.1 E.2.2) (by rw[kZ];omega) o_).mono ?_
   rintro e n ⟨X,d,r,D⟩;refine⟨X,d,?_,λk P=>by rw[D k P,H.heap]⟩
   have G:n.cell? (aH sb 2)=W.cell? ⟨sb,2,none⟩:=World.cell?_of_block r;rw[G];exact bN H.heap u
  ·obtain⟨y,_,q2,Q,T,_⟩:=t.1.tapes;exact⟨t.2.1,Q,T⟩
  ·obtain⟨d,r,D⟩:=t;obtain⟨y,_,_,_,_,S⟩:=d.tapes;refine(S _ l ?_).done (Ext.refl _ _);by_cases K:l=[]
   ·subst K;exact d7 ⟨rfl,_,_,rfl⟩
   ·have z:l.length≠0:=λe=>K (gg e)
    rcases C with C|⟨rfl,rfl⟩
    ·exact absurd C z
    ·refine d6 ⟨g,o+1,c-1,rfl,o_,q,λj hj=>?_⟩
     have m:=a (j+1) t_
     simp only[List.getElem_cons_succ] at m;refine⟨?_,m.2⟩;have G:W.cell? (aH g (o+1+j))=(w.alloc (.cells #[] 311)).cell? ⟨g,o+1+j,none⟩:=World.cell?_of_block (D g q);rw[G,show o+1+j=o+(j+1) by omega];exact m.1
  ·rintro e n ⟨rfl,r⟩;exact⟨d7 ⟨rfl,rfl⟩,r⟩
end
def TU(w b:aG)(sb f i gf a:Nat)(P:World->Prop)(Q:TypeId->Value->World->Prop)(g:w.alloc (.cells #[] 243)=b)(h:1<=a)
 (o:Hid (∀W,aU b W->Calls prog 74 #[aZ sb] W λe w'=>e=aX (.pointer (some (aH f i)))/\aU b w'))
 (n:Hid (∀W,aU b W->Calls prog 87 #[.pointer (some (aH f i))] W λe w'=>∃t z,e=aX (.iface t z)/\Q t z w'))
 (j:Hid (∀W t z,Q t z W->W.cell? (aH sb 1)=some (.slice (some (aH gf 0)) 1 a)/\W.frozen? (aH sb 1)=false/\sb<W.heap.size))
 (k:Hid (∀W t z,Q t z W->P (W.drew.setCell (aH sb 1) (.slice (some (aH gf 0)) 0 a)))):
 Calls prog 252 #[.agg #[],aZ sb] w λe w'=>e=aX (.tuple #[])/\P w':=by
 have m:=aB g;have s:(0:Int)<=(a:Int):=o_
 clear g;go_in
 go_wp2_with fail;rw[m.out];refine(o _ (aU.refl _)).mono ?_;rintro e p ⟨rfl,d⟩;go_wp2_with fail;refine(n _ d).mono ?_;rintro e v ⟨t,z,rfl,c⟩;obtain⟨q,u,r⟩:=j _ _ _ c;have l:=aB (k _ _ _ c);clear c;go_wp2_with fail;go_region
 all_goals
  go_wp2
  go_end0;exact⟨rfl,l⟩
def TT(w b:aG)(sb h m gf a n g j:Nat)(P:World->Prop)(Q l:TypeId->Value->World->Prop)(i:w.alloc (.cells #[] 243)=b)(k:n+2<=a)(G:n<=1000)
 (x:Hid (∀W,aU b W->Calls prog 74 #[aZ sb] W λe w'=>e=aX (.pointer (some (aH h m)))/\aU b w'))
 (v:Hid (∀W,aU b W->Calls prog 87 #[.pointer (some (aH h m))] W λe w'=>∃t z,e=aX (.iface t z)/\Q t z w'))
 (o:Hid (∀W t z,Q t z W->W.cell? (aH sb 1)=some (.slice (some (aH gf 0)) (n+2) a)/\W.frozen? (aH sb 1)=false/\sb<W.heap.size))
 (f:Hid (∀W t z,Q t z W->Calls prog 74 #[aZ sb] (W.drew.setCell (aH sb 1) (.slice (some (aH gf 0)) (n+1) a)) λe w'=>e=aX (.pointer (some (aH g j)))/\l t z w'))
 (s:Hid (∀W t z,l t z W->Calls prog 251 #[.pointer (some (aH g j)),.iface t z] W λe w'=>e=aX (.tuple #[])/\P w')):
 Calls prog 252 #[.agg #[],aZ sb] w λe w'=>e=aX (.tuple #[])/\P w':=by
 have u:=aB i;have H:(0:Int)<=(n:Int)+1:=o_
 have E:(n:Int)+1<=(a:Int):=o_
 have I:(0:Int)<(n:Int)+1:=o_
 have J:(n:Int)+2-1=(n:Int)+1:=o_
 clear i;go_in
 go_wp2_with fail;rw[u.out];refine(x _ (aU.refl _)).mono ?_;rintro e A ⟨rfl,d⟩;go_wp2_with fail;refine(v _ d).mono ?_;rintro e K ⟨t,z,rfl,c⟩;obtain⟨B,F,D⟩:=o _ _ _ c;have r:=aB (f _ _ _ c);clear c;go_wp2_with fail;go_region
 all_goals
  go_wp2_with fail;refine r.mono ?_;rintro e C ⟨rfl,p⟩;go_wp2_with fail;refine(s _ _ _ p).mono ?_;rintro e y ⟨rfl,q⟩;go_wp2
  go_end0;exact⟨rfl,q⟩
section
variable {fp:eK} {F:bY} {b_:Nat} {w:aG} {sb gf cap:Nat} {t0 tv u_ s0:aQ} {v_:List FVal} {w_:List aJ} {f:aJ} {tape:List Int} {out:cN}
def dA.dropTop{fb:List FVal}{v:FVal}(h:dA false fp F b_ w sb gf cap t0 tv u_ s0 (fb++[v]) ⟨w_++[f],tape,out⟩):
 dA false fp F b_ (w.setCell (aH sb 1) (.slice (some (aH gf 0)) fb.length cap)) sb gf cap t0 tv u_ s0 fb ⟨w_,tape,out⟩/\Kept (aR false sb gf u_ (fb++[v])) w (w.setCell (aH sb 1) (.slice (some (aH gf 0)) fb.length cap)):=by
 generalize G:Value.slice (some (aH gf 0)) fb.length cap=V;have l:∀k,k≠sb->(w.setCell (aH sb 1) V).heap[k]?=w.heap[k]?:=λk l=>ei _ _ _ _ l
 have q:=(e7.1 h.nodup).1;have c:cB false (fb++[v])=cB false fb++(v.ownX false):=by simp[cB]
 have d:∀k,k∈aR false sb gf u_ fb->k∈aR false sb gf u_ (fb++[v]):=λk j=>by
  unfold aR at j ⊢
  rw[c];simp only[eo,eu] at j ⊢
  rcases j with g|g|g|g
  ·exact d7 g
  ·exact d6 (d7 g)
  ·exact d6 (d6 (d7 g))
  ·exact d6 (d6 (d6 (d7 g)))
 have m:∀b,F b->(w.setCell (aH sb 1) V).heap[b]?=w.heap[b]?:=λb t=>l b λe=>(h.apart b t).2 (by simp[aR,e])
 have i:∀k,k∈gf::(u_.ownBlock.toList++cB false (fb++[v]))->(w.setCell (aH sb 1) V).heap[k]?=w.heap[k]?:=λk j=>l k λe=>q (by rw[<-e];exact j)
 obtain⟨C,L,e,n,K⟩:=jQ.unsnoc h.frs;obtain⟨rfl,J⟩:=ib e rfl;refine⟨⟨?_,?_,n.keep m dP λu A k a=>i k ?_,h.tape.keep m dP,aY h.out λk a=>i k (by simp[a]),?_,λk a=>ej (h.lt k (d k a)) s_,λk a=>⟨ej (h.apart k a).1 s_,λj=>(h.apart k a).2 (d k j)⟩⟩,⟨rfl,rfl,rfl,s_,λk _ B=>l k λe=>B (by simp[aR,e])⟩⟩
 ·rw[aK h.blk,<-G];rfl
 ·rcases h.row.2 with ⟨o,_⟩|⟨I,H,p,o,D,s,y,z,x,r⟩
  ·cases o
  ·cases o;rw[el] at y r;refine⟨by rw[eN],d6 ⟨gf,cap,p,rfl,D,?_,o_,z,x,?_⟩⟩
   ·rw[i gf s_];exact s
   ·have:=congrArg (List.take (fb.length*6)) r;rw[jf,show min (fb.length*6) ((fb.length+[v].length)*6)=fb.length*6 by simp,kJ] at this
    rw[this,List.take_left' (by rw[eN])]
 ·have:k∈cB false fb:=ig.2 ⟨u,A,a⟩;rw[c];simp[this]
 ·have E:aR false sb gf u_ (fb++[v])=aR false sb gf u_ fb++(v.ownX false):=by simp[aR,c]
  have:=h.nodup;rw[E] at this;exact(gt.1 this).1
def AO(sb gf:Nat)(a:aQ)(fb:List FVal)(v:FVal):∀k,k∈aR false sb gf a fb->k∈aR false sb gf a (fb++[v]):=λk b=>by
 have c:aR false sb gf a (fb++[v])=aR false sb gf a fb++(v.ownX false):=by simp[aR,cB]
 rw[c];exact fk _ b
def cA_(fp:eK)(F:bY)(b_ sb gf cap:Nat)(t0 tv u_ s0:aQ)(fb:List FVal)(v:FVal)(w_:List aJ)(f:aJ)(tape:List Int)(out:cN)(w0:aG)(a:aM)(t:TypeId)(z:aQ)(W:aG):Prop:=
 PV F W (.iface t z) a/\aO a<=200/\∃v',(v'.ownX false)=(v.ownX false)/\dA false fp F b_ W sb gf cap t0 tv u_ s0 (fb++[v']) ⟨w_++[f.pop],tape,out⟩/\Kept (aR false sb gf u_ (fb++[v])) w0 W
def cA_.gone{fb:List FVal}{v:FVal}{c W:aG}{a:aM}{t:TypeId}{z:aQ}(l:cA_ fp F b_ sb gf cap t0 tv u_ s0 fb v w_ f tape out c a t z W):
 PV F (W.drew.setCell (aH sb 1) (.slice (some (aH gf 0)) fb.length cap)) (.iface t z) a/\dA false fp F b_ (W.drew.setCell (aH sb 1) (.slice (some (aH gf 0)) fb.length cap)) sb gf cap t0 tv u_ s0 fb ⟨w_,tape,out⟩/\Kept (aR false sb gf u_ (fb++[v])) c (W.drew.setCell (aH sb 1) (.slice (some (aH gf 0)) fb.length cap)):=by
 obtain⟨n,r,i,p,b,o⟩:=l;have g:=b.grow (aU.drew W).below dP (λ_ h=>d7 h)
 obtain⟨m,d⟩:=g.dropTop;have e:aR false sb gf u_ (fb++[i])=aR false sb gf u_ (fb++[v]):=by simp[aR,cB,p]
 rw[e] at d;refine⟨(n.keep (w':=W.drew) λ_ _=>rfl).keep λk j=>ei _ _ _ _ λe=>(b.apart k j).2 (by simp[aR,e]),m,(o.trans (Kept.of_below (own:=[]) (aU.drew W).below) (λx q=>by simp at q)).trans d λ_ h=>d7 h⟩
def b6_(s:List eV)(h:dA false fp F b_ w sb gf cap t0 tv u_ s0 v_ ⟨w_++[f],tape,out⟩)(o:w_.length<=15)(l:b_<=w.heap.size)(I:f.ops.length<=99000)(D:∃J a,f.ops=J++[a])(H:∀g∈w_,g.ops.length<=99000):
 Calls prog 252 #[.agg #[],aZ sb] w (DoM fp F b_ sb t0 s0 (aR false sb gf u_ v_) w (Hs.doI s .give w_ f tape out)):=by
 obtain⟨J,a,M⟩:=D;have T:=h.mid l (.cells #[] 243);obtain⟨b,v,Y,rfl,r, -, -, -,n, -⟩:=h.top;have q:Below w.heap.size w (w.alloc (.cells #[] 243)):=(eh _ w).alloc cL _;have U:=h.grow q dP (λ_ h=>d7 h)
 have G:=T.topS o;rw[<-r] at G
 have P:Hid (∀W,aU (w.alloc (.cells #[] 243)) W->Calls prog 87 #[.pointer (some (aH gf (b.length*6)))] W λe m=>∃t z,e=aX (.iface t z)/\cA_ fp F b_ sb gf cap t0 tv u_ s0 b v w_ f tape out (w.alloc (.cells #[] 243)) a t z m):=λW O=>by
  refine((U.grow O.below dP (λ_ h=>d7 h)).popR M o_).mono ?_
  rintro e m ⟨t,z,aa,B,V,u,h3,x,X,h6⟩;exact⟨t,z,B,V,u,_,by simp[FVal.ownX,h3],x,(Kept.of_below (own:=aR false sb gf u_ (b++[v])) O.below).trans X λ_ h=>d7 h⟩
 have K:∀W t z,cA_ fp F b_ sb gf cap t0 tv u_ s0 b v w_ f tape out (w.alloc (.cells #[] 243)) a t z W->W.cell? (aH sb 1)=some (.slice (some (aH gf 0)) (b.length+1) cap)/\W.frozen? (aH sb 1)=false/\sb<W.heap.size:=λW t z i=>by
  obtain⟨_,_,S,_,x,_⟩:=i;have c:=x.blk;rw[show (b++[S]).length=b.length+1 by simp] at c
  exact⟨aA c rfl,aD c,aC c⟩
 rcases jb w_ with rfl|⟨j,g,A⟩
 ·obtain rfl:b=[]:=gg r;refine(TU w _ sb gf 0 gf cap (λm=>Done fp F b_ sb t0 s0 (aR false sb gf u_ ([]++[v])) w ⟨[],tape,out⟩ m) _ rfl (by simpa using n) G P K λW t z i=>?_).mono ?_
  ·obtain⟨_,C,y⟩:=i.gone;exact⟨(Kept.of_below q).trans y λ_ h=>d7 h,F,gf,cap,tv,u_,[],Ext.refl _ _,C,λk E=>d7 (AO sb gf u_ [] v k E)⟩
  ·rintro e m ⟨rfl,u⟩;exact⟨d7 ⟨rfl,rfl⟩,u⟩
 ·rw[jc] at A;subst A;have d:b.length=j.length+1:=by simpa using r
  have Q:j.length<=14:=by simp at o;omega
  rw[d] at n;have Z:Hs.doI s .give (j++[g]) f tape out=(⟨j++[g.push a],tape,out⟩,0):=by simp[Hs.doI,jS M]
  rw[Z];refine(TT w _ sb gf (b.length*6) gf cap j.length gf (j.length*6) (λm=>Done fp F b_ sb t0 s0 (aR false sb gf u_ (b++[v])) w ⟨j++[g.push a],tape,out⟩ m) _ (λt z W=>PV F W (.iface t z) a/\aO a<=200/\dX false fp b_ sb gf j.length t0 s0 (aR false sb gf u_ (b++[v])) (w.alloc (.cells #[] 243)) F ⟨j++[g],tape,out⟩ W) rfl o_ o_ G P (λW t z i=>?_) (λW t z i=>?_) (λW t z i=>?_)).mono ?_
  ·have:=K W t z i;rw[d] at this;exact this
  ·obtain⟨L,C,y⟩:=i.gone;rw[d] at L C y;have p:dX false fp b_ sb gf j.length t0 s0 (aR false sb gf u_ (b++[v])) (w.alloc (.cells #[] 243)) F ⟨j++[g],tape,out⟩ _:=⟨y,em l (em q.size y.size),cap,tv,u_,b,d,C,λk E=>d7 (AO sb gf u_ b v k E)⟩
   refine(p.top o_).mono ?_
   rintro e m ⟨B,N⟩;exact⟨B,L.keep (λ_ _=>by rw[N.heap]),i.2.1,p.same N⟩
  ·refine(i.2.2.push i.1 i.2.1 (by have:=H g s_;omega)).mono ?_
   rintro e m ⟨B,x⟩;exact⟨B,x.done (Ext.refl _ _)⟩
  ·rintro e m ⟨rfl,u⟩;exact⟨d7 ⟨rfl,rfl⟩,u⟩
end
def VM(w h:World)(sb m n gf l f:Nat)(b:Option Addr)(S:World->Prop)(Q:Option Addr->Nat->World->Prop)(k:w.alloc (.cells #[.pointer b,.int .i64 f] 313)=h)
 (u:Hid (∀W,aU h W->Calls prog 74 #[.pointer (some ⟨sb,0,none⟩)] W λe w'=>e=.returned (.pointer (some ⟨m,n,none⟩))/\aU h w'))
 (t:Hid (∀W,aU h W->Calls prog 257 #[.pointer (some ⟨m,n,none⟩),.int .i64 f] W λe w'=>∃x d,e=.returned (.slice x f d)/\Q x d w'))
 (q:Hid (∀W x d,Q x d W->W.cell? ⟨sb,1,none⟩=some (.slice (some ⟨gf,0,none⟩) 16 l)/\S W)):
 Calls prog 282 #[.agg #[.pointer b,.int .i64 f],.pointer (some ⟨sb,0,none⟩)] w λe w'=>e=fQ 5/\S w':=by
 have a:(w.alloc (.cells #[.pointer b,.int .i64 f] 313)).heap[w.heap.size]?=some (.cells #[.pointer b,.int .i64 f] 313 (0,0)):=aN _ _ rfl _;rw[k] at a;have r:=aB k;have g:=aB (aA (i:=1) a rfl);have B:=g.out;have j:=aC a;clear k a;go_enter func282,ntmps282;go_wp2_with fail;rw[r.out];go_region_law (go_simp;first|(go_at_call 74;refine(u.out _ (aU.drew _)).mono ?_;rintro e v ⟨rfl,c⟩;have A:=bN c.heap g.out;have y:=jR c.heap j)|(go_at_call 257;refine(t.out _ c).mono ?_;rintro e C ⟨x,d,rfl,o⟩;have p:=q.out _ _ _ o;obtain⟨z,s⟩:=p))
 all_goals
  go_wp2_with fail;exact⟨rfl,rfl,s⟩
def LZ:(prog.info? 118).map (λi=>(i.zero,i.size,i.bytes))=some (some (.agg #[.pointer none,I_ 0,I_ 0,.pointer none,bG,bG]),6,80):=k_
def YB(w:aG)(b c d e a f:aQ):∀j u,([b,c,d,e,a,f]:List Value)[j]?=some u->(w.alloc (.cells #[b,c,d,e,a,f] 118)).cell? ((⟨w.heap.size,0,none⟩:Addr).add j)=some u:=by
 intro j u g;exact World.news_of_block (cs:= #[b,c,d,e,a,f]) (aN _ _ rfl _) j u g
def O0(x y:Option Addr)(c d:Nat):∀u∈([.pointer x,I_ 0,I_ 0,.pointer none,.slice y c d,bG]:List Value),u.oneCell'=true:=by
 intro u a;simp at a;rcases a with rfl|rfl|rfl|rfl|rfl<;>rfl
def VL(w s:World)(sb C D gf k h b_ n:Nat)(a:Option Addr)(P:World->Prop)(Q:Option Addr->Nat->List Value->World->Prop)(y:w.alloc (.cells #[.pointer a,.int .i64 h] 313)=s)(hn:n<=15)
 (S:Hid (∀W,aU s W->Calls prog 74 #[.pointer (some ⟨sb,0,none⟩)] W λe w'=>e=.returned (.pointer (some ⟨C,D,none⟩))/\aU s w'))
 (O:Hid (∀W,aU s W->Calls prog 257 #[.pointer (some ⟨C,D,none⟩),.int .i64 h] W λe w'=>∃x d f,e=.returned (.slice x h d)/\Q x d f w'))
 (F:Hid (∀W x d f,Q x d f W->W.cell? ⟨sb,1,none⟩=some (.slice (some ⟨gf,0,none⟩) n k)/\W.cell? ⟨w.heap.size,0,none⟩=some (.pointer a)/\w.heap.size<W.heap.size/\sb<W.heap.size/\b_<=W.heap.size))
 (J:Hid (∀W x d f,Q x d f W->W.drew.ownsRow b_ 118 6 (.slice (some ⟨gf,0,none⟩) n k) n f))
 (E:Hid (∀W x d f,Q x d f W->∀j:World,(W.drew.alloc (.cells #[.pointer a,.int .i64 0,.int .i64 0,.pointer none,.slice x h d,.slice none 0 0] 118)).grownBy j (some gf)->(∃u,j.cell? ⟨sb,1,none⟩=some u)/\j.frozen? ⟨sb,1,none⟩=false/\sb<j.heap.size))
 (K:Hid (∀W x d f,Q x d f W->∀p g (j:World),j.ownsRow b_ 118 6 (.slice (some ⟨p,0,none⟩) (n+1) g) (n+1) (f++[.pointer a,.int .i64 0,.int .i64 0,.pointer none,.slice x h d,.slice none 0 0])->(W.drew.alloc (.cells #[.pointer a,.int .i64 0,.int .i64 0,.pointer none,.slice x h d,.slice none 0 0] 118)).grownBy j (some gf)->(some gf=some p\/p=W.heap.size+1)->P (j.setCell ⟨sb,1,none⟩ (.slice (some ⟨p,0,none⟩) (n+1) g)))):
 Calls prog 282 #[.agg #[.pointer a,.int .i64 h],.pointer (some ⟨sb,0,none⟩)] w λe w'=>e=.returned (.tuple #[])/\P w':=by
 obtain⟨I,L,v,z,A⟩:=info_parts LZ;have b:(w.alloc (.cells #[.pointer a,.int .i64 h] 313)).heap[w.heap.size]?=some (.cells #[.pointer a,.int .i64 h] 313 (0,0)):=aN _ _ rfl _;rw[y] at b;have M:=aB y;have q:=aB (aA (i:=1) b rfl);have c0:=q.out;have t:=aC b;have U:((n:Int)==16)=false:=t_
 clear y b;go_enter func282,ntmps282;go_wp2_with fail;rw[M.out];go_region_law (go_simp;first|(go_at_call 74;refine(S.out _ (aU.drew _)).mono ?_;rintro e T ⟨rfl,l⟩;have d1:=bN l.heap q.out;have V:=jR l.heap t)|(go_at_call 257;refine(O.out _ l).mono ?_;rintro e B ⟨x,d,f,rfl,r⟩;have G:=F.out _ _ _ _ r;obtain⟨X,y2,Z,y4,y5⟩:=G))
 all_goals
  go_wp2_with fail;go_region_law (refine step_append_lies _ r_ _ _ 51 r_ b_ 118 I _ 6 80 underlying51 L v z A rfl d_ (.slice (some ⟨gf,0,none⟩) n k) n f r_ ((J.out _ _ _ _ r).alloc _) ⟨B.heap.size,0,none⟩ 1 1 [.pointer a,.int .i64 0,.int .i64 0,.pointer none,.slice x h d,.slice none 0 0] r_ r_ (YB B.drew _ _ _ _ _ _) (O0 _ _ _ _) d_ (by unfold maxLen;omega) o_ t_ (B.heap.size+1) s_ ?_;intro p g j m c o N;have H:=E.out _ _ _ _ r j c;obtain⟨⟨u5,z1⟩,Y,z3⟩:=H)
  all_goals
   go_wp2_with fail;go_end0;exact⟨rfl,K.out _ _ _ _ r _ _ _ m c o⟩
end Go.Proofs.YtlflgmdcghfngaaGreatDoor
