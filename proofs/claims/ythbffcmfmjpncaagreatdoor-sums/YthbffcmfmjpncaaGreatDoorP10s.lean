/- Contracts of the program: what is done with a frame's operands. -/
import Derived.Test.YthbffcmfmjpncaaGreatDoorB03s
import Derived.Test.YthbffcmfmjpncaaGreatDoorP09s
set_option linter.defProp false
set_option maxRecDepth 100000
set_option maxHeartbeats 4000000
namespace Go.Proofs.YthbffcmfmjpncaaGreatDoor
open Hs
open _root_.Go.Proofs.Tryz
open Go.RowKit
variable{own:List Nat}{xs:List Value}{l:List aH}{b_ d j m n sb:Nat}{F G:Nat->Prop}{fp:Nat->Value}{c u v:Value}{W w w':World}{f:aF}{a:aH}
structure Chg(gf:Nat)(row:Option Nat)(w w':World):Prop where
 os:w'.os=w.os
 tape:w'.tape=w.tape
 output:w'.output=w.output
 size:w.heap.size<=w'.heap.size
 block:∀k,k<w.heap.size->k≠gf->some k≠row->w'.heap[k]?=w.heap[k]?
def WB(w:World)(u:Value):∀j v,([u]:List Value)[j]?=some v->(w.alloc (.cells #[u] 180)).cell? ((⟨w.heap.size,0,none⟩:Addr).add j)=some v:=by
 intro j v a;match j,a with
 |0,a=>simp at a;subst a;simp[Addr.add,go_sem]
 |j+1,a=>simp at a
def SE(t:TypeId)(z:Value):∀u∈([.iface t z]:List Value),u.oneCell'=true:=by
 intro u a;simp at a;rw[a];rfl
def uI(b_ j o n:Nat)(cur:Array Value)(u:Value)(xs:List Value)(t:TypeId)(z:Value)(w:World)(v:w.heap[j]?=some (.cells cur 136 (0,0)))(I:cur[o+5]?=some u)(d:w.ownsRow b_ 180 1 u n xs)(m:u.ownBlock≠some j)(B:b_<=w.heap.size)(W:n<=1000000):
 Calls prog 281 #[.pointer (some ⟨j,o,none⟩),.iface t z] w λe w'=>e=.returned (.tuple #[])/\∃l,w'.heap[j]?=some (.cells (cur.setIfInBounds (o+5) l) 136 (0,0))/\w'.ownsRow b_ 180 1 l (n+1) (xs++[.iface t z])/\(∀k,l.ownBlock=some k->u.ownBlock=some k\/w.heap.size<=k)/\Chg j u.ownBlock w w':=by
 obtain⟨P,T,y,C,E⟩:=info_parts tB;obtain⟨x,c,rfl⟩:=dV d;have H:=aD v;have V:=aA v I;have Q:=aB d;have N:=aB v;have s:=aB m;clear d v m;go_enter func281,ntmps281;go_wp2_with (at_builtin;refine wpList_append_lies _ r_ _ _ 134 r_ b_ 180 P _ 1 16 underlying134 T y C E rfl d_ (.slice x n c) n xs r_ (Q.out.alloc _) ⟨w.heap.size,0,none⟩ 1 1 [.iface t z] r_ r_ (WB w _) (SE t z) d_ (by unfold maxLen;omega) o_ t_ (w.heap.size+1) s_ ?_)
 intro D r K g b f M
 have a:K.heap[j]?=some (.cells cur 136 (0,0)):=by
  rw[b.block j t_ (λe=>s.out e.symm),G7 _ _ _ H];exact N.out
 have S:=aA a I;have U:=aE a (i:=o+5);have J:=aD a
 have G:D≠j:=by
  rcases f with h|h
  ·exact λe=>s.out (by rw[<-e];exact h)
  ·omega
 have HOWN:=aB g;have q:=aB b;have A:=aB f;have F:=aB a;clear g b f a;go_wp2_with fail;go_end0;refine⟨rfl,.slice (some ⟨D,0,none⟩) (n+1) r,aO F.out,?_,?_,?_⟩
 ·exact bB HOWN.out λk p=>G0 _ _ _ _ (by cases p;exact G)
 ·intro k p;cases p;rcases A.out with h|h
  ·exact F7 h
  ·exact F5 (by show w.heap.size<=D;omega)
 ·refine⟨q.out.os.trans rfl,q.out.tape.trans rfl,q.out.output.trans rfl,G6 s_ (G6 q.out.size s_),λk p O L=>?_⟩
  rw[G0 _ _ _ _ O,q.out.block k t_ L,G7 _ _ _ p]
def JV(b_ q o n:Nat)(cur:Array Value)(s:Value)(xs:List Value)(u:Value)(w:World)(l:w.heap[q]?=some (.cells cur 136 (0,0)))(y:cur[o+5]?=some s)(d:w.ownsRow b_ 180 1 s (n+1) (xs++[u]))(v:xs.length=n)(A:∃t z,u=.iface t z)(H:n<=1000000):
 Calls prog 114 #[.pointer (some ⟨q,o,none⟩)] w λe w'=>e=.returned u/\∃j,w'=w.setCell ⟨q,o+5,none⟩ j/\w.ownsRow b_ 180 1 j n xs/\j.ownBlock=s.ownBlock:=by
 obtain⟨t,z,rfl⟩:=A;rcases d.2 with ⟨D,I⟩|⟨g,c,k,rfl,p,a,x,m,r,f⟩
 ·omega
 have C:=aD l;have G:=aA l y;have F:=aE l (i:=o+5);have B:=aD a
 have b:k[n]?=some (.iface t z):=by
  have:(xs++[Value.iface t z])[n]?=some (.iface t z):=by rw[<-v];simp
  rw[<-f,I9,if_pos o_] at this
  simpa using this
 have J:=aA a b
 have HOWN:Hid (w.ownsRow b_ 180 1 (.slice (some ⟨g,0,none⟩) n c) n xs):=by
  refine⟨by rw[v];omega,F5 ⟨g,c,k,rfl,p,a,o_,m,r,?_⟩⟩
  have:=congrArg (List.take n) f;rw[List.take_take] at this;rw[show min n ((n+1)*1)=n by omega] at this
  rw[Nat.mul_one,this,<-v];simp
 have K:(0:Int)<=n:=o_
 have E:(n:Int)<(n:Int)+1:=o_
 have L:(n:Int)<=c:=o_
 clear d l y a f b;go_enter func114,ntmps114;go_wp2_with fail;go_ret;exact⟨rfl,_,rfl,HOWN.out,rfl⟩
def pZ(sb b n a:Nat)(w:World)(f:w.cell? ⟨sb,1,none⟩=some (.slice (some ⟨b,0,none⟩) (n+1) a))(g:n<=1000):
 Calls prog 95 #[.pointer (some ⟨sb,0,none⟩)] w λe w'=>e=.returned (.pointer (some ⟨b,n*6,none⟩))/\∃q,w'=w.drewN q:=by
 have c:(0:Int)<=(n:Int):=o_
 have d:(n:Int)<(n:Int)+1:=o_
 go_enter func95,ntmps95;go_wp2_with fail;go_quiet (fail)
 go_wp2_with fail;go_ret;exact⟨rfl,_,rfl⟩
def TO(d o fb j n b k:Nat)(cur:Array Value)(l u:Value)(w:World)(a:w.heap[d]?=some (.cells cur 136 (0,0)))(f:cur[o]?=some (.pointer (some ⟨fb,0,none⟩)))(g:cur[o+1]?=some (.int .i64 k))
 (c:w.heap[fb]?=some (.cells #[l,.slice (some ⟨j,0,none⟩) n b] 174 (0,0))) (B:w.cell? ⟨j,k,none⟩=some u) (p:∃t z,u=.iface t z) (s:k<n) (C:n<=1000000):
 Calls prog 152 #[.pointer (some ⟨d,o,none⟩)] w λe w'=>e=.returned u/\∃q,w'=(w.drewN q).setCell ⟨d,o+1,none⟩ (.int .i64 ((k+1:Nat):Int)):=by
 obtain⟨t,z,rfl⟩:=p;have r:=aD a;have m:=aD c;have E:=aA a f;have A:=aA a g;have v:=aE a (i:=o+1);have x:=aA c (i:=1) rfl;have D:(0:Int)<=(k:Int):=o_
 have y:(k:Int)<(n:Int):=o_
 clear a c f g;go_enter func152,ntmps152;go_wp2_with fail;go_quiet (fail)
 go_wp2_with fail;go_ret;exact⟨rfl,_,by congr 2⟩
def eS(F:Nat->Prop)(w:World):Value->List (List UInt8)->Prop
 |v,[]=>v=.pointer none
 |v,x::l=>∃b o,v=.pointer (some ⟨b,0,none⟩)/\F b/\w.heap[b]?=some (.cells #[.string (bs x),.int .i64 l.length,o] 177 (0,0))/\eS F w o l
def eS.keep(a:∀b,F b->w'.heap[b]?=w.heap[b]?)(d:∀b,F b->G b):∀{l:List (List UInt8)} {v:Value},eS F w v l->eS G w' v l
 |[],_,h=>h
 |_::_,_,⟨b,o,f,c,g,e⟩=>⟨b,o,f,d b c,by rw[a b c];exact g,eS.keep a d e⟩
def eS.form{l:List (List UInt8)}(h:eS F w v l):∃p,v=.pointer p:=by
 cases l with
 |nil=>exact⟨none,h⟩
 |cons x l=>obtain⟨b,o,a,_⟩:=h;exact⟨_,a⟩
def iX(fp:Nat->Value)(F:Nat->Prop)(w:World)(v:Value):aJ->Prop
 |.begin l s=>∃sp,v=.iface 251 (.agg #[.int .i64 l,sp])/\eS F w sp s
 |.push a=>∃u,v=.iface 242 (.agg #[u])/\PV F w u a/\aT a<=200
 |.load k=>v=.iface 312 (.agg #[.int .i64 k])
 |.declare k=>v=.iface 342 (.agg #[.int .i64 k])
 |.assign k n=>v=.iface 344 (.agg #[.int .i64 k,.int .i64 n])
 |.jump t=>v=.iface 367 (.agg #[.int .i64 t])
 |.skip t=>v=.iface 366 (.agg #[.int .i64 t])
 |.shortcut b t=>v=.iface 353 (.agg #[.bool b,.int .i64 t])
 |.truth=>v=.iface 351 (.agg #[])
 |.unary op=>v=.iface 317 (.agg #[.string (bs op)])
 |.binary op=>v=.iface 350 (.agg #[.string (bs op)])
 |.index=>v=.iface 315 (.agg #[])
 |.list n=>v=.iface 314 (.agg #[.int .i64 n])
 |.length=>v=.iface 354 (.agg #[])
 |.read=>v=.iface 355 (.agg #[])
 |.call k n=>v=.iface 357 (.agg #[fp k,.int .i64 n])
 |.give=>v=.iface 244 (.agg #[])
 |.drop=>v=.iface 348 (.agg #[])
 |.print=>v=.iface 347 (.agg #[])
def iX.keep{i:aJ}(h:iX fp F w v i)(d:∀b,F b->w'.heap[b]?=w.heap[b]?)(e:∀b,F b->G b):iX fp G w' v i:=by
 cases i<;>first
  |exact h
  |(obtain⟨f,c,a⟩:=h;exact⟨f,c,eS.keep d e a⟩)
  |(obtain⟨u,c,a,g⟩:=h;exact⟨u,c,(a.keep d).mono e,g⟩)
def iX.form{i:aJ}(h:iX fp F w v i):∃t z,v=.iface t z:=by
 cases i<;>first
  |exact⟨_,_,h⟩
  |(obtain⟨b,a,c⟩:=h;exact⟨_,_,a⟩)
def UI(fp:Nat->Value)(F:Nat->Prop)(w:World)(v:Value)(f:dN):Prop:=
 ∃fb gc cap cur,v=.pointer (some ⟨fb,0,none⟩)/\F fb/\w.heap[fb]?=some (.cells #[.string (bs f.name),.slice (some ⟨gc,0,none⟩) f.code.length cap] 174 (0,0))/\F gc/\w.heap[gc]?=some (.cells cur 247 (0,0))/\
  ∀i (h:i<f.code.length),∃u,cur[i]?=some u/\iX fp F w u f.code[i]
def UI.keep{f:dN}(h:UI fp F w v f)(a:∀b,F b->w'.heap[b]?=w.heap[b]?)(d:∀b,F b->G b):UI fp G w' v f:=by
 obtain⟨p,n,c,e,k,g,o,j,l,r⟩:=h;refine⟨p,n,c,e,k,d _ g,by rw[a _ g];exact o,d _ j,by rw[a _ j];exact l,λi q=>?_⟩
 obtain⟨u,s,m⟩:=r i q;exact⟨u,s,m.keep a d⟩
def jG(fp:Nat->Value)(F:Nat->Prop)(w:World)(tab:List dN):Prop:=∀k f,tab[k]?=some f->UI fp F w (fp k) f
def jG.keep{a:List dN}(h:jG fp F w a)(c:∀b,F b->w'.heap[b]?=w.heap[b]?)(e:∀b,F b->G b):jG fp G w' a:=λk f d=>(h k f d).keep c e
structure FVal where
 fp:Value
 nx:Value
 ln:Value
 sp:Value
 vv:Value
 ov:Value
def FVal.cells(f:FVal):List Value:=[f.fp,f.nx,f.ln,f.sp,f.vv,f.ov]
def fV:List FVal->List Value
 |[]=>[]
 |f::l=>f.cells++fV l
def iS(l m:List FVal):fV (l++m)=fV l++fV m:=by
 induction l with
 |nil=>rfl
 |cons f l a=>simp[fV,a]
def dU(l:List FVal):(fV l).length=l.length*6:=by
 induction l with
 |nil=>rfl
 |cons f l a=>simp[fV,FVal.cells,a];omega
def FVal.owns(f:FVal):List Nat:=f.vv.ownBlock.toList++f.ov.ownBlock.toList
def nP(F:Nat->Prop)(b_:Nat)(w:World)(v:Value)(l:List aH):Prop:=(∃xs,w.ownsRow b_ 180 1 v l.length xs/\fO F w xs l)/\∀a∈l,aT a<=200
def nP.keep(h:nP F b_ w v l)(a:∀b,F b->w'.heap[b]?=w.heap[b]?)(i:∀b,F b->G b)(c:∀k,v.ownBlock=some k->w'.heap[k]?=w.heap[k]?):nP G b_ w' v l:=by
 obtain⟨⟨f,e,d⟩,g⟩:=h;exact⟨⟨f,bB e c,(d.keep a).mono i⟩,g⟩
structure KZ(fp:Nat->Value)(F:Nat->Prop)(b_:Nat)(w:World)(v:FVal)(f:aF):Prop where
 fn:UI fp F w v.fp f.fn
 nx:v.nx=.int .i64 f.next
 ln:v.ln=.int .i64 f.l_
 sp:eS F w v.sp f.e_
 g_:nP F b_ w v.vv f.g_
 ops:nP F b_ w v.ov f.ops
def KZ.keep{v:FVal}(h:KZ fp F b_ w v f)(a:∀b,F b->w'.heap[b]?=w.heap[b]?)(c:∀b,F b->G b)(d:∀k∈v.owns,w'.heap[k]?=w.heap[k]?):KZ fp G b_ w' v f:=
 ⟨h.fn.keep a c,h.nx,h.ln,eS.keep a c h.sp,h.g_.keep a c λk e=>d k (by simp[FVal.owns,e]),h.ops.keep a c λk e=>d k (by simp[FVal.owns,e])⟩
def iY(fp:Nat->Value)(F:Nat->Prop)(b_:Nat)(w:World):List FVal->List aF->Prop
 |[],[]=>True
 |v::vs,f::fs=>KZ fp F b_ w v f/\iY fp F b_ w vs fs
 |_,_=>False
def iY.keep(a:∀b,F b->w'.heap[b]?=w.heap[b]?)(c:∀b,F b->G b):∀{vs:List FVal} {fs:List aF},iY fp F b_ w vs fs->(∀v∈vs,∀k∈v.owns,w'.heap[k]?=w.heap[k]?)->iY fp G b_ w' vs fs
 |[],[],_,_=>trivial
 |v::_,_::_,⟨f,e⟩,d=>⟨f.keep a c (d v (K8 ..)),iY.keep a c e λu g=>d u (L6 _ g)⟩
 |[],_::_,h,_=>h.elim
 |_::_,[],h,_=>h.elim
def iY.length:∀{vs:List FVal} {fs:List aF},iY fp F b_ w vs fs->vs.length=fs.length
 |[],[],_=>rfl
 |_::_,_::_,⟨_,h⟩=>by simp[iY.length h]
 |[],_::_,h=>h.elim
 |_::_,[],h=>h.elim
def iY.snoc{v:FVal}:∀{vs:List FVal} {fs:List aF},iY fp F b_ w vs fs->KZ fp F b_ w v f->iY fp F b_ w (vs++[v]) (fs++[f])
 |[],[],_,h=>⟨h,trivial⟩
 |_::_,_::_,⟨b,a⟩,h=>⟨b,iY.snoc a h⟩
 |[],_::_,h,_=>h.elim
 |_::_,[],h,_=>h.elim
def iY.unsnoc{fp:Nat->Value}{F:Nat->Prop}{b_:Nat}{w:World}{f:aF}:∀{vs:List FVal} {fs:List aF},iY fp F b_ w vs (fs++[f])->∃a v,vs=a++[v]/\iY fp F b_ w a fs/\KZ fp F b_ w v f
 |[],[],h=>h.elim
 |[v],[],⟨b,c⟩=>⟨[],v,rfl,trivial,b⟩
 |_::_::_,[],⟨_,h⟩=>h.elim
 |v::vs,g::fs,⟨b,c⟩=>by
  obtain⟨a,u,e,i,d⟩:=iY.unsnoc (vs:=vs) (fs:=fs) c;exact⟨v::a,u,by rw[e];rfl,⟨b,i⟩,d⟩
 |[],_::_,h=>h.elim
def bJ(l:List FVal):List Nat:=l.flatMap FVal.owns
def aI(sb gf:Nat)(u_:Value)(v_:List FVal):List Nat:=sb::gf::(u_.ownBlock.toList++bJ v_)
def VC(l:List (List UInt8)):List Value:=l.map λx=>Value.string (bs x)
def vY(F:Nat->Prop)(w:World)(v:Value)(l:List Int):Prop:=
 (l=[]/\∃x c,v=.slice x 0 c)\/∃g o c,v=.slice (some ⟨g,o,none⟩) l.length c/\l.length<=c/\F g/\∀i (h:i<l.length),w.cell? ⟨g,o+i,none⟩=some (.int .i64 l[i])/\ -9223372036854775808<=l[i]/\l[i]<=9223372036854775807
def vY.keep{l:List Int}(h:vY F w v l)(j:∀b,F b->w'.heap[b]?=w.heap[b]?)(m:∀b,F b->G b):vY G w' v l:=by
 rcases h with h|⟨g,o,c,k,f,d,a⟩
 ·exact F7 h
 ·exact F5 ⟨g,o,c,k,f,m g d,λi e=>⟨by rw[World.cell?_of_block (j g d)];exact(a i e).1,(a i e).2⟩⟩
structure dI(fp:Nat->Value)(F:Nat->Prop)(b_:Nat)(w:World)(sb gf cap:Nat)(t0 tv u_ s0:Value)(v_:List FVal)(m:bO):Prop where
 blk:w.heap[sb]?=some (.cells #[t0,.slice (some ⟨gf,0,none⟩) v_.length cap,tv,u_,s0] 72 (0,0))
 row:w.ownsRow b_ 136 6 (.slice (some ⟨gf,0,none⟩) v_.length cap) v_.length (fV v_)
 frs:iY fp F b_ w v_ m.f_
 tape:vY F w tv m.tape
 out:w.ownsRow b_ 9 1 u_ m.out.length (VC m.out)
 nodup:(aI sb gf u_ v_).Nodup
 lt:∀k∈aI sb gf u_ v_,k<w.heap.size
 apart:∀k,F k->k<w.heap.size/\k∉aI sb gf u_ v_
def dI.step{q A:Nat}{t0 X i Y:Value}{fb:List FVal}{v v':FVal}{p:List aF}{f':aF}{z:List Int}{I:List (List UInt8)}
 (h:dI fp F b_ w sb q A t0 X i Y (fb++[v]) ⟨p++[f],z,I⟩) (K:w.heap.size<=w'.heap.size) (O:∀k,k<w.heap.size->k≠q->k∉v.owns->w'.heap[k]?=w.heap[k]?)
 (M:w'.ownsRow b_ 136 6 (.slice (some ⟨q,0,none⟩) (fb.length+1) A) (fb.length+1) (fV (fb++[v'])))
 (P:KZ fp G b_ w' v' f') (T:∀k∈v'.owns,k<w'.heap.size/\(k∈v.owns\/w.heap.size<=k)) (V:v'.owns.Nodup)
 (hF:∀k,F k->G k) (hG:∀k,G k->F k\/(w.heap.size<=k/\k<w'.heap.size/\k∉v'.owns)):
 dI fp G b_ w' sb q A t0 X i Y (fb++[v']) ⟨p++[f'],z,I⟩:=by
 have J:(fb++[v']).length=(fb++[v]).length:=s_
 have B:(fb++[v']).length=fb.length+1:=s_
 have j:∀u:FVal,aI sb q i (fb++[u])=(sb::q::(i.ownBlock.toList++bJ fb))++u.owns:=λu=>by simp[aI,bJ]
 have o:=h.nodup;have r:=h.lt;have m:=h.apart;rw[j] at o r m;generalize c:(sb::q::(i.ownBlock.toList++bJ fb))=n at o r m j;obtain⟨l,aa,S⟩:=K9.1 o;have g:∀k∈n,k<w.heap.size/\k∉v.owns:=λk d=>⟨r k (J6 _ d),λW=>S k d k W rfl⟩
 have y:sb∈n:=by rw[<-c];simp
 have E:q∈n:=by rw[<-c];simp
 have U:sb≠q:=by
  rw[<-c] at l;have:=(I5.1 l).1;intro e;exact this (by simp[e])
 have N:∀b,F b->w'.heap[b]?=w.heap[b]?:=λb Q=>by
  obtain⟨x,D⟩:=m b Q;exact O b x (λe=>D (J6 _ (by rw[e];exact E))) λW=>D (J9 _ W)
 have t:∀u∈fb,∀k∈u.owns,k∈n/\k≠q:=λu L k d=>by
  have H:k∈bJ fb:=M2.2 ⟨u,L,d⟩;refine⟨by rw[<-c];simp[H],?_⟩
  rw[<-c] at l;have:=(I5.1 (I5.1 l).2).1;intro e;exact this (by rw[<-e];simp[H])
 have C:∀k,i.ownBlock=some k->k∈n/\k≠q:=λk d=>by
  refine⟨by rw[<-c];simp[d],?_⟩
  rw[<-c] at l;have:=(I5.1 (I5.1 l).2).1;intro e;exact this (by rw[<-e];simp[d])
 refine⟨?_,by rw[B];exact M,?_,h.tape.keep N hF,bB h.out λk d=>?_,?_,?_,?_⟩
 ·rw[J,O sb (g sb y).1 U (g sb y).2];exact h.blk
 ·obtain⟨ab,u,e,k1,k2⟩:=iY.unsnoc h.frs;obtain⟨rfl,e2⟩:=L5 e rfl;exact(k1.keep N hF λu L k d=>O k (g k (t u L k d).1).1 (t u L k d).2 (g k (t u L k d).1).2).snoc P
 ·obtain⟨x,D⟩:=C k d;exact O k (g k x).1 D (g k x).2
 ·rw[j];refine K9.2 ⟨l,V,λa ha b Q e=>?_⟩
  subst e;rcases(T a Q).2 with x|x
  ·exact(g a ha).2 x
  ·have:=(g a ha).1;omega
 ·intro k d;rw[j] at d;rcases G8.1 d with d|d
  ·exact G3 (g k d).1 K
  ·exact(T k d).1
 ·intro k d;rw[j];rcases hG k d with x|⟨x,D,h3⟩
  ·obtain⟨h4,Z⟩:=m k x;refine⟨G3 h4 K,λs=>?_⟩
   rcases G8.1 s with s|s
   ·exact Z (J6 _ s)
   ·rcases(T k s).2 with h6|h6
    ·exact Z (J9 _ h6)
    ·omega
  ·refine⟨D,λs=>?_⟩
   rcases G8.1 s with s|s
   ·have:=(g k s).1;omega
   ·exact h3 s
structure Kept(own:List Nat)(w w':World):Prop where
 os:w'.os=w.os
 tape:w'.tape=w.tape
 output:w'.output=w.output
 size:w.heap.size<=w'.heap.size
 block:∀k,k<w.heap.size->k∉own->w'.heap[k]?=w.heap[k]?
structure Ext(F G:Nat->Prop)(n:Nat):Prop where
 sub:∀k,F k->G k
 new:∀k,G k->F k\/n<=k
def Ext.refl(F:Nat->Prop)(n:Nat):Ext F F n:=⟨λ_ h=>h,λ_ h=>F7 h⟩
def Ext.trans{H:Nat->Prop}(h:Ext F G n)(k:Ext G H m)(c:n<=m):Ext F H n:=⟨λx b=>k.sub x (h.sub x b),λx b=>by
 rcases k.new x b with a|a
 ·exact h.new x a
 ·exact F5 (G6 c a)⟩
def Ext.le(h:Ext F G n)(b:m<=n):Ext F G m:=⟨h.sub,λx a=>(h.new x a).imp_right (G6 b)⟩
def Done(fp:Nat->Value)(F:Nat->Prop)(b_:Nat)(sb:Nat)(t0 s0:Value)(own:List Nat)(w:World)(m:bO)(w':World):Prop:=
 Kept own w w'/\∃G gf cap tv u_ v_,Ext F G w.heap.size/\dI fp G b_ w' sb gf cap t0 tv u_ s0 v_ m/\∀k∈aI sb gf u_ v_,k∈own\/w.heap.size<=k
def sR{b:Nat}{fb:List FVal}{v:FVal}{x:Value}(h:w.ownsRow b_ 136 6 (.slice (some ⟨d,0,none⟩) (fb.length+1) b) (fb.length+1) (fV (fb++[v])))(A:j<6):
 ∃a,w.heap[d]?=some (.cells a 136 (0,0))/\(∀i,i<6->a[fb.length*6+i]?=v.cells[i]?)/\
  ∀W:World,W.heap[d]?=some (.cells (a.setIfInBounds (fb.length*6+j) x) 136 (0,0))->∀e:FVal,e.cells=v.cells.set j x->W.ownsRow b_ 136 6 (.slice (some ⟨d,0,none⟩) (fb.length+1) b) (fb.length+1) (fV (fb++[e])):=by
 rcases h.2 with ⟨f,_⟩|⟨y,k,a,f,s,o,m,q,l,n⟩
 ·cases f
 cases f;have c:∀u:FVal,fV (fb++[u])=fV fb++u.cells:=λu=>by rw[iS];simp[fV]
 have t:∀u:FVal,u.cells.length=6:=λ_=>rfl
 have r:(fb.length+1)*6<=a.size:=by rw[l];exact Nat.mul_le_mul_right _ m
 refine⟨a,o,λi z=>?_,λW p e g=>?_⟩
 ·have:(fV (fb++[v]))[fb.length*6+i]?=v.cells[i]?:=by
   rw[c,I3 (by rw[dU];omega),dU,L8]
  rw[<-n,I9,if_pos o_] at this
  simpa using this
 ·refine⟨by rw[dU];simp,F5 ⟨d,b,_,rfl,s,p,m,q,by simpa using l,?_⟩⟩
  rw[O5,List.take_set,n,c,c,g,List.set_append_right _ _ (by rw[dU];omega),dU,L8]
def Kept.refl(own:List Nat)(w:World):Kept own w w:=⟨rfl,rfl,rfl,F6 _,λ_ _ _=>rfl⟩
def Kept.trans{d:List Nat}{a b c:World}(h:Kept own a b)(k:Kept d b c)(j:∀x∈d,x∈own\/a.heap.size<=x):Kept own a c:=
 ⟨k.os.trans h.os,k.tape.trans h.tape,k.output.trans h.output,G6 h.size k.size,λx f g=>by
   rw[k.block x (G3 f h.size) (λi=>by rcases j x i with e|e;·exact g e
                                      ·omega),h.block x f g]⟩
def Kept.of_below(h:Below w.heap.size w w'):Kept own w w':=⟨h.os,h.tape,h.output,h.size,λk a _=>h.block k a⟩
def dI.grow{f:Nat}{r o p:Value}{e:List FVal}{m:bO}(h:dI fp F b_ w sb j f r o c p e m)(i:Below w.heap.size w w')(q:∀k,F k->G k)(t:∀k,G k->F k\/(w.heap.size<=k/\k<w'.heap.size)):dI fp G b_ w' sb j f r o c p e m:=by
 have g:∀b,F b->w'.heap[b]?=w.heap[b]?:=λb n=>i.block b (h.apart b n).1
 have d:∀k,k∈aI sb j c e->w'.heap[k]?=w.heap[k]?:=λk a=>i.block k (h.lt k a)
 refine⟨by rw[d sb (by simp[aI])];exact h.blk,bB h.row λk a=>?_,h.frs.keep g q λv x k a=>d k ?_,h.tape.keep g q,bB h.out λk a=>d k (by simp[aI,a]),h.nodup,λk a=>G3 (h.lt k a) i.size,λk a=>?_⟩
 ·cases a;exact d j (by simp[aI])
 ·have:k∈bJ e:=M2.2 ⟨v,x,a⟩;simp[aI,this]
 ·rcases t k a with l|⟨l,s⟩
  ·exact⟨G3 (h.apart k l).1 i.size,(h.apart k l).2⟩
  ·exact⟨s,λu=>by have:=h.lt k u;omega⟩
def dI.pushed{J:Nat}{X T d U:Value}{fb:List FVal}{v:FVal}{p:List aF}{z:List Int}{I:List (List UInt8)}{cur:Array Value}
 (h:dI fp F b_ w sb m J X T d U (fb++[v]) ⟨p++[f],z,I⟩) (K:w.heap[m]?=some (.cells cur 136 (0,0)))
 (O:fO F w xs f.ops) (hu:PV F w u a) (N:aT a<=200)
 (p1:w'.heap[m]?=some (.cells (cur.setIfInBounds (fb.length*6+5) c) 136 (0,0))) (S:w'.ownsRow b_ 180 1 c (f.ops.length+1) (xs++[u])) (Q:∀k,c.ownBlock=some k->v.ov.ownBlock=some k\/w.heap.size<=k) (r:Chg m v.ov.ownBlock w w'):
 dI fp F b_ w' sb m J X T d U (fb++[{ v with ov:=c }]) ⟨p++[f.push a],z,I⟩/\Kept (aI sb m d (fb++[v])) w w':=by
 obtain⟨aa,v0,e,Z,H⟩:=iY.unsnoc h.frs;obtain⟨rfl,e2⟩:=L5 e rfl;cases e2;have A:=h.row;rw[show (fb++[v]).length=fb.length+1 by simp] at A
 obtain⟨L,W,_,c3⟩:=sR (j:=5) (x:=c) A o_
 obtain rfl:L=cur:=by rw[K] at W;cases W;rfl
 have D:∀k∈v.owns,k∈aI sb m d (fb++[v]):=λk g=>by simp[aI,bJ,g]
 have P:m∉v.owns:=λE=>by
  have:=(I5.1 (I5.1 h.nodup).2).1;exact this (by simp[bJ,E])
 have B:v.owns.Nodup:=by
  have l:=h.nodup;have:aI sb m d (fb++[v])=(sb::m::(d.ownBlock.toList++bJ fb))++v.owns:=by simp[aI,bJ]
  rw[this] at l;exact(K9.1 l).2.1
 have q:∀b,F b->w'.heap[b]?=w.heap[b]?:=λb C=>by
  obtain⟨l,s⟩:=h.apart b C;exact r.block b l (λe=>s (by simp[aI,e])) (λe=>s (D b (by simp[FVal.owns,<-e])))
 have t:∀k,k<w.heap.size->k≠m->k∉v.owns->w'.heap[k]?=w.heap[k]?:=λk l s M=>r.block k l s λe=>M (by simp[FVal.owns,<-e])
 have n:∀k,v.vv.ownBlock=some k->k<w.heap.size/\k≠m/\v.ov.ownBlock≠some k:=λk g=>by
  have E:k∈v.owns:=by simp[FVal.owns,g]
  refine⟨h.lt k (D k E),λe=>P (by rw[<-e];exact E),λe=>?_⟩
  unfold FVal.owns at B;rw[g,e] at B;simp at B
 refine⟨h.step (G:=F) r.size t (c3 w' p1 _ rfl) ?_ ?_ ?_ (λ_ h=>h) (λ_ h=>F7 h),?_⟩
 ·refine⟨H.fn.keep q λ_ h=>h,H.nx,H.ln,eS.keep q (λ_ h=>h) H.sp,H.g_.keep q (λ_ h=>h) λk g=>?_,⟨xs++[u],?_,?_⟩,?_⟩
  ·obtain⟨l,s,M⟩:=n k g;exact r.block k l s (λe=>M e.symm)
  ·show w'.ownsRow b_ 180 1 c (f.ops++[a]).length _
   rw[F8];exact S
  ·exact(O.keep q).append ⟨rfl,λi hi=>by
    obtain rfl:i=0:=by simpa using hi
    exact⟨u,rfl,hu.keep q⟩⟩
  ·intro b C;rcases G8.1 C with C|C
   ·exact H.ops.2 b C
   ·rw[G5.1 C];exact N
 ·intro k g;rcases G8.1 g with g|g
  ·have o:v.vv.ownBlock=some k:=by simpa using g
   exact⟨G3 (n k o).1 r.size,F7 (by simp[FVal.owns,o])⟩
  ·have o:c.ownBlock=some k:=by simpa using g
   refine⟨cK S k o,?_⟩;rcases Q k o with l|l
   ·exact F7 (by simp[FVal.owns,l])
   ·exact F5 l
 ·show (v.vv.ownBlock.toList++c.ownBlock.toList).Nodup
  refine K9.2 ⟨by cases v.vv.ownBlock<;>simp,by cases c.ownBlock<;>simp,λx hx y hy e=>?_⟩
  subst e;have l:v.vv.ownBlock=some x:=by simpa using hx
  have s:c.ownBlock=some x:=by simpa using hy
  obtain⟨M,_,h4⟩:=n x l;rcases Q x s with V|V
  ·exact h4 V
  ·omega
 ·exact⟨r.os,r.tape,r.output,r.size,λk g Y=>t k g (λe=>Y (by simp[aI,e])) λE=>Y (D k E)⟩
structure bV(w w':World):Prop where
 os:w'.os=w.os
 tape:w'.tape=w.tape
 output:w'.output=w.output
 heap:w'.heap=w.heap
def bV.refl(w:World):bV w w:=⟨rfl,rfl,rfl,rfl⟩
def bV.drewN(w:World)(n:Nat):bV w (w.drewN n):=⟨rfl,rfl,rfl,rfl⟩
def bV.drew(w:World):bV w w.drew:=⟨rfl,rfl,rfl,rfl⟩
def bV.trans{a b c:World}(h:bV a b)(k:bV b c):bV a c:=⟨k.os.trans h.os,k.tape.trans h.tape,k.output.trans h.output,k.heap.trans h.heap⟩
def bV.below(h:bV w w'):Below w.heap.size w w':=⟨h.os,h.tape,h.output,by rw[h.heap];exact F6 _,λk _=>by rw[h.heap]⟩
def dI.top{q e:Nat}{s i t:Value}{m:List FVal}{c:List aF}{n:List Int}{p:List (List UInt8)}(h:dI fp F b_ w sb q e u s i t m ⟨c++[f],n,p⟩):
 ∃b v a,m=b++[v]/\b.length=c.length/\KZ fp F b_ w v f/\w.heap[sb]?=some (.cells #[u,.slice (some ⟨q,0,none⟩) (b.length+1) e,s,i,t] 72 (0,0))/\w.heap[q]?=some (.cells a 136 (0,0))/\b.length+1<=e/\
  a[b.length*6]?=some v.fp/\a[b.length*6+1]?=some v.nx/\a[b.length*6+2]?=some v.ln/\a[b.length*6+3]?=some v.sp/\a[b.length*6+4]?=some v.vv/\a[b.length*6+5]?=some v.ov:=by
 obtain⟨b,v,rfl,A,y⟩:=iY.unsnoc h.frs;have d:=h.row;have g:=h.blk;rw[show (b++[v]).length=b.length+1 by simp] at d g
 obtain⟨a,B,k,_⟩:=sR (j:=0) (x:=undef) d o_
 have l:b.length+1<=e:=by
  rcases d.2 with ⟨o,_⟩|⟨D,r,a,o,E,C,z,_⟩
  ·cases o
  ·cases o;exact z
 exact⟨b,v,a,rfl,A.length,y,g,B,l,k 0 o_,k 1 o_,k 2 o_,k 3 o_,k 4 o_,k 5 o_⟩
def iJ(h:W.heap=w.heap){a:Addr}(b:w.cell? a=some v):W.cell? a=some v:=by
 have e:W.cell? a=w.cell? a:=World.cell?_of_block (by rw[h])
 rw[e];exact b
def vL(w c:World)(sb j k:Nat)(t:TypeId)(z:Value)(P:World->Prop)(g:w.alloc (.cells #[.iface t z] 242)=c)
 (q:Hid (∀W,bV c W->Calls prog 95 #[.pointer (some ⟨sb,0,none⟩)] W λe w'=>e=.returned (.pointer (some ⟨j,k,none⟩))/\bV c w'))
 (p:Hid (∀W,bV c W->Calls prog 281 #[.pointer (some ⟨j,k,none⟩),.iface t z] W λe w'=>e=.returned (.tuple #[])/\P w')):
 Calls prog 280 #[.agg #[.iface t z],.pointer (some ⟨sb,0,none⟩)] w λe w'=>e=.returned (.tuple #[])/\P w':=by
 have a:(w.alloc (.cells #[.iface t z] 242)).heap[w.heap.size]?=some (.cells #[.iface t z] 242 (0,0)):=aU _ _ rfl _;rw[g] at a;have m:=aB g;have o:c.cell? ⟨w.heap.size,0,none⟩=some (.iface t z):=aA a rfl;have i:=aB o;have f:=aD a;clear g a;go_enter func280,ntmps280;go_wp2_with fail;rw[m.out];go_region_law (go_simp;first|(go_at_call 95;refine(q.out _ (bV.drew _)).mono ?_;rintro e l ⟨rfl,b⟩;have r:=iJ b.heap i.out;have n:w.heap.size<l.heap.size:=by (rw[b.heap];exact f))|(go_at_call 281;refine(p.out _ b).mono ?_;rintro e s ⟨rfl,d⟩))
 all_goals
  go_wp2_with fail;go_end0;exact⟨rfl,d⟩
def MI(fp:Nat->Value)(F:Nat->Prop)(b_:Nat)(w:World)(sb d B:Nat)(L T b N:Value)(D:List FVal)(c:List aF)(f:aF)(j:List Int)(A:List (List UInt8))(u:Value)(a:aH)
 (h:dI fp F b_ w sb d B L T b N D ⟨c++[f],j,A⟩) (Z:PV F w u a) (K:aT a<=200) (Y:f.ops.length<=100000) (V:c.length<=15) (s:b_<=w.heap.size):
 Calls prog 280 #[.agg #[u],.pointer (some ⟨sb,0,none⟩)] w λe w'=>e=.returned (.tuple #[])/\Done fp F b_ sb L N (aI sb d b D) w ⟨c++[f.push a],j,A⟩ w':=by
 obtain⟨t,z,rfl⟩:=Z.form;have g:Below w.heap.size w (w.alloc (.cells #[.iface t z] 242)):=(F9 _ _).alloc (F6 _) _;have aa:(w.alloc (.cells #[.iface t z] 242)).heap[w.heap.size]?=some (.cells #[.iface t z] 242 (0,0)):=aU _ _ rfl _;have Q:=h.grow g (λ_ h=>h) (λ_ h=>F7 h)
 have O:PV F (w.alloc (.cells #[.iface t z] 242)) (.iface t z) a:=Z.keep λk M=>g.block k (h.apart k M).1
 generalize hW:w.alloc (.cells #[.iface t z] 242)=J at*;have HW:=aB hW;obtain⟨i,v,o,rfl,ac,hv,E,n,U,k0,k1,k2,k3,k4,k5⟩:=Q.top;obtain⟨⟨xs,m,H⟩,y⟩:=hv.ops
 have G:v.ov.ownBlock≠some d:=λe=>by
  have:=(I5.1 (I5.1 Q.nodup).2).1;exact this (by simp[bJ,FVal.owns,e])
 have HT:Hid (∀W,bV J W->Calls prog 95 #[.pointer (some ⟨sb,0,none⟩)] W λe w'=>e=.returned (.pointer (some ⟨d,i.length*6,none⟩))/\bV J w'):=λW l=>by
  refine(pZ sb d i.length B W (iJ l.heap (aA E rfl)) o_).mono ?_
  rintro e w' ⟨P,q,rfl⟩;exact⟨P,l.trans (bV.drewN _ _)⟩
 have HP:Hid (∀W,bV J W->Calls prog 281 #[.pointer (some ⟨d,i.length*6,none⟩),.iface t z] W λe w'=>e=.returned (.tuple #[])/\Done fp F b_ sb L N (aI sb d b (i++[v])) w ⟨c++[f.push a],j,A⟩ w'):=λW l=>by
  have I:=l.below;have hR:=Q.grow I (λ_ h=>h) (λ_ h=>F7 h)
  refine(uI b_ d (i.length*6) f.ops.length o v.ov xs t z W (by rw[l.heap];exact n) k5 (bB m λk _=>by rw[l.heap]) G (by rw[l.heap];exact G6 s g.size) o_).mono ?_
  rintro e w' ⟨P,r,p1,p2,S,p4⟩;obtain⟨q1,q2⟩:=hR.pushed (cur:=o) (by rw[l.heap];exact n) (H.keep λk _=>by rw[l.heap]) (O.keep λk _=>by rw[l.heap]) K p1 p2 S p4
  have M:Kept (aI sb d b (i++[v])) w w':=(Kept.of_below (own:=aI sb d b (i++[v])) (g.trans (I.mono g.size))).trans q2 λx hx=>F7 hx
  refine⟨P,M,F,d,B,T,b,_,Ext.refl _ _,q1,λk C=>?_⟩
  have ab:W.heap.size=J.heap.size:=by rw[l.heap]
  have h1:aI sb d b (i++[{ v with ov:=r }])=(sb::d::(b.ownBlock.toList++bJ i))++({ v with ov:=r }:FVal).owns:=by simp[aI,bJ]
  have h2:aI sb d b (i++[v])=(sb::d::(b.ownBlock.toList++bJ i))++v.owns:=by simp[aI,bJ]
  rw[h1] at C;rw[h2];rcases G8.1 C with p|p
  ·exact F7 (J6 _ p)
  ·rcases G8.1 p with p|p
   ·exact F7 (J9 _ (J6 _ p))
   ·have h4:r.ownBlock=some k:=by simpa using p
    rcases S k h4 with X|X
    ·exact F7 (J9 _ (by simp[FVal.owns,X]))
    ·exact F5 (by have:=g.size;omega)
 clear m H y G;exact vL w J sb d (i.length*6) t z _ HW.out HT HP
def fO.split{m:List aH}(h:fO F w xs (l++m)):∃c e,xs=c++e/\c.length=l.length/\e.length=m.length/\fO F w c l/\fO F w e m:=by
 obtain⟨g,f⟩:=h;rw[F8] at g;refine⟨xs.take l.length,xs.drop l.length,(L0 _ _).symm,t_,t_,⟨t_,λi d=>?_⟩,⟨t_,λi d=>?_⟩⟩
 ·obtain⟨u,b,a⟩:=f i t_
  rw[P1 d] at a;exact⟨u,by rw[I9,if_pos d];exact b,a⟩
 ·obtain⟨u,b,a⟩:=f (l.length+i) t_
  rw[O7 o_] at a
  simp only[L8] at a;exact⟨u,by rw[List.getElem?_drop];exact b,a⟩
def fO.unsnoc(h:fO F w xs (l++[a])):∃b u,xs=b++[u]/\b.length=l.length/\fO F w b l/\PV F w u a:=by
 obtain⟨b,j,e,i,f,k,g⟩:=h.split;match j,f with
 |[u],_=>
  obtain⟨m,c,d⟩:=g.2 0 s_
  simp at c d;subst c;exact⟨b,u,e,i,k,d⟩
def dI.setTop{c o:Nat}{C z a B:Value}{fb:List FVal}{v v':FVal}{d:List aF}{D:aF}{i:List Int}{n:List (List UInt8)}{x:Value}
 (h:dI fp F b_ w sb c o C z a B (fb++[v]) ⟨d++[f],i,n⟩) (M:j<6) (r:v'.cells=v.cells.set j x) (t:v'.owns=v.owns) (p:KZ fp F b_ w v' D):
 dI fp F b_ (w.setCell ⟨c,fb.length*6+j,none⟩ x) sb c o C z a B (fb++[v']) ⟨d++[D],i,n⟩/\Kept (aI sb c a (fb++[v])) w (w.setCell ⟨c,fb.length*6+j,none⟩ x):=by
 have l:=h.row;rw[show (fb++[v]).length=fb.length+1 by simp] at l
 obtain⟨J,I,_,K⟩:=sR (j:=j) (x:=x) l M;have s:∀k∈v.owns,k∈aI sb c a (fb++[v]):=λk g=>by simp[aI,bJ,g]
 have u:c∉v.owns:=λm=>by
  have:=(I5.1 (I5.1 h.nodup).2).1;exact this (by simp[bJ,m])
 have q:v.owns.Nodup:=by
  have A:=h.nodup;have:aI sb c a (fb++[v])=(sb::c::(a.ownBlock.toList++bJ fb))++v.owns:=by simp[aI,bJ]
  rw[this] at A;exact(K9.1 A).2.1
 have g:∀k,k≠c->(w.setCell ⟨c,fb.length*6+j,none⟩ x).heap[k]?=w.heap[k]?:=λk g=>G0 _ _ _ _ g
 have y:∀b,F b->(w.setCell ⟨c,fb.length*6+j,none⟩ x).heap[b]?=w.heap[b]?:=λb H=>g b λe=>(h.apart b H).2 (by simp[aI,e])
 refine⟨h.step (G:=F) s_ (λk _ E _=>g k E) (K _ (aO I) _ r) (p.keep y (λ_ h=>h) λk m=>g k λe=>u (by rw[<-t,<-e];exact m)) (λk m=>?_) (by rw[t];exact q) (λ_ h=>h) (λ_ h=>F7 h),⟨rfl,rfl,rfl,s_,λk _ L=>g k λe=>L (by simp[aI,e])⟩⟩
 rw[t] at m;exact⟨G3 (h.lt k (s k m)) s_,F7 m⟩
def Mid(fp:Nat->Value)(b_ sb gf n:Nat)(t0 s0:Value)(own:List Nat)(w0:World)(G:Nat->Prop)(m:bO)(w:World):Prop:=
 Kept own w0 w/\b_<=w.heap.size/\∃cap tv u_ v_,v_.length=n+1/\dI fp G b_ w sb gf cap t0 tv u_ s0 v_ m/\∀k∈aI sb gf u_ v_,k∈own\/w0.heap.size<=k
section
variable {fp:Nat->Value} {b_ sb gf n:Nat} {t0 s0:Value} {own:List Nat} {w0 w w':World} {G G':Nat->Prop} {m:bO} {w_:List aF} {f f':aF} {tape:List Int} {out:List (List UInt8)}
def Mid.init{c:Nat}{d a:Value}{b:List FVal}(h:dI fp G b_ w sb gf c t0 d a s0 b m)(g:b.length=n+1)(f:b_<=w.heap.size)(e:Obj):Mid fp b_ sb gf n t0 s0 (aI sb gf a b) (w.alloc e) G m (w.alloc e):=
 ⟨Kept.refl _ _,G6 f s_,c,d,a,b,g,h.grow ((F9 _ _).alloc (F6 _) _) (λ_ h=>h) (λ_ h=>F7 h),λ_ h=>F7 h⟩
def Mid.same(h:Mid fp b_ sb gf n t0 s0 own w0 G m w)(d:bV w w'):Mid fp b_ sb gf n t0 s0 own w0 G m w':=by
 obtain⟨i,f,b,e,a,c,k,g,j⟩:=h;exact⟨i.trans (Kept.of_below (own:=[]) d.below) (λx l=>by simp at l),by rw[d.heap];exact f,b,e,a,c,k,g.grow d.below (λ_ h=>h) (λ_ h=>F7 h),j⟩
def Mid.grow(h:Mid fp b_ sb gf n t0 s0 own w0 G m w)(d:Below w.heap.size w w')(p:∀k,G k->G' k)(o:∀k,G' k->G k\/(w.heap.size<=k/\k<w'.heap.size)):Mid fp b_ sb gf n t0 s0 own w0 G' m w':=by
 obtain⟨i,f,b,e,a,c,l,g,j⟩:=h;exact⟨i.trans (Kept.of_below (own:=[]) d) (λx q=>by simp at q),G6 f d.size,b,e,a,c,l,g.grow d p o,j⟩
def Mid.old(h:Mid fp b_ sb gf n t0 s0 own w0 G m w){k:Nat}(a:k<w0.heap.size)(b:k∉own):w.heap[k]?=w0.heap[k]?:=h.1.block k a b
def Mid.done{F:Nat->Prop}{d:Obj}(h:Mid fp b_ sb gf n t0 s0 own (w.alloc d) G m w')(l:Ext F G w.heap.size):Done fp F b_ sb t0 s0 own w m w':=by
 obtain⟨i,p,b,e,a,c,q,g,j⟩:=h
 exact⟨(Kept.of_below (own:=own) ((F9 _ w).alloc (F6 _) d)).trans i (λx o=>F7 o),G,gf,b,e,a,c,l,g,λk f=>by
  rcases j k f with h|h
  ·exact F7 h
  ·exact F5 (G6 s_ h)⟩
def Mid.top(h:Mid fp b_ sb gf n t0 s0 own w0 G m w)(o:n<=15):Calls prog 95 #[.pointer (some ⟨sb,0,none⟩)] w λe w'=>e=.returned (.pointer (some ⟨gf,n*6,none⟩))/\bV w w':=by
 obtain⟨k,j,a,i,b,f,g,d,l⟩:=h;have:=d.blk;rw[g] at this;refine(pZ sb gf n a w (aA this rfl) o_).mono ?_
 rintro e w' ⟨c,q,rfl⟩;exact⟨c,bV.drewN _ _⟩
def Mid.cells(h:Mid fp b_ sb gf n t0 s0 own w0 G ⟨w_++[f],tape,out⟩ w):∃v:FVal,KZ fp G b_ w v f/\gf<w.heap.size/\∀j x,v.cells[j]?=some x->w.cell? ⟨gf,n*6+j,none⟩=some x/\w.frozen? ⟨gf,n*6+j,none⟩=false:=by
 obtain⟨E,C,o,D,g,s,t,l,F⟩:=h;obtain⟨u,v,q,rfl,r,z,e,a,c,m,i,y,k,B,p⟩:=l.top;have b:u.length=n:=by simpa using t
 subst b;refine⟨v,z,aD a,λj x d=>?_⟩
 have A:j<6:=(K6.1 d).1;refine⟨aA a ?_,aE a⟩;rw[<-d];match j,A with
 |0,_=>exact m
 |1,_=>exact i
 |2,_=>exact y
 |3,_=>exact k
 |4,_=>exact B
 |5,_=>exact p
def Mid.set(h:Mid fp b_ sb gf n t0 s0 own w0 G ⟨w_++[f],tape,out⟩ w)(j:Nat)(x:Value)(B:j<6)(g:FVal->FVal)(q:∀v,(g v).cells=v.cells.set j x)(m:∀v,KZ fp G b_ w v f->(g v).owns=v.owns)(b:∀v,KZ fp G b_ w v f->KZ fp G b_ w (g v) f'):
 Mid fp b_ sb gf n t0 s0 own w0 G ⟨w_++[f'],tape,out⟩ (w.setCell ⟨gf,n*6+j,none⟩ x):=by
 obtain⟨t,p,c,r,a,z,A,k,l⟩:=h;obtain⟨d,v,u,rfl,y,e,_⟩:=k.top;have i:d.length=n:=by simpa using A
 subst i;obtain⟨s,o⟩:=k.setTop B (q v) (m v e) (b v e);refine⟨t.trans o l,G6 p o.size,c,r,a,_,s_,s,?_⟩
 rw[show aI sb gf a (d++[g v])=aI sb gf a (d++[v]) by simp[aI,bJ,m v e]]
 exact l
def Mid.push(h:Mid fp b_ sb gf n t0 s0 own w0 G ⟨w_++[f],tape,out⟩ w){t:TypeId}{z:Value}{a:aH}(T:PV G w (.iface t z) a)(q:aT a<=200)(D:f.ops.length<=100000):Calls prog 281 #[.pointer (some ⟨gf,n*6,none⟩),.iface t z] w λe w'=>e=.returned (.tuple #[])/\Mid fp b_ sb gf n t0 s0 own w0 G ⟨w_++[f.push a],tape,out⟩ w':=by
 obtain⟨E,C,u,L,b,U,c,o,p⟩:=h;obtain⟨j,v,g,rfl,Q,X,H,d,F,k0,Y,k2,Z,k4,N⟩:=o.top;have A:j.length=n:=by simpa using c
 subst A;obtain⟨⟨S,l,r⟩,x⟩:=X.ops
 have s:v.ov.ownBlock≠some gf:=λe=>by
  have:=(I5.1 (I5.1 o.nodup).2).1;exact this (by simp[bJ,FVal.owns,e])
 refine(uI b_ gf (j.length*6) f.ops.length g v.ov S t z w d N l s C o_).mono ?_
 rintro e w' ⟨W,i,P,K,B,J⟩;obtain⟨M,I⟩:=o.pushed (cur:=g) d r T q P K B J;refine⟨W,E.trans I p,G6 C I.size,u,L,b,_,s_,M,λk m=>?_⟩
 have V:aI sb gf b (j++[{ v with ov:=i }])=(sb::gf::(b.ownBlock.toList++bJ j))++({ v with ov:=i }:FVal).owns:=by simp[aI,bJ]
 have O:aI sb gf b (j++[v])=(sb::gf::(b.ownBlock.toList++bJ j))++v.owns:=by simp[aI,bJ]
 rw[V] at m;rw[O] at p;rcases G8.1 m with c|c
 ·exact p k (J6 _ c)
 ·rcases G8.1 c with c|c
  ·exact p k (J9 _ (J6 _ c))
  ·have o:i.ownBlock=some k:=by simpa using c
   rcases B k o with y|y
   ·exact p k (J9 _ (by simp[FVal.owns,y]))
   ·exact F5 (G6 E.size y)
def Mid.popK(h:Mid fp b_ sb gf n t0 s0 own w0 G ⟨w_++[f],tape,out⟩ w){vs:List aH}{a:aH}(L:f.ops=vs++[a])(m:f.ops.length<=100000):Calls prog 114 #[.pointer (some ⟨gf,n*6,none⟩)] w λe w'=>∃t z,e=.returned (.iface t z)/\PV G w' (.iface t z) a/\aT a<=200/\Mid fp b_ sb gf n t0 s0 own w0 G ⟨w_++[f.pop],tape,out⟩ w'/\∀k,G k->w'.heap[k]?=w.heap[k]?:=by
 obtain⟨V,P,D,S,l,Z,h3,C,J⟩:=h;obtain⟨A,v,E,rfl,Y,o,N,y,K,k0,k1,k2,k3,k4,W⟩:=C.top;have F:A.length=n:=by simpa using h3
 subst F;obtain⟨⟨xs,d,s⟩,c⟩:=o.ops;rw[L] at d s c m;obtain⟨p,u,rfl,X,r,M⟩:=fO.unsnoc s;obtain⟨t,z,rfl⟩:=M.form;rw[F8] at d m;refine(JV b_ gf (A.length*6) vs.length E v.ov p _ w y W d X ⟨t,z,rfl⟩ o_).mono ?_
 rintro e w' ⟨rfl,g,rfl,Q,H⟩;have i:f.pop.ops=vs:=by simp[aF.pop,L]
 have B:KZ fp G b_ w { v with ov:=g } f.pop:=⟨o.fn,o.nx,o.ln,o.sp,o.g_,⟨p,by rw[i];exact Q,by rw[i];exact r⟩,λb I=>c b (J6 _ (by rw[i] at I;exact I))⟩
 obtain⟨U,O⟩:=C.setTop (j:=5) (x:=g) (v':={ v with ov:=g }) o_ rfl (by simp[FVal.owns,H]) B
 have q:∀k,G k->(w.setCell ⟨gf,A.length*6+5,none⟩ g).heap[k]?=w.heap[k]?:=λk T=>G0 _ _ _ _ λe=>(C.apart k T).2 (by simp[aI,e])
 refine⟨t,z,rfl,M.keep q,c a s_,⟨V.trans O J,G6 P O.size,D,S,l,_,s_,U,?_⟩,q⟩
 rw[show aI sb gf l (A++[{ v with ov:=g }])=aI sb gf l (A++[v]) by simp[aI,bJ,FVal.owns,H]]
 exact J
def Mid.pop(h:Mid fp b_ sb gf n t0 s0 own w0 G ⟨w_++[f],tape,out⟩ w){vs:List aH}{a:aH}(c:f.ops=vs++[a])(b:f.ops.length<=100000):Calls prog 114 #[.pointer (some ⟨gf,n*6,none⟩)] w λe w'=>∃t z,e=.returned (.iface t z)/\PV G w' (.iface t z) a/\aT a<=200/\Mid fp b_ sb gf n t0 s0 own w0 G ⟨w_++[f.pop],tape,out⟩ w':=by
 refine(h.popK c b).mono ?_;rintro e w' ⟨t,z,i,d,j,g,_⟩;exact⟨t,z,i,d,j,g⟩
end
def XX(k:Nat)(e:Ending):Prop:=(k=0/\e=.returned (.tuple #[]))\/(k≠0/\e=jQ k)
def PY(h:W.heap=w.heap){k:Nat}(a:k<w.heap.size):k<W.heap.size:=by rw[h];exact a
def CE(w d:World)(sb c g:Nat)(op:List UInt8)(k:Nat)(P S:World->Prop)(s:TypeId->Value->World->Prop)(o:TypeId->Value->TypeId->Value->World->Prop)(q:TypeId->Value->World->Prop)(r:w.alloc (.cells #[.string (bs op)] 350)=d)
 (F:Hid (∀W,bV d W->Calls prog 95 #[.pointer (some ⟨sb,0,none⟩)] W λe w'=>e=.returned (.pointer (some ⟨c,g,none⟩))/\bV d w'))
 (E:Hid (∀W,bV d W->Calls prog 114 #[.pointer (some ⟨c,g,none⟩)] W λe w'=>∃t z,e=.returned (.iface t z)/\s t z w'))
 (n:Hid (∀W t z,s t z W->Calls prog 114 #[.pointer (some ⟨c,g,none⟩)] W λe w'=>∃a b,e=.returned (.iface a b)/\o t z a b w'))
 (u:Hid (∀W t z a b,o t z a b W->W.cell? ⟨w.heap.size,0,none⟩=some (.string (bs op))/\w.heap.size<W.heap.size))
 (D:Hid (∀W t z a b,o t z a b W->Calls prog 306 #[.string (bs op),.iface a b,.iface t z] W λe w'=>(∃l j,e=.returned (.iface l j)/\q l j w')\/(e=jQ k/\S w')))
 (B:Hid (∀W t z,q t z W->Calls prog 281 #[.pointer (some ⟨c,g,none⟩),.iface t z] W λe w'=>e=.returned (.tuple #[])/\P w')):
 Calls prog 305 #[.agg #[.string (bs op)],.pointer (some ⟨sb,0,none⟩)] w λe w'=>(e=.returned (.tuple #[])/\P w')\/(e=jQ k/\S w'):=by
 have C:=aB r;clear r;go_enter func305,ntmps305;go_wp2_with fail;rw[C.out];refine(F.out _ (bV.refl _)).mono ?_;rintro e H ⟨rfl,m⟩;go_wp2_with fail;refine(E.out _ m).mono ?_;rintro e L ⟨t,z,rfl,p⟩;have A:=aB (n.out _ t z p);clear p;go_wp2_with fail;refine A.out.mono ?_;rintro e I ⟨a,b,rfl,i⟩;obtain⟨J,K⟩:=u.out _ _ _ _ _ i;have x:=aB (D.out _ _ _ _ _ i);clear i;go_wp2_with fail;refine x.out.mono ?_;rintro e G (⟨l,j,rfl,f⟩|⟨rfl,f⟩)
 ·have v:=aB (B.out _ _ _ f);clear f;go_wp2_with fail;refine v.out.mono ?_;rintro e M ⟨rfl,y⟩;go_wp2_with fail;go_end0;exact F7 ⟨rfl,y⟩
 ·go_wp2_with fail;exact⟨rfl,F5 ⟨rfl,f⟩⟩
def PG{P:Program}{b:Array Oper}{o:Oper}{a:Act}{K:Act->World->Prop}{Q:Exit->Act->World->Prop}{E:Prop}(c:Value)
 (h:if Region.wanted o (yielded b a.tmps)=true then Oper.wp P o a w K Q else E) (_d:Hid False->K (a.put o.dst c) w):
 if Region.wanted o (yielded b a.tmps)=true then Oper.wp P o a w K Q else E:=h
def LH(w d:World)(sb g o:Nat)(op:List UInt8)(P:World->Prop)(m q:TypeId->Value->World->Prop)(j:w.alloc (.cells #[.string (bs op)] 317)=d)
 (C:Hid (∀W,bV d W->Calls prog 95 #[.pointer (some ⟨sb,0,none⟩)] W λe w'=>e=.returned (.pointer (some ⟨g,o,none⟩))/\bV d w'))
 (B:Hid (∀W,bV d W->Calls prog 114 #[.pointer (some ⟨g,o,none⟩)] W λe w'=>∃t z,e=.returned (.iface t z)/\m t z w'))
 (r:Hid (∀W t z,m t z W->W.cell? ⟨w.heap.size,0,none⟩=some (.string (bs op))/\w.heap.size<W.heap.size))
 (A:Hid (∀W t z,m t z W->Calls prog 294 #[.string (bs op),.iface t z] W λe w'=>∃l k,e=.returned (.iface l k)/\q l k w'))
 (v:Hid (∀W t z,q t z W->Calls prog 281 #[.pointer (some ⟨g,o,none⟩),.iface t z] W λe w'=>e=.returned (.tuple #[])/\P w')):
 Calls prog 293 #[.agg #[.string (bs op)],.pointer (some ⟨sb,0,none⟩)] w λe w'=>e=.returned (.tuple #[])/\P w':=by
 have a:(w.alloc (.cells #[.string (bs op)] 317)).heap[w.heap.size]?=some (.cells #[.string (bs op)] 317 (0,0)):=aU _ _ rfl _;rw[j] at a;have x:=aB j;have n:=aB (aA (i:=0) a rfl);have f:=aD a;clear j a;go_enter func293,ntmps293;go_wp2_with fail;rw[x.out];refine(C.out _ (bV.refl _)).mono ?_;rintro e E ⟨rfl,b⟩;have H:=iJ b.heap n.out;have y:=PY b.heap f;go_wp2_with fail;go_region_law (go_simp;first|(go_at_call 114;refine(B.out _ (b.trans (bV.drew _))).mono ?_;rintro e J ⟨t,z,rfl,p⟩;have c:=r.out _ _ _ p;have F:=c.1;have I:=c.2;clear c)|(go_at_call 294;refine(A.out _ _ _ p).mono ?_;rintro e G ⟨l,k,rfl,u⟩)|(go_at_call 281;refine(v.out _ _ _ u).mono ?_;rintro e D ⟨rfl,s⟩))
 all_goals
  go_wp2_with fail;go_end0;exact⟨rfl,s⟩
def EJ(w g:World)(sb p q:Nat)(op:List UInt8)(k:Nat)(S:World->Prop)(m:TypeId->Value->World->Prop)(l:w.alloc (.cells #[.string (bs op)] 317)=g)
 (A:Hid (∀W,bV g W->Calls prog 95 #[.pointer (some ⟨sb,0,none⟩)] W λe w'=>e=.returned (.pointer (some ⟨p,q,none⟩))/\bV g w'))
 (y:Hid (∀W,bV g W->Calls prog 114 #[.pointer (some ⟨p,q,none⟩)] W λe w'=>∃t z,e=.returned (.iface t z)/\m t z w'))
 (r:Hid (∀W t z,m t z W->W.cell? ⟨w.heap.size,0,none⟩=some (.string (bs op))/\w.heap.size<W.heap.size))
 (x:Hid (∀W t z,m t z W->Calls prog 294 #[.string (bs op),.iface t z] W λe w'=>e=jQ k/\S w')):
 Calls prog 293 #[.agg #[.string (bs op)],.pointer (some ⟨sb,0,none⟩)] w λe w'=>e=jQ k/\S w':=by
 have b:(w.alloc (.cells #[.string (bs op)] 317)).heap[w.heap.size]?=some (.cells #[.string (bs op)] 317 (0,0)):=aU _ _ rfl _;rw[l] at b;have u:=aB l;have n:=aB (aA (i:=0) b rfl);have j:=aD b;clear l b;go_enter func293,ntmps293;go_wp2_with fail;rw[u.out];refine(A.out _ (bV.refl _)).mono ?_;rintro e B ⟨rfl,c⟩;have E:=iJ c.heap n.out;have v:=PY c.heap j;go_wp2_with fail;go_region_law (first|(go_simp;go_at_call 114;refine(y.out _ (c.trans (bV.drew _))).mono ?_;rintro e G ⟨t,z,rfl,o⟩;have d:=r.out _ _ _ o;have C:=d.1;have F:=d.2;clear d)|(refine PG (.iface 230 (.bool true)) ?_ ?_;(focus go_simp;go_at_call 294;refine(x.out _ _ _ o).mono ?_;rintro e D ⟨rfl,s⟩;exact⟨rfl,rfl,s⟩);intro a)|(refine PG (.tuple #[]) a.out.elim ?_;intro f))
 all_goals exact a.out.elim
def nN(n:Int):aT (aL n)=1:=by rw[fK];rfl
def nM(b:Bool):aT (bK b)=1:=by rw[fK];rfl
def nO:aT cJ<=200:=by rw[fK];decide
def SF(op:List UInt8)(a:aH):aT (eE op a).1<=200:=by
 unfold eE;repeat' split
 all_goals first|(show aT (aL _)<=200;rw[nN];omega)|(show aT (bK _)<=200;rw[nM];omega)|exact nO
def NP(op:List UInt8)(x y:Int):aT (gN op x y).1<=200:=by
 unfold gN;repeat' split
 all_goals first|(show aT (aL _)<=200;rw[nN];omega)|(show aT (bK _)<=200;rw[nM];omega)|exact nO
def FL(a b:aH):aT (gM a b).1<=200:=by
 unfold gM;dsimp only;by_cases h:200<aT (if a.sort=3 then bC (a.l++b.l) else bI (a.s++b.s))
 ·rw[if_pos h];exact nO
 ·rw[if_neg h];exact Nat.le_of_not_lt h
def QP(op:List UInt8)(a b:aH):aT (cD op a b).1<=200:=by
 unfold cD;repeat' split
 all_goals first|exact NP _ _ _|exact FL _ _|(show aT (bK _)<=200;rw[nM];omega)|exact nO
def PV.bool(h:PV F w v a)(d:a.sort=1):a=bK (decide (a.n=1)):=by
 rcases h.cases with ⟨n,_,rfl,_⟩|⟨b,_,rfl⟩|⟨s,_,rfl⟩|⟨x,c,l,_,rfl,_⟩
 ·simp[aL] at d
 ·cases b<;>rfl
 ·simp[bI] at d
 ·simp[bC] at d
def xB{vs:List aH}(h:f.ops=vs++[a]):f.last=a:=by simp[aF.last,h]
def FD{vs:List aH}(h:f.ops=vs++[a]):f.pop.ops=vs:=by simp[aF.pop,h]
def D9(fp:Nat->Value)(F:Nat->Prop)(b_ sb:Nat)(t0 s0:Value)(own:List Nat)(w:World)(w_:List aF)(tape:List Int)(out:List (List UInt8))(r:aF × Nat)(e:Ending)(w':World):Prop:=
 XX r.2 e/\Done fp F b_ sb t0 s0 own w ⟨w_++[r.1],tape,out⟩ w'
section
variable {fp:Nat->Value} {F:Nat->Prop} {b_:Nat} {w:World} {sb gf cap:Nat} {t0 tv u_ s0:Value} {v_:List FVal} {w_:List aF} {f:aF} {tape:List Int} {out:List (List UInt8)}
def D9.ok{own:List Nat}{r:aF × Nat}{g:aF}{w':World}(a:r=(g,0))(h:Done fp F b_ sb t0 s0 own w ⟨w_++[g],tape,out⟩ w'):D9 fp F b_ sb t0 s0 own w w_ tape out r (.returned (.tuple #[])) w':=by
 subst a;exact⟨F7 ⟨rfl,rfl⟩,h⟩
def D9.stop{own:List Nat}{r:aF × Nat}{g:aF}{k:Nat}{w':World}(b:r=(g,k))(a:k≠0)(h:Done fp F b_ sb t0 s0 own w ⟨w_++[g],tape,out⟩ w'):D9 fp F b_ sb t0 s0 own w w_ tape out r (jQ k) w':=by
 subst b;exact⟨F5 ⟨a,rfl⟩,h⟩
def dI.count{m:bO}(h:dI fp F b_ w sb gf cap t0 tv u_ s0 v_ m):v_.length=m.f_.length:=h.frs.length
def dI.mid(h:dI fp F b_ w sb gf cap t0 tv u_ s0 v_ ⟨w_++[f],tape,out⟩)(b:b_<=w.heap.size)(a:Obj):Mid fp b_ sb gf w_.length t0 s0 (aI sb gf u_ v_) (w.alloc a) F ⟨w_++[f],tape,out⟩ (w.alloc a):=
 Mid.init h (by rw[h.count];simp) b a
def Mid.topS{own:List Nat}{a:World}{G:Nat->Prop}{n:Nat}{m:bO}(h:Mid fp b_ sb gf n t0 s0 own a G m a)(f:n<=15):Hid (∀W,bV a W->Calls prog 95 #[.pointer (some ⟨sb,0,none⟩)] W λe w'=>e=.returned (.pointer (some ⟨gf,n*6,none⟩))/\bV a w'):=λW b=>by
 refine((h.same b).top f).mono ?_;rintro e w' ⟨c,d⟩;exact⟨c,b.trans d⟩
def Mid.box{n:Nat}{G:Nat->Prop}{m:bO}{a:Array Value}{b:TypeId}{W:World}(h:dI fp F b_ w sb gf cap t0 tv u_ s0 v_ ⟨w_++[f],tape,out⟩)(d:Mid fp b_ sb gf n t0 s0 (aI sb gf u_ v_) (w.alloc (.cells a b)) G m W):W.heap[w.heap.size]?=some (.cells a b (0,0)):=by
 rw[d.old s_ (λc=>Nat.lt_irrefl _ (h.lt _ c))]
 exact aU _ _ rfl _
end
section
variable {fp:Nat->Value} {F:Nat->Prop} {b_:Nat} {w:World} {sb gf cap:Nat} {t0 tv u_ s0:Value} {v_:List FVal} {w_:List aF} {f:aF} {tape:List Int} {out:List (List UInt8)}
def Mid.next{own:List Nat}{c:World}{G:Nat->Prop}{n:Nat}(h:Mid fp b_ sb gf n t0 s0 own c G ⟨w_++[f],tape,out⟩ w)(b:Nat):Mid fp b_ sb gf n t0 s0 own c G ⟨w_++[{ f with next:=b }],tape,out⟩ (w.setCell ⟨gf,n*6+1,none⟩ (.int .i64 b)):=
 h.set 1 (.int .i64 b) o_ (λv=>{ v with nx:=.int .i64 b }) (λ_=>rfl) (λ_ _=>rfl) λ_ a=>⟨a.fn,rfl,a.ln,a.sp,a.g_,a.ops⟩
def Mid.cell{own:List Nat}{e:World}{G:Nat->Prop}{n:Nat}(h:Mid fp b_ sb gf n t0 s0 own e G ⟨w_++[f],tape,out⟩ w)(j:Nat)(a:j<6):(∃u,w.cell? ⟨gf,n*6+j,none⟩=some u)/\w.frozen? ⟨gf,n*6+j,none⟩=false/\gf<w.heap.size:=by
 obtain⟨v,i,b,g⟩:=h.cells;obtain⟨d,c⟩:=g j (v.cells[j]'(by simpa [FVal.cells] using a)) (H7 _)
 exact⟨⟨_,d⟩,c,b⟩
end
section
variable {fp:Nat->Value} {F:Nat->Prop} {b_:Nat} {w:World} {sb gf cap:Nat} {t0 tv u_ s0:Value} {v_:List FVal} {w_:List aF} {f:aF} {tape:List Int} {out:List (List UInt8)}
def Mid.apart{own:List Nat}{d:World}{G:Nat->Prop}{n:Nat}{m:bO}(h:Mid fp b_ sb gf n t0 s0 own d G m w):∀k,G k->k<w.heap.size/\k≠gf:=by
 obtain⟨l,j,f,i,c,g,o,b,p⟩:=h;exact λk a=>⟨(b.apart k a).1,λe=>(b.apart k a).2 (by simp[aI,e])⟩
def nP.cell{G:Nat->Prop}{v:Value}{l:List aH}{k:Nat}(h:nP G b_ w v l)(j:k<l.length):∃g cap t z,v=.slice (some ⟨g,0,none⟩) l.length cap/\w.cell? ⟨g,k,none⟩=some (.iface t z)/\PV G w (.iface t z) l[k]/\aT l[k]<=200:=by
 obtain⟨⟨y,n,s,p⟩,m⟩:=h;obtain⟨u,b,f⟩:=p k j;obtain⟨t,z,rfl⟩:=f.form;rcases n.2 with ⟨x,A⟩|⟨g,c,r,rfl,o,a,e,i,q,d⟩
 ·omega
 refine⟨g,c,t,z,rfl,aA a ?_,f,m _ (H9 _)⟩;rw[<-d,I9] at b;split at b
 ·simpa using b
 ·cases b
end
section
variable {fp:Nat->Value} {F G G':Nat->Prop} {b_:Nat} {w:World} {sb gf cap:Nat} {t0 tv u_ s0:Value} {v_:List FVal} {w_:List aF} {f:aF} {tape:List Int} {out:List (List UInt8)}
def dI.more{m:bO}(h:dI fp G b_ w sb gf cap t0 tv u_ s0 v_ m)(b:∀k,G k->G' k)(d:∀k,G' k->G k\/(k<w.heap.size/\k∉aI sb gf u_ v_)):dI fp G' b_ w sb gf cap t0 tv u_ s0 v_ m:=
 ⟨h.blk,h.row,h.frs.keep (λ_ _=>rfl) b λ_ _ _ _=>rfl,h.tape.keep (λ_ _=>rfl) b,h.out,h.nodup,h.lt,λk c=>by
   rcases d k c with a|a
   ·exact h.apart k a
   ·exact a⟩
end
def dI.declared{K:Nat}{Y U g V:Value}{fb:List FVal}{v:FVal}{q:List aF}{A:List Int}{J:List (List UInt8)}{cur:Array Value}
 (h:dI fp F b_ w sb n K Y U g V (fb++[v]) ⟨q++[f],A,J⟩) (L:w.heap[n]?=some (.cells cur 136 (0,0)))
 (P:fO F w xs (f.g_.take d)) (hd:d<=f.g_.length) (hu:PV F w u a) (O:aT a<=200)
 (p1:w'.heap[n]?=some (.cells (cur.setIfInBounds (fb.length*6+4) c) 136 (0,0))) (T:w'.ownsRow b_ 180 1 c (d+1) (xs++[u])) (S:∀k,c.ownBlock=some k->v.vv.ownBlock=some k\/w.heap.size<=k) (s:Chg n v.vv.ownBlock w w'):
 dI fp F b_ w' sb n K Y U g V (fb++[{ v with vv:=c }]) ⟨q++[{ f with g_:=f.g_.take d++[a] }],A,J⟩/\Kept (aI sb n g (fb++[v])) w w':=by
 obtain⟨ab,v0,e,aa,I⟩:=iY.unsnoc h.frs;obtain⟨rfl,e2⟩:=L5 e rfl;cases e2;have B:=h.row;rw[show (fb++[v]).length=fb.length+1 by simp] at B
 obtain⟨M,X,_,c3⟩:=sR (j:=4) (x:=c) B o_
 obtain rfl:M=cur:=by rw[L] at X;cases X;rfl
 have E:∀k∈v.owns,k∈aI sb n g (fb++[v]):=λk l=>by simp[aI,bJ,l]
 have Q:n∉v.owns:=λH=>by
  have:=(I5.1 (I5.1 h.nodup).2).1;exact this (by simp[bJ,H])
 have D:v.owns.Nodup:=by
  have m:=h.nodup;have:aI sb n g (fb++[v])=(sb::n::(g.ownBlock.toList++bJ fb))++v.owns:=by simp[aI,bJ]
  rw[this] at m;exact(K9.1 m).2.1
 have r:∀b,F b->w'.heap[b]?=w.heap[b]?:=λb C=>by
  obtain⟨m,t⟩:=h.apart b C;exact s.block b m (λe=>t (by simp[aI,e])) (λe=>t (E b (by simp[FVal.owns,<-e])))
 have z:∀k,k<w.heap.size->k≠n->k∉v.owns->w'.heap[k]?=w.heap[k]?:=λk m t N=>s.block k m t λe=>N (by simp[FVal.owns,<-e])
 have o:∀k,v.ov.ownBlock=some k->k<w.heap.size/\k≠n/\v.vv.ownBlock≠some k:=λk l=>by
  have H:k∈v.owns:=by simp[FVal.owns,l]
  refine⟨h.lt k (E k H),λe=>Q (by rw[<-e];exact H),λe=>?_⟩
  unfold FVal.owns at D;rw[l,e] at D;simp at D
 refine⟨h.step (G:=F) s.size z (c3 w' p1 _ rfl) ?_ ?_ ?_ (λ_ h=>h) (λ_ h=>F7 h),?_⟩
 ·refine⟨I.fn.keep r λ_ h=>h,I.nx,I.ln,eS.keep r (λ_ h=>h) I.sp,⟨⟨xs++[u],?_,?_⟩,?_⟩,I.ops.keep r (λ_ h=>h) λk l=>?_⟩
  ·show w'.ownsRow b_ 180 1 c (f.g_.take d++[a]).length _
   rw[F8,M1,Nat.min_eq_left hd];exact T
  ·exact(P.keep r).append ⟨rfl,λi hi=>by
    obtain rfl:i=0:=by simpa using hi
    exact⟨u,rfl,hu.keep r⟩⟩
  ·intro b C;rcases G8.1 C with C|C
   ·exact I.g_.2 b (O2 C)
   ·rw[G5.1 C];exact O
  ·obtain⟨m,t,N⟩:=o k l;exact s.block k m t (λe=>N e.symm)
 ·intro k l;rcases G8.1 l with l|l
  ·have p:c.ownBlock=some k:=by simpa using l
   refine⟨cK T k p,?_⟩;rcases S k p with m|m
   ·exact F7 (by simp[FVal.owns,m])
   ·exact F5 m
  ·have p:v.ov.ownBlock=some k:=by simpa using l
   exact⟨G3 (o k p).1 s.size,F7 (by simp[FVal.owns,p])⟩
 ·show (c.ownBlock.toList++v.ov.ownBlock.toList).Nodup
  refine K9.2 ⟨by cases c.ownBlock<;>simp,by cases v.ov.ownBlock<;>simp,λx hx y hy e=>?_⟩
  subst e;have m:c.ownBlock=some x:=by simpa using hx
  have t:v.ov.ownBlock=some x:=by simpa using hy
  obtain⟨N,_,h4⟩:=o x t;rcases S x m with W|W
  ·exact h4 W
  ·omega
 ·exact⟨s.os,s.tape,s.output,s.size,λk l Z=>z k l (λe=>Z (by simp[aI,e])) λH=>Z (E k H)⟩
section
variable {fp:Nat->Value} {F:Nat->Prop} {b_:Nat} {w:World} {sb gf cap:Nat} {t0 tv u_ s0:Value} {v_:List FVal} {w_:List aF} {f:aF} {tape:List Int} {out:List (List UInt8)}
def dI.popR{fb:List FVal}{v:FVal}{vs:List aH}{a:aH}(h:dI fp F b_ w sb gf cap t0 tv u_ s0 (fb++[v]) ⟨w_++[f],tape,out⟩)(E:f.ops=vs++[a])(l:f.ops.length<=100000):
 Calls prog 114 #[.pointer (some ⟨gf,fb.length*6,none⟩)] w λe w'=>∃t z c,e=.returned (.iface t z)/\PV F w' (.iface t z) a/\aT a<=200/\c.ownBlock=v.ov.ownBlock/\dI fp F b_ w' sb gf cap t0 tv u_ s0 (fb++[{ v with ov:=c }]) ⟨w_++[f.pop],tape,out⟩/\Kept (aI sb gf u_ (fb++[v])) w w'/\∀k,k≠gf->w'.heap[k]?=w.heap[k]?:=by
 obtain⟨M,W,A,e,O,m,H,q,D,T,Q,V,S,X,K⟩:=h.top;obtain⟨rfl,L⟩:=L5 e rfl;cases L;obtain⟨⟨U,g,p⟩,d⟩:=m.ops;rw[E] at g p d l;obtain⟨n,u,rfl,N,o,G⟩:=fO.unsnoc p;obtain⟨t,z,rfl⟩:=G.form;rw[F8] at g l;refine(JV b_ gf (fb.length*6) vs.length A v.ov n _ w q K g N ⟨t,z,rfl⟩ o_).mono ?_
 rintro e w' ⟨rfl,c,rfl,I,B⟩;have i:f.pop.ops=vs:=by simp[aF.pop,E]
 have r:KZ fp F b_ w { v with ov:=c } f.pop:=⟨m.fn,m.nx,m.ln,m.sp,m.g_,⟨n,by rw[i];exact I,by rw[i];exact o⟩,λb C=>d b (J6 _ (by rw[i] at C;exact C))⟩
 obtain⟨J,P⟩:=h.setTop (j:=5) (x:=c) (v':={ v with ov:=c }) o_ rfl (by simp[FVal.owns,B]) r
 have s:∀k,F k->(w.setCell ⟨gf,fb.length*6+5,none⟩ c).heap[k]?=w.heap[k]?:=λk y=>G0 _ _ _ _ λe=>(h.apart k y).2 (by simp[aI,e])
 exact⟨t,z,c,rfl,G.keep s,d a s_,B,J,P,λk y=>G0 _ _ _ _ y⟩
def dI.declaredC{fb:List FVal}{v:FVal}{d:Nat}{xs:List Value}{a:aH}{t:TypeId}{z:Value}{g b:Nat}{l:World}{y:Option Nat}(h:dI fp F b_ w sb gf cap t0 tv u_ s0 (fb++[v]) ⟨w_++[f],tape,out⟩)(M:PV F w (.iface t z) a)(r:aT a<=200)(s:fO F w xs (f.g_.take d))(H:d<=f.g_.length)(j:y=v.vv.ownBlock)
 (I:l.ownsRow b_ 180 1 (.slice (some ⟨g,0,none⟩) (d+1) b) (d+1) (xs++[.iface t z])) (m:(w.alloc (.cells #[.iface t z] 180)).grownBy l y) (n:y=some g\/w.heap.size+1<=g):
 dI fp F b_ (l.setCell ⟨gf,fb.length*6+4,none⟩ (.slice (some ⟨g,0,none⟩) (d+1) b)) sb gf cap t0 tv u_ s0 (fb++[{ v with vv:=.slice (some ⟨g,0,none⟩) (d+1) b }]) ⟨w_++[{ f with g_:=f.g_.take d++[a] }],tape,out⟩/\Kept (aI sb gf u_ (fb++[v])) w (l.setCell ⟨gf,fb.length*6+4,none⟩ (.slice (some ⟨g,0,none⟩) (d+1) b)):=by
 obtain⟨K,X,A,e,L,W,G,c,E,S,P,V,Q,T,U⟩:=h.top;obtain⟨rfl,J⟩:=L5 e rfl;cases J;have B:=aD c
 have p:v.vv.ownBlock≠some gf:=λe=>by
  have:=(I5.1 (I5.1 h.nodup).2).1;exact this (by simp[bJ,FVal.owns,e])
 have C:g≠gf:=by
  rcases n with e|e
  ·intro O;rw[j] at e;exact p (by rw[e,O])
  ·omega
 have D:∀k,k<w.heap.size->some k≠v.vv.ownBlock->l.heap[k]?=w.heap[k]?:=λk x q=>by
  rw[m.block k t_ (by rw[j];exact q),G7 _ _ _ x]
 have o:l.heap[gf]?=some (.cells A 136 (0,0)):=by rw[D gf B (λe=>p e.symm)];exact c
 refine h.declared (a:=a) (u:=.iface t z) (xs:=xs) c s H M r (aO o) (bB I λk i=>G0 _ _ _ _ (by cases i;exact C)) (λk i=>?_) ⟨m.os.trans rfl,m.tape.trans rfl,m.output.trans rfl,G6 s_ (G6 m.size s_),λk x q N=>?_⟩
 ·cases i;rcases n with e|e
  ·exact F7 (by rw[<-j];exact e)
  ·exact F5 (by show w.heap.size<=g;omega)
 ·rw[G0 _ _ _ _ q,D k x N]
def D7(fp:Nat->Value)(F:Nat->Prop)(b_ sb gf cap:Nat)(t0 tv u_ s0:Value)(fb:List FVal)(v:FVal)(w_:List aF)(f:aF)(tape:List Int)(out:List (List UInt8))(w0:World)(a:aH)(t:TypeId)(z:Value)(W:World):Prop:=
 ∃ov',ov'.ownBlock=v.ov.ownBlock/\PV F W (.iface t z) a/\aT a<=200/\dI fp F b_ W sb gf cap t0 tv u_ s0 (fb++[{ v with ov:=ov' }]) ⟨w_++[f.pop],tape,out⟩/\Kept (aI sb gf u_ (fb++[v])) w0 W/\∀k,k≠gf->W.heap[k]?=w0.heap[k]?
def D7.fin{fb:List FVal}{v:FVal}{u W:World}{a:aH}{t:TypeId}{z:Value}{d:Nat}{xs:List Value}{C:Obj}(h:dI fp F b_ w sb gf cap t0 tv u_ s0 (fb++[v]) ⟨w_++[f],tape,out⟩)(y:u=w.alloc C)(M:D7 fp F b_ sb gf cap t0 tv u_ s0 fb v w_ f tape out u a t z W)(G:d<=f.g_.length)(q:fO F u xs (f.g_.take d))(x:f.last=a)
 (g c:Nat) (A:World) (i:Option Nat) (n:i=v.vv.ownBlock) (J:A.ownsRow b_ 180 1 (.slice (some ⟨g,0,none⟩) (d+1) c) (d+1) (xs++[.iface t z])) (L:(W.alloc (.cells #[.iface t z] 180)).grownBy A i) (m:i=some g\/W.heap.size+1<=g):
 Done fp F b_ sb t0 s0 (aI sb gf u_ (fb++[v])) w ⟨w_++[(aP (.declare d) f).1],tape,out⟩ (A.setCell ⟨gf,fb.length*6+4,none⟩ (.slice (some ⟨g,0,none⟩) (d+1) c)):=by
 subst y;obtain⟨j,B,I,S,N,D,T⟩:=M;have s:∀k,F k->k≠gf:=λk r e=>(h.apart k r).2 (by simp[aI,e])
 obtain⟨O,E⟩:=N.declaredC (d:=d) (xs:=xs) I S (q.keep λb K=>T b (s b K)) G n J L m
 have l:aI sb gf u_ (fb++[{ v with ov:=j }])=aI sb gf u_ (fb++[v]):=by simp[aI,bJ,FVal.owns,B]
 rw[l] at E;have P:=((Kept.of_below (own:=aI sb gf u_ (fb++[v])) ((F9 _ w).alloc (F6 _) C)).trans D λ_ h=>F7 h).trans E λ_ h=>F7 h
 refine⟨P,F,gf,cap,tv,u_,fb++[{ v with ov:=j,vv:=.slice (some ⟨g,0,none⟩) (d+1) c }],Ext.refl _ _,?_,λk r=>?_⟩
 ·have e:(aP (.declare d) f).1={ f.pop with g_:=f.pop.g_.take d++[a] }:=by simp[aP,x,aF.pop]
  rw[e];exact O
 ·have U:aI sb gf u_ (fb++[{ v with ov:=j,vv:=.slice (some ⟨g,0,none⟩) (d+1) c }])=(sb::gf::(u_.ownBlock.toList++bJ fb))++(g::v.ov.ownBlock.toList):=by
   have H:(Value.slice (some ⟨g,0,none⟩) (d+1) c).ownBlock=some g:=rfl;simp[aI,bJ,FVal.owns,B,H]
  have Q:aI sb gf u_ (fb++[v])=(sb::gf::(u_.ownBlock.toList++bJ fb))++v.owns:=by simp[aI,bJ]
  have p:k∈(sb::gf::(u_.ownBlock.toList++bJ fb))++(g::v.ov.ownBlock.toList):=by rw[<-U];exact r
  rw[Q];rcases G8.1 p with o|o
  ·exact F7 (J6 _ o)
  ·rcases G9.1 o with rfl|o
   ·rcases m with e|e
    ·exact F7 (J9 _ (by rw[n] at e;simp[FVal.owns,e]))
    ·have:=D.size;exact F5 (by simp at this;omega)
   ·exact F7 (J9 _ (J9 _ o))
end
section
variable {fp:Nat->Value} {F:Nat->Prop} {b_:Nat} {w:World} {sb gf cap:Nat} {t0 tv u_ s0:Value} {v_:List FVal} {w_:List aF} {f:aF} {tape:List Int} {out:List (List UInt8)}
def C0(fp:Nat->Value)(F:Nat->Prop)(b_ sb:Nat)(t0 s0:Value)(own:List Nat)(w:World)(r:bO × Nat)(e:Ending)(w':World):Prop:=
 XX r.2 e/\Done fp F b_ sb t0 s0 own w r.1 w'
end
def JU(w b:World)(sb f k j a:Nat)(P:World->Prop)(Q:TypeId->Value->World->Prop)(g:w.alloc (.cells #[] 244)=b)(i:1<=a)
 (q:Hid (∀W,bV b W->Calls prog 95 #[.pointer (some ⟨sb,0,none⟩)] W λe w'=>e=.returned (.pointer (some ⟨f,k,none⟩))/\bV b w'))
 (p:Hid (∀W,bV b W->Calls prog 114 #[.pointer (some ⟨f,k,none⟩)] W λe w'=>∃t z,e=.returned (.iface t z)/\Q t z w'))
 (l:Hid (∀W t z,Q t z W->W.cell? ⟨sb,1,none⟩=some (.slice (some ⟨j,0,none⟩) 1 a)/\W.frozen? ⟨sb,1,none⟩=false/\sb<W.heap.size))
 (m:Hid (∀W t z,Q t z W->P (W.drew.setCell ⟨sb,1,none⟩ (.slice (some ⟨j,0,none⟩) 0 a)))):
 Calls prog 282 #[.agg #[],.pointer (some ⟨sb,0,none⟩)] w λe w'=>e=.returned (.tuple #[])/\P w':=by
 have o:=aB g;have v:(0:Int)<=(a:Int):=o_
 clear g;go_enter func282,ntmps282;go_wp2_with fail;rw[o.out];refine(q.out _ (bV.refl _)).mono ?_;rintro e r ⟨rfl,d⟩;go_wp2_with fail;refine(p.out _ d).mono ?_;rintro e y ⟨t,z,rfl,c⟩;obtain⟨s,x,u⟩:=l.out _ _ _ c;have n:=aB (m.out _ _ _ c);clear c;go_wp2_with fail;go_region
 all_goals
  go_wp2_with fail;go_end0;exact⟨rfl,n.out⟩
def JS(w b:World)(sb i p m a n g k:Nat)(P:World->Prop)(Q o:TypeId->Value->World->Prop)(j:w.alloc (.cells #[] 244)=b)(l:n+2<=a)(I:n<=1000)
 (A:Hid (∀W,bV b W->Calls prog 95 #[.pointer (some ⟨sb,0,none⟩)] W λe w'=>e=.returned (.pointer (some ⟨i,p,none⟩))/\bV b w'))
 (y:Hid (∀W,bV b W->Calls prog 114 #[.pointer (some ⟨i,p,none⟩)] W λe w'=>∃t z,e=.returned (.iface t z)/\Q t z w'))
 (q:Hid (∀W t z,Q t z W->W.cell? ⟨sb,1,none⟩=some (.slice (some ⟨m,0,none⟩) (n+2) a)/\W.frozen? ⟨sb,1,none⟩=false/\sb<W.heap.size))
 (f:Hid (∀W t z,Q t z W->Calls prog 95 #[.pointer (some ⟨sb,0,none⟩)] (W.drew.setCell ⟨sb,1,none⟩ (.slice (some ⟨m,0,none⟩) (n+1) a)) λe w'=>e=.returned (.pointer (some ⟨g,k,none⟩))/\o t z w'))
 (v:Hid (∀W t z,o t z W->Calls prog 281 #[.pointer (some ⟨g,k,none⟩),.iface t z] W λe w'=>e=.returned (.tuple #[])/\P w')):
 Calls prog 282 #[.agg #[],.pointer (some ⟨sb,0,none⟩)] w λe w'=>e=.returned (.tuple #[])/\P w':=by
 have x:=aB j;have J:(0:Int)<=(n:Int)+1:=o_
 have G:(n:Int)+1<=(a:Int):=o_
 have K:(0:Int)<(n:Int)+1:=o_
 have L:(n:Int)+2-1=(n:Int)+1:=o_
 clear j;go_enter func282,ntmps282;go_wp2_with fail;rw[x.out];refine(A.out _ (bV.refl _)).mono ?_;rintro e C ⟨rfl,d⟩;go_wp2_with fail;refine(y.out _ d).mono ?_;rintro e M ⟨t,z,rfl,c⟩;obtain⟨D,H,F⟩:=q.out _ _ _ c;have u:=aB (f.out _ _ _ c);clear c;go_wp2_with fail;go_region
 all_goals
  go_wp2_with fail;refine u.out.mono ?_;rintro e E ⟨rfl,r⟩;go_wp2_with fail;refine(v.out _ _ _ r).mono ?_;rintro e B ⟨rfl,s⟩;go_wp2_with fail;go_end0;exact⟨rfl,s⟩
section
variable {fp:Nat->Value} {F:Nat->Prop} {b_:Nat} {w:World} {sb gf cap:Nat} {t0 tv u_ s0:Value} {v_:List FVal} {w_:List aF} {f:aF} {tape:List Int} {out:List (List UInt8)}
def dI.dropTop{fb:List FVal}{v:FVal}(h:dI fp F b_ w sb gf cap t0 tv u_ s0 (fb++[v]) ⟨w_++[f],tape,out⟩):
 dI fp F b_ (w.setCell ⟨sb,1,none⟩ (.slice (some ⟨gf,0,none⟩) fb.length cap)) sb gf cap t0 tv u_ s0 fb ⟨w_,tape,out⟩/\Kept (aI sb gf u_ (fb++[v])) w (w.setCell ⟨sb,1,none⟩ (.slice (some ⟨gf,0,none⟩) fb.length cap)):=by
 generalize G:Value.slice (some ⟨gf,0,none⟩) fb.length cap=V;have l:∀k,k≠sb->(w.setCell ⟨sb,1,none⟩ V).heap[k]?=w.heap[k]?:=λk l=>G0 _ _ _ _ l
 have q:=(I5.1 h.nodup).1;have c:bJ (fb++[v])=bJ fb++v.owns:=by simp[bJ]
 have d:∀k,k∈aI sb gf u_ fb->k∈aI sb gf u_ (fb++[v]):=λk j=>by
  unfold aI at j ⊢
  rw[c];simp only[G9,G8] at j ⊢
  rcases j with g|g|g|g
  ·exact F7 g
  ·exact F5 (F7 g)
  ·exact F5 (F5 (F7 g))
  ·exact F5 (F5 (F5 (F7 g)))
 have m:∀b,F b->(w.setCell ⟨sb,1,none⟩ V).heap[b]?=w.heap[b]?:=λb t=>l b λe=>(h.apart b t).2 (by simp[aI,e])
 have i:∀k,k∈gf::(u_.ownBlock.toList++bJ (fb++[v]))->(w.setCell ⟨sb,1,none⟩ V).heap[k]?=w.heap[k]?:=λk j=>l k λe=>q (by rw[<-e];exact j)
 obtain⟨C,L,e,n,K⟩:=iY.unsnoc h.frs;obtain⟨rfl,J⟩:=L5 e rfl;refine⟨⟨?_,?_,n.keep m (λ_ h=>h) λu A k a=>i k ?_,h.tape.keep m λ_ h=>h,bB h.out λk a=>i k (by simp[a]),?_,λk a=>G3 (h.lt k (d k a)) s_,λk a=>⟨G3 (h.apart k a).1 s_,λj=>(h.apart k a).2 (d k j)⟩⟩,⟨rfl,rfl,rfl,s_,λk _ B=>l k λe=>B (by simp[aI,e])⟩⟩
 ·rw[aO h.blk,<-G];rfl
 ·rcases h.row.2 with ⟨o,_⟩|⟨I,H,p,o,D,s,y,z,x,r⟩
  ·cases o
  ·cases o;rw[F8] at y r;refine⟨by rw[dU],F5 ⟨gf,cap,p,rfl,D,?_,o_,z,x,?_⟩⟩
   ·rw[i gf s_];exact s
   ·have:=congrArg (List.take (fb.length*6)) r;rw[List.take_take,show min (fb.length*6) ((fb.length+[v].length)*6)=fb.length*6 by simp,iS] at this
    rw[this,List.take_left' (by rw[dU])]
 ·have:k∈bJ fb:=M2.2 ⟨u,A,a⟩;rw[c];simp[this]
 ·have E:aI sb gf u_ (fb++[v])=aI sb gf u_ fb++v.owns:=by simp[aI,c]
  have:=h.nodup;rw[E] at this;exact(K9.1 this).1
def vN(sb b:Nat)(a:Value)(fb:List FVal)(v:FVal):∀k,k∈aI sb b a fb->k∈aI sb b a (fb++[v]):=λk c=>by
 have d:aI sb b a (fb++[v])=aI sb b a fb++v.owns:=by simp[aI,bJ]
 rw[d];exact J6 _ c
def ZY(fp:Nat->Value)(F:Nat->Prop)(b_ sb gf cap:Nat)(t0 tv u_ s0:Value)(fb:List FVal)(v:FVal)(w_:List aF)(f:aF)(tape:List Int)(out:List (List UInt8))(w0:World)(a:aH)(t:TypeId)(z:Value)(W:World):Prop:=
 PV F W (.iface t z) a/\aT a<=200/\∃v',v'.owns=v.owns/\dI fp F b_ W sb gf cap t0 tv u_ s0 (fb++[v']) ⟨w_++[f.pop],tape,out⟩/\Kept (aI sb gf u_ (fb++[v])) w0 W
def ZY.gone{fb:List FVal}{v:FVal}{c W:World}{a:aH}{t:TypeId}{z:Value}(l:ZY fp F b_ sb gf cap t0 tv u_ s0 fb v w_ f tape out c a t z W):
 PV F (W.drew.setCell ⟨sb,1,none⟩ (.slice (some ⟨gf,0,none⟩) fb.length cap)) (.iface t z) a/\dI fp F b_ (W.drew.setCell ⟨sb,1,none⟩ (.slice (some ⟨gf,0,none⟩) fb.length cap)) sb gf cap t0 tv u_ s0 fb ⟨w_,tape,out⟩/\Kept (aI sb gf u_ (fb++[v])) c (W.drew.setCell ⟨sb,1,none⟩ (.slice (some ⟨gf,0,none⟩) fb.length cap)):=by
 obtain⟨n,r,i,p,b,o⟩:=l;have g:=b.grow (bV.drew W).below (λ_ h=>h) (λ_ h=>F7 h)
 obtain⟨m,d⟩:=g.dropTop;have e:aI sb gf u_ (fb++[i])=aI sb gf u_ (fb++[v]):=by simp[aI,bJ,p]
 rw[e] at d;refine⟨(n.keep (w':=W.drew) λ_ _=>rfl).keep λk j=>G0 _ _ _ _ λe=>(b.apart k j).2 (by simp[aI,e]),m,(o.trans (Kept.of_below (own:=[]) (bV.drew W).below) (λx q=>by simp at q)).trans d λ_ h=>F7 h⟩
def ZB(s:List dN)(h:dI fp F b_ w sb gf cap t0 tv u_ s0 v_ ⟨w_++[f],tape,out⟩)(o:w_.length<=15)(l:b_<=w.heap.size)(I:f.ops.length<=99000)(D:∃J a,f.ops=J++[a])(H:∀g∈w_,g.ops.length<=99000):
 Calls prog 282 #[.agg #[],.pointer (some ⟨sb,0,none⟩)] w (C0 fp F b_ sb t0 s0 (aI sb gf u_ v_) w (bU s .give w_ f tape out)):=by
 obtain⟨J,a,M⟩:=D;have T:=h.mid l (.cells #[] 244);obtain⟨b,v,Y,rfl,r, -, -, -,n, -⟩:=h.top;have q:Below w.heap.size w (w.alloc (.cells #[] 244)):=(F9 _ w).alloc (F6 _) _;have U:=h.grow q (λ_ h=>h) (λ_ h=>F7 h)
 have G:=T.topS o;rw[<-r] at G
 have P:Hid (∀W,bV (w.alloc (.cells #[] 244)) W->Calls prog 114 #[.pointer (some ⟨gf,b.length*6,none⟩)] W λe m=>∃t z,e=.returned (.iface t z)/\ZY fp F b_ sb gf cap t0 tv u_ s0 b v w_ f tape out (w.alloc (.cells #[] 244)) a t z m):=λW O=>by
  refine((U.grow O.below (λ_ h=>h) (λ_ h=>F7 h)).popR M o_).mono ?_
  rintro e m ⟨t,z,aa,B,V,u,h3,x,X,h6⟩;exact⟨t,z,B,V,u,_,by simp[FVal.owns,h3],x,(Kept.of_below (own:=aI sb gf u_ (b++[v])) O.below).trans X λ_ h=>F7 h⟩
 have K:∀W t z,ZY fp F b_ sb gf cap t0 tv u_ s0 b v w_ f tape out (w.alloc (.cells #[] 244)) a t z W->W.cell? ⟨sb,1,none⟩=some (.slice (some ⟨gf,0,none⟩) (b.length+1) cap)/\W.frozen? ⟨sb,1,none⟩=false/\sb<W.heap.size:=λW t z i=>by
  obtain⟨_,_,S,_,x,_⟩:=i;have c:=x.blk;rw[show (b++[S]).length=b.length+1 by simp] at c
  exact⟨aA c rfl,aE c,aD c⟩
 rcases N0 w_ with rfl|⟨j,g,A⟩
 ·obtain rfl:b=[]:=I4 r;refine(JU w _ sb gf 0 gf cap (λm=>Done fp F b_ sb t0 s0 (aI sb gf u_ ([]++[v])) w ⟨[],tape,out⟩ m) _ rfl (by simpa using n) G P K λW t z i=>?_).mono ?_
  ·obtain⟨_,C,y⟩:=i.gone;exact⟨(Kept.of_below q).trans y λ_ h=>F7 h,F,gf,cap,tv,u_,[],Ext.refl _ _,C,λk E=>F7 (vN sb gf u_ [] v k E)⟩
  ·rintro e m ⟨rfl,u⟩;exact⟨F7 ⟨rfl,rfl⟩,u⟩
 ·rw[N1] at A;subst A;have d:b.length=j.length+1:=by simpa using r
  have Q:j.length<=14:=by simp at o;omega
  rw[d] at n;have Z:bU s .give (j++[g]) f tape out=(⟨j++[g.push a],tape,out⟩,0):=by simp[bU,xB M]
  rw[Z];refine(JS w _ sb gf (b.length*6) gf cap j.length gf (j.length*6) (λm=>Done fp F b_ sb t0 s0 (aI sb gf u_ (b++[v])) w ⟨j++[g.push a],tape,out⟩ m) _ (λt z W=>PV F W (.iface t z) a/\aT a<=200/\Mid fp b_ sb gf j.length t0 s0 (aI sb gf u_ (b++[v])) (w.alloc (.cells #[] 244)) F ⟨j++[g],tape,out⟩ W) rfl o_ o_ G P (λW t z i=>?_) (λW t z i=>?_) (λW t z i=>?_)).mono ?_
  ·have:=K W t z i;rw[d] at this;exact this
  ·obtain⟨L,C,y⟩:=i.gone;rw[d] at L C y;have p:Mid fp b_ sb gf j.length t0 s0 (aI sb gf u_ (b++[v])) (w.alloc (.cells #[] 244)) F ⟨j++[g],tape,out⟩ _:=⟨y,G6 l (G6 q.size y.size),cap,tv,u_,b,d,C,λk E=>F7 (vN sb gf u_ b v k E)⟩
   refine(p.top o_).mono ?_
   rintro e m ⟨B,N⟩;exact⟨B,L.keep (λ_ _=>by rw[N.heap]),i.2.1,p.same N⟩
  ·refine(i.2.2.push i.1 i.2.1 (by have:=H g s_;omega)).mono ?_
   rintro e m ⟨B,x⟩;exact⟨B,x.done (Ext.refl _ _)⟩
  ·rintro e m ⟨rfl,u⟩;exact⟨F7 ⟨rfl,rfl⟩,u⟩
end
def C3(w:World)(fa fj d m g n c:Nat)(W:World):Prop:=
 W.cell? ⟨w.heap.size,0,none⟩=some (.int .i64 d)/\W.cell? ⟨w.heap.size,1,none⟩=some (.int .i64 m)/\W.cell? ⟨fa,fj+4,none⟩=some (.slice (some ⟨g,0,none⟩) n c)
def C3.same{f:World}{b e g c:Nat}(h:C3 w b e d m g n c W)(a:bV W f):C3 w b e d m g n c f:=
 ⟨iJ a.heap h.1,iJ a.heap h.2.1,iJ a.heap h.2.2⟩
def D4.ofRow(h:w.ownsRow b_ 180 1 v l.length xs)(n:fO F w xs l):D4 F w v l:=by
 rcases h.2 with ⟨a,d⟩|⟨g,c,m,a,d,b,f,q,p,j⟩
 ·exact F7 ⟨N4.1 d,none,0,by rw[a]⟩
 ·refine F5 ⟨g,0,c,a,f,aD b,λi o=>?_⟩
  obtain⟨u,e,k⟩:=n.2 i o;refine⟨u,aA b ?_,k⟩;rw[<-j,I9,if_pos o_] at e
  simpa using e
section
variable {fp:Nat->Value} {F:Nat->Prop} {b_:Nat} {w:World} {sb gf cap:Nat} {t0 tv u_ s0:Value} {v_:List FVal} {w_:List aF} {f:aF} {tape:List Int} {out:List (List UInt8)}
def YA(fp:Nat->Value)(F:Nat->Prop)(b_ sb gf cap:Nat)(t0 tv u_ s0:Value)(fb:List FVal)(v:FVal)(w_:List aF)(f:aF)(tape:List Int)(out:List (List UInt8))(w0:World)(W:World):Prop:=
 ∃ov',ov'.ownBlock=v.ov.ownBlock/\dI fp F b_ W sb gf cap t0 tv u_ s0 (fb++[{ v with ov:=ov' }]) ⟨w_++[f],tape,out⟩/\Kept (aI sb gf u_ (fb++[v])) w0 W/\∀k,k<w0.heap.size->k≠gf->W.heap[k]?=w0.heap[k]?
def YA.grow{G:Nat->Prop}{fb:List FVal}{v:FVal}{e W c:World}(h:YA fp F b_ sb gf cap t0 tv u_ s0 fb v w_ f tape out e W)(a:Below W.heap.size W c)(m:∀k,F k->G k)(n:∀k,G k->F k\/(W.heap.size<=k/\k<c.heap.size)):YA fp G b_ sb gf cap t0 tv u_ s0 fb v w_ f tape out e c:=by
 obtain⟨b,l,i,g,j⟩:=h;exact⟨b,l,i.grow a m n,g.trans (Kept.of_below (own:=[]) a) (λx o=>by simp at o),λk d p=>by rw[a.block k (G3 d g.size),j k d p]⟩
def YA.done{G:Nat->Prop}{fb:List FVal}{v:FVal}{W:World}{a:Obj}{b:aF}(h:YA fp G b_ sb gf cap t0 tv u_ s0 fb v w_ b tape out (w.alloc a) W)(i:Ext F G w.heap.size):Done fp F b_ sb t0 s0 (aI sb gf u_ (fb++[v])) w ⟨w_++[b],tape,out⟩ W:=by
 obtain⟨g,e,d,f,j⟩:=h;exact⟨(Kept.of_below (own:=aI sb gf u_ (fb++[v])) ((F9 _ w).alloc (F6 _) a)).trans f λ_ h=>F7 h,G,gf,cap,tv,u_,_,i,d,λk c=>F7 (by simpa [aI,bJ,FVal.owns,e] using c)⟩
end
def B7(own:List Nat)(w:World):Prop:=∀W,Kept own w W->mD W
def B7.step{a:List Nat}(h:B7 own w)(b:Kept own w w')(d:∀x∈a,x∈own\/w.heap.size<=x):B7 a w':=λW c=>h W (b.trans c d)
section
variable {fp:Nat->Value} {F:Nat->Prop} {b_:Nat} {w:World} {sb gf cap:Nat} {t0 tv u_ s0:Value} {v_:List FVal} {w_:List aF} {f:aF} {tape:List Int} {out:List (List UInt8)}
end
end Go.Proofs.YthbffcmfmjpncaaGreatDoor
