/- Contracts of the program: what is done with a frame's operands. -/
import Derived.Test.YtddnpoiiimjpcaaGreatDoorP24
set_option linter.defProp false
set_option maxRecDepth 100000
set_option maxHeartbeats 4000000
namespace Go.Proofs.YtddnpoiiimjpcaaGreatDoor
open Hs
open _root_.Go.Proofs.Tryz
open Go.RowKit
structure Chg(gf:Nat)(row:Option Nat)(w w':aH):Prop where
 os:w'.os=w.os
 tape:w'.tape=w.tape
 output:w'.output=w.output
 size:w.heap.size<=w'.heap.size
 block:∀k,k<w.heap.size->k≠gf->some k≠row->w'.heap[k]?=w.heap[k]?
def BK(w:aH)(u:aQ):∀j v,([u]:List Value)[j]?=some v->(w.alloc (.cells #[u] 142)).cell? ((⟨w.heap.size,0,none⟩:Addr).add j)=some v:=by
 intro j v a;match j,a with
 |0,a=>simp at a;subst a;simp[Addr.add,go_sem]
 |j+1,a=>simp at a
def vO(t:TypeId)(z:aQ):∀u∈([.iface t z]:List Value),u.oneCell'=true:=by
 intro u a;simp at a;rw[a];rfl
def vS(base gf o n:Nat)(cur:Array Value)(s:aQ)(xs:List Value)(t:TypeId)(z:aQ)(w:aH)(u:w.heap[gf]?=some (.cells cur 131 (0,0)))(H:cur[o+5]?=some s)(d:w.ownsRow base 142 1 s n xs)(l:s.ownBlock≠some gf)(A:base<=w.heap.size)(V:n<=1000000):
 Calls prog 256 #[.pointer (some (aL gf o)),.iface t z] w fun e w'=>e=bE (.tuple #[])/\∃j,w'.heap[gf]?=some (.cells (cur.setIfInBounds (o+5) j) 131 (0,0))/\w'.ownsRow base 142 1 j (n+1) (xs++[.iface t z])/\(∀k,j.ownBlock=some k->s.ownBlock=some k\/w.heap.size<=k)/\Chg gf s.ownBlock w w':=by
 obtain⟨O,S,v,B,D⟩:=info_parts mR;obtain⟨x,c,rfl⟩:=cY d;have G:=aD u;have U:=aA u H;have P:=aB d;have M:=aB u;have r:=aB l;clear d u l;go_in
 go_wp2_with (at_builtin;refine wpList_append_lies _ (by rfl) _ _ 129 (by rfl) base 142 O _ 1 16 underlying129 S v B D rfl (by decide) (.slice x n c) n xs (by rfl) (P.alloc _) (aL w.heap.size 0) 1 1 [.iface t z] (by rfl) (by rfl) (BK w _) (vO t z) (by decide) (by unfold maxLen;omega) (by omega) (by simp;omega) (w.heap.size+1) (by simp) ?_)
 intro C q J g b f L
 have a:J.heap[gf]?=some (.cells cur 131 (0,0)):=by
  rw[b.block gf (by simp;omega) (fun e=>r.out e.symm),Z3 _ _ _ G];exact M
 have Q:=aA a H;have T:=aE a (i:=o+5);have I:=aD a
 have F:C≠gf:=by
  rcases f with h|h
  ·exact fun e=>r (by rw[<-e];exact h)
  ·omega
 have HOWN:=aB g;have p:=aB b;have y:=aB f;have E:=aB a;clear g b f a;go_wp2
 go_end0;refine⟨rfl,.slice (some (aL C 0)) (n+1) q,aT E,?_,?_,?_⟩
 ·exact bA HOWN fun k m=>Y6 _ _ _ _ (by cases m;exact F)
 ·intro k m;cases m;rcases y with h|h
  ·exact Y4 h
  ·exact Y3 (by show w.heap.size<=C;omega)
 ·refine⟨p.os.trans rfl,p.tape.trans rfl,p.output.trans rfl,Z4 (by simp) (Z4 p.size (by simp)),fun k m N K=>?_⟩
  rw[Y6 _ _ _ _ N,p.out.block k (by simp;omega) K,Z3 _ _ _ m]
def NS(base gf o n:Nat)(cur:Array Value)(q:aQ)(xs:List Value)(u:aQ)(w:aH)(k:w.heap[gf]?=some (.cells cur 131 (0,0)))(v:cur[o+5]?=some q)(d:w.ownsRow base 142 1 q (n+1) (xs++[u]))(r:xs.length=n)(x:∃t z,u=.iface t z)(F:n<=1000000):
 Calls prog 95 #[.pointer (some (aL gf o))] w fun e w'=>e=bE u/\∃h,w'=w.setCell (aL gf (o+5)) h/\w.ownsRow base 142 1 h n xs/\h.ownBlock=q.ownBlock:=by
 obtain⟨t,z,rfl⟩:=x;rcases d.2 with ⟨B,G⟩|⟨g,c,j,rfl,m,a,s,l,p,f⟩
 ·omega
 have A:=aD k;have E:=aA k v;have D:=aE k (i:=o+5);have y:=aD a
 have b:j[n]?=some (.iface t z):=by
  have:(xs++[Value.iface t z])[n]?=some (.iface t z):=by rw[<-r];simp
  rw[<-f,i8,if_pos (by omega)] at this
  simpa using this
 have H:=aA a b
 have HOWN:Hid (w.ownsRow base 142 1 (.slice (some (aL g 0)) n c) n xs):=by
  refine⟨by rw[r];omega,Y3 ⟨g,c,j,rfl,m,a,by omega,l,p,?_⟩⟩
  have:=congrArg (List.take n) f;rw[ag_] at this;rw[show min n ((n+1)*1)=n by omega] at this
  rw[Nat.mul_one,this,<-r];simp
 have I:(0:Int)<=n:=by omega
 have C:(n:Int)<(n:Int)+1:=by omega
 have J:(n:Int)<=c:=by omega
 clear d k v a f b;go_in
 go_wp2
 go_ret;exact⟨rfl,_,rfl,HOWN,rfl⟩
def GV(sb gf n a:Nat)(w:aH)(d:w.cell? (aL sb 1)=some (.slice (some (aL gf 0)) (n+1) a))(f:n<=1000):
 Calls prog 82 #[bO sb] w fun e w'=>e=bE (.pointer (some (aL gf (n*6))))/\∃q,w'=w.drewN q:=by
 have b:(0:Int)<=(n:Int):=by omega
 have c:(n:Int)<(n:Int)+1:=by omega
 go_in
 go_wp2_with fail;go_quiet (fail)
 go_wp2
 go_ret;exact⟨rfl,_,rfl⟩
def XY(gf o h g n b k:Nat)(cur:Array Value)(j u:aQ)(w:aH)(a:w.heap[gf]?=some (.cells cur 131 (0,0)))(d:cur[o]?=some (bO h))(f:cur[o+1]?=some (Iv0 k))
 (c:w.heap[h]?=some (.cells #[j,.slice (some (aL g 0)) n b] 136 (0,0))) (A:w.cell? (aL g k)=some u) (m:∃t z,u=.iface t z) (r:k<n) (B:n<=1000000):
 Calls prog 132 #[.pointer (some (aL gf o))] w fun e w'=>e=bE u/\∃q,w'=(w.drewN q).setCell (aL gf (o+1)) (Iv0 ((k+1:Nat):Int)):=by
 obtain⟨t,z,rfl⟩:=m;have p:=aD a;have l:=aD c;have D:=aA a d;have y:=aA a f;have s:=aE a (i:=o+1);have v:=aA c (i:=1) rfl;have C:(0:Int)<=(k:Int):=by omega
 have x:(k:Int)<(n:Int):=by omega
 clear a c d f;go_in
 go_wp2_with fail;go_quiet (fail)
 go_wp2
 go_ret;exact⟨rfl,_,by congr 2⟩
def uE(base gf o n k:Nat)(cur:Array Value)(I:aQ)(xs r:List Value)(w:aH)(v:w.heap[gf]?=some (.cells cur 131 (0,0)))(G:cur[o+5]?=some I)(d:w.ownsRow base 142 1 I (n+k) (xs++r))(A:xs.length=n)(U:r.length=k)(S:∀u∈r,u.oneCell'=true)(hn:n+k<=1000000):
 Calls prog 262 #[.pointer (some (aL gf o)),Iv0 k] w fun e w'=>∃B t b,e=bE B/\Below w.heap.size w b/\b.ownsRow w.heap.size 142 1 B k r/\w'=b.setCell (aL gf (o+5)) t/\w.ownsRow base 142 1 t n xs/\t.ownBlock=I.ownBlock:=by
 have K:=aD v;have c5:=aA v G;have f5:=aE v (i:=o+5);have e1:(0:Int)<=(n:Int):=by omega
 have Z:(n:Int)<=(n:Int)+(k:Int):=by omega
 rcases d.2 with ⟨rfl,r2⟩|⟨g,c,J,rfl,E,p,L,C,H,s⟩
 ·obtain⟨rfl,rfl⟩:n=0/\k=0:=by omega
  obtain rfl:=i7 A;obtain rfl:=i7 U;have F:=aB (rZ w);clear d v G;go_in
  go_wp2_with fail;refine F.mono ?_;rintro e b ⟨rfl,rfl⟩;go_wp2
  go_ret;exact⟨_,_,_,rfl,Y8 _ _,World.ownsRow_nil _ _ _ _,rfl,World.ownsRow_nil _ _ _ _,rfl⟩
 ·have e3:(n:Int)<=(c:Int):=by omega
  have e4:(n:Int)+(k:Int)<=(c:Int):=by omega
  have X:((n+k:Nat):Int)-(k:Int)=(n:Int):=by omega
  have F:Hid (∀f q,f=n\/k=0->Calls prog 166 #[.slice (some (aL g f)) k q] w fun e w'=>∃y x,e=bE (.slice y k x)/\w'.ownsRow w.heap.size 142 1 (.slice y k x) k r/\Below w.heap.size w w'):=fun f q z=>by
   refine(sA g f k q r w (by omega) (by omega) (fun j u N=>?_) S).mono ?_
   ·have P:j<r.length:=(j4.1 N).1;rcases z with rfl|Y
    ·refine aA p ?_;have M:(xs++r)[f+j]?=some u:=by rw[j1 (by omega),A,s7];exact N
     rw[<-s,i8,if_pos (by omega)] at M
     simpa using M
    ·omega
   ·rintro e b ⟨B,rfl,l,m⟩;obtain⟨y,x,rfl⟩:=cY l;exact⟨y,x,rfl,l,m⟩
  have HOWN:Hid (∀q,q=c->w.ownsRow base 142 1 (.slice (some (aL g 0)) n q) n xs):=by
   rintro q rfl;refine⟨by rw[A];omega,Y3 ⟨g,q,J,rfl,E,p,by omega,C,H,?_⟩⟩
   have:=congrArg (List.take n) s;rw[ag_] at this;rw[show min n ((n+k)*1)=n by omega] at this
   rw[Nat.mul_one,this,<-A];simp
  have Q:Hid (∀b,Below w.heap.size w b->b.heap[gf]?=some (.cells cur 131 (0,0))):=fun b h=>by rw[h.block gf K];exact v
  clear d v p s;go_in
  go_wp2_with fail
  all_goals
   refine(F _ _ (by omega)).mono ?_
   rintro e b ⟨y,x,rfl,l,m⟩;have a:=Q b m;have O:=aD a;have V:=aA a G;have W:=aE a (i:=o+5);have T:=aB l;have D:=aB m;clear l m a;go_wp2
   go_ret;exact⟨_,_,b,rfl,D,T,rfl,HOWN _ (by first|rfl|omega),rfl⟩
def fA(F:cC)(w:aH):Value->cO->Prop
 |v,[]=>v=.pointer none
 |v,x::l=>∃b o,v=bO b/\F b/\w.heap[b]?=some (.cells #[.string (bs x),Iv0 l.length,o] 139 (0,0))/\fA F w o l
def fA.keep{F G:cC}{w w':aH}(a:∀b,F b->w'.heap[b]?=w.heap[b]?)(d:∀b,F b->G b):∀{l:cO} {v:aQ},fA F w v l->fA G w' v l
 |[],_,h=>h
 |_::_,_,⟨b,o,f,c,g,e⟩=>⟨b,o,f,d b c,by rw[a b c];exact g,fA.keep a d e⟩
def fA.form{F:cC}{w:aH}{l:cO}{v:aQ}(h:fA F w v l):∃p,v=.pointer p:=by
 cases l with
 |nil=>exact⟨none,h⟩
 |cons x l=>obtain⟨b,o,a,_⟩:=h;exact⟨_,a⟩
def lC(fp:fN)(F:cC)(w:aH)(v:aQ):aG->Prop
 |.begin l s=>∃sp,v=.iface 260 (.agg #[Iv0 l,sp])/\fA F w sp s
 |.push a=>∃u,v=.iface 256 (.agg #[u])/\PV F w u a/\aK a<=200
 |.load k=>v=.iface 285 (.agg #[Iv0 k])
 |.declare k=>v=.iface 330 (.agg #[Iv0 k])
 |.assign k n=>v=.iface 332 (.agg #[Iv0 k,Iv0 n])
 |.jump t=>v=.iface 345 (.agg #[Iv0 t])
 |.skip t=>v=.iface 344 (.agg #[Iv0 t])
 |.shortcut b t=>v=.iface 316 (.agg #[.bool b,Iv0 t])
 |.truth=>v=.iface 314 (.agg #[])
 |.unary op=>v=.iface 290 (.agg #[.string (bs op)])
 |.binary op=>v=.iface 313 (.agg #[.string (bs op)])
 |.index=>v=.iface 288 (.agg #[])
 |.list n=>v=.iface 287 (.agg #[Iv0 n])
 |.length=>v=.iface 317 (.agg #[])
 |.read=>v=.iface 318 (.agg #[])
 |.call k n=>v=.iface 320 (.agg #[fp k,Iv0 n])
 |.give=>v=.iface 258 (.agg #[])
 |.drop=>v=.iface 336 (.agg #[])
 |.print=>v=.iface 335 (.agg #[])
def lC.keep{e:fN}{F G:cC}{w w':aH}{v:aQ}{i:aG}(h:lC e F w v i)(d:∀b,F b->w'.heap[b]?=w.heap[b]?)(f:∀b,F b->G b):lC e G w' v i:=by
 cases i<;>first
  |exact h
  |(obtain⟨g,c,a⟩:=h;exact⟨g,c,fA.keep d f a⟩)
  |(obtain⟨u,c,a,j⟩:=h;exact⟨u,c,(a.keep d).mono f,j⟩)
def lC.form{b:fN}{F:cC}{w:aH}{v:aQ}{i:aG}(h:lC b F w v i):∃t z,v=.iface t z:=by
 cases i<;>first
  |exact⟨_,_,h⟩
  |(obtain⟨c,a,d⟩:=h;exact⟨_,_,a⟩)
def ZG(fp:fN)(F:cC)(w:aH)(v:aQ)(f:eV):Prop:=
 ∃fb gc cap cur,v=bO fb/\F fb/\w.heap[fb]?=some (.cells #[.string (bs f.name),.slice (some (aL gc 0)) f.code.length cap] 136 (0,0))/\F gc/\w.heap[gc]?=some (.cells cur 238 (0,0))/\
  ∀i (h:i<f.code.length),∃u,cur[i]?=some u/\lC fp F w u f.code[i]
def ZG.keep{j:fN}{F G:cC}{w w':aH}{v:aQ}{f:eV}(h:ZG j F w v f)(a:∀b,F b->w'.heap[b]?=w.heap[b]?)(d:∀b,F b->G b):ZG j G w' v f:=by
 obtain⟨q,o,c,e,l,g,p,k,m,s⟩:=h;refine⟨q,o,c,e,l,d _ g,by rw[a _ g];exact p,d _ k,by rw[a _ k];exact m,fun i r=>?_⟩
 obtain⟨u,t,n⟩:=s i r;exact⟨u,t,n.keep a d⟩
def lA(fp:fN)(F:cC)(w:aH)(tab:List eV):Prop:=∀k f,tab[k]?=some f->ZG fp F w (fp k) f
def lA.keep{c:fN}{F G:cC}{w w':aH}{a:List eV}(h:lA c F w a)(d:∀b,F b->w'.heap[b]?=w.heap[b]?)(g:∀b,F b->G b):lA c G w' a:=fun k f e=>(h k f e).keep d g
structure FVal where
 fp:Value
 nx:Value
 ln:Value
 sp:Value
 vv:Value
 ov:Value
def FVal.cells(f:FVal):List Value:=[f.fp,f.nx,f.ln,f.sp,f.vv,f.ov]
def gG:List FVal->List Value
 |[]=>[]
 |f::l=>f.cells++gG l
def jM(l m:List FVal):gG (l++m)=gG l++gG m:=by
 induction l with
 |nil=>rfl
 |cons f l a=>simp[gG,a]
def eH(l:List FVal):(gG l).length=l.length*6:=by
 induction l with
 |nil=>rfl
 |cons f l a=>simp[gG,FVal.cells,a];omega
def FVal.ownX(sh:Bool)(f:FVal):List Nat:=(cond sh [] f.vv.ownBlock.toList)++f.ov.ownBlock.toList
def kZ(F:cC)(base:Nat)(w:aH)(v:aQ)(l:List aI):Prop:=(∃xs,w.ownsRow base 142 1 v l.length xs/\gF F w xs l)/\∀a∈l,aK a<=200
def kZ.keep{F G:cC}{base:Nat}{w w':aH}{v:aQ}{l:List aI}(h:kZ F base w v l)(a:∀b,F b->w'.heap[b]?=w.heap[b]?)(i:∀b,F b->G b)(c:∀k,v.ownBlock=some k->w'.heap[k]?=w.heap[k]?):kZ G base w' v l:=by
 obtain⟨⟨f,e,d⟩,g⟩:=h;exact⟨⟨f,bA e c,(d.keep a).mono i⟩,g⟩
def ZD(sh:Bool)(F:cC)(base:Nat)(w:aH)(v:aQ)(l:List aI):Prop:=cond sh (PVs F w v l/\∀a∈l,aK a<=200) (kZ F base w v l)
def ZD.keep{a:Bool}{F G:cC}{base:Nat}{w w':aH}{v:aQ}{l:List aI}(h:ZD a F base w v l)(c:∀b,F b->w'.heap[b]?=w.heap[b]?)(d:∀b,F b->G b)(e:a=false->∀k,v.ownBlock=some k->w'.heap[k]?=w.heap[k]?):ZD a G base w' v l:=by
 cases a
 ·exact kZ.keep h c d (e rfl)
 ·exact⟨(PVs.keep h.1 c).mono d,h.2⟩
structure KQ(sh:Bool)(fp:fN)(F:cC)(base:Nat)(w:aH)(v:FVal)(f:aJ):Prop where
 fn:ZG fp F w v.fp f.fn
 nx:v.nx=Iv0 f.next
 ln:v.ln=Iv0 f.line
 sp:fA F w v.sp f.seen
 vars:ZD sh F base w v.vv f.vars
 ops:kZ F base w v.ov f.ops
def KQ.keep{d:Bool}{i:fN}{F G:cC}{base:Nat}{w w':aH}{v:FVal}{f:aJ}(h:KQ d i F base w v f)(a:∀b,F b->w'.heap[b]?=w.heap[b]?)(c:∀b,F b->G b)(g:∀k∈(v.ownX d),w'.heap[k]?=w.heap[k]?):KQ d i G base w' v f:=
 ⟨h.fn.keep a c,h.nx,h.ln,fA.keep a c h.sp,h.vars.keep a c (fun j k e=>g k (by simp[FVal.ownX,j,e])),h.ops.keep a c fun k e=>g k (by simp[FVal.ownX,e])⟩
def iW(sh:Bool)(fp:fN)(F:cC)(base:Nat)(w:aH):List FVal->List aJ->Prop
 |[],[]=>True
 |v::vs,f::fs=>KQ sh fp F base w v f/\iW sh fp F base w vs fs
 |_,_=>False
def iW.keep{a:Bool}{c:fN}{F G:cC}{base:Nat}{w w':aH}(d:∀b,F b->w'.heap[b]?=w.heap[b]?)(e:∀b,F b->G b):∀{vs:List FVal} {fs:List aJ},iW a c F base w vs fs->(∀v∈vs,∀k∈(v.ownX a),w'.heap[k]?=w.heap[k]?)->iW a c G base w' vs fs
 |[],[],_,_=>trivial
 |v::_,_::_,⟨i,g⟩,f=>⟨i.keep d e (f v (j0 ..)),iW.keep d e g fun u j=>f u (b8 _ j)⟩
 |[],_::_,h,_=>h.elim
 |_::_,[],h,_=>h.elim
def iW.length{b:Bool}{a:fN}{F:cC}{base:Nat}{w:aH}:∀{vs:List FVal} {fs:List aJ},iW b a F base w vs fs->vs.length=fs.length
 |[],[],_=>rfl
 |_::_,_::_,⟨_,h⟩=>by simp[iW.length h]
 |[],_::_,h=>h.elim
 |_::_,[],h=>h.elim
def iW.snoc{b:Bool}{a:fN}{F:cC}{base:Nat}{w:aH}{v:FVal}{f:aJ}:∀{vs:List FVal} {fs:List aJ},iW b a F base w vs fs->KQ b a F base w v f->iW b a F base w (vs++[v]) (fs++[f])
 |[],[],_,h=>⟨h,trivial⟩
 |_::_,_::_,⟨d,c⟩,h=>⟨d,iW.snoc c h⟩
 |[],_::_,h,_=>h.elim
 |_::_,[],h,_=>h.elim
def iW.unsnoc{d:Bool}{c:fN}{F:cC}{base:Nat}{w:aH}{f:aJ}:∀{vs:List FVal} {fs:List aJ},iW d c F base w vs (fs++[f])->∃a v,vs=a++[v]/\iW d c F base w a fs/\KQ d c F base w v f
 |[],[],h=>h.elim
 |[v],[],⟨b,i⟩=>⟨[],v,rfl,trivial,b⟩
 |_::_::_,[],⟨_,h⟩=>h.elim
 |v::vs,g::fs,⟨b,i⟩=>by
  obtain⟨a,u,e,k,j⟩:=iW.unsnoc (vs:=vs) (fs:=fs) i;exact⟨v::a,u,by rw[e];rfl,⟨b,k⟩,j⟩
 |[],_::_,h=>h.elim
def bW(sh:Bool)(l:List FVal):List Nat:=l.flatMap (FVal.ownX sh)
def aP(sh:Bool)(sb gf:Nat)(outv:aQ)(fvs:List FVal):List Nat:=sb::gf::(outv.ownBlock.toList++bW sh fvs)
def lS(l:cO):List Value:=l.map fun x=>Value.string (bs x)
def qQ(F:cC)(w:aH)(v:aQ)(l:List Int):Prop:=
 (l=[]/\∃x c,v=.slice x 0 c)\/∃g o c,v=.slice (some (aL g o)) l.length c/\l.length<=c/\F g/\∀i (h:i<l.length),w.cell? (aL g (o+i))=some (Iv0 l[i])/\ -9223372036854775808<=l[i]/\l[i]<=9223372036854775807
def qQ.keep{F G:cC}{w w':aH}{v:aQ}{l:List Int}(h:qQ F w v l)(j:∀b,F b->w'.heap[b]?=w.heap[b]?)(m:∀b,F b->G b):qQ G w' v l:=by
 rcases h with h|⟨g,o,c,k,f,d,a⟩
 ·exact Y4 h
 ·exact Y3 ⟨g,o,c,k,f,m g d,fun i e=>⟨by rw[World.cell?_of_block (j g d)];exact(a i e).1,(a i e).2⟩⟩
structure cW(sh:Bool)(fp:fN)(F:cC)(base:Nat)(w:aH)(sb gf cap:Nat)(t0 tv outv s0:aQ)(fvs:List FVal)(m:cT):Prop where
 blk:w.heap[sb]?=some (.cells #[t0,.slice (some (aL gf 0)) fvs.length cap,tv,outv,s0] 60 (0,0))
 row:w.ownsRow base 131 6 (.slice (some (aL gf 0)) fvs.length cap) fvs.length (gG fvs)
 frs:iW sh fp F base w fvs m.frames
 tape:qQ F w tv m.tape
 out:w.ownsRow base 9 1 outv m.out.length (lS m.out)
 nodup:(aP sh sb gf outv fvs).Nodup
 lt:∀k∈aP sh sb gf outv fvs,k<w.heap.size
 apart:∀k,F k->k<w.heap.size/\k∉aP sh sb gf outv fvs
def cW.step{m:Bool}{S:fN}{F G:cC}{base:Nat}{w w':aH}{sb gf B:Nat}{t0 Z i s0:aQ}{o:List FVal}{v v':FVal}{r:List aJ}{f f':aJ}{A:List Int}{J:cO}
 (h:cW m S F base w sb gf B t0 Z i s0 (o++[v]) ⟨r++[f],A,J⟩) (L:w.heap.size<=w'.heap.size) (P:∀k,k<w.heap.size->k≠gf->k∉(v.ownX m)->w'.heap[k]?=w.heap[k]?)
 (N:w'.ownsRow base 131 6 (.slice (some (aL gf 0)) (o.length+1) B) (o.length+1) (gG (o++[v'])))
 (Q:KQ m S G base w' v' f') (V:∀k∈(v'.ownX m),k<w'.heap.size/\(k∈(v.ownX m)\/w.heap.size<=k)) (X:(v'.ownX m).Nodup)
 (hF:∀k,F k->G k) (hG:∀k,G k->F k\/(w.heap.size<=k/\k<w'.heap.size/\k∉(v'.ownX m))):
 cW m S G base w' sb gf B t0 Z i s0 (o++[v']) ⟨r++[f'],A,J⟩:=by
 have K:(o++[v']).length=(o++[v]).length:=by simp
 have C:(o++[v']).length=o.length+1:=by simp
 have j:∀u:FVal,aP m sb gf i (o++[u])=(sb::gf::(i.ownBlock.toList++bW m o))++(u.ownX m):=fun u=>by simp[aP,bW]
 have q:=h.nodup;have s:=h.lt;have n:=h.apart;rw[j] at q s n;generalize c:(sb::gf::(i.ownBlock.toList++bW m o))=p at q s n j;obtain⟨l,aa,U⟩:=m9.1 q;have g:∀k∈p,k<w.heap.size/\k∉(v.ownX m):=fun k d=>⟨s k (j2 _ d),fun Y=>U k d k Y rfl⟩
 have z:sb∈p:=by rw[<-c];simp
 have H:gf∈p:=by rw[<-c];simp
 have W:sb≠gf:=by
  rw[<-c] at l;have:=(Z9.1 l).1;intro e;exact this (by simp[e])
 have O:∀b,F b->w'.heap[b]?=w.heap[b]?:=fun b T=>by
  obtain⟨y,E⟩:=n b T;exact P b y (fun e=>E (j2 _ (by rw[e];exact H))) fun Y=>E (j9 _ Y)
 have x:∀u∈o,∀k∈(u.ownX m),k∈p/\k≠gf:=fun u M k d=>by
  have I:k∈bW m o:=s9.2 ⟨u,M,d⟩;refine⟨by rw[<-c];simp[I],?_⟩
  rw[<-c] at l;have:=(Z9.1 (Z9.1 l).2).1;intro e;exact this (by rw[<-e];simp[I])
 have D:∀k,i.ownBlock=some k->k∈p/\k≠gf:=fun k d=>by
  refine⟨by rw[<-c];simp[d],?_⟩
  rw[<-c] at l;have:=(Z9.1 (Z9.1 l).2).1;intro e;exact this (by rw[<-e];simp[d])
 refine⟨?_,by rw[C];exact N,?_,h.tape.keep O hF,bA h.out fun k d=>?_,?_,?_,?_⟩
 ·rw[K,P sb (g sb z).1 W (g sb z).2];exact h.blk
 ·obtain⟨ab,u,e,k1,k2⟩:=iW.unsnoc h.frs;obtain⟨rfl,e2⟩:=p7 e rfl;exact(k1.keep O hF fun u M k d=>P k (g k (x u M k d).1).1 (x u M k d).2 (g k (x u M k d).1).2).snoc Q
 ·obtain⟨y,E⟩:=D k d;exact P k (g k y).1 E (g k y).2
 ·rw[j];refine m9.2 ⟨l,X,fun a ha b T e=>?_⟩
  subst e;rcases(V a T).2 with y|y
  ·exact(g a ha).2 y
  ·have:=(g a ha).1;omega
 ·intro k d;rw[j] at d;rcases Z2.1 d with d|d
  ·exact Y7 (g k d).1 L
  ·exact(V k d).1
 ·intro k d;rw[j];rcases hG k d with y|⟨y,E,h3⟩
  ·obtain⟨h4,h5⟩:=n k y;refine⟨Y7 h4 L,fun t=>?_⟩
   rcases Z2.1 t with t|t
   ·exact h5 (j2 _ t)
   ·rcases(V k t).2 with h6|h6
    ·exact h5 (j9 _ h6)
    ·omega
  ·refine⟨E,fun t=>?_⟩
   rcases Z2.1 t with t|t
   ·have:=(g k t).1;omega
   ·exact h3 t
structure Kept(own:List Nat)(w w':aH):Prop where
 os:w'.os=w.os
 tape:w'.tape=w.tape
 output:w'.output=w.output
 size:w.heap.size<=w'.heap.size
 block:∀k,k<w.heap.size->k∉own->w'.heap[k]?=w.heap[k]?
structure Ext(F G:cC)(n:Nat):Prop where
 sub:∀k,F k->G k
 new:∀k,G k->F k\/n<=k
def Ext.refl(F:cC)(n:Nat):Ext F F n:=⟨fun _ h=>h,fun _ h=>Y4 h⟩
def Ext.trans{F G H:cC}{n m:Nat}(h:Ext F G n)(k:Ext G H m)(c:n<=m):Ext F H n:=⟨fun x b=>k.sub x (h.sub x b),fun x b=>by
 rcases k.new x b with a|a
 ·exact h.new x a
 ·exact Y3 (Z4 c a)⟩
def Ext.le{F G:cC}{n m:Nat}(h:Ext F G n)(b:m<=n):Ext F G m:=⟨h.sub,fun x a=>(h.new x a).imp_right (Z4 b)⟩
def iA(sh:Bool)(fp:fN)(F:cC)(base sb gf:Nat)(t0 s0:aQ)(own:List Nat)(w:aH)(m:cT)(w':aH):Prop:=
 Kept own w w'/\∃G cap tv outv fvs,Ext F G w.heap.size/\cW sh fp G base w' sb gf cap t0 tv outv s0 fvs m/\∀k∈aP sh sb gf outv fvs,k∈own\/w.heap.size<=k
def Done(fp:fN)(F:cC)(base:Nat)(sb:Nat)(t0 s0:aQ)(own:List Nat)(w:aH)(m:cT)(w':aH):Prop:=
 Kept own w w'/\∃G gf cap tv outv fvs,Ext F G w.heap.size/\cW false fp G base w' sb gf cap t0 tv outv s0 fvs m/\∀k∈aP false sb gf outv fvs,k∈own\/w.heap.size<=k
def iA.done{a:fN}{F:cC}{base sb gf:Nat}{c b:aQ}{own:List Nat}{w:aH}{m:cT}{w':aH}(h:iA false a F base sb gf c b own w m w'):Done a F base sb c b own w m w':=by
 obtain⟨e,G,d⟩:=h;exact⟨e,G,gf,d⟩
def tY{w:aH}{base gf c j:Nat}{b:List FVal}{v:FVal}{x:aQ}(h:w.ownsRow base 131 6 (.slice (some (aL gf 0)) (b.length+1) c) (b.length+1) (gG (b++[v])))(A:j<6):
 ∃a,w.heap[gf]?=some (.cells a 131 (0,0))/\(∀i,i<6->a[b.length*6+i]?=v.cells[i]?)/\
  ∀W:aH,W.heap[gf]?=some (.cells (a.setIfInBounds (b.length*6+j) x) 131 (0,0))->∀e:FVal,e.cells=v.cells.set j x->W.ownsRow base 131 6 (.slice (some (aL gf 0)) (b.length+1) c) (b.length+1) (gG (b++[e])):=by
 rcases h.2 with ⟨f,_⟩|⟨y,k,a,f,s,o,m,q,l,n⟩
 ·cases f
 cases f;have d:∀u:FVal,gG (b++[u])=gG b++u.cells:=fun u=>by rw[jM];simp[gG]
 have t:∀u:FVal,u.cells.length=6:=fun _=>rfl
 have r:(b.length+1)*6<=a.size:=by rw[l];exact Nat.mul_le_mul_right _ m
 refine⟨a,o,fun i z=>?_,fun W p e g=>?_⟩
 ·have:(gG (b++[v]))[b.length*6+i]?=v.cells[i]?:=by
   rw[d,j1 (by rw[eH];omega),eH,s7]
  rw[<-n,i8,if_pos (by omega)] at this
  simpa using this
 ·refine⟨by rw[eH];simp,Y3 ⟨gf,c,_,rfl,s,p,m,q,by simpa using l,?_⟩⟩
  rw[y7,az_,n,d,d,g,List.set_append_right _ _ (by rw[eH];omega),eH,s7]
def Kept.refl(own:List Nat)(w:aH):Kept own w w:=⟨rfl,rfl,rfl,dH,fun _ _ _=>rfl⟩
def Kept.trans{own d:List Nat}{a b c:aH}(h:Kept own a b)(k:Kept d b c)(j:∀x∈d,x∈own\/a.heap.size<=x):Kept own a c:=
 ⟨k.os.trans h.os,k.tape.trans h.tape,k.output.trans h.output,Z4 h.size k.size,fun x f g=>by
   rw[k.block x (Y7 f h.size) (fun i=>by rcases j x i with e|e;·exact g e
                                         ·omega),h.block x f g]⟩
def Kept.of_below{own:List Nat}{w w':aH}(h:Below w.heap.size w w'):Kept own w w':=⟨h.os,h.tape,h.output,h.size,fun k a _=>h.block k a⟩
def cW.grow{j:Bool}{o:fN}{F G:cC}{base:Nat}{w w':aH}{sb gf f:Nat}{s p c q:aQ}{e:List FVal}{m:cT}(h:cW j o F base w sb gf f s p c q e m)(i:Below w.heap.size w w')(r:∀k,F k->G k)(u:∀k,G k->F k\/(w.heap.size<=k/\k<w'.heap.size)):cW j o G base w' sb gf f s p c q e m:=by
 have g:∀b,F b->w'.heap[b]?=w.heap[b]?:=fun b n=>i.block b (h.apart b n).1
 have d:∀k,k∈aP j sb gf c e->w'.heap[k]?=w.heap[k]?:=fun k a=>i.block k (h.lt k a)
 refine⟨by rw[d sb (by simp[aP])];exact h.blk,bA h.row fun k a=>?_,h.frs.keep g r fun v y k a=>d k ?_,h.tape.keep g r,bA h.out fun k a=>d k (by simp[aP,a]),h.nodup,fun k a=>Y7 (h.lt k a) i.size,fun k a=>?_⟩
 ·cases a;exact d gf (by simp[aP])
 ·have:k∈bW j e:=s9.2 ⟨v,y,a⟩;simp[aP,this]
 ·rcases u k a with l|⟨l,t⟩
  ·exact⟨Y7 (h.apart k l).1 i.size,(h.apart k l).2⟩
  ·exact⟨t,fun x=>by have:=h.lt k x;omega⟩
def cW.pushed{g:Bool}{V:fN}{F:cC}{base:Nat}{w w':aH}{sb gf L:Nat}{t0 W d X:aQ}{s:List FVal}{v:FVal}{p:List aJ}{f:aJ}{B:List Int}{K:cO}{cur:Array Value}{c u:aQ}{a:aI}{xs:List Value}
 (h:cW g V F base w sb gf L t0 W d X (s++[v]) ⟨p++[f],B,K⟩) (M:w.heap[gf]?=some (.cells cur 131 (0,0)))
 (Q:gF F w xs f.ops) (hu:PV F w u a) (P:aK a<=200)
 (p1:w'.heap[gf]?=some (.cells (cur.setIfInBounds (s.length*6+5) c) 131 (0,0))) (U:w'.ownsRow base 142 1 c (f.ops.length+1) (xs++[u])) (T:∀k,c.ownBlock=some k->v.ov.ownBlock=some k\/w.heap.size<=k) (r:Chg gf v.ov.ownBlock w w'):
 cW g V F base w' sb gf L t0 W d X (s++[{ v with ov:=c }]) ⟨p++[f.push a],B,K⟩/\Kept (aP g sb gf d (s++[v])) w w':=by
 obtain⟨ab,v0,e,aa,J⟩:=iW.unsnoc h.frs;obtain⟨rfl,e2⟩:=p7 e rfl;cases e2;have C:=h.row;rw[show (s++[v]).length=s.length+1 by simp] at C
 obtain⟨N,Z,_,c3⟩:=tY (j:=5) (x:=c) C (by omega)
 obtain rfl:N=cur:=by rw[M] at Z;cases Z;rfl
 have H:∀k∈(v.ownX g),k∈aP g sb gf d (s++[v]):=fun k l=>by simp[aP,bW,l]
 have S:gf∉(v.ownX g):=fun I=>by
  have:=(Z9.1 (Z9.1 h.nodup).2).1;exact this (by simp[bW,I])
 have D:(v.ownX g).Nodup:=by
  have m:=h.nodup;have:aP g sb gf d (s++[v])=(sb::gf::(d.ownBlock.toList++bW g s))++(v.ownX g):=by simp[aP,bW]
  rw[this] at m;exact(m9.1 m).2.1
 have q:∀b,F b->w'.heap[b]?=w.heap[b]?:=fun b E=>by
  obtain⟨m,z⟩:=h.apart b E;exact r.block b m (fun e=>z (by simp[aP,e])) (fun e=>z (H b (by simp[FVal.ownX,<-e])))
 have A:∀k,k<w.heap.size->k≠gf->k∉(v.ownX g)->w'.heap[k]?=w.heap[k]?:=fun k m z O=>r.block k m z fun e=>O (by simp[FVal.ownX,<-e])
 have n:∀k,g=false->v.vv.ownBlock=some k->k<w.heap.size/\k≠gf/\v.ov.ownBlock≠some k:=fun k t l=>by
  have I:k∈(v.ownX g):=by simp[FVal.ownX,t,l]
  refine⟨h.lt k (H k I),fun e=>S (by rw[<-e];exact I),fun e=>?_⟩
  unfold FVal.ownX at D;rw[l,e,t] at D;simp at D
 refine⟨h.step (G:=F) r.size A (c3 w' p1 _ rfl) ?_ ?_ ?_ eD (fun _ h=>Y4 h),?_⟩
 ·refine⟨J.fn.keep q eD,J.nx,J.ln,fA.keep q eD J.sp,J.vars.keep q eD fun t k l=>?_,⟨xs++[u],?_,?_⟩,?_⟩
  ·obtain⟨m,z,O⟩:=n k t l;exact r.block k m z (fun e=>O e.symm)
  ·show w'.ownsRow base 142 1 c (f.ops++[a]).length _
   rw[Y5];exact U
  ·exact(Q.keep q).append ⟨rfl,fun i hi=>by
    obtain rfl:i=0:=by simpa using hi
    exact⟨u,rfl,hu.keep q⟩⟩
  ·intro b E;rcases Z2.1 E with E|E
   ·exact J.ops.2 b E
   ·rw[Z1.1 E];exact P
 ·intro k l;rcases Z2.1 l with l|l
  ·obtain⟨t,o⟩:g=false/\v.vv.ownBlock=some k:=by
    cases g
    ·exact⟨rfl,by simpa using l⟩
    ·cases l
   exact⟨Y7 (n k t o).1 r.size,Y4 (by simp[FVal.ownX,t,o])⟩
  ·have o:c.ownBlock=some k:=by simpa using l
   refine⟨cP U k o,?_⟩;rcases T k o with m|m
   ·exact Y4 (by simp[FVal.ownX,m])
   ·exact Y3 m
 ·show ((cond g [] v.vv.ownBlock.toList)++c.ownBlock.toList).Nodup
  refine m9.2 ⟨by cases g<;>cases v.vv.ownBlock<;>simp,by cases c.ownBlock<;>simp,fun x hx y hy e=>?_⟩
  subst e
  obtain⟨t,m⟩:g=false/\v.vv.ownBlock=some x:=by
   cases g
   ·exact⟨rfl,by simpa using hx⟩
   ·cases hx
  have z:c.ownBlock=some x:=by simpa using hy
  obtain⟨O,_,h4⟩:=n x t m;rcases T x z with Y|Y
  ·exact h4 Y
  ·omega
 ·exact⟨r.os,r.tape,r.output,r.size,fun k l hn=>A k l (fun e=>hn (by simp[aP,e])) fun I=>hn (H k I)⟩
structure aY(w w':aH):Prop where
 os:w'.os=w.os
 tape:w'.tape=w.tape
 output:w'.output=w.output
 heap:w'.heap=w.heap
def aY.refl(w:aH):aY w w:=⟨rfl,rfl,rfl,rfl⟩
def aY.drewN(w:aH)(n:Nat):aY w (w.drewN n):=⟨rfl,rfl,rfl,rfl⟩
def aY.drew(w:aH):aY w w.drew:=⟨rfl,rfl,rfl,rfl⟩
def aY.trans{a b c:aH}(h:aY a b)(k:aY b c):aY a c:=⟨k.os.trans h.os,k.tape.trans h.tape,k.output.trans h.output,k.heap.trans h.heap⟩
def aY.below{w w':aH}(h:aY w w'):Below w.heap.size w w':=⟨h.os,h.tape,h.output,by rw[h.heap];exact Z7 _,fun k _=>by rw[h.heap]⟩
def cW.top{s:Bool}{q:fN}{F:cC}{base:Nat}{w:aH}{sb gf e:Nat}{y t i u:aQ}{m:List FVal}{c:List aJ}{f:aJ}{n:List Int}{p:cO}(h:cW s q F base w sb gf e y t i u m ⟨c++[f],n,p⟩):
 ∃b v a,m=b++[v]/\b.length=c.length/\KQ s q F base w v f/\w.heap[sb]?=some (.cells #[y,.slice (some (aL gf 0)) (b.length+1) e,t,i,u] 60 (0,0))/\w.heap[gf]?=some (.cells a 131 (0,0))/\b.length+1<=e/\
  a[b.length*6]?=some v.fp/\a[b.length*6+1]?=some v.nx/\a[b.length*6+2]?=some v.ln/\a[b.length*6+3]?=some v.sp/\a[b.length*6+4]?=some v.vv/\a[b.length*6+5]?=some v.ov:=by
 obtain⟨b,v,rfl,B,z⟩:=iW.unsnoc h.frs;have d:=h.row;have g:=h.blk;rw[show (b++[v]).length=b.length+1 by simp] at d g
 obtain⟨a,C,k,_⟩:=tY (j:=0) (x:=undef) d (by omega)
 have l:b.length+1<=e:=by
  rcases d.2 with ⟨o,_⟩|⟨E,r,a,o,G,D,A,_⟩
  ·cases o
  ·cases o;exact A
 exact⟨b,v,a,rfl,B.length,z,g,C,l,k 0 (by omega),k 1 (by omega),k 2 (by omega),k 3 (by omega),k 4 (by omega),k 5 (by omega)⟩
def cZ{w W:aH}(h:W.heap=w.heap){a:Addr}{v:aQ}(b:w.cell? a=some v):W.cell? a=some v:=by
 have e:W.cell? a=w.cell? a:=World.cell?_of_block (by rw[h])
 rw[e];exact b
def LZ(w c:aH)(sb i j:Nat)(t:TypeId)(z:aQ)(P:World->Prop)(g:w.alloc (.cells #[.iface t z] 256)=c)
 (p:Hid (∀W,aY c W->Calls prog 82 #[bO sb] W fun e w'=>e=bE (.pointer (some (aL i j)))/\aY c w'))
 (o:Hid (∀W,aY c W->Calls prog 256 #[.pointer (some (aL i j)),.iface t z] W fun e w'=>e=bE (.tuple #[])/\P w')):
 Calls prog 255 #[.agg #[.iface t z],bO sb] w fun e w'=>e=bE (.tuple #[])/\P w':=by
 have a:(w.alloc (.cells #[.iface t z] 256)).heap[w.heap.size]?=some (.cells #[.iface t z] 256 (0,0)):=aU _ _ rfl _;rw[g] at a;have l:=aB g;have n:c.cell? (aL w.heap.size 0)=some (.iface t z):=aA a rfl;have h:=aB n;have f:=aD a;clear g a;go_in
 go_wp2_with fail;rw[l.out];go_region_law (go_simp;first|(go_at_call 82;refine(p _ (aY.drew _)).mono ?_;rintro e k ⟨rfl,b⟩;have q:=cZ b.heap h;have m:w.heap.size<k.heap.size:=by (rw[b.heap];exact f))|(go_at_call 256;refine(o _ b).mono ?_;rintro e r ⟨rfl,d⟩))
 all_goals
  go_wp2
  go_end0;exact⟨rfl,d⟩
def QU{d:Bool}(M:fN)(F:cC)(base:Nat)(w:aH)(sb gf B:Nat)(L U b O:aQ)(D:List FVal)(c:List aJ)(f:aJ)(j:List Int)(A:cO)(u:aQ)(a:aI)
 (h:cW d M F base w sb gf B L U b O D ⟨c++[f],j,A⟩) (hu:PV F w u a) (K:aK a<=200) (Z:f.ops.length<=100000) (X:c.length<=15) (s:base<=w.heap.size):
 Calls prog 255 #[.agg #[u],bO sb] w fun e w'=>e=bE (.tuple #[])/\iA d M F base sb gf L O (aP d sb gf b D) w ⟨c++[f.push a],j,A⟩ w':=by
 obtain⟨t,z,rfl⟩:=hu.form;have g:Below w.heap.size w (w.alloc (.cells #[.iface t z] 256)):=(Y8 _ _).alloc dH _;have aa:(w.alloc (.cells #[.iface t z] 256)).heap[w.heap.size]?=some (.cells #[.iface t z] 256 (0,0)):=aU _ _ rfl _;have S:=h.grow g eD (fun _ h=>Y4 h)
 have P:PV F (w.alloc (.cells #[.iface t z] 256)) (.iface t z) a:=hu.keep fun k N=>g.block k (h.apart k N).1
 generalize hW:w.alloc (.cells #[.iface t z] 256)=J at*;have HW:=aB hW;obtain⟨i,v,o,rfl,ac,hv,E,n,V,k0,k1,k2,k3,k4,k5⟩:=S.top;obtain⟨⟨xs,m,H⟩,y⟩:=hv.ops
 have G:v.ov.ownBlock≠some gf:=fun e=>by
  have:=(Z9.1 (Z9.1 S.nodup).2).1;exact this (by simp[bW,FVal.ownX,e])
 have HT:Hid (∀W,aY J W->Calls prog 82 #[bO sb] W fun e w'=>e=bE (.pointer (some (aL gf (i.length*6))))/\aY J w'):=fun W l=>by
  refine(GV sb gf i.length B W (cZ l.heap (aA E rfl)) (by omega)).mono ?_
  rintro e w' ⟨Q,q,rfl⟩;exact⟨Q,l.trans (aY.drewN _ _)⟩
 have HP:Hid (∀W,aY J W->Calls prog 256 #[.pointer (some (aL gf (i.length*6))),.iface t z] W fun e w'=>e=bE (.tuple #[])/\iA d M F base sb gf L O (aP d sb gf b (i++[v])) w ⟨c++[f.push a],j,A⟩ w'):=fun W l=>by
  have I:=l.below;have hR:=S.grow I eD (fun _ h=>Y4 h)
  refine(vS base gf (i.length*6) f.ops.length o v.ov xs t z W (by rw[l.heap];exact n) k5 (bA m fun k _=>by rw[l.heap]) G (by rw[l.heap];exact Z4 s g.size) (by omega)).mono ?_
  rintro e w' ⟨Q,r,p1,p2,T,p4⟩;obtain⟨q1,q2⟩:=hR.pushed (cur:=o) (by rw[l.heap];exact n) (H.keep fun k _=>by rw[l.heap]) (P.keep fun k _=>by rw[l.heap]) K p1 p2 T p4
  have N:Kept (aP d sb gf b (i++[v])) w w':=(Kept.of_below (own:=aP d sb gf b (i++[v])) (g.trans (I.mono g.size))).trans q2 fun x hx=>Y4 hx
  refine⟨Q,N,F,B,U,b,_,Ext.refl _ _,q1,fun k C=>?_⟩
  have ab:W.heap.size=J.heap.size:=by rw[l.heap]
  have h1:aP d sb gf b (i++[{ v with ov:=r }])=(sb::gf::(b.ownBlock.toList++bW d i))++({ v with ov:=r }:FVal).ownX d:=by simp[aP,bW]
  have h2:aP d sb gf b (i++[v])=(sb::gf::(b.ownBlock.toList++bW d i))++(v.ownX d):=by simp[aP,bW]
  rw[h1] at C;rw[h2];rcases Z2.1 C with p|p
  ·exact Y4 (j2 _ p)
  ·rcases Z2.1 p with p|p
   ·exact Y4 (j9 _ (j2 _ p))
   ·have h4:r.ownBlock=some k:=by simpa using p
    rcases T k h4 with Y|Y
    ·exact Y4 (j9 _ (by simp[FVal.ownX,Y]))
    ·exact Y3 (by have:=g.size;omega)
 clear m H y G;exact LZ w J sb gf (i.length*6) t z _ HW HT HP
def gF.split{F:cC}{w:aH}{xs:List Value}{l m:List aI}(h:gF F w xs (l++m)):∃c e,xs=c++e/\c.length=l.length/\e.length=m.length/\gF F w c l/\gF F w e m:=by
 obtain⟨g,f⟩:=h;rw[Y5] at g;refine⟨xs.take l.length,xs.drop l.length,(l8 _ _).symm,by simp;omega,by simp;omega,⟨by simp;omega,fun i d=>?_⟩,⟨by simp;omega,fun i d=>?_⟩⟩
 ·obtain⟨u,b,a⟩:=f i (by simp;omega)
  rw[aw_ d] at a;exact⟨u,by rw[i8,if_pos d];exact b,a⟩
 ·obtain⟨u,b,a⟩:=f (l.length+i) (by simp;omega)
  rw[as_ (by omega)] at a
  simp only[s7] at a;exact⟨u,by rw[ak_];exact b,a⟩
def gF.unsnoc{F:cC}{w:aH}{xs:List Value}{l:List aI}{a:aI}(h:gF F w xs (l++[a])):∃b u,xs=b++[u]/\b.length=l.length/\gF F w b l/\PV F w u a:=by
 obtain⟨b,j,e,i,f,k,g⟩:=h.split;match j,f with
 |[u],_=>
  obtain⟨m,c,d⟩:=g.2 0 (by simp)
  simp at c d;subst c;exact⟨b,u,e,i,k,d⟩
def cW.setTop{c:Bool}{r:fN}{F:cC}{base:Nat}{w:aH}{sb gf p:Nat}{E B a D:aQ}{d:List FVal}{v v':FVal}{g:List aJ}{f H:aJ}{l:List Int}{o:cO}{j:Nat}{x:aQ}
 (h:cW c r F base w sb gf p E B a D (d++[v]) ⟨g++[f],l,o⟩) (O:j<6) (t:v'.cells=v.cells.set j x) (y:(v'.ownX c)=(v.ownX c)) (q:KQ c r F base w v' H):
 cW c r F base (w.setCell (aL gf (d.length*6+j)) x) sb gf p E B a D (d++[v']) ⟨g++[H],l,o⟩/\Kept (aP c sb gf a (d++[v])) w (w.setCell (aL gf (d.length*6+j)) x):=by
 have m:=h.row;rw[show (d++[v]).length=d.length+1 by simp] at m
 obtain⟨L,K,_,M⟩:=tY (j:=j) (x:=x) m O;have u:∀k∈(v.ownX c),k∈aP c sb gf a (d++[v]):=fun k i=>by simp[aP,bW,i]
 have z:gf∉(v.ownX c):=fun n=>by
  have:=(Z9.1 (Z9.1 h.nodup).2).1;exact this (by simp[bW,n])
 have s:(v.ownX c).Nodup:=by
  have C:=h.nodup;have:aP c sb gf a (d++[v])=(sb::gf::(a.ownBlock.toList++bW c d))++(v.ownX c):=by simp[aP,bW]
  rw[this] at C;exact(m9.1 C).2.1
 have i:∀k,k≠gf->(w.setCell (aL gf (d.length*6+j)) x).heap[k]?=w.heap[k]?:=fun k i=>Y6 _ _ _ _ i
 have A:∀b,F b->(w.setCell (aL gf (d.length*6+j)) x).heap[b]?=w.heap[b]?:=fun b J=>i b fun e=>(h.apart b J).2 (by simp[aP,e])
 refine⟨h.step (G:=F) (by simp) (fun k _ I _=>i k I) (M _ (aT K) _ t) (q.keep A eD fun k n=>i k fun e=>z (by rw[<-y,<-e];exact n)) (fun k n=>?_) (by rw[y];exact s) eD (fun _ h=>Y4 h),⟨rfl,rfl,rfl,by simp,fun k _ N=>i k fun e=>N (by simp[aP,e])⟩⟩
 rw[y] at n;exact⟨Y7 (h.lt k (u k n)) (by simp),Y4 n⟩
def dT(sh:Bool)(fp:fN)(base sb gf n:Nat)(t0 s0:aQ)(own:List Nat)(w0:aH)(G:cC)(m:cT)(w:aH):Prop:=
 Kept own w0 w/\base<=w.heap.size/\∃cap tv outv fvs,fvs.length=n+1/\cW sh fp G base w sb gf cap t0 tv outv s0 fvs m/\∀k∈aP sh sb gf outv fvs,k∈own\/w0.heap.size<=k
section
variable {sh:Bool} {fp:fN} {base sb gf n:Nat} {t0 s0:aQ} {own:List Nat} {w0 w w':aH} {G G':cC} {m:cT} {below:List aJ} {f f':aJ} {tape:List Int} {out:cO}
def dT.init{c:Nat}{d a:aQ}{b:List FVal}(h:cW sh fp G base w sb gf c t0 d a s0 b m)(g:b.length=n+1)(f:base<=w.heap.size)(e:Obj):dT sh fp base sb gf n t0 s0 (aP sh sb gf a b) (w.alloc e) G m (w.alloc e):=
 ⟨Kept.refl _ _,Z4 f (by simp),c,d,a,b,g,h.grow ((Y8 _ _).alloc dH _) eD (fun _ h=>Y4 h),fun _ h=>Y4 h⟩
def dT.same(h:dT sh fp base sb gf n t0 s0 own w0 G m w)(d:aY w w'):dT sh fp base sb gf n t0 s0 own w0 G m w':=by
 obtain⟨i,f,b,e,a,c,k,g,j⟩:=h;exact⟨i.trans (Kept.of_below (own:=[]) d.below) (fun x l=>by simp at l),by rw[d.heap];exact f,b,e,a,c,k,g.grow d.below eD (fun _ h=>Y4 h),j⟩
def dT.grow(h:dT sh fp base sb gf n t0 s0 own w0 G m w)(d:Below w.heap.size w w')(p:∀k,G k->G' k)(o:∀k,G' k->G k\/(w.heap.size<=k/\k<w'.heap.size)):dT sh fp base sb gf n t0 s0 own w0 G' m w':=by
 obtain⟨i,f,b,e,a,c,l,g,j⟩:=h;exact⟨i.trans (Kept.of_below (own:=[]) d) (fun x q=>by simp at q),Z4 f d.size,b,e,a,c,l,g.grow d p o,j⟩
def dT.old(h:dT sh fp base sb gf n t0 s0 own w0 G m w){k:Nat}(a:k<w0.heap.size)(b:k∉own):w.heap[k]?=w0.heap[k]?:=h.1.block k a b
def dT.doneX{F:cC}{d:Obj}(h:dT sh fp base sb gf n t0 s0 own (w.alloc d) G m w')(l:Ext F G w.heap.size):iA sh fp F base sb gf t0 s0 own w m w':=by
 obtain⟨i,p,b,e,a,c,q,g,j⟩:=h
 exact⟨(Kept.of_below (own:=own) ((Y8 _ w).alloc dH d)).trans i (fun x o=>Y4 o),G,b,e,a,c,l,g,fun k f=>by
  rcases j k f with h|h
  ·exact Y4 h
  ·exact Y3 (Z4 (by simp) h)⟩
def dT.done{F:cC}{a:Obj}(h:dT false fp base sb gf n t0 s0 own (w.alloc a) G m w')(b:Ext F G w.heap.size):Done fp F base sb t0 s0 own w m w':=(h.doneX b).done
def dT.top(h:dT sh fp base sb gf n t0 s0 own w0 G m w)(o:n<=15):Calls prog 82 #[bO sb] w fun e w'=>e=bE (.pointer (some (aL gf (n*6))))/\aY w w':=by
 obtain⟨k,j,a,i,b,f,g,d,l⟩:=h;have:=d.blk;rw[g] at this;refine(GV sb gf n a w (aA this rfl) (by omega)).mono ?_
 rintro e w' ⟨c,q,rfl⟩;exact⟨c,aY.drewN _ _⟩
def dT.cells(h:dT sh fp base sb gf n t0 s0 own w0 G ⟨below++[f],tape,out⟩ w):∃v:FVal,KQ sh fp G base w v f/\gf<w.heap.size/\∀j x,v.cells[j]?=some x->w.cell? (aL gf (n*6+j))=some x/\w.frozen? (aL gf (n*6+j))=false:=by
 obtain⟨E,C,o,D,g,s,t,l,F⟩:=h;obtain⟨u,v,q,rfl,r,z,e,a,c,m,i,y,k,B,p⟩:=l.top;have b:u.length=n:=by simpa using t
 subst b;refine⟨v,z,aD a,fun j x d=>?_⟩
 have A:j<6:=(j4.1 d).1;refine⟨aA a ?_,aE a⟩;rw[<-d];match j,A with
 |0,_=>exact m
 |1,_=>exact i
 |2,_=>exact y
 |3,_=>exact k
 |4,_=>exact B
 |5,_=>exact p
def dT.set(h:dT sh fp base sb gf n t0 s0 own w0 G ⟨below++[f],tape,out⟩ w)(j:Nat)(x:aQ)(B:j<6)(g:FVal->FVal)(q:∀v,(g v).cells=v.cells.set j x)(m:∀v,KQ sh fp G base w v f->(g v).ownX sh=(v.ownX sh))(b:∀v,KQ sh fp G base w v f->KQ sh fp G base w (g v) f'):
 dT sh fp base sb gf n t0 s0 own w0 G ⟨below++[f'],tape,out⟩ (w.setCell (aL gf (n*6+j)) x):=by
 obtain⟨t,p,c,r,a,z,A,k,l⟩:=h;obtain⟨d,v,u,rfl,y,e,_⟩:=k.top;have i:d.length=n:=by simpa using A
 subst i;obtain⟨s,o⟩:=k.setTop B (q v) (m v e) (b v e);refine⟨t.trans o l,Z4 p o.size,c,r,a,_,by simp,s,?_⟩
 rw[show aP sh sb gf a (d++[g v])=aP sh sb gf a (d++[v]) by simp[aP,bW,m v e]]
 exact l
def dT.push(h:dT sh fp base sb gf n t0 s0 own w0 G ⟨below++[f],tape,out⟩ w){t:TypeId}{z:aQ}{a:aI}(T:PV G w (.iface t z) a)(q:aK a<=200)(D:f.ops.length<=100000):Calls prog 256 #[.pointer (some (aL gf (n*6))),.iface t z] w fun e w'=>e=bE (.tuple #[])/\dT sh fp base sb gf n t0 s0 own w0 G ⟨below++[f.push a],tape,out⟩ w':=by
 obtain⟨E,C,u,L,b,U,c,o,p⟩:=h;obtain⟨j,v,g,rfl,Q,X,H,d,F,k0,Y,k2,Z,k4,N⟩:=o.top;have A:j.length=n:=by simpa using c
 subst A;obtain⟨⟨S,l,r⟩,x⟩:=X.ops
 have s:v.ov.ownBlock≠some gf:=fun e=>by
  have:=(Z9.1 (Z9.1 o.nodup).2).1;exact this (by simp[bW,FVal.ownX,e])
 refine(vS base gf (j.length*6) f.ops.length g v.ov S t z w d N l s C (by omega)).mono ?_
 rintro e w' ⟨W,i,P,K,B,J⟩;obtain⟨M,I⟩:=o.pushed (cur:=g) d r T q P K B J;refine⟨W,E.trans I p,Z4 C I.size,u,L,b,_,by simp,M,fun k m=>?_⟩
 have V:aP sh sb gf b (j++[{ v with ov:=i }])=(sb::gf::(b.ownBlock.toList++bW sh j))++({ v with ov:=i }:FVal).ownX sh:=by simp[aP,bW]
 have O:aP sh sb gf b (j++[v])=(sb::gf::(b.ownBlock.toList++bW sh j))++(v.ownX sh):=by simp[aP,bW]
 rw[V] at m;rw[O] at p;rcases Z2.1 m with c|c
 ·exact p k (j2 _ c)
 ·rcases Z2.1 c with c|c
  ·exact p k (j9 _ (j2 _ c))
  ·have o:i.ownBlock=some k:=by simpa using c
   rcases B k o with y|y
   ·exact p k (j9 _ (by simp[FVal.ownX,y]))
   ·exact Y3 (Z4 E.size y)
def dT.popK(h:dT sh fp base sb gf n t0 s0 own w0 G ⟨below++[f],tape,out⟩ w){vs:List aI}{a:aI}(L:f.ops=vs++[a])(m:f.ops.length<=100000):Calls prog 95 #[.pointer (some (aL gf (n*6)))] w fun e w'=>∃t z,e=bE (.iface t z)/\PV G w' (.iface t z) a/\aK a<=200/\dT sh fp base sb gf n t0 s0 own w0 G ⟨below++[f.pop],tape,out⟩ w'/\∀k,G k->w'.heap[k]?=w.heap[k]?:=by
 obtain⟨V,P,D,S,l,Z,h3,C,J⟩:=h;obtain⟨A,v,E,rfl,Y,o,N,y,K,k0,k1,k2,k3,k4,W⟩:=C.top;have F:A.length=n:=by simpa using h3
 subst F;obtain⟨⟨xs,d,s⟩,c⟩:=o.ops;rw[L] at d s c m;obtain⟨p,u,rfl,X,r,M⟩:=gF.unsnoc s;obtain⟨t,z,rfl⟩:=M.form;rw[Y5] at d m;refine(NS base gf (A.length*6) vs.length E v.ov p _ w y W d X ⟨t,z,rfl⟩ (by omega)).mono ?_
 rintro e w' ⟨rfl,g,rfl,Q,H⟩;have i:f.pop.ops=vs:=by simp[aJ.pop,L]
 have B:KQ sh fp G base w { v with ov:=g } f.pop:=⟨o.fn,o.nx,o.ln,o.sp,o.vars,⟨p,by rw[i];exact Q,by rw[i];exact r⟩,fun b I=>c b (j2 _ (by rw[i] at I;exact I))⟩
 obtain⟨U,O⟩:=C.setTop (j:=5) (x:=g) (v':={ v with ov:=g }) (by omega) rfl (by simp[FVal.ownX,H]) B
 have q:∀k,G k->(w.setCell (aL gf (A.length*6+5)) g).heap[k]?=w.heap[k]?:=fun k T=>Y6 _ _ _ _ fun e=>(C.apart k T).2 (by simp[aP,e])
 refine⟨t,z,rfl,M.keep q,c a (by simp),⟨V.trans O J,Z4 P O.size,D,S,l,_,by simp,U,?_⟩,q⟩
 rw[show aP sh sb gf l (A++[{ v with ov:=g }])=aP sh sb gf l (A++[v]) by simp[aP,bW,FVal.ownX,H]]
 exact J
def dT.pop(h:dT sh fp base sb gf n t0 s0 own w0 G ⟨below++[f],tape,out⟩ w){vs:List aI}{a:aI}(c:f.ops=vs++[a])(b:f.ops.length<=100000):Calls prog 95 #[.pointer (some (aL gf (n*6)))] w fun e w'=>∃t z,e=bE (.iface t z)/\PV G w' (.iface t z) a/\aK a<=200/\dT sh fp base sb gf n t0 s0 own w0 G ⟨below++[f.pop],tape,out⟩ w':=by
 refine(h.popK c b).mono ?_;rintro e w' ⟨t,z,i,d,j,g,_⟩;exact⟨t,z,i,d,j,g⟩
end
def R3(k:Nat)(e:Ending):Prop:=(k=0/\e=bE (.tuple #[]))\/(k≠0/\e=fP k)
def kA{w W:aH}(h:W.heap=w.heap){k:Nat}(a:k<w.heap.size):k<W.heap.size:=by rw[h];exact a
def qI{w W:aH}(h:W.heap=w.heap){a:Addr}(b:w.frozen? a=false):W.frozen? a=false:=by
 have e:W.frozen? a=w.frozen? a:=by unfold World.frozen?;rw[h]
 rw[e];exact b
def OG(w a:aH)(sb c f:Nat)(P:World->Prop)(d:w.alloc (.cells #[] 336)=a)
 (j:Hid (∀W,aY a W->Calls prog 82 #[bO sb] W fun e w'=>e=bE (.pointer (some (aL c f)))/\aY a w'))
 (i:Hid (∀W,aY a W->Calls prog 95 #[.pointer (some (aL c f))] W fun e w'=>∃t z,e=bE (.iface t z)/\P w')):
 Calls prog 295 #[.agg #[],bO sb] w fun e w'=>e=bE (.tuple #[])/\P w':=by
 have h:=aB d;clear d;go_in
 go_wp2_with fail;rw[h.out];refine(j _ (aY.refl _)).mono ?_;rintro e k ⟨rfl,b⟩;go_wp2_with fail;refine(i _ b).mono ?_;rintro e l ⟨t,z,rfl,g⟩;go_wp2
 go_end0;exact⟨rfl,g⟩
def GU(w c:aH)(sb d h:Nat)(P S:World->Prop)(k:TypeId->Value->World->Prop)(l:Bool->World->Prop)(j:w.alloc (.cells #[] 314)=c)
 (q:Hid (∀W,aY c W->Calls prog 82 #[bO sb] W fun e w'=>e=bE (.pointer (some (aL d h)))/\aY c w'))
 (p:Hid (∀W,aY c W->Calls prog 95 #[.pointer (some (aL d h))] W fun e w'=>∃t z,e=bE (.iface t z)/\k t z w'))
 (o:Hid (∀W t z,k t z W->Calls prog 270 #[.iface t z] W fun e w'=>(∃b,e=bE (.bool b)/\l b w')\/(e=fP 2/\S w')))
 (m:Hid (∀W b,l b W->Calls prog 256 #[.pointer (some (aL d h)),.iface 196 (.bool b)] W fun e w'=>e=bE (.tuple #[])/\P w')):
 Calls prog 281 #[.agg #[],bO sb] w fun e w'=>(e=bE (.tuple #[])/\P w')\/(e=fP 2/\S w'):=by
 have n:=aB j;clear j;go_in
 go_wp2_with fail;rw[n.out];refine(q _ (aY.refl _)).mono ?_;rintro e s ⟨rfl,g⟩;go_wp2_with fail;refine(p _ g).mono ?_;rintro e v ⟨t,z,rfl,i⟩;have a:=aB (o _ t z i);clear i;go_wp2_with fail;refine a.mono ?_;rintro e u (⟨b,rfl,a⟩|⟨rfl,a⟩)
 ·have f:=aB (m _ b a);clear a;go_wp2_with fail;refine f.mono ?_;rintro e r ⟨rfl,f⟩;go_wp2
  go_end0;exact Y4 ⟨rfl,f⟩
 ·go_wp2_with fail;exact⟨rfl,Y3 ⟨rfl,a⟩⟩
def DA(w g:aH)(sb c d f:Nat)(P S:World->Prop)(m:TypeId->Value->World->Prop)(h:Bool->World->Prop)(l:w.alloc (.cells #[Iv0 f] 344)=g)
 (v:Hid (∀W,aY g W->Calls prog 82 #[bO sb] W fun e w'=>e=bE (.pointer (some (aL c d)))/\aY g w'))
 (s:Hid (∀W,aY g W->Calls prog 95 #[.pointer (some (aL c d))] W fun e w'=>∃t z,e=bE (.iface t z)/\m t z w'))
 (r:Hid (∀W t z,m t z W->Calls prog 270 #[.iface t z] W fun e w'=>(∃b,e=bE (.bool b)/\h b w')\/(e=fP 2/\S w')))
 (n:Hid (∀W,h true W->P W)) (p:Hid (∀W,h false W->P (W.setCell (aL c (d+1)) (Iv0 f))))
 (o:Hid (∀W b,h b W->W.cell? (aL w.heap.size 0)=some (Iv0 f)/\w.heap.size<W.heap.size/\(∃u,W.cell? (aL c (d+1))=some u)/\W.frozen? (aL c (d+1))=false/\c<W.heap.size)):
 Calls prog 296 #[.agg #[Iv0 f],bO sb] w fun e w'=>(e=bE (.tuple #[])/\P w')\/(e=fP 2/\S w'):=by
 have q:=aB l;clear l;go_in
 go_wp2_with fail;rw[q.out];refine(v _ (aY.refl _)).mono ?_;rintro e x ⟨rfl,j⟩;go_wp2_with fail;refine(s _ j).mono ?_;rintro e E ⟨t,z,rfl,k⟩;have a:=aB (r _ t z k);clear k;go_wp2_with fail;refine a.mono ?_;rintro e y (⟨b,rfl,a⟩|⟨rfl,a⟩)
 ·obtain⟨A,B,⟨u,C⟩,F,D⟩:=o _ b a;cases b with
  |false=>
   have i:=aB (p _ a);clear a;go_wp2
   go_end0;exact Y4 ⟨rfl,i⟩
  |true=>
   have i:=aB (n _ a);clear a;go_wp2
   go_end0;exact Y4 ⟨rfl,i⟩
 ·go_wp2_with fail;exact⟨rfl,Y3 ⟨rfl,a⟩⟩
def NF(w c:aH)(sb f g d:Nat)(P:World->Prop)(j:w.alloc (.cells #[Iv0 d] 345)=c)
 (v:Hid (∀W,aY c W->Calls prog 82 #[bO sb] W fun e w'=>e=bE (.pointer (some (aL f g)))/\aY c w'))
 (h:∃u,c.cell? (aL f (g+1))=some u) (l:c.frozen? (aL f (g+1))=false) (q:f<c.heap.size)
 (r:Hid (∀W,aY c W->P (W.setCell (aL f (g+1)) (Iv0 d)))):
 Calls prog 297 #[.agg #[Iv0 d],bO sb] w fun e w'=>e=bE (.tuple #[])/\P w':=by
 have a:(w.alloc (.cells #[Iv0 d] 345)).heap[w.heap.size]?=some (.cells #[Iv0 d] 345 (0,0)):=aU _ _ rfl _;rw[j] at a;have s:=aB j;have o:c.cell? (aL w.heap.size 0)=some (Iv0 d):=aA a rfl;have k:=aB o;have i:=aD a;obtain⟨u,h⟩:=h;have p:=aB h;have m:=aB l;clear j a h l;go_in
 go_wp2_with fail;rw[s.out];go_region_law (go_simp;go_at_call 82;refine(v _ (aY.drew _)).mono ?_;rintro e x ⟨rfl,b⟩;have y:=cZ b.heap k;have z:=cZ b.heap p;have A:=qI b.heap m;have t:=kA b.heap i;have n:=kA b.heap q)
 all_goals
  go_wp2
  go_end0;exact⟨rfl,r _ b⟩
def yG(w j:aH)(sb f g i:Nat)(d:Bool)(P S:World->Prop)(v:TypeId->Value->World->Prop)(k l:Bool->World->Prop)(q:w.alloc (.cells #[.bool d,Iv0 i] 316)=j)
 (J:Hid (∀W,aY j W->Calls prog 82 #[bO sb] W fun e w'=>e=bE (.pointer (some (aL f g)))/\aY j w'))
 (I:Hid (∀W,aY j W->Calls prog 95 #[.pointer (some (aL f g))] W fun e w'=>∃t z,e=bE (.iface t z)/\v t z w'))
 (H:Hid (∀W t z,v t z W->Calls prog 270 #[.iface t z] W fun e w'=>(∃b,e=bE (.bool b)/\k b w')\/(e=fP 2/\S w')))
 (E:Hid (∀W b,k b W->Calls prog 256 #[.pointer (some (aL f g)),.iface 196 (.bool b)] W fun e w'=>e=bE (.tuple #[])/\l b w'))
 (B:Hid (∀W b,k b W->b≠d->P W)) (s:Hid (∀W b,l b W->b=d->P (W.setCell (aL f (g+1)) (Iv0 i))))
 (o:Hid (∀W b,k b W->W.cell? (aL w.heap.size 0)=some (.bool d)/\w.heap.size<W.heap.size))
 (r:Hid (∀W b,l b W->W.cell? (aL w.heap.size 1)=some (Iv0 i)/\w.heap.size<W.heap.size/\(∃u,W.cell? (aL f (g+1))=some u)/\W.frozen? (aL f (g+1))=false/\f<W.heap.size)):
 Calls prog 282 #[.agg #[.bool d,Iv0 i],bO sb] w fun e w'=>(e=bE (.tuple #[])/\P w')\/(e=fP 2/\S w'):=by
 have F:=aB q;clear q;go_in
 go_wp2_with fail;rw[F.out];refine(J _ (aY.refl _)).mono ?_;rintro e K ⟨rfl,n⟩;go_wp2_with fail;refine(I _ n).mono ?_;rintro e O ⟨t,z,rfl,p⟩;have c:=aB (H _ t z p);clear p;go_wp2_with fail;refine c.mono ?_;rintro e L (⟨b,rfl,c⟩|⟨rfl,c⟩)
 ·obtain⟨M,N⟩:=o _ b c;by_cases h:b=d
  ·subst h;have a:=aB (E _ b c);clear c;cases b with
   |true=>
    go_wp2_with fail;refine a.mono ?_;rintro e x ⟨rfl,a⟩;obtain⟨C,y,⟨u,A⟩,G,D⟩:=r _ _ a;have m:=aB (s _ _ a rfl);clear a;go_wp2
    go_end0;exact Y4 ⟨rfl,m⟩
   |false=>
    go_wp2_with fail;refine a.mono ?_;rintro e x ⟨rfl,a⟩;obtain⟨C,y,⟨u,A⟩,G,D⟩:=r _ _ a;have m:=aB (s _ _ a rfl);clear a;go_wp2
    go_end0;exact Y4 ⟨rfl,m⟩
  ·have a:=aB (B _ b c h);clear c;cases b<;>cases d<;>first|exact absurd rfl h|(clear h;go_wp2_with fail;go_end0;exact Y4 ⟨rfl,a⟩)
 ·go_wp2_with fail;exact⟨rfl,Y3 ⟨rfl,c⟩⟩
def EV(w d:aH)(sb c g:Nat)(op:cE)(k:Nat)(P S:World->Prop)(r:TypeId->Value->World->Prop)(n:TypeId->Value->TypeId->Value->World->Prop)(p:TypeId->Value->World->Prop)(q:w.alloc (.cells #[.string (bs op)] 313)=d)
 (E:Hid (∀W,aY d W->Calls prog 82 #[bO sb] W fun e w'=>e=bE (.pointer (some (aL c g)))/\aY d w'))
 (D:Hid (∀W,aY d W->Calls prog 95 #[.pointer (some (aL c g))] W fun e w'=>∃t z,e=bE (.iface t z)/\r t z w'))
 (m:Hid (∀W t z,r t z W->Calls prog 95 #[.pointer (some (aL c g))] W fun e w'=>∃a b,e=bE (.iface a b)/\n t z a b w'))
 (s:Hid (∀W t z a b,n t z a b W->W.cell? (aL w.heap.size 0)=some (.string (bs op))/\w.heap.size<W.heap.size))
 (C:Hid (∀W t z a b,n t z a b W->Calls prog 273 #[.string (bs op),.iface a b,.iface t z] W fun e w'=>(∃j i,e=bE (.iface j i)/\p j i w')\/(e=fP k/\S w')))
 (A:Hid (∀W t z,p t z W->Calls prog 256 #[.pointer (some (aL c g)),.iface t z] W fun e w'=>e=bE (.tuple #[])/\P w')):
 Calls prog 272 #[.agg #[.string (bs op)],bO sb] w fun e w'=>(e=bE (.tuple #[])/\P w')\/(e=fP k/\S w'):=by
 have B:=aB q;clear q;go_in
 go_wp2_with fail;rw[B.out];refine(E _ (aY.refl _)).mono ?_;rintro e G ⟨rfl,l⟩;go_wp2_with fail;refine(D _ l).mono ?_;rintro e K ⟨t,z,rfl,o⟩;have y:=aB (m _ t z o);clear o;go_wp2_with fail;refine y.mono ?_;rintro e H ⟨a,b,rfl,h⟩;obtain⟨I,J⟩:=s _ _ _ _ _ h;have v:=aB (C _ _ _ _ _ h);clear h;go_wp2_with fail;refine v.mono ?_;rintro e F (⟨j,i,rfl,f⟩|⟨rfl,f⟩)
 ·have u:=aB (A _ _ _ f);clear f;go_wp2_with fail;refine u.mono ?_;rintro e L ⟨rfl,x⟩;go_wp2
  go_end0;exact Y4 ⟨rfl,x⟩
 ·go_wp2_with fail;exact⟨rfl,Y3 ⟨rfl,f⟩⟩
def JL(w d:aH)(sb c g:Nat)(k:Nat)(P S:World->Prop)(q:TypeId->Value->World->Prop)(r:TypeId->Value->TypeId->Value->World->Prop)(n:TypeId->Value->World->Prop)(o:w.alloc (.cells #[] 288)=d)
 (D:Hid (∀W,aY d W->Calls prog 82 #[bO sb] W fun e w'=>e=bE (.pointer (some (aL c g)))/\aY d w'))
 (C:Hid (∀W,aY d W->Calls prog 95 #[.pointer (some (aL c g))] W fun e w'=>∃t z,e=bE (.iface t z)/\q t z w'))
 (l:Hid (∀W t z,q t z W->Calls prog 95 #[.pointer (some (aL c g))] W fun e w'=>∃a b,e=bE (.iface a b)/\r t z a b w'))
 (B:Hid (∀W t z a b,r t z a b W->Calls prog 266 #[.iface a b,.iface t z] W fun e w'=>(∃i h,e=bE (.iface i h)/\n i h w')\/(e=fP k/\S w')))
 (y:Hid (∀W t z,n t z W->Calls prog 256 #[.pointer (some (aL c g)),.iface t z] W fun e w'=>e=bE (.tuple #[])/\P w')):
 Calls prog 265 #[.agg #[],bO sb] w fun e w'=>(e=bE (.tuple #[])/\P w')\/(e=fP k/\S w'):=by
 have A:=aB o;clear o;go_in
 go_wp2_with fail;rw[A.out];refine(D _ (aY.refl _)).mono ?_;rintro e F ⟨rfl,j⟩;go_wp2_with fail;refine(C _ j).mono ?_;rintro e H ⟨t,z,rfl,m⟩;have x:=aB (l _ t z m);clear m;go_wp2_with fail;refine x.mono ?_;rintro e G ⟨a,b,rfl,p⟩;have u:=aB (B _ _ _ _ _ p);clear p;go_wp2_with fail;refine u.mono ?_;rintro e E (⟨i,h,rfl,f⟩|⟨rfl,f⟩)
 ·have s:=aB (y _ _ _ f);clear f;go_wp2_with fail;refine s.mono ?_;rintro e I ⟨rfl,v⟩;go_wp2
  go_end0;exact Y4 ⟨rfl,v⟩
 ·go_wp2_with fail;exact⟨rfl,Y3 ⟨rfl,f⟩⟩
def EA(w a:aH)(sb c h:Nat)(k:Nat)(P S:World->Prop)(m j:TypeId->Value->World->Prop)(l:w.alloc (.cells #[] 317)=a)
 (v:Hid (∀W,aY a W->Calls prog 82 #[bO sb] W fun e w'=>e=bE (.pointer (some (aL c h)))/\aY a w'))
 (u:Hid (∀W,aY a W->Calls prog 95 #[.pointer (some (aL c h))] W fun e w'=>∃t z,e=bE (.iface t z)/\m t z w'))
 (s:Hid (∀W t z,m t z W->Calls prog 284 #[.iface t z] W fun e w'=>(∃f d,e=bE (.iface f d)/\j f d w')\/(e=fP k/\S w')))
 (q:Hid (∀W t z,j t z W->Calls prog 256 #[.pointer (some (aL c h)),.iface t z] W fun e w'=>e=bE (.tuple #[])/\P w')):
 Calls prog 283 #[.agg #[],bO sb] w fun e w'=>(e=bE (.tuple #[])/\P w')\/(e=fP k/\S w'):=by
 have r:=aB l;clear l;go_in
 go_wp2_with fail;rw[r.out];refine(v _ (aY.refl _)).mono ?_;rintro e y ⟨rfl,g⟩;go_wp2_with fail;refine(u _ g).mono ?_;rintro e A ⟨t,z,rfl,i⟩;have o:=aB (s _ t z i);clear i;go_wp2_with fail;refine o.mono ?_;rintro e x (⟨f,d,rfl,b⟩|⟨rfl,b⟩)
 ·have n:=aB (q _ _ _ b);clear b;go_wp2_with fail;refine n.mono ?_;rintro e B ⟨rfl,p⟩;go_wp2
  go_end0;exact Y4 ⟨rfl,p⟩
 ·go_wp2_with fail;exact⟨rfl,Y3 ⟨rfl,b⟩⟩
def MZ(w f:aH)(sb j p c:Nat)(k:Nat)(P S:World->Prop)(s:Option Addr->Nat->World->Prop)(r:TypeId->Value->World->Prop)(l:w.alloc (.cells #[Iv0 c] 287)=f)
 (F:Hid (∀W,aY f W->Calls prog 82 #[bO sb] W fun e w'=>e=bE (.pointer (some (aL j p)))/\aY f w'))
 (E:Hid (∀W,aY f W->Calls prog 262 #[.pointer (some (aL j p)),Iv0 c] W fun e w'=>∃x d,e=bE (.slice x c d)/\s x d w'))
 (D:Hid (∀W x d,s x d W->Calls prog 261 #[.slice x c d] W fun e w'=>(∃n m,e=bE (.iface n m)/\r n m w')\/(e=fP k/\S w')))
 (A:Hid (∀W t z,r t z W->Calls prog 256 #[.pointer (some (aL j p)),.iface t z] W fun e w'=>e=bE (.tuple #[])/\P w')):
 Calls prog 260 #[.agg #[Iv0 c],bO sb] w fun e w'=>(e=bE (.tuple #[])/\P w')\/(e=fP k/\S w'):=by
 have a:(w.alloc (.cells #[Iv0 c] 287)).heap[w.heap.size]?=some (.cells #[Iv0 c] 287 (0,0)):=aU _ _ rfl _;rw[l] at a;have B:=aB l;have o:=aB (aA (i:=0) a rfl);have h:=aD a;clear l a;go_in
 go_wp2_with fail;rw[B.out];refine(F _ (aY.refl _)).mono ?_;rintro e H ⟨rfl,b⟩;have I:=cZ b.heap o;have C:=kA b.heap h;go_wp2_with fail;refine(E _ b).mono ?_;rintro e J ⟨x,d,rfl,q⟩;have v:=aB (D _ x d q);clear q;go_wp2_with fail;refine v.mono ?_;rintro e G (⟨n,m,rfl,g⟩|⟨rfl,g⟩)
 ·have u:=aB (A _ _ _ g);clear g;go_wp2_with fail;refine u.mono ?_;rintro e K ⟨rfl,y⟩;go_wp2
  go_end0;exact Y4 ⟨rfl,y⟩
 ·go_wp2_with fail;exact⟨rfl,Y3 ⟨rfl,g⟩⟩
def TR{P:Program}{b:Array Oper}{o:Oper}{a:Act}{w:aH}{K:Act->World->Prop}{Q:Exit->Act->World->Prop}{E:Prop}(c:aQ)
 (h:if Region.wanted o (yielded b a.tmps)=true then Oper.wp P o a w K Q else E) (_d:Hid False->K (a.put o.dst c) w):
 if Region.wanted o (yielded b a.tmps)=true then Oper.wp P o a w K Q else E:=h
def PR(w d:aH)(sb g n:Nat)(op:cE)(P:World->Prop)(l p:TypeId->Value->World->Prop)(h:w.alloc (.cells #[.string (bs op)] 290)=d)
 (B:Hid (∀W,aY d W->Calls prog 82 #[bO sb] W fun e w'=>e=bE (.pointer (some (aL g n)))/\aY d w'))
 (A:Hid (∀W,aY d W->Calls prog 95 #[.pointer (some (aL g n))] W fun e w'=>∃t z,e=bE (.iface t z)/\l t z w'))
 (q:Hid (∀W t z,l t z W->W.cell? (aL w.heap.size 0)=some (.string (bs op))/\w.heap.size<W.heap.size))
 (y:Hid (∀W t z,l t z W->Calls prog 269 #[.string (bs op),.iface t z] W fun e w'=>∃k j,e=bE (.iface k j)/\p k j w'))
 (u:Hid (∀W t z,p t z W->Calls prog 256 #[.pointer (some (aL g n)),.iface t z] W fun e w'=>e=bE (.tuple #[])/\P w')):
 Calls prog 268 #[.agg #[.string (bs op)],bO sb] w fun e w'=>e=bE (.tuple #[])/\P w':=by
 have a:(w.alloc (.cells #[.string (bs op)] 290)).heap[w.heap.size]?=some (.cells #[.string (bs op)] 290 (0,0)):=aU _ _ rfl _;rw[h] at a;have v:=aB h;have m:=aB (aA (i:=0) a rfl);have f:=aD a;clear h a;go_in
 go_wp2_with fail;rw[v.out];refine(B _ (aY.refl _)).mono ?_;rintro e D ⟨rfl,b⟩;have G:=cZ b.heap m;have x:=kA b.heap f;go_wp2_with fail;go_region_law (go_simp;first|(go_at_call 95;refine(A _ (b.trans (aY.drew _))).mono ?_;rintro e I ⟨t,z,rfl,o⟩;have c:=q _ _ _ o;have E:=c.1;have H:=c.2;clear c)|(go_at_call 269;refine(y _ _ _ o).mono ?_;rintro e F ⟨k,j,rfl,s⟩)|(go_at_call 256;refine(u _ _ _ s).mono ?_;rintro e C ⟨rfl,r⟩))
 all_goals
  go_wp2
  go_end0;exact⟨rfl,r⟩
def GS(w g:aH)(sb o p:Nat)(op:cE)(k:Nat)(S:World->Prop)(l:TypeId->Value->World->Prop)(j:w.alloc (.cells #[.string (bs op)] 290)=g)
 (y:Hid (∀W,aY g W->Calls prog 82 #[bO sb] W fun e w'=>e=bE (.pointer (some (aL o p)))/\aY g w'))
 (x:Hid (∀W,aY g W->Calls prog 95 #[.pointer (some (aL o p))] W fun e w'=>∃t z,e=bE (.iface t z)/\l t z w'))
 (q:Hid (∀W t z,l t z W->W.cell? (aL w.heap.size 0)=some (.string (bs op))/\w.heap.size<W.heap.size))
 (v:Hid (∀W t z,l t z W->Calls prog 269 #[.string (bs op),.iface t z] W fun e w'=>e=fP k/\S w')):
 Calls prog 268 #[.agg #[.string (bs op)],bO sb] w fun e w'=>e=fP k/\S w':=by
 have b:(w.alloc (.cells #[.string (bs op)] 290)).heap[w.heap.size]?=some (.cells #[.string (bs op)] 290 (0,0)):=aU _ _ rfl _;rw[j] at b;have s:=aB j;have m:=aB (aA (i:=0) b rfl);have h:=aD b;clear j b;go_in
 go_wp2_with fail;rw[s.out];refine(y _ (aY.refl _)).mono ?_;rintro e A ⟨rfl,c⟩;have D:=cZ c.heap m;have u:=kA c.heap h;go_wp2_with fail;go_region_law (first|(go_simp;go_at_call 95;refine(x _ (c.trans (aY.drew _))).mono ?_;rintro e F ⟨t,z,rfl,n⟩;have d:=q _ _ _ n;have B:=d.1;have E:=d.2;clear d)|(refine TR (.iface 196 (.bool true)) ?_ ?_;(focus go_simp;go_at_call 269;refine(v _ _ _ n).mono ?_;rintro e C ⟨rfl,r⟩;exact⟨rfl,rfl,r⟩);intro a)|(refine TR (.tuple #[]) a.out.elim ?_;intro f))
 all_goals exact a.out.elim
def MY(w d:World)(sb k p c g n m:Nat)(t:TypeId)(z:Value)(P:World->Prop)(l:w.alloc (.cells #[.int .i64 c] 285)=d)
 (A:Hid (∀W,aY d W->Calls prog 82 #[.pointer (some ⟨sb,0,none⟩)] W fun e w'=>e=.returned (.pointer (some ⟨k,p,none⟩))/\aY d w'))
 (r:d.cell? ⟨k,p+4,none⟩=some (.slice (some ⟨g,0,none⟩) n m)) (q:d.cell? ⟨g,c,none⟩=some (.iface t z)) (s:c<n)
 (v:Hid (∀W,aY d W->Calls prog 256 #[.pointer (some ⟨k,p,none⟩),.iface t z] W fun e w'=>e=.returned (.tuple #[])/\P w')):
 Calls prog 259 #[.agg #[.int .i64 c],.pointer (some ⟨sb,0,none⟩)] w fun e w'=>e=.returned (.tuple #[])/\P w':=by
 have a:(w.alloc (.cells #[.int .i64 c] 285)).heap[w.heap.size]?=some (.cells #[.int .i64 c] 285 (0,0)):=aU _ _ rfl _;rw[l] at a;have x:=aB l;have f:=aB (aA (i:=0) a rfl);have h:=aD a;have j:=aB r;have o:=aB q;have I:(0:Int)<=(c:Int):=by omega
 have E:(c:Int)<(n:Int):=by omega
 clear l a r q;go_enter func259,ntmps259;go_wp2_with fail;rw[x.out];have D:=f.out;go_region_law (go_simp;first|(go_at_call 82;refine(A.out _ (by first|assumption|exact aY.drew _)).mono ?_;rintro e C ⟨rfl,b⟩;have F:=cZ b.heap f.out;have y:=kA b.heap h;have G:=cZ b.heap j.out;have H:=cZ b.heap o.out)|(go_at_call 256;refine(v.out _ b).mono ?_;rintro e B ⟨rfl,u⟩))
 all_goals
  go_wp2_with fail;go_end0;exact⟨rfl,u⟩
def KM(w d:World)(sb g h o:Nat)(j:Option Addr)(P:World->Prop)(q:w.alloc (.cells #[.int .i64 o,.pointer j] 260)=d)
 (C:Hid (∀W,aY d W->Calls prog 82 #[.pointer (some ⟨sb,0,none⟩)] W fun e w'=>e=.returned (.pointer (some ⟨g,h,none⟩))/\aY d w'))
 (c:∃u,d.cell? ⟨g,h+2,none⟩=some u) (f:∃u,d.cell? ⟨g,h+3,none⟩=some u) (m:d.frozen? ⟨g,h+2,none⟩=false) (l:d.frozen? ⟨g,h+3,none⟩=false) (y:g<d.heap.size)
 (z:Hid (∀W,aY d W->P ((W.setCell ⟨g,h+2,none⟩ (.int .i64 o)).setCell ⟨g,h+3,none⟩ (.pointer j)))):
 Calls prog 258 #[.agg #[.int .i64 o,.pointer j],.pointer (some ⟨sb,0,none⟩)] w fun e w'=>e=.returned (.tuple #[])/\P w':=by
 have b:(w.alloc (.cells #[.int .i64 o,.pointer j] 260)).heap[w.heap.size]?=some (.cells #[.int .i64 o,.pointer j] 260 (0,0)):=aU _ _ rfl _;rw[q] at b;have A:=aB q;have n:=aB (aA (i:=0) b rfl);have k:=aB (aA (i:=1) b rfl);have p:=aD b;obtain⟨u2,c⟩:=c;obtain⟨u3,f⟩:=f;have v:=aB c;have r:=aB f;have s:=aB m;have t:=aB l;have H:=n.out;have I:=k.out;clear q b c f m l;go_enter func258,ntmps258;go_wp2_with fail;rw[A.out];go_region_law (go_simp;go_at_call 82;refine(C.out _ (aY.drew _)).mono ?_;rintro e D ⟨rfl,a⟩;have J:=cZ a.heap n.out;have G:=cZ a.heap k.out;have E:=cZ a.heap v.out;have F:=cZ a.heap r.out;have L:=qI a.heap s.out;have K:=qI a.heap t.out;have B:=kA a.heap p;have x:=kA a.heap y)
 all_goals
  go_wp2_with fail;go_end0;exact⟨rfl,z.out _ a⟩
def kD(n:Int):aK (bD n)=1:=by rw[eZ];rfl
def lM(b:Bool):aK (bP b)=1:=by rw[eZ];rfl
def jF:aK bN<=200:=by rw[eZ];decide
def WL(op:cE)(a:aI):aK (fO op a).1<=200:=by
 unfold fO;repeat' split
 all_goals first|(show aK (bD _)<=200;rw[kD];omega)|(show aK (bP _)<=200;rw[lM];omega)|exact jF
def SB(op:cE)(x y:Int):aK (jD op x y).1<=200:=by
 unfold jD;repeat' split
 all_goals first|(show aK (bD _)<=200;rw[kD];omega)|(show aK (bP _)<=200;rw[lM];omega)|exact jF
def JJ(a b:aI):aK (jC a b).1<=200:=by
 unfold jC;dsimp only;by_cases h:200<aK (if a.sort=3 then aW (a.l++b.l) else bK (a.s++b.s))
 ·rw[if_pos h];exact jF
 ·rw[if_neg h];exact Nat.le_of_not_lt h
def VA(op:cE)(a b:aI):aK (eS op a b).1<=200:=by
 unfold eS;repeat' split
 all_goals first|exact SB _ _ _|exact JJ _ _|(show aK (bP _)<=200;rw[lM];omega)|exact jF
def NB(r:aI × Nat)(h:(iC r).2=0):aK (iC r).1<=200:=by
 unfold iC at h ⊢
 by_cases a:r.2=0
 ·rw[if_pos a] at h ⊢
  by_cases b:200<aK r.1
  ·rw[if_pos b] at h;cases h
  ·rw[if_neg b];omega
 ·rw[if_neg a] at h;exact absurd h a
def PV.bool{F:cC}{w:aH}{v:aQ}{a:aI}(h:PV F w v a)(d:a.sort=1):a=bP (decide (a.n=1)):=by
 rcases h.cases with ⟨n,_,rfl,_⟩|⟨b,_,rfl⟩|⟨s,_,rfl⟩|⟨x,c,l,_,rfl,_⟩
 ·simp[bD] at d
 ·cases b<;>rfl
 ·simp[bK] at d
 ·simp[aW] at d
def iX{f:aJ}{vs:List aI}{a:aI}(h:f.ops=vs++[a]):f.last=a:=by simp[aJ.last,h]
def mB{f:aJ}{vs:List aI}{a:aI}(h:f.ops=vs++[a]):f.pop.ops=vs:=by simp[aJ.pop,h]
def iH(sh:Bool)(fp:fN)(F:cC)(base sb gf:Nat)(t0 s0:aQ)(own:List Nat)(w:aH)(below:List aJ)(tape:List Int)(out:cO)(r:aJ × Nat)(e:Ending)(w':aH):Prop:=
 R3 r.2 e/\iA sh fp F base sb gf t0 s0 own w ⟨below++[r.1],tape,out⟩ w'
def J5(fp:fN)(F:cC)(base sb:Nat)(t0 s0:aQ)(own:List Nat)(w:aH)(below:List aJ)(tape:List Int)(out:cO)(r:aJ × Nat)(e:Ending)(w':aH):Prop:=
 R3 r.2 e/\Done fp F base sb t0 s0 own w ⟨below++[r.1],tape,out⟩ w'
section
variable {sh:Bool} {fp:fN} {F:cC} {base:Nat} {w:aH} {sb gf cap:Nat} {t0 tv outv s0:aQ} {fvs:List FVal} {below:List aJ} {f:aJ} {tape:List Int} {out:cO}
def iH.ok{own:List Nat}{r:aJ × Nat}{g:aJ}{w':aH}(a:r=(g,0))(h:iA sh fp F base sb gf t0 s0 own w ⟨below++[g],tape,out⟩ w'):iH sh fp F base sb gf t0 s0 own w below tape out r (bE (.tuple #[])) w':=by
 subst a;exact⟨Y4 ⟨rfl,rfl⟩,h⟩
def iH.stop{own:List Nat}{r:aJ × Nat}{g:aJ}{k:Nat}{w':aH}(b:r=(g,k))(a:k≠0)(h:iA sh fp F base sb gf t0 s0 own w ⟨below++[g],tape,out⟩ w'):iH sh fp F base sb gf t0 s0 own w below tape out r (fP k) w':=by
 subst b;exact⟨Y3 ⟨a,rfl⟩,h⟩
def iH.toP{own:List Nat}{r:aJ × Nat}{e:Ending}{w':aH}(h:iH false fp F base sb gf t0 s0 own w below tape out r e w'):J5 fp F base sb t0 s0 own w below tape out r e w':=⟨h.1,h.2.done⟩
def J5.ok{own:List Nat}{r:aJ × Nat}{g:aJ}{w':aH}(a:r=(g,0))(h:Done fp F base sb t0 s0 own w ⟨below++[g],tape,out⟩ w'):J5 fp F base sb t0 s0 own w below tape out r (bE (.tuple #[])) w':=by
 subst a;exact⟨Y4 ⟨rfl,rfl⟩,h⟩
def J5.stop{own:List Nat}{r:aJ × Nat}{g:aJ}{k:Nat}{w':aH}(b:r=(g,k))(a:k≠0)(h:Done fp F base sb t0 s0 own w ⟨below++[g],tape,out⟩ w'):J5 fp F base sb t0 s0 own w below tape out r (fP k) w':=by
 subst b;exact⟨Y3 ⟨a,rfl⟩,h⟩
def cW.count{m:cT}(h:cW sh fp F base w sb gf cap t0 tv outv s0 fvs m):fvs.length=m.frames.length:=h.frs.length
def cW.mid(h:cW sh fp F base w sb gf cap t0 tv outv s0 fvs ⟨below++[f],tape,out⟩)(b:base<=w.heap.size)(a:Obj):dT sh fp base sb gf below.length t0 s0 (aP sh sb gf outv fvs) (w.alloc a) F ⟨below++[f],tape,out⟩ (w.alloc a):=
 dT.init h (by rw[h.count];simp) b a
def dT.topS{own:List Nat}{a:aH}{G:cC}{n:Nat}{m:cT}(h:dT sh fp base sb gf n t0 s0 own a G m a)(f:n<=15):Hid (∀W,aY a W->Calls prog 82 #[bO sb] W fun e w'=>e=bE (.pointer (some (aL gf (n*6))))/\aY a w'):=fun W b=>by
 refine((h.same b).top f).mono ?_;rintro e w' ⟨c,d⟩;exact⟨c,b.trans d⟩
def dT.box{n:Nat}{G:cC}{m:cT}{cs:Array Value}{a:TypeId}{W:aH}(h:cW sh fp F base w sb gf cap t0 tv outv s0 fvs ⟨below++[f],tape,out⟩)(c:dT sh fp base sb gf n t0 s0 (aP sh sb gf outv fvs) (w.alloc (.cells cs a)) G m W):W.heap[w.heap.size]?=some (.cells cs a (0,0)):=by
 rw[c.old (by simp) (fun b=>Nat.lt_irrefl _ (h.lt _ b))]
 exact aU _ _ rfl _
def O7(h:cW sh fp F base w sb gf cap t0 tv outv s0 fvs ⟨below++[f],tape,out⟩)(c:below.length<=15)(b:base<=w.heap.size)(l:f.ops.length<=99000)(d:∃j a,f.ops=j++[a]):
 Calls prog 295 #[.agg #[],bO sb] w (iH sh fp F base sb gf t0 s0 (aP sh sb gf outv fvs) w below tape out (aO .drop f)):=by
 obtain⟨j,a,m⟩:=d;have k:=h.mid b (.cells #[] 336);refine(OG w _ sb gf (below.length*6) (fun g=>iA sh fp F base sb gf t0 s0 (aP sh sb gf outv fvs) w ⟨below++[f.pop],tape,out⟩ g) rfl (k.topS c) fun W o=>?_).mono ?_
 ·refine((k.same o).pop m (by omega)).mono ?_
  rintro e g ⟨t,z,n,_,_,i⟩;exact⟨t,z,n,i.doneX (Ext.refl _ _)⟩
 ·rintro e g ⟨rfl,i⟩;exact iH.ok rfl i
def ZR(h:cW sh fp F base w sb gf cap t0 tv outv s0 fvs ⟨below++[f],tape,out⟩)(l:below.length<=15)(i:base<=w.heap.size)(k:f.ops.length<=99000)(o:∃s a,f.ops=s++[a]):
 Calls prog 281 #[.agg #[],bO sb] w (iH sh fp F base sb gf t0 s0 (aP sh sb gf outv fvs) w below tape out (aO .truth f)):=by
 obtain⟨s,a,m⟩:=o;have r:=h.mid i (.cells #[] 314);have v:f.pop.ops.length<=100000:=by rw[mB m];rw[m,Y5] at k;omega
 refine(GU w _ sb gf (below.length*6) (fun g=>a.sort=1/\iA sh fp F base sb gf t0 s0 (aP sh sb gf outv fvs) w ⟨below++[f.pop.push a],tape,out⟩ g) (fun g=>a.sort≠1/\iA sh fp F base sb gf t0 s0 (aP sh sb gf outv fvs) w ⟨below++[f.pop],tape,out⟩ g)
  (fun t z W=>PV F W (.iface t z) a/\aK a<=200/\dT sh fp base sb gf below.length t0 s0 (aP sh sb gf outv fvs) (w.alloc (.cells #[] 314)) F ⟨below++[f.pop],tape,out⟩ W)
  (fun b W=>a.sort=1/\a=bP b/\dT sh fp base sb gf below.length t0 s0 (aP sh sb gf outv fvs) (w.alloc (.cells #[] 314)) F ⟨below++[f.pop],tape,out⟩ W) rfl (r.topS l) (fun W y=>?_) (fun W t z p=>?_) (fun W b p=>?_)).mono ?_
 ·refine((r.same y).pop m (by omega)).mono ?_
  rintro e g ⟨t,z,q,c,d,j⟩;exact⟨t,z,q,c,d,j⟩
 ·obtain⟨c,d,j⟩:=p;refine(oH F _ a W c).mono ?_;rintro e g ⟨rfl,⟨n,rfl⟩|⟨n,rfl⟩⟩
  ·exact Y4 ⟨_,rfl,n,c.bool n,j⟩
  ·exact Y3 ⟨rfl,n,j.doneX (Ext.refl _ _)⟩
 ·obtain⟨c,d,j⟩:=p;rw[d] at c ⊢
  refine(j.push (PV.tru F W b) (by rw[lM];omega) v).mono ?_
  rintro e g ⟨q,u⟩;exact⟨q,c,u.doneX (Ext.refl _ _)⟩
 ·have x:aO .truth f=if a.sort=1 then (f.pop.push a,0) else (f.pop,2):=by simp[aO,iX m]
  rw[x];rintro e g (⟨rfl,c,d⟩|⟨rfl,c,d⟩)
  ·exact iH.ok (if_pos c) d
  ·exact iH.stop (if_neg c) (by decide) d
end
section
variable {sh:Bool} {fp:fN} {F:cC} {base:Nat} {w:aH} {sb gf cap:Nat} {t0 tv outv s0:aQ} {fvs:List FVal} {below:List aJ} {f:aJ} {tape:List Int} {out:cO}
def dT.next{own:List Nat}{c:aH}{G:cC}{n:Nat}(h:dT sh fp base sb gf n t0 s0 own c G ⟨below++[f],tape,out⟩ w)(b:Nat):dT sh fp base sb gf n t0 s0 own c G ⟨below++[{ f with next:=b }],tape,out⟩ (w.setCell (aL gf (n*6+1)) (Iv0 b)):=
 h.set 1 (Iv0 b) (by omega) (fun v=>{ v with nx:=Iv0 b }) (fun _=>rfl) (fun _ _=>rfl) fun _ a=>⟨a.fn,rfl,a.ln,a.sp,a.vars,a.ops⟩
def dT.cell{own:List Nat}{e:aH}{G:cC}{n:Nat}(h:dT sh fp base sb gf n t0 s0 own e G ⟨below++[f],tape,out⟩ w)(j:Nat)(a:j<6):(∃u,w.cell? (aL gf (n*6+j))=some u)/\w.frozen? (aL gf (n*6+j))=false/\gf<w.heap.size:=by
 obtain⟨v,i,b,g⟩:=h.cells;obtain⟨d,c⟩:=g j (v.cells[j]'(by simpa [FVal.cells] using a)) (Z8 _)
 exact⟨⟨_,d⟩,c,b⟩
def N0(b:Nat)(h:cW sh fp F base w sb gf cap t0 tv outv s0 fvs ⟨below++[f],tape,out⟩)(c:below.length<=15)(a:base<=w.heap.size):
 Calls prog 297 #[.agg #[Iv0 b],bO sb] w (iH sh fp F base sb gf t0 s0 (aP sh sb gf outv fvs) w below tape out (aO (.jump b) f)):=by
 have g:=h.mid a (.cells #[Iv0 b] 345);obtain⟨k,d,l⟩:=g.cell 1 (by omega)
 refine(NF w _ sb gf (below.length*6) b (fun i=>iA sh fp F base sb gf t0 s0 (aP sh sb gf outv fvs) w ⟨below++[{ f with next:=b }],tape,out⟩ i) rfl (g.topS c) k d l fun W j=>?_).mono ?_
 ·exact((g.same j).next b).doneX (Ext.refl _ _)
 ·rintro e i ⟨rfl,d⟩;exact iH.ok rfl d
def UX(i:Nat)(h:cW sh fp F base w sb gf cap t0 tv outv s0 fvs ⟨below++[f],tape,out⟩)(m:below.length<=15)(j:base<=w.heap.size)(q:f.ops.length<=99000)(n:∃s a,f.ops=s++[a]):
 Calls prog 296 #[.agg #[Iv0 i],bO sb] w (iH sh fp F base sb gf t0 s0 (aP sh sb gf outv fvs) w below tape out (aO (.skip i) f)):=by
 obtain⟨s,a,u⟩:=n;have p:=h.mid j (.cells #[Iv0 i] 344)
 refine(DA w _ sb gf (below.length*6) i (fun l=>a.sort=1/\iA sh fp F base sb gf t0 s0 (aP sh sb gf outv fvs) w ⟨below++[if a.n=1 then f.pop else { f.pop with next:=i }],tape,out⟩ l) (fun l=>a.sort≠1/\iA sh fp F base sb gf t0 s0 (aP sh sb gf outv fvs) w ⟨below++[f.pop],tape,out⟩ l)
  (fun t z W=>PV F W (.iface t z) a/\aK a<=200/\dT sh fp base sb gf below.length t0 s0 (aP sh sb gf outv fvs) (w.alloc (.cells #[Iv0 i] 344)) F ⟨below++[f.pop],tape,out⟩ W)
  (fun b W=>a.sort=1/\b=decide (a.n=1)/\dT sh fp base sb gf below.length t0 s0 (aP sh sb gf outv fvs) (w.alloc (.cells #[Iv0 i] 344)) F ⟨below++[f.pop],tape,out⟩ W) rfl (p.topS m) (fun W C=>?_) (fun W t z k=>?_) (fun W k=>?_) (fun W k=>?_) (fun W b k=>?_)).mono ?_
 ·refine((p.same C).pop u (by omega)).mono ?_
  rintro e l ⟨t,z,B,c,d,g⟩;exact⟨t,z,B,c,d,g⟩
 ·obtain⟨c,d,g⟩:=k;refine(oH F _ a W c).mono ?_;rintro e l ⟨rfl,⟨o,rfl⟩|⟨o,rfl⟩⟩
  ·exact Y4 ⟨_,rfl,o,rfl,g⟩
  ·exact Y3 ⟨rfl,o,g.doneX (Ext.refl _ _)⟩
 ·obtain⟨c,d,g⟩:=k;refine⟨c,?_⟩;rw[if_pos (of_decide_eq_true d.symm)];exact g.doneX (Ext.refl _ _)
 ·obtain⟨c,d,g⟩:=k;refine⟨c,?_⟩;rw[if_neg (of_decide_eq_false d.symm)];exact(g.next i).doneX (Ext.refl _ _)
 ·obtain⟨c,d,g⟩:=k;have r:=dT.box h g;obtain⟨v,A,x⟩:=g.cell 1 (by omega)
  exact⟨aA r rfl,aD r,v,A,x⟩
 ·have y:aO (.skip i) f=if a.sort=1 then (if a.n=1 then f.pop else { f.pop with next:=i },0) else (f.pop,2):=by simp[aO,iX u]
  rw[y];rintro e l (⟨rfl,c,d⟩|⟨rfl,c,d⟩)
  ·exact iH.ok (if_pos c) d
  ·exact iH.stop (if_neg c) (by decide) d
def LS(k:Bool)(j:Nat)(h:cW sh fp F base w sb gf cap t0 tv outv s0 fvs ⟨below++[f],tape,out⟩)(r:below.length<=15)(n:base<=w.heap.size)(o:f.ops.length<=99000)(l:∃y a,f.ops=y++[a]):
 Calls prog 282 #[.agg #[.bool k,Iv0 j],bO sb] w (iH sh fp F base sb gf t0 s0 (aP sh sb gf outv fvs) w below tape out (aO (.shortcut k j) f)):=by
 obtain⟨y,a,u⟩:=l;have x:=h.mid n (.cells #[.bool k,Iv0 j] 316);have D:f.pop.ops.length<=100000:=by rw[mB u];rw[u,Y5] at o;omega
 refine(yG w _ sb gf (below.length*6) j k (fun m=>a.sort=1/\iA sh fp F base sb gf t0 s0 (aP sh sb gf outv fvs) w ⟨below++[if decide (a.n=1)=k then { f.pop.push a with next:=j } else f.pop],tape,out⟩ m) (fun m=>a.sort≠1/\iA sh fp F base sb gf t0 s0 (aP sh sb gf outv fvs) w ⟨below++[f.pop],tape,out⟩ m)
  (fun t z W=>PV F W (.iface t z) a/\aK a<=200/\dT sh fp base sb gf below.length t0 s0 (aP sh sb gf outv fvs) (w.alloc (.cells #[.bool k,Iv0 j] 316)) F ⟨below++[f.pop],tape,out⟩ W)
  (fun b W=>a.sort=1/\b=decide (a.n=1)/\a=bP b/\dT sh fp base sb gf below.length t0 s0 (aP sh sb gf outv fvs) (w.alloc (.cells #[.bool k,Iv0 j] 316)) F ⟨below++[f.pop],tape,out⟩ W)
  (fun b W=>a.sort=1/\b=decide (a.n=1)/\dT sh fp base sb gf below.length t0 s0 (aP sh sb gf outv fvs) (w.alloc (.cells #[.bool k,Iv0 j] 316)) F ⟨below++[f.pop.push a],tape,out⟩ W) rfl (x.topS r) (fun W H=>?_) (fun W t z i=>?_) (fun W b i=>?_) (fun W b i l=>?_) (fun W b i s=>?_) (fun W b i=>?_) (fun W b i=>?_)).mono ?_
 ·refine((x.same H).pop u (by omega)).mono ?_
  rintro e m ⟨t,z,s,c,d,g⟩;exact⟨t,z,s,c,d,g⟩
 ·obtain⟨c,d,g⟩:=i;refine(oH F _ a W c).mono ?_;rintro e m ⟨rfl,⟨v,rfl⟩|⟨v,rfl⟩⟩
  ·exact Y4 ⟨_,rfl,v,rfl,c.bool v,g⟩
  ·exact Y3 ⟨rfl,v,g.doneX (Ext.refl _ _)⟩
 ·obtain⟨c,d,g,q⟩:=i;refine(q.push (a:=a) (by rw[g];exact PV.tru F W b) (by rw[g,lM];omega) D).mono ?_
  rintro e m ⟨s,C⟩;exact⟨s,c,d,C⟩
 ·obtain⟨c,d,g,q⟩:=i;refine⟨c,?_⟩;rw[if_neg (by rw[<-d];exact l)]
  exact q.doneX (Ext.refl _ _)
 ·obtain⟨c,d,g⟩:=i;refine⟨c,?_⟩;rw[if_pos (by rw[<-d];exact s)]
  exact(g.next j).doneX (Ext.refl _ _)
 ·obtain⟨c,d,g,q⟩:=i;have p:=dT.box h q;exact⟨aA p rfl,aD p⟩
 ·obtain⟨c,d,g⟩:=i;have p:=dT.box h g;obtain⟨A,G,B⟩:=g.cell 1 (by omega)
  exact⟨aA p rfl,aD p,A,G,B⟩
 ·have E:aO (.shortcut k j) f=if a.sort=1 then (if decide (a.n=1)=k then { f.pop.push a with next:=j } else f.pop,0) else (f.pop,2):=by simp[aO,iX u]
  rw[E];rintro e m (⟨rfl,c,d⟩|⟨rfl,c,d⟩)
  ·exact iH.ok (if_pos c) d
  ·exact iH.stop (if_neg c) (by decide) d
end
section
variable {sh:Bool} {fp:fN} {F:cC} {base:Nat} {w:aH} {sb gf cap:Nat} {t0 tv outv s0:aQ} {fvs:List FVal} {below:List aJ} {f:aJ} {tape:List Int} {out:cO}
def dT.apart{own:List Nat}{d:aH}{G:cC}{n:Nat}{m:cT}(h:dT sh fp base sb gf n t0 s0 own d G m w):∀k,G k->k<w.heap.size/\k≠gf:=by
 obtain⟨l,j,f,i,c,g,o,b,p⟩:=h;exact fun k a=>⟨(b.apart k a).1,fun e=>(b.apart k a).2 (by simp[aP,e])⟩
def kZ.cell{G:cC}{v:aQ}{l:List aI}{k:Nat}(h:kZ G base w v l)(j:k<l.length):∃g cap t z,v=.slice (some (aL g 0)) l.length cap/\w.cell? (aL g k)=some (.iface t z)/\PV G w (.iface t z) l[k]/\aK l[k]<=200:=by
 obtain⟨⟨y,n,s,p⟩,m⟩:=h;obtain⟨u,b,f⟩:=p k j;obtain⟨t,z,rfl⟩:=f.form;rcases n.2 with ⟨x,A⟩|⟨g,c,r,rfl,o,a,e,i,q,d⟩
 ·omega
 refine⟨g,c,t,z,rfl,aA a ?_,f,m _ (e8 _)⟩;rw[<-d,i8] at b;split at b
 ·simpa using b
 ·cases b
def ZD.cell{G:cC}{v:aQ}{l:List aI}{k:Nat}(h:ZD sh G base w v l)(a:k<l.length):∃g cap t z,v=.slice (some (aL g 0)) l.length cap/\w.cell? (aL g k)=some (.iface t z)/\PV G w (.iface t z) l[k]/\aK l[k]<=200:=by
 cases sh
 ·exact kZ.cell h a
 ·obtain⟨d,c⟩:=h;rcases PVs.row d with ⟨rfl,_⟩|⟨g,cap,m,e,_,_,⟨_,f⟩,j⟩
  ·cases a
  ·obtain⟨u,i,b⟩:=f k a;obtain⟨t,z,rfl⟩:=b.form;exact⟨g,cap,t,z,e,j k _ i,b,c _ (e8 _)⟩
def M7(k:Nat)(h:cW sh fp F base w sb gf cap t0 tv outv s0 fvs ⟨below++[f],tape,out⟩)(d:below.length<=15)(a:base<=w.heap.size)(n:f.ops.length<=99000)(m:k<f.vars.length):
 Calls prog 259 #[.agg #[Iv0 k],bO sb] w (iH sh fp F base sb gf t0 s0 (aP sh sb gf outv fvs) w below tape out (aO (.load k) f)):=by
 have l:=h.mid a (.cells #[Iv0 k] 285);obtain⟨v,u,B,A⟩:=l.cells;obtain⟨g,c,t,z,r,q,x,y⟩:=u.vars.cell m;have o:=(A 4 v.vv rfl).1;rw[r] at o;refine(MY w _ sb gf (below.length*6) k g f.vars.length c t z (fun i=>iA sh fp F base sb gf t0 s0 (aP sh sb gf outv fvs) w ⟨below++[f.push f.vars[k]],tape,out⟩ i) rfl (l.topS d) o q m fun W p=>?_).mono ?_
 ·refine((l.same p).push (x.keep fun b _=>by rw[p.heap]) y (by omega)).mono ?_
  rintro e i ⟨s,j⟩;exact⟨s,j.doneX (Ext.refl _ _)⟩
 ·rintro e i ⟨rfl,j⟩;refine iH.ok ?_ j;simp[aO,Z8 m]
def H9(l:Nat)(sp:aQ)(s:cO)(h:cW sh fp F base w sb gf cap t0 tv outv s0 fvs ⟨below++[f],tape,out⟩)(d:below.length<=15)(c:base<=w.heap.size)(p:fA F w sp s):
 Calls prog 258 #[.agg #[Iv0 l,sp],bO sb] w (iH sh fp F base sb gf t0 s0 (aP sh sb gf outv fvs) w below tape out (aO (.begin l s) f)):=by
 obtain⟨sp,rfl⟩:=p.form;have g:=h.mid c (.cells #[Iv0 l,.pointer sp] 260);obtain⟨t,i,x⟩:=g.cell 2 (by omega)
 obtain⟨r,z,A⟩:=g.cell 3 (by omega)
 refine(KM w _ sb gf (below.length*6) l sp (fun n=>iA sh fp F base sb gf t0 s0 (aP sh sb gf outv fvs) w ⟨below++[{ f with line:=l,seen:=s }],tape,out⟩ n) rfl (g.topS d) t r i z x fun W q=>?_).mono ?_
 ·have o:=g.same q
  have k:fA F W (.pointer sp) s:=fA.keep (fun b j=>by
   rw[q.heap];exact Z3 _ _ _ (h.apart b j).1) eD p
  have u:dT sh fp base sb gf below.length t0 s0 (aP sh sb gf outv fvs) _ F ⟨below++[{ f with line:=l }],tape,out⟩ _:=o.set 2 (Iv0 l) (by omega) (fun v=>{ v with ln:=Iv0 l }) (fun _=>rfl) (fun _ _=>rfl) fun _ a=>⟨a.fn,a.nx,rfl,a.sp,a.vars,a.ops⟩
  have m:fA F (W.setCell (aL gf (below.length*6+2)) (Iv0 l)) (.pointer sp) s:=fA.keep (fun b j=>Y6 _ _ _ _ (o.apart b j).2) eD k
  have y:dT sh fp base sb gf below.length t0 s0 (aP sh sb gf outv fvs) _ F ⟨below++[{ f with line:=l,seen:=s }],tape,out⟩ _:=u.set 3 (.pointer sp) (by omega) (fun v=>{ v with sp:=.pointer sp }) (fun _=>rfl) (fun _ _=>rfl) fun _ a=>⟨a.fn,a.nx,a.ln,m,a.vars,a.ops⟩
  exact y.doneX (Ext.refl _ _)
 ·rintro e n ⟨rfl,i⟩;exact iH.ok rfl i
def ZN(op:cE)(I:op=[45]\/op=[33])(h:cW sh fp F base w sb gf cap t0 tv outv s0 fvs ⟨below++[f],tape,out⟩)(d:below.length<=15)(g:base<=w.heap.size)(j:f.ops.length<=99000)(q:∃y a,f.ops=y++[a]):
 Calls prog 268 #[.agg #[.string (bs op)],bO sb] w (iH sh fp F base sb gf t0 s0 (aP sh sb gf outv fvs) w below tape out (aO (.unary op) f)):=by
 obtain⟨y,a,p⟩:=q;have s:=h.mid g (.cells #[.string (bs op)] 290);have K:f.pop.ops.length<=100000:=by rw[mB p];rw[p,Y5] at j;omega
 have i:∀(W:aH) (v:aQ),PV F W v a->Calls prog 269 #[.string (bs op),v] W (lE F W (fO (op++[120]) a)):=fun W v C=>by
  rcases I with rfl|rfl
  ·exact AZ 45 (Y4 rfl) F v a W C
  ·exact AZ 33 (Y3 rfl) F v a W C
 have A:aO (.unary op) f=if (fO (op++[120]) a).2=0 then (f.pop.push (fO (op++[120]) a).1,0) else (f.pop,(fO (op++[120]) a).2):=by simp[aO,iX p]
 have m:=WL (op++[120]) a;generalize fO (op++[120]) a=r at i A m;rw[A]
 have D:Hid (∀W,aY (w.alloc (.cells #[.string (bs op)] 290)) W->Calls prog 95 #[.pointer (some (aL gf (below.length*6)))] W fun e b=>∃t z,e=bE (.iface t z)/\PV F b (.iface t z) a/\dT sh fp base sb gf below.length t0 s0 (aP sh sb gf outv fvs) (w.alloc (.cells #[.string (bs op)] 290)) F ⟨below++[f.pop],tape,out⟩ b):=fun W M=>by
  refine((s.same M).pop p (by omega)).mono ?_
  rintro e b ⟨t,z,x,H,n,L⟩;exact⟨t,z,x,H,L⟩
 by_cases l:r.2=0
 ·rw[if_pos l];refine(PR w _ sb gf (below.length*6) op (fun b=>iA sh fp F base sb gf t0 s0 (aP sh sb gf outv fvs) w ⟨below++[f.pop.push r.1],tape,out⟩ b) (fun t z W=>PV F W (.iface t z) a/\dT sh fp base sb gf below.length t0 s0 (aP sh sb gf outv fvs) (w.alloc (.cells #[.string (bs op)] 290)) F ⟨below++[f.pop],tape,out⟩ W) (fun t z W=>PV F W (.iface t z) r.1/\dT sh fp base sb gf below.length t0 s0 (aP sh sb gf outv fvs) (w.alloc (.cells #[.string (bs op)] 290)) F ⟨below++[f.pop],tape,out⟩ W) rfl (s.topS d) D (fun W t z c=>?_) (fun W t z c=>?_) (fun W t z c=>?_)).mono ?_
  ·have k:=dT.box h c.2;exact⟨aA k rfl,aD k⟩
  ·refine(i W _ c.1).mono ?_;rintro e b ⟨rfl,⟨_,u,rfl,B⟩|⟨o,_⟩⟩
   ·obtain⟨J,G,rfl⟩:=B.form;exact⟨J,G,rfl,B,c.2⟩
   ·exact absurd l o
  ·refine(c.2.push c.1 m K).mono ?_;rintro e b ⟨x,E⟩;exact⟨x,E.doneX (Ext.refl _ _)⟩
  ·rintro e b ⟨rfl,n⟩;exact iH.ok rfl n
 ·rw[if_neg l];refine(GS w _ sb gf (below.length*6) op r.2 (fun b=>iA sh fp F base sb gf t0 s0 (aP sh sb gf outv fvs) w ⟨below++[f.pop],tape,out⟩ b) (fun t z W=>PV F W (.iface t z) a/\dT sh fp base sb gf below.length t0 s0 (aP sh sb gf outv fvs) (w.alloc (.cells #[.string (bs op)] 290)) F ⟨below++[f.pop],tape,out⟩ W) rfl (s.topS d) D (fun W t z c=>?_) (fun W t z c=>?_)).mono ?_
  ·have k:=dT.box h c.2;exact⟨aA k rfl,aD k⟩
  ·refine(i W _ c.1).mono ?_;rintro e b ⟨rfl,⟨o,_⟩|⟨o,rfl⟩⟩
   ·exact absurd o l
   ·exact⟨rfl,c.2.doneX (Ext.refl _ _)⟩
  ·rintro e b ⟨rfl,n⟩;exact iH.stop rfl l n
def ZB(op:cE)(h:cW sh fp F base w sb gf cap t0 tv outv s0 fvs ⟨below++[f],tape,out⟩)(C:below.length<=15)(j:base<=w.heap.size)(p:f.ops.length<=99000)(J:∃H a b,f.ops=H++[a,b]):
 Calls prog 272 #[.agg #[.string (bs op)],bO sb] w (iH sh fp F base sb gf t0 s0 (aP sh sb gf outv fvs) w below tape out (aO (.binary op) f)):=by
 obtain⟨H,a,b,n⟩:=J;have n:f.ops=(H++[a])++[b]:=by rw[n];simp
 have N:=h.mid j (.cells #[.string (bs op)] 313);have i:f.pop.ops=H++[a]:=mB n;have A:=p;rw[n,Y5,Y5] at A;have M:f.pop.ops.length<=100000:=by rw[i,Y5];omega
 have L:f.pop.pop.ops.length<=100000:=by rw[mB i];omega
 have O:aO (.binary op) f=if (eS op a b).2=0 then (f.pop.pop.push (eS op a b).1,0) else (f.pop.pop,(eS op a b).2):=by simp[aO,iX n,iX i]
 have E:=VA op a b;have x:∀(W:aH) (u v:aQ),PV F W u a->PV F W v b->(∀k,F k->k<W.heap.size)->aK a<=200->aK b<=200->Calls prog 273 #[.string (bs op),u,v] W (eT F W (eS op a b)):=fun W u v c d m I y=>MJ op F u v a b W c d m (by omega) (by omega)
 generalize eS op a b=r at x O E;rw[O]
 refine(EV w _ sb gf (below.length*6) op r.2 (fun g=>r.2=0/\iA sh fp F base sb gf t0 s0 (aP sh sb gf outv fvs) w ⟨below++[f.pop.pop.push r.1],tape,out⟩ g) (fun g=>r.2≠0/\iA sh fp F base sb gf t0 s0 (aP sh sb gf outv fvs) w ⟨below++[f.pop.pop],tape,out⟩ g)
  (fun t z W=>PV F W (.iface t z) b/\aK b<=200/\dT sh fp base sb gf below.length t0 s0 (aP sh sb gf outv fvs) (w.alloc (.cells #[.string (bs op)] 313)) F ⟨below++[f.pop],tape,out⟩ W)
  (fun t z o s W=>PV F W (.iface t z) b/\aK b<=200/\PV F W (.iface o s) a/\aK a<=200/\dT sh fp base sb gf below.length t0 s0 (aP sh sb gf outv fvs) (w.alloc (.cells #[.string (bs op)] 313)) F ⟨below++[f.pop.pop],tape,out⟩ W)
  (fun t z W=>r.2=0/\∃G,Ext F G w.heap.size/\PV G W (.iface t z) r.1/\dT sh fp base sb gf below.length t0 s0 (aP sh sb gf outv fvs) (w.alloc (.cells #[.string (bs op)] 313)) G ⟨below++[f.pop.pop],tape,out⟩ W) rfl (N.topS C) (fun W Y=>?_) (fun W t z l=>?_) (fun W t z o s l=>?_) (fun W t z o s l=>?_) (fun W t z l=>?_)).mono ?_
 ·refine((N.same Y).pop n (by omega)).mono ?_
  rintro e g ⟨t,z,D,c,d,m⟩;exact⟨t,z,D,c,d,m⟩
 ·obtain⟨c,d,m⟩:=l;refine(m.popK i M).mono ?_;rintro e g ⟨o,s,D,Q,X,S,Z⟩;exact⟨o,s,D,c.keep Z,d,Q,X,S⟩
 ·have q:=dT.box h l.2.2.2.2;exact⟨aA q rfl,aD q⟩
 ·obtain⟨c,d,m,I,y⟩:=l;refine(x W _ _ m c (fun k K=>(y.apart k K).1) I d).mono ?_
  rintro e g ⟨q,⟨B,u,rfl,P⟩|⟨B,rfl⟩⟩
  ·obtain⟨U,T,rfl⟩:=P.form;exact Y4 ⟨U,T,rfl,B,Grow F W g,⟨fun _=>Y4,fun k K=>K.imp_right fun c=>Z4 (Z4 (by simp) y.1.size) c.1⟩,P,y.grow q (fun _=>Y4) eD⟩
  ·exact Y3 ⟨rfl,B,(y.grow q eD fun _=>Y4).doneX (Ext.refl _ _)⟩
 ·obtain⟨B,G,V,c,d⟩:=l;refine(d.push c E L).mono ?_;rintro e g ⟨D,I⟩;exact⟨D,B,I.doneX V⟩
 ·rintro e g (⟨rfl,c,d⟩|⟨rfl,c,d⟩)
  ·exact iH.ok (if_pos c) d
  ·exact iH.stop (if_neg c) c d
end
section
variable {sh:Bool} {fp:fN} {F G G':cC} {base:Nat} {w:aH} {sb gf cap:Nat} {t0 tv outv s0:aQ} {fvs:List FVal} {below:List aJ} {f:aJ} {tape:List Int} {out:cO}
def cW.more{m:cT}(h:cW sh fp G base w sb gf cap t0 tv outv s0 fvs m)(b:∀k,G k->G' k)(d:∀k,G' k->G k\/(k<w.heap.size/\k∉aP sh sb gf outv fvs)):cW sh fp G' base w sb gf cap t0 tv outv s0 fvs m:=
 ⟨h.blk,h.row,h.frs.keep (fun _ _=>rfl) b fun _ _ _ _=>rfl,h.tape.keep (fun _ _=>rfl) b,h.out,h.nodup,h.lt,fun k c=>by
   rcases d k c with a|a
   ·exact h.apart k a
   ·exact a⟩
def cW.popMany{vs us:List aI}(h:cW sh fp G base w sb gf cap t0 tv outv s0 fvs ⟨below++[f],tape,out⟩)(J:f.ops=vs++us)(u:f.ops.length<=100000):
 Calls prog 262 #[.pointer (some (aL gf (below.length*6))),Iv0 us.length] w fun e w'=>∃t B g,e=bE t/\Kept (aP sh sb gf outv fvs) w w'/\aP sh sb gf outv g=aP sh sb gf outv fvs/\g.length=fvs.length/\cW sh fp G base w' sb gf cap t0 tv outv s0 g ⟨below++[f.popMany us.length],tape,out⟩/\
  w'.ownsRow w.heap.size 142 1 t us.length B/\gF G w' B us/\(∀a∈us,aK a<=200)/\∀k,G k->w'.heap[k]?=w.heap[k]?:=by
 obtain⟨P,v,I,rfl,K,Q,S,p,N,k0,k1,k2,k3,k4,W⟩:=h.top;rw[<-K];obtain⟨⟨xs,d,z⟩,c⟩:=Q.ops;rw[J] at d z c;obtain⟨r,B,rfl,L,F,H,s⟩:=z.split;rw[J,Y5] at u;rw[Y5] at d;refine(uE base gf (P.length*6) vs.length us.length I v.ov r B w p W d L F (nW s) (by omega)).mono ?_
 rintro e w' ⟨t,n,D,Z,q,O,rfl,T,C⟩;have l:(f.popMany us.length).ops=vs:=by simp[aJ.popMany,J]
 have M:=h.grow q eD (fun _ h=>Y4 h)
 have E:KQ sh fp G base D { v with ov:=n } (f.popMany us.length):=by
  have m:∀b,G b->D.heap[b]?=w.heap[b]?:=fun b o=>q.block b (h.apart b o).1
  have A:∀k∈(v.ownX sh),k<w.heap.size:=fun k m=>h.lt k (by simp[aP,bW,m])
  have i:=Q.keep m eD fun k Y=>q.block k (A k Y)
  refine⟨i.fn,i.nx,i.ln,i.sp,i.vars,⟨r,?_,?_⟩,fun b o=>c b (j2 _ (by rw[l] at o;exact o))⟩
  ·rw[l];exact bA T fun k e=>q.block k (A k (by rw[C] at e;simp[FVal.ownX,e]))
  ·rw[l];exact H.keep m
 obtain⟨V,q2⟩:=M.setTop (j:=5) (x:=n) (v':={ v with ov:=n }) (by omega) rfl (by simp[FVal.ownX,C]) E
 have U:gf<w.heap.size:=aD p
 have y:∀k,G k->(D.setCell (aL gf (P.length*6+5)) n).heap[k]?=w.heap[k]?:=fun k m=>by
  rw[Y6 _ _ _ _ fun e=>(h.apart k m).2 (by simp[aP,e]),q.block k (h.apart k m).1]
 refine⟨t,B,_,Z,(Kept.of_below q).trans q2 fun x X=>Y4 X,by simp[aP,bW,FVal.ownX,C],by simp,V,bA O fun k m=>Y6 _ _ _ _ ?_,s.keep y,fun a ha=>c a (j9 _ ha),y⟩
 have:=cM O k m;show k≠gf
 omega
def dT.popMany{own:List Nat}{q:aH}{n:Nat}{vs us:List aI}(h:dT sh fp base sb gf n t0 s0 own q G ⟨below++[f],tape,out⟩ w)(F:n=below.length)(B:f.ops=vs++us)(g:f.ops.length<=100000):
 Calls prog 262 #[.pointer (some (aL gf (n*6))),Iv0 us.length] w fun e w'=>∃x d,e=bE (.slice x us.length d)/\∃G',Ext G G' w.heap.size/\PVs G' w' (.slice x us.length d) us/\(∀a∈us,aK a<=200)/\dT sh fp base sb gf n t0 s0 own q G' ⟨below++[f.popMany us.length],tape,out⟩ w'/\∀k,G k->w'.heap[k]?=w.heap[k]?:=by
 obtain⟨A,t,l,y,j,D,E,o,p⟩:=h;subst F;refine(o.popMany B g).mono ?_;rintro e w' ⟨J,K,c,H,m,s,z,I,i,C,v,u⟩;obtain⟨x,d,rfl⟩:=cY i;refine⟨x,d,H,fun k=>G k\/(Value.slice x us.length d).ownBlock=some k,⟨fun _=>Y4,fun k b=>b.imp_right fun e=>cM i k e⟩,PVs.ofRow i (C.mono fun _=>Y4) fun _=>Y3,v,⟨A.trans m p,Z4 t m.size,l,y,j,c,by rw[z,E],I.more (fun _=>Y4) fun k b=>?_,by rw[s];exact p⟩,u⟩
 rcases b with b|b
 ·exact Y4 b
 ·refine Y3 ⟨cP i k b,fun r=>?_⟩
  rw[s] at r;have:=o.lt k r;have:=cM i k b;omega
def M8(vs us:List aI)(h:cW sh fp F base w sb gf cap t0 tv outv s0 fvs ⟨below++[f],tape,out⟩)(q:below.length<=15)(k:base<=w.heap.size)(i:f.ops.length<=99000)(p:f.ops=vs++us):
 Calls prog 260 #[.agg #[Iv0 us.length],bO sb] w (iH sh fp F base sb gf t0 s0 (aP sh sb gf outv fvs) w below tape out (aO (.list us.length) f)):=by
 have A:=h.mid k (.cells #[Iv0 us.length] 287);have L:f.many us.length=us:=by simp[aJ.many,p]
 have r:(f.popMany us.length).ops=vs:=by simp[aJ.popMany,p]
 have H:(f.popMany us.length).ops.length<=100000:=by rw[r];rw[p,Y5] at i;omega
 have J:us.length<=99000:=by rw[p,Y5] at i;omega
 have I:aO (.list us.length) f=if aK (aW us)<=200 then ((f.popMany us.length).push (aW us),0) else (f.popMany us.length,6):=by
  simp only[aO,L,iC,if_true];by_cases D:200<aK (aW us)
  ·rw[if_pos D];exact(if_neg (by omega)).symm
  ·rw[if_neg D];exact(if_pos (by omega)).symm
 rw[I]
 refine(MZ w _ sb gf (below.length*6) us.length 6 (fun j=>aK (aW us)<=200/\iA sh fp F base sb gf t0 s0 (aP sh sb gf outv fvs) w ⟨below++[(f.popMany us.length).push (aW us)],tape,out⟩ j) (fun j=>¬aK (aW us)<=200/\iA sh fp F base sb gf t0 s0 (aP sh sb gf outv fvs) w ⟨below++[f.popMany us.length],tape,out⟩ j)
  (fun x d W=>∃G,Ext F G w.heap.size/\PVs G W (.slice x us.length d) us/\(∀a∈us,aK a<=200)/\dT sh fp base sb gf below.length t0 s0 (aP sh sb gf outv fvs) (w.alloc (.cells #[Iv0 us.length] 287)) G ⟨below++[f.popMany us.length],tape,out⟩ W)
  (fun t z W=>aK (aW us)<=200/\∃G,Ext F G w.heap.size/\PV G W (.iface t z) (aW us)/\dT sh fp base sb gf below.length t0 s0 (aP sh sb gf outv fvs) (w.alloc (.cells #[Iv0 us.length] 287)) G ⟨below++[f.popMany us.length],tape,out⟩ W) rfl (A.topS q) (fun W C=>?_) (fun W x d u=>?_) (fun W t z u=>?_)).mono ?_
 ·refine((A.same C).popMany rfl p (by omega)).mono ?_
  rintro e j ⟨x,d,y,G,g,c,v,m,_⟩;exact⟨x,d,y,G,g.le (by rw[C.heap];simp),c,v,m⟩
 ·obtain⟨G,g,c,v,m⟩:=u
  have n:∀l:List aI,(∀a∈l,aK a<=200)->(l.map aK).sum<=200*l.length:=fun l=>by
   induction l with
   |nil=>simp
   |cons a l M=>intro B;have O:=B a (by simp);have N:=M fun b E=>B b (by simp[E]);simp;omega
  have s:aK (aW us)<=1000000000:=by
   have:=n us v;rw[eZ];simp[aW];omega
  refine(IX G x d us W c s).mono ?_;rintro e j ⟨rfl,⟨o,rfl⟩|⟨o,rfl⟩⟩
  ·exact Y4 ⟨_,_,rfl,o,G,g,PV.lst c,m⟩
  ·exact Y3 ⟨rfl,by omega,m.doneX g⟩
 ·obtain⟨o,G,K,g,c⟩:=u;refine(c.push g o H).mono ?_;rintro e j ⟨y,m⟩;exact⟨y,o,m.doneX K⟩
 ·rintro e j (⟨rfl,g,c⟩|⟨rfl,g,c⟩)
  ·exact iH.ok (if_pos g) c
  ·exact iH.stop (if_neg g) (by decide) c
end
end Go.Proofs.YtddnpoiiimjpcaaGreatDoor
