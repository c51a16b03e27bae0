/- The program's machine: instructions, frames, states; how a tree becomes instructions: plain functions. -/
import Derived.Test.YtddnpoiiimjpcaaGreatDoorP00
set_option linter.defProp false
set_option maxRecDepth 100000
namespace Go.Proofs.YtddnpoiiimjpcaaGreatDoor.Hs
inductive aG where
 |begin (line:Nat) (seen:cO)
 |push (v:aI)
 |load (slot:Nat)
 |declare (slot:Nat)
 |assign (slot n:Nat)
 |jump (to_:Nat)
 |skip (to_:Nat)
 |shortcut (when:Bool) (to_:Nat)
 |truth
 |unary (op:cE)
 |binary (op:cE)
 |index
 |list (n:Nat)
 |length
 |read
 |call (f:Nat) (n:Nat)
 |give
 |drop
 |print
def aG.isBegin:aG->Bool
 |.begin _ _=>true
 |_=>false
structure eV where
 name:cE
 code:List aG
structure aJ where
 fn:eV
 next:Nat
 line:Nat
 seen:cO
 vars:List aI
 ops:List aI
structure cT where
 frames:List aJ
 tape:List Int
 out:cO
def aJ.push(f:aJ)(v:aI):aJ:={ f with ops:=f.ops++[v] }
def aJ.last(f:aJ):aI:=f.ops.getLast?.getD bN
def aJ.pop(f:aJ):aJ:={ f with ops:=f.ops.dropLast }
def aJ.many(f:aJ)(n:Nat):List aI:=f.ops.drop (f.ops.length-n)
def aJ.popMany(f:aJ)(n:Nat):aJ:={ f with ops:=f.ops.take (f.ops.length-n) }
noncomputable def iC(r:aI × Nat):aI × Nat:=if r.2=0 then if 200<aK r.1 then (bN,6) else r else r
noncomputable def mZ(whole:aI)(at_:List aI)(to_:aI):aI × Nat:=iC (cN at_ whole to_)
noncomputable def aO(i:aG)(f:aJ):aJ × Nat:=
 match i with
 |.begin l s=>({ f with line:=l,seen:=s },0)
 |.push v=>(f.push v,0)
 |.load k=>(f.push (f.vars[k]?.getD bN),0)
 |.declare k=>({ f.pop with vars:=f.vars.take k++[f.last] },0)
 |.assign k n=>
  let g:=f.pop.popMany n
  let r:=mZ (f.vars[k]?.getD bN) (f.pop.many n) f.last
  if r.2=0 then ({ g with vars:=f.vars.set k r.1 },0) else (g,r.2)
 |.jump t=>({ f with next:=t },0)
 |.skip t=>if f.last.sort=1 then (if f.last.n=1 then f.pop else { f.pop with next:=t },0) else (f.pop,2)
 |.shortcut w t=>if f.last.sort=1 then (if decide (f.last.n=1)=w then { f.pop.push f.last with next:=t } else f.pop,0) else (f.pop,2)
 |.truth=>if f.last.sort=1 then (f.pop.push f.last,0) else (f.pop,2)
 |.unary op=>let r:=fO (op++[120]) f.last;if r.2=0 then (f.pop.push r.1,0) else (f.pop,r.2)
 |.binary op=>let r:=eS op f.pop.last f.last;if r.2=0 then (f.pop.pop.push r.1,0) else (f.pop.pop,r.2)
 |.index=>let r:=dE f.pop.last f.last;if r.2=0 then (f.pop.pop.push r.1,0) else (f.pop.pop,r.2)
 |.list n=>let r:=iC (aW (f.many n),0);if r.2=0 then ((f.popMany n).push r.1,0) else (f.popMany n,r.2)
 |.length=>let r:=eG f.last;if r.2=0 then (f.pop.push r.1,0) else (f.pop,r.2)
 |.drop=>(f.pop,0)
 |_=>(f,0)
noncomputable def cJ(tab:List eV)(i:aG)(below:List aJ)(f:aJ)(tape:List Int)(out:cO):cT × Nat:=
 match i with
 |.read=>
  match tape with
  |[]=>(⟨below++[f],tape,out⟩,7)
  |t::r=>(⟨below++[f.push (bD t)],r,out⟩,0)
 |.call k n=>
  if below.length+1=16 then (⟨below++[f.popMany n],tape,out⟩,5)
  else (⟨below++[f.popMany n,⟨tab[k]?.getD ⟨[],[]⟩,0,0,[],f.many n,[]⟩],tape,out⟩,0)
 |.give=>(⟨below.dropLast++(below.getLast?.map fun g=>g.push f.last).toList,tape,out⟩,0)
 |.print=>if out.length=50 then (⟨below++[f.pop],tape,out⟩,8) else (⟨below++[f.pop],tape,out++[jU f.last]⟩,0)
 |i=>let r:=aO i f;(⟨below++[r.1],tape,out⟩,r.2)
def aJ.fetch(f:aJ):Option (aG × aJ):=f.fn.code[f.next]?.map fun i=>(i,{ f with next:=f.next+1 })
noncomputable def dY(tab:List eV):Nat->cT->Option (cT × Nat)
 |0,_=>none
 |k+1,m=>
  match m.frames.getLast? with
  |none=>some (m,1)
  |some f=>
   match f.fetch with
   |none=>none
   |some (i,g)=>
    let r:=cJ tab i m.frames.dropLast g m.tape m.out
    if r.2≠0 then some r
    else if i.isBegin then some r
    else dY tab k r.1
structure cD where
 time:Nat
 m:cT
 stop:Nat
def bU(time stop:Nat):Nat:=if stop=0/\time=500 then 9 else stop
def eE:cO->cE->Nat
 |[],_=>0
 |x::l,name=>if x=name then l.length else eE l name
def dD(fs:List aC)(name:cE):Nat:=fs.findIdx fun f=>f.text==name
def bS(c:aC->Nat->List aG):List aC->Nat->List aG
 |[],_=>[]
 |a::l,p=>c a p++bS c l (p+(c a p).length)
def aF(fs:List aC)(seen:cO):Nat->aC->Nat->List aG
 |0,_,_=>[]
 |d+1,a,p=>
  let kids:=bS (aF fs seen d) a.kids p
  if a.op==[48] then [.push (bD (((dK 0 a.text).getD 0:Nat):Int))]
  else if a.op==[115] then [.push (bK a.text)]
  else if a.op==[98,111,111,108] then [.push (bP (a.text==[116,114,117,101]))]
  else if a.op==[110,97,109,101] then [.load (eE seen a.text)]
  else if a.op==[108,105,115,116] then kids++[.list a.kids.length]
  else if a.op==[105,110,100,101,120] then kids++[.index]
  else if a.op==[45,120] then kids++[.unary [45]]
  else if a.op==[33,120] then kids++[.unary [33]]
  else if a.op==[99,97,108,108] then
   kids++[if a.text==[108,101,110] then .length else if a.text==[114,101,97,100] then .read else .call (dD fs a.text) a.kids.length]
  else if a.op==[38,38] || a.op==[124,124] then
   match a.kids with
   |[l,r]=>
    let cl:=aF fs seen d l p
    let cr:=aF fs seen d r (p+cl.length+1)
    cl++[.shortcut (a.op==[124,124]) (p+cl.length+1+cr.length+1)]++cr++[.truth]
   |_=>[]
  else kids++[.binary a.op]
def bI(c:cO->aC->Nat->List aG × cO):cO->List aC->Nat->List aG
 |_,[],_=>[]
 |seen,a::l,p=>(c seen a p).1++bI c (c seen a p).2 l (p+(c seen a p).1.length)
def bC(fs:List aC):Nat->cO->aC->Nat->List aG × cO
 |0,seen,_,_=>([],seen)
 |d+1,seen,a,p=>
  let start:=aG.begin a.line seen
  let blk:=fun (b:aC) q=>bI (bC fs d) seen b.kids q
  if a.op==[118,97,114] then
   match a.kids with
   |[t,v]=>(start::aF fs seen d v (p+1)++[.declare seen.length],t.text::seen)
   |_=>([],seen)
  else if a.op==[115,101,116] then
   (start::bS (aF fs seen d) a.kids (p+1)++[.assign (eE seen a.text) (a.kids.length-1)],seen)
  else if a.op==[105,102] then
   match a.kids with
   |c::t::e=>
    let cc:=aF fs seen d c (p+1)
    let ct:=blk t (p+1+cc.length+1)
    let q:=p+1+cc.length+1+ct.length+1
    let ce:=match e with|[x]=>blk x q|_=>[]
    (start::cc++[.skip q]++ct++[.jump (q+ce.length)]++ce,seen)
   |_=>([],seen)
  else if a.op==[119,104,105,108,101] then
   match a.kids with
   |[c,b]=>
    let cc:=aF fs seen d c (p+1)
    let cb:=blk b (p+1+cc.length+1)
    (start::cc++[.skip (p+1+cc.length+1+cb.length+1)]++cb++[.jump p],seen)
   |_=>([],seen)
  else if a.op==[114,101,116,117,114,110] then
   match a.kids with
   |[v]=>(start::aF fs seen d v (p+1)++[.give],seen)
   |_=>([start,.push (bD 0),.give],seen)
  else if a.op==[112,114,105,110,116] then
   match a.kids with
   |[v]=>(start::aF fs seen d v (p+1)++[.print],seen)
   |_=>([],seen)
  else
   match a.kids with
   |[c]=>(start::aF fs seen d c (p+1)++[.drop],seen)
   |_=>([],seen)
def fR(fs:List aC)(d:Nat)(f:aC):eV:=
 let seen:=(f.kids.dropLast.map (·.text)).reverse
 ⟨f.text,bI (bC fs d) seen ((f.kids.getLast?.map (·.kids)).getD []) 0++[.push (bD 0),.give]⟩
def dV(fs:List aC)(d:Nat):List eV:=fs.map (fR fs d)
def gV(fs:List aC)(d:Nat)(tape:List Int):cT:=⟨[⟨(dV fs d)[dD fs [109,97,105,110]]?.getD ⟨[],[]⟩,0,0,[],[],[]⟩],tape,[]⟩
structure eF where
 h:Nat
 v:Nat
 e:Option Nat
 b:Bool
def eN(D:cC)(T:Nat->eF)(q h v:Nat)(e:Option Nat):Prop:=D q/\(T q).h=h/\(T q).v<=v/\((T q).e=none\/(T q).e=e)
def iG(ar:Nat->Option Nat)(D:cC)(T:Nat->eF)(p:Nat)(i:aG):Prop:=
 (T p).b=i.isBegin/\(T p).h<=p/\
 match i with
 |.begin _ s=>s.length<=(T p).v/\eN D T (p+1) (T p).h (T p).v (some s.length)
 |.push _=>eN D T (p+1) ((T p).h+1) (T p).v (T p).e
 |.load k=>k<(T p).v/\eN D T (p+1) ((T p).h+1) (T p).v (T p).e
 |.declare k=>1<=(T p).h/\k<=(T p).v/\k<=90000/\(T p).e=some k/\eN D T (p+1) ((T p).h-1) (k+1) (T p).e
 |.assign k n=>n+1<=(T p).h/\k<(T p).v/\eN D T (p+1) ((T p).h-(n+1)) (T p).v (T p).e
 |.jump q=>(p<q\/(T q).b=true)/\eN D T q (T p).h (T p).v (T p).e
 |.skip q=>1<=(T p).h/\p<q/\eN D T q ((T p).h-1) (T p).v (T p).e/\eN D T (p+1) ((T p).h-1) (T p).v (T p).e
 |.shortcut _ q=>1<=(T p).h/\p<q/\eN D T q (T p).h (T p).v (T p).e/\eN D T (p+1) ((T p).h-1) (T p).v (T p).e
 |.truth=>1<=(T p).h/\eN D T (p+1) (T p).h (T p).v (T p).e
 |.unary _=>1<=(T p).h/\eN D T (p+1) (T p).h (T p).v (T p).e
 |.length=>1<=(T p).h/\eN D T (p+1) (T p).h (T p).v (T p).e
 |.binary _=>2<=(T p).h/\eN D T (p+1) ((T p).h-1) (T p).v (T p).e
 |.index=>2<=(T p).h/\eN D T (p+1) ((T p).h-1) (T p).v (T p).e
 |.list n=>n<=(T p).h/\eN D T (p+1) ((T p).h-n+1) (T p).v (T p).e
 |.read=>eN D T (p+1) ((T p).h+1) (T p).v (T p).e
 |.call k n=>n<=(T p).h/\ar k=some n/\eN D T (p+1) ((T p).h-n+1) (T p).v (T p).e
 |.give=>1<=(T p).h
 |.drop=>1<=(T p).h/\eN D T (p+1) ((T p).h-1) (T p).v (T p).e
 |.print=>1<=(T p).h/\eN D T (p+1) ((T p).h-1) (T p).v (T p).e
def KR(L:Nat->eF->Prop)(lo hi:Nat)(q:Nat):Prop:=(lo<=q/\q<=hi)\/∃y,L q y
def bH(ar:Nat->Option Nat)(L:Nat->eF->Prop)(p:Nat)(c:List aG)(h v:Nat)(e:Option Nat)(h' v':Nat)(e':Option Nat):Prop:=
 ∃T:Nat->eF,(∀q y,L q y->T q=y)/\(T p).h=h/\(T p).v<=v/\((T p).e=none\/(T p).e=e)/\
  (T (p+c.length)).h=h'/\(T (p+c.length)).v=v'/\(T (p+c.length)).e=e'/\
  ∀j i,c[j]?=some i->iG ar (KR L p (p+c.length)) T (p+j) i
def eN.same{D b:cC}{T T':Nat->eF}{q h v:Nat}{e:Option Nat}(f:eN D T q h v e)(c:D q->b q/\(T' q).h=(T q).h/\(T' q).v<=(T q).v/\((T' q).e=none\/(T' q).e=(T q).e)):eN b T' q h v e:=by
 obtain⟨j,d,m,i⟩:=f;obtain⟨k,g,l,a⟩:=c j;refine⟨k,by rw[g,d],by omega,?_⟩
 rcases a with a|a
 ·exact Y4 a
 ·rw[a];exact i
def iG.same{ar:Nat->Option Nat}{D e:cC}{T T':Nat->eF}{p:Nat}{i:aG}(f:iG ar D T p i)(c:T' p=T p)
 (b:∀q,D q->e q/\(T' q).h=(T q).h/\(T' q).v<=(T q).v/\((T' q).e=none\/(T' q).e=(T q).e)) (k:∀q,D q->q<=p->(T q).b=true->(T' q).b=true):iG ar e T' p i:=by
 obtain⟨j,g,a⟩:=f;refine⟨by rw[c];exact j,by rw[c];exact g,?_⟩
 cases i<;>simp only at a ⊢<;>try rw[c]
 case jump q=>
  refine⟨?_,a.2.same (b _)⟩;rcases a.1 with h|h
  ·exact Y4 h
  ·rcases l6 p q with d|d
   ·exact Y4 d
   ·exact Y3 (k q a.2.1 d h)
 all_goals first
  |exact a
  |exact a.same (b _)
  |exact⟨a.1,a.2.same (b _)⟩
  |exact⟨a.1,a.2.1,a.2.2.same (b _)⟩
  |exact⟨a.1,a.2.1,a.2.2.1.same (b _),a.2.2.2.same (b _)⟩
  |exact⟨a.1,a.2.1,a.2.2.1,a.2.2.2.1,a.2.2.2.2.same (b _)⟩
def bH.append{ar:Nat->Option Nat}{L:Nat->eF->Prop}{p:Nat}{c c':List aG}{h v s v1 r v2:Nat}{e w t:Option Nat}(a:bH ar L p c h v e s v1 w)(b:bH ar L (p+c.length) c' s v1 w r v2 t)
 (F:∀q y,L q y->q<=p\/p+c.length+c'.length<=q) (I:c≠[]):bH ar L p (c++c') h v e r v2 t:=by
 obtain⟨T,n,x,z,C,H,E,D,G⟩:=a;obtain⟨U,u1,u2,u3,u4,u5,u6,u7,u8⟩:=b;have B:0<c.length:=v7.2 I;have f:(c++c').length=c.length+c'.length:=Y5;refine⟨fun q=>if q<p+c.length then T q else U q,fun q y d=>?_,?_,?_,?_,?_,?_,?_,fun j i m=>?_⟩
 ·rcases F q y d with h|h
  ·simp only[if_pos (show q<p+c.length by omega)];exact n q y d
  ·simp only[if_neg (show ¬q<p+c.length by omega)];exact u1 q y d
 ·simp only[if_pos (show p<p+c.length by omega)];exact x
 ·simp only[if_pos (show p<p+c.length by omega)];exact z
 ·simp only[if_pos (show p<p+c.length by omega)];exact C
 ·simp only[if_neg (show ¬p+(c++c').length<p+c.length by omega)];rw[f,<-ay_];exact u5
 ·simp only[if_neg (show ¬p+(c++c').length<p+c.length by omega)];rw[f,<-ay_];exact u6
 ·simp only[if_neg (show ¬p+(c++c').length<p+c.length by omega)];rw[f,<-ay_];exact u7
 ·rcases l6 j c.length with k|k
  ·rw[l7 k] at m;refine(G j i m).same (by simp only[if_pos (show p+j<p+c.length by omega)]) (fun q d=>?_) (fun q d o l=>?_)
   ·rcases l6 q (p+c.length) with h|h
    ·rw[if_pos h];exact⟨d.imp (fun d=>⟨d.1,by omega⟩) id,rfl,dH,Y3 rfl⟩
    ·rw[if_neg (show ¬q<p+c.length by omega)]
     rcases p9 h with h|h
     ·subst h;exact⟨Y4 ⟨by omega,by omega⟩,by rw[u2,H],by rw[E];exact u3,by rw[D];exact u4⟩
     ·rcases d with d|⟨y,g⟩
      ·omega
      ·rw[n q y g,u1 q y g];exact⟨Y3 ⟨y,g⟩,rfl,dH,Y3 rfl⟩
   ·simp only[if_pos (show q<p+c.length by omega)];exact l
  ·rw[j1 k] at m;have u:=u8 (j-c.length) i m;rw[show p+c.length+(j-c.length)=p+j by omega] at u
   have A:j-c.length<c'.length:=(j4.1 m).1;refine u.same (by simp only[if_neg (show ¬p+j<p+c.length by omega)]) (fun q d=>?_) (fun q d o l=>?_)
   ·rcases d with d|⟨y,g⟩
    ·rw[if_neg (show ¬q<p+c.length by omega)]
     exact⟨Y4 ⟨by omega,by omega⟩,rfl,dH,Y3 rfl⟩
    ·refine⟨Y3 ⟨y,g⟩,?_⟩;split
     ·rw[n q y g,u1 q y g];exact⟨rfl,dH,Y3 rfl⟩
     ·exact⟨rfl,dH,Y3 rfl⟩
   ·rcases d with d|⟨y,g⟩
    ·simp only[if_neg (show ¬q<p+c.length by omega)];exact l
    ·split
     ·rw[n q y g,<-u1 q y g];exact l
     ·exact l
def bH.nil(ar:Nat->Option Nat)(p h v:Nat)(e:Option Nat)(L:Nat->eF->Prop)(k:∀q y,L q y->q=p->y.h=h/\y.v=v/\y.e=e)(l:∀q y z,L q y->L q z->y=z):bH ar L p [] h v e h v e:=by
 classical
 refine⟨fun q=>if hq:∃y,L q y then hq.choose else ⟨h,v,e,false⟩,fun q y d=>?_,?_⟩
 ·have a:∃y,L q y:=⟨y,d⟩;simp only[dif_pos a];exact l q _ _ a.choose_spec d
 ·simp only[Z5,Nat.add_zero];split
  ·rename_i a;obtain⟨c,g,f⟩:=k p _ a.choose_spec rfl;exact⟨c,by omega,Y3 f,c,g,f,fun j i b=>by simp at b⟩
  ·exact⟨rfl,dH,Y3 rfl,rfl,rfl,rfl,fun j i b=>by simp at b⟩
structure oC(ar:Nat->Option Nat)(c:List aG)(T:Nat->eF):Prop where
 ins:∀j i,c[j]?=some i->iG ar (fun q=>q<c.length) T j i
 len:c.length<=80000
def iN(c:List aG):Prop:=(∃l s r,c=.begin l s::r)\/∃v,c=[.push v,.give]
structure cL(ar:Nat->Option Nat)(f:aJ)(more:Nat):Prop where
 code:∃T,oC ar f.fn.code T/\(T f.next).h=f.ops.length+more/\(T f.next).v<=f.vars.length/\((T f.next).e=none\/(T f.next).e=some f.seen.length)
 next:f.next<f.fn.code.length
 seen:f.seen.length<=f.vars.length
 vars:f.vars.length<=90001
structure jX(ar:Nat->Option Nat)(tab:List eV):Prop where
 fn:∀k n,ar k=some n->∃f T,tab[k]?=some f/\oC ar f.code T/\(T 0).h=0/\(T 0).v<=n/\(T 0).e=none/\
  iN f.code
structure nB(ar:Nat->Option Nat)(m:cT):Prop where
 low:∀f∈m.frames.dropLast,cL ar f 1
 top:∀f,m.frames.getLast?=some f->cL ar f 0
 deep:m.frames.length<=16
def fJ{b:Type}(l:List b)(a:b):(l++[a]).getLast?=some a:=by simp
def gE{b:Type}(l:List b)(a:b):(l++[a]).dropLast=l:=by simp
def nB.snoc{ar:Nat->Option Nat}{a:List aJ}{f:aJ}{t:List Int}{o:cO}(d:∀g∈a,cL ar g 1)(c:cL ar f 0)(e:a.length+1<=16):nB ar ⟨a++[f],t,o⟩:=
 ⟨by simp only[gE];exact d,fun g b=>by simp only[fJ] at b;cases b;exact c,by simp;omega⟩
def cL.flow{ar:Nat->Option Nat}{T:Nat->eF}{f g:aJ}{h v:Nat}{e:Option Nat}(l:oC ar f.fn.code T)(j:eN (fun q=>q<f.fn.code.length) T g.next h v e)(b:g.fn=f.fn)(m:h=g.ops.length)(n:v<=g.vars.length)(d:e=none\/e=some g.seen.length)
 (i:g.seen.length<=g.vars.length) (k:g.vars.length<=90001):cL ar g 0:=by
 obtain⟨c,o,p,a⟩:=j;refine⟨⟨T,by rw[b];exact l,by omega,by omega,?_⟩,by rw[b];exact c,i,k⟩
 rcases a with a|a
 ·exact Y4 a
 ·rw[a];exact d
def aJ.pop_len(f:aJ):f.pop.ops.length=f.ops.length-1:=by simp[aJ.pop]
def aJ.push_len(f:aJ)(v:aI):(f.push v).ops.length=f.ops.length+1:=by simp[aJ.push]
def aJ.popMany_len(f:aJ)(n:Nat):(f.popMany n).ops.length=f.ops.length-n:=by simp[aJ.popMany]
def EC{ar:Nat->Option Nat}{T:Nat->eF}{f:aJ}{i:aG}(e:oC ar f.fn.code T)(c:iG ar (fun q=>q<f.fn.code.length) T f.next i)
 (p:(T f.next).h=f.ops.length) (j:(T f.next).v<=f.vars.length) (d:(T f.next).e=none\/(T f.next).e=some f.seen.length) (b:f.seen.length<=f.vars.length) (g:f.vars.length<=90001)
 (C:i≠.give) (B:i≠.read) (z:i≠.print) (u:∀k n,i≠.call k n) (r:aJ × Nat) (a:r=aO i { f with next:=f.next+1 }):
 r.1.seen.length<=r.1.vars.length/\(r.2=0->cL ar r.1 0):=by
 obtain⟨_,_,c⟩:=c;have x:=b;cases i with
 |give=>exact absurd rfl C
 |read=>exact absurd rfl B
 |print=>exact absurd rfl z
 |call k n=>exact absurd rfl (u k n)
 |begin l s=>
  simp only[aO] at a c;subst a;exact⟨by simp only;omega,fun _=>cL.flow (f:=f) e c.2 rfl p j (Y3 rfl) (by simp only;omega) g⟩
 |push v=>
  simp only[aO] at a c;subst a;exact⟨b,fun _=>cL.flow (f:=f) e c rfl (by rw[aJ.push_len];simp only;omega) j d b g⟩
 |load k=>
  simp only[aO] at a c;subst a;exact⟨b,fun _=>cL.flow (f:=f) e c.2 rfl (by rw[aJ.push_len];simp only;omega) j d b g⟩
 |declare k=>
  simp only[aO] at a c;subst a;obtain⟨G,E,F,A,y⟩:=c;have t:f.seen.length=k:=by rcases d with d|d<;>rw[A] at d<;>cases d;rfl
  have o:(f.vars.take k++[aJ.last { f with next:=f.next+1 }]).length=k+1:=by simp;omega
  exact⟨by show f.seen.length<=(f.vars.take k++[_]).length;rw[o];omega,fun _=>cL.flow (f:=f) e y rfl (by show _=(aJ.pop _).ops.length;rw[aJ.pop_len];simp only;omega) (by show _<=(f.vars.take k++[_]).length;rw[o];omega) d (by show f.seen.length<=(f.vars.take k++[_]).length;rw[o];omega) (by show (f.vars.take k++[_]).length<=_;rw[o];omega)⟩
 |assign k n=>
  simp only[aO] at a c;split at a
  ·subst a;refine⟨by simp only[x6];exact b,fun _=>cL.flow (f:=f) e c.2.2 rfl ?_ (by simp only[x6];exact j) d (by simp only[x6];exact b) (by simp only[x6];exact g)⟩
   show _=(aJ.popMany _ n).ops.length
   rw[aJ.popMany_len,aJ.pop_len];simp only;omega
  ·subst a;rename_i m;exact⟨b,fun h=>absurd h m⟩
 |jump q=>
  simp only[aO] at a c;subst a;exact⟨b,fun _=>cL.flow (f:=f) e c.2 rfl p j d b g⟩
 |skip q=>
  simp only[aO] at a c;split at a
  ·subst a;refine⟨?_,fun _=>?_⟩
   ·split<;>exact b
   ·split
    ·exact cL.flow (f:=f) e c.2.2.2 rfl (by rw[aJ.pop_len];simp only;omega) j d b g
    ·exact cL.flow (f:=f) e c.2.2.1 rfl (by show _=(aJ.pop _).ops.length;rw[aJ.pop_len];simp only;omega) j d b g
  ·subst a;exact⟨b,fun h=>absurd h (by simp)⟩
 |shortcut w q=>
  simp only[aO] at a c;split at a
  ·subst a;refine⟨?_,fun _=>?_⟩
   ·split<;>exact b
   ·split
    ·exact cL.flow (f:=f) e c.2.2.1 rfl (by show _=(aJ.push (aJ.pop _) _).ops.length;rw[aJ.push_len,aJ.pop_len];simp only;omega) j d b g
    ·exact cL.flow (f:=f) e c.2.2.2 rfl (by rw[aJ.pop_len];simp only;omega) j d b g
  ·subst a;exact⟨b,fun h=>absurd h (by simp)⟩
 |truth=>
  simp only[aO] at a c;split at a
  ·subst a;exact⟨b,fun _=>cL.flow (f:=f) e c.2 rfl (by rw[aJ.push_len,aJ.pop_len];simp only;omega) j d b g⟩
  ·subst a;exact⟨b,fun h=>absurd h (by simp)⟩
 |unary D=>
  simp only[aO] at a c;split at a
  ·subst a;exact⟨b,fun _=>cL.flow (f:=f) e c.2 rfl (by rw[aJ.push_len,aJ.pop_len];simp only;omega) j d b g⟩
  ·subst a;rename_i m;exact⟨b,fun h=>absurd h m⟩
 |length=>
  simp only[aO] at a c;split at a
  ·subst a;exact⟨b,fun _=>cL.flow (f:=f) e c.2 rfl (by rw[aJ.push_len,aJ.pop_len];simp only;omega) j d b g⟩
  ·subst a;rename_i m;exact⟨b,fun h=>absurd h m⟩
 |binary D=>
  simp only[aO] at a c;split at a
  ·subst a;exact⟨b,fun _=>cL.flow (f:=f) e c.2 rfl (by rw[aJ.push_len,aJ.pop_len,aJ.pop_len];simp only;omega) j d b g⟩
  ·subst a;rename_i m;exact⟨b,fun h=>absurd h m⟩
 |index=>
  simp only[aO] at a c;split at a
  ·subst a;exact⟨b,fun _=>cL.flow (f:=f) e c.2 rfl (by rw[aJ.push_len,aJ.pop_len,aJ.pop_len];simp only;omega) j d b g⟩
  ·subst a;rename_i m;exact⟨b,fun h=>absurd h m⟩
 |list n=>
  simp only[aO] at a c;split at a
  ·subst a;exact⟨b,fun _=>cL.flow (f:=f) e c.2 rfl (by rw[aJ.push_len,aJ.popMany_len];simp only;omega) j d b g⟩
  ·subst a;rename_i m;exact⟨b,fun h=>absurd h m⟩
 |drop=>
  simp only[aO] at a c;subst a;exact⟨b,fun _=>cL.flow (f:=f) e c.2 rfl (by rw[aJ.pop_len];simp only;omega) j d b g⟩
structure fQ(ar:Nat->Option Nat)(m:cT):Prop where
 ok:nB ar m
 start:∀f∈m.frames,iN f.fn.code
def cL.pushed{ar:Nat->Option Nat}{f:aJ}(h:cL ar f 1)(v:aI):cL ar (f.push v) 0:=by
 obtain⟨⟨T,c,i,g,b⟩,e,a,d⟩:=h;exact⟨⟨T,c,by show (T f.next).h=(f.ops++[v]).length+0;simp;omega,g,b⟩,e,a,d⟩
def wD{b:List eV}{i:aG}{a:List aJ}{f:aJ}{t:List Int}{o:cO}(g:i≠.give)(e:i≠.read)(c:i≠.print)(d:∀k n,i≠.call k n):cJ b i a f t o=(⟨a++[(aO i f).1],t,o⟩,(aO i f).2):=by
 cases i<;>first|rfl|exact absurd rfl g|exact absurd rfl e|exact absurd rfl c|exact absurd rfl (d _ _)
def rW(i:aG)(f:aJ):(aO i f).1.fn=f.fn:=by
 cases i<;>simp only[aO]<;>(repeat' split)<;>rfl
def wC{ar:Nat->Option Nat}{A:List eV}(ht:jX ar A){d:List aJ}{f:aJ}{t:List Int}{o:cO}(h:fQ ar ⟨d++[f],t,o⟩){i:aG}{g:aJ}(I:f.fetch=some (i,g)):
 (∀x∈(cJ A i d g t o).1.frames,x.seen.length<=x.vars.length)/\(cJ A i d g t o).1.frames.length<=16/\((cJ A i d g t o).2=0->fQ ar (cJ A i d g t o).1):=by
 have q:∀x∈d,cL ar x 1:=by have:=h.ok.low;simpa only[gE] using this
 have Q:cL ar f 0:=h.ok.top f (fJ _ _);have w:d.length+1<=16:=by have:=h.ok.deep;simpa using this
 have z:∀x∈d,iN x.fn.code:=fun x m=>h.start x (by simp[m])
 have H:iN f.fn.code:=h.start f (by simp)
 obtain⟨⟨T,K,hh,W,X⟩,ac,C,V⟩:=Q
 obtain⟨rfl,hi⟩:g={ f with next:=f.next+1 }/\f.fn.code[f.next]?=some i:=by
  unfold aJ.fetch at I;cases m:f.fn.code[f.next]? with
  |none=>rw[m] at I;cases I
  |some j=>rw[m] at I;simp at I;exact⟨I.2.symm,by rw[I.1]⟩
 have D:=K.ins _ _ hi;have L:∀x∈d,x.seen.length<=x.vars.length:=fun x m=>(q x m).seen
 by_cases hn:i=.give
 ·subst hn;rcases y8 d with rfl|⟨b,x,rfl⟩
  ·refine⟨by simp[cJ],by simp[cJ],fun _=>⟨⟨by simp[cJ],by simp[cJ],by simp[cJ]⟩,by simp[cJ]⟩⟩
  ·rw[y9] at*;have e:cJ A .give (b++[x]) { f with next:=f.next+1 } t o=(⟨b++[x.push (aJ.last { f with next:=f.next+1 })],t,o⟩,0):=by simp[cJ]
   rw[e];refine⟨fun y u=>?_,by simp at w ⊢;omega,fun _=>⟨nB.snoc (fun y u=>q y (by simp[u])) ((q x (by simp)).pushed _) (by simp at w;omega),fun y u=>?_⟩⟩
   ·rcases Z2.1 u with u|u
    ·exact L y (by simp[u])
    ·rw[Z1.1 u];exact L x (by simp)
   ·rcases Z2.1 u with u|u
    ·exact z y (by simp[u])
    ·rw[Z1.1 u];exact z x (by simp)
 have p:∀y:aJ,y.seen.length<=y.vars.length->∀x∈d++[y],x.seen.length<=x.vars.length:=fun y u x m=>by
  rcases Z2.1 m with m|m
  ·exact L x m
  ·rw[Z1.1 m];exact u
 have B:∀y:aJ,cL ar y 0->y.fn=f.fn->∀t o,fQ ar ⟨d++[y],t,o⟩:=fun y u aa t o=>⟨nB.snoc q u w,fun x m=>by
  rcases Z2.1 m with m|m
  ·exact z x m
  ·rw[Z1.1 m,aa];exact H⟩
 by_cases Z:i=.read
 ·subst Z;cases t with
  |nil=>exact⟨p _ C,by simp[cJ];omega,fun J=>by simp[cJ] at J⟩
  |cons a r=>exact⟨p _ C,by simp[cJ];omega,fun _=>B (aJ.push { f with next:=f.next+1 } (bD a)) (cL.flow (f:=f) K D.2.2 rfl (by rw[aJ.push_len];simp only;omega) W X C V) rfl _ _⟩
 by_cases Y:i=.print
 ·subst Y;simp only[cJ];split
  ·exact⟨p _ C,by simp;omega,fun J=>by simp at J⟩
  ·exact⟨p _ C,by simp;omega,fun _=>B (aJ.pop { f with next:=f.next+1 }) (cL.flow (f:=f) K D.2.2.2 rfl (by rw[aJ.pop_len];simp only;omega) W X C V) rfl _ _⟩
 by_cases hk:∃k n,i=.call k n
 ·obtain⟨k,n,rfl⟩:=hk;simp only[cJ];split
  ·exact⟨p _ C,by simp;omega,fun J=>by simp at J⟩
  ·rename_i hd;obtain⟨_,_,ab,S,N⟩:=D;obtain⟨c,U,c1,c2,c3,c4,c5,c6⟩:=ht.fn k n S;have F:(aJ.many { f with next:=f.next+1 } n).length=n:=by simp[aJ.many];omega
   rw[c1]
   have G:cL ar ⟨c,0,0,[],aJ.many { f with next:=f.next+1 } n,[]⟩ 0:=by
    refine⟨⟨U,c2,by simp[c3],by simp only[F];exact c4,Y4 c5⟩,?_,by simp,by simp only[F];have:=c2.len;have:=K.len;have:=(K.ins _ _ hi).2.1;omega⟩
    rcases c6 with ⟨l,s,r,e⟩|⟨v,e⟩<;>simp[e]
   have E:cL ar (aJ.popMany { f with next:=f.next+1 } n) 1:=by
    obtain⟨f1,f2,f3,P⟩:=N;refine⟨⟨T,K,?_,Z4 f3 W,?_⟩,f1,C,V⟩
    ·rw[aJ.popMany_len];show (T (f.next+1)).h=_;simp only;omega
    ·rcases P with P|P
     ·exact Y4 P
     ·show (T (f.next+1)).e=none\/(T (f.next+1)).e=_;rw[P];exact X
   have e1:d++[aJ.popMany { f with next:=f.next+1 } n,(⟨c,0,0,[],aJ.many { f with next:=f.next+1 } n,[]⟩:aJ)]=(d++[aJ.popMany { f with next:=f.next+1 } n])++[(⟨c,0,0,[],aJ.many { f with next:=f.next+1 } n,[]⟩:aJ)]:=by simp
   simp only[Option.getD_some];rw[e1];refine⟨fun x m=>?_,by simp;omega,fun _=>⟨nB.snoc (fun x m=>?_) G (by simp;omega),fun x m=>?_⟩⟩
   ·rcases Z2.1 m with m|m
    ·exact p _ E.seen x m
    ·rw[Z1.1 m];exact G.seen
   ·rcases Z2.1 m with m|m
    ·exact q x m
    ·rw[Z1.1 m];exact E
   ·rcases Z2.1 m with m|m
    ·rcases Z2.1 m with m|m
     ·exact z x m
     ·rw[Z1.1 m];exact H
    ·rw[Z1.1 m];exact c6
 have M:∀k n,i≠.call k n:=fun k n e=>hk ⟨k,n,e⟩
 rw[wD hn Z Y M];have O:=EC K D hh W X C V hn Z Y M _ rfl;exact⟨p _ O.1,by simp;omega,fun J=>B _ (O.2 J) (rW _ _) _ _⟩
def jQ(f:aJ):Nat:=if f.next=0 then 2 else if f.fn.code.length=2 then 1 else 4*(f.fn.code.length-f.next)
def wgts(l:List aJ):Nat:=(l.map jQ).sum
def yO{ar:Nat->Option Nat}{T:Nat->eF}{f:aJ}{i:aG}(a:iG ar (fun q=>q<f.fn.code.length) T f.next i)
 (e:i.isBegin=false) (o:i≠.give) (m:i≠.read) (j:i≠.print) (g:∀k n,i≠.call k n):
 (aO i { f with next:=f.next+1 }).2=0->(f.next<(aO i { f with next:=f.next+1 }).1.next/\(aO i { f with next:=f.next+1 }).1.next<f.fn.code.length)\/(T (aO i { f with next:=f.next+1 }).1.next).b=true/\(aO i { f with next:=f.next+1 }).1.next<f.fn.code.length:=by
 obtain⟨_,_,a⟩:=a;intro b;cases i with
 |give=>exact absurd rfl o
 |read=>exact absurd rfl m
 |print=>exact absurd rfl j
 |call k n=>exact absurd rfl (g k n)
 |begin l s=>simp[aG.isBegin] at e
 |jump q=>
  simp only at a;obtain⟨c|c,d⟩:=a
  ·exact Y4 ⟨c,d.1⟩
  ·exact Y3 ⟨c,d.1⟩
 |skip q=>
  simp only[aO] at a b ⊢
  split
  ·simp only;split
   ·exact Y4 ⟨k9 _,a.2.2.2.1⟩
   ·exact Y4 ⟨a.2.1,a.2.2.1.1⟩
  ·rename_i h;rw[if_neg h] at b;simp at b
 |shortcut w q=>
  simp only[aO] at a b ⊢
  split
  ·simp only;split
   ·exact Y4 ⟨a.2.1,a.2.2.1.1⟩
   ·exact Y4 ⟨k9 _,a.2.2.2.1⟩
  ·rename_i h;rw[if_neg h] at b;simp at b
 |assign k n=>
  simp only[aO] at a b ⊢
  split<;>exact Y4 ⟨k9 _,a.2.2.1⟩
 |declare k=>exact Y4 ⟨k9 _,a.2.2.2.2.1⟩
 |push v=>exact Y4 ⟨k9 _,a.1⟩
 |load k=>exact Y4 ⟨k9 _,a.2.1⟩
 |drop=>exact Y4 ⟨k9 _,a.2.1⟩
 |truth=>simp only[aO] at a ⊢;split<;>exact Y4 ⟨k9 _,a.2.1⟩
 |unary p=>simp only[aO] at a ⊢;split<;>exact Y4 ⟨k9 _,a.2.1⟩
 |length=>simp only[aO] at a ⊢;split<;>exact Y4 ⟨k9 _,a.2.1⟩
 |binary p=>simp only[aO] at a ⊢;split<;>exact Y4 ⟨k9 _,a.2.1⟩
 |index=>simp only[aO] at a ⊢;split<;>exact Y4 ⟨k9 _,a.2.1⟩
 |list n=>simp only[aO] at a ⊢;split<;>exact Y4 ⟨k9 _,a.2.1⟩
def gQ(l:List aJ)(f:aJ):wgts (l++[f])=wgts l+jQ f:=by simp[wgts]
def zF{f:aJ}(h:f.next<f.fn.code.length):1<=jQ f:=by unfold jQ;repeat' split
                                                    all_goals omega
def KW(f:aJ)(v:aI):jQ (f.push v)=jQ f:=rfl
def uP{f g:aJ}{i:aG}(m:iN f.fn.code)(a:f.fn.code[f.next]?=some i)(c:i.isBegin=false)(d:g.fn=f.fn)(n:f.next<g.next)(k:g.next<f.fn.code.length):jQ g<jQ f:=by
 unfold jQ;rw[d];rcases m with ⟨l,s,r,e⟩|⟨v,e⟩
 ·have j:f.next≠0:=fun h=>by rw[e,h] at a;simp at a;rw[<-a] at c;simp[aG.isBegin] at c
  rw[if_neg (show g.next≠0 by omega),if_neg j]
  split<;>omega
 ·have b:f.fn.code.length=2:=by rw[e];rfl
  rw[b] at k;rw[if_neg (show g.next≠0 by omega),if_pos b,if_pos (show f.next=0 by omega)]
  omega
def KX{f g:aJ}{k n:Nat}(i:iN f.fn.code)(a:f.fn.code[f.next]?=some (.call k n))(c:g.fn=f.fn)(j:f.next<g.next)(m:g.next<f.fn.code.length):jQ g+2<jQ f:=by
 unfold jQ;rw[c]
 have d:f.next≠0:=fun h=>by
  rcases i with ⟨l,s,r,e⟩|⟨v,e⟩<;>rw[e,h] at a<;>simp at a
 have b:f.fn.code.length≠2:=by omega
 rw[if_neg (show g.next≠0 by omega),if_neg d,if_neg b]
 split
 ·omega
 ·omega
structure KU(ar:Nat->Option Nat)(r:cT × Nat):Prop where
 told:∀x∈r.1.frames,x.seen.length<=x.vars.length
 deep:r.1.frames.length<=16
 ok:r.2=0->fQ ar r.1/\r.1.frames≠[]
def mS{l:List aJ}(h:l≠[]):∃b f,l=b++[f]:=by
 rcases y8 l with a|⟨b,f,a⟩
 ·exact absurd a h
 ·exact⟨b,f,by rw[a,y9]⟩
def xB{f:aJ}(h:f.next<f.fn.code.length):f.fetch=some (f.fn.code[f.next],{ f with next:=f.next+1 }):=by
 unfold aJ.fetch;rw[Z8 h];rfl
def tJ{ar:Nat->Option Nat}{a:List eV}(i:jX ar a){k:Nat}{b:List aJ}{f:aJ}{t:List Int}{o:cO}(h:fQ ar ⟨b++[f],t,o⟩){l:Nat}{s:cO}(m:f.fn.code[f.next]?=some (.begin l s)):
 ∃r,dY a (k+1) ⟨b++[f],t,o⟩=some r/\KU ar r:=by
 have d:f.fetch=some (.begin l s,{ f with next:=f.next+1 }):=by unfold aJ.fetch;rw[m];rfl
 obtain⟨g,e,j⟩:=wC i h d;refine⟨cJ a (.begin l s) b { f with next:=f.next+1 } t o,?_,g,e,fun c=>⟨j c,by simp[cJ]⟩⟩
 rw[dY];simp only[fJ,d,gE];have c:(cJ a (.begin l s) b { f with next:=f.next+1 } t o).2=0:=rfl
 rw[if_neg (by rw[c];simp),if_pos (show (aG.begin l s).isBegin=true from rfl)]
def lH{ar:Nat->Option Nat}{p:List eV}(w:jX ar p):∀(k:Nat) (m:cT),fQ ar m->wgts m.frames+2<=k->∃r,dY p k m=some r/\KU ar r
 |0,_,_,H=>by omega
 |k+1,⟨fr,t,o⟩,h,H=>by
  by_cases E:fr=[]
  ·subst E;exact⟨(⟨[],t,o⟩,1),rfl,by simp,by simp,fun l=>by simp at l⟩
  obtain⟨b,f,rfl⟩:=mS E;have d:cL ar f 0:=h.ok.top f (fJ _ _);have s:iN f.fn.code:=h.start f (by simp)
  have N:=xB d.next
  have C:f.fn.code[f.next]?=some (f.fn.code[f.next]'d.next):=Z8 d.next
  generalize f.fn.code[f.next]'d.next=i at N C
  obtain⟨Y,W,h3⟩:=wC w h N;by_cases l:(cJ p i b { f with next:=f.next+1 } t o).2=0
  rotate_left
  ·refine⟨_,?_,Y,W,fun X=>absurd X l⟩
   rw[dY];simp only[fJ,N,gE];rw[if_pos l]
  cases L:i.isBegin;rotate_left
  ·cases i<;>simp[aG.isBegin] at L
   exact tJ w h C
  have e:dY p (k+1) ⟨b++[f],t,o⟩=dY p k (cJ p i b { f with next:=f.next+1 } t o).1:=by
   rw[dY];simp only[fJ,N,gE];rw[if_neg (by rw[l];simp),L]
   rfl
  rw[e];have A:=h3 l;simp only at H;rw[gQ] at H;obtain⟨⟨T,V,hh,hv,he⟩,K,hs,hm⟩:=d;have u:=V.ins _ _ C;by_cases S:i=.give
  ·subst S;refine lH w k _ A ?_;have J:=zF K;rcases y8 b with rfl|⟨U,x,rfl⟩
   ·simp[cJ,wgts] at H ⊢;omega
   ·rw[y9] at*;have Z:(cJ p .give (U++[x]) { f with next:=f.next+1 } t o).1.frames=U++[x.push (aJ.last { f with next:=f.next+1 })]:=by simp[cJ]
    rw[Z,gQ,KW];rw[gQ] at H;omega
  by_cases Q:i=.read
  ·subst Q;cases t with
   |nil=>simp[cJ] at l
   |cons a r=>
    refine lH w k _ A ?_;have J:=uP (g:=aJ.push { f with next:=f.next+1 } (bD a)) s C rfl rfl (k9 _) u.2.2.1
    show wgts (b++[_])+2<=k
    rw[gQ];omega
  by_cases P:i=.print
  ·subst P;refine lH w k _ A ?_;have J:=uP (g:=aJ.pop { f with next:=f.next+1 }) s C rfl rfl (k9 _) u.2.2.2.1
   simp only[cJ] at l ⊢
   split at l
   ·simp at l
   ·rw[if_neg (by assumption)]
    show wgts (b++[_])+2<=k
    rw[gQ];omega
  by_cases F:∃c n,i=.call c n
  ·obtain⟨c,n,rfl⟩:=F;refine lH w k _ A ?_;have J:=KX (g:=aJ.popMany { f with next:=f.next+1 } n) s C rfl (k9 _) u.2.2.2.2.1
   simp only[cJ] at l ⊢
   split at l
   ·simp at l
   ·rw[if_neg (by assumption)]
    have e1:∀y z:aJ,b++[y,z]=(b++[y])++[z]:=by simp
    simp only;rw[e1,gQ,gQ];have:∀c v,jQ ⟨c,0,0,[],v,[]⟩=2:=fun c v=>rfl
    rw[this];omega
  have G:∀k n,i≠.call k n:=fun k n e=>F ⟨k,n,e⟩
  rw[wD S Q P G] at l A ⊢
  have q:=yO u L S Q P G l;have D:(aO i { f with next:=f.next+1 }).1.fn=f.fn:=rW _ _
  generalize aO i { f with next:=f.next+1 }=y at l A q D ⊢
  rcases q with ⟨O,M⟩|⟨O,M⟩
  ·refine lH w k _ A ?_;have J:=uP (g:=y.1) s C L D O M;simp only;rw[gQ];omega
  ·have I:y.1.fn.code[y.1.next]?=some (f.fn.code[y.1.next]):=by rw[D];exact Z8 M
   have B:=(V.ins _ _ (Z8 M)).1;rw[O] at B;have J:=zF K;obtain⟨j,rfl⟩:∃j,k=j+1:=⟨k-1,by omega⟩
   generalize f.fn.code[y.1.next]=i' at I B
   cases i'<;>simp[aG.isBegin] at B
   exact tJ w A I
def bH.then{ar:Nat->Option Nat}{L:Nat->eF->Prop}{p:Nat}{c c':List aG}{h v g v1 d v2:Nat}{e j i:Option Nat}(a:bH ar L p c h v e g v1 j)(b:bH ar L (p+c.length) c' g v1 j d v2 i)
 (n:∀q y,L q y->q<=p\/p+c.length+c'.length<=q):bH ar L p (c++c') h v e d v2 i:=by
 by_cases k:c=[]
 ·subst k;obtain⟨T,t,r,s,l,o,m,f,u⟩:=a;obtain⟨U,u1,u2,u3,u4,u5,u6,u7,u8⟩:=b;simp only[Z5,Nat.add_zero] at o m f u2 u3 u4 u5 u6 u7 u8;refine⟨U,u1,by omega,by omega,?_,u5,u6,u7,u8⟩
  rcases u4 with u4|u4
  ·exact Y4 u4
  ·rw[u4,<-f];exact l
 ·exact a.append b n k
def bH.one{ar:Nat->Option Nat}{L:Nat->eF->Prop}{p:Nat}{i:aG}{h v h' v':Nat}{e e':Option Nat}(m:∀q y z,L q y->L q z->y=z)(k:∀y,L p y->y=⟨h,v,e,i.isBegin⟩)(l:∀y,L (p+1) y->y.h=h'/\y.v=v'/\y.e=e')
 (n:∀T:Nat->eF,T p=⟨h,v,e,i.isBegin⟩->(T (p+1)).h=h'->(T (p+1)).v=v'->(T (p+1)).e=e'->(∀q y,L q y->T q=y)->iG ar (KR L p (p+1)) T p i):bH ar L p [i] h v e h' v' e':=by
 classical
 let T:Nat->eF:=fun q=>if hq:∃y,L q y then hq.choose else if q=p then ⟨h,v,e,i.isBegin⟩ else ⟨h',v',e',false⟩
 have g:∀q y,L q y->T q=y:=fun q y b=>by
  have a:∃y,L q y:=⟨y,b⟩;simp only[T,dif_pos a];exact m q _ _ a.choose_spec b
 have f:T p=⟨h,v,e,i.isBegin⟩:=by
  by_cases a:∃y,L p y
  ·obtain⟨y,b⟩:=a;rw[g p y b];exact k y b
  ·simp only[T,dif_neg a];rfl
 have c:(T (p+1)).h=h'/\(T (p+1)).v=v'/\(T (p+1)).e=e':=by
  by_cases a:∃y,L (p+1) y
  ·obtain⟨y,b⟩:=a;rw[g _ y b];exact l y b
  ·have e:T (p+1)=⟨h',v',e',false⟩:=by simp only[T,dif_neg a,if_neg (show ¬p+1=p by omega)]
   rw[e];exact⟨rfl,rfl,rfl⟩
 refine⟨T,g,by rw[f],by rw[f];exact Z7 _,by rw[f];exact Y3 rfl,c.1,c.2.1,c.2.2,fun j x d=>?_⟩
 match j,d with
 |0,d=>
  simp at d;subst d;exact n T f c.1 c.2.1 c.2.2 g
 |j+1,d=>simp at d
structure eM(L:Nat->eF->Prop)(lo hi:Nat):Prop where
 uniq:∀q y z,L q y->L q z->y=z
 out:∀q y,L q y->q<lo\/hi<q
def eM.sub{L:Nat->eF->Prop}{lo a lo' hi':Nat}(h:eM L lo a)(d:lo<=lo')(c:hi'<=a):eM L lo' hi':=⟨h.uniq,fun q y b=>by have:=h.out q y b;omega⟩
def fD(L:Nat->eF->Prop)(q:Nat)(y:eF):Nat->eF->Prop:=fun r z=>L r z\/(r=q/\z=y)
def fD.ok{L:Nat->eF->Prop}{lo c lo' hi' q:Nat}{y:eF}(h:eM L lo c)(i:lo<=q)(f:q<=c)(j:lo<=lo')(g:hi'<=c)(d:q<lo'\/hi'<q):eM (fD L q y) lo' hi':=by
 refine⟨fun r x z a b=>?_,fun r x a=>?_⟩
 ·rcases a with a|⟨rfl,rfl⟩<;>rcases b with b|⟨e,rfl⟩
  ·exact h.uniq _ _ _ a b
  ·have:=h.out _ _ a;omega
  ·have:=h.out _ _ b;omega
  ·rfl
 ·rcases a with a|⟨rfl,rfl⟩
  ·have:=h.out _ _ a;omega
  ·exact d
def bH.close{ar:Nat->Option Nat}{L:Nat->eF->Prop}{p:Nat}{c:List aG}{h v h' v' q:Nat}{e e':Option Nat}{y:eF}(s:bH ar (fD L q y) p c h v e h' v' e')(o:p<=q)(f:q<=p+c.length):bH ar L p c h v e h' v' e':=by
 obtain⟨T,u,b,d,g,x,m,l,w⟩:=s;refine⟨T,fun q y n=>u q y (Y4 n),b,d,g,x,m,l,fun j i A=>(w j i A).same rfl (fun r a=>⟨?_,rfl,dH,Y3 rfl⟩) (fun _ _ _ k=>k)⟩
 rcases a with a|⟨z,t|⟨rfl,rfl⟩⟩
 ·exact Y4 a
 ·exact Y3 ⟨z,t⟩
 ·exact Y4 ⟨o,f⟩
def iI{L:Nat->eF->Prop}{p:Nat}:KR L p (p+1) (p+1):=Y4 ⟨by omega,by omega⟩
def bH.plain{ar:Nat->Option Nat}{L:Nat->eF->Prop}{p:Nat}{i:aG}{h v h':Nat}{e:Option Nat}(b:eM L p (p+1))(g:i.isBegin=false)(j:h<=p)
 (l:∀(D:cC) (T:Nat->eF),(T p).h=h->(T p).v=v->eN D T (p+1) h' (T p).v (T p).e->(T p).b=false->(T p).h<=p->iG ar D T p i):bH ar L p [i] h v e h' v e:=
 bH.one b.uniq (fun y c=>absurd (b.out _ _ c) (by omega)) (fun y c=>absurd (b.out _ _ c) (by omega)) fun T a k d f _=>
  l _ T (by rw[a]) (by rw[a]) ⟨iI,k,by rw[d,a];exact Z7 _,by rw[f,a];exact Y3 rfl⟩ (by rw[a];exact g) (by rw[a];exact j)
def fW(fs:List aC)(k:Nat):Option Nat:=fs[k]?.map fun f=>f.kids.length-1
def ExOk(fs:List aC)(alone:Bool)(seen:cO):Nat->aC->Prop
 |0,_=>False
 |d+1,a=>
  ((a.op=[48]\/a.op=[115]\/a.op=[98,111,111,108])/\a.kids=[])\/
  (a.op=[110,97,109,101]/\a.kids=[]/\a.text∈seen)\/
  (a.op=[108,105,115,116]/\∀k∈a.kids,ExOk fs alone seen d k)\/
  (a.op=[105,110,100,101,120]/\∃l r,a.kids=[l,r]/\ExOk fs alone seen d l/\ExOk fs alone seen d r)\/
  ((a.op=[45,120]\/a.op=[33,120])/\∃l,a.kids=[l]/\ExOk fs alone seen d l)\/
  (a.op=[99,97,108,108]/\(∀k∈a.kids,ExOk fs alone seen d k)/\
    ((a.text=[108,101,110]/\a.kids.length=1)\/(a.text=[114,101,97,100]/\alone=false/\a.kids.length=0)\/
     (a.text≠[108,101,110]/\a.text≠[114,101,97,100]/\alone=false/\fW fs (dD fs a.text)=some a.kids.length)))\/
  (cB a.op≠9/\∃l r,a.kids=[l,r]/\ExOk fs alone seen d l/\ExOk fs alone seen d r)
def pS:∀{seen:cO} {x:cE},x∈seen->eE seen x<seen.length
 |y::l,x,h=>by
  unfold eE;split
  ·simp
  ·rename_i a;rcases Z6.1 h with rfl|h
   ·exact absurd rfl a
   ·have:=pS h;simp;omega
def mQ{op:cE}(h:cB op≠9):op=[124,124]\/op=[38,38]\/op=[61,61]\/op=[33,61]\/op=[60]\/op=[60,61]\/op=[43]\/op=[45]\/op=[42]\/op=[47]\/op=[37]:=by
 unfold cB at h;repeat' split at h
 all_goals simp_all
 all_goals grind
def PJ(fs:List aC)(alone:Bool)(seen:cO)(d:Nat):Prop:=
 ∀(a:aC) (L:Nat->eF->Prop) (p h v:Nat) (e:Option Nat),ExOk fs alone seen d a->seen.length<=v->h<=p->eM L p (p+(aF fs seen d a p).length)->
  bH (fW fs) L p (aF fs seen d a p) h v e (h+1) v e/\1<=(aF fs seen d a p).length
def pT{fs:List aC}{b:Bool}{seen:cO}{d:Nat}(g:PJ fs b seen d):∀(l:List aC) (L:Nat->eF->Prop) (p h v:Nat) (e:Option Nat),(∀a∈l,ExOk fs b seen d a)->seen.length<=v->h<=p->eM L p (p+(bS (aF fs seen d) l p).length)->
 bH (fW fs) L p (bS (aF fs seen d) l p) h v e (h+l.length) v e/\l.length<=(bS (aF fs seen d) l p).length
 |[],L,p,h,v,e,_,_,_,c=>⟨bH.nil _ _ _ _ _ _ (fun q y f u=>absurd (c.out q y f) (by simp[bS];omega)) c.uniq,by simp⟩
 |a::l,L,p,h,v,e,i,j,o,c=>by
  simp only[bS,Y5] at c ⊢
  obtain⟨n,m⟩:=g a L p h v e (i a (j0 ..)) j o (c.sub dH (by omega))
  obtain⟨k,r⟩:=pT g l L (p+(aF fs seen d a p).length) (h+1) v e (fun x s=>i x (b8 _ s)) j (by omega) (c.sub (by omega) (by omega))
  refine⟨?_,by simp only[Y9];omega⟩
  have t:h+(a::l).length=h+1+l.length:=by simp only[Y9];omega
  rw[t];exact n.then k fun q y f=>by have:=c.out q y f;omega
def bH.snoc{ar:Nat->Option Nat}{L:Nat->eF->Prop}{p:Nat}{c:List aG}{i:aG}{h v f d v2:Nat}{e j:Option Nat}(a:bH ar L p c h v e f v e)(g:eM L p (p+(c++[i]).length))(b:eM L (p+c.length) (p+c.length+1)->bH ar L (p+c.length) [i] f v e d v2 j):bH ar L p (c++[i]) h v e d v2 j:=by
 have l:(c++[i]).length=c.length+1:=by simp
 refine a.then (b (g.sub (by omega) (by omega))) fun q y k=>?_
 have:=g.out q y k;simp only[Y9,Z5];omega
def oP(fs:List aC)(j:Bool)(seen:cO):∀d,PJ fs j seen d
 |0,_,_,_,_,_,_,h,_,_,_=>h.elim
 |d+1,a,L,p,h,v,e,ha,hv,g,A=>by
  have Y:=oP fs j seen d
  have N:∀l r:aC,a.kids=[l,r]->ExOk fs j seen d l->ExOk fs j seen d r->∀k∈a.kids,ExOk fs j seen d k:=fun l r n V h2 k E=>by
   rw[n] at E;rcases Z6.1 E with rfl|E
   ·exact V
   ·rw[Z1.1 E];exact h2
  have m:∀i:aG,i.isBegin=false->aF fs seen (d+1) a p=bS (aF fs seen d) a.kids p++[i]->(∀k∈a.kids,ExOk fs j seen d k)->
   (∀(t:Nat) (D:cC) (T:Nat->eF),(T t).h=h+a.kids.length->(T t).v=v->eN D T (t+1) (h+1) (T t).v (T t).e->(T t).b=false->(T t).h<=t->iG (fW fs) D T t i)->
   bH (fW fs) L p (aF fs seen (d+1) a p) h v e (h+1) v e/\1<=(aF fs seen (d+1) a p).length:=fun i hb B n hi=>by
   rw[B] at A ⊢
   obtain⟨V,h2⟩:=pT Y a.kids L p h v e n hv g (A.sub dH (by simp))
   exact⟨bH.snoc V A fun F=>bH.plain F hb (by omega) (hi _),by simp⟩
  rcases ha with ⟨o|o|o,n⟩|⟨o,n,hx⟩|⟨o,n⟩|⟨o,l,r,n,F,Q⟩|⟨o|o,l,n,F⟩|⟨o,n,B⟩|⟨o,l,r,n,F,Q⟩
  ·have B:aF fs seen (d+1) a p=[.push (bD (((dK 0 a.text).getD 0:Nat):Int))]:=by rw[aF];simp[o]
   rw[B] at A ⊢
   exact⟨bH.plain A rfl g fun D T c x f b g=>⟨b,g,by rw[c];exact f⟩,by simp⟩
  ·have B:aF fs seen (d+1) a p=[.push (bK a.text)]:=by rw[aF];simp[o]
   rw[B] at A ⊢
   exact⟨bH.plain A rfl g fun D T c x f b g=>⟨b,g,by rw[c];exact f⟩,by simp⟩
  ·have B:aF fs seen (d+1) a p=[.push (bP (a.text==[116,114,117,101]))]:=by rw[aF];simp[o]
   rw[B] at A ⊢
   exact⟨bH.plain A rfl g fun D T c x f b g=>⟨b,g,by rw[c];exact f⟩,by simp⟩
  ·have B:aF fs seen (d+1) a p=[.load (eE seen a.text)]:=by rw[aF];simp[o]
   rw[B] at A ⊢
   exact⟨bH.plain A rfl g fun D T c x f b g=>⟨b,g,by rw[x];have:=pS hx;omega,by rw[c];exact f⟩,by simp⟩
  ·refine m (.list a.kids.length) rfl (by rw[aF];simp[o]) n fun t D T c x f b g=>⟨b,g,by omega,?_⟩
   have:(T t).h-a.kids.length+1=h+1:=by omega
   rw[this];exact f
  ·refine m .index rfl (by rw[aF];simp[o]) (N l r n F Q) fun t D T c x f b g=>?_
   rw[n] at c;simp only[Y9,Z5] at c;refine⟨b,g,by omega,?_⟩
   have:(T t).h-1=h+1:=by omega
   rw[this];exact f
  ·refine m (.unary [45]) rfl (by rw[aF];simp[o]) (by rw[n];simpa using F) fun t D T c x f b g=>?_
   rw[n] at c;simp only[Y9,Z5] at c;exact⟨b,g,by omega,by rw[c];exact f⟩
  ·refine m (.unary [33]) rfl (by rw[aF];simp[o]) (by rw[n];simpa using F) fun t D T c x f b g=>?_
   rw[n] at c;simp only[Y9,Z5] at c;exact⟨b,g,by omega,by rw[c];exact f⟩
  ·rcases B with ⟨U,K⟩|⟨U,_,K⟩|⟨W,Z,_,K⟩
   ·refine m .length rfl (by rw[aF];simp[o,U]) n fun t D T c x f b g=>⟨b,g,by omega,?_⟩
    rw[c,K];exact f
   ·refine m .read rfl (by rw[aF];simp[o,U]) n fun t D T c x f b g=>⟨b,g,?_⟩
    rw[c,K];exact f
   ·refine m (.call (dD fs a.text) a.kids.length) rfl (by rw[aF];simp[o,W,Z]) n fun t D T c x f b g=>⟨b,g,by omega,K,?_⟩
    have:(T t).h-a.kids.length+1=h+1:=by omega
    rw[this];exact f
  ·by_cases O:a.op=[38,38]\/a.op=[124,124]
   rotate_left
   ·have X:aF fs seen (d+1) a p=bS (aF fs seen d) a.kids p++[.binary a.op]:=by
     rw[aF];rcases mQ o with h|h|h|h|h|h|h|h|h|h|h<;>simp[h] at O ⊢
    refine m (.binary a.op) rfl X (N l r n F Q) fun t D T c x f b g=>?_
    rw[n] at c;simp only[Y9,Z5] at c;refine⟨b,g,by omega,?_⟩
    have:(T t).h-1=h+1:=by omega
    rw[this];exact f
   ·have B:aF fs seen (d+1) a p=aF fs seen d l p++[.shortcut (a.op==[124,124]) (p+(aF fs seen d l p).length+1+(aF fs seen d r (p+(aF fs seen d l p).length+1)).length+1)]++aF fs seen d r (p+(aF fs seen d l p).length+1)++[.truth]:=by
     rw[aF];rcases O with h|h<;>simp[h,n]
    generalize P:aF fs seen d l p=s at B;generalize M:aF fs seen d r (p+s.length+1)=u at B;rw[B] at A ⊢
    have H:(s++[aG.shortcut (a.op==[124,124]) (p+s.length+1+u.length+1)]++u++[aG.truth]).length=s.length+1+u.length+1:=by simp only[Y5,Y9,Z5]
    rw[H] at A;refine⟨bH.close (q:=p+s.length+1+u.length+1) (y:=⟨h+1,v,e,false⟩) ?_ (by omega) (by rw[H];omega),by omega⟩
    have w:eM (fD L (p+s.length+1+u.length+1) ⟨h+1,v,e,false⟩) p (p+s.length+1+u.length):=fD.ok A (by omega) (by omega) dH (by omega) (by omega)
    obtain⟨s1,l1⟩:=Y l (fD L (p+s.length+1+u.length+1) ⟨h+1,v,e,false⟩) p h v e F hv g (by rw[P];exact w.sub dH (by omega))
    rw[P] at s1 l1;obtain⟨s3,l3⟩:=Y r (fD L (p+s.length+1+u.length+1) ⟨h+1,v,e,false⟩) (p+s.length+1) h v e Q hv (by omega) (by rw[M];exact w.sub (by omega) (by omega))
    rw[M] at s3 l3
    have s2:bH (fW fs) (fD L (p+s.length+1+u.length+1) ⟨h+1,v,e,false⟩) (p+s.length) [.shortcut (a.op==[124,124]) (p+s.length+1+u.length+1)] (h+1) v e h v e:=by
     refine bH.one w.uniq (fun y G=>absurd (w.out _ _ G) (by omega)) (fun y G=>absurd (w.out _ _ G) (by omega)) fun T z c x S t4=>?_
     refine⟨by rw[z],by rw[z];show h+1<=_;omega,by rw[z];show 1<=h+1;omega,by omega,?_,iI,by rw[c,z];rfl,by rw[x,z];exact Z7 _,by rw[S,z];exact Y3 rfl⟩
     have:=t4 (p+s.length+1+u.length+1) ⟨h+1,v,e,false⟩ (Y3 ⟨rfl,rfl⟩);exact⟨Y3 ⟨_,Y3 ⟨rfl,rfl⟩⟩,by rw[this,z],by rw[this,z];exact Z7 _,by rw[this,z];exact Y3 rfl⟩
    have s4:bH (fW fs) (fD L (p+s.length+1+u.length+1) ⟨h+1,v,e,false⟩) (p+s.length+1+u.length) [.truth] (h+1) v e (h+1) v e:=by
     refine bH.one w.uniq (fun y G=>absurd (w.out _ _ G) (by omega)) (fun y G=>?_) fun T z c x S t4=>⟨by rw[z],by rw[z];show h+1<=_;omega,by rw[z];show 1<=h+1;omega,iI,by rw[c,z],by rw[x,z];exact Z7 _,by rw[S,z];exact Y3 rfl⟩
     rcases G with G|⟨_,rfl⟩
     ·exact absurd (A.out _ _ G) (by omega)
     ·exact⟨rfl,rfl,rfl⟩
    have C:∀q y,fD L (p+s.length+1+u.length+1) ⟨h+1,v,e,false⟩ q y->q<=p\/p+s.length+1+u.length+1<=q:=fun q y I=>by have:=w.out q y I;omega
    have aa:=s1.then s2 fun q y I=>by have:=C q y I;simp only[Y9,Z5];omega
    have J:=aa.then (c':=u) (by rw[Y5];exact s3) fun q y I=>by have:=C q y I;simp only[Y5,Y9,Z5];omega
    exact J.then (c':=[.truth]) (by rw[show p+(s++[aG.shortcut (a.op==[124,124]) (p+s.length+1+u.length+1)]++u).length=p+s.length+1+u.length by simp only[Y5,Y9,Z5];omega];exact s4) fun q y I=>by have:=C q y I;simp only[Y5,Y9,Z5];omega
def bH.entry{ar:Nat->Option Nat}{L:Nat->eF->Prop}{p:Nat}{c:List aG}{h v b h' v':Nat}{e e':Option Nat}(s:bH ar L p c h v none h' v' e')(j:v<=b):bH ar L p c h b e h' v' e':=by
 obtain⟨T,f,d,i,a,g⟩:=s;exact⟨T,f,d,by omega,Y4 (by rcases a with a|a<;>exact a),g⟩
def bH.exit{ar:Nat->Option Nat}{L:Nat->eF->Prop}{p:Nat}{c:List aG}{h v h' v' a:Nat}{e e':Option Nat}(s:bH ar L p c h v e h' v' e')(F:a<=v')(b:Bool)(C:∀y,¬L (p+c.length) y):bH ar (fD L (p+c.length) ⟨h',a,none,b⟩) p c h v e h' a none:=by
 obtain⟨T,z,o,r,t,l,w,E,B⟩:=s;refine⟨fun q=>if q=p+c.length then ⟨h',a,none,b⟩ else T q,fun q y d=>?_,?_,?_,?_,by simp only[if_pos],by simp only[if_pos],by simp only[if_pos],fun j i m=>?_⟩
 ·rcases d with d|⟨rfl,rfl⟩
  ·have f:q≠p+c.length:=fun e=>C y (by rw[<-e];exact d)
   simp only[if_neg f];exact z q y d
  ·simp only[if_pos]
 ·simp only;split
  ·rename_i g;rw[<-g] at l;simp only;omega
  ·exact o
 ·simp only;split
  ·rename_i g;rw[<-g] at w;simp only;omega
  ·exact r
 ·simp only;split
  ·exact Y4 rfl
  ·exact t
 ·have x:j<c.length:=(j4.1 m).1;refine(B j i m).same (by rw[if_neg (by omega)]) (fun q d=>?_) (fun q d D u=>by rw[if_neg (by omega)];exact u)
  have n:KR (fD L (p+c.length) ⟨h',a,none,b⟩) p (p+c.length) q:=d.imp id fun ⟨y,A⟩=>⟨y,Y4 A⟩
  refine⟨n,?_⟩;split
  ·rename_i k;rw[k];exact⟨l.symm,by simp only;omega,Y4 rfl⟩
  ·exact⟨rfl,dH,Y3 rfl⟩
def cU(seen:cO)(a:aC):cO:=if a.op=[118,97,114] then (a.kids.head?.map (·.text)).toList++seen else seen
def StsOk(S:cO->aC->Prop):cO->List aC->Prop
 |_,[]=>True
 |seen,a::l=>S seen a/\StsOk S (cU seen a) l
def dS(fs:List aC):Nat->cO->aC->Prop
 |0,_,_=>False
 |d+1,seen,a=>
  (a.op=[118,97,114]/\seen.length<=40000/\∃t v,a.kids=[t,v]/\ExOk fs false seen d v/\t.text∉seen)\/
  (a.op=[115,101,116]/\a.text∈seen/\a.kids≠[]/\∀k∈a.kids,ExOk fs false seen d k)\/
  (a.op=[105,102]/\∃c t,(a.kids=[c,t]\/∃x,a.kids=[c,t,x]/\StsOk (dS fs d) seen x.kids)/\ExOk fs false seen d c/\StsOk (dS fs d) seen t.kids)\/
  (a.op=[119,104,105,108,101]/\∃c b,a.kids=[c,b]/\ExOk fs false seen d c/\StsOk (dS fs d) seen b.kids)\/
  (a.op=[114,101,116,117,114,110]/\(a.kids=[]\/∃v,a.kids=[v]/\ExOk fs false seen d v))\/
  (a.op=[112,114,105,110,116]/\∃v,a.kids=[v]/\ExOk fs false seen d v)\/
  (a.op=[100,111]/\∃c,a.kids=[c]/\ExOk fs false seen d c)
def PG(fs:List aC)(d:Nat):Prop:=
 ∀(seen:cO) (a:aC) (L:Nat->eF->Prop) (p:Nat),dS fs d seen a->eM L p (p+(bC fs d seen a p).1.length)->
  bH (fW fs) L p (bC fs d seen a p).1 0 seen.length none 0 (cU seen a).length none/\(bC fs d seen a p).2=cU seen a/\∃r,(bC fs d seen a p).1=.begin a.line seen::r
def LU(seen:cO)(a:aC):seen.length<=(cU seen a).length:=by unfold cU;split<;>simp
def dX:cO->List aC->cO
 |seen,[]=>seen
 |seen,a::l=>dX (cU seen a) l
def lP:∀(l:List aC) (seen:cO),seen.length<=(dX seen l).length
 |[],_=>Z7 _
 |a::l,seen=>Z4 (LU seen a) (lP l _)
def lR{fs:List aC}{d:Nat}(e:PG fs d):∀(l:List aC) (seen:cO) (L:Nat->eF->Prop) (p:Nat),StsOk (dS fs d) seen l->eM L p (p+(bI (bC fs d) seen l p).length)->
 bH (fW fs) L p (bI (bC fs d) seen l p) 0 seen.length none 0 (dX seen l).length none
 |[],seen,L,p,_,b=>bH.nil _ _ _ _ _ _ (fun q y c j=>absurd (b.out q y c) (by simp[bI];omega)) b.uniq
 |a::l,seen,L,p,h,b=>by
  simp only[bI,Y5] at b ⊢
  obtain⟨g,f,_⟩:=e seen a L p h.1 (b.sub dH (by omega))
  rw[f] at b ⊢
  have i:=lR e l (cU seen a) L (p+(bC fs d seen a p).1.length) h.2 (b.sub (by omega) (by omega))
  exact g.then i fun q y c=>by have:=b.out q y c;omega
def bH.begins{ar:Nat->Option Nat}{L:Nat->eF->Prop}{p l:Nat}{seen:cO}(g:∀q y z,L q y->L q z->y=z)(h:∀y,L p y->y=⟨0,seen.length,none,true⟩)(f:∀y,¬L (p+1) y):bH ar L p [.begin l seen] 0 seen.length none 0 seen.length (some seen.length):=
 bH.one g h (fun y e=>absurd e (f y)) fun T a d b c _=>⟨by rw[a],by rw[a];exact n8 _,by rw[a];exact Z7 _,iI,by rw[d,a],by rw[b,a];exact Z7 _,by rw[c];exact Y3 rfl⟩
def oL(i j:aG)(c:List aG):(i::c++[j]).length=c.length+2:=by simp
def bH.stmt{ar:Nat->Option Nat}{L:Nat->eF->Prop}{p l n v':Nat}{seen:cO}{c:List aG}{i:aG}(a:eM L p (p+(aG.begin l seen::c++[i]).length))
 (j:bH ar L (p+1) c 0 seen.length (some seen.length) n seen.length (some seen.length)) (g:eM L (p+1+c.length) (p+1+c.length+1)->bH ar L (p+1+c.length) [i] n seen.length (some seen.length) 0 v' none):
 bH ar L p (aG.begin l seen::c++[i]) 0 seen.length none 0 v' none:=by
 rw[oL] at a;have f:bH ar L p [.begin l seen] 0 seen.length none 0 seen.length (some seen.length):=bH.begins a.uniq (fun y d=>absurd (a.out _ _ d) (by omega)) (fun y d=>absurd (a.out _ _ d) (by omega))
 have e:=f.then (c':=c) j fun q y b=>by have:=a.out q y b;simp only[Y9,Z5];omega
 have h:=e.then (c':=[i]) (by rw[show p+([aG.begin l seen]++c).length=p+1+c.length by simp only[Y5,Y9,Z5];omega];exact g (a.sub (by omega) (by omega))) fun q y b=>by have:=a.out q y b;simp only[Y5,Y9,Z5];omega
 exact h
def bH.last{ar:Nat->Option Nat}{L:Nat->eF->Prop}{p n v v':Nat}{e:Option Nat}{i:aG}(a:eM L p (p+1))(g:i.isBegin=false)(h:n<=p)
 (k:∀(D:cC) (T:Nat->eF),T p=⟨n,v,e,false⟩->D (p+1)->(T (p+1)).h=0->(T (p+1)).v=v'->(T (p+1)).e=none->(T p).h<=p->iG ar D T p i):bH ar L p [i] n v e 0 v' none:=
 bH.one a.uniq (fun y b=>absurd (a.out _ _ b) (by omega)) (fun y b=>absurd (a.out _ _ b) (by omega)) fun T c j d f _=>k _ T (by rw[c,g]) iI j d f (by rw[c];exact h)
def kN{fs:List aC}{seen:cO}{d:Nat}{a:aC}{L:Nat->eF->Prop}{p:Nat}{e:Option Nat}(b:ExOk fs false seen d a)(f:0<p)(c:eM L p (p+(aF fs seen d a p).length)):
 bH (fW fs) L p (aF fs seen d a p) 0 seen.length e 1 seen.length e/\1<=(aF fs seen d a p).length:=oP fs false seen d a L p 0 seen.length e b dH (by omega) c
def eM.none{L:Nat->eF->Prop}{lo a q:Nat}(h:eM L lo a)(d:lo<=q)(c:q<=a)(y:eF):¬L q y:=fun b=>by have:=h.out q y b;omega
def bH.ifs{ar:Nat->Option Nat}{L:Nat->eF->Prop}{p l v1 v2:Nat}{seen:cO}{b e m:List aG}
 (t:eM L p (p+1+b.length+1+e.length+1+m.length))
 (I:∀g,eM g (p+1) (p+1+b.length)->bH ar g (p+1) b 0 seen.length (some seen.length) 1 seen.length (some seen.length))
 (E:∀g,eM g (p+1+b.length+1) (p+1+b.length+1+e.length)->bH ar g (p+1+b.length+1) e 0 seen.length none 0 v1 none) (G:seen.length<=v1)
 (K:∀g,eM g (p+1+b.length+1+e.length+1) (p+1+b.length+1+e.length+1+m.length)->bH ar g (p+1+b.length+1+e.length+1) m 0 seen.length none 0 v2 none) (J:seen.length<=v2):
 bH ar L p (aG.begin l seen::b++[.skip (p+1+b.length+1+e.length+1)]++e++[.jump (p+1+b.length+1+e.length+1+m.length)]++m) 0 seen.length none 0 seen.length none:=by
 generalize F:p+1+b.length+1+e.length+1=q at*;generalize H:q+m.length=r at*;have j:eM (fD L r ⟨0,seen.length,none,false⟩) p (r-1):=fD.ok t (by omega) dH dH (by omega) (by omega)
 have k:bH ar (fD L r ⟨0,seen.length,none,false⟩) p (aG.begin l seen::b++[aG.skip q]++e++[aG.jump r]) 0 seen.length none 0 seen.length none:=by
  have h:p+(aG.begin l seen::b++[aG.skip q]++e++[aG.jump r]).length=q:=by simp only[Y5,Y9,Z5];omega
  rcases p9 (show q<=r by omega) with s|s
  ·-- there is no else:one label
   subst s;have c:eM (fD L q ⟨0,seen.length,none,false⟩) p (q-1):=j;have A:=bH.begins (ar:=ar) (l:=l) (p:=p) (seen:=seen) c.uniq (fun y a=>absurd (c.out _ _ a) (by omega)) (fun y a=>absurd (c.out _ _ a) (by omega))
   have w:=A.then (c':=b) (I _ (c.sub (by omega) (by omega))) fun x y f=>by have:=c.out x y f;simp only[Y9,Z5];omega
   have z:p+([aG.begin l seen]++b).length=p+1+b.length:=by simp only[Y5,Y9,Z5];omega
   have B:=w.then (c':=[aG.skip q]) (by
    rw[z];refine bH.one (h':=0) (v':=seen.length) (e':=some seen.length) c.uniq (fun y a=>absurd (c.out _ _ a) (by omega)) (fun y a=>absurd (c.out _ _ a) (by omega)) fun T d u n o i=>?_
    have a:=i q ⟨0,seen.length,none,false⟩ (Y3 ⟨rfl,rfl⟩);exact⟨by rw[d],by rw[d];show 1<=_;omega,by rw[d];exact Z7 _,by omega,⟨Y3 ⟨_,Y3 ⟨rfl,rfl⟩⟩,by rw[a,d];rfl,by rw[a,d];exact Z7 _,by rw[a];exact Y4 rfl⟩,iI,by rw[u,d];rfl,by rw[n,d];exact Z7 _,by rw[o,d];exact Y3 rfl⟩)
    fun x y f=>by have:=c.out x y f;simp only[Y5,Y9,Z5];omega
   have C:p+([aG.begin l seen]++b++[aG.skip q]).length=p+1+b.length+1:=by simp only[Y5,Y9,Z5];omega
   have v:=B.then (c':=e) (by rw[C];exact(E _ (c.sub (by omega) (by omega))).entry dH) fun x y f=>by have:=c.out x y f;simp only[Y5,Y9,Z5];omega
   have D:p+([aG.begin l seen]++b++[aG.skip q]++e).length=p+1+b.length+1+e.length:=by simp only[Y5,Y9,Z5];omega
   exact v.then (c':=[aG.jump q]) (by
    rw[D];refine bH.one c.uniq (fun y a=>absurd (c.out _ _ a) (by omega)) (fun y a=>?_) fun T d u n o i=>?_
    ·rw[show p+1+b.length+1+e.length+1=q from F] at a
     rcases a with a|⟨_,rfl⟩
     ·exact absurd a (t.none (by omega) (by omega) y)
     ·exact⟨rfl,rfl,rfl⟩
    ·have a:=i q ⟨0,seen.length,none,false⟩ (Y3 ⟨rfl,rfl⟩);exact⟨by rw[d],by rw[d];exact n8 _,Y4 (by omega),Y3 ⟨_,Y3 ⟨rfl,rfl⟩⟩,by rw[a,d],by rw[a,d];exact G,by rw[a];exact Y4 rfl⟩)
    fun x y f=>by have:=c.out x y f;simp only[Y5,Y9,Z5];omega
  ·refine bH.close (q:=q) (y:=⟨0,seen.length,none,false⟩) ?_ (by omega) (by omega)
   have c:eM (fD (fD L r ⟨0,seen.length,none,false⟩) q ⟨0,seen.length,none,false⟩) p (q-1):=fD.ok j (by omega) (by omega) dH (by omega) (by omega)
   have A:=bH.begins (ar:=ar) (l:=l) (p:=p) (seen:=seen) c.uniq (fun y a=>absurd (c.out _ _ a) (by omega)) (fun y a=>absurd (c.out _ _ a) (by omega))
   have w:=A.then (c':=b) (I _ (c.sub (by omega) (by omega))) fun x y f=>by have:=c.out x y f;simp only[Y9,Z5];omega
   have z:p+([aG.begin l seen]++b).length=p+1+b.length:=by simp only[Y5,Y9,Z5];omega
   have B:=w.then (c':=[aG.skip q]) (by
    rw[z];refine bH.one (h':=0) (v':=seen.length) (e':=some seen.length) c.uniq (fun y a=>absurd (c.out _ _ a) (by omega)) (fun y a=>absurd (c.out _ _ a) (by omega)) fun T d u n o i=>?_
    have a:=i q ⟨0,seen.length,none,false⟩ (Y3 ⟨rfl,rfl⟩);exact⟨by rw[d],by rw[d];show 1<=_;omega,by rw[d];exact Z7 _,by omega,⟨Y3 ⟨_,Y3 ⟨rfl,rfl⟩⟩,by rw[a,d];rfl,by rw[a,d];exact Z7 _,by rw[a];exact Y4 rfl⟩,iI,by rw[u,d];rfl,by rw[n,d];exact Z7 _,by rw[o,d];exact Y3 rfl⟩)
    fun x y f=>by have:=c.out x y f;simp only[Y5,Y9,Z5];omega
   have C:p+([aG.begin l seen]++b++[aG.skip q]).length=p+1+b.length+1:=by simp only[Y5,Y9,Z5];omega
   have v:=B.then (c':=e) (by rw[C];exact(E _ (c.sub (by omega) (by omega))).entry dH) fun x y f=>by have:=c.out x y f;simp only[Y5,Y9,Z5];omega
   have D:p+([aG.begin l seen]++b++[aG.skip q]++e).length=p+1+b.length+1+e.length:=by simp only[Y5,Y9,Z5];omega
   exact v.then (c':=[aG.jump r]) (by
    rw[D];refine bH.one c.uniq (fun y a=>absurd (c.out _ _ a) (by omega)) (fun y a=>?_) fun T d u n o i=>?_
    ·rw[show p+1+b.length+1+e.length+1=q from F] at a
     rcases a with (a|⟨a,_⟩)|⟨_,rfl⟩
     ·exact absurd a (t.none (by omega) (by omega) y)
     ·omega
     ·exact⟨rfl,rfl,rfl⟩
    ·have a:=i r ⟨0,seen.length,none,false⟩ (Y4 (Y3 ⟨rfl,rfl⟩));exact⟨by rw[d],by rw[d];exact n8 _,Y4 (by omega),Y3 ⟨_,Y4 (Y3 ⟨rfl,rfl⟩)⟩,by rw[a,d],by rw[a,d];exact G,by rw[a];exact Y4 rfl⟩)
    fun x y f=>by have:=c.out x y f;simp only[Y5,Y9,Z5];omega
 have h:p+(aG.begin l seen::b++[aG.skip q]++e++[aG.jump r]).length=q:=by simp only[Y5,Y9,Z5];omega
 refine bH.close (q:=r) (y:=⟨0,seen.length,none,false⟩) ?_ (by omega) (by rw[Y5];omega)
 refine k.then (c':=m) ?_ fun x y f=>by have:=j.out x y f;omega
 rw[h];have:=(K L (t.sub (by omega) (by omega))).exit J false (by rw[H];exact t.none (by omega) dH)
 rw[H] at this;exact this
def bH.whiles{ar:Nat->Option Nat}{L:Nat->eF->Prop}{p l v1:Nat}{seen:cO}{b cb:List aG}
 (i:eM L p (p+1+b.length+1+cb.length+1))
 (C:∀f,eM f (p+1) (p+1+b.length)->bH ar f (p+1) b 0 seen.length (some seen.length) 1 seen.length (some seen.length))
 (r:∀f,eM f (p+1+b.length+1) (p+1+b.length+1+cb.length)->bH ar f (p+1+b.length+1) cb 0 seen.length none 0 v1 none) (u:seen.length<=v1):
 bH ar L p (aG.begin l seen::b++[.skip (p+1+b.length+1+cb.length+1)]++cb++[aG.jump p]) 0 seen.length none 0 seen.length none:=by
 generalize s:p+1+b.length+1+cb.length+1=q at*;have m:p+(aG.begin l seen::b++[aG.skip q]++cb++[aG.jump p]).length=q:=by simp only[Y5,Y9,Z5];omega
 refine bH.close (q:=p) (y:=⟨0,seen.length,none,true⟩) (bH.close (q:=q) (y:=⟨0,seen.length,none,false⟩) ?_ (by omega) (by omega)) (by omega) (by omega)
 have h:eM (fD L p ⟨0,seen.length,none,true⟩) (p+1) q:=fD.ok i dH (by omega) (by omega) dH (by omega)
 have d:eM (fD (fD L p ⟨0,seen.length,none,true⟩) q ⟨0,seen.length,none,false⟩) (p+1) (q-1):=fD.ok h (by omega) dH dH (by omega) (by omega)
 have w:=bH.begins (ar:=ar) (l:=l) (p:=p) (seen:=seen) d.uniq (fun y a=>by
  rcases a with (a|⟨_,rfl⟩)|⟨a,_⟩
  ·exact absurd a (i.none (by omega) (by omega) y)
  ·rfl
  ·omega) (fun y a=>absurd (d.out _ _ a) (by omega))
 have t:=w.then (c':=b) (C _ (d.sub (by omega) (by omega))) fun x y e=>by have:=d.out x y e;simp only[Y9,Z5];omega
 have v:p+([aG.begin l seen]++b).length=p+1+b.length:=by simp only[Y5,Y9,Z5];omega
 have z:=t.then (c':=[aG.skip q]) (by
  rw[v];refine bH.one (h':=0) (v':=seen.length) (e':=some seen.length) d.uniq (fun y a=>absurd (d.out _ _ a) (by omega)) (fun y a=>absurd (d.out _ _ a) (by omega)) fun T c n j k g=>?_
  have a:=g q ⟨0,seen.length,none,false⟩ (Y3 ⟨rfl,rfl⟩);exact⟨by rw[c],by rw[c];show 1<=_;omega,by rw[c];exact Z7 _,by omega,⟨Y3 ⟨_,Y3 ⟨rfl,rfl⟩⟩,by rw[a,c];rfl,by rw[a,c];exact Z7 _,by rw[a];exact Y4 rfl⟩,iI,by rw[n,c];rfl,by rw[j,c];exact Z7 _,by rw[k,c];exact Y3 rfl⟩)
  fun x y e=>by have:=d.out x y e;simp only[Y5,Y9,Z5];omega
 have A:p+([aG.begin l seen]++b++[aG.skip q]).length=p+1+b.length+1:=by simp only[Y5,Y9,Z5];omega
 have o:=z.then (c':=cb) (by rw[A];exact(r _ (d.sub (by omega) (by omega))).entry dH) fun x y e=>by have:=d.out x y e;simp only[Y5,Y9,Z5];omega
 have B:p+([aG.begin l seen]++b++[aG.skip q]++cb).length=p+1+b.length+1+cb.length:=by simp only[Y5,Y9,Z5];omega
 exact o.then (c':=[aG.jump p]) (by
  rw[B];refine bH.one d.uniq (fun y a=>absurd (d.out _ _ a) (by omega)) (fun y a=>?_) fun T c n j k g=>?_
  ·rw[show p+1+b.length+1+cb.length+1=q from s] at a
   rcases a with (a|⟨a,_⟩)|⟨_,rfl⟩
   ·exact absurd a (i.none (by omega) (by omega) y)
   ·omega
   ·exact⟨rfl,rfl,rfl⟩
  ·have a:=g p ⟨0,seen.length,none,true⟩ (Y4 (Y3 ⟨rfl,rfl⟩));exact⟨by rw[c],by rw[c];exact n8 _,Y3 (by rw[a]),Y3 ⟨_,Y4 (Y3 ⟨rfl,rfl⟩)⟩,by rw[a,c],by rw[a,c];exact u,by rw[a];exact Y4 rfl⟩)
  fun x y e=>by have:=d.out x y e;simp only[Y5,Y9,Z5];omega
def mM(fs:List aC):∀d,PG fs d
 |0,_,_,_,_,h,_=>h.elim
 |d+1,g,a,L,p,Y,i=>by
  have M:=mM fs d;rcases Y with ⟨k,S,t,v,l,F,_⟩|⟨k,O,J,l⟩|⟨k,c,t,l,Q,V⟩|⟨k,c,b,l,Q,S⟩|⟨k,l|⟨v,l,F⟩⟩|⟨k,v,l,F⟩|⟨k,v,l,F⟩
  ·have o:bC fs (d+1) g a p=(aG.begin a.line g::aF fs g d v (p+1)++[aG.declare g.length],t.text::g):=by rw[bC];simp[k,l]
   have r:cU g a=t.text::g:=by unfold cU;rw[if_pos k,l];rfl
   rw[o] at i ⊢
   rw[r];simp only at i ⊢
   obtain⟨B,I⟩:=kN (L:=L) (p:=p+1) (e:=some g.length) F (by omega) (i.sub (by omega) (by rw[oL];omega))
   refine⟨bH.stmt i B fun w=>bH.last w rfl (by omega) fun D T m E u A C z=>⟨by rw[m];rfl,z,?_⟩,trivial,_,rfl⟩
   rw[m];exact⟨Z7 _,dH,(by omega),rfl,E,u,by rw[A];exact Z7 _,Y4 C⟩
  ·have o:bC fs (d+1) g a p=(aG.begin a.line g::bS (aF fs g d) a.kids (p+1)++[aG.assign (eE g a.text) (a.kids.length-1)],g):=by rw[bC];simp[k]
   have r:cU g a=g:=by unfold cU;rw[if_neg (by rw[k];decide)]
   rw[o] at i ⊢
   rw[r];simp only at i ⊢
   obtain⟨B,I⟩:=pT (oP fs false g d) a.kids L (p+1) 0 g.length (some g.length) l dH (by omega) (i.sub (by omega) (by rw[oL];omega))
   rw[x9] at B;have U:0<a.kids.length:=v7.2 J;refine⟨bH.stmt i B fun w=>bH.last w rfl (by omega) fun D T m E u A C z=>⟨by rw[m];rfl,z,?_⟩,trivial,_,rfl⟩
   rw[m];refine⟨?_,pS O,E,?_,by rw[A];exact Z7 _,Y4 C⟩
   ·show a.kids.length-1+1<=a.kids.length;omega
   ·rw[u];show 0=a.kids.length-(a.kids.length-1+1);omega
  ·have r:cU g a=g:=by unfold cU;rw[if_neg (by rw[k];decide)]
   rw[r]
   obtain⟨H,o,P⟩:∃H,bC fs (d+1) g a p=(aG.begin a.line g::aF fs g d c (p+1)++[aG.skip (p+1+(aF fs g d c (p+1)).length+1+(bI (bC fs d) g t.kids (p+1+(aF fs g d c (p+1)).length+1)).length+1)]++bI (bC fs d) g t.kids (p+1+(aF fs g d c (p+1)).length+1)++
    [aG.jump (p+1+(aF fs g d c (p+1)).length+1+(bI (bC fs d) g t.kids (p+1+(aF fs g d c (p+1)).length+1)).length+1+H.length)]++H,g)/\
    ∃G,g.length<=G/\∀s,eM s (p+1+(aF fs g d c (p+1)).length+1+(bI (bC fs d) g t.kids (p+1+(aF fs g d c (p+1)).length+1)).length+1) (p+1+(aF fs g d c (p+1)).length+1+(bI (bC fs d) g t.kids (p+1+(aF fs g d c (p+1)).length+1)).length+1+H.length)->bH (fW fs) s (p+1+(aF fs g d c (p+1)).length+1+(bI (bC fs d) g t.kids (p+1+(aF fs g d c (p+1)).length+1)).length+1) H 0 g.length none 0 G none:=by
    rcases l with l|⟨x,l,O⟩
    ·refine⟨[],by rw[bC];simp[k,l],g.length,dH,fun s j=>bH.nil _ _ _ _ _ _ (fun q y W Z=>absurd (j.out q y W) (by simp;omega)) j.uniq⟩
    ·exact⟨_,by rw[bC];simp[k,l],_,lP x.kids g,fun s j=>lR M x.kids g s _ O j⟩
   obtain⟨G,K,P⟩:=P;rw[o] at i ⊢
   simp only at i ⊢
   refine⟨bH.ifs (v1:=(dX g t.kids).length) (v2:=G) ?_ (fun s j=>(kN Q (by omega) j).1) (fun s j=>lR M t.kids g s _ V j) (lP _ _) P K,trivial,_,rfl⟩
   refine i.sub dH ?_;simp only[Y5,Y9,Z5];omega
  ·have o:bC fs (d+1) g a p=(aG.begin a.line g::aF fs g d c (p+1)++[aG.skip (p+1+(aF fs g d c (p+1)).length+1+(bI (bC fs d) g b.kids (p+1+(aF fs g d c (p+1)).length+1)).length+1)]++bI (bC fs d) g b.kids (p+1+(aF fs g d c (p+1)).length+1)++[aG.jump p],g):=by rw[bC];simp[k,l]
   have r:cU g a=g:=by unfold cU;rw[if_neg (by rw[k];decide)]
   rw[o] at i ⊢
   rw[r];simp only at i ⊢
   refine⟨bH.whiles (v1:=(dX g b.kids).length) ?_ (fun s j=>(kN Q (by omega) j).1) (fun s j=>lR M b.kids g s _ S j) (lP _ _),trivial,_,rfl⟩
   refine i.sub dH ?_;simp only[Y5,Y9,Z5];omega
  ·have o:bC fs (d+1) g a p=(aG.begin a.line g::[aG.push (bD 0)]++[aG.give],g):=by rw[bC];simp[k,l]
   have r:cU g a=g:=by unfold cU;rw[if_neg (by rw[k];decide)]
   rw[o] at i ⊢
   rw[r];simp only at i ⊢
   have N:eM L (p+1) (p+2):=i.sub (by omega) (by rw[oL];simp)
   refine⟨bH.stmt (n:=1) i (bH.plain N rfl (by omega) fun D T u A f b X=>⟨b,X,by rw[u];exact f⟩) fun w=>bH.last w rfl (by omega) fun D T m E u A C z=>⟨by rw[m];rfl,z,by rw[m];exact Z7 _⟩,trivial,_,rfl⟩
  ·have o:bC fs (d+1) g a p=(aG.begin a.line g::aF fs g d v (p+1)++[aG.give],g):=by rw[bC];simp[k,l]
   have r:cU g a=g:=by unfold cU;rw[if_neg (by rw[k];decide)]
   rw[o] at i ⊢
   rw[r];simp only at i ⊢
   obtain⟨B,I⟩:=kN (L:=L) (p:=p+1) (e:=some g.length) F (by omega) (i.sub (by omega) (by rw[oL];omega))
   exact⟨bH.stmt i B fun w=>bH.last w rfl (by omega) fun D T m E u A C z=>⟨by rw[m];rfl,z,by rw[m];exact Z7 _⟩,trivial,_,rfl⟩
  ·have o:bC fs (d+1) g a p=(aG.begin a.line g::aF fs g d v (p+1)++[aG.print],g):=by rw[bC];simp[k,l]
   have r:cU g a=g:=by unfold cU;rw[if_neg (by rw[k];decide)]
   rw[o] at i ⊢
   rw[r];simp only at i ⊢
   obtain⟨B,I⟩:=kN (L:=L) (p:=p+1) (e:=some g.length) F (by omega) (i.sub (by omega) (by rw[oL];omega))
   refine⟨bH.stmt i B fun w=>bH.last w rfl (by omega) fun D T m E u A C z=>⟨by rw[m];rfl,z,?_⟩,trivial,_,rfl⟩
   rw[m];exact⟨Z7 _,E,u,by rw[A];exact Z7 _,Y4 C⟩
  ·have o:bC fs (d+1) g a p=(aG.begin a.line g::aF fs g d v (p+1)++[aG.drop],g):=by rw[bC];simp[k,l]
   have r:cU g a=g:=by unfold cU;rw[if_neg (by rw[k];decide)]
   rw[o] at i ⊢
   rw[r];simp only at i ⊢
   obtain⟨B,I⟩:=kN (L:=L) (p:=p+1) (e:=some g.length) F (by omega) (i.sub (by omega) (by rw[oL];omega))
   refine⟨bH.stmt i B fun w=>bH.last w rfl (by omega) fun D T m E u A C z=>⟨by rw[m];rfl,z,?_⟩,trivial,_,rfl⟩
   rw[m];exact⟨Z7 _,E,u,by rw[A];exact Z7 _,Y4 C⟩
structure jY(fs:List aC)(d:Nat)(f:aC):Prop where
 kids:∃ps b,f.kids=ps++[b]/\StsOk (dS fs d) (ps.map (·.text)).reverse b.kids/\(ps.map (·.text)).Nodup
 len:(fR fs d f).code.length<=80000
def XW{fs:List aC}{d:Nat}{f:aC}(h:jY fs d f):∃T,oC (fW fs) (fR fs d f).code T/\(T 0).h=0/\(T 0).v<=f.kids.length-1/\(T 0).e=none/\iN (fR fs d f).code:=by
 obtain⟨⟨z,b,D,p,_⟩,I⟩:=h;have g:(fR fs d f).code=bI (bC fs d) (z.map (·.text)).reverse b.kids 0++[.push (bD 0),.give]:=by simp[fR,D]
 have N:f.kids.length-1=(z.map (·.text)).reverse.length:=by simp[D]
 rw[N];generalize B:(z.map (·.text)).reverse=e at*
 have M:=lR (mM fs d) b.kids e (fun _ _=>False) 0 p ⟨fun _ _ _ h=>h.elim,fun _ _ h=>h.elim⟩
 have x:iN (fR fs d f).code:=by
  rw[g];cases A:b.kids with
  |nil=>exact Y3 ⟨_,rfl⟩
  |cons a l=>
   rw[A] at p;obtain⟨r,K⟩:=(mM fs d e a (fun _ _=>False) 0 p.1 ⟨fun _ _ _ h=>h.elim,fun _ _ h=>h.elim⟩).2.2
   exact Y4 ⟨a.line,e,r++bI (bC fs d) (bC fs d e a 0).2 l (0+(bC fs d e a 0).1.length)++[.push (bD 0),.give],by rw[bI,K];simp⟩
 generalize Q:bI (bC fs d) e b.kids 0=c at*;obtain⟨T,P,F,C,t,E,H,G,L⟩:=M;rw[x9] at E H G;have s:(fR fs d f).code.length=c.length+2:=by rw[g];simp
 let U:Nat->eF:=fun q=>if q=c.length then ⟨0,(T q).v,none,false⟩ else if q=c.length+1 then ⟨1,(T c.length).v,none,false⟩ else T q
 have u0:U c.length=⟨0,(T c.length).v,none,false⟩:=by simp[U]
 have u1:U (c.length+1)=⟨1,(T c.length).v,none,false⟩:=by simp[U]
 have u2:∀q,q<c.length->U q=T q:=fun q u=>by simp[U];rw[if_neg (by omega),if_neg (by omega)]
 have v:(T 0).e=none:=by rcases t with t|t<;>exact t
 have o:(U 0).h=0/\(U 0).v<=e.length/\(U 0).e=none:=by
  rcases au_ c.length with w|w
  ·rw[w] at u0;rw[u0];exact⟨rfl,C,rfl⟩
  ·rw[u2 0 w];exact⟨F,C,v⟩
 refine⟨U,⟨fun j i m=>?_,I⟩,o.1,o.2.1,o.2.2,x⟩
 rw[s];rw[g] at m;rcases l6 j c.length with n|n
 ·rw[l7 n] at m;have:=L j i m;simp only[x9] at this;refine this.same (T':=U) (u2 j n) (fun q u=>?_) (fun q u O p=>by rw[u2 q (by omega)];exact p)
  rcases u with u|⟨y,J⟩
  ·refine⟨by omega,?_⟩
   rcases l6 q c.length with h|h
   ·rw[u2 q h];exact⟨rfl,dH,Y3 rfl⟩
   ·obtain rfl:q=c.length:=by omega
    rw[u0];exact⟨E.symm,dH,Y4 rfl⟩
  ·exact J.elim
 ·rw[j1 n] at m;obtain⟨k,rfl⟩:∃k,j=c.length+k:=⟨j-c.length,by omega⟩
  rw[s7] at m;match k,m with
  |0,m=>
   simp at m;subst m;show iG _ _ U c.length _
   exact⟨by rw[u0];rfl,by rw[u0];exact n8 _,by omega,by rw[u1,u0],by rw[u1,u0];exact Z7 _,by rw[u1];exact Y4 rfl⟩
  |1,m=>
   simp at m;subst m;exact⟨by rw[u1];rfl,by rw[u1];show 1<=_;omega,by rw[u1];exact Z7 _⟩
  |k+2,m=>simp at m
def lI{fs:List aC}{d:Nat}(h:∀f∈fs,jY fs d f):jX (fW fs) (dV fs d):=by
 refine⟨fun k n a=>?_⟩
 unfold fW at a;cases b:fs[k]? with
 |none=>rw[b] at a;cases a
 |some f=>
  rw[b] at a;simp at a;subst a;obtain⟨T,g,c,j,e,i⟩:=XW (h f (p8 b));exact⟨fR fs d f,T,by simp[dV,b],g,c,j,e,i⟩
def sY{fs:List aC}{d:Nat}(h:∀f∈fs,jY fs d f)(o:fW fs (dD fs [109,97,105,110])=some 0)(a:List Int):fQ (fW fs) (gV fs d a):=by
 obtain⟨f,T,k,i,n,j,m,c⟩:=(lI h).fn _ _ o;have e:gV fs d a=⟨[]++[⟨f,0,0,[],[],[]⟩],a,[]⟩:=by unfold gV;rw[k];rfl
 rw[e];refine⟨nB.snoc (fun g b=>by cases b) ⟨⟨T,i,n,j,Y4 m⟩,?_,by simp,by simp⟩ (by simp),fun g b=>by simp at b;rw[b];exact c⟩
 rcases c with ⟨l,s,r,e⟩|⟨v,e⟩<;>simp[e]
end Go.Proofs.YtddnpoiiimjpcaaGreatDoor.Hs
