/- Contracts of the program: names: what is looked up. -/
import Derived.Test.YtddnpoiiimjpcaaGreatDoorP13
set_option linter.defProp false
set_option maxRecDepth 100000
set_option maxHeartbeats 4000000
namespace Go.Proofs.YtddnpoiiimjpcaaGreatDoor
open Hs
open _root_.Go.Proofs.Tryz
open Go.RowKit
def qG(l:Nat)(w:aH):
 Calls prog 145 #[.agg #[Iv0 l]] w fun e a=>e=bE (Iv0 l)/\Below w.heap.size w a:=by
 go_in
 go_wp2
 go_ret;exact⟨rfl,(Y8 _ _).alloc dH _⟩
def Says(n:Int)(l:cO)(x:cE):Prop:=decide (0<=n)=l.contains x
def SE(l:List (List UInt8))(x:List UInt8)(g f:Nat)(w:World)(A:l.length<=100000)(_hlc:l.length<=f)(r:∀i (h:i<l.length),w.cell? ⟨g,i,none⟩=some (.string (bs l[i]))):
 Calls prog 201 #[.slice (some ⟨g,0,none⟩) l.length f,.string (bs x)] w fun e s=>(∃n:Int,e=.returned (.int .i64 n)/\Says n l x)/\s=w:=by
 have B:(bs x).toList=x:=cF x;have t:=aB r;clear r;go_enter func201,ntmps201;go_wp2_with fail;go_loop [5,8] (fun _ i=>∃k:Nat,k<=l.length/\i=.int .i64 k/\Hid (∀y∈l.take k,y≠x)) (fun _ i=>l.length-(intOf i).toNat)
 case atStart=>exact⟨0,n8 _,rfl,fun y j=>by simp at j⟩
 case round=>
  obtain⟨k,v,rfl,m⟩:=hrel;by_cases b:k<l.length
  ·have p:=t.out k b;have a:l[k]∈l:=e8 b
   have q:Hid (∀y∈l.take (k+1),y∈l.take k\/y=l[k]):=fun y j=>by
    rw[i6 b] at j;rcases Z2.1 j with h|h
    ·exact Y4 h
    ·exact Y3 (Z1.1 h)
   have o:=aB a;clear a;generalize l[k]=y at*;have j:(bs y).toList=y:=cF y;cases c:(x==y)
   ·have d:Hid (∀z∈l.take (k+1),z≠x):=fun z u=>by
     rcases q.out z u with h|h
     ·exact m.out z h
     ·rw[h];intro e;rw[e] at c;simp at c
    clear m q o;go_wp2_with fail;go_round
    case rel=>exact⟨k+1,by omega,by go_num,d⟩
    case measure=>simp[intOf];omega
   ·have d:Hid (l.contains x=true):=by
     show _=_
     have e:x=y:=by simpa using c
     rw[e];simpa using o.out
    clear m q o;go_wp2_with fail;go_ret;exact⟨⟨k,rfl,by unfold Says;rw[d.out];simp⟩,rfl⟩
  ·have d:Hid (l.contains x=false):=by
    show _=_
    rw[Bool.eq_false_iff];intro h;have:=m.out x (by rw[j7 (by omega)];simpa using h)
    exact this rfl
   clear m;go_wp2_with fail;go_ret;exact⟨⟨-1,rfl,by unfold Says;rw[d.out];decide⟩,rfl⟩
def SF(x:cE)(w:aH):
 Calls prog 201 #[bV,.string (bs x)] w fun e a=>(∃n:Int,e=bE (Iv0 n)/\Says n [] x)/\a=w:=by
 go_in
 go_wp2_with fail;go_loop [5,8] (fun _ i=>i=Iv0 0) (fun _ _=>0)
 case atStart=>rfl
 case round=>
  subst hrel;go_wp2
  go_ret;exact⟨⟨-1,rfl,rfl⟩,rfl⟩
def uJ(l:cO)(x:cE)(v:aQ)(base:Nat)(w:aH)(p:l.length<=100000)(a:w.ownsRow base 9 1 v l.length (kJ l)):
 Calls prog 170 #[v,.string (bs x)] w fun e b=>e=bE (.bool (l.contains x))/\b=w:=by
 have d:Hid (Calls prog 201 #[v,.string (bs x)] w fun e b=>(∃n:Int,e=bE (Iv0 n)/\Says n l x)/\b=w):=by
  rcases a.2 with ⟨rfl,h⟩|⟨g,c,m,rfl,u,r,j,y,z,k⟩
  ·obtain rfl:l=[]:=i7 h;exact SF x w
  ·refine SE l x g c w p j fun i s=>aA r ?_
   have e:(kJ l)[i]?=some (.string (bs l[i])):=by simp[kJ,s]
   rw[<-k,i8,if_pos (by omega)] at e
   simpa using e
 clear a;go_in
 go_wp2_with fail;refine d.mono ?_;rintro e t ⟨⟨n,rfl,f⟩,o⟩;obtain rfl:=o.symm;clear d;have q:=aB f;clear f;go_wp2
 go_ret;exact⟨jB q,rfl⟩
def kX(fs:List aC)(x:cE):Option Nat:=
 if x==[108,101,110] then some 1 else if x==[114,101,97,100] then some 0 else (dO fs x).map fun f=>f.kids.length-1
def GH{F:cC}{w:aH}:∀{us:List Value} {fs:List aC} (k:Nat) (c:k<fs.length),jZ (yY F w) us fs->
 ∃a d g b,(jP us)[k*4]?=some (Iv0 fs[k].line)/\(jP us)[k*4+1]?=some (.string (bs fs[k].text))/\(jP us)[k*4+1+1]?=some a/\(jP us)[k*4+1+1+1]?=some d/\fs[k].kids=g++[b]/\PNm F w a g/\b.op=[98,108,111,99,107]/\PKid F w d b.kids
 |[],[],k,c,_=>absurd c (Nat.not_lt_zero _)
 |_::us,f::fs,0,_,⟨⟨a,d,g,b,n,p,u,r,s⟩,_⟩=>by
  subst n;exact⟨a,d,g,b,rfl,rfl,rfl,rfl,p,u,r,s⟩
 |_::us,f::fs,k+1,c,⟨⟨a,d,g,b,n,_⟩,h⟩=>by
  subst n;obtain⟨i,l,m,q,v,t,x,y,o⟩:=GH k (by simpa using c) h
  have e:∀j,(jP (Value.agg #[Iv0 f.line,.string (bs f.text),a,d]::us))[(k+1)*4+j]?=(jP us)[k*4+j]?:=fun j=>by
   rw[jP,j1 (by simp[wE];omega)]
   congr 1;simp[wE];omega
  exact⟨i,l,m,q,(e 0).trans v,(e 1).trans t,(e 2).trans x,(e 3).trans y,o⟩
 |[],_::_,_,_,h=>h.elim
 |_::_,[],_,c,_=>absurd c (Nat.not_lt_zero _)
def PI(F:cC)(w:aH)(g:Nat)(fs:List aC):Prop:=
 ∀k (hk:k<fs.length),∃pv bv ps b,w.cell? (aL g (k*4))=some (Iv0 fs[k].line)/\w.cell? (aL g (k*4+1))=some (.string (bs fs[k].text))/\w.cell? (aL g (k*4+1+1))=some pv/\w.cell? (aL g (k*4+1+1+1))=some bv/\fs[k].kids=ps++[b]/\PNm F w pv ps/\b.op=[98,108,111,99,107]/\PKid F w bv b.kids
def FSl.cells{F:cC}{w:aH}{v:aQ}{fs:List aC}(h:FSl F w v fs):(v=bV/\fs=[])\/∃g a,v=.slice (some (aL g 0)) fs.length a/\F g/\g<w.heap.size/\fs.length<=a/\PI F w g fs:=by
 rcases h with h|⟨g,a,s,x,p,i,d,o,q,t⟩
 ·exact Y4 h
 ·refine Y3 ⟨g,a,p,i,aD d,o,fun k m=>?_⟩
  obtain⟨l,C,n,b,y,r,z,B,f⟩:=GH k m t
  have e:∀j u,j<fs.length*4->(jP x)[j]?=some u->w.cell? (aL g j)=some u:=fun j u A c=>by
   refine aA d ?_;rw[<-q,i8,if_pos A] at c;simpa using c
  exact⟨l,C,n,b,e _ _ (by omega) y,e _ _ (by omega) r,e _ _ (by omega) z,e _ _ (by omega) B,f⟩
def O2{fs:List aC}{x:cE}{k:Nat}(e:k<fs.length)(c:∀f∈fs.take k,f.text≠x)(b:fs[k].text=x):dO fs x=some fs[k]:=by
 unfold dO;have a:fs=fs.take k++fs[k]::fs.drop (k+1):=by rw[y6,l8]
 generalize g:fs[k]=f at*;rw[a,List.find?_append,ad_.2 (by intro z d;simpa using c z d)]
 simp[b]
def F7{fs:List aC}{x:cE}(a:∀f∈fs,f.text≠x):dO fs x=none:=by
 unfold dO;exact ad_.2 (by intro z b;simpa using a z b)
def WI(fs:List aC)(F:cC)(x:cE)(g t:Nat)(w:aH)(hl:fs.length<=100000)(D:∀f∈fs,f.kids.length<=90000)(_hlc:fs.length<=t)(J:g<w.heap.size)(P:PI F w g fs)(G:(x==[108,101,110])=false)(E:(x==[114,101,97,100])=false):
 Calls prog 106 #[.slice (some (aL g 0)) fs.length t,.string (bs x)] w fun e S=>e=bE (.tuple #[Iv0 ((kX fs x).getD 0:Nat),.bool (kX fs x).isSome])/\Below w.heap.size w S:=by
 have hx:(bs x).toList=x:=cF x;have V:=aB P;have H:=aB D;have Q:Hid (kX fs x=(dO fs x).map fun f=>f.kids.length-1):=by show _=_;unfold kX;rw[G,E];rfl
 clear P D;go_in
 go_wp2_with fail;go_loopg [7,15] fs.length (fun gk _ i wr=>∃k:Nat,k+gk=fs.length/\i=Iv0 k/\Below w.heap.size w wr/\Hid (∀f∈fs.take k,f.text≠x))
 case atStart=>exact⟨0,by omega,rfl,Y8 _ _,fun y A=>by simp at A⟩
 case round=>
  obtain⟨k,hk,rfl,n,r⟩:=hrel;have Y:g<wr.heap.size:=Y7 J n.size;by_cases c:k<fs.length
  ·obtain⟨j,rfl⟩:∃j,gk=j+1:=⟨gk-1,by omega⟩
   obtain⟨pv,bv,K,b,O,L,M,N,a,C,U,B⟩:=V k c;obtain⟨px,pc,rfl⟩:=C.slice;obtain⟨bx,bc,rfl⟩:=B.slice;have d:∀o u,w.cell? (aL g o)=some u->wr.cell? (aL g o)=some u:=fun o u h=>(n.cell (p:=(aL g o)) J).trans h
   have d0:=d _ _ O;have d1:=d _ _ L;have d2:=d _ _ M;have d3:=d _ _ N;have l:fs[k]∈fs:=e8 c
   have I:Hid (∀y∈fs.take (k+1),y∈fs.take k\/y=fs[k]):=fun y A=>by
    rw[i6 c] at A;rcases Z2.1 A with h|h
    ·exact Y4 h
    ·exact Y3 (Z1.1 h)
   have m:Hid (fs[k].text=x->dO fs x=some fs[k]):=fun e=>O2 c r.out e
   have T:K.length+1=fs[k].kids.length:=by rw[a];simp
   have Z:=H _ l;have q:=aB n;clear O L M N C B d a l n;generalize fs[k]=f at*;have A:(bs f.text).toList=f.text:=cF _;cases v:(f.text==x)
   ·have s:Hid (∀z∈fs.take (k+1),z.text≠x):=fun z W=>by
     rcases I z W with h|h
     ·exact r.out z h
     ·rw[h];simpa using v
    clear r I m;go_wp2
    go_roundg j
    case measure=>omega
    case rel=>exact⟨k+1,by omega,by go_num,q.alloc q.size _,s⟩
   ·have s:Hid (kX fs x=some K.length):=by
     show _=_
     rw[Q.out,m.out (by simpa using v)]
     simp;omega
    clear r I m;go_wp2
    go_ret2
    rw[s.out];exact⟨rfl,q.alloc q.size _⟩
  ·have s:Hid (kX fs x=none):=by
    show _=_
    rw[Q.out,F7 (fun f X=>r.out f (by rw[j7 (by omega)];exact X))]
    rfl
   have q:=aB n;clear r n;go_wp2
   go_ret2
   rw[s.out];exact⟨rfl,q⟩
def WJ(x:cE)(w:aH)(b:(x==[108,101,110])=false)(a:(x==[114,101,97,100])=false):
 Calls prog 106 #[bV,.string (bs x)] w fun e c=>e=bE (.tuple #[Iv0 ((kX [] x).getD 0:Nat),.bool (kX [] x).isSome])/\Below w.heap.size w c:=by
 have f:(bs x).toList=x:=cF x;have d:Hid (kX [] x=none):=by show _=_;unfold kX;rw[b,a];rfl
 go_in
 go_wp2_with fail;go_loop [7,15] (fun _ i=>i=Iv0 0) (fun _ _=>0)
 case atStart=>rfl
 case round=>
  subst hrel;go_wp2
  go_ret2
  rw[d.out];exact⟨rfl,Y8 _ _⟩
def BI(v:aQ)(x:cE)(w:aH)(n:Nat)(fs:List aC)(c:(x=[108,101,110]/\n=1)\/(x=[114,101,97,100]/\n=0)):
 Calls prog 106 #[v,.string (bs x)] w fun e b=>e=bE (.tuple #[Iv0 ((kX fs x).getD 0:Nat),.bool (kX fs x).isSome])/\Below w.heap.size w b:=by
 rcases c with ⟨rfl,rfl⟩|⟨rfl,rfl⟩
 ·have a:Hid (kX fs [108,101,110]=some 1):=rfl;simp only[bs];go_in
  go_wp2
  go_ret2
  rw[a.out];exact⟨rfl,Y8 _ _⟩
 ·have a:Hid (kX fs [114,101,97,100]=some 0):=rfl;simp only[bs];go_in
  go_wp2
  go_ret2
  rw[a.out];exact⟨rfl,Y8 _ _⟩
def BJ(fs:List aC)(F:cC)(v:aQ)(x:cE)(w:aH)(l:fs.length<=100000)(i:∀f∈fs,f.kids.length<=90000)(h:FSl F w v fs):
 Calls prog 106 #[v,.string (bs x)] w fun e j=>e=bE (.tuple #[Iv0 ((kX fs x).getD 0:Nat),.bool (kX fs x).isSome])/\Below w.heap.size w j:=by
 by_cases c:x=[108,101,110]
 ·exact BI v x w 1 fs (Y4 ⟨c,rfl⟩)
 by_cases b:x=[114,101,97,100]
 ·exact BI v x w 0 fs (Y3 ⟨b,rfl⟩)
 rcases h.cells with ⟨rfl,rfl⟩|⟨g,d,rfl,n,k,a,m⟩
 ·exact WJ x w (by simpa using c) (by simpa using b)
 ·exact WI fs F x g d w l i a k m (by simpa using c) (by simpa using b)
abbrev FV(pv:aQ):Value:=.func (.func 106) #[pv] #[]
abbrev FVlen:Value:=.func (.func 90) #[] #[]
def FVl(F:cC)(w:aH)(fv:aQ)(fs:List aC):Prop:=(∃pv,fv=FV pv/\FSl F w pv fs)\/(fv=FVlen/\fs=[])
def fU:Value->Bool
 |.func (.func k) _ _=>k==90
 |_=>false
structure CK(cb tp lo:Nat)(fs:List aC)(fv:aQ)(w:aH)(seen:cO):Prop where
 blk:∃sv,w.heap[cb]?=some (.cells #[fv,sv] 156 (0,0))/\w.ownsRow tp 9 1 sv seen.length (kJ seen)/\sv.ownBlock≠some cb/\tp<=cb
 fun_:FVl (Btw lo tp) w fv fs
def FSl.keep{F:cC}{w w':aH}{v:aQ}{fs:List aC}(h:FSl F w v fs)(d:∀b,F b->w'.heap[b]?=w.heap[b]?):FSl F w' v fs:=by
 rcases h with h|⟨g,c,a,i,k,e,m,j,l,f⟩
 ·exact Y4 h
 ·exact Y3 ⟨g,c,a,i,k,e,by rw[d g e];exact m,j,l,f.mono fun _ _ h=>h.keep d eD⟩
def FVl.keep{F:cC}{w w':aH}{v:aQ}{fs:List aC}(h:FVl F w v fs)(a:∀b,F b->w'.heap[b]?=w.heap[b]?):FVl F w' v fs:=by
 rcases h with ⟨e,d,c⟩|h
 ·exact Y4 ⟨e,d,c.keep a⟩
 ·exact Y3 h
def CK.lt{cb a lo:Nat}{fs:List aC}{d:aQ}{w:aH}{seen:cO}(h:CK cb a lo fs d w seen):cb<w.heap.size/\a<=cb:=by
 obtain⟨_,c,_,_,b⟩:=h.blk;exact⟨aD c,b⟩
def CK.grow{cb f lo:Nat}{fs:List aC}{g:aQ}{w w':aH}{seen:cO}(h:CK cb f lo fs g w seen)(c:Below w.heap.size w w'):CK cb f lo fs g w' seen:=by
 obtain⟨i,e,d,j⟩:=h.blk;have b:=aD e;exact⟨⟨i,by rw[c.block _ b];exact e,bA d fun k a=>c.block k (cP d k a),j⟩,h.fun_.keep fun k a=>c.block k (by have:=a.2;omega)⟩
def jG{w:aH}{b:Nat}{a v1:aQ}(h:w.heap[b]?=some (.cells #[a,v1] 156 (0,0))):
 b<w.heap.size/\w.cell? (aL b 0)=some a/\w.cell? (aL b 1)=some v1/\w.frozen? (aL b 1)=false:=
 ⟨aD h,aA h rfl,aA h rfl,aE h⟩
def kW(cb:Nat)(w:aH):Option Nat:=
 match w.heap[cb]? with
 |some (.cells cs _ _)=>(cs[1]?.getD undef).ownBlock
 |_=>none
def nT{cb:Nat}{w w':aH}(h:w'.heap[cb]?=w.heap[cb]?):kW cb w'=kW cb w:=by unfold kW;rw[h]
def mO{cb:Nat}{w:aH}{a v1:aQ}(h:w.heap[cb]?=some (.cells #[a,v1] 156 (0,0))):kW cb w=v1.ownBlock:=by unfold kW;rw[h];rfl
structure FB(cb tp:Nat)(w w':aH):Prop where
 bel:Below tp w w'
 blk:∀k,k<w.heap.size->k≠cb->kW cb w≠some k->w'.heap[k]?=w.heap[k]?
 row:∀k,kW cb w'=some k->kW cb w=some k\/w.heap.size<=k
def FB.trans{cb d:Nat}{a b c:aH}(h:FB cb d a b)(k:FB cb d b c):FB cb d a c:=by
 refine⟨h.bel.trans k.bel,fun i f j g=>?_,fun i f=>?_⟩
 ·have l:=h.bel.size;rw[k.blk i (by omega) j (fun e=>?_),h.blk i f j g]
  rcases h.row i e with e|e
  ·exact g e
  ·omega
 ·have l:=h.bel.size;rcases k.row i f with e|e
  ·exact h.row i e
  ·exact Y3 (by omega)
def FB.of_below{cb b:Nat}{w w':aH}(h:Below w.heap.size w w')(c:cb<w.heap.size/\b<=cb):FB cb b w w':=
 ⟨h.mono (by omega),fun k a _ _=>h.block k a,fun k a=>Y4 (by rw[<-nT (h.block cb c.1)];exact a)⟩
def FB.refl{cb a:Nat}(w:aH):FB cb a w w:=⟨Y8 _ _,fun _ _ _ _=>rfl,fun _ h=>Y4 h⟩
def dB(cb tp lo:Nat)(fs:List aC)(fv:aQ)(w:aH)(c:aZ)(e:Ending)(w':aH):Prop:=
 FB cb tp w w'/\((∃s,c=⟨s,0,0⟩/\e=bE (.tuple #[])/\CK cb tp lo fs fv w' s)\/(c.kind≠0/\e=dF c.kind c.line))
def Stk(a b:aZ):Prop:=a.kind≠0->b.kind=a.kind/\b.line=a.line
def Stk.refl(a:aZ):Stk a a:=fun _=>⟨rfl,rfl⟩
def Stk.trans{a b c:aZ}(h:Stk a b)(k:Stk b c):Stk a c:=fun d=>by
 obtain⟨e,i⟩:=h d;obtain⟨f,g⟩:=k (by rw[e];exact d)
 exact⟨f.trans e,g.trans i⟩
def Stk.found(s:aZ)(l k:Nat):Stk s (s.found l k):=fun h=>by unfold aZ.found;rw[if_neg h];exact⟨rfl,rfl⟩
def Stk.declares(s:aZ)(n:aC):Stk s (Hs.declaresL s n):=by
 unfold Hs.declaresL;split
 ·exact Stk.found _ _ _
 ·exact Stk.refl _
def Stk.look(fs:List aC)(a:Bool)(s:aZ)(n:aC):Stk s (cG fs a s n):=by
 unfold cG eJ;repeat' split
 all_goals first|exact Stk.found _ _ _|exact Stk.refl _
def Stk.fold{f:aZ->aC->aZ}(h:∀s k,Stk s (f s k)):∀(l:List aC) (s:aZ),Stk s (l.foldl f s)
 |[],s=>Stk.refl s
 |k::l,s=>(h s k).trans (Stk.fold h l (f s k))
def Stk.seen(s:aZ)(x:cO):Stk s { s with seen:=x }:=fun _=>⟨rfl,rfl⟩
def Stk.walk(fs:List aC)(a:Bool):∀(d:Nat) (n:aC) (s:aZ),Stk s (aN fs a d n s)
 |0,_,s=>Stk.refl s
 |d+1,n,s=>by
  rw[aN];split
  ·split
   ·exact((Stk.declares s _).trans (Stk.walk fs a d _ _)).trans (Stk.seen _ _)
   ·exact Stk.refl s
  ·have h:Stk s (n.kids.foldl (fun s k=>aN fs a d k s) (cG fs a s n)):=(Stk.look fs a s n).trans (Stk.fold (fun s k=>Stk.walk fs a d k s) _ _)
   simp only;split
   ·exact h.trans (Stk.seen _ _)
   ·exact h
def dB.fault{cb d lo:Nat}{fs:List aC}{h:aQ}{w w':aH}{c1 c:aZ}(g:FB cb d w w')(a:c1.kind≠0)(f:Stk c1 c):dB cb d lo fs h w c (dF c1.kind c1.line) w':=by
 obtain⟨b,e⟩:=f a;exact⟨g,Y3 ⟨by rw[b];exact a,by rw[b,e]⟩⟩
def dB.done{cb a lo:Nat}{fs:List aC}{b:aQ}{w w':aH}{c:aZ}{s:cO}(e:FB cb a w w')(f:c=⟨s,0,0⟩)(d:CK cb a lo fs b w' s):dB cb a lo fs b w c (bE (.tuple #[])) w':=⟨e,Y4 ⟨s,f,rfl,d⟩⟩
def kR{B:Nat}{a w:aH}(h:Below B a w)(n:Nat):Below B a (w.drewN n):=⟨h.os,h.tape,h.output,h.size,h.block⟩
def J8(cb p lo:Nat)(fs:List aC)(v:aQ)(w:aH)(seen:cO)(h:CK cb p lo fs v w seen)(G:seen.length<=100000)(l:Nat)(x:cE):
 Calls prog 126 #[bO cb,.agg #[Iv0 l,.string (bs x)]] w (dB cb p lo fs v w (if seen.contains x then ⟨seen,0,0⟩ else aZ.found ⟨seen,0,0⟩ l 6)):=by
 have m:=h.grow ((Y8 _ _).alloc dH (.cells #[Iv0 l,.string (bs x)] 179));obtain⟨F,f,a,_⟩:=m.blk;have i:=h.lt;obtain⟨y,J,C,A⟩:=jG f
 obtain⟨q,s,rfl⟩:∃q s,F=.slice q seen.length s:=by
  rcases a.2 with ⟨rfl,z⟩|⟨g,B,E,rfl,_⟩
  ·exact⟨none,0,by rw[z]⟩
  ·exact⟨_,_,rfl⟩
 have t:=aB (fun n=>uJ seen x (.slice q seen.length s) p ((w.alloc (.cells #[Iv0 l,.string (bs x)] 179)).drewN n) G (bA a fun _ _=>rfl))
 have H:=aB m;have u:Hid (Below w.heap.size w (w.alloc (.cells #[Iv0 l,.string (bs x)] 179))):=(Y8 _ _).alloc dH _;clear f a h m A;generalize j:(if seen.contains x then (⟨seen,0,0⟩:aZ) else aZ.found ⟨seen,0,0⟩ l 6)=c
 have d:=aB j;clear j;generalize seen.contains x=b at*;cases b
 ·have o:c=⟨seen,6,l⟩:=d.symm;subst o;clear d;go_in
  go_wp2_with fail;go_quiet ((go_at_call 170;exact Calls.quiet_of_same (t _)))
  go_wp2_with fail;refine(qG l _).mono ?_;rintro e K ⟨rfl,k⟩;have r:=aB k;clear k;go_wp2_with (go_at_call 107;refine(gN 6 l _).mono ?_;rintro e I ⟨rfl,D⟩;obtain rfl:=D.symm)
  exact⟨rfl,dB.fault (c1:=⟨seen,6,l⟩) (FB.of_below ((kR u _).trans (r.mono (by simp))) i) (by simp) (Stk.refl _)⟩
 ·have o:c=⟨seen,0,0⟩:=d.symm;subst o;clear d;go_in
  go_wp2_with fail;go_quiet ((go_at_call 170;exact Calls.quiet_of_same (t _)))
  go_wp2
  go_end0;exact dB.done (FB.of_below (kR u _) i) rfl (H.grow (kR (Y8 _ _) _))
def qD(cb o lo:Nat)(fs:List aC)(v:aQ)(w:aH)(seen:cO)(h:CK cb o lo fs v w seen)(J:seen.length<=100000)(l:Nat)(x:cE):
 Calls prog 146 #[bO cb,.agg #[Iv0 l,.string (bs x)]] w (dB cb o lo fs v w (if fY x || seen.contains x then aZ.found ⟨seen,0,0⟩ l 6 else ⟨seen,0,0⟩)):=by
 have k:=h.grow ((Y8 _ _).alloc dH (.cells #[Iv0 l,.string (bs x)] 179));obtain⟨I,f,d,_⟩:=k.blk;have i:=h.lt;obtain⟨y,L,E,B⟩:=jG f
 obtain⟨p,r,rfl⟩:∃p r,I=.slice p seen.length r:=by
  rcases d.2 with ⟨rfl,A⟩|⟨g,D,G,rfl,_⟩
  ·exact⟨none,0,by rw[A]⟩
  ·exact⟨_,_,rfl⟩
 have t:=aB (fun n=>uJ seen x (.slice p seen.length r) o ((w.alloc (.cells #[Iv0 l,.string (bs x)] 179)).drewN n) J (bA d fun _ _=>rfl))
 have H:=aB k;have u:Hid (Below w.heap.size w (w.alloc (.cells #[Iv0 l,.string (bs x)] 179))):=(Y8 _ _).alloc dH _;have M:(bs x).toList=x:=cF x;clear f d h k B;have C:Hid (fY x=(x==[108,101,110] || x==[114,101,97,100])):=rfl
 generalize j:(if fY x || seen.contains x then aZ.found ⟨seen,0,0⟩ l 6 else (⟨seen,0,0⟩:aZ))=c
 have a:=aB j;clear j;rw[C.out] at a;generalize seen.contains x=b at*;cases k:(x==[108,101,110])<;>cases z:(x==[114,101,97,100])<;>cases b
 all_goals
  rw[k,z] at a
  first
   |(have s:c=⟨seen,0,0⟩:=a.symm
     subst s;clear a;go_in
     go_wp2_with fail;go_quiet ((go_at_call 170;exact Calls.quiet_of_same (t _)))
     go_wp2
     go_end0;exact dB.done (FB.of_below (kR u _) i) rfl (H.grow (kR (Y8 _ _) _)))
   |(have s:c=⟨seen,6,l⟩:=a.symm
     subst s;clear a;go_in
     go_wp2_with fail;go_quiet ((go_at_call 170;exact Calls.quiet_of_same (t _)))
     go_wp2_with fail;refine(qG l _).mono ?_;rintro e N ⟨rfl,m⟩;have q:=aB m;clear m;go_wp2_with (go_at_call 107;refine(gN 6 l _).mono ?_;rintro e K ⟨rfl,F⟩;obtain rfl:=F.symm)
     exact⟨rfl,dB.fault (c1:=⟨seen,6,l⟩) (FB.of_below ((kR u _).trans (q.mono (by simp))) i) (by simp) (Stk.refl _)⟩)
def SH(c:UInt8)(w:aH):
 Calls prog 180 #[.int .u8 c.toNat] w fun e a=>e=bE (.bool (eL c))/\a=w:=by
 have d:(c.toNat:Int)<=255:=nI c;have b:=aB (WN c);go_in
 go_wp2
 all_goals
  go_ret;exact⟨jB (by rw[b.out]),rfl⟩
def sW(c:UInt8)(w:aH):
 Calls prog 183 #[.int .u8 c.toNat] w fun e a=>e=bE (.bool (eI c))/\a=w:=by
 have d:(c.toNat:Int)<=255:=nI c;have b:Hid (eI c=(decide (48<=c.toNat) && decide (c.toNat<=57))):=rfl;go_in
 go_wp2
 all_goals
  go_ret;exact⟨jB (by rw[b.out,ar_];constructor<;>intro h<;>(try simp at h)<;>(try simp)<;>omega),rfl⟩
def wU(c:UInt8)(w:aH):
 Calls prog 181 #[.int .u8 c.toNat] w fun e a=>e=bE (.bool (fI c))/\a=w:=by
 have d:(c.toNat:Int)<=255:=nI c;have b:Hid (fI c=(c.toNat==95 || (decide (97<=c.toNat) && decide (c.toNat<=122) || decide (65<=c.toNat) && decide (c.toNat<=90)))):=rfl
 go_in
 go_wp2
 all_goals
  go_ret;exact⟨jB (by rw[b.out,ar_];constructor<;>intro h<;>(try simp at h)<;>(try simp)<;>omega),rfl⟩
def VW(c:UInt8)(w:aH):
 Calls prog 204 #[.int .u8 c.toNat] w fun e f=>e=bE (.bool (eK true c))/\f=w:=by
 have b:Hid (eK true c=(fI c || eI c)):=by show _=_;unfold eK;rw[Bool.true_and,Bool.or_comm]
 have i:=aB (wU c);have k:=aB (sW c);generalize eK true c=r at*;generalize fI c=j at*;generalize eI c=g at*;have h:=b;subst h;clear b;cases j<;>cases g
 all_goals
  go_in
  go_wp2_with (first|(go_at_call 181;refine(i _).mono ?_;rintro e d ⟨rfl,a⟩;obtain rfl:=a.symm)|(go_at_call 183;refine(k _).mono ?_;rintro e d ⟨rfl,a⟩;obtain rfl:=a.symm))
  go_ret;exact⟨rfl,rfl⟩
def JM(c:UInt8)(w:aH):
 Calls prog 208 #[.int .u8 c.toNat] w fun e a=>e=bE (.bool (fH c))/\a=w:=by
 have d:(c.toNat:Int)<=255:=nI c;have b:Hid (fH c=(c.toNat != 34 && c.toNat != 10)):=rfl;go_in
 go_wp2
 all_goals
  go_ret;exact⟨jB (by rw[b.out,ar_];constructor<;>intro h<;>(try simp at h)<;>(try simp)<;>omega),rfl⟩
def tU(P:UInt8->Bool)(F:Nat)(q:∀a w,Sem.run prog (callFunc F a) w=.ok (.enter F a) w)(n:∀c w,Calls prog F #[.int .u8 (UInt8.toNat c)] w fun e h=>e=bE (.bool (P c))/\h=w)(s:ByteArray)(w:aH)(r:s.size<=2000000000):
 Calls prog 179 #[.string s,.func (.func F) #[] #[]] w fun e h=>e=bE (Iv0 (bL P s.data.toList))/\h=w:=by
 have m:=aB n;clear n;go_in
 go_wp2_with fail;go_loop [5] (fun i=>∃j:Nat,j<=s.size/\i=Iv0 j/\Hid (bL P s.data.toList=j+bL P (s.data.toList.drop j))) (fun i=>s.size-(intOf i).toNat)
 case atStart=>exact⟨0,n8 _,rfl,by show _=_;simp⟩
 case round=>
  obtain⟨j,t,rfl,b⟩:=hrel;by_cases g:j<s.size
  ·have p:(s[j].toNat:Int)<=255:=nI s[j];rw[kO s j g] at b;have f:=aB (m s[j]);cases d:P s[j]
   ·rw[LP _ _ _ d] at b;rw[d] at f;clear d;go_wp2_with (refine(f _).mono ?_;rintro e o ⟨rfl,k⟩;obtain rfl:=k.symm)
    go_ret;exact⟨TW (by have:=b.out;omega),rfl⟩
   ·rw[qU _ _ _ d] at b;rw[d] at f;clear d;have l:Hid (bL P s.data.toList=j+1+bL P (s.data.toList.drop (j+1))):=by show _=_;rw[b.out];omega
    go_wp2_with (refine(f _).mono ?_;rintro e o ⟨rfl,k⟩;obtain rfl:=k.symm)
    go_round
    case rel=>exact⟨j+1,by omega,by go_num,l⟩
    case measure=>simp[intOf];omega
  ·rw[o8 (by simpa using (by omega:s.size<=j))] at b
   go_wp2
   go_ret;exact⟨TW (by have:=b.out;simp[bL] at this;omega),rfl⟩
def NE(x:cE)(w:aH):
 Calls prog 206 #[.string (bs x)] w fun e a=>e=bE (.bool (iT.contains x))/\a=w:=by
 have c:(bs x).toList=x:=cF x
 have b:Hid (iT.contains x=(x==[102,117,110,99] || (x==[118,97,114] || (x==[105,102] || (x==[101,108,115,101] || (x==[119,104,105,108,101] || (x==[114,101,116,117,114,110] || (x==[112,114,105,110,116] || (x==[116,114,117,101] || x==[102,97,108,115,101]))))))))):=by
  show _=_
  rw[ar_];simp[iT]
 go_in
 go_wp2
 all_goals
  go_ret;exact⟨jB (by rw[b.out];first|done|simp_all),rfl⟩
end Go.Proofs.YtddnpoiiimjpcaaGreatDoor
