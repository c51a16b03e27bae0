/- Contracts of the program: names: what is looked up. -/
import Derived.Test.YtblbkfdhjfppkaaGreatDoorP08
set_option linter.defProp false
set_option maxRecDepth 100000
set_option maxHeartbeats 4000000
namespace Go.Proofs.YtblbkfdhjfppkaaGreatDoor
open Hs
open _root_.Go.Proofs.Tryz
open Go.RowKit
def qT(l:Nat)(w:World):
 Calls prog 188 #[.agg #[.int .i64 l]] w fun e a=>e=.returned (.int .i64 l)/\Below w.heap.size w a:=by
 go_enter func188,ntmps188;go_wp2_with fail;go_ret;exact⟨rfl,(ay_ _ _).alloc (au_ _) _⟩
def Says(n:Int)(l:List (List UInt8))(x:List UInt8):Prop:=decide (0<=n)=l.contains x
def UQ(l:List (List UInt8))(x:List UInt8)(g f:Nat)(w:World)(A:l.length<=100000)(_hlc:l.length<=f)(r:∀i (h:i<l.length),w.cell? ⟨g,i,none⟩=some (.string (bs l[i]))):
 Calls prog 305 #[.slice (some ⟨g,0,none⟩) l.length f,.string (bs x)] w fun e s=>(∃n:Int,e=.returned (.int .i64 n)/\Says n l x)/\s=w:=by
 have B:(bs x).toList=x:=cA x;have t:=aB r;clear r;go_enter func305,ntmps305;go_wp2_with fail;go_loop [5,8] (fun _ i=>∃k:Nat,k<=l.length/\i=.int .i64 k/\Hid (∀y∈l.take k,y≠x)) (fun _ i=>l.length-(intOf i).toNat)
 case atStart=>exact⟨0,a9_ _,rfl,fun y j=>by simp at j⟩
 case round=>
  obtain⟨k,v,rfl,m⟩:=hrel;by_cases b:k<l.length
  ·have p:=t.out k b;have a:l[k]∈l:=aR_ b
   have q:Hid (∀y∈l.take (k+1),y∈l.take k\/y=l[k]):=fun y j=>by
    rw[aT_ b] at j;rcases aE_.1 j with h|h
    ·exact av_ h
    ·exact as_ (aD_.1 h)
   have o:=aB a;clear a;generalize l[k]=y at*;have j:(bs y).toList=y:=cA y;cases c:(x==y)
   ·have d:Hid (∀z∈l.take (k+1),z≠x):=fun z u=>by
     rcases q.out z u with h|h
     ·exact m.out z h
     ·rw[h];intro e;rw[e] at c;simp at c
    clear m q o;go_wp2_with fail;go_round
    case rel=>exact⟨k+1,by omega,by go_num,d⟩
    case measure=>simp[intOf];omega
   ·have d:Hid (l.contains x=true):=by
     show _=_
     have e:x=y:=by simpa using c
     rw[e];simpa using o.out
    clear m q o;go_wp2_with fail;go_ret;exact⟨⟨k,rfl,by unfold Says;rw[d.out];simp⟩,rfl⟩
  ·have d:Hid (l.contains x=false):=by
    show _=_
    rw[Bool.eq_false_iff];intro h;have:=m.out x (by rw[a0_ (by omega)];simpa using h)
    exact this rfl
   clear m;go_wp2_with fail;go_ret;exact⟨⟨-1,rfl,by unfold Says;rw[d.out];decide⟩,rfl⟩
def UR(x:List UInt8)(w:World):
 Calls prog 305 #[.slice none 0 0,.string (bs x)] w fun e a=>(∃n:Int,e=.returned (.int .i64 n)/\Says n [] x)/\a=w:=by
 go_enter func305,ntmps305;go_wp2_with fail;go_loop [5,8] (fun _ i=>i=.int .i64 0) (fun _ _=>0)
 case atStart=>rfl
 case round=>
  subst hrel;go_wp2_with fail;go_ret;exact⟨⟨-1,rfl,rfl⟩,rfl⟩
def vF(l:List (List UInt8))(x:List UInt8)(v:Value)(base:Nat)(w:World)(p:l.length<=100000)(a:w.ownsRow base 9 1 v l.length (kJ l)):
 Calls prog 258 #[v,.string (bs x)] w fun e b=>e=.returned (.bool (l.contains x))/\b=w:=by
 have d:Hid (Calls prog 305 #[v,.string (bs x)] w fun e b=>(∃n:Int,e=.returned (.int .i64 n)/\Says n l x)/\b=w):=by
  rcases a.2 with ⟨rfl,h⟩|⟨g,c,m,rfl,u,r,j,y,z,k⟩
  ·obtain rfl:l=[]:=aN_ h;exact UR x w
  ·refine UQ l x g c w p j fun i s=>aA r ?_
   have e:(kJ l)[i]?=some (.string (bs l[i])):=by simp[kJ,s]
   rw[<-k,aU_,if_pos (by omega)] at e
   simpa using e
 clear a;go_enter func258,ntmps258;go_wp2_with fail;refine d.out.mono ?_;rintro e t ⟨⟨n,rfl,f⟩,o⟩;obtain rfl:=o.symm;clear d;have q:=aB f;clear f;go_wp2_with fail;go_ret;exact⟨iY q.out,rfl⟩
def kX(fs:List aC)(x:List UInt8):Option Nat:=
 if x==[108,101,110] then some 1 else if x==[114,101,97,100] then some 0 else (dL fs x).map fun f=>f.kids.length-1
def IX{F:Nat->Prop}{w:World}:∀{us:List Value} {fs:List aC} (k:Nat) (c:k<fs.length),jX (AC F w) us fs->
 ∃a d g b,(jO us)[k*4]?=some (.int .i64 fs[k].line)/\(jO us)[k*4+1]?=some (.string (bs fs[k].text))/\(jO us)[k*4+1+1]?=some a/\(jO us)[k*4+1+1+1]?=some d/\fs[k].kids=g++[b]/\PNm F w a g/\b.op=[98,108,111,99,107]/\PKid F w d b.kids
 |[],[],k,c,_=>absurd c (Nat.not_lt_zero _)
 |_::us,f::fs,0,_,⟨⟨a,d,g,b,n,p,u,r,s⟩,_⟩=>by
  subst n;exact⟨a,d,g,b,rfl,rfl,rfl,rfl,p,u,r,s⟩
 |_::us,f::fs,k+1,c,⟨⟨a,d,g,b,n,_⟩,h⟩=>by
  subst n;obtain⟨i,l,m,q,v,t,x,y,o⟩:=IX k (by simpa using c) h
  have e:∀j,(jO (Value.agg #[.int .i64 f.line,.string (bs f.text),a,d]::us))[(k+1)*4+j]?=(jO us)[k*4+j]?:=fun j=>by
   rw[jO,aV_ (by simp[xD];omega)]
   congr 1;simp[xD];omega
  exact⟨i,l,m,q,(e 0).trans v,(e 1).trans t,(e 2).trans x,(e 3).trans y,o⟩
 |[],_::_,_,_,h=>h.elim
 |_::_,[],_,c,_=>absurd c (Nat.not_lt_zero _)
def RP(F:Nat->Prop)(w:World)(g:Nat)(fs:List aC):Prop:=
 ∀k (hk:k<fs.length),∃pv bv ps b,w.cell? ⟨g,k*4,none⟩=some (.int .i64 fs[k].line)/\w.cell? ⟨g,k*4+1,none⟩=some (.string (bs fs[k].text))/\w.cell? ⟨g,k*4+1+1,none⟩=some pv/\w.cell? ⟨g,k*4+1+1+1,none⟩=some bv/\fs[k].kids=ps++[b]/\PNm F w pv ps/\b.op=[98,108,111,99,107]/\PKid F w bv b.kids
def FSl.cells{F:Nat->Prop}{w:World}{v:Value}{fs:List aC}(h:FSl F w v fs):(v=.slice none 0 0/\fs=[])\/∃g a,v=.slice (some ⟨g,0,none⟩) fs.length a/\F g/\g<w.heap.size/\fs.length<=a/\RP F w g fs:=by
 rcases h with h|⟨g,a,s,x,p,i,d,o,q,t⟩
 ·exact av_ h
 ·refine as_ ⟨g,a,p,i,aD d,o,fun k m=>?_⟩
  obtain⟨l,C,n,b,y,r,z,B,f⟩:=IX k m t
  have e:∀j u,j<fs.length*4->(jO x)[j]?=some u->w.cell? ⟨g,j,none⟩=some u:=fun j u A c=>by
   refine aA d ?_;rw[<-q,aU_,if_pos A] at c;simpa using c
  exact⟨l,C,n,b,e _ _ (by omega) y,e _ _ (by omega) r,e _ _ (by omega) z,e _ _ (by omega) B,f⟩
def Y9{fs:List aC}{x:List UInt8}{k:Nat}(e:k<fs.length)(c:∀f∈fs.take k,f.text≠x)(b:fs[k].text=x):dL fs x=some fs[k]:=by
 unfold dL;have a:fs=fs.take k++fs[k]::fs.drop (k+1):=by rw[bA_,a5_]
 generalize g:fs[k]=f at*;rw[a,List.find?_append,bI_.2 (by intro z d;simpa using c z d)]
 simp[b]
def O4{fs:List aC}{x:List UInt8}(a:∀f∈fs,f.text≠x):dL fs x=none:=by
 unfold dL;exact bI_.2 (by intro z b;simpa using a z b)
def YY(fs:List aC)(F:Nat->Prop)(x:List UInt8)(g t:Nat)(w:World)(hl:fs.length<=100000)(D:∀f∈fs,f.kids.length<=90000)(_hlc:fs.length<=t)(J:g<w.heap.size)(P:RP F w g fs)(G:(x==[108,101,110])=false)(E:(x==[114,101,97,100])=false):
 Calls prog 135 #[.slice (some ⟨g,0,none⟩) fs.length t,.string (bs x)] w fun e S=>e=.returned (.tuple #[.int .i64 ((kX fs x).getD 0:Nat),.bool (kX fs x).isSome])/\Below w.heap.size w S:=by
 have hx:(bs x).toList=x:=cA x;have V:=aB P;have H:=aB D;have Q:Hid (kX fs x=(dL fs x).map fun f=>f.kids.length-1):=by show _=_;unfold kX;rw[G,E];rfl
 clear P D;go_enter func135,ntmps135;go_wp2_with fail;go_loopg [7,15] fs.length (fun gk _ i wr=>∃k:Nat,k+gk=fs.length/\i=.int .i64 k/\Below w.heap.size w wr/\Hid (∀f∈fs.take k,f.text≠x))
 case atStart=>exact⟨0,by omega,rfl,ay_ _ _,fun y A=>by simp at A⟩
 case round=>
  obtain⟨k,hk,rfl,n,r⟩:=hrel;have Y:g<wr.heap.size:=az_ J n.size;by_cases c:k<fs.length
  ·obtain⟨j,rfl⟩:∃j,gk=j+1:=⟨gk-1,by omega⟩
   obtain⟨pv,bv,K,b,O,L,M,N,a,C,U,B⟩:=V.out k c;obtain⟨px,pc,rfl⟩:=C.slice;obtain⟨bx,bc,rfl⟩:=B.slice;have d:∀o u,w.cell? ⟨g,o,none⟩=some u->wr.cell? ⟨g,o,none⟩=some u:=fun o u h=>(n.cell (p:=⟨g,o,none⟩) J).trans h
   have d0:=d _ _ O;have d1:=d _ _ L;have d2:=d _ _ M;have d3:=d _ _ N;have l:fs[k]∈fs:=aR_ c
   have I:Hid (∀y∈fs.take (k+1),y∈fs.take k\/y=fs[k]):=fun y A=>by
    rw[aT_ c] at A;rcases aE_.1 A with h|h
    ·exact av_ h
    ·exact as_ (aD_.1 h)
   have m:Hid (fs[k].text=x->dL fs x=some fs[k]):=fun e=>Y9 c r.out e
   have T:K.length+1=fs[k].kids.length:=by rw[a];simp
   have Z:=H.out _ l;have q:=aB n;clear O L M N C B d a l n;generalize fs[k]=f at*;have A:(bs f.text).toList=f.text:=cA _;cases v:(f.text==x)
   ·have s:Hid (∀z∈fs.take (k+1),z.text≠x):=fun z W=>by
     rcases I.out z W with h|h
     ·exact r.out z h
     ·rw[h];simpa using v
    clear r I m;go_wp2_with fail;go_roundg j
    case measure=>omega
    case rel=>exact⟨k+1,by omega,by go_num,q.out.alloc q.out.size _,s⟩
   ·have s:Hid (kX fs x=some K.length):=by
     show _=_
     rw[Q.out,m.out (by simpa using v)]
     simp;omega
    clear r I m;go_wp2_with fail;go_ret2
    rw[s.out];exact⟨rfl,q.out.alloc q.out.size _⟩
  ·have s:Hid (kX fs x=none):=by
    show _=_
    rw[Q.out,O4 (fun f X=>r.out f (by rw[a0_ (by omega)];exact X))]
    rfl
   have q:=aB n;clear r n;go_wp2_with fail;go_ret2
   rw[s.out];exact⟨rfl,q.out⟩
def YZ(x:List UInt8)(w:World)(b:(x==[108,101,110])=false)(a:(x==[114,101,97,100])=false):
 Calls prog 135 #[.slice none 0 0,.string (bs x)] w fun e c=>e=.returned (.tuple #[.int .i64 ((kX [] x).getD 0:Nat),.bool (kX [] x).isSome])/\Below w.heap.size w c:=by
 have f:(bs x).toList=x:=cA x;have d:Hid (kX [] x=none):=by show _=_;unfold kX;rw[b,a];rfl
 go_enter func135,ntmps135;go_wp2_with fail;go_loop [7,15] (fun _ i=>i=.int .i64 0) (fun _ _=>0)
 case atStart=>rfl
 case round=>
  subst hrel;go_wp2_with fail;go_ret2
  rw[d.out];exact⟨rfl,ay_ _ _⟩
def CR(v:Value)(x:List UInt8)(w:World)(n:Nat)(fs:List aC)(c:(x=[108,101,110]/\n=1)\/(x=[114,101,97,100]/\n=0)):
 Calls prog 135 #[v,.string (bs x)] w fun e b=>e=.returned (.tuple #[.int .i64 ((kX fs x).getD 0:Nat),.bool (kX fs x).isSome])/\Below w.heap.size w b:=by
 rcases c with ⟨rfl,rfl⟩|⟨rfl,rfl⟩
 ·have a:Hid (kX fs [108,101,110]=some 1):=rfl;simp only[bs];go_enter func135,ntmps135;go_wp2_with fail;go_ret2
  rw[a.out];exact⟨rfl,ay_ _ _⟩
 ·have a:Hid (kX fs [114,101,97,100]=some 0):=rfl;simp only[bs];go_enter func135,ntmps135;go_wp2_with fail;go_ret2
  rw[a.out];exact⟨rfl,ay_ _ _⟩
def CS(fs:List aC)(F:Nat->Prop)(v:Value)(x:List UInt8)(w:World)(l:fs.length<=100000)(i:∀f∈fs,f.kids.length<=90000)(h:FSl F w v fs):
 Calls prog 135 #[v,.string (bs x)] w fun e j=>e=.returned (.tuple #[.int .i64 ((kX fs x).getD 0:Nat),.bool (kX fs x).isSome])/\Below w.heap.size w j:=by
 by_cases c:x=[108,101,110]
 ·exact CR v x w 1 fs (av_ ⟨c,rfl⟩)
 by_cases b:x=[114,101,97,100]
 ·exact CR v x w 0 fs (as_ ⟨b,rfl⟩)
 rcases h.cells with ⟨rfl,rfl⟩|⟨g,d,rfl,n,k,a,m⟩
 ·exact YZ x w (by simpa using c) (by simpa using b)
 ·exact YY fs F x g d w l i a k m (by simpa using c) (by simpa using b)
abbrev FV(pv:Value):Value:=.func (.func 135) #[pv] #[]
def FVl(F:Nat->Prop)(w:World)(fv:Value)(fs:List aC):Prop:=∃pv,fv=FV pv/\FSl F w pv fs
structure CK(cb lo:Nat)(fs:List aC)(fv:Value)(w:World)(seen:List (List UInt8)):Prop where
 blk:∃sv,w.heap[cb]?=some (.cells #[fv,sv] 220 (0,0))/\w.ownsRow (cb+1) 9 1 sv seen.length (kJ seen)
 fun_:FVl (Btw lo cb) w fv fs
def FSl.keep{F:Nat->Prop}{w w':World}{v:Value}{fs:List aC}(h:FSl F w v fs)(d:∀b,F b->w'.heap[b]?=w.heap[b]?):FSl F w' v fs:=by
 rcases h with h|⟨g,c,a,i,k,e,m,j,l,f⟩
 ·exact av_ h
 ·exact as_ ⟨g,c,a,i,k,e,by rw[d g e];exact m,j,l,f.mono fun _ _ h=>h.keep d fun _ h=>h⟩
def FVl.keep{F:Nat->Prop}{w w':World}{v:Value}{fs:List aC}(h:FVl F w v fs)(a:∀b,F b->w'.heap[b]?=w.heap[b]?):FVl F w' v fs:=by
 obtain⟨e,d,c⟩:=h;exact⟨e,d,c.keep a⟩
def CK.lt{cb lo:Nat}{fs:List aC}{b:Value}{w:World}{seen:List (List UInt8)}(h:CK cb lo fs b w seen):cb<w.heap.size:=by
 obtain⟨_,a,_⟩:=h.blk;exact aD a
def CK.grow{cb lo:Nat}{fs:List aC}{f:Value}{w w':World}{seen:List (List UInt8)}(h:CK cb lo fs f w seen)(c:Below w.heap.size w w'):CK cb lo fs f w' seen:=by
 obtain⟨g,e,d⟩:=h.blk;have b:=aD e;exact⟨⟨g,by rw[c.block _ b];exact e,aY d fun k a=>c.block k (cK d k a)⟩,h.fun_.keep fun k a=>c.block k (by have:=a.2;omega)⟩
def jF{w:World}{b:Nat}{a v1:Value}(h:w.heap[b]?=some (.cells #[a,v1] 220 (0,0))):
 b<w.heap.size/\w.cell? ⟨b,0,none⟩=some a/\w.cell? ⟨b,1,none⟩=some v1/\w.frozen? ⟨b,1,none⟩=false:=
 ⟨aD h,aA h rfl,aA h rfl,aE h⟩
def kW(cb:Nat)(w:World):Option Nat:=
 match w.heap[cb]? with
 |some (.cells cs _ _)=>(cs[1]?.getD undef).ownBlock
 |_=>none
def oD{cb:Nat}{w w':World}(h:w'.heap[cb]?=w.heap[cb]?):kW cb w'=kW cb w:=by unfold kW;rw[h]
def mS{cb:Nat}{w:World}{a v1:Value}(h:w.heap[cb]?=some (.cells #[a,v1] 220 (0,0))):kW cb w=v1.ownBlock:=by unfold kW;rw[h];rfl
structure FB(cb:Nat)(w w':World):Prop where
 bel:Below cb w w'
 blk:∀k,k<w.heap.size->k≠cb->kW cb w≠some k->w'.heap[k]?=w.heap[k]?
 row:∀k,kW cb w'=some k->kW cb w=some k\/w.heap.size<=k
def FB.trans{cb:Nat}{a b c:World}(h:FB cb a b)(k:FB cb b c):FB cb a c:=by
 refine⟨h.bel.trans k.bel,fun i d g f=>?_,fun i d=>?_⟩
 ·have j:=h.bel.size;rw[k.blk i (by omega) g (fun e=>?_),h.blk i d g f]
  rcases h.row i e with e|e
  ·exact f e
  ·omega
 ·have j:=h.bel.size;rcases k.row i d with e|e
  ·exact h.row i e
  ·exact as_ (by omega)
def FB.of_below{cb:Nat}{w w':World}(h:Below w.heap.size w w')(b:cb<w.heap.size):FB cb w w':=
 ⟨h.mono (by omega),fun k a _ _=>h.block k a,fun k a=>av_ (by rw[<-oD (h.block cb b)];exact a)⟩
def FB.refl{cb:Nat}(w:World):FB cb w w:=⟨ay_ _ _,fun _ _ _ _=>rfl,fun _ h=>av_ h⟩
def cY(cb lo:Nat)(fs:List aC)(fv:Value)(w:World)(c:aZ)(e:Ending)(w':World):Prop:=
 FB cb w w'/\((∃s,c=⟨s,0,0⟩/\e=.returned (.tuple #[])/\CK cb lo fs fv w' s)\/(c.kind≠0/\e=cX c.kind c.line))
def Stk(a b:aZ):Prop:=a.kind≠0->b.kind=a.kind/\b.line=a.line
def Stk.refl(a:aZ):Stk a a:=fun _=>⟨rfl,rfl⟩
def Stk.trans{a b c:aZ}(h:Stk a b)(k:Stk b c):Stk a c:=fun d=>by
 obtain⟨e,i⟩:=h d;obtain⟨f,g⟩:=k (by rw[e];exact d)
 exact⟨f.trans e,g.trans i⟩
def Stk.found(s:aZ)(l k:Nat):Stk s (s.found l k):=fun h=>by unfold aZ.found;rw[if_neg h];exact⟨rfl,rfl⟩
def Stk.declares(s:aZ)(n:aC):Stk s (Hs.declaresL s n):=by
 unfold Hs.declaresL;split
 ·exact Stk.found _ _ _
 ·exact Stk.refl _
def Stk.look(fs:List aC)(a:Bool)(s:aZ)(n:aC):Stk s (cD fs a s n):=by
 unfold cD eB;repeat' split
 all_goals first|exact Stk.found _ _ _|exact Stk.refl _
def Stk.fold{f:aZ->aC->aZ}(h:∀s k,Stk s (f s k)):∀(l:List aC) (s:aZ),Stk s (l.foldl f s)
 |[],s=>Stk.refl s
 |k::l,s=>(h s k).trans (Stk.fold h l (f s k))
def Stk.seen(s:aZ)(x:List (List UInt8)):Stk s { s with seen:=x }:=fun _=>⟨rfl,rfl⟩
def Stk.walk(fs:List aC)(a:Bool):∀(d:Nat) (n:aC) (s:aZ),Stk s (aO fs a d n s)
 |0,_,s=>Stk.refl s
 |d+1,n,s=>by
  rw[aO];split
  ·split
   ·exact((Stk.declares s _).trans (Stk.walk fs a d _ _)).trans (Stk.seen _ _)
   ·exact Stk.refl s
  ·have h:Stk s (n.kids.foldl (fun s k=>aO fs a d k s) (cD fs a s n)):=(Stk.look fs a s n).trans (Stk.fold (fun s k=>Stk.walk fs a d k s) _ _)
   simp only;split
   ·exact h.trans (Stk.seen _ _)
   ·exact h
def cY.fault{cb lo:Nat}{fs:List aC}{g:Value}{w w':World}{c1 c:aZ}(f:FB cb w w')(a:c1.kind≠0)(e:Stk c1 c):cY cb lo fs g w c (cX c1.kind c1.line) w':=by
 obtain⟨b,d⟩:=e a;exact⟨f,as_ ⟨by rw[b];exact a,by rw[b,d]⟩⟩
def cY.done{cb lo:Nat}{fs:List aC}{a:Value}{w w':World}{c:aZ}{s:List (List UInt8)}(d:FB cb w w')(e:c=⟨s,0,0⟩)(b:CK cb lo fs a w' s):cY cb lo fs a w c (.returned (.tuple #[])) w':=⟨d,av_ ⟨s,e,rfl,b⟩⟩
def kQ{B:Nat}{a w:World}(h:Below B a w)(n:Nat):Below B a (w.drewN n):=⟨h.os,h.tape,h.output,h.size,h.block⟩
def S2(cb lo:Nat)(fs:List aC)(u:Value)(w:World)(seen:List (List UInt8))(h:CK cb lo fs u w seen)(F:seen.length<=100000)(l:Nat)(x:List UInt8):
 Calls prog 230 #[.pointer (some ⟨cb,0,none⟩),.agg #[.int .i64 l,.string (bs x)]] w (cY cb lo fs u w (if seen.contains x then ⟨seen,0,0⟩ else aZ.found ⟨seen,0,0⟩ l 6)):=by
 have m:=h.grow ((ay_ _ _).alloc (au_ _) (.cells #[.int .i64 l,.string (bs x)] 211));obtain⟨E,f,a⟩:=m.blk;have i:=h.lt;obtain⟨v,I,B,z⟩:=jF f
 obtain⟨p,r,rfl⟩:∃p r,E=.slice p seen.length r:=by
  rcases a.2 with ⟨rfl,y⟩|⟨g,A,D,rfl,_⟩
  ·exact⟨none,0,by rw[y]⟩
  ·exact⟨_,_,rfl⟩
 have s:=aB (fun n=>vF seen x (.slice p seen.length r) (cb+1) ((w.alloc (.cells #[.int .i64 l,.string (bs x)] 211)).drewN n) F (aY a fun _ _=>rfl))
 have H:=aB m;have t:Hid (Below w.heap.size w (w.alloc (.cells #[.int .i64 l,.string (bs x)] 211))):=(ay_ _ _).alloc (au_ _) _;clear f a h m z;generalize j:(if seen.contains x then (⟨seen,0,0⟩:aZ) else aZ.found ⟨seen,0,0⟩ l 6)=c
 have d:=aB j;clear j;generalize seen.contains x=b at*;cases b
 ·have o:c=⟨seen,6,l⟩:=d.out.symm;subst o;clear d;go_enter func230,ntmps230;go_wp2_with fail;go_quiet ((go_at_call 258;exact Calls.quiet_of_same (s.out _)))
  go_wp2_with fail;refine(qT l _).mono ?_;rintro e J ⟨rfl,k⟩;have q:=aB k;clear k;go_wp2_with (go_at_call 136;refine(gF 6 l _).mono ?_;rintro e G ⟨rfl,C⟩;obtain rfl:=C.symm)
  exact⟨rfl,cY.fault (c1:=⟨seen,6,l⟩) (FB.of_below ((kQ t.out _).trans (q.out.mono (by simp))) i) (by simp) (Stk.refl _)⟩
 ·have o:c=⟨seen,0,0⟩:=d.out.symm;subst o;clear d;go_enter func230,ntmps230;go_wp2_with fail;go_quiet ((go_at_call 258;exact Calls.quiet_of_same (s.out _)))
  go_wp2_with fail;go_end0;exact cY.done (FB.of_below (kQ t.out _) i) rfl (H.out.grow (kQ (ay_ _ _) _))
def qR(cb lo:Nat)(fs:List aC)(u:Value)(w:World)(seen:List (List UInt8))(h:CK cb lo fs u w seen)(I:seen.length<=100000)(l:Nat)(x:List UInt8):
 Calls prog 189 #[.pointer (some ⟨cb,0,none⟩),.agg #[.int .i64 l,.string (bs x)]] w (cY cb lo fs u w (if fL x || seen.contains x then aZ.found ⟨seen,0,0⟩ l 6 else ⟨seen,0,0⟩)):=by
 have k:=h.grow ((ay_ _ _).alloc (au_ _) (.cells #[.int .i64 l,.string (bs x)] 211));obtain⟨G,f,d⟩:=k.blk;have i:=h.lt;obtain⟨v,K,D,A⟩:=jF f
 obtain⟨o,q,rfl⟩:∃o q,G=.slice o seen.length q:=by
  rcases d.2 with ⟨rfl,z⟩|⟨g,C,F,rfl,_⟩
  ·exact⟨none,0,by rw[z]⟩
  ·exact⟨_,_,rfl⟩
 have s:=aB (fun n=>vF seen x (.slice o seen.length q) (cb+1) ((w.alloc (.cells #[.int .i64 l,.string (bs x)] 211)).drewN n) I (aY d fun _ _=>rfl))
 have H:=aB k;have t:Hid (Below w.heap.size w (w.alloc (.cells #[.int .i64 l,.string (bs x)] 211))):=(ay_ _ _).alloc (au_ _) _;have L:(bs x).toList=x:=cA x;clear f d h k A;have B:Hid (fL x=(x==[108,101,110] || x==[114,101,97,100])):=rfl
 generalize j:(if fL x || seen.contains x then aZ.found ⟨seen,0,0⟩ l 6 else (⟨seen,0,0⟩:aZ))=c
 have a:=aB j;clear j;rw[B.out] at a;generalize seen.contains x=b at*;cases k:(x==[108,101,110])<;>cases y:(x==[114,101,97,100])<;>cases b
 all_goals
  rw[k,y] at a
  first
   |(have r:c=⟨seen,0,0⟩:=a.out.symm
     subst r;clear a;go_enter func189,ntmps189;go_wp2_with fail;go_quiet ((go_at_call 258;exact Calls.quiet_of_same (s.out _)))
     go_wp2_with fail;go_end0;exact cY.done (FB.of_below (kQ t.out _) i) rfl (H.out.grow (kQ (ay_ _ _) _)))
   |(have r:c=⟨seen,6,l⟩:=a.out.symm
     subst r;clear a;go_enter func189,ntmps189;go_wp2_with fail;go_quiet ((go_at_call 258;exact Calls.quiet_of_same (s.out _)))
     go_wp2_with fail;refine(qT l _).mono ?_;rintro e M ⟨rfl,m⟩;have p:=aB m;clear m;go_wp2_with (go_at_call 136;refine(gF 6 l _).mono ?_;rintro e J ⟨rfl,E⟩;obtain rfl:=E.symm)
     exact⟨rfl,cY.fault (c1:=⟨seen,6,l⟩) (FB.of_below ((kQ t.out _).trans (p.out.mono (by simp))) i) (by simp) (Stk.refl _)⟩)
def UT(c:UInt8)(w:World):
 Calls prog 249 #[.int .u8 c.toNat] w fun e a=>e=.returned (.bool (eD c))/\a=w:=by
 have d:(c.toNat:Int)<=255:=nP c;have b:=aB (ZE c);go_enter func249,ntmps249;go_wp2
 all_goals
  go_ret;exact⟨iY (by rw[b.out]),rfl⟩
def tT(c:UInt8)(w:World):
 Calls prog 252 #[.int .u8 c.toNat] w fun e a=>e=.returned (.bool (eA c))/\a=w:=by
 have d:(c.toNat:Int)<=255:=nP c;have b:Hid (eA c=(decide (48<=c.toNat) && decide (c.toNat<=57))):=rfl;go_enter func252,ntmps252;go_wp2
 all_goals
  go_ret;exact⟨iY (by rw[b.out,b0_];constructor<;>intro h<;>(try simp at h)<;>(try simp)<;>omega),rfl⟩
def xV(c:UInt8)(w:World):
 Calls prog 250 #[.int .u8 c.toNat] w fun e a=>e=.returned (.bool (fA c))/\a=w:=by
 have d:(c.toNat:Int)<=255:=nP c;have b:Hid (fA c=(c.toNat==95 || (decide (97<=c.toNat) && decide (c.toNat<=122) || decide (65<=c.toNat) && decide (c.toNat<=90)))):=rfl
 go_enter func250,ntmps250;go_wp2
 all_goals
  go_ret;exact⟨iY (by rw[b.out,b0_];constructor<;>intro h<;>(try simp at h)<;>(try simp)<;>omega),rfl⟩
def YN(c:UInt8)(w:World):
 Calls prog 297 #[.int .u8 c.toNat] w fun e f=>e=.returned (.bool (eC true c))/\f=w:=by
 have b:Hid (eC true c=(fA c || eA c)):=by show _=_;unfold eC;rw[Bool.true_and,Bool.or_comm]
 have i:=aB (xV c);have k:=aB (tT c);generalize eC true c=r at*;generalize fA c=j at*;generalize eA c=g at*;have h:=b.out;subst h;clear b;cases j<;>cases g
 all_goals
  go_enter func297,ntmps297;go_wp2_with (first|(go_at_call 250;refine(i.out _).mono ?_;rintro e d ⟨rfl,a⟩;obtain rfl:=a.symm)|(go_at_call 252;refine(k.out _).mono ?_;rintro e d ⟨rfl,a⟩;obtain rfl:=a.symm))
  go_ret;exact⟨rfl,rfl⟩
def LE(c:UInt8)(w:World):
 Calls prog 301 #[.int .u8 c.toNat] w fun e a=>e=.returned (.bool (eZ c))/\a=w:=by
 have d:(c.toNat:Int)<=255:=nP c;have b:Hid (eZ c=(c.toNat != 34 && c.toNat != 10)):=rfl;go_enter func301,ntmps301;go_wp2
 all_goals
  go_ret;exact⟨iY (by rw[b.out,b0_];constructor<;>intro h<;>(try simp at h)<;>(try simp)<;>omega),rfl⟩
def uS(P:UInt8->Bool)(F:Nat)(p:∀args w,Sem.run prog (callFunc F args) w=.ok (.enter F args) w)(m:∀c w,Calls prog F #[.int .u8 (UInt8.toNat c)] w fun e g=>e=.returned (.bool (P c))/\g=w)(s:ByteArray)(w:World)(q:s.size<=2000000000):
 Calls prog 248 #[.string s,.func (.func F) #[] #[]] w fun e g=>e=.returned (.int .i64 (bL P s.data.toList))/\g=w:=by
 have l:=aB m;clear m;go_enter func248,ntmps248;go_wp2_with fail;go_loop [5] (fun i=>∃j:Nat,j<=s.size/\i=.int .i64 j/\Hid (bL P s.data.toList=j+bL P (s.data.toList.drop j))) (fun i=>s.size-(intOf i).toNat)
 case atStart=>exact⟨0,a9_ _,rfl,by show _=_;simp⟩
 case round=>
  obtain⟨j,r,rfl,a⟩:=hrel;by_cases f:j<s.size
  ·have o:(s[j].toNat:Int)<=255:=nP s[j];rw[kO s j f] at a;have d:=aB (l.out s[j]);cases b:P s[j]
   ·rw[NM _ _ _ b] at a;rw[b] at d;clear b;go_wp2_with (refine(d.out _).mono ?_;rintro e n ⟨rfl,h⟩;obtain rfl:=h.symm)
    go_ret;exact⟨WO (by have:=a.out;omega),rfl⟩
   ·rw[rM _ _ _ b] at a;rw[b] at d;clear b;have k:Hid (bL P s.data.toList=j+1+bL P (s.data.toList.drop (j+1))):=by show _=_;rw[a.out];omega
    go_wp2_with (refine(d.out _).mono ?_;rintro e n ⟨rfl,h⟩;obtain rfl:=h.symm)
    go_round
    case rel=>exact⟨j+1,by omega,by go_num,k⟩
    case measure=>simp[intOf];omega
  ·rw[ba_ (by simpa using (by omega:s.size<=j))] at a
   go_wp2_with fail;go_ret;exact⟨WO (by have:=a.out;simp[bL] at this;omega),rfl⟩
def PE(x:List UInt8)(w:World):
 Calls prog 299 #[.string (bs x)] w fun e a=>e=.returned (.bool (iO.contains x))/\a=w:=by
 have c:(bs x).toList=x:=cA x
 have b:Hid (iO.contains x=(x==[102,117,110,99] || (x==[118,97,114] || (x==[105,102] || (x==[101,108,115,101] || (x==[119,104,105,108,101] || (x==[114,101,116,117,114,110] || (x==[112,114,105,110,116] || (x==[116,114,117,101] || x==[102,97,108,115,101]))))))))):=by
  show _=_
  rw[b0_];simp[iO]
 go_enter func299,ntmps299;go_wp2
 all_goals
  go_ret;exact⟨iY (by rw[b.out];first|done|simp_all),rfl⟩
def OD(s x:ByteArray)(w:World)(_hs:s.size<=2000000000)(_hx:x.size<=100):
 Calls prog 295 #[.string s,.string x] w fun e b=>e=.returned (.bool (cN s.data.toList x.data.toList))/\b=w:=by
 by_cases h:x.size<=s.size
 ·have a:Hid (cN s.data.toList x.data.toList=((s.extract 0 x.size).toList==x.toList)):=by
   unfold cN Hid;rw[lY _ _ (by simpa using h),Lib.extract_toList,Lib.toList_data]
   congr 3
  go_enter func295,ntmps295;go_wp2
  go_ret;exact⟨iY (by rw[a.out]),rfl⟩
 ·have a:Hid (cN s.data.toList x.data.toList=false):=by
   unfold cN Hid;exact zR _ _ (by simp;omega)
  go_enter func295,ntmps295;go_wp2
  go_ret;exact⟨iY (by rw[a.out]),rfl⟩
def CH(s x:ByteArray)(w:World)(c:s.size<=2000000000)(d:x.size<=100):
 Calls prog 247 #[.string s,.string x] w fun e b=>e=.returned (.bool (cN s.data.toList x.data.toList))/\b=w:=by
 have H:=aB (OD s x w c d);go_enter func247,ntmps247;go_wp2_with fail;refine H.out.mono ?_;rintro e f ⟨rfl,a⟩;obtain rfl:=a.symm;go_wp2_with fail;go_ret;exact⟨rfl,rfl⟩
def mX(s:ByteArray)(k:Nat):(s.extract k s.size).data.toList=s.data.toList.drop k:=by
 rw[DE,fS];exact a0_ (by simp)
def SC(sb:Nat)(src:ByteArray)(n l:Nat)(w:World):Prop:=w.heap[sb]?=some (.cells #[.string src,.int .i64 n,.int .i64 l] 290 (0,0))
def SC.cells{sb:Nat}{a:ByteArray}{n l:Nat}{w:World}(h:SC sb a n l w):
 sb<w.heap.size/\w.cell? ⟨sb,0,none⟩=some (.string a)/\w.cell? ⟨sb,1,none⟩=some (.int .i64 n)/\w.cell? ⟨sb,2,none⟩=some (.int .i64 l)/\w.frozen? ⟨sb,1,none⟩=false/\w.frozen? ⟨sb,2,none⟩=false:=
 ⟨aD h,aA h rfl,aA h rfl,aA h rfl,aE h,aE h⟩
def SC.move{sb:Nat}{a:ByteArray}{n l:Nat}{w:World}(h:SC sb a n l w)(m:Nat):SC sb a m l (w.setCell ⟨sb,1,none⟩ (.int .i64 m)):=by
 unfold SC;rw[aS h];rfl
def SC.down{sb:Nat}{a:ByteArray}{n l:Nat}{w:World}(h:SC sb a n l w)(m:Nat):SC sb a n m (w.setCell ⟨sb,2,none⟩ (.int .i64 m)):=by
 unfold SC;rw[aS h];rfl
def SC.drewN{sb:Nat}{a:ByteArray}{n l:Nat}{w:World}(h:SC sb a n l w)(m:Nat):SC sb a n l (w.drewN m):=h
def rQ(sb:Nat)(a:ByteArray)(n l:Nat)(w:World)(h:SC sb a n l w):
 Calls prog 298 #[.pointer (some ⟨sb,0,none⟩)] w fun e c=>e=cX 3 l/\c=w:=by
 obtain⟨k,g,m,f,i,d⟩:=h.cells;clear h;go_enter func298,ntmps298;go_wp2_with (go_at_call 136;refine(gF 3 l _).mono ?_;rintro e j ⟨rfl,b⟩;obtain rfl:=b.symm)
 exact⟨rfl,rfl,rfl⟩
def oA(sb:Nat)(a:ByteArray)(n l m:Nat)(w:World)(h:SC sb a n l w)(k:a.size<=2000000000)(q:n+m<=a.size):
 Calls prog 296 #[.pointer (some ⟨sb,0,none⟩),.int .i64 m] w fun e b=>e=.returned (.string (bs ((a.data.toList.drop n).take m)))/\SC sb a (n+m) l b/\Fr sb w b:=by
 obtain⟨d,g,i,j,f,o⟩:=h.cells;have H:=aB h;have c:Hid (a.extract n (n+m)=bs ((a.data.toList.drop n).take m)):=by show _=_;rw[DE];congr 2;omega
 clear h;go_enter func296,ntmps296;go_wp2_with fail;go_quiet (fail)
 go_wp2_with fail;go_ret;refine⟨by rw[<-c.out];rfl,?_,?_⟩
 ·exact(H.out.drewN _).move _
 ·exact((Fr.refl _ _).drewN _).setCell (p:=⟨sb,1,none⟩) (av_ rfl) _
def OZ(l:List UInt8)(k:Nat):bA (l.take (k+bL eD (l.drop k)))=bA (l.take k):=by
 rw[List.take_add,jI]
 have:((l.drop k).take (bL eD (l.drop k))).count 10=0:=by
  rw[List.count_eq_zero];intro h;have:=rN eD (l.drop k) 10 h;exact absurd this (by decide)
 omega
def IL(s:ByteArray)(k:Nat)(h:k<s.size):bA (s.data.toList.take (k+1))=bA (s.data.toList.take k)+if s[k]=10 then 1 else 0:=by
 rw[XZ s k h,CU]
def NP(sb:Nat)(a:ByteArray)(n:Nat)(w:World)(h:SC sb a n (bA (a.data.toList.take n)) w)(hs:a.size<=2000000000)(U:n<=a.size):
 Calls prog 182 #[.pointer (some ⟨sb,0,none⟩)] w fun e E=>e=.returned (.tuple #[])/\SC sb a (n+Hs.blankL a.size (a.data.toList.drop n)) (bA (a.data.toList.take (n+Hs.blankL a.size (a.data.toList.drop n)))) E/\Fr sb w E:=by
 have H:=aB h;clear h;go_enter func182,ntmps182;go_wp2_with fail;go_loopg [2] a.size (fun gk _ wr=>∃k f:Nat,k<=a.size/\a.size<=k+f/\a.size<=k+gk/\SC sb a k (bA (a.data.toList.take k)) wr/\Fr sb w wr/\Hid (n+Hs.blankL a.size (a.data.toList.drop n)=k+Hs.blankL f (a.data.toList.drop k)))
 case atStart=>exact⟨n,a.size,U,by omega,by omega,H.out,Fr.refl _ _,rfl⟩
 case round=>
  obtain⟨k,f,hk,hf,O,q,s,g⟩:=hrel;obtain⟨Z,c0,c1,Q,f1,f2⟩:=q.cells;have d:=aB q;have o:=aB s;clear q s;by_cases i:k<a.size
  ·have hb:(a[k].toNat:Int)<=255:=nP a[k];obtain⟨f,rfl⟩:∃T,f=T+1:=⟨f-1,by omega⟩
   obtain⟨j,rfl⟩:∃j,gk=j+1:=⟨gk-1,by omega⟩
   rw[kO a k i] at g
   have S:bA (a.data.toList.take k)<=k+1:=by
    have:=oR (a.data.toList.take k);have:=List.length_take_le k a.data.toList;omega
   have V:(a.extract k a.size).size=a.size-k:=by simp
   have P:0<(a.extract k a.size).size:=by omega
   have K:(a.extract k a.size)[0]=a[k]:=by simp[ByteArray.getElem_extract]
   have l:=aB (IL a k i);by_cases c:a[k].toNat=32\/a[k].toNat=9\/a[k].toNat=10
   ·rw[MB _ _ _ c] at g
    have y:Hid (n+Hs.blankL a.size (a.data.toList.drop n)=k+1+Hs.blankL f (a.data.toList.drop (k+1))):=by
     rw[g.out];show _=_;omega
    clear g;by_cases u:a[k].toNat=10
    ·have G:((a[k].toNat:Int))=10:=by omega
     have B:Hid (bA (a.data.toList.take (k+1))=bA (a.data.toList.take k)+1):=by
      show _=_
      rw[l.out,if_pos (by rw[j6];exact G)]
     clear c u l;generalize bA (a.data.toList.take k)=L at*;go_wp2_with fail;go_quiet (fail)
     go_wp2_with fail;go_quiet (fail)
     go_wp2_with fail;go_roundg j
     case measure=>omega
     case rel=>
      refine⟨k+1,f,by omega,by omega,by omega,?_,?_,y⟩
      ·rw[B.out];exact((d.out.drewN _).down _).move _
      ·exact((o.out.drewN _).setCell (p:=⟨sb,2,none⟩) (av_ rfl) _).setCell (p:=⟨sb,1,none⟩) (av_ rfl) _
    ·have B:Hid (bA (a.data.toList.take (k+1))=bA (a.data.toList.take k)):=by
      show _=_
      rw[l.out,if_neg (by rw[j6];show ¬((a[k].toNat:Int)=10);omega)];rfl
     have N:((a[k].toNat:Int)==10)=false:=by simp;omega
     have z:a[k].toNat=32\/a[k].toNat=9:=by omega
     clear c l u;generalize bA (a.data.toList.take k)=L at*;rcases z with c|c
     all_goals
      have G:((a[k].toNat:Int))=_:=congrArg _ c;clear c;go_wp2_with fail;go_quiet (fail)
      go_wp2_with fail;go_quiet (fail)
      go_wp2_with fail;go_roundg j
      case measure=>omega
      case rel=>
       refine⟨k+1,f,by omega,by omega,by omega,?_,?_,y⟩
       ·rw[B.out];exact(d.out.drewN _).move _
       ·exact(o.out.drewN _).setCell (p:=⟨sb,1,none⟩) (av_ rfl) _
   ·have N:((a[k].toNat:Int)==32)=false:=by simp;omega
    have Y:((a[k].toNat:Int)==9)=false:=by simp;omega
    have h3:((a[k].toNat:Int)==10)=false:=by simp;omega
    have m:=aB (fun w=>CH (a.extract k a.size) ⟨#[47,47]⟩ w (by omega) (by decide))
    rw[mX,show (⟨#[47,47]⟩:ByteArray).data.toList=[47,47] from rfl] at m
    clear l;cases b:cN (a[k]::a.data.toList.drop (k+1)) [47,47]
    ·rw[RL _ _ _ c b] at g;rw[<-kO a k i] at b;rw[b] at m;have D:Hid (n+Hs.blankL a.size (a.data.toList.drop n)=k):=g;clear b g c;have t:Hid (∀nq:Nat,SC sb a k (bA (a.data.toList.take k)) (wr.drewN nq)):=fun nq=>d.out.drewN nq
     generalize F:bA (a.data.toList.take k)=L at d Q S;have M:=aB F;clear F;go_wp2_with fail;go_quiet (fail)
     go_wp2_with fail;go_quiet (fail)
     go_wp2_with fail;refine(m.out _).mono ?_;rintro e J ⟨rfl,c⟩;obtain rfl:=c.symm;go_wp2_with fail;(try simp only[Exit.inBlock,Exit.then])
     refine bodyPost_ret (results_none rfl _ _ _) rfl ?_;rw[D.out];exact⟨rfl,t.out _,o.out.drewN _⟩
    ·rw[GH _ _ _ c b] at g
     have X:Hid (1<=bL eD (a.data.toList.drop k)):=by
      rw[kO a k i,rM _ _ _ (by unfold eD;simp;omega)];show _<=_;omega
     rw[<-kO a k i] at b g;rw[bH_] at g;rw[b] at m;have v:=aB (fun w=>uS eD 249 (fun _ _=>rfl) UT (a.extract k a.size) w (by omega))
     rw[mX] at v
     have W:bL eD (a.data.toList.drop k)<=a.size-k:=by
      have:=kK eD (a.data.toList.drop k);simpa using this
     have x:=aB (OZ a.data.toList k);clear b c;have I:=X.out;generalize C:bL eD (a.data.toList.drop k)=r at*;have A:Hid (bA (a.data.toList.take (k+r))=bA (a.data.toList.take k)):=x;generalize bA (a.data.toList.take k)=L at*;have y:Hid (n+Hs.blankL a.size (a.data.toList.drop n)=(k+r)+Hs.blankL f (a.data.toList.drop (k+r))):=by show _=_;rw[g.out];omega
     clear g x C;go_wp2_with fail;go_quiet (fail)
     go_wp2_with fail;go_quiet (fail)
     go_wp2_with fail;refine(m.out _).mono ?_;rintro e J ⟨rfl,c⟩;obtain rfl:=c.symm;go_wp2_with fail;go_region_law (go_simp;go_at_call 248;refine(v.out _).mono ?_;rintro e w2 ⟨rfl,c⟩;obtain rfl:=c.symm)
     all_goals
      go_wp2_with fail;go_roundg j
      case measure=>omega
      case rel=>
       refine⟨k+r,f,by omega,by omega,by omega,?_,?_,y⟩
       ·have e:Value.int .i64 (IntKind.i64.wrap ((k:Int)+(r:Int)))=.int .i64 ((k+r:Nat):Int):=by rw[IntWalk.i64_in _ (by omega)];rfl
        rw[A.out,e];exact(d.out.drewN _).move _
       ·exact(o.out.drewN _).setCell (p:=⟨sb,1,none⟩) (av_ rfl) _
  ·have D:Hid (n+Hs.blankL a.size (a.data.toList.drop n)=k):=by
    show _=_
    rw[g.out,ba_ (by simpa using (by omega:a.size<=k)),VY];rfl
   go_wp2_with fail;go_quiet (fail)
   go_wp2_with fail;go_end0;rw[D.out];exact⟨rfl,d.out,o.out.drewN _⟩
def DV{cb:Nat}{w d:World}{o:Obj}{c v1 v':Value}{n:Nat}{vs:List Value}(f:w.heap[cb]?=some (.cells #[c,v1] 220 (0,0)))(a:w.ownsRow (cb+1) 9 1 v' n vs)(g:(w.alloc o).grownBy d v'.ownBlock):
 d.heap[cb]?=some (.cells #[c,v1] 220 (0,0)):=by
 have b:=aD f;rw[g.block cb (by simp;omega) (fun e=>by have:=cC a cb e.symm;omega)]
 exact oU _ _ b _ f
def CK.add{cb lo:Nat}{fs:List aC}{q:Value}{w j:World}{seen:List (List UInt8)}{p:Value}{x:List UInt8}{o:Obj}{g a:Nat}(h:CK cb lo fs q w seen)(c:w.heap[cb]?=some (.cells #[q,p] 220 (0,0)))
 (f:w.ownsRow (cb+1) 9 1 p seen.length (kJ seen)) (b:j.ownsRow (cb+1) 9 1 (.slice (some ⟨g,0,none⟩) (seen.length+1) a) (seen.length+1) (kJ seen++[.string (bs x)])) (i:(w.alloc o).grownBy j p.ownBlock) (r:p.ownBlock=some g\/w.heap.size<=g):
 FB cb w (j.setCell ⟨cb,1,none⟩ (.slice (some ⟨g,0,none⟩) (seen.length+1) a))/\CK cb lo fs q (j.setCell ⟨cb,1,none⟩ (.slice (some ⟨g,0,none⟩) (seen.length+1) a)) (seen++[x]):=by
 have u:=aD c;have s:=DV c f i
 have n:Below cb w j:=⟨i.os.trans rfl,i.tape.trans rfl,i.output.trans rfl,aF_ (by simp) i.size,fun k d=>by
  rw[i.block k (by simp;omega) (fun e=>by have:=cC f k e.symm;omega)]
  exact aA_ _ _ _ (by omega)⟩
 have m:Below cb w (j.setCell ⟨cb,1,none⟩ (.slice (some ⟨g,0,none⟩) (seen.length+1) a)):=n.setCell (by simp) _
 have t:(j.setCell ⟨cb,1,none⟩ (.slice (some ⟨g,0,none⟩) (seen.length+1) a)).heap[cb]?=some (.cells #[q,.slice (some ⟨g,0,none⟩) (seen.length+1) a] 220 (0,0)):=by rw[aS s];rfl
 have l:=mS c;refine⟨⟨m,fun k d v z=>?_,fun k d=>?_⟩,⟨.slice (some ⟨g,0,none⟩) (seen.length+1) a,t,?_⟩,h.fun_.keep fun k d=>m.block k d.2⟩
 ·rw[ax_ _ _ _ _ (by show k≠cb;exact v),i.block k (by simp;omega) (fun e=>z (by rw[l];exact e.symm)),aA_ _ _ _ d]
 ·rw[mS t] at d;have e:g=k:=Option.some.inj d;rw[l];subst e;exact r
 ·have A:(seen++[x]).length=seen.length+1:=by simp
  have y:kJ (seen++[x])=kJ seen++[.string (bs x)]:=by simp[kJ]
  rw[A,y];exact aY b fun k d=>ax_ _ _ _ _ (by have:=cC b k d;show k≠cb;omega)
def jQ(cb lo:Nat)(fs:List aC)(fv:Value)(d:Nat):Prop:=
 ∀(v:Value) (a:aC) (seen:List (List UInt8)) (w:World),CK cb lo fs fv w seen->PN (Btw lo cb) w v a->eY d a->seen.length+bW d a<=90000->
  Calls prog 167 #[.pointer (some ⟨cb,0,none⟩),v] w (cY cb lo fs fv w (aO fs false d a ⟨seen,0,0⟩))
def CK.cut{cb lo:Nat}{fs:List aC}{g:Value}{w:World}{seen:List (List UInt8)}(h:CK cb lo fs g w seen):∃f a,w.heap[cb]?=some (.cells #[g,.slice f seen.length a] 220 (0,0))/\seen.length<=a/\a<=maxLen/\w.ownsRow (cb+1) 9 1 (.slice f seen.length a) seen.length (kJ seen):=by
 obtain⟨j,i,e⟩:=h.blk;obtain⟨x,c,rfl,d,b,_⟩:=NC e _ (au_ _);exact⟨x,c,i,d,b,e⟩
def PN.below{lo cb:Nat}{w w':World}{v:Value}{a:aC}(h:PN (Btw lo cb) w v a)(c:Below cb w w'):PN (Btw lo cb) w' v a:=h.keep fun k b=>c.block k b.2
def PKid.below{lo cb:Nat}{w w':World}{v:Value}{l:List aC}(h:PKid (Btw lo cb) w v l)(b:Below cb w w'):PKid (Btw lo cb) w' v l:=h.keep (fun k a=>b.block k a.2) fun _ h=>h
def QV(cb lo:Nat)(fs:List aC)(O:Value)(d:Nat)(IH:jQ cb lo fs O d)(w:World)(seen:List (List UInt8))(h:CK cb lo fs O w seen)(T:Nat)(t u:aC)(v1:Value)(hu:PN (Btw lo cb) w v1 u)(ak:eY d u)(av:seen.length+bW d u<=90000):
 Calls prog 229 #[.pointer (some ⟨cb,0,none⟩),.agg #[.int .i64 T,.int .i64 t.line,.string (bs t.text),v1]] w
  (cY cb lo fs O w { aO fs false d u (Hs.declaresL ⟨seen,0,0⟩ t) with seen:=(aO fs false d u (Hs.declaresL ⟨seen,0,0⟩ t)).seen++[t.text] }):=by
 obtain⟨S,k,rfl⟩:=hu.form;have P:=h.lt;have v:Hid (Below w.heap.size w (w.alloc (.cells #[.int .i64 T,.int .i64 t.line,.string (bs t.text),.iface S (.agg k)] 329))):=(ay_ _ _).alloc (au_ _) _;have ah:Hid ((w.alloc (.cells #[.int .i64 T,.int .i64 t.line,.string (bs t.text),.iface S (.agg k)] 329)).heap[w.heap.size]?=some (.cells #[.int .i64 T,.int .i64 t.line,.string (bs t.text),.iface S (.agg k)] 329 (0,0))):=aM _ _ rfl _;have W:=aB (qR cb lo fs O _ seen (h.grow v.out) (by omega) t.line t.text)
 have G:Hid (Hs.declaresL ⟨seen,0,0⟩ t=if fL t.text || seen.contains t.text then aZ.found ⟨seen,0,0⟩ t.line 6 else ⟨seen,0,0⟩):=rfl
 rw[<-G.out] at W;have HU:=aB hu;have Y:=aB IH;have q:=fN fs false d u (Hs.declaresL ⟨seen,0,0⟩ t);have HADD:=aB q;have J:=nA ⟨seen,0,0⟩ t;have F:=aB J;have y:=aB (FB.of_below v.out P)
 have H:kW cb (w.alloc (.cells #[.int .i64 T,.int .i64 t.line,.string (bs t.text),.iface S (.agg k)] 329))≠some w.heap.size:=by
  obtain⟨sv,hb,ho⟩:=h.blk;intro e;rw[oD (v.out.block cb P),mS hb] at e;have:=cK ho _ e;omega
 have C:=aB H;clear h hu IH G q J H;generalize am:Hs.declaresL ⟨seen,0,0⟩ t=E at*;clear am;obtain⟨i0,hi,ab,ai,ag⟩:=info_parts WY;go_enter func229,ntmps229;go_wp2_with fail;refine W.out.mono ?_;rintro e w1 ⟨f,⟨V,rfl,rfl,p⟩|⟨Q,rfl⟩⟩
 rotate_left
 ·have o:=aB (y.out.trans f);have X:=aB Q;clear f Q;go_wp2_with fail;exact⟨rfl,cY.fault (c1:=E) o.out X.out ((Stk.walk fs false d u E).trans (Stk.seen _ _))⟩
 obtain rfl:V=seen:=F.out;have HX:=aB (Y.out (.iface S (.agg k)) u V w1 p (HU.out.below (y.out.trans f).bel) ak (by omega))
 have a:=aB ((f.blk w.heap.size (by simp) (by omega) C.out).trans ah.out)
 have o:=aB (y.out.trans f)
 have L:Hid (kW cb w1≠some w.heap.size):=fun e=>by
  rcases f.row _ e with e|e
  ·exact C.out e
  ·simp at e;omega
 have m0:=aA a.out (i:=0) rfl;have m1:=aA a.out (i:=1) rfl;have m2:=aA a.out (i:=2) rfl;have m3:=aA a.out (i:=3) rfl;have N:=aD a.out;clear f p W F;generalize ad:aO fs false d u ⟨V,0,0⟩=c2 at*;clear ad;go_wp2_with fail;refine HX.out.mono ?_;rintro e A ⟨l,⟨B,rfl,rfl,m⟩|⟨D,rfl⟩⟩
 rotate_left
 ·have n:=aB (o.out.trans l);have af:=aB D;clear l D;go_wp2_with fail;exact⟨rfl,cY.fault (c1:=c2) n.out af.out (Stk.seen _ _)⟩
 clear m0 m1 m2 m3 N;have b:=aB ((l.blk w.heap.size (aD a.out) (by omega) L.out).trans a.out)
 have m0:=aA b.out (i:=0) rfl;have m1:=aA b.out (i:=1) rfl;have m2:=aA b.out (i:=2) rfl;have m3:=aA b.out (i:=3) rfl;have an:=aD b.out;obtain⟨Z,ac,c,ap,aa,j⟩:=m.cut;obtain⟨U,c0,E,f1⟩:=jF c
 have au:B.length<=90000:=by
  obtain⟨x,h1,h2⟩:=HADD.out;have aj:B=V++x:=h1;rw[aj];simp;omega
 have n:=aB (show A.drew.heap[cb]?=_ from c)
 have s:=aB (show A.drew.ownsRow _ _ _ _ _ _ from j)
 have ae:=aB (show CK cb lo fs O A.drew B from m.grow (ay_ _ _).drew)
 have I:=aB (o.out.trans (l.trans (FB.of_below (ay_ _ _).drew U)));clear c j m l HX;go_wp2_with fail;go_region_law (refine step_append_lies _ (by rfl) _ _ 60 (by rfl) (cb+1) 9 i0 _ 1 16 underlying60 hi ab ai ag rfl (by decide) (.slice Z B.length ac) B.length (kJ B) (by rfl) (s.out.alloc _) ⟨A.heap.size,0,none⟩ 1 1 [.string (bs t.text)] (by rfl) (by rfl) (OR A.drew _) (WR _) (by decide) (by unfold maxLen;omega) (by omega) (by simp;omega) (A.heap.size+1) (by simp) ?_;intro g5 ao w5 z g M aw;have K:=DV n.out s.out g;obtain⟨ar, -,q1,aq⟩:=jF K;clear K)
 all_goals
  go_wp2_with fail;first|go_end0|refine bodyPost_ret (results_none rfl _ _ _) rfl ?_
  have r:=ae.out.add n.out s.out z g (M.imp_right fun e=>by show A.heap.size<=g5;omega)
  exact cY.done (I.out.trans r.1) rfl r.2
def PKid.get{F:Nat->Prop}{w:World}{v:Value}{l:List aC}(h:PKid F w v l):(v=.slice none 0 0/\l=[])\/∃g a,v=.slice (some ⟨g,0,none⟩) l.length a/\F g/\g<w.heap.size/\l.length<=a/\∀k (b:k<l.length),∃u,w.cell? ⟨g,k,none⟩=some u/\PN F w u l[k]:=by
 rcases h with h|⟨g,a,m,p,i,e,d,f,j,o⟩
 ·exact av_ h
 ·refine as_ ⟨g,a,i,e,aD d,f,fun k b=>?_⟩
  obtain⟨u,c,n⟩:=jX.get k b o;refine⟨u,aA d ?_,n⟩;rw[<-j,aU_,if_pos b] at c;simpa using c
abbrev foldL(fs:List aC)(d:Nat)(l:List aC)(s:aZ):aZ:=l.foldl (fun s k=>aO fs false d k s) s
def mI(cb lo:Nat)(fs:List aC)(fv:Value)(d:Nat):Prop:=
 ∀(v:Value) (l:List aC) (seen:List (List UInt8)) (w:World),CK cb lo fs fv w seen->PKid (Btw lo cb) w v l->(∀k∈l,eY d k)->seen.length+(l.map (bW d)).sum<=90000->l.length<=90000->
  Calls prog 231 #[.pointer (some ⟨cb,0,none⟩),v] w (cY cb lo fs fv w (foldL fs d l ⟨seen,0,0⟩))
def R7(cb lo:Nat)(fs:List aC)(fv:Value)(d:Nat)(w:World)(l:List aC)(c:aZ)(gk:Nat)(i:Value)(wr:World):Prop:=
 ∃k s,k+gk=l.length/\i=.int .i64 (k:Nat)/\FB cb w wr/\CK cb lo fs fv wr s/\c=foldL fs d (l.drop k) ⟨s,0,0⟩/\s.length+((l.drop k).map (bW d)).sum<=90000
def TM(cb lo:Nat)(fs:List aC)(z:Value)(d:Nat)(W:jQ cb lo fs z d)(g B:Nat)(l:List aC)(seen:List (List UInt8))(w:World)(h:CK cb lo fs z w seen)(S:g<cb)(_hcap:l.length<=B)(Z:∀k (hk:k<l.length),∃u,w.cell? ⟨g,k,none⟩=some u/\PN (Btw lo cb) w u l[k])(Q:∀k∈l,eY d k)(C:seen.length+(l.map (bW d)).sum<=90000)(hl:l.length<=90000):
 Calls prog 231 #[.pointer (some ⟨cb,0,none⟩),.slice (some ⟨g,0,none⟩) l.length B] w (cY cb lo fs z w (foldL fs d l ⟨seen,0,0⟩)):=by
 have HI:Hid (R7 cb lo fs z d w l (foldL fs d l ⟨seen,0,0⟩) l.length (.int .i64 (0:Nat)) w):=⟨0,seen,by omega,rfl,FB.refl _,h,by simp,by simpa using C⟩
 have HC:=aB Z;have HD:=aB Q;have J:=aB W;have G:=h.lt;clear h Z Q W C;generalize foldL fs d l ⟨seen,0,0⟩=c at*;go_enter func231,ntmps231;go_wp2_with fail;go_loopg [5,8] l.length (fun gk _ i wr=>R7 cb lo fs z d w l c gk i wr)
 case atStart=>exact HI.out
 case round=>
  obtain⟨k,s,hk,rfl,f,o,m,E⟩:=hrel;have y:=aB f;have H:=aB o;by_cases v:k<l.length
  ·obtain⟨j,rfl⟩:∃j,gk=j+1:=⟨gk-1,by omega⟩
   obtain⟨u,X,O⟩:=HC.out k v;obtain⟨T,U,rfl⟩:=O.form;have K:wr.cell? ⟨g,k,none⟩=some (.iface T (.agg U)):=(f.bel.cell (p:=⟨g,k,none⟩) S).trans X;have aa:g<wr.heap.size:=az_ (Nat.lt_trans S G) f.bel.size;have D:l.drop k=l[k]::l.drop (k+1):=(bA_ v).symm;have F:=HD.out l[k] (aR_ v);rw[D] at m E;simp only[aM_,aO_] at E;generalize l[k]=a at*;have HX:=aB (J.out (.iface T (.agg U)) a s wr o (O.below f.bel) F (by omega))
   have t:=fN fs false d a ⟨s,0,0⟩;have HADD:=aB t;have b:c=foldL fs d (l.drop (k+1)) (aO fs false d a ⟨s,0,0⟩):=m;have q:=aB b;have P:=aB E;clear f o O X D m b t E;generalize aO fs false d a ⟨s,0,0⟩=V at*;go_wp2_with fail;refine HX.out.mono ?_;rintro e w1 ⟨n,⟨Y,rfl,rfl,r⟩|⟨A,rfl⟩⟩
   rotate_left
   ·have L:=aB (y.out.trans n);have I:=aB A;clear n A;go_wp2_with fail;exact⟨rfl,cY.fault (c1:=V) L.out I.out (by rw[q.out];exact Stk.fold (fun s k=>Stk.walk fs false d k s) _ _)⟩
   have M:Hid (R7 cb lo fs z d w l c j (.int .i64 ((k+1:Nat):Int)) w1):=by
    refine⟨k+1,Y,by omega,rfl,y.out.trans n,r,q.out,?_⟩
    obtain⟨x,h1,h2⟩:=HADD.out;have N:Y=s++x:=h1;have:=P.out;rw[N,aw_];omega
   clear n r HX;go_wp2_with fail;go_roundg j
   case measure=>omega
   case rel=>exact M.out
  ·have b:c=⟨s,0,0⟩:=by rw[m,ba_ (by omega)];rfl
   have q:=aB b;clear f o m b;go_wp2_with fail;go_end0;exact cY.done y.out q.out H.out
def TN(cb lo:Nat)(fs:List aC)(a:Value)(seen:List (List UInt8))(w:World)(h:CK cb lo fs a w seen):
 Calls prog 231 #[.pointer (some ⟨cb,0,none⟩),.slice none 0 0] w (cY cb lo fs a w ⟨seen,0,0⟩):=by
 have H:=aB h;clear h;go_enter func231,ntmps231;go_wp2_with fail;go_loop [5,8] (fun _ i=>i=.int .i64 0) (fun _ _=>0)
 case atStart=>rfl
 case round=>
  subst hrel;go_wp2_with fail;go_end0;exact cY.done (FB.refl _) rfl H.out
def rS(cb lo:Nat)(fs:List aC)(c:Value)(d:Nat)(o:jQ cb lo fs c d):mI cb lo fs c d:=by
 intro v l a w h j i f n;rcases j.get with ⟨rfl,rfl⟩|⟨g,e,rfl,m,p,b,k⟩
 ·exact TN cb lo fs c a w h
 ·exact TM cb lo fs c d o g e l a w h m.2 b k i f n
def IS(fs:List aC)(d:Nat)(l:List aC)(s:aZ):Adds s (foldL fs d l s) (l.map (bW d)).sum:=Adds.fold (fun s k=>fN fs false d k s) l s
def CK.back{cb lo:Nat}{fs:List aC}{g:Value}{w:World}{seen:List (List UInt8)}(m:Nat)(n:m<=seen.length){b:Option Addr}{d:Nat}(h:CK cb lo fs g w seen)(a:w.heap[cb]?=some (.cells #[g,.slice b seen.length d] 220 (0,0)))(f:w.ownsRow (cb+1) 9 1 (.slice b seen.length d) seen.length (kJ seen)):
 FB cb w (w.setCell ⟨cb,1,none⟩ (.slice b m d))/\CK cb lo fs g (w.setCell ⟨cb,1,none⟩ (.slice b m d)) (seen.take m):=by
 have o:=aD a;obtain⟨x,c,q, -, -,j⟩:=NC f m n;obtain⟨rfl,rfl⟩:b=x/\d=c:=by cases q;exact⟨rfl,rfl⟩
 have i:Below cb w (w.setCell ⟨cb,1,none⟩ (.slice b m d)):=(ay_ _ _).setCell (by simp) _
 have l:(w.setCell ⟨cb,1,none⟩ (.slice b m d)).heap[cb]?=some (.cells #[g,.slice b m d] 220 (0,0)):=by rw[aS a];rfl
 refine⟨⟨i,fun k e p r=>ax_ _ _ _ _ (by show k≠cb;exact p),fun k e=>av_ ?_⟩,⟨.slice b m d,l,?_⟩,h.fun_.keep fun k e=>i.block k e.2⟩
 ·rw[mS l] at e;rw[mS a,<-e];cases b<;>rfl
 ·rw[bc_,Nat.min_eq_left n];exact aY j fun k e=>ax_ _ _ _ _ (by have:=cC j k e;show k≠cb;omega)
def yG(cb lo:Nat)(fs:List aC)(E:Value)(d:Nat)(I:mI cb lo fs E d)(v:Value)(l:List aC)(seen:List (List UInt8))(w:World)(h:CK cb lo fs E w seen)(t:PKid (Btw lo cb) w v l)(F:∀k∈l,eY d k)(A:seen.length+(l.map (bW d)).sum<=90000)(M:l.length<=90000):
 Calls prog 190 #[.pointer (some ⟨cb,0,none⟩),v] w (cY cb lo fs E w { foldL fs d l ⟨seen,0,0⟩ with seen:=(foldL fs d l ⟨seen,0,0⟩).seen.take seen.length }):=by
 obtain⟨S,U,rfl⟩:=t.slice;have K:=aB (I _ l seen w h t F A M);have j:=IS fs d l ⟨seen,0,0⟩;have HADD:=aB j;obtain⟨T,V,m,C,s,o⟩:=h.cut;obtain⟨p,H,y,G⟩:=jF m;clear h t F I j m o;generalize foldL fs d l ⟨seen,0,0⟩=c at*;go_enter func190,ntmps190;go_wp2_with fail;refine K.out.mono ?_;rintro e Q ⟨i,⟨B,rfl,rfl,f⟩|⟨q,rfl⟩⟩
 rotate_left
 ·have n:=aB i;have u:=aB q;clear i q;go_wp2_with fail;exact⟨rfl,cY.fault (c1:=c) n.out u.out (Stk.seen _ _)⟩
 obtain⟨x,r,L⟩:=HADD.out;have b:B=seen++x:=r;have D:seen.length<=B.length:=by rw[b];simp
 obtain⟨P,O,a,J,z,g⟩:=f.cut;have HFIN:=aB (f.back seen.length D a g);have n:=aB i;clear H y G p C s;obtain⟨p,H,y,G⟩:=jF a;have N:B.length<=200000:=by rw[b,aw_];omega
 clear f a g i K r b;go_wp2_with fail;go_end0;exact cY.done (n.out.trans HFIN.out.1) rfl HFIN.out.2
def FSl.kids{F:Nat->Prop}{w:World}{v:Value}{fs:List aC}(h:FSl F w v fs):∀f∈fs,1<=f.kids.length:=by
 rcases h.cells with ⟨_,rfl⟩|⟨g,d,_,_,_,_,i⟩
 ·intro f a;cases a
 ·intro f a;obtain⟨k,c,rfl⟩:=List.mem_iff_getElem.1 a;obtain⟨m,l,j,b,_,_,_,_,e,_⟩:=i k c;rw[e];simp
def XK{fs:List aC}(a:∀f∈fs,1<=f.kids.length)(x:List UInt8):lS fs false x=match kX fs x with|some n=>(n:Int)|none=> -1:=by
 unfold lS kX;cases d:(x==[108,101,110])
 ·cases c:(x==[114,101,97,100])
  ·cases b:dL fs x with
   |none=>simp
   |some f=>
    have g:=a f (bn_ b);have e:((f.kids.length-1:Nat):Int)=(f.kids.length:Int)-1:=by omega
    simpa using e.symm
  ·simp
 ·simp
def WQ{fs:List aC}(b:∀f∈fs,f.kids.length<=90000){x:List UInt8}{n:Nat}(h:kX fs x=some n):n<=90000:=by
 unfold kX at h;split at h
 ·cases h;omega
 ·split at h
  ·cases h;omega
  ·cases a:dL fs x with
   |none=>rw[a] at h;cases h
   |some f=>
    rw[a] at h;have:=b f (bn_ a);cases h;show f.kids.length-1<=90000
    omega
def VO(cb lo:Nat)(fs:List aC)(T:Value)(ad:fs.length<=90000)(D:∀f∈fs,f.kids.length<=90000)(d:Nat)(HN:mI cb lo fs T d)(c:aC)(v:Value)(seen:List (List UInt8))(w:World)(h:CK cb lo fs T w seen)(K:PKid (Btw lo cb) w v c.kids)(hd:∀k∈c.kids,eY d k)(V:seen.length+(c.kids.map (bW d)).sum<=90000)(hl:c.kids.length<=90000):
 Calls prog 232 #[.pointer (some ⟨cb,0,none⟩),.agg #[.int .i64 c.line,.string (bs c.text),v]] w (cY cb lo fs T w (foldL fs d c.kids (eB fs false ⟨seen,0,0⟩ c))):=by
 obtain⟨G,J,rfl⟩:=K.slice;have q:=h.lt;have B:Below w.heap.size w (w.alloc (.cells #[.int .i64 c.line,.string (bs c.text),.slice G c.kids.length J] 341)):=(ay_ _ _).alloc (au_ _) _;have L:=h.grow B;have C:=aB B;have E:Hid ((w.alloc (.cells #[.int .i64 c.line,.string (bs c.text),.slice G c.kids.length J] 341)).heap[w.heap.size]?=some (.cells #[.int .i64 c.line,.string (bs c.text),.slice G c.kids.length J] 341 (0,0))):=aM _ _ rfl _;obtain⟨sx,sc,y,ab,Y,H⟩:=L.cut;obtain⟨ac,c0,M,f1⟩:=jF y;obtain⟨pv,rfl,u⟩:=(L.grow (ay_ _ _).drew).fun_
 obtain⟨fx,fc,rfl⟩:∃x c,pv=.slice x fs.length c:=by
  rcases u.cells with ⟨U,h2⟩|⟨g,ae,U,_⟩
  ·exact⟨none,0,by rw[U,h2];rfl⟩
  ·exact⟨_,_,U⟩
 have o:=aB (CS fs (Btw lo cb) (.slice fx fs.length fc) c.text (w.alloc (.cells #[.int .i64 c.line,.string (bs c.text),.slice G c.kids.length J] 341)).drew (by omega) D u)
 have p:=aB (XK u.kids c.text);clear u;have H0:=aB L;have HK:=aB K;have S:=aB (fun W (X:Below w.heap.size w W)=>HN (.slice G c.kids.length J) c.kids seen W (h.grow X) (K.below (X.mono (by omega))) hd V hl)
 have O:=aB D;clear h K hd HN B L y H D;cases t:kX fs c.text with
 |none=>
  have A:Hid (eB fs false ⟨seen,0,0⟩ c=⟨seen,6,c.line⟩):=by
   show _=_
   rw[VV (W:= -1) (by rw[p.out,t]) (by decide)];rfl
  rw[t] at o;simp only[Option.getD_none,Option.isSome_none] at o;rw[A.out];clear t p A;go_enter func232,ntmps232;go_wp2_with fail;go_region_law (go_simp;go_at_call 135;refine o.out.mono ?_;rintro e w1 ⟨rfl,b⟩;have l:=aB (C.out.trans ((ay_ _ _).drew.trans (b.mono (by simp))));have a:=aB ((b.block w.heap.size (by simp)).trans E.out);have Z:=aA a.out (i:=0) rfl;have m1:=aA a.out (i:=1) rfl;have m2:=aA a.out (i:=2) rfl;have I:=aD a.out;clear b)
  all_goals
   go_wp2_with fail;refine(qT c.line _).mono ?_;rintro e w2 ⟨rfl,j⟩;have m:=aB (l.out.trans (j.mono l.out.size));clear j;go_wp2_with (go_at_call 136;refine(gF 6 c.line _).mono ?_;rintro e w3 ⟨rfl,Q⟩;obtain rfl:=Q.symm)
   exact⟨rfl,cY.fault (c1:=⟨seen,6,c.line⟩) (FB.of_below m.out q) (by simp) (Stk.fold (fun s k=>Stk.walk fs false d k s) _ _)⟩
 |some n=>
  rw[t] at o;simp only[Option.getD_some,Option.isSome_some] at o;have hn:n<=2000000000:=by have:=WQ O.out t;omega
  by_cases he:n=c.kids.length
  ·have A:Hid (eB fs false ⟨seen,0,0⟩ c=⟨seen,0,0⟩):=by
    show _=_
    rw[E7 (W:=n) (by rw[p.out,t]) (by omega) (by omega)]
   rw[A.out];subst he;clear t p A;generalize foldL fs d c.kids ⟨seen,0,0⟩=r at*;go_enter func232,ntmps232;go_wp2_with fail;go_region_law (go_simp;go_at_call 135;refine o.out.mono ?_;rintro e w1 ⟨rfl,b⟩;have l:=aB (C.out.trans ((ay_ _ _).drew.trans (b.mono (by simp))));have a:=aB ((b.block w.heap.size (by simp)).trans E.out);have Z:=aA a.out (i:=0) rfl;have m1:=aA a.out (i:=1) rfl;have m2:=aA a.out (i:=2) rfl;have I:=aD a.out;clear b)
   all_goals
    go_wp2_with fail;refine(S.out _ l.out).mono ?_;rintro e w2 ⟨j,⟨s2,rfl,rfl,z⟩|⟨F,rfl⟩⟩
    ·have m:=aB ((FB.of_below l.out q).trans j);have N:=aB z;clear j z;go_wp2_with fail;go_end0;exact cY.done m.out rfl N.out
    ·have m:=aB ((FB.of_below l.out q).trans j);have P:=aB F;clear j F;go_wp2_with fail;exact⟨rfl,cY.fault (c1:=r) m.out P.out (Stk.refl _)⟩
  ·have A:Hid (eB fs false ⟨seen,0,0⟩ c=⟨seen,7,c.line⟩):=by
    show _=_
    rw[E6 (W:=n) (by rw[p.out,t]) (by omega) (by omega)];rfl
   rw[A.out];have aa:((n:Int) != (c.kids.length:Int))=true:=by simp;omega
   clear t p A;go_enter func232,ntmps232;go_wp2_with fail;go_region_law (go_simp;go_at_call 135;refine o.out.mono ?_;rintro e w1 ⟨rfl,b⟩;have l:=aB (C.out.trans ((ay_ _ _).drew.trans (b.mono (by simp))));have a:=aB ((b.block w.heap.size (by simp)).trans E.out);have Z:=aA a.out (i:=0) rfl;have m1:=aA a.out (i:=1) rfl;have m2:=aA a.out (i:=2) rfl;have I:=aD a.out;clear b)
   all_goals
    go_wp2_with fail;refine(qT c.line _).mono ?_;rintro e w2 ⟨rfl,j⟩;have m:=aB (l.out.trans (j.mono l.out.size));clear j;go_wp2_with (go_at_call 136;refine(gF 7 c.line _).mono ?_;rintro e w3 ⟨rfl,Q⟩;obtain rfl:=Q.symm)
    exact⟨rfl,cY.fault (c1:=⟨seen,7,c.line⟩) (FB.of_below m.out q) (by simp) (Stk.fold (fun s k=>Stk.walk fs false d k s) _ _)⟩
end Go.Proofs.YtblbkfdhjfppkaaGreatDoor
