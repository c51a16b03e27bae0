/- Contracts of the program: a variable is declared: what it does. -/
import Derived.Test.YtblbkfdhjfppkaaGreatDoorP16
set_option linter.defProp false
set_option maxRecDepth 100000
set_option maxHeartbeats 4000000
namespace Go.Proofs.YtblbkfdhjfppkaaGreatDoor
open Hs
open _root_.Go.Proofs.Tryz
open Go.RowKit
section
variable {fp:Nat->Value} {F:Nat->Prop} {base:Nat} {w:World} {sb gf cap:Nat} {t0 tv outv s0:Value} {fvs:List FVal} {below:List aI} {f:aI} {tape:List Int} {out:List (List UInt8)}
def cT.popR{m:List FVal}{v:FVal}{vs:List aJ}{a:aJ}(h:cT fp F base w sb gf cap t0 tv outv s0 (m++[v]) ⟨below++[f],tape,out⟩)(H:f.ops=vs++[a])(l:f.ops.length<=100000):
 Calls prog 171 #[.pointer (some ⟨gf,m.length*6,none⟩)] w fun e p=>∃t z c,e=.returned (.iface t z)/\PV F p (.iface t z) a/\aK a<=200/\c.ownBlock=v.ov.ownBlock/\cT fp F base p sb gf cap t0 tv outv s0 (m++[{ v with ov:=c }]) ⟨below++[f.pop],tape,out⟩/\Kept (aF sb gf outv (m++[v])) w p/\∀k,k≠gf->p.heap[k]?=w.heap[k]?:=by
 obtain⟨O,Y,C,e,Q,n,J,s,G,V,T,X,U,Z,M⟩:=h.top;obtain⟨rfl,N⟩:=bh_ e rfl;cases N;obtain⟨⟨W,g,r⟩,d⟩:=n.ops;rw[H] at g r d l;obtain⟨o,u,rfl,P,q,I⟩:=fT.unsnoc r;obtain⟨t,z,rfl⟩:=I.form;rw[aw_] at g l;refine(PR base gf (m.length*6) vs.length C v.ov o _ w s M g P ⟨t,z,rfl⟩ (by omega)).mono ?_
 rintro e p ⟨rfl,c,rfl,K,D⟩;have i:f.pop.ops=vs:=by simp[aI.pop,H]
 have y:MI fp F base w { v with ov:=c } f.pop:=⟨n.fn,n.nx,n.ln,n.sp,n.vars,⟨o,by rw[i];exact K,by rw[i];exact q⟩,fun b E=>d b (aP_ _ (by rw[i] at E;exact E))⟩
 obtain⟨L,S⟩:=h.setTop (j:=5) (x:=c) (v':={ v with ov:=c }) (by omega) rfl (by simp[FVal.owns,D]) y
 have A:∀k,F k->(w.setCell ⟨gf,m.length*6+5,none⟩ c).heap[k]?=w.heap[k]?:=fun k B=>ax_ _ _ _ _ fun e=>(h.apart k B).2 (by simp[aF,e])
 exact⟨t,z,c,rfl,I.keep A,d a (by simp),D,L,S,fun k B=>ax_ _ _ _ _ B⟩
def cT.declaredC{o:List FVal}{v:FVal}{d:Nat}{xs:List Value}{a:aJ}{t:TypeId}{z:Value}{g b:Nat}{l:World}{A:Option Nat}(h:cT fp F base w sb gf cap t0 tv outv s0 (o++[v]) ⟨below++[f],tape,out⟩)(N:PV F w (.iface t z) a)(s:aK a<=200)(x:fT F w xs (f.vars.take d))(I:d<=f.vars.length)(j:A=v.vv.ownBlock)
 (J:l.ownsRow base 256 1 (.slice (some ⟨g,0,none⟩) (d+1) b) (d+1) (xs++[.iface t z])) (m:(w.alloc (.cells #[.iface t z] 256)).grownBy l A) (n:A=some g\/w.heap.size+1<=g):
 cT fp F base (l.setCell ⟨gf,o.length*6+4,none⟩ (.slice (some ⟨g,0,none⟩) (d+1) b)) sb gf cap t0 tv outv s0 (o++[{ v with vv:=.slice (some ⟨g,0,none⟩) (d+1) b }]) ⟨below++[{ f with vars:=f.vars.take d++[a] }],tape,out⟩/\Kept (aF sb gf outv (o++[v])) w (l.setCell ⟨gf,o.length*6+4,none⟩ (.slice (some ⟨g,0,none⟩) (d+1) b)):=by
 obtain⟨L,Y,B,e,M,X,H,c,G,T,Q,W,S,U,V⟩:=h.top;obtain⟨rfl,K⟩:=bh_ e rfl;cases K;have C:=aD c
 have q:v.vv.ownBlock≠some gf:=fun e=>by
  have:=(aK_.1 (aK_.1 h.nodup).2).1;exact this (by simp[aT,FVal.owns,e])
 have D:g≠gf:=by
  rcases n with e|e
  ·intro P;rw[j] at e;exact q (by rw[e,P])
  ·omega
 have E:∀k,k<w.heap.size->some k≠v.vv.ownBlock->l.heap[k]?=w.heap[k]?:=fun k y r=>by
  rw[m.block k (by simp;omega) (by rw[j];exact r),aA_ _ _ _ y]
 have p:l.heap[gf]?=some (.cells B 195 (0,0)):=by rw[E gf C (fun e=>q e.symm)];exact c
 refine h.declared (a:=a) (u:=.iface t z) (xs:=xs) c x I N s (aS p) (aY J fun k i=>ax_ _ _ _ _ (by cases i;exact D)) (fun k i=>?_) ⟨m.os.trans rfl,m.tape.trans rfl,m.output.trans rfl,aF_ (by simp) (aF_ m.size (by simp)),fun k y r O=>?_⟩
 ·cases i;rcases n with e|e
  ·exact av_ (by rw[<-j];exact e)
  ·exact as_ (by show w.heap.size<=g;omega)
 ·rw[ax_ _ _ _ _ r,E k y O]
def xH(fp:Nat->Value)(F:Nat->Prop)(base sb gf cap:Nat)(t0 tv outv s0:Value)(fb:List FVal)(v:FVal)(below:List aI)(f:aI)(tape:List Int)(out:List (List UInt8))(w0:World)(a:aJ)(t:TypeId)(z:Value)(W:World):Prop:=
 ∃ov',ov'.ownBlock=v.ov.ownBlock/\PV F W (.iface t z) a/\aK a<=200/\cT fp F base W sb gf cap t0 tv outv s0 (fb++[{ v with ov:=ov' }]) ⟨below++[f.pop],tape,out⟩/\Kept (aF sb gf outv (fb++[v])) w0 W/\∀k,k≠gf->W.heap[k]?=w0.heap[k]?
def xH.fin{g:List FVal}{v:FVal}{x W:World}{a:aJ}{t:TypeId}{z:Value}{d:Nat}{xs:List Value}{D:Obj}(h:cT fp F base w sb gf cap t0 tv outv s0 (g++[v]) ⟨below++[f],tape,out⟩)(A:x=w.alloc D)(N:xH fp F base sb gf cap t0 tv outv s0 g v below f tape out x a t z W)(H:d<=f.vars.length)(r:fT F x xs (f.vars.take d))(y:f.last=a)
 (i c:Nat) (B:World) (j:Option Nat) (o:j=v.vv.ownBlock) (K:B.ownsRow base 256 1 (.slice (some ⟨i,0,none⟩) (d+1) c) (d+1) (xs++[.iface t z])) (M:(W.alloc (.cells #[.iface t z] 256)).grownBy B j) (n:j=some i\/W.heap.size+1<=i):
 Done fp F base sb t0 s0 (aF sb gf outv (g++[v])) w ⟨below++[(aL (.declare d) f).1],tape,out⟩ (B.setCell ⟨gf,g.length*6+4,none⟩ (.slice (some ⟨i,0,none⟩) (d+1) c)):=by
 subst A;obtain⟨l,C,J,T,O,E,U⟩:=N;have u:∀k,F k->k≠gf:=fun k s e=>(h.apart k s).2 (by simp[aF,e])
 obtain⟨P,G⟩:=O.declaredC (d:=d) (xs:=xs) J T (r.keep fun b L=>U b (u b L)) H o K M n
 have m:aF sb gf outv (g++[{ v with ov:=l }])=aF sb gf outv (g++[v]):=by simp[aF,aT,FVal.owns,C]
 rw[m] at G;have Q:=((Kept.of_below (own:=aF sb gf outv (g++[v])) ((ay_ _ w).alloc (au_ _) D)).trans E fun _ h=>av_ h).trans G fun _ h=>av_ h
 refine⟨Q,F,gf,cap,tv,outv,g++[{ v with ov:=l,vv:=.slice (some ⟨i,0,none⟩) (d+1) c }],Ext.refl _ _,?_,fun k s=>?_⟩
 ·have e:(aL (.declare d) f).1={ f.pop with vars:=f.pop.vars.take d++[a] }:=by simp[aL,y,aI.pop]
  rw[e];exact P
 ·have V:aF sb gf outv (g++[{ v with ov:=l,vv:=.slice (some ⟨i,0,none⟩) (d+1) c }])=(sb::gf::(outv.ownBlock.toList++aT g))++(i::v.ov.ownBlock.toList):=by
   have I:(Value.slice (some ⟨i,0,none⟩) (d+1) c).ownBlock=some i:=rfl;simp[aF,aT,FVal.owns,C,I]
  have S:aF sb gf outv (g++[v])=(sb::gf::(outv.ownBlock.toList++aT g))++v.owns:=by simp[aF,aT]
  have q:k∈(sb::gf::(outv.ownBlock.toList++aT g))++(i::v.ov.ownBlock.toList):=by rw[<-V];exact s
  rw[S];rcases aE_.1 q with p|p
  ·exact av_ (aP_ _ p)
  ·rcases aG_.1 p with rfl|p
   ·rcases n with e|e
    ·exact av_ (aL_ _ (by rw[o] at e;simp[FVal.owns,e]))
    ·have:=E.size;exact as_ (by simp at this;omega)
   ·exact av_ (aL_ _ (aL_ _ p))
def xH.reads{g:List FVal}{v:FVal}{W:World}{a:aJ}{t:TypeId}{z:Value}{cs:Array Value}{n:TypeId}(h:cT fp F base w sb gf cap t0 tv outv s0 (g++[v]) ⟨below++[f],tape,out⟩)(q:base<=w.heap.size)(x:xH fp F base sb gf cap t0 tv outv s0 g v below f tape out (w.alloc (.cells cs n)) a t z W):
 W.heap[w.heap.size]?=some (.cells cs n (0,0))/\W.cell? ⟨gf,g.length*6+4,none⟩=some v.vv/\gf<W.heap.size/\base<=W.heap.size/\
  ∀d:World,(W.alloc (.cells #[.iface t z] 256)).grownBy d v.vv.ownBlock->(∃u,d.cell? ⟨gf,g.length*6+4,none⟩=some u)/\d.frozen? ⟨gf,g.length*6+4,none⟩=false/\gf<d.heap.size:=by
 obtain⟨k,M,J,O,y,A,E⟩:=x;obtain⟨C,H,j,e,D,Q,o,b,m,L,I,P,K,p,N⟩:=y.top;obtain⟨rfl,B⟩:=bh_ e rfl;have G:H={ v with ov:=k }:=by simpa using B.symm
 subst G;have i:=aD b;have s:gf<w.heap.size:=h.lt gf (by simp[aF])
 have l:v.vv.ownBlock≠some gf:=fun e=>by
  have:=(aK_.1 (aK_.1 h.nodup).2).1;exact this (by simp[aT,FVal.owns,e])
 refine⟨by rw[E _ (by omega)];exact aM _ _ rfl _,aA b p,i,aF_ q (aF_ (by simp) A.size),fun d r=>?_⟩
 have c:d.heap[gf]?=some (.cells j 195 (0,0)):=by
  rw[r.block gf (by simp;omega) (fun e=>l e.symm),aA_ _ _ _ i];exact b
 exact⟨⟨_,aA c p⟩,aE c,aD c⟩
def VL(d:Nat)(h:cT fp F base w sb gf cap t0 tv outv s0 fvs ⟨below++[f],tape,out⟩)(u:below.length<=15)(b:base<=w.heap.size)(ac:f.ops.length<=99000)(G:∃vs a,f.ops=vs++[a])(D:d<=f.vars.length)(af:f.vars.length<=90001):
 Calls prog 403 #[.agg #[.int .i64 d],.pointer (some ⟨sb,0,none⟩)] w (nY fp F base sb t0 s0 (aF sb gf outv fvs) w below tape out (aL (.declare d) f)):=by
 obtain⟨vs,a,O⟩:=G;have hM:=h.mid b (.cells #[.int .i64 d] 443);obtain⟨m,v,J,rfl,P, -⟩:=h.top;have h0:=h.grow ((ay_ _ w).alloc (au_ _) (.cells #[.int .i64 d] 443)) (fun _ h=>h) (fun _ h=>av_ h)
 have M:=hM.topS u;rw[<-P] at M;obtain⟨ae,v0,J,e, -,hv,ab,p,aa,k0,k1,k2,k3,k4,k5⟩:=h0.top;obtain⟨rfl,e2⟩:=bh_ e rfl;cases e2
 have HP:Hid (∀W,aQ (w.alloc (.cells #[.int .i64 d] 443)) W->Calls prog 171 #[.pointer (some ⟨gf,m.length*6,none⟩)] W fun e n=>∃t z,e=.returned (.iface t z)/\xH fp F base sb gf cap t0 tv outv s0 m v below f tape out (w.alloc (.cells #[.int .i64 d] 443)) a t z n):=fun W hS=>by
  refine((h0.grow hS.below (fun _ h=>h) (fun _ h=>av_ h)).popR O (by omega)).mono ?_
  rintro e n ⟨t,z,s,he,h1,x,h3,h4,h5,h6⟩;exact⟨t,z,he,s,h3,h1,x,h4,(Kept.of_below (own:=aF sb gf outv (m++[v])) hS.below).trans h5 fun _ h=>av_ h,fun k hk=>by rw[h6 k hk,hS.heap]⟩
 obtain⟨⟨Q,A,B⟩,V⟩:=hv.vars
 have X:v.vv.ownBlock≠some gf:=fun e=>by
  have:=(aK_.1 (aK_.1 h.nodup).2).1;exact this (by simp[aT,FVal.owns,e])
 have o:fT F (w.alloc (.cells #[.int .i64 d] 443)) (Q.take d) (f.vars.take d):=by
  have hh:=B;rw[<-a5_ d f.vars] at hh;obtain⟨ys,zs,rfl,l1,l2,j,r2⟩:=hh.split;rw[bc_,Nat.min_eq_left D] at l1;rw[<-l1,List.take_left,l1];exact j
 rcases A.2 with ⟨j,r2⟩|⟨g,c,K,j,N,y,E,U,S,Z⟩
 ·obtain rfl:d=0:=by omega
  refine(GC w _ sb gf (m.length*6) base (fun n=>Done fp F base sb t0 s0 (aF sb gf outv (m++[v])) w ⟨below++[(aL (.declare 0) f).1],tape,out⟩ n) (xH fp F base sb gf cap t0 tv outv s0 m v below f tape out (w.alloc (.cells #[.int .i64 0] 443)) a) [] rfl M (by rw[<-j];exact aA p k4) HP (fun W t z i=>?_) (fun W t z i=>World.ownsRow_nil _ _ _ _) (fun W t z i=>?_) (fun W t z i=>?_)).mono ?_
  ·obtain⟨C,Y,I,q4,q5⟩:=xH.reads h b i;exact⟨aA C rfl,aD C,by rw[Y,j],I,q4⟩
  ·have:=(xH.reads h b i).2.2.2.2;rw[j] at this;exact this
  ·intro T l w5 H L q;exact xH.fin h rfl i D (by simpa using o) (iS O) T l w5 none (by rw[j];rfl) H L q
  ·rintro e n ⟨rfl,x⟩;exact nY.ok rfl x
 ·refine(GB w _ sb gf (m.length*6) base d g f.vars.length c D E (by omega) (fun n=>Done fp F base sb t0 s0 (aF sb gf outv (m++[v])) w ⟨below++[(aL (.declare d) f).1],tape,out⟩ n) (xH fp F base sb gf cap t0 tv outv s0 m v below f tape out (w.alloc (.cells #[.int .i64 d] 443)) a) (Q.take d) rfl (by omega) M (by rw[<-j];exact aA p k4) HP (fun W t z i=>?_) (fun W t z i=>?_) (fun W t z i=>?_) (fun W t z i=>?_)).mono ?_
  ·obtain⟨C,Y,I,q4,q5⟩:=xH.reads h b i;exact⟨aA C rfl,aD C,by rw[Y,j],I,q4⟩
  ·obtain⟨s,_,_,_,_,_,h6⟩:=i;have r:W.heap[g]?=_:=(h6 g (fun e=>X (by rw[j,e];rfl))).trans y
   have ad:Q.length=f.vars.length:=B.1;refine⟨by rw[bc_];omega,as_ ⟨g,c,K,rfl,N,r,by omega,U,S,?_⟩⟩
   have:=congrArg (List.take d) Z;rw[bO_,show min d (f.vars.length*1)=d by omega] at this
   rw[b4_];exact this
  ·have:=(xH.reads h b i).2.2.2.2;rw[j] at this;exact this
  ·intro T l w5 H L q;exact xH.fin h rfl i D o (iS O) T l w5 (some g) (by rw[j];rfl) H L q
  ·rintro e n ⟨rfl,x⟩;exact nY.ok rfl x
end
def NX(w a:World)(sb:Nat)(x:Option Addr)(c:Nat)(d:w.alloc (.cells #[] 440)=a)(f:a.cell? ⟨sb,2,none⟩=some (.slice x 0 c)):
 Calls prog 401 #[.agg #[],.pointer (some ⟨sb,0,none⟩)] w fun e b=>e=fH 7/\b=a:=by
 go_enter func401,ntmps401;go_wp2_with fail;exact⟨rfl,rfl,rfl⟩
def NW(w b:World)(sb r t g o n c:Nat)(i:Int)(P k:World->Prop)(E:w.alloc (.cells #[] 440)=b)(K:n+1<=c)(_hnn:n<=17592186044416)
 (y:Hid (∀W,aQ b W->Calls prog 158 #[.pointer (some ⟨sb,0,none⟩)] W fun e d=>e=.returned (.pointer (some ⟨r,t,none⟩))/\aQ b d))
 (p:b.cell? ⟨sb,2,none⟩=some (.slice (some ⟨g,o,none⟩) (n+1) c)) (m:b.cell? ⟨g,o,none⟩=some (.int .i64 i))
 (x:Hid (∀W,aQ b W->Calls prog 371 #[.pointer (some ⟨r,t,none⟩),.iface 315 (.int .i64 i)] W fun e d=>e=.returned (.tuple #[])/\k d))
 (v:Hid (∀W,k W->W.cell? ⟨sb,2,none⟩=some (.slice (some ⟨g,o,none⟩) (n+1) c)/\W.frozen? ⟨sb,2,none⟩=false/\sb<W.heap.size))
 (s:Hid (∀W f q,k W->(n=0\/(f=o+1/\q=c-1))->P (W.setCell ⟨sb,2,none⟩ (.slice (some ⟨g,f,none⟩) n q)))):
 Calls prog 401 #[.agg #[],.pointer (some ⟨sb,0,none⟩)] w fun e d=>e=.returned (.tuple #[])/\P d:=by
 have h:=aB p;have l:=aB m;have I:=p;have J:=m;have B:((n:Int)+1=0)=False:=by simp;omega
 have L:(1:Int)<=(n:Int)+1:=by omega
 have H:(n:Int)+1<=(c:Int):=by omega
 have M:(0:Int)<(n:Int)+1:=by omega
 clear p m;go_enter func401,ntmps401;go_wp2_with fail;go_region_law (first|(go_simp;go_at_call 158;refine(y.out _ (by first|assumption|exact aQ.drew _)).mono ?_;rintro e A ⟨rfl,a⟩;have G:=bB a.heap h.out;have C:=bB a.heap l.out)|(go_simp;go_at_call 371;refine(x.out _ a).mono ?_;rintro e z ⟨rfl,j⟩;have u:=v.out _ j;obtain⟨D,N,F⟩:=u))
 all_goals
  go_wp2_with fail
  all_goals
   go_end0;first|exact⟨rfl,s.out _ _ _ j (as_ ⟨rfl,rfl⟩)⟩|exact⟨rfl,s.out _ _ _ j (av_ (by omega))⟩
section
variable {fp:Nat->Value} {F:Nat->Prop} {base:Nat} {w:World} {sb gf cap:Nat} {t0 tv outv s0:Value} {fvs:List FVal} {below:List aI} {f:aI} {tape:List Int} {out:List (List UInt8)}
def cT.setTape{m:cF}{c:Value}{d:List Int}(h:cT fp F base w sb gf cap t0 tv outv s0 fvs m)(o:rH F w c d):
 cT fp F base (w.setCell ⟨sb,2,none⟩ c) sb gf cap t0 c outv s0 fvs ⟨m.frames,d,m.out⟩/\Kept (aF sb gf outv fvs) w (w.setCell ⟨sb,2,none⟩ c):=by
 have g:∀k,k≠sb->(w.setCell ⟨sb,2,none⟩ c).heap[k]?=w.heap[k]?:=fun k g=>ax_ _ _ _ _ g
 have j:=(aK_.1 h.nodup).1;have i:∀b,F b->(w.setCell ⟨sb,2,none⟩ c).heap[b]?=w.heap[b]?:=fun b p=>g b fun e=>(h.apart b p).2 (by simp[aF,e])
 have f:∀k,k∈gf::(outv.ownBlock.toList++aT fvs)->(w.setCell ⟨sb,2,none⟩ c).heap[k]?=w.heap[k]?:=fun k l=>g k fun e=>j (by rw[<-e];exact l)
 refine⟨⟨?_,aY h.row fun k a=>?_,h.frs.keep i (fun _ h=>h) fun v n k a=>f k ?_,o.keep i fun _ h=>h,aY h.out fun k a=>f k (by simp[a]),h.nodup,fun k a=>az_ (h.lt k a) (by simp),fun k a=>⟨az_ (h.apart k a).1 (by simp),(h.apart k a).2⟩⟩,⟨rfl,rfl,rfl,by simp,fun k _ q=>g k fun e=>q (by simp[aF,e])⟩⟩
 ·rw[aS h.blk];rfl
 ·cases a;exact f gf (by simp)
 ·have:k∈aT fvs:=bt_.2 ⟨v,n,a⟩;simp[this]
def v8(fp:Nat->Value)(F:Nat->Prop)(base sb:Nat)(t0 s0:Value)(own:List Nat)(w:World)(r:cF × Nat)(e:Ending)(w':World):Prop:=
 v7 r.2 e/\Done fp F base sb t0 s0 own w r.1 w'
def Mid.tapes{own:List Nat}{j:World}{G:Nat->Prop}{n:Nat}{m:cF}(h:Mid fp base sb gf n t0 s0 own j G m w):∃e,rH G w e m.tape/\w.cell? ⟨sb,2,none⟩=some e/\w.frozen? ⟨sb,2,none⟩=false/\sb<w.heap.size/\
 ∀b a,rH G w b a->Mid fp base sb gf n t0 s0 own j G ⟨m.frames,a,m.out⟩ (w.setCell ⟨sb,2,none⟩ b):=by
 obtain⟨q,l,f,e,d,g,r,c,i⟩:=h;refine⟨e,c.tape,aA c.blk rfl,aE c.blk,aD c.blk,fun b a o=>?_⟩
 obtain⟨p,k⟩:=c.setTape o;exact⟨q.trans k i,aF_ l k.size,f,b,d,g,r,p,i⟩
def Mid.pushK{own:List Nat}{O:World}{G:Nat->Prop}{n:Nat}(h:Mid fp base sb gf n t0 s0 own O G ⟨below++[f],tape,out⟩ w){t:TypeId}{z:Value}{a:aJ}(Z:PV G w (.iface t z) a)(u:aK a<=200)(L:f.ops.length<=100000):Calls prog 371 #[.pointer (some ⟨gf,n*6,none⟩),.iface t z] w fun e r=>e=.returned (.tuple #[])/\Mid fp base sb gf n t0 s0 own O G ⟨below++[f.push a],tape,out⟩ r/\r.heap[sb]?=w.heap[sb]?/\∀k,G k->r.heap[k]?=w.heap[k]?:=by
 obtain⟨M,K,C,S,b,aa,d,c,p⟩:=h;obtain⟨l,v,i,rfl,X,hv,q,g,N,k0,k1,k2,k3,k4,U⟩:=c.top;have I:l.length=n:=by simpa using d
 subst I;obtain⟨⟨Y,m,y⟩,D⟩:=hv.ops;have F:=aK_.1 (aK_.1 c.nodup).2;have A:v.ov.ownBlock≠some gf:=fun e=>F.1 (by simp[aT,FVal.owns,e])
 have x:v.ov.ownBlock≠some sb:=fun e=>(aK_.1 c.nodup).1 (by simp[aT,FVal.owns,e])
 have E:sb≠gf:=fun e=>(aK_.1 c.nodup).1 (by simp[e])
 refine(wT base gf (l.length*6) f.ops.length i v.ov Y t z w g U m A K (by omega)).mono ?_
 rintro e r ⟨he,j,W,Q,J,s⟩;obtain⟨T,P⟩:=c.pushed (cur:=i) g y Z u W Q J s;refine⟨he,⟨M.trans P p,aF_ K P.size,C,S,b,_,by simp,T,fun k o=>?_⟩,s.block sb (aD q) E (fun e=>x e.symm),fun k B=>s.block k (c.apart k B).1 (fun e=>(c.apart k B).2 (by simp[aF,e])) fun e=>(c.apart k B).2 (by simp[aF,aT,FVal.owns,<-e])⟩
 have e1:aF sb gf b (l++[{ v with ov:=j }])=(sb::gf::(b.ownBlock.toList++aT l))++({ v with ov:=j }:FVal).owns:=by simp[aF,aT]
 have V:aF sb gf b (l++[v])=(sb::gf::(b.ownBlock.toList++aT l))++v.owns:=by simp[aF,aT]
 rw[e1] at o;rw[V] at p;rcases aE_.1 o with d|d
 ·exact p k (aP_ _ d)
 ·rcases aE_.1 d with d|d
  ·exact p k (aL_ _ (aP_ _ d))
  ·have c:j.ownBlock=some k:=by simpa using d
   rcases J k c with H|H
   ·exact p k (aL_ _ (by simp[FVal.owns,H]))
   ·exact as_ (aF_ M.size H)
def U2(v:List dY)(h:cT fp F base w sb gf cap t0 tv outv s0 fvs ⟨below++[f],tape,out⟩)(p:below.length<=15)(b:base<=w.heap.size)(I:f.ops.length<=99000)(B:tape.length<=17592186044416):
 Calls prog 401 #[.agg #[],.pointer (some ⟨sb,0,none⟩)] w (v8 fp F base sb t0 s0 (aF sb gf outv fvs) w (Hs.doI v .read below f tape out)):=by
 have s:=h.mid b (.cells #[] 440);obtain⟨A,J,u,Y,N,L⟩:=s.tapes;cases tape with
 |nil=>
  have V:∃x c,A=.slice x 0 c:=by
   rcases J with ⟨_,d⟩|⟨g,o,c,d,_⟩
   ·exact d
   ·exact⟨_,_,d⟩
  obtain⟨x,c,rfl⟩:=V;refine(NX w _ sb x c rfl u).mono ?_;rintro e n ⟨rfl,rfl⟩;exact⟨as_ ⟨show (7:Nat)≠0 by decide,rfl⟩,s.done (Ext.refl _ _)⟩
 |cons i l=>
  rcases J with ⟨O,_⟩|⟨g,o,c,rfl,M,q,a⟩
  ·cases O
  have E:=a 0 (by simp)
  simp only[aB_] at u M B
  refine(NW w _ sb gf (below.length*6) g o l.length c i (fun n=>Done fp F base sb t0 s0 (aF sb gf outv fvs) w ⟨below++[f.push (bC i)],l,out⟩ n)
   (fun W=>Mid fp base sb gf below.length t0 s0 (aF sb gf outv fvs) (w.alloc (.cells #[] 440)) F ⟨below++[f.push (bC i)],i::l,out⟩ W/\W.cell? ⟨sb,2,none⟩=some (.slice (some ⟨g,o,none⟩) (l.length+1) c)/\∀k,F k->W.heap[k]?=(w.alloc (.cells #[] 440)).heap[k]?) rfl M (by omega) (s.topS p) u E.1 (fun W H=>?_) (fun W t=>?_) (fun W U Z t C=>?_)).mono ?_
  ·refine((s.same H).pushK (PV.num F W i E.2.1 E.2.2) (by rw[kA];omega) (by omega)).mono ?_
   rintro e n ⟨X,d,r,D⟩;refine⟨X,d,?_,fun k P=>by rw[D k P,H.heap]⟩
   have G:n.cell? ⟨sb,2,none⟩=W.cell? ⟨sb,2,none⟩:=World.cell?_of_block r;rw[G];exact bB H.heap u
  ·obtain⟨y,_,q2,Q,T,_⟩:=t.1.tapes;exact⟨t.2.1,Q,T⟩
  ·obtain⟨d,r,D⟩:=t;obtain⟨y,_,_,_,_,S⟩:=d.tapes;refine(S _ l ?_).done (Ext.refl _ _);by_cases K:l=[]
   ·subst K;exact av_ ⟨rfl,_,_,rfl⟩
   ·have z:l.length≠0:=fun e=>K (aN_ e)
    rcases C with C|⟨rfl,rfl⟩
    ·exact absurd C z
    ·refine as_ ⟨g,o+1,c-1,rfl,by omega,q,fun j hj=>?_⟩
     have m:=a (j+1) (by simp;omega)
     simp only[List.getElem_cons_succ] at m;refine⟨?_,m.2⟩;have G:W.cell? ⟨g,o+1+j,none⟩=(w.alloc (.cells #[] 440)).cell? ⟨g,o+1+j,none⟩:=World.cell?_of_block (D g q);rw[G,show o+1+j=o+(j+1) by omega];exact m.1
  ·rintro e n ⟨rfl,r⟩;exact⟨av_ ⟨rfl,rfl⟩,r⟩
end
def PO(w c:World)(sb g j gf a:Nat)(P:World->Prop)(Q:TypeId->Value->World->Prop)(h:w.alloc (.cells #[] 363)=c)(i:1<=a)
 (p:Hid (∀W,aQ c W->Calls prog 158 #[.pointer (some ⟨sb,0,none⟩)] W fun e b=>e=.returned (.pointer (some ⟨g,j,none⟩))/\aQ c b))
 (o:Hid (∀W,aQ c W->Calls prog 171 #[.pointer (some ⟨g,j,none⟩)] W fun e b=>∃t z,e=.returned (.iface t z)/\Q t z b))
 (k:Hid (∀W t z,Q t z W->W.cell? ⟨sb,1,none⟩=some (.slice (some ⟨gf,0,none⟩) 1 a)/\W.frozen? ⟨sb,1,none⟩=false/\sb<W.heap.size))
 (l:Hid (∀W t z,Q t z W->P (W.drew.setCell ⟨sb,1,none⟩ (.slice (some ⟨gf,0,none⟩) 0 a)))):
 Calls prog 372 #[.agg #[],.pointer (some ⟨sb,0,none⟩)] w fun e b=>e=.returned (.tuple #[])/\P b:=by
 have n:=aB h;have u:(0:Int)<=(a:Int):=by omega
 clear h;go_enter func372,ntmps372;go_wp2_with fail;rw[n.out];refine(p.out _ (aQ.refl _)).mono ?_;rintro e q ⟨rfl,f⟩;go_wp2_with fail;refine(o.out _ f).mono ?_;rintro e x ⟨t,z,rfl,d⟩;obtain⟨r,v,s⟩:=k.out _ _ _ d;have m:=aB (l.out _ _ _ d);clear d;go_wp2_with fail;go_region
 all_goals
  go_wp2_with fail;go_end0;exact⟨rfl,m.out⟩
def PM(w c:World)(sb i o gf b n h k:Nat)(P:World->Prop)(Q m:TypeId->Value->World->Prop)(j:w.alloc (.cells #[] 363)=c)(l:n+2<=b)(H:n<=1000)
 (y:Hid (∀W,aQ c W->Calls prog 158 #[.pointer (some ⟨sb,0,none⟩)] W fun e a=>e=.returned (.pointer (some ⟨i,o,none⟩))/\aQ c a))
 (x:Hid (∀W,aQ c W->Calls prog 171 #[.pointer (some ⟨i,o,none⟩)] W fun e a=>∃t z,e=.returned (.iface t z)/\Q t z a))
 (p:Hid (∀W t z,Q t z W->W.cell? ⟨sb,1,none⟩=some (.slice (some ⟨gf,0,none⟩) (n+2) b)/\W.frozen? ⟨sb,1,none⟩=false/\sb<W.heap.size))
 (g:Hid (∀W t z,Q t z W->Calls prog 158 #[.pointer (some ⟨sb,0,none⟩)] (W.drew.setCell ⟨sb,1,none⟩ (.slice (some ⟨gf,0,none⟩) (n+1) b)) fun e a=>e=.returned (.pointer (some ⟨h,k,none⟩))/\m t z a))
 (u:Hid (∀W t z,m t z W->Calls prog 371 #[.pointer (some ⟨h,k,none⟩),.iface t z] W fun e a=>e=.returned (.tuple #[])/\P a)):
 Calls prog 372 #[.agg #[],.pointer (some ⟨sb,0,none⟩)] w fun e a=>e=.returned (.tuple #[])/\P a:=by
 have v:=aB j;have I:(0:Int)<=(n:Int)+1:=by omega
 have F:(n:Int)+1<=(b:Int):=by omega
 have J:(0:Int)<(n:Int)+1:=by omega
 have K:(n:Int)+2-1=(n:Int)+1:=by omega
 clear j;go_enter func372,ntmps372;go_wp2_with fail;rw[v.out];refine(y.out _ (aQ.refl _)).mono ?_;rintro e B ⟨rfl,f⟩;go_wp2_with fail;refine(x.out _ f).mono ?_;rintro e L ⟨t,z,rfl,d⟩;obtain⟨C,G,E⟩:=p.out _ _ _ d;have s:=aB (g.out _ _ _ d);clear d;go_wp2_with fail;go_region
 all_goals
  go_wp2_with fail;refine s.out.mono ?_;rintro e D ⟨rfl,q⟩;go_wp2_with fail;refine(u.out _ _ _ q).mono ?_;rintro e A ⟨rfl,r⟩;go_wp2_with fail;go_end0;exact⟨rfl,r⟩
section
variable {fp:Nat->Value} {F:Nat->Prop} {base:Nat} {w:World} {sb gf cap:Nat} {t0 tv outv s0:Value} {fvs:List FVal} {below:List aI} {f:aI} {tape:List Int} {out:List (List UInt8)}
def cT.dropTop{a:List FVal}{v:FVal}(h:cT fp F base w sb gf cap t0 tv outv s0 (a++[v]) ⟨below++[f],tape,out⟩):
 cT fp F base (w.setCell ⟨sb,1,none⟩ (.slice (some ⟨gf,0,none⟩) a.length cap)) sb gf cap t0 tv outv s0 a ⟨below,tape,out⟩/\Kept (aF sb gf outv (a++[v])) w (w.setCell ⟨sb,1,none⟩ (.slice (some ⟨gf,0,none⟩) a.length cap)):=by
 generalize H:Value.slice (some ⟨gf,0,none⟩) a.length cap=V;have m:∀k,k≠sb->(w.setCell ⟨sb,1,none⟩ V).heap[k]?=w.heap[k]?:=fun k m=>ax_ _ _ _ _ m
 have r:=(aK_.1 h.nodup).1;have d:aT (a++[v])=aT a++v.owns:=by simp[aT]
 have g:∀k,k∈aF sb gf outv a->k∈aF sb gf outv (a++[v]):=fun k l=>by
  unfold aF at l ⊢
  rw[d];simp only[aG_,aE_] at l ⊢
  rcases l with i|i|i|i
  ·exact av_ i
  ·exact as_ (av_ i)
  ·exact as_ (as_ (av_ i))
  ·exact as_ (as_ (as_ (av_ i)))
 have n:∀b,F b->(w.setCell ⟨sb,1,none⟩ V).heap[b]?=w.heap[b]?:=fun b x=>m b fun e=>(h.apart b x).2 (by simp[aF,e])
 have j:∀k,k∈gf::(outv.ownBlock.toList++aT (a++[v]))->(w.setCell ⟨sb,1,none⟩ V).heap[k]?=w.heap[k]?:=fun k l=>m k fun e=>r (by rw[<-e];exact l)
 obtain⟨D,M,e,o,L⟩:=iR.unsnoc h.frs;obtain⟨rfl,K⟩:=bh_ e rfl;refine⟨⟨?_,?_,o.keep n (fun _ h=>h) fun u B k c=>j k ?_,h.tape.keep n fun _ h=>h,aY h.out fun k c=>j k (by simp[c]),?_,fun k c=>az_ (h.lt k (g k c)) (by simp),fun k c=>⟨az_ (h.apart k c).1 (by simp),fun l=>(h.apart k c).2 (g k l)⟩⟩,⟨rfl,rfl,rfl,by simp,fun k _ C=>m k fun e=>C (by simp[aF,e])⟩⟩
 ·rw[aS h.blk,<-H];rfl
 ·rcases h.row.2 with ⟨p,_⟩|⟨J,I,q,p,E,t,z,A,y,s⟩
  ·cases p
  ·cases p;rw[aw_] at z s;refine⟨by rw[dZ],as_ ⟨gf,cap,q,rfl,E,?_,by omega,A,y,?_⟩⟩
   ·rw[j gf (by simp)];exact t
   ·have:=congrArg (List.take (a.length*6)) s;rw[bO_,show min (a.length*6) ((a.length+[v].length)*6)=a.length*6 by simp,jL] at this
    rw[this,List.take_left' (by rw[dZ])]
 ·have:k∈aT a:=bt_.2 ⟨u,B,c⟩;rw[d];simp[this]
 ·have G:aF sb gf outv (a++[v])=aF sb gf outv a++v.owns:=by simp[aF,d]
  have:=h.nodup;rw[G] at this;exact(be_.1 this).1
def xW(sb gf:Nat)(a:Value)(b:List FVal)(v:FVal):∀k,k∈aF sb gf a b->k∈aF sb gf a (b++[v]):=fun k c=>by
 have d:aF sb gf a (b++[v])=aF sb gf a b++v.owns:=by simp[aF,aT]
 rw[d];exact aP_ _ c
def j4(fp:Nat->Value)(F:Nat->Prop)(base sb gf cap:Nat)(t0 tv outv s0:Value)(fb:List FVal)(v:FVal)(below:List aI)(f:aI)(tape:List Int)(out:List (List UInt8))(w0:World)(a:aJ)(t:TypeId)(z:Value)(W:World):Prop:=
 PV F W (.iface t z) a/\aK a<=200/\∃v',v'.owns=v.owns/\cT fp F base W sb gf cap t0 tv outv s0 (fb++[v']) ⟨below++[f.pop],tape,out⟩/\Kept (aF sb gf outv (fb++[v])) w0 W
def j4.gone{b:List FVal}{v:FVal}{d W:World}{a:aJ}{t:TypeId}{z:Value}(m:j4 fp F base sb gf cap t0 tv outv s0 b v below f tape out d a t z W):
 PV F (W.drew.setCell ⟨sb,1,none⟩ (.slice (some ⟨gf,0,none⟩) b.length cap)) (.iface t z) a/\cT fp F base (W.drew.setCell ⟨sb,1,none⟩ (.slice (some ⟨gf,0,none⟩) b.length cap)) sb gf cap t0 tv outv s0 b ⟨below,tape,out⟩/\Kept (aF sb gf outv (b++[v])) d (W.drew.setCell ⟨sb,1,none⟩ (.slice (some ⟨gf,0,none⟩) b.length cap)):=by
 obtain⟨o,s,j,q,c,p⟩:=m;have i:=c.grow (aQ.drew W).below (fun _ h=>h) (fun _ h=>av_ h)
 obtain⟨n,g⟩:=i.dropTop;have e:aF sb gf outv (b++[j])=aF sb gf outv (b++[v]):=by simp[aF,aT,q]
 rw[e] at g;refine⟨(o.keep (w':=W.drew) fun _ _=>rfl).keep fun k l=>ax_ _ _ _ _ fun e=>(c.apart k l).2 (by simp[aF,e]),n,(p.trans (Kept.of_below (own:=[]) (aQ.drew W).below) (fun x r=>by simp at r)).trans g fun _ h=>av_ h⟩
def Y7(s:List dY)(h:cT fp F base w sb gf cap t0 tv outv s0 fvs ⟨below++[f],tape,out⟩)(o:below.length<=15)(l:base<=w.heap.size)(I:f.ops.length<=99000)(D:∃J a,f.ops=J++[a])(H:∀g∈below,g.ops.length<=99000):
 Calls prog 372 #[.agg #[],.pointer (some ⟨sb,0,none⟩)] w (v8 fp F base sb t0 s0 (aF sb gf outv fvs) w (Hs.doI s .give below f tape out)):=by
 obtain⟨J,a,M⟩:=D;have T:=h.mid l (.cells #[] 363);obtain⟨b,v,Y,rfl,r, -, -, -,n, -⟩:=h.top;have q:Below w.heap.size w (w.alloc (.cells #[] 363)):=(ay_ _ w).alloc (au_ _) _;have U:=h.grow q (fun _ h=>h) (fun _ h=>av_ h)
 have G:=T.topS o;rw[<-r] at G
 have P:Hid (∀W,aQ (w.alloc (.cells #[] 363)) W->Calls prog 171 #[.pointer (some ⟨gf,b.length*6,none⟩)] W fun e m=>∃t z,e=.returned (.iface t z)/\j4 fp F base sb gf cap t0 tv outv s0 b v below f tape out (w.alloc (.cells #[] 363)) a t z m):=fun W O=>by
  refine((U.grow O.below (fun _ h=>h) (fun _ h=>av_ h)).popR M (by omega)).mono ?_
  rintro e m ⟨t,z,aa,B,V,u,h3,x,X,h6⟩;exact⟨t,z,B,V,u,_,by simp[FVal.owns,h3],x,(Kept.of_below (own:=aF sb gf outv (b++[v])) O.below).trans X fun _ h=>av_ h⟩
 have K:∀W t z,j4 fp F base sb gf cap t0 tv outv s0 b v below f tape out (w.alloc (.cells #[] 363)) a t z W->W.cell? ⟨sb,1,none⟩=some (.slice (some ⟨gf,0,none⟩) (b.length+1) cap)/\W.frozen? ⟨sb,1,none⟩=false/\sb<W.heap.size:=fun W t z i=>by
  obtain⟨_,_,S,_,x,_⟩:=i;have c:=x.blk;rw[show (b++[S]).length=b.length+1 by simp] at c
  exact⟨aA c rfl,aE c,aD c⟩
 rcases bo_ below with rfl|⟨j,g,A⟩
 ·obtain rfl:b=[]:=aN_ r;refine(PO w _ sb gf 0 gf cap (fun m=>Done fp F base sb t0 s0 (aF sb gf outv ([]++[v])) w ⟨[],tape,out⟩ m) _ rfl (by simpa using n) G P K fun W t z i=>?_).mono ?_
  ·obtain⟨_,C,y⟩:=i.gone;exact⟨(Kept.of_below q).trans y fun _ h=>av_ h,F,gf,cap,tv,outv,[],Ext.refl _ _,C,fun k E=>av_ (xW sb gf outv [] v k E)⟩
  ·rintro e m ⟨rfl,u⟩;exact⟨av_ ⟨rfl,rfl⟩,u⟩
 ·rw[bp_] at A;subst A;have d:b.length=j.length+1:=by simpa using r
  have Q:j.length<=14:=by simp at o;omega
  rw[d] at n;have Z:Hs.doI s .give (j++[g]) f tape out=(⟨j++[g.push a],tape,out⟩,0):=by simp[Hs.doI,iS M]
  rw[Z];refine(PM w _ sb gf (b.length*6) gf cap j.length gf (j.length*6) (fun m=>Done fp F base sb t0 s0 (aF sb gf outv (b++[v])) w ⟨j++[g.push a],tape,out⟩ m) _ (fun t z W=>PV F W (.iface t z) a/\aK a<=200/\Mid fp base sb gf j.length t0 s0 (aF sb gf outv (b++[v])) (w.alloc (.cells #[] 363)) F ⟨j++[g],tape,out⟩ W) rfl (by omega) (by omega) G P (fun W t z i=>?_) (fun W t z i=>?_) (fun W t z i=>?_)).mono ?_
  ·have:=K W t z i;rw[d] at this;exact this
  ·obtain⟨L,C,y⟩:=i.gone;rw[d] at L C y;have p:Mid fp base sb gf j.length t0 s0 (aF sb gf outv (b++[v])) (w.alloc (.cells #[] 363)) F ⟨j++[g],tape,out⟩ _:=⟨y,aF_ l (aF_ q.size y.size),cap,tv,outv,b,d,C,fun k E=>av_ (xW sb gf outv b v k E)⟩
   refine(p.top (by omega)).mono ?_
   rintro e m ⟨B,N⟩;exact⟨B,L.keep (fun _ _=>by rw[N.heap]),i.2.1,p.same N⟩
  ·refine(i.2.2.push i.1 i.2.1 (by have:=H g (by simp);omega)).mono ?_
   rintro e m ⟨B,x⟩;exact⟨B,x.done (Ext.refl _ _)⟩
  ·rintro e m ⟨rfl,u⟩;exact⟨av_ ⟨rfl,rfl⟩,u⟩
end
def RJ(w j:World)(sb n o gf m f:Nat)(b:Option Addr)(S:World->Prop)(Q:Option Addr->Nat->World->Prop)(l:w.alloc (.cells #[.pointer b,.int .i64 f] 442)=j)
 (v:Hid (∀W,aQ j W->Calls prog 158 #[.pointer (some ⟨sb,0,none⟩)] W fun e g=>e=.returned (.pointer (some ⟨n,o,none⟩))/\aQ j g))
 (u:Hid (∀W,aQ j W->Calls prog 377 #[.pointer (some ⟨n,o,none⟩),.int .i64 f] W fun e g=>∃x d,e=.returned (.slice x f d)/\Q x d g))
 (r:Hid (∀W x d,Q x d W->W.cell? ⟨sb,1,none⟩=some (.slice (some ⟨gf,0,none⟩) 16 m)/\S W)):
 Calls prog 402 #[.agg #[.pointer b,.int .i64 f],.pointer (some ⟨sb,0,none⟩)] w fun e g=>e=fH 5/\S g:=by
 have a:(w.alloc (.cells #[.pointer b,.int .i64 f] 442)).heap[w.heap.size]?=some (.cells #[.pointer b,.int .i64 f] 442 (0,0)):=aM _ _ rfl _;rw[l] at a;have s:=aB l;have h:=aB (aA (i:=1) a rfl);have C:=h.out;have k:=aD a;clear l a;go_enter func402,ntmps402;go_wp2_with fail;rw[s.out];go_region_law (go_simp;first|(go_at_call 158;refine(v.out _ (aQ.drew _)).mono ?_;rintro e y ⟨rfl,c⟩;have B:=bB c.heap h.out;have z:=gM c.heap k)|(go_at_call 377;refine(u.out _ c).mono ?_;rintro e D ⟨x,d,rfl,p⟩;have q:=r.out _ _ _ p;obtain⟨A,t⟩:=q))
 all_goals
  go_wp2_with fail;exact⟨rfl,rfl,t⟩
def IN:(prog.info? 195).map (fun i=>(i.zero,i.size,i.bytes))=some (some (.agg #[.pointer none,.int .i64 0,.int .i64 0,.pointer none,.slice none 0 0,.slice none 0 0]),6,80):=by kernel_rfl
def TQ(w:World)(b c d e a f:Value):∀j u,([b,c,d,e,a,f]:List Value)[j]?=some u->(w.alloc (.cells #[b,c,d,e,a,f] 195)).cell? ((⟨w.heap.size,0,none⟩:Addr).add j)=some u:=by
 intro j u g;exact World.news_of_block (cs:= #[b,c,d,e,a,f]) (aM _ _ rfl _) j u g
def ZB(x y:Option Addr)(c d:Nat):∀u∈([.pointer x,.int .i64 0,.int .i64 0,.pointer none,.slice y c d,.slice none 0 0]:List Value),u.oneCell'=true:=by
 intro u a;simp at a;rcases a with rfl|rfl|rfl|rfl|rfl<;>rfl
def RI(w t:World)(sb D E gf k h base n:Nat)(a:Option Addr)(P:World->Prop)(Q:Option Addr->Nat->List Value->World->Prop)(z:w.alloc (.cells #[.pointer a,.int .i64 h] 442)=t)(hn:n<=15)
 (T:Hid (∀W,aQ t W->Calls prog 158 #[.pointer (some ⟨sb,0,none⟩)] W fun e o=>e=.returned (.pointer (some ⟨D,E,none⟩))/\aQ t o))
 (S:Hid (∀W,aQ t W->Calls prog 377 #[.pointer (some ⟨D,E,none⟩),.int .i64 h] W fun e o=>∃x d f,e=.returned (.slice x h d)/\Q x d f o))
 (G:Hid (∀W x d f,Q x d f W->W.cell? ⟨sb,1,none⟩=some (.slice (some ⟨gf,0,none⟩) n k)/\W.cell? ⟨w.heap.size,0,none⟩=some (.pointer a)/\w.heap.size<W.heap.size/\sb<W.heap.size/\base<=W.heap.size))
 (K:Hid (∀W x d f,Q x d f W->W.drew.ownsRow base 195 6 (.slice (some ⟨gf,0,none⟩) n k) n f))
 (F:Hid (∀W x d f,Q x d f W->∀j:World,(W.drew.alloc (.cells #[.pointer a,.int .i64 0,.int .i64 0,.pointer none,.slice x h d,.slice none 0 0] 195)).grownBy j (some gf)->(∃u,j.cell? ⟨sb,1,none⟩=some u)/\j.frozen? ⟨sb,1,none⟩=false/\sb<j.heap.size))
 (L:Hid (∀W x d f,Q x d f W->∀q g (j:World),j.ownsRow base 195 6 (.slice (some ⟨q,0,none⟩) (n+1) g) (n+1) (f++[.pointer a,.int .i64 0,.int .i64 0,.pointer none,.slice x h d,.slice none 0 0])->(W.drew.alloc (.cells #[.pointer a,.int .i64 0,.int .i64 0,.pointer none,.slice x h d,.slice none 0 0] 195)).grownBy j (some gf)->(some gf=some q\/q=W.heap.size+1)->P (j.setCell ⟨sb,1,none⟩ (.slice (some ⟨q,0,none⟩) (n+1) g)))):
 Calls prog 402 #[.agg #[.pointer a,.int .i64 h],.pointer (some ⟨sb,0,none⟩)] w fun e o=>e=.returned (.tuple #[])/\P o:=by
 obtain⟨J,M,y,A,B⟩:=info_parts IN;have b:(w.alloc (.cells #[.pointer a,.int .i64 h] 442)).heap[w.heap.size]?=some (.cells #[.pointer a,.int .i64 h] 442 (0,0)):=aM _ _ rfl _;rw[z] at b;have N:=aB z;have r:=aB (aA (i:=1) b rfl);have c0:=r.out;have v:=aD b;have V:((n:Int)==16)=false:=by simp;omega
 clear z b;go_enter func402,ntmps402;go_wp2_with fail;rw[N.out];go_region_law (go_simp;first|(go_at_call 158;refine(T.out _ (aQ.drew _)).mono ?_;rintro e U ⟨rfl,l⟩;have d1:=bB l.heap r.out;have X:=gM l.heap v)|(go_at_call 377;refine(S.out _ l).mono ?_;rintro e C ⟨x,d,f,rfl,s⟩;have H:=G.out _ _ _ _ s;obtain⟨Y,y2,y3,y4,y5⟩:=H))
 all_goals
  go_wp2_with fail;go_region_law (refine step_append_lies _ (by rfl) _ _ 106 (by rfl) base 195 J _ 6 80 underlying106 M y A B rfl (by decide) (.slice (some ⟨gf,0,none⟩) n k) n f (by rfl) ((K.out _ _ _ _ s).alloc _) ⟨C.heap.size,0,none⟩ 1 1 [.pointer a,.int .i64 0,.int .i64 0,.pointer none,.slice x h d,.slice none 0 0] (by rfl) (by rfl) (TQ C.drew _ _ _ _ _ _) (ZB _ _ _ _) (by decide) (by unfold maxLen;omega) (by omega) (by simp;omega) (C.heap.size+1) (by simp) ?_;intro q g j m c p O;have I:=F.out _ _ _ _ s j c;obtain⟨⟨u5,z1⟩,Z,z3⟩:=I)
  all_goals
   go_wp2_with fail;go_end0;exact⟨rfl,L.out _ _ _ _ s _ _ _ m c p⟩
def KR{w:World}{b i:Nat}{e:TypeId}{a:Nat}{v:Value}{n:Nat}{xs:List Value}(h:w.ownsRow i e a v n xs)(o:b<=i):w.ownsRow b e a v n xs:=by
 rcases h with ⟨f,l|⟨g,c,d,m,j,k⟩⟩
 ·exact⟨f,av_ l⟩
 ·exact⟨f,as_ ⟨g,c,d,m,aF_ o j,k⟩⟩
section
variable {fp:Nat->Value} {F:Nat->Prop} {base:Nat} {w:World} {sb gf cap:Nat} {t0 tv outv s0:Value} {fvs:List FVal} {below:List aI} {f:aI} {tape:List Int} {out:List (List UInt8)}
def cT.called{m:cF}{fn:dY}{us:List aJ}{T:List Value}{x i:Option Addr}{d n g B:Nat}{p:World}(h:cT fp F base w sb gf cap t0 tv outv s0 fvs m)(W:F6 fp F w (.pointer i) fn)(hB:base<=B)(j:∀k∈aF sb gf outv fvs,k<B)(X:∀k,F k->k<B)
 (A:w.ownsRow B 256 1 (.slice x us.length d) us.length T) (U:fT F w T us) (S:∀a∈us,aK a<=200)
 (r:p.ownsRow base 195 6 (.slice (some ⟨n,0,none⟩) (fvs.length+1) g) (fvs.length+1) (fV fvs++[.pointer i,.int .i64 0,.int .i64 0,.pointer none,.slice x us.length d,.slice none 0 0]))
 (H:(w.drew.alloc (.cells #[.pointer i,.int .i64 0,.int .i64 0,.pointer none,.slice x us.length d,.slice none 0 0] 195)).grownBy p (some gf)) (y:some gf=some n\/n=w.heap.size+1):
 cT fp F base (p.setCell ⟨sb,1,none⟩ (.slice (some ⟨n,0,none⟩) (fvs.length+1) g)) sb n g t0 tv outv s0 (fvs++[⟨.pointer i,.int .i64 0,.int .i64 0,.pointer none,.slice x us.length d,.slice none 0 0⟩]) ⟨m.frames++[⟨fn,0,0,[],us,[]⟩],m.tape,m.out⟩/\
  Kept (aF sb gf outv fvs) w (p.setCell ⟨sb,1,none⟩ (.slice (some ⟨n,0,none⟩) (fvs.length+1) g)):=by
 generalize O:Value.slice (some ⟨n,0,none⟩) (fvs.length+1) g=V at*;have q:=aK_.1 h.nodup;have D:=aK_.1 q.2;have K:sb≠gf:=fun e=>q.1 (by simp[e])
 have P:=aD h.blk
 have L:n≠sb:=by
  rcases y with e|e
  ·cases e;exact fun e=>K e.symm
  ·omega
 have Y:n<p.heap.size:=by
  subst O;exact cK r n rfl
 have I:∀k,k<w.heap.size->k≠gf->p.heap[k]?=w.heap[k]?:=fun k z E=>by
  rw[H.block k (by simp;omega) (fun e=>E (by cases e;rfl)),aA_ _ _ _ (by exact z)];rfl
 have M:∀k,k<w.heap.size->k≠gf->k≠sb->(p.setCell ⟨sb,1,none⟩ V).heap[k]?=w.heap[k]?:=fun k z E h3=>by
  rw[ax_ _ _ _ _ h3,I k z E]
 have t:∀b,F b->(p.setCell ⟨sb,1,none⟩ V).heap[b]?=w.heap[b]?:=fun b G=>M b (h.apart b G).1 (fun e=>(h.apart b G).2 (by simp[aF,e])) (fun e=>(h.apart b G).2 (by simp[aF,e]))
 have J:∀k,k∈outv.ownBlock.toList++aT fvs->(p.setCell ⟨sb,1,none⟩ V).heap[k]?=w.heap[k]?:=fun k c=>M k (h.lt k (by unfold aF;exact aJ_ _ (aJ_ _ c))) (fun e=>D.1 (by rw[<-e];exact c)) (fun e=>q.1 (by rw[<-e];exact aJ_ _ c))
 have Q:w.heap.size<=(p.setCell ⟨sb,1,none⟩ V).heap.size:=aF_ (by simp) (aF_ H.size (by simp))
 have o:∀k,(Value.slice x us.length d).ownBlock=some k->B<=k/\k<w.heap.size:=fun k e=>⟨cC A k e,cK A k e⟩
 have l:∀k,(Value.slice x us.length d).ownBlock=some k->k≠gf/\k≠sb:=fun k e=>by
  have z:=j gf (by simp[aF])
  have E:=j sb (by simp[aF])
  have:=(o k e).1;omega
 have C:(⟨.pointer i,.int .i64 0,.int .i64 0,.pointer none,.slice x us.length d,.slice none 0 0⟩:FVal).owns=(Value.slice x us.length d).ownBlock.toList:=by simp[FVal.owns,show (Value.slice none 0 0).ownBlock=none from rfl]
 have s:aF sb n outv (fvs++[⟨.pointer i,.int .i64 0,.int .i64 0,.pointer none,.slice x us.length d,.slice none 0 0⟩])=sb::n::((outv.ownBlock.toList++aT fvs)++(Value.slice x us.length d).ownBlock.toList):=by simp[aF,aT,C]
 have u:(fvs++[(⟨.pointer i,.int .i64 0,.int .i64 0,.pointer none,.slice x us.length d,.slice none 0 0⟩:FVal)]).length=fvs.length+1:=by simp
 refine⟨⟨?_,?_,?_,h.tape.keep t fun _ h=>h,aY h.out fun k f=>J k (by simp[f]),?_,?_,?_⟩,?_⟩
 ·rw[u,aS (show p.heap[sb]?=_ from (I sb P K).trans h.blk),O];rfl
 ·rw[u,jL,O];subst O;exact aY r fun k f=>ax_ _ _ _ _ (by cases f;exact L)
 ·refine(h.frs.keep t (fun _ h=>h) fun v hv k f=>J k (aL_ _ (bt_.2 ⟨v,hv,f⟩))).snoc ⟨W.keep t fun _ h=>h,rfl,rfl,rfl,⟨⟨T,?_,U.keep t⟩,S⟩,⟨⟨[],World.ownsRow_nil _ _ _ _,fT.nil _ _⟩,fun _ h=>by simp at h⟩⟩
  exact aY (KR A hB) fun k e=>M k (o k e).2 (l k e).1 (l k e).2
 ·rw[s];refine aK_.2 ⟨?_,aK_.2 ⟨?_,be_.2 ⟨D.2,by cases (Value.slice x us.length d).ownBlock<;>simp,?_⟩⟩⟩
  ·intro c;simp only[aG_,aE_] at c;rcases c with e|(e|e)|e
   ·exact L e.symm
   ·exact q.1 (by simp[e])
   ·exact q.1 (by simp[e])
   ·exact(l sb (by simpa using e)).2 rfl
  ·intro c;rcases y with e|e
   ·cases e;rcases aE_.1 c with c|c
    ·exact D.1 c
    ·exact(l gf (by simpa using c)).1 rfl
   ·rcases aE_.1 c with c|c
    ·have:=h.lt n (by unfold aF;exact aJ_ _ (aJ_ _ c));omega
    ·have:=(o n (by simpa using c)).2;omega
  ·intro a ha b G e;subst e;have z:=j a (by unfold aF;exact aJ_ _ (aJ_ _ ha))
   have E:=(o a (by simpa using G)).1
   omega
 ·intro k c;rw[s] at c;have h5:p.heap.size<=(p.setCell ⟨sb,1,none⟩ V).heap.size:=by simp
  simp only[aG_,aE_] at c;rcases c with e|e|(e|e)|e
  ·rw[e];omega
  ·rw[e];omega
  ·have:=h.lt k (by simp[aF,e]);omega
  ·have:=h.lt k (by simp[aF,e]);omega
  ·have:=(o k (by simpa using e)).2;omega
 ·intro k f;obtain⟨a1,N⟩:=h.apart k f;refine⟨by omega,fun c=>?_⟩
  rw[s] at c;simp only[aG_,aE_] at c;rcases c with e|e|(e|e)|e
  ·exact N (by simp[aF,e])
  ·rcases y with Z|Z
   ·cases Z;exact N (by simp[aF,e])
   ·omega
  ·exact N (by simp[aF,e])
  ·exact N (by simp[aF,e])
  ·have:=(o k (by simpa using e)).1;have:=X k f;omega
 ·exact⟨H.os.trans rfl,H.tape.trans rfl,H.output.trans rfl,Q,fun k z hn=>M k z (fun e=>hn (by simp[aF,e])) (fun e=>hn (by simp[aF,e]))⟩
def ClQ(fp:Nat->Value)(F:Nat->Prop)(base sb gf cap:Nat)(t0 tv outv s0:Value)(fvs:List FVal)(below:List aI)(f:aI)(tape:List Int)(out:List (List UInt8))(w0:World)(us:List aJ)(x:Option Addr)(d:Nat)(xs:List Value)(W:World):Prop:=
 ∃fvs' ys,xs=fV fvs'/\Kept (aF sb gf outv fvs) w0 W/\aF sb gf outv fvs'=aF sb gf outv fvs/\fvs'.length=fvs.length/\cT fp F base W sb gf cap t0 tv outv s0 fvs' ⟨below++[f.popMany us.length],tape,out⟩/\
  W.ownsRow w0.heap.size 256 1 (.slice x us.length d) us.length ys/\fT F W ys us/\(∀a∈us,aK a<=200)/\∀k,F k->W.heap[k]?=w0.heap[k]?
def d9(v:List dY)(k:Nat)(Y:dY)(vs us:List aJ)(h:cT fp F base w sb gf cap t0 tv outv s0 fvs ⟨below++[f],tape,out⟩)(A:below.length<=15)(E:base<=w.heap.size)(ad:f.ops.length<=99000)(hf:f.ops=vs++us)(Q:lA fp F w v)(hk:v[k]?=some Y):
 Calls prog 402 #[.agg #[fp k,.int .i64 us.length],.pointer (some ⟨sb,0,none⟩)] w (v8 fp F base sb t0 s0 (aF sb gf outv fvs) w (Hs.doI v (.call k us.length) below f tape out)):=by
 have I:=Q k Y hk;have H:∃q,fp k=.pointer q:=by obtain⟨fb,gc,cp,af,e,_⟩:=I;exact⟨_,e⟩
 obtain⟨g,H⟩:=H;rw[H] at I ⊢
 have hM:=h.mid E (.cells #[.pointer g,.int .i64 us.length] 442);have G:Below w.heap.size w (w.alloc (.cells #[.pointer g,.int .i64 us.length] 442)):=(ay_ _ w).alloc (au_ _) _;have h0:=h.grow G (fun _ h=>h) (fun _ h=>av_ h)
 have P:fvs.length=below.length+1:=by rw[h.count];simp
 have C:(w.alloc (.cells #[.pointer g,.int .i64 us.length] 442)).heap[w.heap.size]?=some (.cells #[.pointer g,.int .i64 us.length] 442 (0,0)):=aM _ _ rfl _;have hm:f.many us.length=us:=by simp[aI.many,hf]
 have hr:Hs.doI v (.call k us.length) below f tape out=if below.length+1=16 then (⟨below++[f.popMany us.length],tape,out⟩,5) else (⟨(below++[f.popMany us.length])++[⟨Y,0,0,[],us,[]⟩],tape,out⟩,0):=by
  simp[Hs.doI,hm,hk]
 rw[hr];have Z:w.heap.size<(w.alloc (.cells #[.pointer g,.int .i64 us.length] 442)).heap.size:=aD C;generalize V:w.alloc (.cells #[.pointer g,.int .i64 us.length] 442)=D at*
 have HP:∀W,aQ D W->Calls prog 377 #[.pointer (some ⟨gf,below.length*6,none⟩),.int .i64 us.length] W fun e z=>∃x d t,e=.returned (.slice x us.length d)/\ClQ fp F base sb gf cap t0 tv outv s0 fvs below f tape out D us x d t z:=fun W O=>by
  refine((h0.grow O.below (fun _ h=>h) (fun _ h=>av_ h)).popMany hf (by omega)).mono ?_
  rintro e z ⟨v',N,c,he,o,s,u,l,y,M,K,L⟩;rw[O.heap] at y;obtain⟨x,d,rfl⟩:=cU y;exact⟨x,d,_,he,c,N,rfl,(Kept.of_below (own:=aF sb gf outv fvs) O.below).trans o fun _ h=>av_ h,s,u,l,y,M,K,fun j m=>by rw[L j m,O.heap]⟩
 have HK:∀{W W'},Kept (aF sb gf outv fvs) D W->Kept (aF sb gf outv fvs) W W'->Kept (aF sb gf outv fvs) w W':=fun a b=>((Kept.of_below (own:=aF sb gf outv fvs) G).trans a fun _ h=>av_ h).trans b fun _ h=>av_ h
 by_cases p:below.length+1=16
 ·rw[if_pos p];refine(RJ w D sb gf (below.length*6) gf cap us.length g (fun z=>Done fp F base sb t0 s0 (aF sb gf outv fvs) w ⟨below++[f.popMany us.length],tape,out⟩ z) (fun x d W=>∃t,ClQ fp F base sb gf cap t0 tv outv s0 fvs below f tape out D us x d t W) V (hM.topS A) (fun W O=>?_) (fun W x d r=>?_)).mono ?_
  ·refine(HP W O).mono ?_;rintro e z ⟨x,d,t,he,r⟩;exact⟨x,d,he,t,r⟩
  ·obtain⟨t,c,N,_,o,s,u,l,_⟩:=r;have i:=l.blk;rw[u,P,p] at i;exact⟨aA i rfl,HK o (Kept.refl _ _),F,gf,cap,tv,outv,c,Ext.refl _ _,l,fun j m=>av_ (by rw[<-s];exact m)⟩
  ·rintro e z ⟨rfl,h2⟩;exact⟨as_ ⟨show (5:Nat)≠0 by decide,rfl⟩,h2⟩
 ·rw[if_neg p];refine(RI w D sb gf (below.length*6) gf cap us.length base fvs.length g (fun z=>Done fp F base sb t0 s0 (aF sb gf outv fvs) w ⟨(below++[f.popMany us.length])++[⟨Y,0,0,[],us,[]⟩],tape,out⟩ z) (ClQ fp F base sb gf cap t0 tv outv s0 fvs below f tape out D us) V (by omega) (hM.topS A) HP (fun W x d t r=>?_) (fun W x d t r=>?_) (fun W x d t r=>?_) (fun W x d t r=>?_)).mono ?_
  ·obtain⟨c,N,_,o,s,u,l,y,M,K,L⟩:=r;have i:=l.blk;rw[u] at i;have S:W.heap[w.heap.size]?=_:=(o.block w.heap.size Z (fun hm=>Nat.lt_irrefl _ (h.lt _ hm))).trans C
   exact⟨aA i rfl,aA S rfl,aD S,aD i,by have:=o.size;omega⟩
  ·obtain⟨c,N,rfl,o,s,u,l,y,M,K,L⟩:=r;have:=l.row;rw[u] at this;exact aY this fun _ _=>rfl
  ·obtain⟨c,N,_,o,s,u,l,y,M,K,L⟩:=r;intro w5 hg;have aa:=aD l.blk;have ab:sb≠gf:=fun e=>(aK_.1 l.nodup).1 (by simp[e])
   have J:w5.heap[sb]?=_:=(hg.block sb (by simp;omega) (fun e=>ab (by cases e;rfl))).trans ((aA_ _ _ _ (by exact aa)).trans l.blk)
   exact⟨⟨_,aA J rfl⟩,aE J,aD J⟩
  ·obtain⟨c,N,rfl,o,s,u,l,y,M,K,L⟩:=r;intro g5 U w5 n hg X;rw[<-u] at n ⊢
   have ac:F6 fp F W (.pointer g) Y:=I.keep (fun b hb=>by rw[L b hb];exact G.block b (h.apart b hb).1) fun _ h=>h
   obtain⟨q1,q2⟩:=l.called (B:=D.heap.size) ac (by omega) (fun j m=>by rw[s] at m;exact h0.lt j m) (fun j m=>(h0.apart j m).1) y M K n hg X
   rw[s] at q2;refine⟨HK o q2,F,g5,U,tv,outv,_,Ext.refl _ _,q1,fun j m=>?_⟩
   have T:aF sb g5 outv (c++[⟨.pointer g,.int .i64 0,.int .i64 0,.pointer none,.slice x us.length d,.slice none 0 0⟩])=sb::g5::((outv.ownBlock.toList++aT c)++(Value.slice x us.length d).ownBlock.toList):=by simp[aF,aT,FVal.owns,show (Value.slice none 0 0).ownBlock=none from rfl]
   rw[T] at m;rw[<-s];have ae:=o.size;simp only[aG_,aE_] at m;rcases m with e|e|(e|e)|e
   ·exact av_ (by simp[aF,e])
   ·rcases X with e2|e2
    ·cases e2;exact av_ (by simp[aF,e])
    ·exact as_ (by omega)
   ·exact av_ (by simp[aF,e])
   ·exact av_ (by simp[aF,e])
   ·have:=cC y j (by simpa using e)
    exact as_ (by omega)
  ·rintro e z ⟨rfl,h2⟩;exact⟨av_ ⟨rfl,rfl⟩,h2⟩
end
def GN(w:World)(fa fj d m g n c:Nat)(W:World):Prop:=
 W.cell? ⟨w.heap.size,0,none⟩=some (.int .i64 d)/\W.cell? ⟨w.heap.size,1,none⟩=some (.int .i64 m)/\W.cell? ⟨fa,fj+4,none⟩=some (.slice (some ⟨g,0,none⟩) n c)
def GN.same{w W f:World}{b e d m g n c:Nat}(h:GN w b e d m g n c W)(a:aQ W f):GN w b e d m g n c f:=
 ⟨bB a.heap h.1,bB a.heap h.2.1,bB a.heap h.2.2⟩
def GJ(w J:World)(sb r s d m g n c k:Nat)(O:TypeId)(Z:Value)(ac:d<n)(P S:World->Prop)(Q:TypeId->Value->World->Prop)(R:TypeId->Value->Option Addr->Nat->World->Prop)(U:TypeId->Value->World->Prop)(hW:w.alloc (.cells #[.int .i64 d,.int .i64 m] 445)=J)
 (HT:Hid (∀W,aQ J W->Calls prog 158 #[.pointer (some ⟨sb,0,none⟩)] W fun e o=>e=.returned (.pointer (some ⟨r,s,none⟩))/\aQ J o))
 (HP:Hid (∀W,aQ J W->Calls prog 171 #[.pointer (some ⟨r,s,none⟩)] W fun e o=>∃t z,e=.returned (.iface t z)/\Q t z o))
 (HQ:Hid (∀W t z,Q t z W->GN w r s d m g n c W/\W.cell? ⟨g,d,none⟩=some (.iface O Z)))
 (HM:Hid (∀W W' t z,Q t z W->aQ W W'->Calls prog 377 #[.pointer (some ⟨r,s,none⟩),.int .i64 m] W' fun e o=>∃x y,e=.returned (.slice x m y)/\R t z x y o))
 (HR:Hid (∀W t z x y,R t z x y W->GN w r s d m g n c W/\W.cell? ⟨g,d,none⟩=some (.iface O Z)))
 (HV:Hid (∀W t z x y,R t z x y W->Calls prog 405 #[.iface O Z,.slice x m y,.iface t z] W fun e o=>(∃I H,e=.returned (.iface I H)/\U I H o)\/(e=fH k/\S o)))
 (HU:Hid (∀W t z,U t z W->GN w r s d m g n c W/\(∃u,W.cell? ⟨g,d,none⟩=some u)/\W.frozen? ⟨g,d,none⟩=false/\g<W.heap.size/\GN w r s d m g n c (W.setCell ⟨g,d,none⟩ (.iface t z))))
 (HN:Hid (∀W t z,U t z W->P (W.setCell ⟨g,d,none⟩ (.iface t z)))):
 Calls prog 404 #[.agg #[.int .i64 d,.int .i64 m],.pointer (some ⟨sb,0,none⟩)] w fun e o=>(e=.returned (.tuple #[])/\P o)\/(e=fH k/\S o):=by
 have HW:=aB hW;have e1:(0:Int)<=(d:Int):=by omega
 have e2:(d:Int)<(n:Int):=by omega
 clear hW;go_enter func404,ntmps404;go_wp2_with fail;rw[HW.out];refine(HT.out _ (aQ.refl _)).mono ?_;rintro e w1 ⟨rfl,T⟩;go_wp2_with fail;refine(HP.out _ T).mono ?_;rintro e L ⟨t,z,rfl,M⟩;have F:=aB M;have N:=HQ.out _ _ _ M;have G:=N.1.same (aQ.drew L);have ab:=bB (aQ.drew L).heap N.2;clear N M;go_wp2_with fail;refine wp_region_held_drew (S:=fun W=>W.cell? ⟨w.heap.size,0,none⟩=some (.int .i64 d)/\W.cell? ⟨w.heap.size,1,none⟩=some (.int .i64 m)/\W.cell? ⟨r,s+4,none⟩=some (.slice (some ⟨g,0,none⟩) n c)) (by kernel_rfl) G (fun a=>?_)
 (refine wpAnyH_take (i:=0) (v:=?_) rfl (by kernel_rfl) (by kernel_rfl) (by kernel_rfl) (fun _ _ _ h=>h) (av_ ⟨by rfl,?_⟩) a ?_;rotate_left;(intro w b;(try dsimp only at b);go_simp<;>with_reducible rfl))
 (refine wpAnyH_take (i:=1) (v:=?_) rfl (by kernel_rfl) (by kernel_rfl) (by kernel_rfl) (fun _ _ _ h=>h) (av_ ⟨by rfl,?_⟩) a ?_;rotate_left;(intro w b;(try dsimp only at b);go_simp<;>with_reducible rfl))
 (refine wpAnyH_take (i:=2) (v:=?_) rfl (by kernel_rfl) (by kernel_rfl) (by kernel_rfl) (fun _ _ _ h=>h) (av_ ⟨by rfl,?_⟩) a ?_;rotate_left;(intro w b;(try dsimp only at b);go_simp<;>with_reducible rfl))
 (refine wpAnyH_take (i:=4) (v:=?_) rfl (by kernel_rfl) (by kernel_rfl) (by kernel_rfl) (fun _ _ _ h=>h) (av_ ⟨by rfl,?_⟩) a ?_;rotate_left;(intro w b;(try dsimp only at b);go_simp<;>with_reducible rfl))
 (refine wpAnyH_take (i:=6) (v:=?_) rfl (by kernel_rfl) (by kernel_rfl) (by kernel_rfl) (fun _ _ _ h=>h) (av_ ⟨by rfl,?_⟩) a ?_;rotate_left;(intro w b;(try dsimp only at b);go_simp<;>with_reducible rfl))
 (refine wpAnyH_take (i:=7) (v:=?_) rfl (by kernel_rfl) (by kernel_rfl) (by kernel_rfl) (fun _ _ _ h=>h) (av_ ⟨by rfl,?_⟩) a ?_;rotate_left;(intro w b;(try dsimp only at b);go_simp<;>with_reducible rfl))
 (refine wpAnyH_take (i:=8) (v:=?_) rfl (by kernel_rfl) (by kernel_rfl) (by kernel_rfl) (fun _ _ _ h=>h) (av_ ⟨by rfl,?_⟩) a ?_;rotate_left;(intro w b;(try dsimp only at b);go_simp<;>with_reducible rfl))
 (refine wpAnyH_take (i:=10) (v:=?_) rfl (by kernel_rfl) (by kernel_rfl) (by kernel_rfl) (fun _ _ _ h=>h) (av_ ⟨by rfl,?_⟩) a ?_;rotate_left;(intro w b;(try dsimp only at b);go_simp<;>with_reducible rfl))
 (refine wpAnyH_take (i:=14) (v:=?_) rfl (by kernel_rfl) (by kernel_rfl) (by kernel_rfl) (fun _ _ _ h=>h) (av_ ⟨by rfl,?_⟩) a ?_;rotate_left;(intro w b;(try dsimp only at b);go_simp<;>with_reducible rfl))
 (refine wpAnyH_take (i:=15) (v:=?_) rfl (by kernel_rfl) (by kernel_rfl) (by kernel_rfl) (fun _ _ _ h=>h) (av_ ⟨by rfl,?_⟩) a ?_;rotate_left;(intro w b;(try dsimp only at b);go_simp<;>with_reducible rfl))
 (refine wpAnyH_take (i:=18) (v:=?_) rfl (by kernel_rfl) (by kernel_rfl) (by kernel_rfl) (fun _ _ _ h=>h) (av_ ⟨by rfl,?_⟩) a ?_;rotate_left;(intro w b;(try dsimp only at b);go_simp<;>with_reducible rfl))
 (refine wpAnyH_take (i:=3) (v:=?_) rfl (by kernel_rfl) (by kernel_rfl) (by kernel_rfl) (fun _ _ _ h=>h) (av_ ⟨by rfl,?_⟩) a ?_;rotate_left;(intro w b;(try dsimp only at b);go_simp<;>with_reducible rfl))
 (refine wpAnyH_take (i:=5) (v:=?_) rfl (by kernel_rfl) (by kernel_rfl) (by kernel_rfl) (fun _ _ _ h=>h) (av_ ⟨by rfl,?_⟩) a ?_;rotate_left;(intro w b;(try dsimp only at b);go_simp<;>with_reducible rfl))
 (refine wpAnyH_take (i:=9) (v:=?_) rfl (by kernel_rfl) (by kernel_rfl) (by kernel_rfl) (fun _ _ _ h=>h) (av_ ⟨by rfl,?_⟩) a ?_;rotate_left;(intro w b;(try dsimp only at b);go_simp<;>with_reducible rfl))
 (refine wpAnyH_take (i:=11) (v:=?_) rfl (by kernel_rfl) (by kernel_rfl) (by kernel_rfl) (fun _ _ _ h=>h) (av_ ⟨by rfl,?_⟩) a ?_;rotate_left;(intro w b;(try dsimp only at b);go_simp<;>with_reducible rfl))
 (refine wpAnyH_take (i:=12) (v:=?_) rfl (by kernel_rfl) (by kernel_rfl) (by kernel_rfl) (fun _ _ _ h=>h) (av_ ⟨by rfl,?_⟩) a ?_;rotate_left;(intro w b;(try dsimp only at b);go_simp<;>with_reducible rfl))
 (refine wpAnyH_take (i:=16) (v:=?_) rfl (by kernel_rfl) (by kernel_rfl) (by kernel_rfl) (fun _ _ _ h=>h) (av_ ⟨by rfl,?_⟩) a ?_;rotate_left;(intro w b;(try dsimp only at b);go_simp<;>with_reducible rfl))
 refine wpAnyH_ready (rs:=[13,17]) (by kernel_rfl) (by simp) ?_
 refine AllReadyH.cons rfl (fun K j=>?_) (AllReadyH.cons rfl (fun K j=>?_) AllReadyH.nil)
 ·go_simp;refine j.out _ _ G (fun a=>?_)
  clear j K;refine wpAnyH_ready (rs:=[17]) (by kernel_rfl) (by simp) ?_
  refine AllReadyH.cons rfl (fun K j=>?_) AllReadyH.nil
  go_simp;go_at_call 377
  refine(HM.out _ _ _ _ F.out (aQ.drew L)).mono ?_;rintro e w3 ⟨x,y,rfl,E⟩;have C:=aB E;have l:=HR.out _ _ _ _ _ E;have q:=l.1;have aa:=l.2;clear l E;go_wp2_with fail;refine j.out _ _ q (fun a=>?_)
  clear j K;refine wpAnyH_ready (rs:=[19]) (by kernel_rfl) (by simp) ?_
  refine AllReadyH.cons rfl (fun K j=>?_) AllReadyH.nil
  go_simp;go_at_call 405
  refine(HV.out _ _ _ _ _ C.out).mono ?_;rintro e w4 (⟨I,H,rfl,p⟩|⟨rfl,p⟩)
  rotate_left
  exact⟨rfl,as_ ⟨rfl,p⟩⟩;have B:=aB p;have f:=HU.out _ _ _ p;have D:=f.1;obtain⟨u4,V⟩:=f.2.1;have X:=f.2.2.1;have Y:=f.2.2.2.1;have A:=f.2.2.2.2;clear f p;go_wp2_with fail;refine j.out _ _ D (fun a=>?_)
  clear j K;refine wpAnyH_take (i:=20) (v:=?_) rfl (by kernel_rfl) (by kernel_rfl) (by kernel_rfl) (fun _ _ _ h=>h) (av_ ⟨by rfl,?_⟩) a ?_
  rotate_left
  ·intro w b;(try dsimp only at b);go_simp<;>with_reducible rfl
  refine wpAnyH_ready (rs:=[21]) (by kernel_rfl) (by simp) ?_
  refine AllReadyH.cons rfl (fun K j=>?_) AllReadyH.nil
  go_simp;refine j.out _ _ A (fun a=>?_)
  clear j K;refine wpAnyH_done (by kernel_rfl) ?_ _
  go_wp2_with fail;go_end0;exact av_ ⟨rfl,HN.out _ _ _ B.out⟩
 ·go_simp;go_at_call 377
  refine(HM.out _ _ _ _ F.out (aQ.drew L)).mono ?_;rintro e w3 ⟨x,y,rfl,E⟩;have C:=aB E;have l:=HR.out _ _ _ _ _ E;have q:=l.1;have aa:=l.2;clear l E;go_wp2_with fail;refine j.out _ _ q (fun a=>?_)
  clear j K;refine wpAnyH_ready (rs:=[13]) (by kernel_rfl) (by simp) ?_
  refine AllReadyH.cons rfl (fun K j=>?_) AllReadyH.nil
  go_simp;refine j.out _ _ q (fun a=>?_)
  clear j K;refine wpAnyH_ready (rs:=[19]) (by kernel_rfl) (by simp) ?_
  refine AllReadyH.cons rfl (fun K j=>?_) AllReadyH.nil
  go_simp;go_at_call 405
  refine(HV.out _ _ _ _ _ C.out).mono ?_;rintro e w4 (⟨I,H,rfl,p⟩|⟨rfl,p⟩)
  rotate_left
  exact⟨rfl,as_ ⟨rfl,p⟩⟩;have B:=aB p;have f:=HU.out _ _ _ p;have D:=f.1;obtain⟨u4,V⟩:=f.2.1;have X:=f.2.2.1;have Y:=f.2.2.2.1;have A:=f.2.2.2.2;clear f p;go_wp2_with fail;refine j.out _ _ D (fun a=>?_)
  clear j K;refine wpAnyH_take (i:=20) (v:=?_) rfl (by kernel_rfl) (by kernel_rfl) (by kernel_rfl) (fun _ _ _ h=>h) (av_ ⟨by rfl,?_⟩) a ?_
  rotate_left
  ·intro w b;(try dsimp only at b);go_simp<;>with_reducible rfl
  refine wpAnyH_ready (rs:=[21]) (by kernel_rfl) (by simp) ?_
  refine AllReadyH.cons rfl (fun K j=>?_) AllReadyH.nil
  go_simp;refine j.out _ _ A (fun a=>?_)
  clear j K;refine wpAnyH_done (by kernel_rfl) ?_ _
  go_wp2_with fail;go_end0;exact av_ ⟨rfl,HN.out _ _ _ B.out⟩
def j9.ofRow{F:Nat->Prop}{w:World}{base:Nat}{v:Value}{xs:List Value}{l:List aJ}(h:w.ownsRow base 256 1 v l.length xs)(n:fT F w xs l):j9 F w v l:=by
 rcases h.2 with ⟨a,d⟩|⟨g,c,m,a,d,b,f,q,p,j⟩
 ·exact av_ ⟨br_.1 d,none,0,by rw[a]⟩
 ·refine as_ ⟨g,0,c,a,f,aD b,fun i o=>?_⟩
  obtain⟨u,e,k⟩:=n.2 i o;refine⟨u,aA b ?_,k⟩;rw[<-j,aU_,if_pos (by omega)] at e
  simpa using e
section
variable {fp:Nat->Value} {F:Nat->Prop} {base:Nat} {w:World} {sb gf cap:Nat} {t0 tv outv s0:Value} {fvs:List FVal} {below:List aI} {f:aI} {tape:List Int} {out:List (List UInt8)}
def cT.popManyR{r:List FVal}{v:FVal}{vs us:List aJ}(h:cT fp F base w sb gf cap t0 tv outv s0 (r++[v]) ⟨below++[f],tape,out⟩)(K:f.ops=vs++us)(z:f.ops.length<=100000):
 Calls prog 377 #[.pointer (some ⟨gf,r.length*6,none⟩),.int .i64 us.length] w fun e u=>∃x y c,e=.returned (.slice x us.length y)/\c.ownBlock=v.ov.ownBlock/\j9 F u (.slice x us.length y) us/\(∀a∈us,aK a<=200)/\
  cT fp F base u sb gf cap t0 tv outv s0 (r++[{ v with ov:=c }]) ⟨below++[f.popMany us.length],tape,out⟩/\Kept (aF sb gf outv (r++[v])) w u/\∀k,k<w.heap.size->k≠gf->u.heap[k]?=w.heap[k]?:=by
 obtain⟨Z,v0,J,e,aa,Q,S,p,O,k0,k1,k2,k3,k4,X⟩:=h.top;obtain⟨rfl,Y⟩:=bh_ e rfl;cases Y;obtain⟨⟨xs,i,A⟩,g⟩:=Q.ops;rw[K] at i A g;obtain⟨s,P,rfl,M,H,I,t⟩:=A.split;rw[K,aw_] at z;rw[aw_] at i;refine(vB base gf (r.length*6) vs.length us.length J v.ov s P w p X i M H (oG t) (by omega)).mono ?_
 rintro e u ⟨T,c,D,he,q,L,rfl,U,C⟩;have n:(f.popMany us.length).ops=vs:=by simp[aI.popMany,K]
 have N:=h.grow q (fun _ h=>h) (fun _ h=>av_ h)
 have E:MI fp F base D { v with ov:=c } (f.popMany us.length):=by
  have m:∀b,F b->D.heap[b]?=w.heap[b]?:=fun b o=>q.block b (h.apart b o).1
  have B:∀k∈v.owns,k<w.heap.size:=fun k m=>h.lt k (by simp[aF,aT,m])
  have l:=Q.keep m (fun _ h=>h) fun k hm=>q.block k (B k hm)
  refine⟨l.fn,l.nx,l.ln,l.sp,l.vars,⟨s,?_,?_⟩,fun b o=>g b (aP_ _ (by rw[n] at o;exact o))⟩
  ·rw[n];exact aY U fun k e=>q.block k (B k (by rw[C] at e;simp[FVal.owns,e]))
  ·rw[n];exact I.keep m
 obtain⟨W,q2⟩:=N.setTop (j:=5) (x:=c) (v':={ v with ov:=c }) (by omega) rfl (by simp[FVal.owns,C]) E
 have V:gf<w.heap.size:=aD p
 have G:∀k,F k->(D.setCell ⟨gf,r.length*6+5,none⟩ c).heap[k]?=w.heap[k]?:=fun k m=>by
  rw[ax_ _ _ _ _ fun e=>(h.apart k m).2 (by simp[aF,e]),q.block k (h.apart k m).1]
 obtain⟨x,d,rfl⟩:=cU L;refine⟨x,d,c,he,C,j9.ofRow (base:=w.heap.size) (xs:=P) (aY L fun k m=>ax_ _ _ _ _ ?_) (t.keep G),fun a ha=>g a (aL_ _ ha),W,(Kept.of_below q).trans q2 fun x hx=>av_ hx,fun k m hn=>by rw[ax_ _ _ _ _ hn,q.block k m]⟩
 have:=cC L k m;show k≠gf
 omega
def cT.assigned{q:List FVal}{v:FVal}{g n c d:Nat}{u:Value}{a:aJ}(h:cT fp F base w sb gf cap t0 tv outv s0 (q++[v]) ⟨below++[f],tape,out⟩)(j:v.vv=.slice (some ⟨g,0,none⟩) n c)(Z:PV F w u a)(D:aK a<=200):
 cT fp F base (w.setCell ⟨g,d,none⟩ u) sb gf cap t0 tv outv s0 (q++[v]) ⟨below++[{ f with vars:=f.vars.set d a }],tape,out⟩/\Kept (aF sb gf outv (q++[v])) w (w.setCell ⟨g,d,none⟩ u):=by
 obtain⟨W,v0,V,e,X,y,M,K,J,k0,k1,k2,k3,k4,k5⟩:=h.top;obtain⟨rfl,T⟩:=bh_ e rfl;cases T;have A:v.vv.ownBlock=some g:=by rw[j];rfl
 have m:g∈v.owns:=by simp[FVal.owns,A]
 have s:∀k∈v.owns,k∈aF sb gf outv (q++[v]):=fun k i=>by simp[aF,aT,i]
 have I:gf∉v.owns:=fun C=>by
  have:=(aK_.1 (aK_.1 h.nodup).2).1;exact this (by simp[aT,C])
 have l:v.owns.Nodup:=by
  have x:=h.nodup;have:aF sb gf outv (q++[v])=(sb::gf::(outv.ownBlock.toList++aT q))++v.owns:=by simp[aF,aT]
  rw[this] at x;exact(be_.1 x).2.1
 have i:∀k,k≠g->(w.setCell ⟨g,d,none⟩ u).heap[k]?=w.heap[k]?:=fun k i=>ax_ _ _ _ _ i
 have o:∀b,F b->(w.setCell ⟨g,d,none⟩ u).heap[b]?=w.heap[b]?:=fun b E=>i b fun e=>(h.apart b E).2 (s b (by rw[e];exact m))
 have z:∀k,v.ov.ownBlock=some k->k≠g:=fun k i e=>by
  unfold FVal.owns at l;rw[i,A,e] at l;simp at l
 have r:=h.row;rw[show (q++[v]).length=q.length+1 by simp] at r
 obtain⟨⟨Y,p,H⟩,t⟩:=y.vars;refine⟨h.step (G:=F) (by simp) (fun k _ _ h3=>i k fun e=>h3 (by rw[e];exact m)) (aY r fun k e=>i k ?_) ?_ (fun k C=>⟨az_ (h.lt k (s k C)) (by simp),av_ C⟩) l (fun _ h=>h) (fun _ h=>av_ h),⟨rfl,rfl,rfl,by simp,fun k _ hn=>i k fun e=>hn (s k (by rw[e];exact m))⟩⟩
 ·cases e;exact fun e=>I (by have S:gf=g:=e;rw[S];exact m)
 ·refine⟨y.fn.keep o fun _ h=>h,y.nx,y.ln,eE.keep o (fun _ h=>h) y.sp,⟨⟨Y.set d u,?_,(fT.set H d Z).keep o⟩,fun b E=>?_⟩,y.ops.keep o (fun _ h=>h) fun k e=>i k (z k e)⟩
  ·rcases p.2 with ⟨B,L⟩|⟨g',c',aa,B,L,N,P,U,O,Q⟩
   ·rw[B] at j;cases j
   ·rw[j] at B;cases B;refine⟨by simp[p.1],as_ ⟨g,c,_,?_,L,aS N,by simpa using P,U,by simpa using O,?_⟩⟩
    ·show v.vv=_
     rw[j];simp
    ·show List.take ((f.vars.set d a).length*1) _=_
     rw[bB_,b6_,bx_,Q]
  ·rcases bZ_ E with x|x
   ·exact t b x
   ·rw[x];exact D
def rL(fp:Nat->Value)(F:Nat->Prop)(base sb gf cap:Nat)(t0 tv outv s0:Value)(fb:List FVal)(v:FVal)(below:List aI)(f:aI)(tape:List Int)(out:List (List UInt8))(w0:World)(W:World):Prop:=
 ∃ov',ov'.ownBlock=v.ov.ownBlock/\cT fp F base W sb gf cap t0 tv outv s0 (fb++[{ v with ov:=ov' }]) ⟨below++[f],tape,out⟩/\Kept (aF sb gf outv (fb++[v])) w0 W/\∀k,k<w0.heap.size->k≠gf->W.heap[k]?=w0.heap[k]?
def rL.grow{G:Nat->Prop}{i:List FVal}{v:FVal}{e W c:World}(h:rL fp F base sb gf cap t0 tv outv s0 i v below f tape out e W)(a:Below W.heap.size W c)(n:∀k,F k->G k)(o:∀k,G k->F k\/(W.heap.size<=k/\k<c.heap.size)):rL fp G base sb gf cap t0 tv outv s0 i v below f tape out e c:=by
 obtain⟨b,m,j,g,l⟩:=h;exact⟨b,m,j.grow a n o,g.trans (Kept.of_below (own:=[]) a) (fun x p=>by simp at p),fun k d q=>by rw[a.block k (az_ d g.size),l k d q]⟩
def rL.reads{l:List FVal}{v:FVal}{k W:World}{g n c d m:Nat}{x:Value}(h:rL fp F base sb gf cap t0 tv outv s0 l v below f tape out k W)(D:gf<w.heap.size)(b:k=w.alloc (.cells #[.int .i64 d,.int .i64 m] 445))(s:v.vv=.slice (some ⟨g,0,none⟩) n c)(N:g<w.heap.size)(j:g≠gf)(I:k.cell? ⟨g,d,none⟩=some x):
 GN w gf (l.length*6) d m g n c W/\W.cell? ⟨g,d,none⟩=some x/\∀u,GN w gf (l.length*6) d m g n c (W.setCell ⟨g,d,none⟩ u):=by
 obtain⟨r,Q,C,T,t⟩:=h;obtain⟨G,K,E,e,H,V,B,i,y,P,M,U,O,L,S⟩:=C.top;obtain⟨rfl,p⟩:=bh_ e rfl;have J:K={ v with ov:=r }:=by simpa using p.symm
 subst J
 have a:W.heap[w.heap.size]?=some (.cells #[.int .i64 d,.int .i64 m] 445 (0,0)):=by
  rw[t _ (by rw[b];simp) (by omega),b];exact aM _ _ rfl _
 have q:W.heap[g]?=k.heap[g]?:=t g (by rw[b];simp;omega) j
 have A:∀o:World,o.heap[w.heap.size]?=W.heap[w.heap.size]?->o.heap[gf]?=W.heap[gf]?->GN w gf (l.length*6) d m g n c o:=fun o z p=>by
  refine⟨aA (z.trans a) rfl,aA (z.trans a) rfl,aA (p.trans i) ?_⟩;rw[L,<-s]
 exact⟨A W rfl rfl,by rw[World.cell?_of_block q];exact I,fun u=>A _ (ax_ _ _ _ _ (by show w.heap.size≠g;omega)) (ax_ _ _ _ _ (fun e=>j e.symm))⟩
def rL.done{G:Nat->Prop}{a:List FVal}{v:FVal}{W:World}{b:Obj}{c:aI}(h:rL fp G base sb gf cap t0 tv outv s0 a v below c tape out (w.alloc b) W)(j:Ext F G w.heap.size):Done fp F base sb t0 s0 (aF sb gf outv (a++[v])) w ⟨below++[c],tape,out⟩ W:=by
 obtain⟨i,f,e,g,l⟩:=h;exact⟨(Kept.of_below (own:=aF sb gf outv (a++[v])) ((ay_ _ w).alloc (au_ _) b)).trans g fun _ h=>av_ h,G,gf,cap,tv,outv,_,j,e,fun k d=>av_ (by simpa [aF,aT,FVal.owns,f] using d)⟩
def F4(d:Nat)(vs us:List aJ)(b:aJ)(h:cT fp F base w sb gf cap t0 tv outv s0 fvs ⟨below++[f],tape,out⟩)(aa:below.length<=15)(O:base<=w.heap.size)(H:f.ops.length<=99000)(hf:f.ops=vs++us++[b])(hd:d<f.vars.length):
 Calls prog 404 #[.agg #[.int .i64 d,.int .i64 us.length],.pointer (some ⟨sb,0,none⟩)] w (nY fp F base sb t0 s0 (aF sb gf outv fvs) w below tape out (aL (.assign d us.length) f)):=by
 have hM:=h.mid O (.cells #[.int .i64 d,.int .i64 us.length] 445);obtain⟨o,v,al,rfl,am, -⟩:=h.top;have L:gf<w.heap.size:=h.lt gf (by simp[aF])
 have h0:=h.grow ((ay_ _ w).alloc (au_ _) (.cells #[.int .i64 d,.int .i64 us.length] 445)) (fun _ h=>h) (fun _ h=>av_ h)
 have hT:=hM.topS aa;rw[<-am] at hT;obtain⟨az,v0,al,e, -,hv,ad,ai,av,k0,k1,k2,k3,k4,k5⟩:=h0.top;obtain⟨rfl,e2⟩:=bh_ e rfl;cases e2;generalize m:w.alloc (.cells #[.int .i64 d,.int .i64 us.length] 445)=T at h0 hT hv ad ai;obtain⟨⟨xs,af,au⟩,Q⟩:=hv.vars
 have aq:v.vv.ownBlock≠some gf:=fun e=>by
  have:=(aK_.1 (aK_.1 h.nodup).2).1;exact this (by simp[aT,FVal.owns,e])
 obtain⟨u,ag,V⟩:=au.2 d hd;obtain⟨ta,za,rfl⟩:=V.form;have P:f.pop.ops=vs++us:=mF (by rw[hf])
 have M:f.pop.many us.length=us:=by simp[aI.many,P]
 have S:f.last=b:=iS (by rw[hf])
 have aw:vs.length+us.length+1<=99000:=by rw[hf] at H;simp at H;omega
 have ak:f.vars[d]?.getD bN=f.vars[d]:=by rw[aH_ hd];rfl
 obtain⟨r,hr⟩:∃r,r=nD f.vars[d] us b:=⟨_,rfl⟩
 have ae:aL (.assign d us.length) f=if r.2=0 then ({ f.pop.popMany us.length with vars:=f.vars.set d r.1 },0) else (f.pop.popMany us.length,r.2):=by
  simp only[aL,M,S,ak,<-hr]
 have ao:r.2=0->aK r.1<=200:=fun n=>by rw[hr] at n ⊢;exact PA _ n
 rw[ae];rcases af.2 with ⟨U,r2⟩|⟨g,c,ab,U,ay,J,ax,bb,ba,ar⟩
 ·omega
 have aj:v.vv.ownBlock=some g:=by rw[U];rfl
 have B:g≠gf:=fun e=>aq (by rw[aj,e])
 have N:g<w.heap.size:=h.lt g (by simp[aF,aT,FVal.owns,aj])
 have ap:ab[d]?=some (.iface ta za):=by
  rw[<-ar,aU_,if_pos (by omega)] at ag
  simpa using ag
 have Y:T.cell? ⟨g,d,none⟩=some (.iface ta za):=aA J ap
 have ac:∀{W:World} {f':aI},rL fp F base sb gf cap t0 tv outv s0 o v below f' tape out T W->∀k,F k->k<W.heap.size:=fun i k j=>by
  obtain⟨_,_,p,_⟩:=i;exact(p.apart k j).1
 have ah:∀{W:World} {f':aI},rL fp F base sb gf cap t0 tv outv s0 o v below f' tape out T W->PV F W (.iface ta za) f.vars[d]:=fun i=>by
  obtain⟨_,_,_,s,I⟩:=i;exact V.keep fun k j=>I k (by rw[<-m];exact az_ (h.apart k j).1 (by simp)) fun e=>(h.apart k j).2 (by simp[aF,e])
 refine(GJ w T sb gf (o.length*6) d us.length g f.vars.length c r.2 ta za hd
  (fun K=>r.2=0/\Done fp F base sb t0 s0 (aF sb gf outv (o++[v])) w ⟨below++[{ f.pop.popMany us.length with vars:=f.vars.set d r.1 }],tape,out⟩ K)
  (fun K=>r.2≠0/\Done fp F base sb t0 s0 (aF sb gf outv (o++[v])) w ⟨below++[f.pop.popMany us.length],tape,out⟩ K)
  (fun t z W=>(PV F W (.iface t z) b/\aK b<=200)/\rL fp F base sb gf cap t0 tv outv s0 o v below f.pop tape out T W)
  (fun t z x y W=>((PV F W (.iface t z) b/\aK b<=200)/\j9 F W (.slice x us.length y) us)/\rL fp F base sb gf cap t0 tv outv s0 o v below (f.pop.popMany us.length) tape out T W)
  (fun t z W=>r.2=0/\∃G,Ext F G w.heap.size/\PV G W (.iface t z) r.1/\rL fp G base sb gf cap t0 tv outv s0 o v below (f.pop.popMany us.length) tape out T W)
  m hT (fun W D=>?_) (fun W t z i=>?_) (fun W W' t z i D=>?_) (fun W t z x y i=>?_) (fun W t z x y i=>?_) (fun W t z i=>?_) (fun W t z i=>?_)).mono ?_
 ·refine((h0.grow D.below (fun _ h=>h) (fun _ h=>av_ h)).popR (vs:=vs++us) (a:=b) (by rw[hf]) (by omega)).mono ?_
  rintro e K ⟨t,z,q,he,n,p,s,I,h5,h6⟩;exact⟨t,z,he,⟨n,p⟩,q,s,I,(Kept.of_below (own:=aF sb gf outv (o++[v])) D.below).trans h5 fun _ h=>av_ h,fun k _ j=>by rw[h6 k j,D.heap]⟩
 ·obtain⟨_,i⟩:=i;obtain⟨C,A,_⟩:=i.reads L m.symm U N B Y;exact⟨C,A⟩
 ·obtain⟨⟨p1,p2⟩,q,n,p,s,I⟩:=i;refine((p.grow D.below (fun _ h=>h) (fun _ h=>av_ h)).popManyR (vs:=vs) (us:=us) P (by rw[P,aw_];omega)).mono ?_
  rintro e K ⟨x,y,an,he,C,A,q3,q4,q5,q6⟩;have l:aF sb gf outv (o++[{ v with ov:=q }])=aF sb gf outv (o++[v]):=by simp[aF,aT,FVal.owns,n]
  rw[l] at q5;have X:W.heap.size=W'.heap.size:=by rw[D.heap]
  refine⟨x,y,he,⟨⟨p1.keep fun k j=>?_,p2⟩,A⟩,an,by rw[C,n],q4,(s.trans (Kept.of_below (own:=[]) D.below) (fun x Y=>by simp at Y)).trans q5 fun _ h=>av_ h,fun k j hn=>by rw[q6 k (by rw[<-X];exact az_ j s.size) hn,D.heap,I k j hn]⟩
  rw[q6 k (by rw[<-X];exact(p.apart k j).1) (fun e=>(p.apart k j).2 (by simp[aF,e])),D.heap]
 ·obtain⟨_,i⟩:=i;obtain⟨C,A,_⟩:=i.reads L m.symm U N B Y;exact⟨C,A⟩
 ·obtain⟨⟨⟨p1,p2⟩,p3⟩,i⟩:=i;refine(OG F us _ _ _ f.vars[d] b W p3 (ah i) p1 (ac i) (aF_ (Q _ (aR_ hd)) (by omega)) (by omega) (by omega)).mono ?_
  rintro e K ⟨hb,⟨Z,u,rfl,e3⟩|⟨Z,e2⟩⟩
  ·rw[<-hr] at Z e3;obtain⟨t1,z1,rfl⟩:=e3.form;exact av_ ⟨t1,z1,rfl,Z,Grow F W K,⟨fun k j=>av_ j,fun k j=>j.imp_right fun n=>aF_ (by obtain⟨_,_,_,s,_⟩:=i;rw[<-m] at s;exact aF_ (by simp) s.size) n.1⟩,e3,i.grow hb (fun k j=>av_ j) (fun k j=>j)⟩
  ·rw[<-hr] at Z e2;subst m;exact as_ ⟨e2,Z,(i.grow hb (fun _ h=>h) (fun _ h=>av_ h)).done (Ext.refl _ _)⟩
 ·obtain⟨_,G,hG,_,i⟩:=i;obtain⟨C,A,q3⟩:=i.reads L m.symm U N B Y;obtain⟨_,_,_,_,I⟩:=i;have E:W.heap[g]?=some (.cells ab 256 (0,0)):=by rw[I g (by rw[<-m];simp;omega) B];exact J
  exact⟨C,⟨_,A⟩,aE E,aD E,q3 _⟩
 ·obtain⟨hz,G,hG,p1,q,n,p,s,I⟩:=i;obtain⟨C,A⟩:=p.assigned (d:=d) (a:=r.1) (u:=.iface t z) U p1 (ao hz);have l:aF sb gf outv (o++[{ v with ov:=q }])=aF sb gf outv (o++[v]):=by simp[aF,aT,FVal.owns,n]
  rw[l] at A;subst m;refine⟨hz,((Kept.of_below (own:=aF sb gf outv (o++[v])) ((ay_ _ w).alloc (au_ _) _)).trans s fun _ h=>av_ h).trans A fun _ h=>av_ h,G,gf,cap,tv,outv,_,hG,C,fun k j=>av_ (by rw[l] at j;exact j)⟩
 ·rintro e K (⟨rfl,n,p⟩|⟨rfl,n,p⟩)
  ·exact nY.ok (if_pos n) p
  ·exact nY.stop (if_neg n) n p
end
def KM(w l:World)(sb A C base n c:Nat)(x:Option Addr)(tx:List UInt8)(hn:n<50)(P:World->Prop)(Q:TypeId->Value->World->Prop)(R:World->Prop)(xs:List Value)(B:w.alloc (.cells #[] 448)=l)
 (U:Hid (∀W,aQ l W->Calls prog 158 #[.pointer (some ⟨sb,0,none⟩)] W fun e f=>e=.returned (.pointer (some ⟨A,C,none⟩))/\aQ l f))
 (T:Hid (∀W,aQ l W->Calls prog 171 #[.pointer (some ⟨A,C,none⟩)] W fun e f=>∃t z,e=.returned (.iface t z)/\Q t z f))
 (F:Hid (∀W t z,Q t z W->W.cell? ⟨sb,3,none⟩=some (.slice x n c)/\sb<W.heap.size))
 (O:Hid (∀W D t z,Q t z W->aQ W D->Calls prog 409 #[.iface t z] D fun e f=>e=.returned (.string (bs tx))/\R f))
 (H:Hid (∀W,R W->W.cell? ⟨sb,3,none⟩=some (.slice x n c)/\sb<W.heap.size/\base<=W.heap.size))
 (K:Hid (∀W,R W->W.ownsRow base 9 1 (.slice x n c) n xs))
 (G:Hid (∀W,R W->∀d:World,(W.alloc (.cells #[.string (bs tx)] 9)).grownBy d (Value.slice x n c).ownBlock->(∃u,d.cell? ⟨sb,3,none⟩=some u)/\d.frozen? ⟨sb,3,none⟩=false/\sb<d.heap.size))
 (L:Hid (∀W,R W->∀j b (d:World),d.ownsRow base 9 1 (.slice (some ⟨j,0,none⟩) (n+1) b) (n+1) (xs++[.string (bs tx)])->(W.alloc (.cells #[.string (bs tx)] 9)).grownBy d (Value.slice x n c).ownBlock->((Value.slice x n c).ownBlock=some j\/W.heap.size+1<=j)->P (d.setCell ⟨sb,3,none⟩ (.slice (some ⟨j,0,none⟩) (n+1) b)))):
 Calls prog 408 #[.agg #[],.pointer (some ⟨sb,0,none⟩)] w fun e f=>e=.returned (.tuple #[])/\P f:=by
 obtain⟨J,M,p,r,s⟩:=info_parts CW;have N:=aB B;have E:¬(n:Int)=50:=by omega
 clear B;go_enter func408,ntmps408;go_wp2_with fail;rw[N.out];refine(U.out _ (aQ.refl _)).mono ?_;rintro e V ⟨rfl,v⟩;go_wp2_with fail;refine(T.out _ v).mono ?_;rintro e w2 ⟨t,z,rfl,m⟩;obtain⟨c1,l1⟩:=F.out _ _ _ m;have q:=aB m;clear m;go_wp2_with fail;go_region_law (first|(go_simp;go_at_call 409;refine(O.out _ _ _ _ q.out (aQ.drew _)).mono ?_;rintro e o ⟨rfl,y⟩;have g:=aB y;have k:=H.out _ y;have X:=k.1;have b2:=k.2.1;have Y:=k.2.2;clear k y)|(refine step_append_lies _ (by rfl) _ _ 60 (by rfl) base 9 J _ 1 16 underlying60 M p r s rfl (by decide) (.slice x n c) n xs (by rfl) ((K.out _ g.out).alloc _) ⟨o.heap.size,0,none⟩ 1 1 [.string (bs tx)] (by rfl) (by rfl) (ID o _) (OL _) (by decide) (by unfold maxLen;omega) (by omega) (by simp;omega) (o.heap.size+1) (by simp) ?_;intro j b d h a i S;have I:=G.out _ g.out d a;obtain⟨⟨u5,Z⟩,y2,y3⟩:=I))
 all_goals
  go_wp2_with fail;go_end0;exact⟨rfl,L.out _ g.out _ _ _ h a (i.imp_right fun e=>Nat.le_of_eq e.symm)⟩
def KN(w b:World)(sb h j c:Nat)(x:Option Addr)(P:World->Prop)(Q:TypeId->Value->World->Prop)(i:w.alloc (.cells #[] 448)=b)
 (o:Hid (∀W,aQ b W->Calls prog 158 #[.pointer (some ⟨sb,0,none⟩)] W fun e a=>e=.returned (.pointer (some ⟨h,j,none⟩))/\aQ b a))
 (n:Hid (∀W,aQ b W->Calls prog 171 #[.pointer (some ⟨h,j,none⟩)] W fun e a=>∃t z,e=.returned (.iface t z)/\Q t z a))
 (k:Hid (∀W t z,Q t z W->W.cell? ⟨sb,3,none⟩=some (.slice x 50 c)/\sb<W.heap.size))
 (l:Hid (∀W t z,Q t z W->P W)):
 Calls prog 408 #[.agg #[],.pointer (some ⟨sb,0,none⟩)] w fun e a=>e=fH 8/\P a:=by
 have m:=aB i;clear i;go_enter func408,ntmps408;go_wp2_with fail;rw[m.out];refine(o.out _ (aQ.refl _)).mono ?_;rintro e p ⟨rfl,g⟩;go_wp2_with fail;refine(n.out _ g).mono ?_;rintro e s ⟨t,z,rfl,d⟩;obtain⟨q,r⟩:=k.out _ _ _ d;have f:=aB d;clear d;go_wp2_with fail;exact⟨rfl,rfl,l.out _ _ _ f.out⟩
def AB(own:List Nat)(w:World):Prop:=∀W,Kept own w W->kC W
def AB.step{own a:List Nat}{w w':World}(h:AB own w)(b:Kept own w w')(d:∀x∈a,x∈own\/w.heap.size<=x):AB a w':=fun W c=>h W (b.trans c d)
section
variable {fp:Nat->Value} {F:Nat->Prop} {base:Nat} {w:World} {sb gf cap:Nat} {t0 tv outv s0:Value} {fvs:List FVal} {below:List aI} {f:aI} {tape:List Int} {out:List (List UInt8)}
def cT.printed{m:cF}{j:World}{Q:Obj}{i d:Nat}{tx:List UInt8}(h:cT fp F base w sb gf cap t0 tv outv s0 fvs m)
 (J:j.ownsRow base 9 1 (.slice (some ⟨i,0,none⟩) (m.out.length+1) d) (m.out.length+1) (lV m.out++[.string (bs tx)])) (z:(w.alloc Q).grownBy j outv.ownBlock) (u:outv.ownBlock=some i\/w.heap.size+1<=i):
 cT fp F base (j.setCell ⟨sb,3,none⟩ (.slice (some ⟨i,0,none⟩) (m.out.length+1) d)) sb gf cap t0 tv (.slice (some ⟨i,0,none⟩) (m.out.length+1) d) s0 fvs ⟨m.frames,m.tape,m.out++[tx]⟩/\Kept (aF sb gf outv fvs) w (j.setCell ⟨sb,3,none⟩ (.slice (some ⟨i,0,none⟩) (m.out.length+1) d))/\
  ∀k∈aF sb gf (.slice (some ⟨i,0,none⟩) (m.out.length+1) d) fvs,k∈aF sb gf outv fvs\/w.heap.size<=k:=by
 obtain⟨I,O⟩:=aK_.1 h.nodup;obtain⟨K,N⟩:=aK_.1 O;obtain⟨Z,T,U⟩:=be_.1 N
 have L:∀k,k<w.heap.size->some k≠outv.ownBlock->j.heap[k]?=w.heap[k]?:=fun k x l=>by
  rw[z.block k (by simp;omega) l,aA_ _ _ _ x]
 have p:∀k,k<w.heap.size->some k≠outv.ownBlock->k≠sb->(j.setCell ⟨sb,3,none⟩ (.slice (some ⟨i,0,none⟩) (m.out.length+1) d)).heap[k]?=w.heap[k]?:=fun k x l V=>by
  rw[ax_ _ _ _ _ V,L k x l]
 have t:sb<w.heap.size:=h.lt sb (by simp[aF])
 have s:some sb≠outv.ownBlock:=fun e=>I (by simp[<-e])
 have r:some gf≠outv.ownBlock:=fun e=>K (by simp[<-e])
 have B:gf≠sb:=fun e=>I (by simp[e])
 have C:j.heap[sb]?=_:=(L sb t s).trans h.blk
 have g:∀k∈aT fvs,k<w.heap.size/\some k≠outv.ownBlock/\k≠sb/\k≠gf:=fun k c=>
  ⟨h.lt k (by simp[aF,c]),fun e=>U k (by simp[<-e]) k c rfl,fun e=>I (by simp[<-e,c]),fun e=>K (by simp[<-e,c])⟩
 have q:i≠sb/\i≠gf/\i∉aT fvs:=by
  rcases u with e|e
  ·exact⟨fun H=>s (by rw[e,H]),fun H=>r (by rw[e,H]),fun c=>(g i c).2.1 e.symm⟩
  ·have W:gf<w.heap.size:=h.lt gf (by simp[aF])
   exact⟨by omega,by omega,fun c=>by have:=(g i c).1;omega⟩
 have D:∀b,F b->(j.setCell ⟨sb,3,none⟩ (.slice (some ⟨i,0,none⟩) (m.out.length+1) d)).heap[b]?=w.heap[b]?:=fun b y=>
  p b (h.apart b y).1 (fun e=>(h.apart b y).2 (by simp[aF,<-e])) fun e=>(h.apart b y).2 (by simp[aF,e])
 have o:w.heap.size<=j.heap.size:=aF_ (by simp) z.size
 have n:(Value.slice (some ⟨i,0,none⟩) (m.out.length+1) d).ownBlock=some i:=rfl;have A:i<j.heap.size:=(J.lt i n).2;refine⟨⟨aS C,aY h.row fun k e=>?_,h.frs.keep D (fun _ h=>h) fun v X k f=>?_,h.tape.keep D (fun _ h=>h),?_,?_,fun k f=>?_,fun k E=>?_⟩,⟨z.os.trans rfl,z.tape.trans rfl,z.output.trans rfl,by simpa using o,fun k x l=>?_⟩,fun k f=>?_⟩
 ·cases e;exact p gf (h.lt gf (by simp[aF])) r B
 ·have c:k∈aT fvs:=bt_.2 ⟨v,X,f⟩;obtain⟨P,Y,S,_⟩:=g k c;exact p k P Y S
 ·rw[aw_];have e:lV (m.out++[tx])=lV m.out++[.string (bs tx)]:=by simp[lV]
  rw[e];exact aY J fun k G=>ax_ _ _ _ _ (by cases G;exact q.1)
 ·unfold aF;rw[n];refine aK_.2 ⟨fun c=>?_,aK_.2 ⟨fun c=>?_,be_.2 ⟨by simp,T,fun a M b y e=>?_⟩⟩⟩
  ·rcases aG_.1 c with e|c
   ·exact B e.symm
   ·rcases aE_.1 c with c|c
    ·simp at c;exact q.1 c.symm
    ·exact(g sb c).2.2.1 rfl
  ·rcases aE_.1 c with c|c
   ·simp at c;exact q.2.1 c.symm
   ·exact(g gf c).2.2.2 rfl
  ·simp at M;subst e;exact q.2.2 (by rw[<-M];exact y)
 ·have:(j.setCell ⟨sb,3,none⟩ (.slice (some ⟨i,0,none⟩) (m.out.length+1) d)).heap.size=j.heap.size:=by simp
  rw[this];unfold aF at f;rw[n] at f;simp only[Option.toList_some,aG_,aE_,aQ_,or_false] at f;rcases f with rfl|rfl|rfl|c
  ·exact az_ t o
  ·exact az_ (h.lt _ (by simp[aF])) o
  ·exact A
  ·exact az_ (g k c).1 o
 ·obtain⟨x,l⟩:=h.apart k E;refine⟨az_ x (by simpa using o),fun c=>?_⟩
  unfold aF at c;rw[n] at c;simp only[Option.toList_some,aG_,aE_,aQ_,or_false] at c;rcases c with rfl|rfl|rfl|c
  ·exact l (by simp[aF])
  ·exact l (by simp[aF])
  ·rcases u with e|e
   ·exact l (by simp[aF,e])
   ·omega
  ·exact l (by simp[aF,c])
 ·exact p k x (fun e=>l (by simp[aF,<-e])) fun e=>l (by simp[aF,e])
 ·unfold aF at f;rw[n] at f;simp only[Option.toList_some,aG_,aE_,aQ_,or_false] at f;rcases f with rfl|rfl|rfl|c
  ·exact av_ (by simp[aF])
  ·exact av_ (by simp[aF])
  ·rcases u with e|e
   ·exact av_ (by simp[aF,e])
   ·exact as_ (by omega)
  ·exact av_ (by simp[aF,c])
def K6(r:List dY){vs:List aJ}{b:aJ}(h:cT fp F base w sb gf cap t0 tv outv s0 fvs ⟨below++[f],tape,out⟩)(hp:AB (aF sb gf outv fvs) w)(H:below.length<=15)(i:base<=w.heap.size)(Z:f.ops.length<=99000)(hf:f.ops=vs++[b])(ab:out.length<=50):
 Calls prog 408 #[.agg #[],.pointer (some ⟨sb,0,none⟩)] w (v8 fp F base sb t0 s0 (aF sb gf outv fvs) w (Hs.doI r .print below f tape out)):=by
 have hM:=h.mid i (.cells #[] 448);obtain⟨g,v,ac,rfl,T, -⟩:=h.top;have h0:=h.grow ((ay_ _ w).alloc (au_ _) (.cells #[] 448)) (fun _ h=>h) (fun _ h=>av_ h)
 have K:=hM.topS H;rw[<-T] at K;have n:Kept (aF sb gf outv (g++[v])) w (w.alloc (.cells #[] 448)):=Kept.of_below ((ay_ _ w).alloc (au_ _) _);generalize B:w.alloc (.cells #[] 448)=p at h0 K n;obtain⟨x,c,rfl⟩:=cU h.out;have s:f.last=b:=iS hf
 have X:Hid (∀W,aQ p W->Calls prog 171 #[.pointer (some ⟨gf,g.length*6,none⟩)] W fun e m=>∃t z,e=.returned (.iface t z)/\(PV F m (.iface t z) b/\aK b<=200/\rL fp F base sb gf cap t0 tv (.slice x out.length c) s0 g v below f.pop tape out p m)):=fun W D=>by
  refine((h0.grow D.below (fun _ h=>h) (fun _ h=>av_ h)).popR hf (by omega)).mono ?_
  rintro e m ⟨t,z,l,V,S,d,C,h4,h5,h6⟩;exact⟨t,z,V,S,d,l,C,h4,(Kept.of_below (own:=aF sb gf (.slice x out.length c) (g++[v])) D.below).trans h5 fun _ h=>av_ h,fun k _ E=>by rw[h6 k E,D.heap]⟩
 have j:∀{W:World} {f':aI},rL fp F base sb gf cap t0 tv (.slice x out.length c) s0 g v below f' tape out p W->W.cell? ⟨sb,3,none⟩=some (.slice x out.length c)/\sb<W.heap.size/\base<=W.heap.size/\Kept (aF sb gf (.slice x out.length c) (g++[v])) w W:=fun a=>by
  obtain⟨l,_,d,C,_⟩:=a;exact⟨aA d.blk rfl,aD d.blk,aF_ i (aF_ n.size C.size),n.trans C fun _ h=>av_ h⟩
 by_cases o:out.length=50
 ·rw[o] at j X;refine(KN w p sb gf (g.length*6) c x (fun m=>Done fp F base sb t0 s0 (aF sb gf (.slice x out.length c) (g++[v])) w ⟨below++[f.pop],tape,out⟩ m) (fun t z W=>PV F W (.iface t z) b/\aK b<=200/\rL fp F base sb gf cap t0 tv (.slice x 50 c) s0 g v below f.pop tape out p W) B K X (fun W t z a=>?_) (fun W t z a=>?_)).mono ?_
  ·obtain⟨y,q,_⟩:=j a.2.2;exact⟨y,q⟩
  ·subst B;rw[o];exact a.2.2.done (Ext.refl _ _)
  ·rintro e m ⟨rfl,d⟩;have U:Hs.doI r .print below f tape out=(⟨below++[f.pop],tape,out⟩,8):=by simp[Hs.doI,o]
   rw[U];exact⟨as_ ⟨show (8:Nat)≠0 by decide,rfl⟩,d⟩
 ·refine(KM w p sb gf (g.length*6) base out.length c x (iV b) (by omega) (fun m=>Done fp F base sb t0 s0 (aF sb gf (.slice x out.length c) (g++[v])) w ⟨below++[f.pop],tape,out++[iV b]⟩ m) (fun t z W=>PV F W (.iface t z) b/\aK b<=200/\rL fp F base sb gf cap t0 tv (.slice x out.length c) s0 g v below f.pop tape out p W) (fun W=>rL fp F base sb gf cap t0 tv (.slice x out.length c) s0 g v below f.pop tape out p W) (lV out) B K X (fun W t z a=>?_) (fun W P t z a D=>?_) (fun W a=>?_) (fun W a=>?_) (fun W a=>?_) (fun W a=>?_)).mono ?_
  ·obtain⟨y,q,_⟩:=j a.2.2;exact⟨y,q⟩
  ·obtain⟨p1,Y,a⟩:=a;have A:=a.grow D.below (fun _ h=>h) (fun _ h=>av_ h)
   have I:∀k,F k->k<P.heap.size:=fun k E=>by obtain⟨_,_,d,_⟩:=A;exact(d.apart k E).1
   refine(YP F _ b P (p1.keep fun k _=>by rw[D.heap]) I (hp P (j A).2.2.2) (by omega)).mono ?_
   rintro e m ⟨V,hb⟩;exact⟨V,A.grow hb (fun _ h=>h) (fun _ h=>av_ h)⟩
  ·obtain⟨y,q,L,_⟩:=j a;exact⟨y,q,L⟩
  ·obtain⟨_,_,d,_⟩:=a;exact d.out
  ·intro w5 N;obtain⟨l,_,d,_⟩:=a;have Q:=aD d.blk;have J:some sb≠(Value.slice x out.length c).ownBlock:=fun e=>(aK_.1 d.nodup).1 (by simp[<-e])
   have M:w5.heap[sb]?=_:=(N.block sb (by simp;omega) J).trans ((aA_ _ _ _ Q).trans d.blk)
   exact⟨⟨_,aA M rfl⟩,aE M,aD M⟩
  ·intro g5 aa w5 Y N O;obtain⟨l,S,d,C,h4⟩:=a;obtain⟨y,q,L⟩:=d.printed (tx:=iV b) Y N O;have u:aF sb gf (.slice x out.length c) (g++[{ v with ov:=l }])=aF sb gf (.slice x out.length c) (g++[v]):=by simp[aF,aT,FVal.owns,S]
   rw[u] at q L;have G:=n.trans C fun _ h=>av_ h
   exact⟨G.trans q fun _ h=>av_ h,F,gf,cap,tv,_,_,Ext.refl _ _,y,fun k E=>(L k E).imp_right fun h=>aF_ G.size h⟩
  ·rintro e m ⟨rfl,d⟩;have U:Hs.doI r .print below f tape out=(⟨below++[f.pop],tape,out++[iV b]⟩,0):=by simp[Hs.doI,o,s]
   rw[U];exact⟨av_ ⟨rfl,rfl⟩,d⟩
end
end Go.Proofs.YtblbkfdhjfppkaaGreatDoor
