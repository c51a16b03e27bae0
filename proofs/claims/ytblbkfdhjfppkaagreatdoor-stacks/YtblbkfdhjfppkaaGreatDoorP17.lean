/- Contracts of the program: a variable is declared: what it does. -/
import Derived.Test.YtblbkfdhjfppkaaGreatDoorP16
set_option linter.defProp false
set_option maxRecDepth 100000
set_option maxHeartbeats 4000000
namespace Go.Proofs.YtblbkfdhjfppkaaGreatDoor
open Hs
open _root_.Go.Proofs.Tryz(prog)
open Go.RowKit
section
variable {fp:Nat->Value} {F:Nat->Prop} {base:Nat} {w:World} {sb gf cap:Nat} {t0 tv outv s0:Value} {fvs:List FVal} {below:List aI} {f:aI} {tape:List Int} {out:List (List UInt8)}
def cT.popR{m:List FVal}{v:FVal}{vs:List aJ}{a:aJ}(h:cT fp F base w sb gf cap t0 tv outv s0 (m++[v]) ⟨below++[f],tape,out⟩)(G:f.ops=vs++[a])(l:f.ops.length<=100000):
 Calls prog 171 #[.pointer (some ⟨gf,m.length*6,none⟩)] w fun e o=>∃t z c,e=.returned (.iface t z)/\PV F o (.iface t z) a/\aK a<=200/\c.ownBlock=v.ov.ownBlock/\cT fp F base o sb gf cap t0 tv outv s0 (m++[{ v with ov:=c }]) ⟨below++[f.pop],tape,out⟩/\Kept (aF sb gf outv (m++[v])) w o/\∀k,k≠gf->o.heap[k]?=w.heap[k]?:=by
 obtain⟨K,T,A,e,S,n,J,r,E,Y,Z,X,W,U,O⟩:=h.top;obtain⟨rfl,M⟩:=bh_ e rfl;cases M;obtain⟨⟨V,i,p⟩,d⟩:=n.ops;rw[G] at i p d l;obtain⟨s,u,rfl,L,q,I⟩:=fT.unsnoc p;obtain⟨t,z,rfl⟩:=I.form;rw[aw_] at i l;refine(PR base gf (m.length*6) vs.length A v.ov s _ w r O i L ⟨t,z,rfl⟩ (by omega)).mono ?_
 rintro e o ⟨rfl,c,rfl,Q,H⟩;have g:f.pop.ops=vs:=by simp[aI.pop,G]
 have C:MI fp F base w { v with ov:=c } f.pop:=⟨n.fn,n.nx,n.ln,n.sp,n.vars,⟨s,by rw[g];exact Q,by rw[g];exact q⟩,fun b D=>d b (aP_ _ (by rw[g] at D;exact D))⟩
 obtain⟨P,N⟩:=h.setTop (j:=5) (x:=c) (v':={ v with ov:=c }) (by omega) rfl (by simp[FVal.owns,H]) C
 have B:∀k,F k->(w.setCell ⟨gf,m.length*6+5,none⟩ c).heap[k]?=w.heap[k]?:=fun k y=>ax_ _ _ _ _ fun e=>(h.apart k y).2 (by simp[aF,e])
 exact⟨t,z,c,rfl,I.keep B,d a (by simp),H,P,N,fun k y=>ax_ _ _ _ _ y⟩
def cT.declaredC{m:List FVal}{v:FVal}{d:Nat}{xs:List Value}{a:aJ}{t:TypeId}{z:Value}{g b:Nat}{l:World}{D:Option Nat}(h:cT fp F base w sb gf cap t0 tv outv s0 (m++[v]) ⟨below++[f],tape,out⟩)(L:PV F w (.iface t z) a)(A:aK a<=200)(r:fT F w xs (f.vars.take d))(P:d<=f.vars.length)(i:D=v.vv.ownBlock)
 (M:l.ownsRow base 256 1 (.slice (some ⟨g,0,none⟩) (d+1) b) (d+1) (xs++[.iface t z])) (q:(w.alloc (.cells #[.iface t z] 256)).grownBy l D) (p:D=some g\/w.heap.size+1<=g):
 cT fp F base (l.setCell ⟨gf,m.length*6+4,none⟩ (.slice (some ⟨g,0,none⟩) (d+1) b)) sb gf cap t0 tv outv s0 (m++[{ v with vv:=.slice (some ⟨g,0,none⟩) (d+1) b }]) ⟨below++[{ f with vars:=f.vars.take d++[a] }],tape,out⟩/\Kept (aF sb gf outv (m++[v])) w (l.setCell ⟨gf,m.length*6+4,none⟩ (.slice (some ⟨g,0,none⟩) (d+1) b)):=by
 obtain⟨I,Q,x,e,O,U,H,c,E,X,Y,W,V,S,T⟩:=h.top;obtain⟨rfl,K⟩:=bh_ e rfl;cases K;have B:=aD c
 have n:v.vv.ownBlock≠some gf:=fun e=>by
  have:=(aK_.1 (aK_.1 h.nodup).2).1;exact this (by simp[aT,FVal.owns,e])
 have y:g≠gf:=by
  rcases p with e|e
  ·intro J;rw[i] at e;exact n (by rw[e,J])
  ·omega
 have G:∀k,k<w.heap.size->some k≠v.vv.ownBlock->l.heap[k]?=w.heap[k]?:=fun k C s=>by
  rw[q.block k (by simp;omega) (by rw[i];exact s),aA_ _ _ _ C]
 have o:l.heap[gf]?=some (.cells x 195 (0,0)):=by rw[G gf B (fun e=>n e.symm)];exact c
 refine h.declared (a:=a) (u:=.iface t z) (xs:=xs) c r P L A (aS o) (aY M fun k j=>ax_ _ _ _ _ (by cases j;exact y)) (fun k j=>?_) ⟨q.os.trans rfl,q.tape.trans rfl,q.output.trans rfl,aF_ (by simp) (aF_ q.size (by simp)),fun k C s N=>?_⟩
 ·cases j;rcases p with e|e
  ·exact av_ (by rw[<-i];exact e)
  ·exact as_ (by show w.heap.size<=g;omega)
 ·rw[ax_ _ _ _ _ s,G k C N]
def xH(fp:Nat->Value)(F:Nat->Prop)(base sb gf cap:Nat)(t0 tv outv s0:Value)(fb:List FVal)(v:FVal)(below:List aI)(f:aI)(tape:List Int)(out:List (List UInt8))(w0:World)(a:aJ)(t:TypeId)(z:Value)(W:World):Prop:=
 ∃ov',ov'.ownBlock=v.ov.ownBlock/\PV F W (.iface t z) a/\aK a<=200/\cT fp F base W sb gf cap t0 tv outv s0 (fb++[{ v with ov:=ov' }]) ⟨below++[f.pop],tape,out⟩/\Kept (aF sb gf outv (fb++[v])) w0 W/\∀k,k≠gf->W.heap[k]?=w0.heap[k]?
def xH.fin{g:List FVal}{v:FVal}{r W:World}{a:aJ}{t:TypeId}{z:Value}{d:Nat}{xs:List Value}{G:Obj}(h:cT fp F base w sb gf cap t0 tv outv s0 (g++[v]) ⟨below++[f],tape,out⟩)(s:r=w.alloc G)(P:xH fp F base sb gf cap t0 tv outv s0 g v below f tape out r a t z W)(Q:d<=f.vars.length)(u:fT F r xs (f.vars.take d))(B:f.last=a)
 (i c:Nat) (x:World) (j:Option Nat) (n:j=v.vv.ownBlock) (N:x.ownsRow base 256 1 (.slice (some ⟨i,0,none⟩) (d+1) c) (d+1) (xs++[.iface t z])) (U:(W.alloc (.cells #[.iface t z] 256)).grownBy x j) (p:j=some i\/W.heap.size+1<=i):
 Done fp F base sb t0 s0 (aF sb gf outv (g++[v])) w ⟨below++[(aL (.declare d) f).1],tape,out⟩ (x.setCell ⟨gf,g.length*6+4,none⟩ (.slice (some ⟨i,0,none⟩) (d+1) c)):=by
 subst s;obtain⟨l,E,K,O,T,C,J⟩:=P;have y:∀k,F k->k≠gf:=fun k A e=>(h.apart k A).2 (by simp[aF,e])
 obtain⟨M,D⟩:=T.declaredC (d:=d) (xs:=xs) K O (u.keep fun b H=>J b (y b H)) Q n N U p
 have o:aF sb gf outv (g++[{ v with ov:=l }])=aF sb gf outv (g++[v]):=by simp[aF,aT,FVal.owns,E]
 rw[o] at D;have V:=((Kept.of_below (own:=aF sb gf outv (g++[v])) ((ay_ _ w).alloc (au_ _) G)).trans C fun _ h=>av_ h).trans D fun _ h=>av_ h
 refine⟨V,F,gf,cap,tv,outv,g++[{ v with ov:=l,vv:=.slice (some ⟨i,0,none⟩) (d+1) c }],Ext.refl _ _,?_,fun k A=>?_⟩
 ·have e:(aL (.declare d) f).1={ f.pop with vars:=f.pop.vars.take d++[a] }:=by simp[aL,B,aI.pop]
  rw[e];exact M
 ·have S:aF sb gf outv (g++[{ v with ov:=l,vv:=.slice (some ⟨i,0,none⟩) (d+1) c }])=(sb::gf::(outv.ownBlock.toList++aT g))++(i::v.ov.ownBlock.toList):=by
   have I:(Value.slice (some ⟨i,0,none⟩) (d+1) c).ownBlock=some i:=rfl;simp[aF,aT,FVal.owns,E,I]
  have L:aF sb gf outv (g++[v])=(sb::gf::(outv.ownBlock.toList++aT g))++v.owns:=by simp[aF,aT]
  have q:k∈(sb::gf::(outv.ownBlock.toList++aT g))++(i::v.ov.ownBlock.toList):=by rw[<-S];exact A
  rw[L];rcases aE_.1 q with m|m
  ·exact av_ (aP_ _ m)
  ·rcases aG_.1 m with rfl|m
   ·rcases p with e|e
    ·exact av_ (aL_ _ (by rw[n] at e;simp[FVal.owns,e]))
    ·have:=C.size;exact as_ (by simp at this;omega)
   ·exact av_ (aL_ _ (aL_ _ m))
def xH.reads{g:List FVal}{v:FVal}{W:World}{a:aJ}{t:TypeId}{z:Value}{cs:Array Value}{o:TypeId}(h:cT fp F base w sb gf cap t0 tv outv s0 (g++[v]) ⟨below++[f],tape,out⟩)(q:base<=w.heap.size)(E:xH fp F base sb gf cap t0 tv outv s0 g v below f tape out (w.alloc (.cells cs o)) a t z W):
 W.heap[w.heap.size]?=some (.cells cs o (0,0))/\W.cell? ⟨gf,g.length*6+4,none⟩=some v.vv/\gf<W.heap.size/\base<=W.heap.size/\
  ∀d:World,(W.alloc (.cells #[.iface t z] 256)).grownBy d v.vv.ownBlock->(∃u,d.cell? ⟨gf,g.length*6+4,none⟩=some u)/\d.frozen? ⟨gf,g.length*6+4,none⟩=false/\gf<d.heap.size:=by
 obtain⟨l,N,I,K,G,s,A⟩:=E;obtain⟨r,x,k,e,D,L,p,b,m,P,Q,O,M,n,J⟩:=G.top;obtain⟨rfl,B⟩:=bh_ e rfl;have y:x={ v with ov:=l }:=by simpa using B.symm
 subst y;have i:=aD b;have C:gf<w.heap.size:=h.lt gf (by simp[aF])
 have j:v.vv.ownBlock≠some gf:=fun e=>by
  have:=(aK_.1 (aK_.1 h.nodup).2).1;exact this (by simp[aT,FVal.owns,e])
 refine⟨by rw[A _ (by omega)];exact aM _ _ rfl _,aA b n,i,aF_ q (aF_ (by simp) s.size),fun d H=>?_⟩
 have c:d.heap[gf]?=some (.cells k 195 (0,0)):=by
  rw[H.block gf (by simp;omega) (fun e=>j e.symm),aA_ _ _ _ i];exact b
 exact⟨⟨_,aA c n⟩,aE c,aD c⟩
def VL(d:Nat)(h:cT fp F base w sb gf cap t0 tv outv s0 fvs ⟨below++[f],tape,out⟩)(C:below.length<=15)(b:base<=w.heap.size)(ac:f.ops.length<=99000)(H:∃vs a,f.ops=vs++[a])(D:d<=f.vars.length)(af:f.vars.length<=90001):
 Calls prog 403 #[.agg #[.int .i64 d],.pointer (some ⟨sb,0,none⟩)] w (nY fp F base sb t0 s0 (aF sb gf outv fvs) w below tape out (aL (.declare d) f)):=by
 obtain⟨vs,a,O⟩:=H;have hM:=h.mid b (.cells #[.int .i64 d] 443);obtain⟨m,v,K,rfl,Z, -⟩:=h.top;have h0:=h.grow ((ay_ _ w).alloc (au_ _) (.cells #[.int .i64 d] 443)) (fun _ h=>h) (fun _ h=>av_ h)
 have hT:=hM.topS C;rw[<-Z] at hT;obtain⟨ae,v0,K,e, -,hv,ad,n,ab,k0,k1,k2,k3,k4,k5⟩:=h0.top;obtain⟨rfl,e2⟩:=bh_ e rfl;cases e2
 have HP:Hid (∀W,aQ (w.alloc (.cells #[.int .i64 d] 443)) W->Calls prog 171 #[.pointer (some ⟨gf,m.length*6,none⟩)] W fun e p=>∃t z,e=.returned (.iface t z)/\xH fp F base sb gf cap t0 tv outv s0 m v below f tape out (w.alloc (.cells #[.int .i64 d] 443)) a t z p):=fun W hS=>by
  refine((h0.grow hS.below (fun _ h=>h) (fun _ h=>av_ h)).popR O (by omega)).mono ?_
  rintro e p ⟨t,z,A,he,h1,s,h3,h4,h5,I⟩;exact⟨t,z,he,A,h3,h1,s,h4,(Kept.of_below (own:=aF sb gf outv (m++[v])) hS.below).trans h5 fun _ h=>av_ h,fun k hk=>by rw[I k hk,hS.heap]⟩
 obtain⟨⟨xs,u,y⟩,M⟩:=hv.vars
 have N:v.vv.ownBlock≠some gf:=fun e=>by
  have:=(aK_.1 (aK_.1 h.nodup).2).1;exact this (by simp[aT,FVal.owns,e])
 have o:fT F (w.alloc (.cells #[.int .i64 d] 443)) (xs.take d) (f.vars.take d):=by
  have hh:=y;rw[<-a5_ d f.vars] at hh;obtain⟨ys,zs,rfl,P,l2,j,r2⟩:=hh.split;rw[bc_,Nat.min_eq_left D] at P;rw[<-P,List.take_left,P];exact j
 rcases u.2 with ⟨j,r2⟩|⟨g,c,L,j,U,B,Y,T,E,aa⟩
 ·obtain rfl:d=0:=by omega
  refine(GC w _ sb gf (m.length*6) base (fun p=>Done fp F base sb t0 s0 (aF sb gf outv (m++[v])) w ⟨below++[(aL (.declare 0) f).1],tape,out⟩ p) (xH fp F base sb gf cap t0 tv outv s0 m v below f tape out (w.alloc (.cells #[.int .i64 0] 443)) a) [] rfl hT (by rw[<-j];exact aA n k4) HP (fun W t z i=>?_) (fun W t z i=>World.ownsRow_nil _ _ _ _) (fun W t z i=>?_) (fun W t z i=>?_)).mono ?_
  ·obtain⟨x,V,J,q4,q5⟩:=xH.reads h b i;exact⟨aA x rfl,aD x,by rw[V,j],J,q4⟩
  ·have:=(xH.reads h b i).2.2.2.2;rw[j] at this;exact this
  ·intro X l G Q S q;exact xH.fin h rfl i D (by simpa using o) (iS O) X l G none (by rw[j];rfl) Q S q
  ·rintro e p ⟨rfl,s⟩;exact nY.ok rfl s
 ·refine(GB w _ sb gf (m.length*6) base d g f.vars.length c D Y (by omega) (fun p=>Done fp F base sb t0 s0 (aF sb gf outv (m++[v])) w ⟨below++[(aL (.declare d) f).1],tape,out⟩ p) (xH fp F base sb gf cap t0 tv outv s0 m v below f tape out (w.alloc (.cells #[.int .i64 d] 443)) a) (xs.take d) rfl (by omega) hT (by rw[<-j];exact aA n k4) HP (fun W t z i=>?_) (fun W t z i=>?_) (fun W t z i=>?_) (fun W t z i=>?_)).mono ?_
  ·obtain⟨x,V,J,q4,q5⟩:=xH.reads h b i;exact⟨aA x rfl,aD x,by rw[V,j],J,q4⟩
  ·obtain⟨A,_,_,_,_,_,I⟩:=i;have r:W.heap[g]?=_:=(I g (fun e=>N (by rw[j,e];rfl))).trans B
   have ag:xs.length=f.vars.length:=y.1;refine⟨by rw[bc_];omega,as_ ⟨g,c,L,rfl,U,r,by omega,T,E,?_⟩⟩
   have:=congrArg (List.take d) aa;rw[bO_,show min d (f.vars.length*1)=d by omega] at this
   rw[b4_];exact this
  ·have:=(xH.reads h b i).2.2.2.2;rw[j] at this;exact this
  ·intro X l G Q S q;exact xH.fin h rfl i D o (iS O) X l G (some g) (by rw[j];rfl) Q S q
  ·rintro e p ⟨rfl,s⟩;exact nY.ok rfl s
end
def NX(w a:World)(sb:Nat)(x:Option Addr)(c:Nat)(f:w.alloc (.cells #[] 440)=a)(d:a.cell? ⟨sb,2,none⟩=some (.slice x 0 c)):
 Calls prog 401 #[.agg #[],.pointer (some ⟨sb,0,none⟩)] w fun e b=>e=fH 7/\b=a:=by
 go_enter Tryz.func401,Tryz.ntmps401;go_wp2_with fail;exact⟨rfl,rfl,rfl⟩
def NW(w b:World)(sb r s g o n c:Nat)(i:Int)(P k:World->Prop)(K:w.alloc (.cells #[] 440)=b)(z:n+1<=c)(_hnn:n<=17592186044416)
 (v:Hid (∀W,aQ b W->Calls prog 158 #[.pointer (some ⟨sb,0,none⟩)] W fun e d=>e=.returned (.pointer (some ⟨r,s,none⟩))/\aQ b d))
 (j:b.cell? ⟨sb,2,none⟩=some (.slice (some ⟨g,o,none⟩) (n+1) c)) (l:b.cell? ⟨g,o,none⟩=some (.int .i64 i))
 (u:Hid (∀W,aQ b W->Calls prog 371 #[.pointer (some ⟨r,s,none⟩),.iface 315 (.int .i64 i)] W fun e d=>e=.returned (.tuple #[])/\k d))
 (y:Hid (∀W,k W->W.cell? ⟨sb,2,none⟩=some (.slice (some ⟨g,o,none⟩) (n+1) c)/\W.frozen? ⟨sb,2,none⟩=false/\sb<W.heap.size))
 (q:Hid (∀W f t,k W->(n=0\/(f=o+1/\t=c-1))->P (W.setCell ⟨sb,2,none⟩ (.slice (some ⟨g,f,none⟩) n t)))):
 Calls prog 401 #[.agg #[],.pointer (some ⟨sb,0,none⟩)] w fun e d=>e=.returned (.tuple #[])/\P d:=by
 have h:=aB j;have m:=aB l;have B:=j;have N:=l;have E:((n:Int)+1=0)=False:=by simp;omega
 have M:(1:Int)<=(n:Int)+1:=by omega
 have G:(n:Int)+1<=(c:Int):=by omega
 have D:(0:Int)<(n:Int)+1:=by omega
 clear j l;go_enter Tryz.func401,Tryz.ntmps401;go_wp2_with fail;go_region_law (first|(go_simp;go_at_call 158;refine(v.out _ (by first|assumption|exact aQ.drew _)).mono ?_;rintro e J ⟨rfl,a⟩;have I:=bB a.heap h.out;have H:=bB a.heap m.out)|(go_simp;go_at_call 371;refine(u.out _ a).mono ?_;rintro e A ⟨rfl,p⟩;have x:=y.out _ p;obtain⟨C,L,F⟩:=x))
 all_goals
  go_wp2_with fail
  all_goals
   go_end0;first|exact⟨rfl,q.out _ _ _ p (as_ ⟨rfl,rfl⟩)⟩|exact⟨rfl,q.out _ _ _ p (av_ (by omega))⟩
section
variable {fp:Nat->Value} {F:Nat->Prop} {base:Nat} {w:World} {sb gf cap:Nat} {t0 tv outv s0:Value} {fvs:List FVal} {below:List aI} {f:aI} {tape:List Int} {out:List (List UInt8)}
def cT.setTape{m:cF}{c:Value}{d:List Int}(h:cT fp F base w sb gf cap t0 tv outv s0 fvs m)(o:rH F w c d):
 cT fp F base (w.setCell ⟨sb,2,none⟩ c) sb gf cap t0 c outv s0 fvs ⟨m.frames,d,m.out⟩/\Kept (aF sb gf outv fvs) w (w.setCell ⟨sb,2,none⟩ c):=by
 have i:∀k,k≠sb->(w.setCell ⟨sb,2,none⟩ c).heap[k]?=w.heap[k]?:=fun k i=>ax_ _ _ _ _ i
 have j:=(aK_.1 h.nodup).1;have g:∀b,F b->(w.setCell ⟨sb,2,none⟩ c).heap[b]?=w.heap[b]?:=fun b l=>i b fun e=>(h.apart b l).2 (by simp[aF,e])
 have f:∀k,k∈gf::(outv.ownBlock.toList++aT fvs)->(w.setCell ⟨sb,2,none⟩ c).heap[k]?=w.heap[k]?:=fun k q=>i k fun e=>j (by rw[<-e];exact q)
 refine⟨⟨?_,aY h.row fun k a=>?_,h.frs.keep g (fun _ h=>h) fun v p k a=>f k ?_,o.keep g fun _ h=>h,aY h.out fun k a=>f k (by simp[a]),h.nodup,fun k a=>az_ (h.lt k a) (by simp),fun k a=>⟨az_ (h.apart k a).1 (by simp),(h.apart k a).2⟩⟩,⟨rfl,rfl,rfl,by simp,fun k _ n=>i k fun e=>n (by simp[aF,e])⟩⟩
 ·rw[aS h.blk];rfl
 ·cases a;exact f gf (by simp)
 ·have:k∈aT fvs:=bt_.2 ⟨v,p,a⟩;simp[this]
def v8(fp:Nat->Value)(F:Nat->Prop)(base sb:Nat)(t0 s0:Value)(own:List Nat)(w:World)(r:cF × Nat)(e:Ending)(w':World):Prop:=
 v7 r.2 e/\Done fp F base sb t0 s0 own w r.1 w'
def Mid.tapes{own:List Nat}{i:World}{G:Nat->Prop}{n:Nat}{m:cF}(h:Mid fp base sb gf n t0 s0 own i G m w):∃e,rH G w e m.tape/\w.cell? ⟨sb,2,none⟩=some e/\w.frozen? ⟨sb,2,none⟩=false/\sb<w.heap.size/\
 ∀b a,rH G w b a->Mid fp base sb gf n t0 s0 own i G ⟨m.frames,a,m.out⟩ (w.setCell ⟨sb,2,none⟩ b):=by
 obtain⟨r,l,g,e,c,f,q,d,j⟩:=h;refine⟨e,d.tape,aA d.blk rfl,aE d.blk,aD d.blk,fun b a p=>?_⟩
 obtain⟨o,k⟩:=d.setTape p;exact⟨r.trans k j,aF_ l k.size,g,b,c,f,q,o,j⟩
def Mid.pushK{own:List Nat}{J:World}{G:Nat->Prop}{n:Nat}(h:Mid fp base sb gf n t0 s0 own J G ⟨below++[f],tape,out⟩ w){t:TypeId}{z:Value}{a:aJ}(V:PV G w (.iface t z) a)(H:aK a<=200)(L:f.ops.length<=100000):Calls prog 371 #[.pointer (some ⟨gf,n*6,none⟩),.iface t z] w fun e r=>e=.returned (.tuple #[])/\Mid fp base sb gf n t0 s0 own J G ⟨below++[f.push a],tape,out⟩ r/\r.heap[sb]?=w.heap[sb]?/\∀k,G k->r.heap[k]?=w.heap[k]?:=by
 obtain⟨P,M,I,Z,b,W,d,c,m⟩:=h;obtain⟨l,v,i,rfl,aa,hv,q,g,K,k0,k1,k2,k3,k4,T⟩:=c.top;have B:l.length=n:=by simpa using d
 subst B;obtain⟨⟨Y,o,x⟩,y⟩:=hv.ops;have u:=aK_.1 (aK_.1 c.nodup).2;have A:v.ov.ownBlock≠some gf:=fun e=>u.1 (by simp[aT,FVal.owns,e])
 have F:v.ov.ownBlock≠some sb:=fun e=>(aK_.1 c.nodup).1 (by simp[aT,FVal.owns,e])
 have s:sb≠gf:=fun e=>(aK_.1 c.nodup).1 (by simp[e])
 refine(wT base gf (l.length*6) f.ops.length i v.ov Y t z w g T o A M (by omega)).mono ?_
 rintro e r ⟨he,j,Q,X,N,E⟩;obtain⟨U,O⟩:=c.pushed (cur:=i) g x V H Q X N E;refine⟨he,⟨P.trans O m,aF_ M O.size,I,Z,b,_,by simp,U,fun k p=>?_⟩,E.block sb (aD q) s (fun e=>F e.symm),fun k D=>E.block k (c.apart k D).1 (fun e=>(c.apart k D).2 (by simp[aF,e])) fun e=>(c.apart k D).2 (by simp[aF,aT,FVal.owns,<-e])⟩
 have e1:aF sb gf b (l++[{ v with ov:=j }])=(sb::gf::(b.ownBlock.toList++aT l))++({ v with ov:=j }:FVal).owns:=by simp[aF,aT]
 have S:aF sb gf b (l++[v])=(sb::gf::(b.ownBlock.toList++aT l))++v.owns:=by simp[aF,aT]
 rw[e1] at p;rw[S] at m;rcases aE_.1 p with d|d
 ·exact m k (aP_ _ d)
 ·rcases aE_.1 d with d|d
  ·exact m k (aL_ _ (aP_ _ d))
  ·have c:j.ownBlock=some k:=by simpa using d
   rcases N k c with C|C
   ·exact m k (aL_ _ (by simp[FVal.owns,C]))
   ·exact as_ (aF_ P.size C)
def U2(y:List dY)(h:cT fp F base w sb gf cap t0 tv outv s0 fvs ⟨below++[f],tape,out⟩)(q:below.length<=15)(b:base<=w.heap.size)(J:f.ops.length<=99000)(B:tape.length<=17592186044416):
 Calls prog 401 #[.agg #[],.pointer (some ⟨sb,0,none⟩)] w (v8 fp F base sb t0 s0 (aF sb gf outv fvs) w (Hs.doI y .read below f tape out)):=by
 have r:=h.mid b (.cells #[] 440);obtain⟨H,M,t,T,U,K⟩:=r.tapes;cases tape with
 |nil=>
  have X:∃x c,H=.slice x 0 c:=by
   rcases M with ⟨_,m⟩|⟨g,o,c,m,_⟩
   ·exact m
   ·exact⟨_,_,m⟩
  obtain⟨x,c,rfl⟩:=X;refine(NX w _ sb x c rfl t).mono ?_;rintro e n ⟨rfl,rfl⟩;exact⟨as_ ⟨show (7:Nat)≠0 by decide,rfl⟩,r.done (Ext.refl _ _)⟩
 |cons i l=>
  rcases M with ⟨P,_⟩|⟨g,o,c,rfl,I,p,a⟩
  ·cases P
  have A:=a 0 (by simp)
  simp only[aB_] at t I B
  refine(NW w _ sb gf (below.length*6) g o l.length c i (fun n=>Done fp F base sb t0 s0 (aF sb gf outv fvs) w ⟨below++[f.push (bC i)],l,out⟩ n)
   (fun W=>Mid fp base sb gf below.length t0 s0 (aF sb gf outv fvs) (w.alloc (.cells #[] 440)) F ⟨below++[f.push (bC i)],i::l,out⟩ W/\W.cell? ⟨sb,2,none⟩=some (.slice (some ⟨g,o,none⟩) (l.length+1) c)/\∀k,F k->W.heap[k]?=(w.alloc (.cells #[] 440)).heap[k]?) rfl I (by omega) (r.topS q) t A.1 (fun W v=>?_) (fun W u=>?_) (fun W O c' u z=>?_)).mono ?_
  ·refine((r.same v).pushK (PV.num F W i A.2.1 A.2.2) (by rw[kA];omega) (by omega)).mono ?_
   rintro e n ⟨Y,m,s,C⟩;refine⟨Y,m,?_,fun k S=>by rw[C k S,v.heap]⟩
   have G:n.cell? ⟨sb,2,none⟩=W.cell? ⟨sb,2,none⟩:=World.cell?_of_block s;rw[G];exact bB v.heap t
  ·obtain⟨D,_,q2,Q,N,_⟩:=u.1.tapes;exact⟨u.2.1,Q,N⟩
  ·obtain⟨m,s,C⟩:=u;obtain⟨D,_,_,_,_,V⟩:=m.tapes;refine(V _ l ?_).done (Ext.refl _ _);by_cases L:l=[]
   ·subst L;exact av_ ⟨rfl,_,_,rfl⟩
   ·have E:l.length≠0:=fun e=>L (aN_ e)
    rcases z with z|⟨rfl,rfl⟩
    ·exact absurd z E
    ·refine as_ ⟨g,o+1,c-1,rfl,by omega,p,fun j Z=>?_⟩
     have d:=a (j+1) (by simp;omega)
     simp only[List.getElem_cons_succ] at d;refine⟨?_,d.2⟩;have G:W.cell? ⟨g,o+1+j,none⟩=(w.alloc (.cells #[] 440)).cell? ⟨g,o+1+j,none⟩:=World.cell?_of_block (C g p);rw[G,show o+1+j=o+(j+1) by omega];exact d.1
  ·rintro e n ⟨rfl,s⟩;exact⟨av_ ⟨rfl,rfl⟩,s⟩
end
def PO(w c:World)(sb h i gf a:Nat)(P:World->Prop)(Q:TypeId->Value->World->Prop)(j:w.alloc (.cells #[] 363)=c)(g:1<=a)
 (o:Hid (∀W,aQ c W->Calls prog 158 #[.pointer (some ⟨sb,0,none⟩)] W fun e b=>e=.returned (.pointer (some ⟨h,i,none⟩))/\aQ c b))
 (k:Hid (∀W,aQ c W->Calls prog 171 #[.pointer (some ⟨h,i,none⟩)] W fun e b=>∃t z,e=.returned (.iface t z)/\Q t z b))
 (p:Hid (∀W t z,Q t z W->W.cell? ⟨sb,1,none⟩=some (.slice (some ⟨gf,0,none⟩) 1 a)/\W.frozen? ⟨sb,1,none⟩=false/\sb<W.heap.size))
 (l:Hid (∀W t z,Q t z W->P (W.drew.setCell ⟨sb,1,none⟩ (.slice (some ⟨gf,0,none⟩) 0 a)))):
 Calls prog 372 #[.agg #[],.pointer (some ⟨sb,0,none⟩)] w fun e b=>e=.returned (.tuple #[])/\P b:=by
 have m:=aB j;have u:(0:Int)<=(a:Int):=by omega
 clear j;go_enter Tryz.func372,Tryz.ntmps372;go_wp2_with fail;rw[m.out];refine(o.out _ (aQ.refl _)).mono ?_;rintro e x ⟨rfl,d⟩;go_wp2_with fail;refine(k.out _ d).mono ?_;rintro e s ⟨t,z,rfl,f⟩;obtain⟨r,v,q⟩:=p.out _ _ _ f;have n:=aB (l.out _ _ _ f);clear f;go_wp2_with fail;go_region
 all_goals
  go_wp2_with fail;go_end0;exact⟨rfl,n.out⟩
def PM(w c:World)(sb i k gf b n o m:Nat)(P:World->Prop)(Q j:TypeId->Value->World->Prop)(l:w.alloc (.cells #[] 363)=c)(h:n+2<=b)(B:n<=1000)
 (v:Hid (∀W,aQ c W->Calls prog 158 #[.pointer (some ⟨sb,0,none⟩)] W fun e a=>e=.returned (.pointer (some ⟨i,k,none⟩))/\aQ c a))
 (q:Hid (∀W,aQ c W->Calls prog 171 #[.pointer (some ⟨i,k,none⟩)] W fun e a=>∃t z,e=.returned (.iface t z)/\Q t z a))
 (y:Hid (∀W t z,Q t z W->W.cell? ⟨sb,1,none⟩=some (.slice (some ⟨gf,0,none⟩) (n+2) b)/\W.frozen? ⟨sb,1,none⟩=false/\sb<W.heap.size))
 (g:Hid (∀W t z,Q t z W->Calls prog 158 #[.pointer (some ⟨sb,0,none⟩)] (W.drew.setCell ⟨sb,1,none⟩ (.slice (some ⟨gf,0,none⟩) (n+1) b)) fun e a=>e=.returned (.pointer (some ⟨o,m,none⟩))/\j t z a))
 (s:Hid (∀W t z,j t z W->Calls prog 371 #[.pointer (some ⟨o,m,none⟩),.iface t z] W fun e a=>e=.returned (.tuple #[])/\P a)):
 Calls prog 372 #[.agg #[],.pointer (some ⟨sb,0,none⟩)] w fun e a=>e=.returned (.tuple #[])/\P a:=by
 have r:=aB l;have L:(0:Int)<=(n:Int)+1:=by omega
 have H:(n:Int)+1<=(b:Int):=by omega
 have E:(0:Int)<(n:Int)+1:=by omega
 have K:(n:Int)+2-1=(n:Int)+1:=by omega
 clear l;go_enter Tryz.func372,Tryz.ntmps372;go_wp2_with fail;rw[r.out];refine(v.out _ (aQ.refl _)).mono ?_;rintro e J ⟨rfl,d⟩;go_wp2_with fail;refine(q.out _ d).mono ?_;rintro e G ⟨t,z,rfl,f⟩;obtain⟨D,I,A⟩:=y.out _ _ _ f;have u:=aB (g.out _ _ _ f);clear f;go_wp2_with fail;go_region
 all_goals
  go_wp2_with fail;refine u.out.mono ?_;rintro e F ⟨rfl,x⟩;go_wp2_with fail;refine(s.out _ _ _ x).mono ?_;rintro e C ⟨rfl,p⟩;go_wp2_with fail;go_end0;exact⟨rfl,p⟩
section
variable {fp:Nat->Value} {F:Nat->Prop} {base:Nat} {w:World} {sb gf cap:Nat} {t0 tv outv s0:Value} {fvs:List FVal} {below:List aI} {f:aI} {tape:List Int} {out:List (List UInt8)}
def cT.dropTop{a:List FVal}{v:FVal}(h:cT fp F base w sb gf cap t0 tv outv s0 (a++[v]) ⟨below++[f],tape,out⟩):
 cT fp F base (w.setCell ⟨sb,1,none⟩ (.slice (some ⟨gf,0,none⟩) a.length cap)) sb gf cap t0 tv outv s0 a ⟨below,tape,out⟩/\Kept (aF sb gf outv (a++[v])) w (w.setCell ⟨sb,1,none⟩ (.slice (some ⟨gf,0,none⟩) a.length cap)):=by
 generalize E:Value.slice (some ⟨gf,0,none⟩) a.length cap=V;have m:∀k,k≠sb->(w.setCell ⟨sb,1,none⟩ V).heap[k]?=w.heap[k]?:=fun k m=>ax_ _ _ _ _ m
 have o:=(aK_.1 h.nodup).1;have d:aT (a++[v])=aT a++v.owns:=by simp[aT]
 have g:∀k,k∈aF sb gf outv a->k∈aF sb gf outv (a++[v]):=fun k j=>by
  unfold aF at j ⊢
  rw[d];simp only[aG_,aE_] at j ⊢
  rcases j with l|l|l|l
  ·exact av_ l
  ·exact as_ (av_ l)
  ·exact as_ (as_ (av_ l))
  ·exact as_ (as_ (as_ (av_ l)))
 have n:∀b,F b->(w.setCell ⟨sb,1,none⟩ V).heap[b]?=w.heap[b]?:=fun b t=>m b fun e=>(h.apart b t).2 (by simp[aF,e])
 have i:∀k,k∈gf::(outv.ownBlock.toList++aT (a++[v]))->(w.setCell ⟨sb,1,none⟩ V).heap[k]?=w.heap[k]?:=fun k j=>m k fun e=>o (by rw[<-e];exact j)
 obtain⟨x,I,e,q,K⟩:=iR.unsnoc h.frs;obtain⟨rfl,J⟩:=bh_ e rfl;refine⟨⟨?_,?_,q.keep n (fun _ h=>h) fun u z k c=>i k ?_,h.tape.keep n fun _ h=>h,aY h.out fun k c=>i k (by simp[c]),?_,fun k c=>az_ (h.lt k (g k c)) (by simp),fun k c=>⟨az_ (h.apart k c).1 (by simp),fun j=>(h.apart k c).2 (g k j)⟩⟩,⟨rfl,rfl,rfl,by simp,fun k _ y=>m k fun e=>y (by simp[aF,e])⟩⟩
 ·rw[aS h.blk,<-E];rfl
 ·rcases h.row.2 with ⟨p,_⟩|⟨L,M,r,p,H,B,D,A,C,s⟩
  ·cases p
  ·cases p;rw[aw_] at D s;refine⟨by rw[dZ],as_ ⟨gf,cap,r,rfl,H,?_,by omega,A,C,?_⟩⟩
   ·rw[i gf (by simp)];exact B
   ·have:=congrArg (List.take (a.length*6)) s;rw[bO_,show min (a.length*6) ((a.length+[v].length)*6)=a.length*6 by simp,jL] at this
    rw[this,List.take_left' (by rw[dZ])]
 ·have:k∈aT a:=bt_.2 ⟨u,z,c⟩;rw[d];simp[this]
 ·have G:aF sb gf outv (a++[v])=aF sb gf outv a++v.owns:=by simp[aF,d]
  have:=h.nodup;rw[G] at this;exact(be_.1 this).1
def xW(sb gf:Nat)(a:Value)(b:List FVal)(v:FVal):∀k,k∈aF sb gf a b->k∈aF sb gf a (b++[v]):=fun k d=>by
 have c:aF sb gf a (b++[v])=aF sb gf a b++v.owns:=by simp[aF,aT]
 rw[c];exact aP_ _ d
def j4(fp:Nat->Value)(F:Nat->Prop)(base sb gf cap:Nat)(t0 tv outv s0:Value)(fb:List FVal)(v:FVal)(below:List aI)(f:aI)(tape:List Int)(out:List (List UInt8))(w0:World)(a:aJ)(t:TypeId)(z:Value)(W:World):Prop:=
 PV F W (.iface t z) a/\aK a<=200/\∃v',v'.owns=v.owns/\cT fp F base W sb gf cap t0 tv outv s0 (fb++[v']) ⟨below++[f.pop],tape,out⟩/\Kept (aF sb gf outv (fb++[v])) w0 W
def j4.gone{b:List FVal}{v:FVal}{c W:World}{a:aJ}{t:TypeId}{z:Value}(o:j4 fp F base sb gf cap t0 tv outv s0 b v below f tape out c a t z W):
 PV F (W.drew.setCell ⟨sb,1,none⟩ (.slice (some ⟨gf,0,none⟩) b.length cap)) (.iface t z) a/\cT fp F base (W.drew.setCell ⟨sb,1,none⟩ (.slice (some ⟨gf,0,none⟩) b.length cap)) sb gf cap t0 tv outv s0 b ⟨below,tape,out⟩/\Kept (aF sb gf outv (b++[v])) c (W.drew.setCell ⟨sb,1,none⟩ (.slice (some ⟨gf,0,none⟩) b.length cap)):=by
 obtain⟨r,s,m,n,g,i⟩:=o;have p:=g.grow (aQ.drew W).below (fun _ h=>h) (fun _ h=>av_ h)
 obtain⟨l,d⟩:=p.dropTop;have e:aF sb gf outv (b++[m])=aF sb gf outv (b++[v]):=by simp[aF,aT,n]
 rw[e] at d;refine⟨(r.keep (w':=W.drew) fun _ _=>rfl).keep fun k j=>ax_ _ _ _ _ fun e=>(g.apart k j).2 (by simp[aF,e]),l,(i.trans (Kept.of_below (own:=[]) (aQ.drew W).below) (fun x q=>by simp at q)).trans d fun _ h=>av_ h⟩
def Y7(s:List dY)(h:cT fp F base w sb gf cap t0 tv outv s0 fvs ⟨below++[f],tape,out⟩)(o:below.length<=15)(j:base<=w.heap.size)(K:f.ops.length<=99000)(D:∃O a,f.ops=O++[a])(H:∀g∈below,g.ops.length<=99000):
 Calls prog 372 #[.agg #[],.pointer (some ⟨sb,0,none⟩)] w (v8 fp F base sb t0 s0 (aF sb gf outv fvs) w (Hs.doI s .give below f tape out)):=by
 obtain⟨O,a,L⟩:=D;have T:=h.mid j (.cells #[] 363);obtain⟨b,v,X,rfl,r, -, -, -,n, -⟩:=h.top;have q:Below w.heap.size w (w.alloc (.cells #[] 363)):=(ay_ _ w).alloc (au_ _) _;have U:=h.grow q (fun _ h=>h) (fun _ h=>av_ h)
 have G:=T.topS o;rw[<-r] at G
 have J:Hid (∀W,aQ (w.alloc (.cells #[] 363)) W->Calls prog 171 #[.pointer (some ⟨gf,b.length*6,none⟩)] W fun e m=>∃t z,e=.returned (.iface t z)/\j4 fp F base sb gf cap t0 tv outv s0 b v below f tape out (w.alloc (.cells #[] 363)) a t z m):=fun W I=>by
  refine((U.grow I.below (fun _ h=>h) (fun _ h=>av_ h)).popR L (by omega)).mono ?_
  rintro e m ⟨t,z,aa,y,h1,u,Z,B,S,h6⟩;exact⟨t,z,y,h1,u,_,by simp[FVal.owns,Z],B,(Kept.of_below (own:=aF sb gf outv (b++[v])) I.below).trans S fun _ h=>av_ h⟩
 have P:∀W t z,j4 fp F base sb gf cap t0 tv outv s0 b v below f tape out (w.alloc (.cells #[] 363)) a t z W->W.cell? ⟨sb,1,none⟩=some (.slice (some ⟨gf,0,none⟩) (b.length+1) cap)/\W.frozen? ⟨sb,1,none⟩=false/\sb<W.heap.size:=fun W t z i=>by
  obtain⟨_,_,Y,_,B,_⟩:=i;have d:=B.blk;rw[show (b++[Y]).length=b.length+1 by simp] at d
  exact⟨aA d rfl,aE d,aD d⟩
 rcases bo_ below with rfl|⟨l,g,A⟩
 ·obtain rfl:b=[]:=aN_ r;refine(PO w _ sb gf 0 gf cap (fun m=>Done fp F base sb t0 s0 (aF sb gf outv ([]++[v])) w ⟨[],tape,out⟩ m) _ rfl (by simpa using n) G J P fun W t z i=>?_).mono ?_
  ·obtain⟨_,C,x⟩:=i.gone;exact⟨(Kept.of_below q).trans x fun _ h=>av_ h,F,gf,cap,tv,outv,[],Ext.refl _ _,C,fun k E=>av_ (xW sb gf outv [] v k E)⟩
  ·rintro e m ⟨rfl,u⟩;exact⟨av_ ⟨rfl,rfl⟩,u⟩
 ·rw[bp_] at A;subst A;have c:b.length=l.length+1:=by simpa using r
  have V:l.length<=14:=by simp at o;omega
  rw[c] at n;have Q:Hs.doI s .give (l++[g]) f tape out=(⟨l++[g.push a],tape,out⟩,0):=by simp[Hs.doI,iS L]
  rw[Q];refine(PM w _ sb gf (b.length*6) gf cap l.length gf (l.length*6) (fun m=>Done fp F base sb t0 s0 (aF sb gf outv (b++[v])) w ⟨l++[g.push a],tape,out⟩ m) _ (fun t z W=>PV F W (.iface t z) a/\aK a<=200/\Mid fp base sb gf l.length t0 s0 (aF sb gf outv (b++[v])) (w.alloc (.cells #[] 363)) F ⟨l++[g],tape,out⟩ W) rfl (by omega) (by omega) G J (fun W t z i=>?_) (fun W t z i=>?_) (fun W t z i=>?_)).mono ?_
  ·have:=P W t z i;rw[c] at this;exact this
  ·obtain⟨M,C,x⟩:=i.gone;rw[c] at M C x;have p:Mid fp base sb gf l.length t0 s0 (aF sb gf outv (b++[v])) (w.alloc (.cells #[] 363)) F ⟨l++[g],tape,out⟩ _:=⟨x,aF_ j (aF_ q.size x.size),cap,tv,outv,b,c,C,fun k E=>av_ (xW sb gf outv b v k E)⟩
   refine(p.top (by omega)).mono ?_
   rintro e m ⟨y,N⟩;exact⟨y,M.keep (fun _ _=>by rw[N.heap]),i.2.1,p.same N⟩
  ·refine(i.2.2.push i.1 i.2.1 (by have:=H g (by simp);omega)).mono ?_
   rintro e m ⟨y,B⟩;exact⟨y,B.done (Ext.refl _ _)⟩
  ·rintro e m ⟨rfl,u⟩;exact⟨av_ ⟨rfl,rfl⟩,u⟩
end
def RJ(w j:World)(sb n o gf m f:Nat)(b:Option Addr)(S:World->Prop)(Q:Option Addr->Nat->World->Prop)(k:w.alloc (.cells #[.pointer b,.int .i64 f] 442)=j)
 (s:Hid (∀W,aQ j W->Calls prog 158 #[.pointer (some ⟨sb,0,none⟩)] W fun e g=>e=.returned (.pointer (some ⟨n,o,none⟩))/\aQ j g))
 (p:Hid (∀W,aQ j W->Calls prog 377 #[.pointer (some ⟨n,o,none⟩),.int .i64 f] W fun e g=>∃x d,e=.returned (.slice x f d)/\Q x d g))
 (v:Hid (∀W x d,Q x d W->W.cell? ⟨sb,1,none⟩=some (.slice (some ⟨gf,0,none⟩) 16 m)/\S W)):
 Calls prog 402 #[.agg #[.pointer b,.int .i64 f],.pointer (some ⟨sb,0,none⟩)] w fun e g=>e=fH 5/\S g:=by
 have a:(w.alloc (.cells #[.pointer b,.int .i64 f] 442)).heap[w.heap.size]?=some (.cells #[.pointer b,.int .i64 f] 442 (0,0)):=aM _ _ rfl _;rw[k] at a;have r:=aB k;have h:=aB (aA (i:=1) a rfl);have B:=h.out;have l:=aD a;clear k a;go_enter Tryz.func402,Tryz.ntmps402;go_wp2_with fail;rw[r.out];go_region_law (go_simp;first|(go_at_call 158;refine(s.out _ (aQ.drew _)).mono ?_;rintro e D ⟨rfl,c⟩;have C:=bB c.heap h.out;have A:=gM c.heap l)|(go_at_call 377;refine(p.out _ c).mono ?_;rintro e z ⟨x,d,rfl,q⟩;have t:=v.out _ _ _ q;obtain⟨y,u⟩:=t))
 all_goals
  go_wp2_with fail;exact⟨rfl,rfl,u⟩
def IN:(prog.info? 195).map (fun i=>(i.zero,i.size,i.bytes))=some (some (.agg #[.pointer none,.int .i64 0,.int .i64 0,.pointer none,.slice none 0 0,.slice none 0 0]),6,80):=by kernel_rfl
def TQ(w:World)(a d e f b c:Value):∀j u,([a,d,e,f,b,c]:List Value)[j]?=some u->(w.alloc (.cells #[a,d,e,f,b,c] 195)).cell? ((⟨w.heap.size,0,none⟩:Addr).add j)=some u:=by
 intro j u g;exact World.news_of_block (cs:= #[a,d,e,f,b,c]) (aM _ _ rfl _) j u g
def ZB(x y:Option Addr)(c d:Nat):∀u∈([.pointer x,.int .i64 0,.int .i64 0,.pointer none,.slice y c d,.slice none 0 0]:List Value),u.oneCell'=true:=by
 intro u a;simp at a;rcases a with rfl|rfl|rfl|rfl|rfl<;>rfl
def RI(w s:World)(sb D E gf m j base n:Nat)(a:Option Addr)(P:World->Prop)(Q:Option Addr->Nat->List Value->World->Prop)(B:w.alloc (.cells #[.pointer a,.int .i64 j] 442)=s)(U:n<=15)
 (L:Hid (∀W,aQ s W->Calls prog 158 #[.pointer (some ⟨sb,0,none⟩)] W fun e o=>e=.returned (.pointer (some ⟨D,E,none⟩))/\aQ s o))
 (F:Hid (∀W,aQ s W->Calls prog 377 #[.pointer (some ⟨D,E,none⟩),.int .i64 j] W fun e o=>∃x d f,e=.returned (.slice x j d)/\Q x d f o))
 (S:Hid (∀W x d f,Q x d f W->W.cell? ⟨sb,1,none⟩=some (.slice (some ⟨gf,0,none⟩) n m)/\W.cell? ⟨w.heap.size,0,none⟩=some (.pointer a)/\w.heap.size<W.heap.size/\sb<W.heap.size/\base<=W.heap.size))
 (N:Hid (∀W x d f,Q x d f W->W.drew.ownsRow base 195 6 (.slice (some ⟨gf,0,none⟩) n m) n f))
 (G:Hid (∀W x d f,Q x d f W->∀h:World,(W.drew.alloc (.cells #[.pointer a,.int .i64 0,.int .i64 0,.pointer none,.slice x j d,.slice none 0 0] 195)).grownBy h (some gf)->(∃u,h.cell? ⟨sb,1,none⟩=some u)/\h.frozen? ⟨sb,1,none⟩=false/\sb<h.heap.size))
 (H:Hid (∀W x d f,Q x d f W->∀q g (h:World),h.ownsRow base 195 6 (.slice (some ⟨q,0,none⟩) (n+1) g) (n+1) (f++[.pointer a,.int .i64 0,.int .i64 0,.pointer none,.slice x j d,.slice none 0 0])->(W.drew.alloc (.cells #[.pointer a,.int .i64 0,.int .i64 0,.pointer none,.slice x j d,.slice none 0 0] 195)).grownBy h (some gf)->(some gf=some q\/q=W.heap.size+1)->P (h.setCell ⟨sb,1,none⟩ (.slice (some ⟨q,0,none⟩) (n+1) g)))):
 Calls prog 402 #[.agg #[.pointer a,.int .i64 j],.pointer (some ⟨sb,0,none⟩)] w fun e o=>e=.returned (.tuple #[])/\P o:=by
 obtain⟨T,J,v,y,A⟩:=info_parts IN;have c:(w.alloc (.cells #[.pointer a,.int .i64 j] 442)).heap[w.heap.size]?=some (.cells #[.pointer a,.int .i64 j] 442 (0,0)):=aM _ _ rfl _;rw[B] at c;have I:=aB B;have p:=aB (aA (i:=1) c rfl);have c0:=p.out;have C:=aD c;have Y:((n:Int)==16)=false:=by simp;omega
 clear B c;go_enter Tryz.func402,Tryz.ntmps402;go_wp2_with fail;rw[I.out];go_region_law (go_simp;first|(go_at_call 158;refine(L.out _ (aQ.drew _)).mono ?_;rintro e w1 ⟨rfl,k⟩;have d1:=bB k.heap p.out;have d2:=gM k.heap C)|(go_at_call 377;refine(F.out _ k).mono ?_;rintro e z ⟨x,d,f,rfl,t⟩;have M:=S.out _ _ _ _ t;obtain⟨V,y2,y3,y4,y5⟩:=M))
 all_goals
  go_wp2_with fail;go_region_law (refine step_append_lies _ (by rfl) _ _ 106 (by rfl) base 195 T _ 6 80 Tryz.underlying106 J v y A rfl (by decide) (.slice (some ⟨gf,0,none⟩) n m) n f (by rfl) ((N.out _ _ _ _ t).alloc _) ⟨z.heap.size,0,none⟩ 1 1 [.pointer a,.int .i64 0,.int .i64 0,.pointer none,.slice x j d,.slice none 0 0] (by rfl) (by rfl) (TQ z.drew _ _ _ _ _ _) (ZB _ _ _ _) (by decide) (by unfold maxLen;omega) (by omega) (by simp;omega) (z.heap.size+1) (by simp) ?_;intro q g h l b r K;have O:=G.out _ _ _ _ t h b;obtain⟨⟨u5,Z⟩,X,z3⟩:=O)
  all_goals
   go_wp2_with fail;go_end0;exact⟨rfl,H.out _ _ _ _ t _ _ _ l b r⟩
def KR{w:World}{b f:Nat}{e:TypeId}{a:Nat}{v:Value}{n:Nat}{xs:List Value}(h:w.ownsRow f e a v n xs)(j:b<=f):w.ownsRow b e a v n xs:=by
 rcases h with ⟨i,k|⟨g,c,d,l,o,m⟩⟩
 ·exact⟨i,av_ k⟩
 ·exact⟨i,as_ ⟨g,c,d,l,aF_ j o,m⟩⟩
section
variable {fp:Nat->Value} {F:Nat->Prop} {base:Nat} {w:World} {sb gf cap:Nat} {t0 tv outv s0:Value} {fvs:List FVal} {below:List aI} {f:aI} {tape:List Int} {out:List (List UInt8)}
def cT.called{m:cF}{Z:dY}{us:List aJ}{X:List Value}{x j:Option Addr}{d l f B:Nat}{o:World}(h:cT fp F base w sb gf cap t0 tv outv s0 fvs m)(S:F6 fp F w (.pointer j) Z)(hB:base<=B)(i:∀k∈aF sb gf outv fvs,k<B)(P:∀k,F k->k<B)
 (D:w.ownsRow B 256 1 (.slice x us.length d) us.length X) (W:fT F w X us) (T:∀a∈us,aK a<=200)
 (s:o.ownsRow base 195 6 (.slice (some ⟨l,0,none⟩) (fvs.length+1) f) (fvs.length+1) (fV fvs++[.pointer j,.int .i64 0,.int .i64 0,.pointer none,.slice x us.length d,.slice none 0 0]))
 (L:(w.drew.alloc (.cells #[.pointer j,.int .i64 0,.int .i64 0,.pointer none,.slice x us.length d,.slice none 0 0] 195)).grownBy o (some gf)) (A:some gf=some l\/l=w.heap.size+1):
 cT fp F base (o.setCell ⟨sb,1,none⟩ (.slice (some ⟨l,0,none⟩) (fvs.length+1) f)) sb l f t0 tv outv s0 (fvs++[⟨.pointer j,.int .i64 0,.int .i64 0,.pointer none,.slice x us.length d,.slice none 0 0⟩]) ⟨m.frames++[⟨Z,0,0,[],us,[]⟩],m.tape,m.out⟩/\
  Kept (aF sb gf outv fvs) w (o.setCell ⟨sb,1,none⟩ (.slice (some ⟨l,0,none⟩) (fvs.length+1) f)):=by
 generalize O:Value.slice (some ⟨l,0,none⟩) (fvs.length+1) f=V at*;have q:=aK_.1 h.nodup;have y:=aK_.1 q.2;have G:sb≠gf:=fun e=>q.1 (by simp[e])
 have Q:=aD h.blk
 have J:l≠sb:=by
  rcases A with e|e
  ·cases e;exact fun e=>G e.symm
  ·omega
 have aa:l<o.heap.size:=by
  subst O;exact cK s l rfl
 have K:∀k,k<w.heap.size->k≠gf->o.heap[k]?=w.heap[k]?:=fun k C I=>by
  rw[L.block k (by simp;omega) (fun e=>I (by cases e;rfl)),aA_ _ _ _ (by exact C)];rfl
 have M:∀k,k<w.heap.size->k≠gf->k≠sb->(o.setCell ⟨sb,1,none⟩ V).heap[k]?=w.heap[k]?:=fun k C I h3=>by
  rw[ax_ _ _ _ _ h3,K k C I]
 have t:∀b,F b->(o.setCell ⟨sb,1,none⟩ V).heap[b]?=w.heap[b]?:=fun b E=>M b (h.apart b E).1 (fun e=>(h.apart b E).2 (by simp[aF,e])) (fun e=>(h.apart b E).2 (by simp[aF,e]))
 have H:∀k,k∈outv.ownBlock.toList++aT fvs->(o.setCell ⟨sb,1,none⟩ V).heap[k]?=w.heap[k]?:=fun k c=>M k (h.lt k (by unfold aF;exact aJ_ _ (aJ_ _ c))) (fun e=>y.1 (by rw[<-e];exact c)) (fun e=>q.1 (by rw[<-e];exact aJ_ _ c))
 have U:w.heap.size<=(o.setCell ⟨sb,1,none⟩ V).heap.size:=aF_ (by simp) (aF_ L.size (by simp))
 have p:∀k,(Value.slice x us.length d).ownBlock=some k->B<=k/\k<w.heap.size:=fun k e=>⟨cC D k e,cK D k e⟩
 have n:∀k,(Value.slice x us.length d).ownBlock=some k->k≠gf/\k≠sb:=fun k e=>by
  have C:=i gf (by simp[aF])
  have I:=i sb (by simp[aF])
  have:=(p k e).1;omega
 have z:(⟨.pointer j,.int .i64 0,.int .i64 0,.pointer none,.slice x us.length d,.slice none 0 0⟩:FVal).owns=(Value.slice x us.length d).ownBlock.toList:=by simp[FVal.owns,show (Value.slice none 0 0).ownBlock=none from rfl]
 have r:aF sb l outv (fvs++[⟨.pointer j,.int .i64 0,.int .i64 0,.pointer none,.slice x us.length d,.slice none 0 0⟩])=sb::l::((outv.ownBlock.toList++aT fvs)++(Value.slice x us.length d).ownBlock.toList):=by simp[aF,aT,z]
 have u:(fvs++[(⟨.pointer j,.int .i64 0,.int .i64 0,.pointer none,.slice x us.length d,.slice none 0 0⟩:FVal)]).length=fvs.length+1:=by simp
 refine⟨⟨?_,?_,?_,h.tape.keep t fun _ h=>h,aY h.out fun k g=>H k (by simp[g]),?_,?_,?_⟩,?_⟩
 ·rw[u,aS (show o.heap[sb]?=_ from (K sb Q G).trans h.blk),O];rfl
 ·rw[u,jL,O];subst O;exact aY s fun k g=>ax_ _ _ _ _ (by cases g;exact J)
 ·refine(h.frs.keep t (fun _ h=>h) fun v hv k g=>H k (aL_ _ (bt_.2 ⟨v,hv,g⟩))).snoc ⟨S.keep t fun _ h=>h,rfl,rfl,rfl,⟨⟨X,?_,W.keep t⟩,T⟩,⟨⟨[],World.ownsRow_nil _ _ _ _,fT.nil _ _⟩,fun _ h=>by simp at h⟩⟩
  exact aY (KR D hB) fun k e=>M k (p k e).2 (n k e).1 (n k e).2
 ·rw[r];refine aK_.2 ⟨?_,aK_.2 ⟨?_,be_.2 ⟨y.2,by cases (Value.slice x us.length d).ownBlock<;>simp,?_⟩⟩⟩
  ·intro c;simp only[aG_,aE_] at c;rcases c with e|(e|e)|e
   ·exact J e.symm
   ·exact q.1 (by simp[e])
   ·exact q.1 (by simp[e])
   ·exact(n sb (by simpa using e)).2 rfl
  ·intro c;rcases A with e|e
   ·cases e;rcases aE_.1 c with c|c
    ·exact y.1 c
    ·exact(n gf (by simpa using c)).1 rfl
   ·rcases aE_.1 c with c|c
    ·have:=h.lt l (by unfold aF;exact aJ_ _ (aJ_ _ c));omega
    ·have:=(p l (by simpa using c)).2;omega
  ·intro a ha b E e;subst e;have C:=i a (by unfold aF;exact aJ_ _ (aJ_ _ ha))
   have I:=(p a (by simpa using E)).1
   omega
 ·intro k c;rw[r] at c;have h5:o.heap.size<=(o.setCell ⟨sb,1,none⟩ V).heap.size:=by simp
  simp only[aG_,aE_] at c;rcases c with e|e|(e|e)|e
  ·rw[e];omega
  ·rw[e];omega
  ·have:=h.lt k (by simp[aF,e]);omega
  ·have:=h.lt k (by simp[aF,e]);omega
  ·have:=(p k (by simpa using e)).2;omega
 ·intro k g;obtain⟨a1,N⟩:=h.apart k g;refine⟨by omega,fun c=>?_⟩
  rw[r] at c;simp only[aG_,aE_] at c;rcases c with e|e|(e|e)|e
  ·exact N (by simp[aF,e])
  ·rcases A with e2|e2
   ·cases e2;exact N (by simp[aF,e])
   ·omega
  ·exact N (by simp[aF,e])
  ·exact N (by simp[aF,e])
  ·have:=(p k (by simpa using e)).1;have:=P k g;omega
 ·exact⟨L.os.trans rfl,L.tape.trans rfl,L.output.trans rfl,U,fun k C Y=>M k C (fun e=>Y (by simp[aF,e])) (fun e=>Y (by simp[aF,e]))⟩
def ClQ(fp:Nat->Value)(F:Nat->Prop)(base sb gf cap:Nat)(t0 tv outv s0:Value)(fvs:List FVal)(below:List aI)(f:aI)(tape:List Int)(out:List (List UInt8))(w0:World)(us:List aJ)(x:Option Addr)(d:Nat)(xs:List Value)(W:World):Prop:=
 ∃fvs' ys,xs=fV fvs'/\Kept (aF sb gf outv fvs) w0 W/\aF sb gf outv fvs'=aF sb gf outv fvs/\fvs'.length=fvs.length/\cT fp F base W sb gf cap t0 tv outv s0 fvs' ⟨below++[f.popMany us.length],tape,out⟩/\
  W.ownsRow w0.heap.size 256 1 (.slice x us.length d) us.length ys/\fT F W ys us/\(∀a∈us,aK a<=200)/\∀k,F k->W.heap[k]?=w0.heap[k]?
def d9(z:List dY)(k:Nat)(X:dY)(vs us:List aJ)(h:cT fp F base w sb gf cap t0 tv outv s0 fvs ⟨below++[f],tape,out⟩)(C:below.length<=15)(E:base<=w.heap.size)(ad:f.ops.length<=99000)(hf:f.ops=vs++us)(Y:lA fp F w z)(hk:z[k]?=some X):
 Calls prog 402 #[.agg #[fp k,.int .i64 us.length],.pointer (some ⟨sb,0,none⟩)] w (v8 fp F base sb t0 s0 (aF sb gf outv fvs) w (Hs.doI z (.call k us.length) below f tape out)):=by
 have G:=Y k X hk;have H:∃q,fp k=.pointer q:=by obtain⟨fb,gc,cp,ae,e,_⟩:=G;exact⟨_,e⟩
 obtain⟨g,H⟩:=H;rw[H] at G ⊢
 have hM:=h.mid E (.cells #[.pointer g,.int .i64 us.length] 442);have I:Below w.heap.size w (w.alloc (.cells #[.pointer g,.int .i64 us.length] 442)):=(ay_ _ w).alloc (au_ _) _;have h0:=h.grow I (fun _ h=>h) (fun _ h=>av_ h)
 have V:fvs.length=below.length+1:=by rw[h.count];simp
 have D:(w.alloc (.cells #[.pointer g,.int .i64 us.length] 442)).heap[w.heap.size]?=some (.cells #[.pointer g,.int .i64 us.length] 442 (0,0)):=aM _ _ rfl _;have hm:f.many us.length=us:=by simp[aI.many,hf]
 have hr:Hs.doI z (.call k us.length) below f tape out=if below.length+1=16 then (⟨below++[f.popMany us.length],tape,out⟩,5) else (⟨(below++[f.popMany us.length])++[⟨X,0,0,[],us,[]⟩],tape,out⟩,0):=by
  simp[Hs.doI,hm,hk]
 rw[hr];have U:w.heap.size<(w.alloc (.cells #[.pointer g,.int .i64 us.length] 442)).heap.size:=aD D;generalize P:w.alloc (.cells #[.pointer g,.int .i64 us.length] 442)=A at*
 have HP:∀W,aQ A W->Calls prog 377 #[.pointer (some ⟨gf,below.length*6,none⟩),.int .i64 us.length] W fun e y=>∃x d t,e=.returned (.slice x us.length d)/\ClQ fp F base sb gf cap t0 tv outv s0 fvs below f tape out A us x d t y:=fun W N=>by
  refine((h0.grow N.below (fun _ h=>h) (fun _ h=>av_ h)).popMany hf (by omega)).mono ?_
  rintro e y ⟨v',O,c,he,n,u,s,l,v,M,K,L⟩;rw[N.heap] at v;obtain⟨x,d,rfl⟩:=cU v;exact⟨x,d,_,he,c,O,rfl,(Kept.of_below (own:=aF sb gf outv fvs) N.below).trans n fun _ h=>av_ h,u,s,l,v,M,K,fun j m=>by rw[L j m,N.heap]⟩
 have HK:∀{W W'},Kept (aF sb gf outv fvs) A W->Kept (aF sb gf outv fvs) W W'->Kept (aF sb gf outv fvs) w W':=fun a b=>((Kept.of_below (own:=aF sb gf outv fvs) I).trans a fun _ h=>av_ h).trans b fun _ h=>av_ h
 by_cases p:below.length+1=16
 ·rw[if_pos p];refine(RJ w A sb gf (below.length*6) gf cap us.length g (fun y=>Done fp F base sb t0 s0 (aF sb gf outv fvs) w ⟨below++[f.popMany us.length],tape,out⟩ y) (fun x d W=>∃t,ClQ fp F base sb gf cap t0 tv outv s0 fvs below f tape out A us x d t W) P (hM.topS C) (fun W N=>?_) (fun W x d r=>?_)).mono ?_
  ·refine(HP W N).mono ?_;rintro e y ⟨x,d,t,he,r⟩;exact⟨x,d,he,t,r⟩
  ·obtain⟨t,c,O,_,n,u,s,l,_⟩:=r;have i:=l.blk;rw[s,V,p] at i;exact⟨aA i rfl,HK n (Kept.refl _ _),F,gf,cap,tv,outv,c,Ext.refl _ _,l,fun j m=>av_ (by rw[<-u];exact m)⟩
  ·rintro e y ⟨rfl,h2⟩;exact⟨as_ ⟨show (5:Nat)≠0 by decide,rfl⟩,h2⟩
 ·rw[if_neg p];refine(RI w A sb gf (below.length*6) gf cap us.length base fvs.length g (fun y=>Done fp F base sb t0 s0 (aF sb gf outv fvs) w ⟨(below++[f.popMany us.length])++[⟨X,0,0,[],us,[]⟩],tape,out⟩ y) (ClQ fp F base sb gf cap t0 tv outv s0 fvs below f tape out A us) P (by omega) (hM.topS C) HP (fun W x d t r=>?_) (fun W x d t r=>?_) (fun W x d t r=>?_) (fun W x d t r=>?_)).mono ?_
  ·obtain⟨c,O,_,n,u,s,l,v,M,K,L⟩:=r;have i:=l.blk;rw[s] at i;have Z:W.heap[w.heap.size]?=_:=(n.block w.heap.size U (fun hm=>Nat.lt_irrefl _ (h.lt _ hm))).trans D
   exact⟨aA i rfl,aA Z rfl,aD Z,aD i,by have:=n.size;omega⟩
  ·obtain⟨c,O,rfl,n,u,s,l,v,M,K,L⟩:=r;have:=l.row;rw[s] at this;exact aY this fun _ _=>rfl
  ·obtain⟨c,O,_,n,u,s,l,v,M,K,L⟩:=r;intro w5 hg;have ab:=aD l.blk;have aa:sb≠gf:=fun e=>(aK_.1 l.nodup).1 (by simp[e])
   have J:w5.heap[sb]?=_:=(hg.block sb (by simp;omega) (fun e=>aa (by cases e;rfl))).trans ((aA_ _ _ _ (by exact ab)).trans l.blk)
   exact⟨⟨_,aA J rfl⟩,aE J,aD J⟩
  ·obtain⟨c,O,rfl,n,u,s,l,v,M,K,L⟩:=r;intro g5 Q w5 o hg S;rw[<-s] at o ⊢
   have ac:F6 fp F W (.pointer g) X:=G.keep (fun b hb=>by rw[L b hb];exact I.block b (h.apart b hb).1) fun _ h=>h
   obtain⟨q1,q2⟩:=l.called (B:=A.heap.size) ac (by omega) (fun j m=>by rw[u] at m;exact h0.lt j m) (fun j m=>(h0.apart j m).1) v M K o hg S
   rw[u] at q2;refine⟨HK n q2,F,g5,Q,tv,outv,_,Ext.refl _ _,q1,fun j m=>?_⟩
   have T:aF sb g5 outv (c++[⟨.pointer g,.int .i64 0,.int .i64 0,.pointer none,.slice x us.length d,.slice none 0 0⟩])=sb::g5::((outv.ownBlock.toList++aT c)++(Value.slice x us.length d).ownBlock.toList):=by simp[aF,aT,FVal.owns,show (Value.slice none 0 0).ownBlock=none from rfl]
   rw[T] at m;rw[<-u];have af:=n.size;simp only[aG_,aE_] at m;rcases m with e|e|(e|e)|e
   ·exact av_ (by simp[aF,e])
   ·rcases S with e2|e2
    ·cases e2;exact av_ (by simp[aF,e])
    ·exact as_ (by omega)
   ·exact av_ (by simp[aF,e])
   ·exact av_ (by simp[aF,e])
   ·have:=cC v j (by simpa using e)
    exact as_ (by omega)
  ·rintro e y ⟨rfl,h2⟩;exact⟨av_ ⟨rfl,rfl⟩,h2⟩
end
def GN(w:World)(fa fj d m g n c:Nat)(W:World):Prop:=
 W.cell? ⟨w.heap.size,0,none⟩=some (.int .i64 d)/\W.cell? ⟨w.heap.size,1,none⟩=some (.int .i64 m)/\W.cell? ⟨fa,fj+4,none⟩=some (.slice (some ⟨g,0,none⟩) n c)
def GN.same{w W e:World}{b f d m g n c:Nat}(h:GN w b f d m g n c W)(a:aQ W e):GN w b f d m g n c e:=
 ⟨bB a.heap h.1,bB a.heap h.2.1,bB a.heap h.2.2⟩
def GJ(w H:World)(sb r s d m g n c k:Nat)(T:TypeId)(M:Value)(ab:d<n)(P S:World->Prop)(Q:TypeId->Value->World->Prop)(R:TypeId->Value->Option Addr->Nat->World->Prop)(U:TypeId->Value->World->Prop)(hW:w.alloc (.cells #[.int .i64 d,.int .i64 m] 445)=H)
 (HT:Hid (∀W,aQ H W->Calls prog 158 #[.pointer (some ⟨sb,0,none⟩)] W fun e o=>e=.returned (.pointer (some ⟨r,s,none⟩))/\aQ H o))
 (HP:Hid (∀W,aQ H W->Calls prog 171 #[.pointer (some ⟨r,s,none⟩)] W fun e o=>∃t z,e=.returned (.iface t z)/\Q t z o))
 (HQ:Hid (∀W t z,Q t z W->GN w r s d m g n c W/\W.cell? ⟨g,d,none⟩=some (.iface T M)))
 (HM:Hid (∀W W' t z,Q t z W->aQ W W'->Calls prog 377 #[.pointer (some ⟨r,s,none⟩),.int .i64 m] W' fun e o=>∃x y,e=.returned (.slice x m y)/\R t z x y o))
 (HR:Hid (∀W t z x y,R t z x y W->GN w r s d m g n c W/\W.cell? ⟨g,d,none⟩=some (.iface T M)))
 (HV:Hid (∀W t z x y,R t z x y W->Calls prog 405 #[.iface T M,.slice x m y,.iface t z] W fun e o=>(∃I L,e=.returned (.iface I L)/\U I L o)\/(e=fH k/\S o)))
 (HU:Hid (∀W t z,U t z W->GN w r s d m g n c W/\(∃u,W.cell? ⟨g,d,none⟩=some u)/\W.frozen? ⟨g,d,none⟩=false/\g<W.heap.size/\GN w r s d m g n c (W.setCell ⟨g,d,none⟩ (.iface t z))))
 (HN:Hid (∀W t z,U t z W->P (W.setCell ⟨g,d,none⟩ (.iface t z)))):
 Calls prog 404 #[.agg #[.int .i64 d,.int .i64 m],.pointer (some ⟨sb,0,none⟩)] w fun e o=>(e=.returned (.tuple #[])/\P o)\/(e=fH k/\S o):=by
 have HW:=aB hW;have e1:(0:Int)<=(d:Int):=by omega
 have e2:(d:Int)<(n:Int):=by omega
 clear hW;go_enter Tryz.func404,Tryz.ntmps404;go_wp2_with fail;rw[HW.out];refine(HT.out _ (aQ.refl _)).mono ?_;rintro e w1 ⟨rfl,N⟩;go_wp2_with fail;refine(HP.out _ N).mono ?_;rintro e J ⟨t,z,rfl,O⟩;have G:=aB O;have V:=HQ.out _ _ _ O;have F:=V.1.same (aQ.drew J);have ac:=bB (aQ.drew J).heap V.2;clear V O;go_wp2_with fail;refine wp_region_held_drew (S:=fun W=>W.cell? ⟨w.heap.size,0,none⟩=some (.int .i64 d)/\W.cell? ⟨w.heap.size,1,none⟩=some (.int .i64 m)/\W.cell? ⟨r,s+4,none⟩=some (.slice (some ⟨g,0,none⟩) n c)) (by kernel_rfl) F (fun a=>?_)
 (refine wpAnyH_take (i:=0) (v:=?_) rfl (by kernel_rfl) (by kernel_rfl) (by kernel_rfl) (fun _ _ _ h=>h) (av_ ⟨by rfl,?_⟩) a ?_;rotate_left;(intro w b;(try dsimp only at b);go_simp<;>with_reducible rfl))
 (refine wpAnyH_take (i:=1) (v:=?_) rfl (by kernel_rfl) (by kernel_rfl) (by kernel_rfl) (fun _ _ _ h=>h) (av_ ⟨by rfl,?_⟩) a ?_;rotate_left;(intro w b;(try dsimp only at b);go_simp<;>with_reducible rfl))
 (refine wpAnyH_take (i:=2) (v:=?_) rfl (by kernel_rfl) (by kernel_rfl) (by kernel_rfl) (fun _ _ _ h=>h) (av_ ⟨by rfl,?_⟩) a ?_;rotate_left;(intro w b;(try dsimp only at b);go_simp<;>with_reducible rfl))
 (refine wpAnyH_take (i:=4) (v:=?_) rfl (by kernel_rfl) (by kernel_rfl) (by kernel_rfl) (fun _ _ _ h=>h) (av_ ⟨by rfl,?_⟩) a ?_;rotate_left;(intro w b;(try dsimp only at b);go_simp<;>with_reducible rfl))
 (refine wpAnyH_take (i:=6) (v:=?_) rfl (by kernel_rfl) (by kernel_rfl) (by kernel_rfl) (fun _ _ _ h=>h) (av_ ⟨by rfl,?_⟩) a ?_;rotate_left;(intro w b;(try dsimp only at b);go_simp<;>with_reducible rfl))
 (refine wpAnyH_take (i:=7) (v:=?_) rfl (by kernel_rfl) (by kernel_rfl) (by kernel_rfl) (fun _ _ _ h=>h) (av_ ⟨by rfl,?_⟩) a ?_;rotate_left;(intro w b;(try dsimp only at b);go_simp<;>with_reducible rfl))
 (refine wpAnyH_take (i:=8) (v:=?_) rfl (by kernel_rfl) (by kernel_rfl) (by kernel_rfl) (fun _ _ _ h=>h) (av_ ⟨by rfl,?_⟩) a ?_;rotate_left;(intro w b;(try dsimp only at b);go_simp<;>with_reducible rfl))
 (refine wpAnyH_take (i:=10) (v:=?_) rfl (by kernel_rfl) (by kernel_rfl) (by kernel_rfl) (fun _ _ _ h=>h) (av_ ⟨by rfl,?_⟩) a ?_;rotate_left;(intro w b;(try dsimp only at b);go_simp<;>with_reducible rfl))
 (refine wpAnyH_take (i:=14) (v:=?_) rfl (by kernel_rfl) (by kernel_rfl) (by kernel_rfl) (fun _ _ _ h=>h) (av_ ⟨by rfl,?_⟩) a ?_;rotate_left;(intro w b;(try dsimp only at b);go_simp<;>with_reducible rfl))
 (refine wpAnyH_take (i:=15) (v:=?_) rfl (by kernel_rfl) (by kernel_rfl) (by kernel_rfl) (fun _ _ _ h=>h) (av_ ⟨by rfl,?_⟩) a ?_;rotate_left;(intro w b;(try dsimp only at b);go_simp<;>with_reducible rfl))
 (refine wpAnyH_take (i:=18) (v:=?_) rfl (by kernel_rfl) (by kernel_rfl) (by kernel_rfl) (fun _ _ _ h=>h) (av_ ⟨by rfl,?_⟩) a ?_;rotate_left;(intro w b;(try dsimp only at b);go_simp<;>with_reducible rfl))
 (refine wpAnyH_take (i:=3) (v:=?_) rfl (by kernel_rfl) (by kernel_rfl) (by kernel_rfl) (fun _ _ _ h=>h) (av_ ⟨by rfl,?_⟩) a ?_;rotate_left;(intro w b;(try dsimp only at b);go_simp<;>with_reducible rfl))
 (refine wpAnyH_take (i:=5) (v:=?_) rfl (by kernel_rfl) (by kernel_rfl) (by kernel_rfl) (fun _ _ _ h=>h) (av_ ⟨by rfl,?_⟩) a ?_;rotate_left;(intro w b;(try dsimp only at b);go_simp<;>with_reducible rfl))
 (refine wpAnyH_take (i:=9) (v:=?_) rfl (by kernel_rfl) (by kernel_rfl) (by kernel_rfl) (fun _ _ _ h=>h) (av_ ⟨by rfl,?_⟩) a ?_;rotate_left;(intro w b;(try dsimp only at b);go_simp<;>with_reducible rfl))
 (refine wpAnyH_take (i:=11) (v:=?_) rfl (by kernel_rfl) (by kernel_rfl) (by kernel_rfl) (fun _ _ _ h=>h) (av_ ⟨by rfl,?_⟩) a ?_;rotate_left;(intro w b;(try dsimp only at b);go_simp<;>with_reducible rfl))
 (refine wpAnyH_take (i:=12) (v:=?_) rfl (by kernel_rfl) (by kernel_rfl) (by kernel_rfl) (fun _ _ _ h=>h) (av_ ⟨by rfl,?_⟩) a ?_;rotate_left;(intro w b;(try dsimp only at b);go_simp<;>with_reducible rfl))
 (refine wpAnyH_take (i:=16) (v:=?_) rfl (by kernel_rfl) (by kernel_rfl) (by kernel_rfl) (fun _ _ _ h=>h) (av_ ⟨by rfl,?_⟩) a ?_;rotate_left;(intro w b;(try dsimp only at b);go_simp<;>with_reducible rfl))
 refine wpAnyH_ready (rs:=[13,17]) (by kernel_rfl) (by simp) ?_
 refine AllReadyH.cons rfl (fun K j=>?_) (AllReadyH.cons rfl (fun K j=>?_) AllReadyH.nil)
 ·go_simp;refine j.out _ _ F (fun a=>?_)
  clear j K;refine wpAnyH_ready (rs:=[17]) (by kernel_rfl) (by simp) ?_
  refine AllReadyH.cons rfl (fun K j=>?_) AllReadyH.nil
  go_simp;go_at_call 377
  refine(HM.out _ _ _ _ G.out (aQ.drew J)).mono ?_;rintro e w3 ⟨x,y,rfl,C⟩;have E:=aB C;have l:=HR.out _ _ _ _ _ C;have q:=l.1;have Z:=l.2;clear l C;go_wp2_with fail;refine j.out _ _ q (fun a=>?_)
  clear j K;refine wpAnyH_ready (rs:=[19]) (by kernel_rfl) (by simp) ?_
  refine AllReadyH.cons rfl (fun K j=>?_) AllReadyH.nil
  go_simp;go_at_call 405
  refine(HV.out _ _ _ _ _ E.out).mono ?_;rintro e w4 (⟨I,L,rfl,p⟩|⟨rfl,p⟩)
  rotate_left
  exact⟨rfl,as_ ⟨rfl,p⟩⟩;have B:=aB p;have f:=HU.out _ _ _ p;have A:=f.1;obtain⟨u4,Y⟩:=f.2.1;have X:=f.2.2.1;have aa:=f.2.2.2.1;have D:=f.2.2.2.2;clear f p;go_wp2_with fail;refine j.out _ _ A (fun a=>?_)
  clear j K;refine wpAnyH_take (i:=20) (v:=?_) rfl (by kernel_rfl) (by kernel_rfl) (by kernel_rfl) (fun _ _ _ h=>h) (av_ ⟨by rfl,?_⟩) a ?_
  rotate_left
  ·intro w b;(try dsimp only at b);go_simp<;>with_reducible rfl
  refine wpAnyH_ready (rs:=[21]) (by kernel_rfl) (by simp) ?_
  refine AllReadyH.cons rfl (fun K j=>?_) AllReadyH.nil
  go_simp;refine j.out _ _ D (fun a=>?_)
  clear j K;refine wpAnyH_done (by kernel_rfl) ?_ _
  go_wp2_with fail;go_end0;exact av_ ⟨rfl,HN.out _ _ _ B.out⟩
 ·go_simp;go_at_call 377
  refine(HM.out _ _ _ _ G.out (aQ.drew J)).mono ?_;rintro e w3 ⟨x,y,rfl,C⟩;have E:=aB C;have l:=HR.out _ _ _ _ _ C;have q:=l.1;have Z:=l.2;clear l C;go_wp2_with fail;refine j.out _ _ q (fun a=>?_)
  clear j K;refine wpAnyH_ready (rs:=[13]) (by kernel_rfl) (by simp) ?_
  refine AllReadyH.cons rfl (fun K j=>?_) AllReadyH.nil
  go_simp;refine j.out _ _ q (fun a=>?_)
  clear j K;refine wpAnyH_ready (rs:=[19]) (by kernel_rfl) (by simp) ?_
  refine AllReadyH.cons rfl (fun K j=>?_) AllReadyH.nil
  go_simp;go_at_call 405
  refine(HV.out _ _ _ _ _ E.out).mono ?_;rintro e w4 (⟨I,L,rfl,p⟩|⟨rfl,p⟩)
  rotate_left
  exact⟨rfl,as_ ⟨rfl,p⟩⟩;have B:=aB p;have f:=HU.out _ _ _ p;have A:=f.1;obtain⟨u4,Y⟩:=f.2.1;have X:=f.2.2.1;have aa:=f.2.2.2.1;have D:=f.2.2.2.2;clear f p;go_wp2_with fail;refine j.out _ _ A (fun a=>?_)
  clear j K;refine wpAnyH_take (i:=20) (v:=?_) rfl (by kernel_rfl) (by kernel_rfl) (by kernel_rfl) (fun _ _ _ h=>h) (av_ ⟨by rfl,?_⟩) a ?_
  rotate_left
  ·intro w b;(try dsimp only at b);go_simp<;>with_reducible rfl
  refine wpAnyH_ready (rs:=[21]) (by kernel_rfl) (by simp) ?_
  refine AllReadyH.cons rfl (fun K j=>?_) AllReadyH.nil
  go_simp;refine j.out _ _ D (fun a=>?_)
  clear j K;refine wpAnyH_done (by kernel_rfl) ?_ _
  go_wp2_with fail;go_end0;exact av_ ⟨rfl,HN.out _ _ _ B.out⟩
def j9.ofRow{F:Nat->Prop}{w:World}{base:Nat}{v:Value}{xs:List Value}{l:List aJ}(h:w.ownsRow base 256 1 v l.length xs)(f:fT F w xs l):j9 F w v l:=by
 rcases h.2 with ⟨a,e⟩|⟨g,c,k,a,e,b,n,q,p,o⟩
 ·exact av_ ⟨br_.1 e,none,0,by rw[a]⟩
 ·refine as_ ⟨g,0,c,a,n,aD b,fun i m=>?_⟩
  obtain⟨u,d,j⟩:=f.2 i m;refine⟨u,aA b ?_,j⟩;rw[<-o,aU_,if_pos (by omega)] at d
  simpa using d
section
variable {fp:Nat->Value} {F:Nat->Prop} {base:Nat} {w:World} {sb gf cap:Nat} {t0 tv outv s0:Value} {fvs:List FVal} {below:List aI} {f:aI} {tape:List Int} {out:List (List UInt8)}
def cT.popManyR{r:List FVal}{v:FVal}{vs us:List aJ}(h:cT fp F base w sb gf cap t0 tv outv s0 (r++[v]) ⟨below++[f],tape,out⟩)(C:f.ops=vs++us)(u:f.ops.length<=100000):
 Calls prog 377 #[.pointer (some ⟨gf,r.length*6,none⟩),.int .i64 us.length] w fun e s=>∃x y c,e=.returned (.slice x us.length y)/\c.ownBlock=v.ov.ownBlock/\j9 F s (.slice x us.length y) us/\(∀a∈us,aK a<=200)/\
  cT fp F base s sb gf cap t0 tv outv s0 (r++[{ v with ov:=c }]) ⟨below++[f.popMany us.length],tape,out⟩/\Kept (aF sb gf outv (r++[v])) w s/\∀k,k<w.heap.size->k≠gf->s.heap[k]?=w.heap[k]?:=by
 obtain⟨T,v0,H,e,aa,Q,S,p,O,k0,k1,k2,k3,k4,Y⟩:=h.top;obtain⟨rfl,V⟩:=bh_ e rfl;cases V;obtain⟨⟨xs,m,t⟩,g⟩:=Q.ops;rw[C] at m t g;obtain⟨B,P,rfl,J,M,G,z⟩:=t.split;rw[C,aw_] at u;rw[aw_] at m;refine(vB base gf (r.length*6) vs.length us.length H v.ov B P w p Y m J M (oG z) (by omega)).mono ?_
 rintro e s ⟨v',c,L,he,q,E,rfl,p2,D⟩;have i:(f.popMany us.length).ops=vs:=by simp[aI.popMany,C]
 have N:=h.grow q (fun _ h=>h) (fun _ h=>av_ h)
 have K:MI fp F base L { v with ov:=c } (f.popMany us.length):=by
  have l:∀b,F b->L.heap[b]?=w.heap[b]?:=fun b o=>q.block b (h.apart b o).1
  have A:∀k∈v.owns,k<w.heap.size:=fun k l=>h.lt k (by simp[aF,aT,l])
  have n:=Q.keep l (fun _ h=>h) fun k X=>q.block k (A k X)
  refine⟨n.fn,n.nx,n.ln,n.sp,n.vars,⟨B,?_,?_⟩,fun b o=>g b (aP_ _ (by rw[i] at o;exact o))⟩
  ·rw[i];exact aY p2 fun k e=>q.block k (A k (by rw[D] at e;simp[FVal.owns,e]))
  ·rw[i];exact G.keep l
 obtain⟨Z,W⟩:=N.setTop (j:=5) (x:=c) (v':={ v with ov:=c }) (by omega) rfl (by simp[FVal.owns,D]) K
 have ab:gf<w.heap.size:=aD p
 have I:∀k,F k->(L.setCell ⟨gf,r.length*6+5,none⟩ c).heap[k]?=w.heap[k]?:=fun k l=>by
  rw[ax_ _ _ _ _ fun e=>(h.apart k l).2 (by simp[aF,e]),q.block k (h.apart k l).1]
 obtain⟨x,d,rfl⟩:=cU E;refine⟨x,d,c,he,D,j9.ofRow (base:=w.heap.size) (xs:=P) (aY E fun k l=>ax_ _ _ _ _ ?_) (z.keep I),fun a ha=>g a (aL_ _ ha),Z,(Kept.of_below q).trans W fun x hx=>av_ hx,fun k l U=>by rw[ax_ _ _ _ _ U,q.block k l]⟩
 have:=cC E k l;show k≠gf
 omega
def cT.assigned{p:List FVal}{v:FVal}{g n c d:Nat}{u:Value}{a:aJ}(h:cT fp F base w sb gf cap t0 tv outv s0 (p++[v]) ⟨below++[f],tape,out⟩)(j:v.vv=.slice (some ⟨g,0,none⟩) n c)(T:PV F w u a)(I:aK a<=200):
 cT fp F base (w.setCell ⟨g,d,none⟩ u) sb gf cap t0 tv outv s0 (p++[v]) ⟨below++[{ f with vars:=f.vars.set d a }],tape,out⟩/\Kept (aF sb gf outv (p++[v])) w (w.setCell ⟨g,d,none⟩ u):=by
 obtain⟨N,v0,S,e,X,x,L,K,J,k0,k1,k2,k3,k4,k5⟩:=h.top;obtain⟨rfl,Q⟩:=bh_ e rfl;cases Q;have A:v.vv.ownBlock=some g:=by rw[j];rfl
 have m:g∈v.owns:=by simp[FVal.owns,A]
 have t:∀k∈v.owns,k∈aF sb gf outv (p++[v]):=fun k i=>by simp[aF,aT,i]
 have H:gf∉v.owns:=fun C=>by
  have:=(aK_.1 (aK_.1 h.nodup).2).1;exact this (by simp[aT,C])
 have l:v.owns.Nodup:=by
  have y:=h.nodup;have:aF sb gf outv (p++[v])=(sb::gf::(outv.ownBlock.toList++aT p))++v.owns:=by simp[aF,aT]
  rw[this] at y;exact(be_.1 y).2.1
 have i:∀k,k≠g->(w.setCell ⟨g,d,none⟩ u).heap[k]?=w.heap[k]?:=fun k i=>ax_ _ _ _ _ i
 have o:∀b,F b->(w.setCell ⟨g,d,none⟩ u).heap[b]?=w.heap[b]?:=fun b D=>i b fun e=>(h.apart b D).2 (t b (by rw[e];exact m))
 have z:∀k,v.ov.ownBlock=some k->k≠g:=fun k i e=>by
  unfold FVal.owns at l;rw[i,A,e] at l;simp at l
 have r:=h.row;rw[show (p++[v]).length=p.length+1 by simp] at r
 obtain⟨⟨U,q,E⟩,s⟩:=x.vars;refine⟨h.step (G:=F) (by simp) (fun k _ _ V=>i k fun e=>V (by rw[e];exact m)) (aY r fun k e=>i k ?_) ?_ (fun k C=>⟨az_ (h.lt k (t k C)) (by simp),av_ C⟩) l (fun _ h=>h) (fun _ h=>av_ h),⟨rfl,rfl,rfl,by simp,fun k _ O=>i k fun e=>O (t k (by rw[e];exact m))⟩⟩
 ·cases e;exact fun e=>H (by have P:gf=g:=e;rw[P];exact m)
 ·refine⟨x.fn.keep o fun _ h=>h,x.nx,x.ln,eE.keep o (fun _ h=>h) x.sp,⟨⟨U.set d u,?_,(fT.set E d T).keep o⟩,fun b D=>?_⟩,x.ops.keep o (fun _ h=>h) fun k e=>i k (z k e)⟩
  ·rcases q.2 with ⟨B,M⟩|⟨g',c',Y,B,M,Z,r4,W,r6,r7⟩
   ·rw[B] at j;cases j
   ·rw[j] at B;cases B;refine⟨by simp[q.1],as_ ⟨g,c,_,?_,M,aS Z,by simpa using r4,W,by simpa using r6,?_⟩⟩
    ·show v.vv=_
     rw[j];simp
    ·show List.take ((f.vars.set d a).length*1) _=_
     rw[bB_,b6_,bx_,r7]
  ·rcases bZ_ D with y|y
   ·exact s b y
   ·rw[y];exact I
def rL(fp:Nat->Value)(F:Nat->Prop)(base sb gf cap:Nat)(t0 tv outv s0:Value)(fb:List FVal)(v:FVal)(below:List aI)(f:aI)(tape:List Int)(out:List (List UInt8))(w0:World)(W:World):Prop:=
 ∃ov',ov'.ownBlock=v.ov.ownBlock/\cT fp F base W sb gf cap t0 tv outv s0 (fb++[{ v with ov:=ov' }]) ⟨below++[f],tape,out⟩/\Kept (aF sb gf outv (fb++[v])) w0 W/\∀k,k<w0.heap.size->k≠gf->W.heap[k]?=w0.heap[k]?
def rL.grow{G:Nat->Prop}{e:List FVal}{v:FVal}{d W b:World}(h:rL fp F base sb gf cap t0 tv outv s0 e v below f tape out d W)(a:Below W.heap.size W b)(l:∀k,F k->G k)(q:∀k,G k->F k\/(W.heap.size<=k/\k<b.heap.size)):rL fp G base sb gf cap t0 tv outv s0 e v below f tape out d b:=by
 obtain⟨c,o,m,i,p⟩:=h;exact⟨c,o,m.grow a l q,i.trans (Kept.of_below (own:=[]) a) (fun x n=>by simp at n),fun k g j=>by rw[a.block k (az_ g i.size),p k g j]⟩
def rL.reads{l:List FVal}{v:FVal}{k W:World}{g n c d m:Nat}{x:Value}(h:rL fp F base sb gf cap t0 tv outv s0 l v below f tape out k W)(J:gf<w.heap.size)(b:k=w.alloc (.cells #[.int .i64 d,.int .i64 m] 445))(q:v.vv=.slice (some ⟨g,0,none⟩) n c)(U:g<w.heap.size)(i:g≠gf)(L:k.cell? ⟨g,d,none⟩=some x):
 GN w gf (l.length*6) d m g n c W/\W.cell? ⟨g,d,none⟩=some x/\∀u,GN w gf (l.length*6) d m g n c (W.setCell ⟨g,d,none⟩ u):=by
 obtain⟨s,Q,H,N,A⟩:=h;obtain⟨C,D,I,e,K,O,B,j,t,T,V,S,P,E,M⟩:=H.top;obtain⟨rfl,p⟩:=bh_ e rfl;have G:D={ v with ov:=s }:=by simpa using p.symm
 subst G
 have a:W.heap[w.heap.size]?=some (.cells #[.int .i64 d,.int .i64 m] 445 (0,0)):=by
  rw[A _ (by rw[b];simp) (by omega),b];exact aM _ _ rfl _
 have r:W.heap[g]?=k.heap[g]?:=A g (by rw[b];simp;omega) i
 have y:∀o:World,o.heap[w.heap.size]?=W.heap[w.heap.size]?->o.heap[gf]?=W.heap[gf]?->GN w gf (l.length*6) d m g n c o:=fun o z p=>by
  refine⟨aA (z.trans a) rfl,aA (z.trans a) rfl,aA (p.trans j) ?_⟩;rw[E,<-q]
 exact⟨y W rfl rfl,by rw[World.cell?_of_block r];exact L,fun u=>y _ (ax_ _ _ _ _ (by show w.heap.size≠g;omega)) (ax_ _ _ _ _ (fun e=>i e.symm))⟩
def rL.done{G:Nat->Prop}{a:List FVal}{v:FVal}{W:World}{b:Obj}{c:aI}(h:rL fp G base sb gf cap t0 tv outv s0 a v below c tape out (w.alloc b) W)(f:Ext F G w.heap.size):Done fp F base sb t0 s0 (aF sb gf outv (a++[v])) w ⟨below++[c],tape,out⟩ W:=by
 obtain⟨d,e,g,i,l⟩:=h;exact⟨(Kept.of_below (own:=aF sb gf outv (a++[v])) ((ay_ _ w).alloc (au_ _) b)).trans i fun _ h=>av_ h,G,gf,cap,tv,outv,_,f,g,fun k j=>av_ (by simpa [aF,aT,FVal.owns,e] using j)⟩
def F4(d:Nat)(vs us:List aJ)(b:aJ)(h:cT fp F base w sb gf cap t0 tv outv s0 fvs ⟨below++[f],tape,out⟩)(ag:below.length<=15)(P:base<=w.heap.size)(H:f.ops.length<=99000)(hf:f.ops=vs++us++[b])(hd:d<f.vars.length):
 Calls prog 404 #[.agg #[.int .i64 d,.int .i64 us.length],.pointer (some ⟨sb,0,none⟩)] w (nY fp F base sb t0 s0 (aF sb gf outv fvs) w below tape out (aL (.assign d us.length) f)):=by
 have hM:=h.mid P (.cells #[.int .i64 d,.int .i64 us.length] 445);obtain⟨o,v,ai,rfl,ao, -⟩:=h.top;have T:gf<w.heap.size:=h.lt gf (by simp[aF])
 have h0:=h.grow ((ay_ _ w).alloc (au_ _) (.cells #[.int .i64 d,.int .i64 us.length] 445)) (fun _ h=>h) (fun _ h=>av_ h)
 have hT:=hM.topS ag;rw[<-ao] at hT;obtain⟨aw,v0,ai,e, -,hv,ah,ad,ar,k0,k1,k2,k3,k4,k5⟩:=h0.top;obtain⟨rfl,e2⟩:=bh_ e rfl;cases e2;generalize l:w.alloc (.cells #[.int .i64 d,.int .i64 us.length] 445)=Q at h0 hT hv ah ad;obtain⟨⟨xs,ae,am⟩,N⟩:=hv.vars
 have ak:v.vv.ownBlock≠some gf:=fun e=>by
  have:=(aK_.1 (aK_.1 h.nodup).2).1;exact this (by simp[aT,FVal.owns,e])
 obtain⟨u,aa,Z⟩:=am.2 d hd;obtain⟨ta,za,rfl⟩:=Z.form;have O:f.pop.ops=vs++us:=mF (by rw[hf])
 have M:f.pop.many us.length=us:=by simp[aI.many,O]
 have S:f.last=b:=iS (by rw[hf])
 have au:vs.length+us.length+1<=99000:=by rw[hf] at H;simp at H;omega
 have aq:f.vars[d]?.getD bN=f.vars[d]:=by rw[aH_ hd];rfl
 obtain⟨r,hr⟩:∃r,r=nD f.vars[d] us b:=⟨_,rfl⟩
 have V:aL (.assign d us.length) f=if r.2=0 then ({ f.pop.popMany us.length with vars:=f.vars.set d r.1 },0) else (f.pop.popMany us.length,r.2):=by
  simp only[aL,M,S,aq,<-hr]
 have aj:r.2=0->aK r.1<=200:=fun n=>by rw[hr] at n ⊢;exact PA _ n
 rw[V];rcases ae.2 with ⟨U,r2⟩|⟨g,c,X,U,ay,K,az,ax,av,ap⟩
 ·omega
 have ab:v.vv.ownBlock=some g:=by rw[U];rfl
 have C:g≠gf:=fun e=>ak (by rw[ab,e])
 have L:g<w.heap.size:=h.lt g (by simp[aF,aT,FVal.owns,ab])
 have an:X[d]?=some (.iface ta za):=by
  rw[<-ap,aU_,if_pos (by omega)] at aa
  simpa using aa
 have hx:Q.cell? ⟨g,d,none⟩=some (.iface ta za):=aA K an
 have ac:∀{W:World} {f':aI},rL fp F base sb gf cap t0 tv outv s0 o v below f' tape out Q W->∀k,F k->k<W.heap.size:=fun i k j=>by
  obtain⟨_,_,p,_⟩:=i;exact(p.apart k j).1
 have Y:∀{W:World} {f':aI},rL fp F base sb gf cap t0 tv outv s0 o v below f' tape out Q W->PV F W (.iface ta za) f.vars[d]:=fun i=>by
  obtain⟨_,_,_,A,I⟩:=i;exact Z.keep fun k j=>I k (by rw[<-l];exact az_ (h.apart k j).1 (by simp)) fun e=>(h.apart k j).2 (by simp[aF,e])
 refine(GJ w Q sb gf (o.length*6) d us.length g f.vars.length c r.2 ta za hd
  (fun J=>r.2=0/\Done fp F base sb t0 s0 (aF sb gf outv (o++[v])) w ⟨below++[{ f.pop.popMany us.length with vars:=f.vars.set d r.1 }],tape,out⟩ J)
  (fun J=>r.2≠0/\Done fp F base sb t0 s0 (aF sb gf outv (o++[v])) w ⟨below++[f.pop.popMany us.length],tape,out⟩ J)
  (fun t z W=>(PV F W (.iface t z) b/\aK b<=200)/\rL fp F base sb gf cap t0 tv outv s0 o v below f.pop tape out Q W)
  (fun t z x y W=>((PV F W (.iface t z) b/\aK b<=200)/\j9 F W (.slice x us.length y) us)/\rL fp F base sb gf cap t0 tv outv s0 o v below (f.pop.popMany us.length) tape out Q W)
  (fun t z W=>r.2=0/\∃G,Ext F G w.heap.size/\PV G W (.iface t z) r.1/\rL fp G base sb gf cap t0 tv outv s0 o v below (f.pop.popMany us.length) tape out Q W)
  l hT (fun W D=>?_) (fun W t z i=>?_) (fun W W' t z i D=>?_) (fun W t z x y i=>?_) (fun W t z x y i=>?_) (fun W t z i=>?_) (fun W t z i=>?_)).mono ?_
 ·refine((h0.grow D.below (fun _ h=>h) (fun _ h=>av_ h)).popR (vs:=vs++us) (a:=b) (by rw[hf]) (by omega)).mono ?_
  rintro e J ⟨t,z,q,he,n,p,A,I,h5,h6⟩;exact⟨t,z,he,⟨n,p⟩,q,A,I,(Kept.of_below (own:=aF sb gf outv (o++[v])) D.below).trans h5 fun _ h=>av_ h,fun k _ j=>by rw[h6 k j,D.heap]⟩
 ·obtain⟨_,i⟩:=i;obtain⟨B,s,_⟩:=i.reads T l.symm U L C hx;exact⟨B,s⟩
 ·obtain⟨⟨p1,p2⟩,q,n,p,A,I⟩:=i;refine((p.grow D.below (fun _ h=>h) (fun _ h=>av_ h)).popManyR (vs:=vs) (us:=us) O (by rw[O,aw_];omega)).mono ?_
  rintro e J ⟨x,y,al,he,B,s,q3,q4,q5,q6⟩;have m:aF sb gf outv (o++[{ v with ov:=q }])=aF sb gf outv (o++[v]):=by simp[aF,aT,FVal.owns,n]
  rw[m] at q5;have af:W.heap.size=W'.heap.size:=by rw[D.heap]
  refine⟨x,y,he,⟨⟨p1.keep fun k j=>?_,p2⟩,s⟩,al,by rw[B,n],q4,(A.trans (Kept.of_below (own:=[]) D.below) (fun x hx=>by simp at hx)).trans q5 fun _ h=>av_ h,fun k j hn=>by rw[q6 k (by rw[<-af];exact az_ j A.size) hn,D.heap,I k j hn]⟩
  rw[q6 k (by rw[<-af];exact(p.apart k j).1) (fun e=>(p.apart k j).2 (by simp[aF,e])),D.heap]
 ·obtain⟨_,i⟩:=i;obtain⟨B,s,_⟩:=i.reads T l.symm U L C hx;exact⟨B,s⟩
 ·obtain⟨⟨⟨p1,p2⟩,p3⟩,i⟩:=i;refine(OG F us _ _ _ f.vars[d] b W p3 (Y i) p1 (ac i) (aF_ (N _ (aR_ hd)) (by omega)) (by omega) (by omega)).mono ?_
  rintro e J ⟨hb,⟨e1,u,rfl,e3⟩|⟨e1,e2⟩⟩
  ·rw[<-hr] at e1 e3;obtain⟨t1,z1,rfl⟩:=e3.form;exact av_ ⟨t1,z1,rfl,e1,Grow F W J,⟨fun k j=>av_ j,fun k j=>j.imp_right fun n=>aF_ (by obtain⟨_,_,_,A,_⟩:=i;rw[<-l] at A;exact aF_ (by simp) A.size) n.1⟩,e3,i.grow hb (fun k j=>av_ j) (fun k j=>j)⟩
  ·rw[<-hr] at e1 e2;subst l;exact as_ ⟨e2,e1,(i.grow hb (fun _ h=>h) (fun _ h=>av_ h)).done (Ext.refl _ _)⟩
 ·obtain⟨_,G,hG,_,i⟩:=i;obtain⟨B,s,q3⟩:=i.reads T l.symm U L C hx;obtain⟨_,_,_,_,I⟩:=i;have E:W.heap[g]?=some (.cells X 256 (0,0)):=by rw[I g (by rw[<-l];simp;omega) C];exact K
  exact⟨B,⟨_,s⟩,aE E,aD E,q3 _⟩
 ·obtain⟨hz,G,hG,p1,q,n,p,A,I⟩:=i;obtain⟨B,s⟩:=p.assigned (d:=d) (a:=r.1) (u:=.iface t z) U p1 (aj hz);have m:aF sb gf outv (o++[{ v with ov:=q }])=aF sb gf outv (o++[v]):=by simp[aF,aT,FVal.owns,n]
  rw[m] at s;subst l;refine⟨hz,((Kept.of_below (own:=aF sb gf outv (o++[v])) ((ay_ _ w).alloc (au_ _) _)).trans A fun _ h=>av_ h).trans s fun _ h=>av_ h,G,gf,cap,tv,outv,_,hG,B,fun k j=>av_ (by rw[m] at j;exact j)⟩
 ·rintro e J (⟨rfl,n,p⟩|⟨rfl,n,p⟩)
  ·exact nY.ok (if_pos n) p
  ·exact nY.stop (if_neg n) n p
end
def KM(w k:World)(sb A B base n c:Nat)(x:Option Addr)(tx:List UInt8)(X:n<50)(P:World->Prop)(Q:TypeId->Value->World->Prop)(R:World->Prop)(xs:List Value)(C:w.alloc (.cells #[] 448)=k)
 (N:Hid (∀W,aQ k W->Calls prog 158 #[.pointer (some ⟨sb,0,none⟩)] W fun e f=>e=.returned (.pointer (some ⟨A,B,none⟩))/\aQ k f))
 (F:Hid (∀W,aQ k W->Calls prog 171 #[.pointer (some ⟨A,B,none⟩)] W fun e f=>∃t z,e=.returned (.iface t z)/\Q t z f))
 (K:Hid (∀W t z,Q t z W->W.cell? ⟨sb,3,none⟩=some (.slice x n c)/\sb<W.heap.size))
 (O:Hid (∀W D t z,Q t z W->aQ W D->Calls prog 409 #[.iface t z] D fun e f=>e=.returned (.string (bs tx))/\R f))
 (E:Hid (∀W,R W->W.cell? ⟨sb,3,none⟩=some (.slice x n c)/\sb<W.heap.size/\base<=W.heap.size))
 (S:Hid (∀W,R W->W.ownsRow base 9 1 (.slice x n c) n xs))
 (H:Hid (∀W,R W->∀d:World,(W.alloc (.cells #[.string (bs tx)] 9)).grownBy d (Value.slice x n c).ownBlock->(∃u,d.cell? ⟨sb,3,none⟩=some u)/\d.frozen? ⟨sb,3,none⟩=false/\sb<d.heap.size))
 (I:Hid (∀W,R W->∀i b (d:World),d.ownsRow base 9 1 (.slice (some ⟨i,0,none⟩) (n+1) b) (n+1) (xs++[.string (bs tx)])->(W.alloc (.cells #[.string (bs tx)] 9)).grownBy d (Value.slice x n c).ownBlock->((Value.slice x n c).ownBlock=some i\/W.heap.size+1<=i)->P (d.setCell ⟨sb,3,none⟩ (.slice (some ⟨i,0,none⟩) (n+1) b)))):
 Calls prog 408 #[.agg #[],.pointer (some ⟨sb,0,none⟩)] w fun e f=>e=.returned (.tuple #[])/\P f:=by
 obtain⟨U,L,p,q,y⟩:=info_parts CW;have J:=aB C;have G:¬(n:Int)=50:=by omega
 clear C;go_enter Tryz.func408,Tryz.ntmps408;go_wp2_with fail;rw[J.out];refine(N.out _ (aQ.refl _)).mono ?_;rintro e w1 ⟨rfl,o⟩;go_wp2_with fail;refine(F.out _ o).mono ?_;rintro e w2 ⟨t,z,rfl,r⟩;obtain⟨Y,l1⟩:=K.out _ _ _ r;have s:=aB r;clear r;go_wp2_with fail;go_region_law (first|(go_simp;go_at_call 409;refine(O.out _ _ _ _ s.out (aQ.drew _)).mono ?_;rintro e m ⟨rfl,v⟩;have h:=aB v;have l:=E.out _ v;have b1:=l.1;have b2:=l.2.1;have V:=l.2.2;clear l v)|(refine step_append_lies _ (by rfl) _ _ 60 (by rfl) base 9 U _ 1 16 Tryz.underlying60 L p q y rfl (by decide) (.slice x n c) n xs (by rfl) ((S.out _ h.out).alloc _) ⟨m.heap.size,0,none⟩ 1 1 [.string (bs tx)] (by rfl) (by rfl) (ID m _) (OL _) (by decide) (by unfold maxLen;omega) (by omega) (by simp;omega) (m.heap.size+1) (by simp) ?_;intro i b d g a j M;have T:=H.out _ h.out d a;obtain⟨⟨u5,Z⟩,y2,y3⟩:=T))
 all_goals
  go_wp2_with fail;go_end0;exact⟨rfl,I.out _ h.out _ _ _ g a (j.imp_right fun e=>Nat.le_of_eq e.symm)⟩
def KN(w b:World)(sb h i c:Nat)(x:Option Addr)(P:World->Prop)(Q:TypeId->Value->World->Prop)(j:w.alloc (.cells #[] 448)=b)
 (o:Hid (∀W,aQ b W->Calls prog 158 #[.pointer (some ⟨sb,0,none⟩)] W fun e a=>e=.returned (.pointer (some ⟨h,i,none⟩))/\aQ b a))
 (k:Hid (∀W,aQ b W->Calls prog 171 #[.pointer (some ⟨h,i,none⟩)] W fun e a=>∃t z,e=.returned (.iface t z)/\Q t z a))
 (n:Hid (∀W t z,Q t z W->W.cell? ⟨sb,3,none⟩=some (.slice x 50 c)/\sb<W.heap.size))
 (l:Hid (∀W t z,Q t z W->P W)):
 Calls prog 408 #[.agg #[],.pointer (some ⟨sb,0,none⟩)] w fun e a=>e=fH 8/\P a:=by
 have m:=aB j;clear j;go_enter Tryz.func408,Tryz.ntmps408;go_wp2_with fail;rw[m.out];refine(o.out _ (aQ.refl _)).mono ?_;rintro e s ⟨rfl,d⟩;go_wp2_with fail;refine(k.out _ d).mono ?_;rintro e r ⟨t,z,rfl,f⟩;obtain⟨p,q⟩:=n.out _ _ _ f;have g:=aB f;clear f;go_wp2_with fail;exact⟨rfl,rfl,l.out _ _ _ g.out⟩
def AB(own:List Nat)(w:World):Prop:=∀W,Kept own w W->kC W
def AB.step{own a:List Nat}{w w':World}(h:AB own w)(b:Kept own w w')(c:∀x∈a,x∈own\/w.heap.size<=x):AB a w':=fun W d=>h W (b.trans d c)
section
variable {fp:Nat->Value} {F:Nat->Prop} {base:Nat} {w:World} {sb gf cap:Nat} {t0 tv outv s0:Value} {fvs:List FVal} {below:List aI} {f:aI} {tape:List Int} {out:List (List UInt8)}
def cT.printed{m:cF}{j:World}{Y:Obj}{i d:Nat}{tx:List UInt8}(h:cT fp F base w sb gf cap t0 tv outv s0 fvs m)
 (M:j.ownsRow base 9 1 (.slice (some ⟨i,0,none⟩) (m.out.length+1) d) (m.out.length+1) (lV m.out++[.string (bs tx)])) (D:(w.alloc Y).grownBy j outv.ownBlock) (u:outv.ownBlock=some i\/w.heap.size+1<=i):
 cT fp F base (j.setCell ⟨sb,3,none⟩ (.slice (some ⟨i,0,none⟩) (m.out.length+1) d)) sb gf cap t0 tv (.slice (some ⟨i,0,none⟩) (m.out.length+1) d) s0 fvs ⟨m.frames,m.tape,m.out++[tx]⟩/\Kept (aF sb gf outv fvs) w (j.setCell ⟨sb,3,none⟩ (.slice (some ⟨i,0,none⟩) (m.out.length+1) d))/\
  ∀k∈aF sb gf (.slice (some ⟨i,0,none⟩) (m.out.length+1) d) fvs,k∈aF sb gf outv fvs\/w.heap.size<=k:=by
 obtain⟨I,N⟩:=aK_.1 h.nodup;obtain⟨J,Q⟩:=aK_.1 N;obtain⟨Z,T,O⟩:=be_.1 Q
 have K:∀k,k<w.heap.size->some k≠outv.ownBlock->j.heap[k]?=w.heap[k]?:=fun k x l=>by
  rw[D.block k (by simp;omega) l,aA_ _ _ _ x]
 have p:∀k,k<w.heap.size->some k≠outv.ownBlock->k≠sb->(j.setCell ⟨sb,3,none⟩ (.slice (some ⟨i,0,none⟩) (m.out.length+1) d)).heap[k]?=w.heap[k]?:=fun k x l V=>by
  rw[ax_ _ _ _ _ V,K k x l]
 have r:sb<w.heap.size:=h.lt sb (by simp[aF])
 have s:some sb≠outv.ownBlock:=fun e=>I (by simp[<-e])
 have t:some gf≠outv.ownBlock:=fun e=>J (by simp[<-e])
 have z:gf≠sb:=fun e=>I (by simp[e])
 have A:j.heap[sb]?=_:=(K sb r s).trans h.blk
 have g:∀k∈aT fvs,k<w.heap.size/\some k≠outv.ownBlock/\k≠sb/\k≠gf:=fun k c=>
  ⟨h.lt k (by simp[aF,c]),fun e=>O k (by simp[<-e]) k c rfl,fun e=>I (by simp[<-e,c]),fun e=>J (by simp[<-e,c])⟩
 have q:i≠sb/\i≠gf/\i∉aT fvs:=by
  rcases u with e|e
  ·exact⟨fun E=>s (by rw[e,E]),fun E=>t (by rw[e,E]),fun c=>(g i c).2.1 e.symm⟩
  ·have X:gf<w.heap.size:=h.lt gf (by simp[aF])
   exact⟨by omega,by omega,fun c=>by have:=(g i c).1;omega⟩
 have C:∀b,F b->(j.setCell ⟨sb,3,none⟩ (.slice (some ⟨i,0,none⟩) (m.out.length+1) d)).heap[b]?=w.heap[b]?:=fun b y=>
  p b (h.apart b y).1 (fun e=>(h.apart b y).2 (by simp[aF,<-e])) fun e=>(h.apart b y).2 (by simp[aF,e])
 have o:w.heap.size<=j.heap.size:=aF_ (by simp) D.size
 have n:(Value.slice (some ⟨i,0,none⟩) (m.out.length+1) d).ownBlock=some i:=rfl;have B:i<j.heap.size:=(M.lt i n).2;refine⟨⟨aS A,aY h.row fun k e=>?_,h.frs.keep C (fun _ h=>h) fun v W k f=>?_,h.tape.keep C (fun _ h=>h),?_,?_,fun k f=>?_,fun k G=>?_⟩,⟨D.os.trans rfl,D.tape.trans rfl,D.output.trans rfl,by simpa using o,fun k x l=>?_⟩,fun k f=>?_⟩
 ·cases e;exact p gf (h.lt gf (by simp[aF])) t z
 ·have c:k∈aT fvs:=bt_.2 ⟨v,W,f⟩;obtain⟨U,S,P,_⟩:=g k c;exact p k U S P
 ·rw[aw_];have e:lV (m.out++[tx])=lV m.out++[.string (bs tx)]:=by simp[lV]
  rw[e];exact aY M fun k H=>ax_ _ _ _ _ (by cases H;exact q.1)
 ·unfold aF;rw[n];refine aK_.2 ⟨fun c=>?_,aK_.2 ⟨fun c=>?_,be_.2 ⟨by simp,T,fun a L b y e=>?_⟩⟩⟩
  ·rcases aG_.1 c with e|c
   ·exact z e.symm
   ·rcases aE_.1 c with c|c
    ·simp at c;exact q.1 c.symm
    ·exact(g sb c).2.2.1 rfl
  ·rcases aE_.1 c with c|c
   ·simp at c;exact q.2.1 c.symm
   ·exact(g gf c).2.2.2 rfl
  ·simp at L;subst e;exact q.2.2 (by rw[<-L];exact y)
 ·have:(j.setCell ⟨sb,3,none⟩ (.slice (some ⟨i,0,none⟩) (m.out.length+1) d)).heap.size=j.heap.size:=by simp
  rw[this];unfold aF at f;rw[n] at f;simp only[Option.toList_some,aG_,aE_,aQ_,or_false] at f;rcases f with rfl|rfl|rfl|c
  ·exact az_ r o
  ·exact az_ (h.lt _ (by simp[aF])) o
  ·exact B
  ·exact az_ (g k c).1 o
 ·obtain⟨x,l⟩:=h.apart k G;refine⟨az_ x (by simpa using o),fun c=>?_⟩
  unfold aF at c;rw[n] at c;simp only[Option.toList_some,aG_,aE_,aQ_,or_false] at c;rcases c with rfl|rfl|rfl|c
  ·exact l (by simp[aF])
  ·exact l (by simp[aF])
  ·rcases u with e|e
   ·exact l (by simp[aF,e])
   ·omega
  ·exact l (by simp[aF,c])
 ·exact p k x (fun e=>l (by simp[aF,<-e])) fun e=>l (by simp[aF,e])
 ·unfold aF at f;rw[n] at f;simp only[Option.toList_some,aG_,aE_,aQ_,or_false] at f;rcases f with rfl|rfl|rfl|c
  ·exact av_ (by simp[aF])
  ·exact av_ (by simp[aF])
  ·rcases u with e|e
   ·exact av_ (by simp[aF,e])
   ·exact as_ (by omega)
  ·exact av_ (by simp[aF,c])
def K6(s:List dY){vs:List aJ}{b:aJ}(h:cT fp F base w sb gf cap t0 tv outv s0 fvs ⟨below++[f],tape,out⟩)(hp:AB (aF sb gf outv fvs) w)(I:below.length<=15)(i:base<=w.heap.size)(aa:f.ops.length<=99000)(hf:f.ops=vs++[b])(ad:out.length<=50):
 Calls prog 408 #[.agg #[],.pointer (some ⟨sb,0,none⟩)] w (v8 fp F base sb t0 s0 (aF sb gf outv fvs) w (Hs.doI s .print below f tape out)):=by
 have hM:=h.mid i (.cells #[] 448);obtain⟨g,v,ac,rfl,Q, -⟩:=h.top;have Z:=h.grow ((ay_ _ w).alloc (au_ _) (.cells #[] 448)) (fun _ h=>h) (fun _ h=>av_ h)
 have L:=hM.topS I;rw[<-Q] at L;have o:Kept (aF sb gf outv (g++[v])) w (w.alloc (.cells #[] 448)):=Kept.of_below ((ay_ _ w).alloc (au_ _) _);generalize r:w.alloc (.cells #[] 448)=p at Z L o;obtain⟨x,c,rfl⟩:=cU h.out;have u:f.last=b:=iS hf
 have O:Hid (∀W,aQ p W->Calls prog 171 #[.pointer (some ⟨gf,g.length*6,none⟩)] W fun e m=>∃t z,e=.returned (.iface t z)/\(PV F m (.iface t z) b/\aK b<=200/\rL fp F base sb gf cap t0 tv (.slice x out.length c) s0 g v below f.pop tape out p m)):=fun W C=>by
  refine((Z.grow C.below (fun _ h=>h) (fun _ h=>av_ h)).popR hf (by omega)).mono ?_
  rintro e m ⟨t,z,l,S,T,d,D,h4,h5,h6⟩;exact⟨t,z,S,T,d,l,D,h4,(Kept.of_below (own:=aF sb gf (.slice x out.length c) (g++[v])) C.below).trans h5 fun _ h=>av_ h,fun k _ G=>by rw[h6 k G,C.heap]⟩
 have j:∀{W:World} {f':aI},rL fp F base sb gf cap t0 tv (.slice x out.length c) s0 g v below f' tape out p W->W.cell? ⟨sb,3,none⟩=some (.slice x out.length c)/\sb<W.heap.size/\base<=W.heap.size/\Kept (aF sb gf (.slice x out.length c) (g++[v])) w W:=fun a=>by
  obtain⟨l,_,d,D,_⟩:=a;exact⟨aA d.blk rfl,aD d.blk,aF_ i (aF_ o.size D.size),o.trans D fun _ h=>av_ h⟩
 by_cases n:out.length=50
 ·rw[n] at j O;refine(KN w p sb gf (g.length*6) c x (fun m=>Done fp F base sb t0 s0 (aF sb gf (.slice x out.length c) (g++[v])) w ⟨below++[f.pop],tape,out⟩ m) (fun t z W=>PV F W (.iface t z) b/\aK b<=200/\rL fp F base sb gf cap t0 tv (.slice x 50 c) s0 g v below f.pop tape out p W) r L O (fun W t z a=>?_) (fun W t z a=>?_)).mono ?_
  ·obtain⟨y,q,_⟩:=j a.2.2;exact⟨y,q⟩
  ·subst r;rw[n];exact a.2.2.done (Ext.refl _ _)
  ·rintro e m ⟨rfl,d⟩;have V:Hs.doI s .print below f tape out=(⟨below++[f.pop],tape,out⟩,8):=by simp[Hs.doI,n]
   rw[V];exact⟨as_ ⟨show (8:Nat)≠0 by decide,rfl⟩,d⟩
 ·refine(KM w p sb gf (g.length*6) base out.length c x (iV b) (by omega) (fun m=>Done fp F base sb t0 s0 (aF sb gf (.slice x out.length c) (g++[v])) w ⟨below++[f.pop],tape,out++[iV b]⟩ m) (fun t z W=>PV F W (.iface t z) b/\aK b<=200/\rL fp F base sb gf cap t0 tv (.slice x out.length c) s0 g v below f.pop tape out p W) (fun W=>rL fp F base sb gf cap t0 tv (.slice x out.length c) s0 g v below f.pop tape out p W) (lV out) r L O (fun W t z a=>?_) (fun W U t z a C=>?_) (fun W a=>?_) (fun W a=>?_) (fun W a=>?_) (fun W a=>?_)).mono ?_
  ·obtain⟨y,q,_⟩:=j a.2.2;exact⟨y,q⟩
  ·obtain⟨p1,p2,a⟩:=a;have A:=a.grow C.below (fun _ h=>h) (fun _ h=>av_ h)
   have E:∀k,F k->k<U.heap.size:=fun k G=>by obtain⟨_,_,d,_⟩:=A;exact(d.apart k G).1
   refine(YP F _ b U (p1.keep fun k _=>by rw[C.heap]) E (hp U (j A).2.2.2) (by omega)).mono ?_
   rintro e m ⟨S,hb⟩;exact⟨S,A.grow hb (fun _ h=>h) (fun _ h=>av_ h)⟩
  ·obtain⟨y,q,K,_⟩:=j a;exact⟨y,q,K⟩
  ·obtain⟨_,_,d,_⟩:=a;exact d.out
  ·intro Y X;obtain⟨l,_,d,_⟩:=a;have M:=aD d.blk;have J:some sb≠(Value.slice x out.length c).ownBlock:=fun e=>(aK_.1 d.nodup).1 (by simp[<-e])
   have N:Y.heap[sb]?=_:=(X.block sb (by simp;omega) J).trans ((aA_ _ _ _ M).trans d.blk)
   exact⟨⟨_,aA N rfl⟩,aE N,aD N⟩
  ·intro g5 ab Y p2 X P;obtain⟨l,T,d,D,h4⟩:=a;obtain⟨y,q,K⟩:=d.printed (tx:=iV b) p2 X P;have B:aF sb gf (.slice x out.length c) (g++[{ v with ov:=l }])=aF sb gf (.slice x out.length c) (g++[v]):=by simp[aF,aT,FVal.owns,T]
   rw[B] at q K;have H:=o.trans D fun _ h=>av_ h
   exact⟨H.trans q fun _ h=>av_ h,F,gf,cap,tv,_,_,Ext.refl _ _,y,fun k G=>(K k G).imp_right fun h=>aF_ H.size h⟩
  ·rintro e m ⟨rfl,d⟩;have V:Hs.doI s .print below f tape out=(⟨below++[f.pop],tape,out++[iV b]⟩,0):=by simp[Hs.doI,n,u]
   rw[V];exact⟨av_ ⟨rfl,rfl⟩,d⟩
end
end Go.Proofs.YtblbkfdhjfppkaaGreatDoor
