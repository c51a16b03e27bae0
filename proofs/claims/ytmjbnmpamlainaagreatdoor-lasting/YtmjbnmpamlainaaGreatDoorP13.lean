/- Contracts of the program: a variable is declared. -/
import Derived.Test.YtmjbnmpamlainaaGreatDoorP12
set_option linter.defProp false
set_option maxRecDepth 100000
set_option maxHeartbeats 4000000
namespace Go.Proofs.YtmjbnmpamlainaaGreatDoor
open Hs
open _root_.Go.Proofs.Tryz
open Go.RowKit
def dA.declared{fp:eQ}{F:bX}{base:Nat}{w w':aG}{sb gf J:Nat}{X T g U:aQ}{fb:List FVal}{v:FVal}{p:List aJ}{f:aJ}{z:List Int}{I:cN}{cur:Array Value}{c u:aQ}{a:aM}{xs:List Value}{d:Nat}
 (h:dA false fp F base w sb gf J X T g U (fb++[v]) ⟨p++[f],z,I⟩) (K:w.heap[gf]?=some (.cells cur 108 (0,0)))
 (O:gQ F w xs (f.vars.take d)) (Z:d<=f.vars.length) (hu:PV F w u a) (N:aN a<=200)
 (p1:w'.heap[gf]?=some (.cells (cur.setIfInBounds (fb.length*6+4) c) 108 (0,0))) (S:w'.ownsRow base 129 1 c (d+1) (xs++[u])) (Q:∀k,c.ownBlock=some k->v.vv.ownBlock=some k\/w.heap.size<=k) (r:Chg gf v.vv.ownBlock w w'):
 dA false fp F base w' sb gf J X T g U (fb++[{ v with vv:=c }]) ⟨p++[{ f with vars:=f.vars.take d++[a] }],z,I⟩/\Kept (aR false sb gf g (fb++[v])) w w':=by
 obtain⟨ab,v0,e,aa,H⟩:=jQ.unsnoc h.frs;obtain⟨rfl,e2⟩:=db_ e rfl;cases e2;have A:=h.row;rw[show (fb++[v]).length=fb.length+1 by simp] at A
 obtain⟨L,W,_,c3⟩:=wJ (j:=4) (x:=c) A (by omega)
 obtain rfl:L=cur:=by rw[K] at W;cases W;rfl
 have D:∀k∈(v.ownX false),k∈aR false sb gf g (fb++[v]):=fun k l=>by simp[aR,cA,l]
 have P:gf∉(v.ownX false):=fun E=>by
  have:=(cB_.1 (cB_.1 h.nodup).2).1;exact this (by simp[cA,E])
 have C:(v.ownX false).Nodup:=by
  have m:=h.nodup;have:aR false sb gf g (fb++[v])=(sb::gf::(g.ownBlock.toList++cA false fb))++(v.ownX false):=by simp[aR,cA]
  rw[this] at m;exact(c5_.1 m).2.1
 have q:∀b,F b->w'.heap[b]?=w.heap[b]?:=fun b B=>by
  obtain⟨m,s⟩:=h.apart b B;exact r.block b m (fun e=>s (by simp[aR,e])) (fun e=>s (D b (by simp[FVal.ownX,<-e])))
 have t:∀k,k<w.heap.size->k≠gf->k∉(v.ownX false)->w'.heap[k]?=w.heap[k]?:=fun k m s M=>r.block k m s fun e=>M (by simp[FVal.ownX,<-e])
 have n:∀k,v.ov.ownBlock=some k->k<w.heap.size/\k≠gf/\v.vv.ownBlock≠some k:=fun k l=>by
  have E:k∈(v.ownX false):=by simp[FVal.ownX,l]
  refine⟨h.lt k (D k E),fun e=>P (by rw[<-e];exact E),fun e=>?_⟩
  unfold FVal.ownX at C;rw[l,e] at C;simp at C
 refine⟨h.step (G:=F) r.size t (c3 w' p1 _ rfl) ?_ ?_ ?_ dX (fun _ h=>cl_ h),?_⟩
 ·refine⟨H.fn.keep q dX,H.nx,H.ln,eF.keep q dX H.sp,⟨⟨xs++[u],?_,?_⟩,?_⟩,H.ops.keep q dX fun k l=>?_⟩
  ·show w'.ownsRow base 129 1 c (f.vars.take d++[a]).length _
   rw[cp_,da_,Nat.min_eq_left Z];exact S
  ·exact(O.keep q).append ⟨rfl,fun i hi=>by
    obtain rfl:i=0:=by simpa using hi
    exact⟨u,rfl,hu.keep q⟩⟩
  ·intro b B;rcases cu_.1 B with B|B
   ·exact H.vars.2 b (dM_ B)
   ·rw[cs_.1 B];exact N
  ·obtain⟨m,s,M⟩:=n k l;exact r.block k m s (fun e=>M e.symm)
 ·intro k l;rcases cu_.1 l with l|l
  ·have o:c.ownBlock=some k:=by simpa using l
   refine⟨cP S k o,?_⟩;rcases Q k o with m|m
   ·exact cl_ (by simp[FVal.ownX,m])
   ·exact ck_ m
  ·have o:v.ov.ownBlock=some k:=by simpa using l
   exact⟨cn_ (n k o).1 r.size,cl_ (by simp[FVal.ownX,o])⟩
 ·show (c.ownBlock.toList++v.ov.ownBlock.toList).Nodup
  refine c5_.2 ⟨by cases c.ownBlock<;>simp,by cases v.ov.ownBlock<;>simp,fun x hx y hy e=>?_⟩
  subst e;have m:c.ownBlock=some x:=by simpa using hx
  have s:v.ov.ownBlock=some x:=by simpa using hy
  obtain⟨M,_,h4⟩:=n x s;rcases Q x m with V|V
  ·exact h4 V
  ·omega
 ·exact⟨r.os,r.tape,r.output,r.size,fun k l Y=>t k l (fun e=>Y (by simp[aR,e])) fun E=>Y (D k E)⟩
def JI(w q:aG)(sb j m base d:Nat)(g n c:Nat)(O:d<=n)(M:n<=c)(_hn:n<=100001)(P:World->Prop)(Q:TypeId->Value->World->Prop)(xs:List Value)(B:w.alloc (.cells #[Iv0 d] 309)=q)(Z:d<=100000)
 (Y:Hid (∀W,aV q W->Calls prog 64 #[bH sb] W fun e p=>e=.returned (.pointer (some (aH j m)))/\aV q p))
 (G:q.cell? (aH j (m+4))=some (.slice (some (aH g 0)) n c))
 (X:Hid (∀W,aV q W->Calls prog 65 #[.pointer (some (aH j m))] W fun e p=>∃t z,e=.returned (.iface t z)/\Q t z p))
 (H:Hid (∀W t z,Q t z W->W.cell? (aH w.heap.size 0)=some (Iv0 d)/\w.heap.size<W.heap.size/\W.cell? (aH j (m+4))=some (.slice (some (aH g 0)) n c)/\j<W.heap.size/\base<=W.heap.size))
 (L:Hid (∀W t z,Q t z W->W.ownsRow base 129 1 (.slice (some (aH g 0)) d c) d xs))
 (I:Hid (∀W t z,Q t z W->∀h:aG,(W.alloc (.cells #[.iface t z] 129)).grownBy h (some g)->(∃u,h.cell? (aH j (m+4))=some u)/\h.frozen? (aH j (m+4))=false/\j<h.heap.size))
 (N:Hid (∀W t z,Q t z W->∀s f (h:aG),h.ownsRow base 129 1 (.slice (some (aH s 0)) (d+1) f) (d+1) (xs++[.iface t z])->(W.alloc (.cells #[.iface t z] 129)).grownBy h (some g)->((some g)=some s\/W.heap.size+1<=s)->P (h.setCell (aH j (m+4)) (.slice (some (aH s 0)) (d+1) f)))):
 Calls prog 271 #[.agg #[Iv0 d],bH sb] w fun e p=>e=.returned (.tuple #[])/\P p:=by
 obtain⟨K,S,y,C,D⟩:=info_parts oA;have a:(w.alloc (.cells #[Iv0 d] 309)).heap[w.heap.size]?=some (.cells #[Iv0 d] 309 (0,0)):=aO _ _ rfl _;rw[B] at a;have T:=aB B;have E:=aB (aA (i:=0) a rfl);have x:=aC a;have A:=aB G;have e1:(0:Int)<=(d:Int):=by omega
 have e2:(d:Int)<=(n:Int):=by omega
 have e3:(d:Int)<=(c:Int):=by omega
 clear B a G;go_in
 go_wp2_with fail;rw[T.out];refine(Y _ (aV.refl _)).mono ?_;rintro e w1 ⟨rfl,k⟩;have c0:=cM k.heap E;have U:=kX k.heap x;have c1:=cM k.heap A;go_wp2_with fail;go_region_law (first|(go_simp;go_at_call 65;refine(X _ (k.trans (aV.drew _))).mono ?_;rintro e F ⟨t,z,rfl,v⟩;have o:=H _ _ _ v;have b1:=o.1;have b2:=o.2.1;have b3:=o.2.2.1;have b4:=o.2.2.2.1;have b5:=o.2.2.2.2;clear o)|(refine step_append_lies _ (by rfl) _ _ 106 (by rfl) base 129 K _ 1 16 underlying106 S y C D rfl (by decide) (.slice (some (aH g 0)) d c) d xs (by rfl) ((L _ _ _ v).alloc _) (aH F.heap.size 0) 1 1 [.iface t z] (by rfl) (by rfl) (ET F _) (yI t z) (by decide) (by unfold maxLen;omega) (by omega) (by simp;omega) (F.heap.size+1) (by simp) ?_;intro s f h l b r V;have J:=I _ _ _ v h b;obtain⟨⟨u5,y1⟩,y2,y3⟩:=J))
 all_goals
  go_wp2
  go_end0;exact⟨rfl,N _ _ _ v _ _ _ l b (r.imp_right fun e=>dR_ e.symm)⟩
def JJ(w m:aG)(sb f j base:Nat)(P:World->Prop)(Q:TypeId->Value->World->Prop)(xs:List Value)(v:w.alloc (.cells #[Iv0 0] 309)=m)
 (O:Hid (∀W,aV m W->Calls prog 64 #[bH sb] W fun e l=>e=.returned (.pointer (some (aH f j)))/\aV m l))
 (C:m.cell? (aH f (j+4))=some (.slice none 0 0))
 (N:Hid (∀W,aV m W->Calls prog 65 #[.pointer (some (aH f j))] W fun e l=>∃t z,e=.returned (.iface t z)/\Q t z l))
 (D:Hid (∀W t z,Q t z W->W.cell? (aH w.heap.size 0)=some (Iv0 0)/\w.heap.size<W.heap.size/\W.cell? (aH f (j+4))=some (.slice none 0 0)/\f<W.heap.size/\base<=W.heap.size))
 (H:Hid (∀W t z,Q t z W->W.ownsRow base 129 1 (.slice none 0 0) 0 xs))
 (E:Hid (∀W t z,Q t z W->∀d:aG,(W.alloc (.cells #[.iface t z] 129)).grownBy d none->(∃u,d.cell? (aH f (j+4))=some u)/\d.frozen? (aH f (j+4))=false/\f<d.heap.size))
 (I:Hid (∀W t z,Q t z W->∀o c (d:aG),d.ownsRow base 129 1 (.slice (some (aH o 0)) 1 c) 1 (xs++[.iface t z])->(W.alloc (.cells #[.iface t z] 129)).grownBy d none->(none=some o\/W.heap.size+1<=o)->P (d.setCell (aH f (j+4)) (.slice (some (aH o 0)) 1 c)))):
 Calls prog 271 #[.agg #[Iv0 0],bH sb] w fun e l=>e=.returned (.tuple #[])/\P l:=by
 obtain⟨G,J,r,x,y⟩:=info_parts oA;have a:(w.alloc (.cells #[Iv0 0] 309)).heap[w.heap.size]?=some (.cells #[Iv0 0] 309 (0,0)):=aO _ _ rfl _;rw[v] at a;have K:=aB v;have A:=aB (aA (i:=0) a rfl);have q:=aC a;have s:=aB C;clear v a C;go_in
 go_wp2_with fail;rw[K.out];refine(O _ (aV.refl _)).mono ?_;rintro e S ⟨rfl,g⟩;have Z:=cM g.heap A;have L:=kX g.heap q;have c1:=cM g.heap s;go_wp2_with fail;go_region_law (first|(go_simp;go_at_call 65;refine(N _ (g.trans (aV.drew _))).mono ?_;rintro e B ⟨t,z,rfl,p⟩;have k:=D _ _ _ p;have T:=k.1;have b2:=k.2.1;have V:=k.2.2.1;have b4:=k.2.2.2.1;have U:=k.2.2.2.2;clear k)|(refine step_append_lies _ (by rfl) _ _ 106 (by rfl) base 129 G _ 1 16 underlying106 J r x y rfl (by decide) (.slice none 0 0) 0 xs (by rfl) ((H _ _ _ p).alloc _) (aH B.heap.size 0) 1 1 [.iface t z] (by rfl) (by rfl) (ET B _) (yI t z) (by decide) (by unfold maxLen;omega) (by omega) (by simp;omega) (B.heap.size+1) (by simp) ?_;intro o c d h b n M;have F:=E _ _ _ p d b;obtain⟨⟨u5,X⟩,y2,Y⟩:=F))
 all_goals
  go_wp2
  go_end0;exact⟨rfl,I _ _ _ p _ _ _ h b (n.imp_right fun e=>dR_ e.symm)⟩
section
variable {fp:eQ} {F:bX} {base:Nat} {w:aG} {sb gf cap:Nat} {t0 tv outv s0:aQ} {fvs:List FVal} {below:List aJ} {f:aJ} {tape:List Int} {out:cN}
def dA.popR{fb:List FVal}{v:FVal}{vs:List aM}{a:aM}(h:dA false fp F base w sb gf cap t0 tv outv s0 (fb++[v]) ⟨below++[f],tape,out⟩)(G:f.ops=vs++[a])(l:f.ops.length<=100000):
 Calls prog 65 #[.pointer (some (aH gf (fb.length*6)))] w fun e o=>∃t z c,e=.returned (.iface t z)/\PV F o (.iface t z) a/\aN a<=200/\c.ownBlock=v.ov.ownBlock/\dA false fp F base o sb gf cap t0 tv outv s0 (fb++[{ v with ov:=c }]) ⟨below++[f.pop],tape,out⟩/\Kept (aR false sb gf outv (fb++[v])) w o/\∀k,k≠gf->o.heap[k]?=w.heap[k]?:=by
 obtain⟨N,X,B,e,P,m,I,r,E,U,S,W,T,Y,L⟩:=h.top;obtain⟨rfl,M⟩:=db_ e rfl;cases M;obtain⟨⟨V,g,q⟩,d⟩:=m.ops;rw[G] at g q d l;obtain⟨n,u,rfl,O,p,H⟩:=gQ.unsnoc q;obtain⟨t,z,rfl⟩:=H.form;rw[cp_] at g l;refine(RX base gf (fb.length*6) vs.length B v.ov n _ w r L g O ⟨t,z,rfl⟩ (by omega)).mono ?_
 rintro e o ⟨rfl,c,rfl,J,C⟩;have i:f.pop.ops=vs:=by simp[aJ.pop,G]
 have s:OP false fp F base w { v with ov:=c } f.pop:=⟨m.fn,m.nx,m.ln,m.sp,m.vars,⟨n,by rw[i];exact J,by rw[i];exact p⟩,fun b D=>d b (cC_ _ (by rw[i] at D;exact D))⟩
 obtain⟨K,Q⟩:=h.setTop (j:=5) (x:=c) (v':={ v with ov:=c }) (by omega) rfl (by simp[FVal.ownX,C]) s
 have y:∀k,F k->(w.setCell (aH gf (fb.length*6+5)) c).heap[k]?=w.heap[k]?:=fun k A=>cm_ _ _ _ _ fun e=>(h.apart k A).2 (by simp[aR,e])
 exact⟨t,z,c,rfl,H.keep y,d a (by simp),C,K,Q,fun k A=>cm_ _ _ _ _ A⟩
def dA.declaredC{fb:List FVal}{v:FVal}{d:Nat}{xs:List Value}{a:aM}{t:TypeId}{z:aQ}{g b:Nat}{l:aG}{y:Option Nat}(h:dA false fp F base w sb gf cap t0 tv outv s0 (fb++[v]) ⟨below++[f],tape,out⟩)(M:PV F w (.iface t z) a)(r:aN a<=200)(s:gQ F w xs (f.vars.take d))(H:d<=f.vars.length)(j:y=v.vv.ownBlock)
 (I:l.ownsRow base 129 1 (.slice (some (aH g 0)) (d+1) b) (d+1) (xs++[.iface t z])) (m:(w.alloc (.cells #[.iface t z] 129)).grownBy l y) (n:y=some g\/w.heap.size+1<=g):
 dA false fp F base (l.setCell (aH gf (fb.length*6+4)) (.slice (some (aH g 0)) (d+1) b)) sb gf cap t0 tv outv s0 (fb++[{ v with vv:=.slice (some (aH g 0)) (d+1) b }]) ⟨below++[{ f with vars:=f.vars.take d++[a] }],tape,out⟩/\Kept (aR false sb gf outv (fb++[v])) w (l.setCell (aH gf (fb.length*6+4)) (.slice (some (aH g 0)) (d+1) b)):=by
 obtain⟨K,X,A,e,L,W,G,c,E,S,P,V,Q,T,U⟩:=h.top;obtain⟨rfl,J⟩:=db_ e rfl;cases J;have B:=aC c
 have p:v.vv.ownBlock≠some gf:=fun e=>by
  have:=(cB_.1 (cB_.1 h.nodup).2).1;exact this (by simp[cA,FVal.ownX,e])
 have C:g≠gf:=by
  rcases n with e|e
  ·intro O;rw[j] at e;exact p (by rw[e,O])
  ·omega
 have D:∀k,k<w.heap.size->some k≠v.vv.ownBlock->l.heap[k]?=w.heap[k]?:=fun k x q=>by
  rw[m.block k (by simp;omega) (by rw[j];exact q),cq_ _ _ _ x]
 have o:l.heap[gf]?=some (.cells A 108 (0,0)):=by rw[D gf B (fun e=>p e.symm)];exact c
 refine h.declared (a:=a) (u:=.iface t z) (xs:=xs) c s H M r (aK o) (aW I fun k i=>cm_ _ _ _ _ (by cases i;exact C)) (fun k i=>?_) ⟨m.os.trans rfl,m.tape.trans rfl,m.output.trans rfl,cw_ (by simp) (cw_ m.size (by simp)),fun k x q N=>?_⟩
 ·cases i;rcases n with e|e
  ·exact cl_ (by rw[<-j];exact e)
  ·exact ck_ (by show w.heap.size<=g;omega)
 ·rw[cm_ _ _ _ _ q,D k x N]
def zD(fp:eQ)(F:bX)(base sb gf cap:Nat)(t0 tv outv s0:aQ)(fb:List FVal)(v:FVal)(below:List aJ)(f:aJ)(tape:List Int)(out:cN)(w0:aG)(a:aM)(t:TypeId)(z:aQ)(W:aG):Prop:=
 ∃ov',ov'.ownBlock=v.ov.ownBlock/\PV F W (.iface t z) a/\aN a<=200/\dA false fp F base W sb gf cap t0 tv outv s0 (fb++[{ v with ov:=ov' }]) ⟨below++[f.pop],tape,out⟩/\Kept (aR false sb gf outv (fb++[v])) w0 W/\∀k,k≠gf->W.heap[k]?=w0.heap[k]?
def zD.fin{fb:List FVal}{v:FVal}{u W:aG}{a:aM}{t:TypeId}{z:aQ}{d:Nat}{xs:List Value}{C:Obj}(h:dA false fp F base w sb gf cap t0 tv outv s0 (fb++[v]) ⟨below++[f],tape,out⟩)(y:u=w.alloc C)(M:zD fp F base sb gf cap t0 tv outv s0 fb v below f tape out u a t z W)(G:d<=f.vars.length)(q:gQ F u xs (f.vars.take d))(x:f.last=a)
 (g c:Nat) (A:aG) (i:Option Nat) (n:i=v.vv.ownBlock) (J:A.ownsRow base 129 1 (.slice (some (aH g 0)) (d+1) c) (d+1) (xs++[.iface t z])) (L:(W.alloc (.cells #[.iface t z] 129)).grownBy A i) (m:i=some g\/W.heap.size+1<=g):
 Done fp F base sb t0 s0 (aR false sb gf outv (fb++[v])) w ⟨below++[(aL (.declare d) f).1],tape,out⟩ (A.setCell (aH gf (fb.length*6+4)) (.slice (some (aH g 0)) (d+1) c)):=by
 subst y;obtain⟨j,B,I,S,N,D,T⟩:=M;have s:∀k,F k->k≠gf:=fun k r e=>(h.apart k r).2 (by simp[aR,e])
 obtain⟨O,E⟩:=N.declaredC (d:=d) (xs:=xs) I S (q.keep fun b K=>T b (s b K)) G n J L m
 have l:aR false sb gf outv (fb++[{ v with ov:=j }])=aR false sb gf outv (fb++[v]):=by simp[aR,cA,FVal.ownX,B]
 rw[l] at E;have P:=((Kept.of_below (own:=aR false sb gf outv (fb++[v])) ((co_ _ w).alloc cL C)).trans D fun _ h=>cl_ h).trans E fun _ h=>cl_ h
 refine⟨P,F,gf,cap,tv,outv,fb++[{ v with ov:=j,vv:=.slice (some (aH g 0)) (d+1) c }],Ext.refl _ _,?_,fun k r=>?_⟩
 ·have e:(aL (.declare d) f).1={ f.pop with vars:=f.pop.vars.take d++[a] }:=by simp[aL,x,aJ.pop]
  rw[e];exact O
 ·have U:aR false sb gf outv (fb++[{ v with ov:=j,vv:=.slice (some (aH g 0)) (d+1) c }])=(sb::gf::(outv.ownBlock.toList++cA false fb))++(g::v.ov.ownBlock.toList):=by
   have H:(Value.slice (some (aH g 0)) (d+1) c).ownBlock=some g:=rfl;simp[aR,cA,FVal.ownX,B,H]
  have Q:aR false sb gf outv (fb++[v])=(sb::gf::(outv.ownBlock.toList++cA false fb))++(v.ownX false):=by simp[aR,cA]
  have p:k∈(sb::gf::(outv.ownBlock.toList++cA false fb))++(g::v.ov.ownBlock.toList):=by rw[<-U];exact r
  rw[Q];rcases cu_.1 p with o|o
  ·exact cl_ (cC_ _ o)
  ·rcases cv_.1 o with rfl|o
   ·rcases m with e|e
    ·exact cl_ (cI_ _ (by rw[n] at e;simp[FVal.ownX,e]))
    ·have:=D.size;exact ck_ (by simp at this;omega)
   ·exact cl_ (cI_ _ (cI_ _ o))
def zD.reads{fb:List FVal}{v:FVal}{W:aG}{a:aM}{t:TypeId}{z:aQ}{cs:Array Value}{m:TypeId}(h:dA false fp F base w sb gf cap t0 tv outv s0 (fb++[v]) ⟨below++[f],tape,out⟩)(p:base<=w.heap.size)(s:zD fp F base sb gf cap t0 tv outv s0 fb v below f tape out (w.alloc (.cells cs m)) a t z W):
 W.heap[w.heap.size]?=some (.cells cs m (0,0))/\W.cell? (aH gf (fb.length*6+4))=some v.vv/\gf<W.heap.size/\base<=W.heap.size/\
  ∀d:aG,(W.alloc (.cells #[.iface t z] 129)).grownBy d v.vv.ownBlock->(∃u,d.cell? (aH gf (fb.length*6+4))=some u)/\d.frozen? (aH gf (fb.length*6+4))=false/\gf<d.heap.size:=by
 obtain⟨j,L,I,N,x,y,D⟩:=s;obtain⟨B,G,i,e,C,P,n,b,l,K,H,O,J,o,M⟩:=x.top;obtain⟨rfl,A⟩:=db_ e rfl;have E:G={ v with ov:=j }:=by simpa using A.symm
 subst E;have g:=aC b;have r:gf<w.heap.size:=h.lt gf (by simp[aR])
 have k:v.vv.ownBlock≠some gf:=fun e=>by
  have:=(cB_.1 (cB_.1 h.nodup).2).1;exact this (by simp[cA,FVal.ownX,e])
 refine⟨by rw[D _ (by omega)];exact aO _ _ rfl _,aA b o,g,cw_ p (cw_ (by simp) y.size),fun d q=>?_⟩
 have c:d.heap[gf]?=some (.cells i 108 (0,0)):=by
  rw[q.block gf (by simp;omega) (fun e=>k e.symm),cq_ _ _ _ g];exact b
 exact⟨⟨_,aA c o⟩,aD c,aC c⟩
def XV(d:Nat)(h:dA false fp F base w sb gf cap t0 tv outv s0 fvs ⟨below++[f],tape,out⟩)(u:below.length<=15)(b:base<=w.heap.size)(ac:f.ops.length<=99000)(G:∃vs a,f.ops=vs++[a])(D:d<=f.vars.length)(af:f.vars.length<=90001):
 Calls prog 271 #[.agg #[.int .i64 d],.pointer (some ⟨sb,0,none⟩)] w (r9 fp F base sb t0 s0 (aR false sb gf outv fvs) w below tape out (aL (.declare d) f)):=by
 obtain⟨vs,a,O⟩:=G;have hM:=h.mid b (.cells #[.int .i64 d] 309);obtain⟨m,v,J,rfl,P, -⟩:=h.top;have h0:=h.grow ((co_ _ w).alloc (cy_ _) (.cells #[.int .i64 d] 309)) (fun _ h=>h) (fun _ h=>cl_ h)
 have M:=hM.topS u;rw[<-P] at M;obtain⟨ae,v0,J,e, -,hv,ab,p,aa,k0,k1,k2,k3,k4,k5⟩:=h0.top;obtain⟨rfl,e2⟩:=db_ e rfl;cases e2
 have HP:Hid (∀W,aV (w.alloc (.cells #[.int .i64 d] 309)) W->Calls prog 65 #[.pointer (some ⟨gf,m.length*6,none⟩)] W fun e n=>∃t z,e=.returned (.iface t z)/\zD fp F base sb gf cap t0 tv outv s0 m v below f tape out (w.alloc (.cells #[.int .i64 d] 309)) a t z n):=fun W hS=>by
  refine((h0.grow hS.below (fun _ h=>h) (fun _ h=>cl_ h)).popR O (by omega)).mono ?_
  rintro e n ⟨t,z,s,he,h1,x,h3,h4,h5,h6⟩;exact⟨t,z,he,s,h3,h1,x,h4,(Kept.of_below (own:=aR false sb gf outv (m++[v])) hS.below).trans h5 fun _ h=>cl_ h,fun k hk=>by rw[h6 k hk,hS.heap]⟩
 obtain⟨⟨Q,A,B⟩,V⟩:=hv.vars
 have X:v.vv.ownBlock≠some gf:=fun e=>by
  have:=(cB_.1 (cB_.1 h.nodup).2).1;exact this (by simp[cA,FVal.ownX,e])
 have o:gQ F (w.alloc (.cells #[.int .i64 d] 309)) (Q.take d) (f.vars.take d):=by
  have hh:=B;rw[<-cY_ d f.vars] at hh;obtain⟨ys,zs,rfl,l1,l2,j,r2⟩:=hh.split;rw[da_,Nat.min_eq_left D] at l1;rw[<-l1,List.take_left,l1];exact j
 rcases A.2 with ⟨j,r2⟩|⟨g,c,K,j,N,y,E,U,S,Z⟩
 ·obtain rfl:d=0:=by omega
  refine(JJ w _ sb gf (m.length*6) base (fun n=>Done fp F base sb t0 s0 (aR false sb gf outv (m++[v])) w ⟨below++[(aL (.declare 0) f).1],tape,out⟩ n) (zD fp F base sb gf cap t0 tv outv s0 m v below f tape out (w.alloc (.cells #[.int .i64 0] 309)) a) [] rfl M (by rw[<-j];exact aA p k4) HP (fun W t z i=>?_) (fun W t z i=>World.ownsRow_nil _ _ _ _) (fun W t z i=>?_) (fun W t z i=>?_)).mono ?_
  ·obtain⟨C,Y,I,q4,q5⟩:=zD.reads h b i;exact⟨aA C rfl,aC C,by rw[Y,j],I,q4⟩
  ·have:=(zD.reads h b i).2.2.2.2;rw[j] at this;exact this
  ·intro T l w5 H L q;exact zD.fin h rfl i D (by simpa using o) (jS O) T l w5 none (by rw[j];rfl) H L q
  ·rintro e n ⟨rfl,x⟩;exact r9.ok rfl x
 ·refine(JI w _ sb gf (m.length*6) base d g f.vars.length c D E (by omega) (fun n=>Done fp F base sb t0 s0 (aR false sb gf outv (m++[v])) w ⟨below++[(aL (.declare d) f).1],tape,out⟩ n) (zD fp F base sb gf cap t0 tv outv s0 m v below f tape out (w.alloc (.cells #[.int .i64 d] 309)) a) (Q.take d) rfl (by omega) M (by rw[<-j];exact aA p k4) HP (fun W t z i=>?_) (fun W t z i=>?_) (fun W t z i=>?_) (fun W t z i=>?_)).mono ?_
  ·obtain⟨C,Y,I,q4,q5⟩:=zD.reads h b i;exact⟨aA C rfl,aC C,by rw[Y,j],I,q4⟩
  ·obtain⟨s,_,_,_,_,_,h6⟩:=i;have r:W.heap[g]?=_:=(h6 g (fun e=>X (by rw[j,e];rfl))).trans y
   have ad:Q.length=f.vars.length:=B.1;refine⟨by rw[da_];omega,ck_ ⟨g,c,K,rfl,N,r,by omega,U,S,?_⟩⟩
   have:=congrArg (List.take d) Z;rw[dF_,show min d (f.vars.length*1)=d by omega] at this
   rw[dW_];exact this
  ·have:=(zD.reads h b i).2.2.2.2;rw[j] at this;exact this
  ·intro T l w5 H L q;exact zD.fin h rfl i D o (jS O) T l w5 (some g) (by rw[j];rfl) H L q
  ·rintro e n ⟨rfl,x⟩;exact r9.ok rfl x
end
def QE(w a:aG)(sb:Nat)(x:Option Addr)(c:Nat)(d:w.alloc (.cells #[] 279)=a)(f:a.cell? (aH sb 2)=some (.slice x 0 c)):
 Calls prog 268 #[.agg #[],bH sb] w fun e b=>e=fR 7/\b=a:=by
 go_in
 go_wp2_with fail;exact⟨rfl,rfl,rfl⟩
def QD(w b:aG)(sb r t g o n c:Nat)(i:Int)(P k:World->Prop)(E:w.alloc (.cells #[] 279)=b)(K:n+1<=c)(_hnn:n<=17592186044416)
 (y:Hid (∀W,aV b W->Calls prog 64 #[bH sb] W fun e d=>e=aZ (.pointer (some (aH r t)))/\aV b d))
 (p:b.cell? (aH sb 2)=some (.slice (some (aH g o)) (n+1) c)) (m:b.cell? (aH g o)=some (Iv0 i))
 (x:Hid (∀W,aV b W->Calls prog 239 #[.pointer (some (aH r t)),.iface 209 (Iv0 i)] W fun e d=>e=aZ (.tuple #[])/\k d))
 (v:Hid (∀W,k W->W.cell? (aH sb 2)=some (.slice (some (aH g o)) (n+1) c)/\W.frozen? (aH sb 2)=false/\sb<W.heap.size))
 (s:Hid (∀W f q,k W->(n=0\/(f=o+1/\q=c-1))->P (W.setCell (aH sb 2) (.slice (some (aH g f)) n q)))):
 Calls prog 268 #[.agg #[],bH sb] w fun e d=>e=aZ (.tuple #[])/\P d:=by
 have h:=aB p;have l:=aB m;have I:=p;have J:=m;have B:((n:Int)+1=0)=False:=by simp;omega
 have L:(1:Int)<=(n:Int)+1:=by omega
 have H:(n:Int)+1<=(c:Int):=by omega
 have M:(0:Int)<(n:Int)+1:=by omega
 clear p m;go_in
 go_wp2_with fail;go_region_law (first|(go_simp;go_at_call 64;refine(y _ (by first|assumption|exact aV.drew _)).mono ?_;rintro e A ⟨rfl,a⟩;have G:=cM a.heap h;have C:=cM a.heap l)|(go_simp;go_at_call 239;refine(x _ a).mono ?_;rintro e z ⟨rfl,j⟩;have u:=v _ j;obtain⟨D,N,F⟩:=u))
 all_goals
  go_wp2_with fail
  all_goals
   go_end0;first|exact⟨rfl,s _ _ _ j (ck_ ⟨rfl,rfl⟩)⟩|exact⟨rfl,s _ _ _ j (cl_ (by omega))⟩
section
variable {fp:eQ} {F:bX} {base:Nat} {w:aG} {sb gf cap:Nat} {t0 tv outv s0:aQ} {fvs:List FVal} {below:List aJ} {f:aJ} {tape:List Int} {out:cN}
def dA.setTape{m:cR}{c:aQ}{d:List Int}(h:dA false fp F base w sb gf cap t0 tv outv s0 fvs m)(o:sW F w c d):
 dA false fp F base (w.setCell (aH sb 2) c) sb gf cap t0 c outv s0 fvs ⟨m.frames,d,m.out⟩/\Kept (aR false sb gf outv fvs) w (w.setCell (aH sb 2) c):=by
 have g:∀k,k≠sb->(w.setCell (aH sb 2) c).heap[k]?=w.heap[k]?:=fun k g=>cm_ _ _ _ _ g
 have j:=(cB_.1 h.nodup).1;have i:∀b,F b->(w.setCell (aH sb 2) c).heap[b]?=w.heap[b]?:=fun b p=>g b fun e=>(h.apart b p).2 (by simp[aR,e])
 have f:∀k,k∈gf::(outv.ownBlock.toList++cA false fvs)->(w.setCell (aH sb 2) c).heap[k]?=w.heap[k]?:=fun k l=>g k fun e=>j (by rw[<-e];exact l)
 refine⟨⟨?_,aW h.row fun k a=>?_,h.frs.keep i dX fun v n k a=>f k ?_,o.keep i dX,aW h.out fun k a=>f k (by simp[a]),h.nodup,fun k a=>cn_ (h.lt k a) (by simp),fun k a=>⟨cn_ (h.apart k a).1 (by simp),(h.apart k a).2⟩⟩,⟨rfl,rfl,rfl,by simp,fun k _ q=>g k fun e=>q (by simp[aR,e])⟩⟩
 ·rw[aK h.blk];rfl
 ·cases a;exact f gf (by simp)
 ·have:k∈cA false fvs:=de_.2 ⟨v,n,a⟩;simp[this]
def DoM(fp:eQ)(F:bX)(base sb:Nat)(t0 s0:aQ)(own:List Nat)(w:aG)(r:cR × Nat)(e:Ending)(w':aG):Prop:=
 p9 r.2 e/\Done fp F base sb t0 s0 own w r.1 w'
def dV.tapes{own:List Nat}{i:aG}{G:bX}{n:Nat}{m:cR}(h:dV false fp base sb gf n t0 s0 own i G m w):∃tv,sW G w tv m.tape/\w.cell? (aH sb 2)=some tv/\w.frozen? (aH sb 2)=false/\sb<w.heap.size/\
 ∀b a,sW G w b a->dV false fp base sb gf n t0 s0 own i G ⟨m.frames,a,m.out⟩ (w.setCell (aH sb 2) b):=by
 obtain⟨p,k,e,tv,d,f,q,c,g⟩:=h;refine⟨tv,c.tape,aA c.blk rfl,aD c.blk,aC c.blk,fun b a l=>?_⟩
 obtain⟨o,j⟩:=c.setTape l;exact⟨p.trans j g,cw_ k j.size,e,b,d,f,q,o,g⟩
def dV.pushK{own:List Nat}{O:aG}{G:bX}{n:Nat}(h:dV false fp base sb gf n t0 s0 own O G ⟨below++[f],tape,out⟩ w){t:TypeId}{z:aQ}{a:aM}(Z:PV G w (.iface t z) a)(u:aN a<=200)(L:f.ops.length<=100000):Calls prog 239 #[.pointer (some (aH gf (n*6))),.iface t z] w fun e r=>e=aZ (.tuple #[])/\dV false fp base sb gf n t0 s0 own O G ⟨below++[f.push a],tape,out⟩ r/\r.heap[sb]?=w.heap[sb]?/\∀k,G k->r.heap[k]?=w.heap[k]?:=by
 obtain⟨M,K,C,S,b,aa,d,c,p⟩:=h;obtain⟨l,v,i,rfl,X,hv,q,g,N,k0,k1,k2,k3,k4,U⟩:=c.top;have I:l.length=n:=by simpa using d
 subst I;obtain⟨⟨Y,m,y⟩,D⟩:=hv.ops;have F:=cB_.1 (cB_.1 c.nodup).2;have A:v.ov.ownBlock≠some gf:=fun e=>F.1 (by simp[cA,FVal.ownX,e])
 have x:v.ov.ownBlock≠some sb:=fun e=>(cB_.1 c.nodup).1 (by simp[cA,FVal.ownX,e])
 have E:sb≠gf:=fun e=>(cB_.1 c.nodup).1 (by simp[e])
 refine(yN base gf (l.length*6) f.ops.length i v.ov Y t z w g U m A K (by omega)).mono ?_
 rintro e r ⟨he,j,W,Q,J,s⟩;obtain⟨T,P⟩:=c.pushed (cur:=i) g y Z u W Q J s;refine⟨he,⟨M.trans P p,cw_ K P.size,C,S,b,_,by simp,T,fun k o=>?_⟩,s.block sb (aC q) E (fun e=>x e.symm),fun k B=>s.block k (c.apart k B).1 (fun e=>(c.apart k B).2 (by simp[aR,e])) fun e=>(c.apart k B).2 (by simp[aR,cA,FVal.ownX,<-e])⟩
 have e1:aR false sb gf b (l++[{ v with ov:=j }])=(sb::gf::(b.ownBlock.toList++cA false l))++({ v with ov:=j }:FVal).ownX false:=by simp[aR,cA]
 have V:aR false sb gf b (l++[v])=(sb::gf::(b.ownBlock.toList++cA false l))++(v.ownX false):=by simp[aR,cA]
 rw[e1] at o;rw[V] at p;rcases cu_.1 o with d|d
 ·exact p k (cC_ _ d)
 ·rcases cu_.1 d with d|d
  ·exact p k (cI_ _ (cC_ _ d))
  ·have c:j.ownBlock=some k:=by simpa using d
   rcases J k c with H|H
   ·exact p k (cI_ _ (by simp[FVal.ownX,H]))
   ·exact ck_ (cw_ M.size H)
def ae_(v:List eU)(h:dA false fp F base w sb gf cap t0 tv outv s0 fvs ⟨below++[f],tape,out⟩)(p:below.length<=15)(b:base<=w.heap.size)(I:f.ops.length<=99000)(B:tape.length<=17592186044416):
 Calls prog 268 #[.agg #[],bH sb] w (DoM fp F base sb t0 s0 (aR false sb gf outv fvs) w (Hs.doI v .read below f tape out)):=by
 have s:=h.mid b (.cells #[] 279);obtain⟨A,J,u,Y,N,L⟩:=s.tapes;cases tape with
 |nil=>
  have V:∃x c,A=.slice x 0 c:=by
   rcases J with ⟨_,d⟩|⟨g,o,c,d,_⟩
   ·exact d
   ·exact⟨_,_,d⟩
  obtain⟨x,c,rfl⟩:=V;refine(QE w _ sb x c rfl u).mono ?_;rintro e n ⟨rfl,rfl⟩;exact⟨ck_ ⟨show (7:Nat)≠0 by decide,rfl⟩,s.done (Ext.refl _ _)⟩
 |cons i l=>
  rcases J with ⟨O,_⟩|⟨g,o,c,rfl,M,q,a⟩
  ·cases O
  have E:=a 0 (by simp)
  simp only[ct_] at u M B
  refine(QD w _ sb gf (below.length*6) g o l.length c i (fun n=>Done fp F base sb t0 s0 (aR false sb gf outv fvs) w ⟨below++[f.push (bG i)],l,out⟩ n)
   (fun W=>dV false fp base sb gf below.length t0 s0 (aR false sb gf outv fvs) (w.alloc (.cells #[] 279)) F ⟨below++[f.push (bG i)],i::l,out⟩ W/\W.cell? (aH sb 2)=some (.slice (some (aH g o)) (l.length+1) c)/\∀k,F k->W.heap[k]?=(w.alloc (.cells #[] 279)).heap[k]?) rfl M (by omega) (s.topS p) u E.1 (fun W H=>?_) (fun W t=>?_) (fun W U Z t C=>?_)).mono ?_
  ·refine((s.same H).pushK (PV.num F W i E.2.1 E.2.2) (by rw[lB];omega) (by omega)).mono ?_
   rintro e n ⟨X,d,r,D⟩;refine⟨X,d,?_,fun k P=>by rw[D k P,H.heap]⟩
   have G:n.cell? (aH sb 2)=W.cell? ⟨sb,2,none⟩:=World.cell?_of_block r;rw[G];exact cM H.heap u
  ·obtain⟨y,_,q2,Q,T,_⟩:=t.1.tapes;exact⟨t.2.1,Q,T⟩
  ·obtain⟨d,r,D⟩:=t;obtain⟨y,_,_,_,_,S⟩:=d.tapes;refine(S _ l ?_).done (Ext.refl _ _);by_cases K:l=[]
   ·subst K;exact cl_ ⟨rfl,_,_,rfl⟩
   ·have z:l.length≠0:=fun e=>K (cF_ e)
    rcases C with C|⟨rfl,rfl⟩
    ·exact absurd C z
    ·refine ck_ ⟨g,o+1,c-1,rfl,by omega,q,fun j hj=>?_⟩
     have m:=a (j+1) (by simp;omega)
     simp only[List.getElem_cons_succ] at m;refine⟨?_,m.2⟩;have G:W.cell? (aH g (o+1+j))=(w.alloc (.cells #[] 279)).cell? ⟨g,o+1+j,none⟩:=World.cell?_of_block (D g q);rw[G,show o+1+j=o+(j+1) by omega];exact m.1
  ·rintro e n ⟨rfl,r⟩;exact⟨cl_ ⟨rfl,rfl⟩,r⟩
end
def RU(w c:aG)(sb g j gf a:Nat)(P:World->Prop)(Q:TypeId->Value->World->Prop)(h:w.alloc (.cells #[] 231)=c)(i:1<=a)
 (p:Hid (∀W,aV c W->Calls prog 64 #[bH sb] W fun e b=>e=aZ (.pointer (some (aH g j)))/\aV c b))
 (o:Hid (∀W,aV c W->Calls prog 65 #[.pointer (some (aH g j))] W fun e b=>∃t z,e=aZ (.iface t z)/\Q t z b))
 (k:Hid (∀W t z,Q t z W->W.cell? (aH sb 1)=some (.slice (some (aH gf 0)) 1 a)/\W.frozen? (aH sb 1)=false/\sb<W.heap.size))
 (l:Hid (∀W t z,Q t z W->P (W.drew.setCell (aH sb 1) (.slice (some (aH gf 0)) 0 a)))):
 Calls prog 240 #[.agg #[],bH sb] w fun e b=>e=aZ (.tuple #[])/\P b:=by
 have n:=aB h;have u:(0:Int)<=(a:Int):=by omega
 clear h;go_in
 go_wp2_with fail;rw[n.out];refine(p _ (aV.refl _)).mono ?_;rintro e q ⟨rfl,f⟩;go_wp2_with fail;refine(o _ f).mono ?_;rintro e x ⟨t,z,rfl,d⟩;obtain⟨r,v,s⟩:=k _ _ _ d;have m:=aB (l _ _ _ d);clear d;go_wp2_with fail;go_region
 all_goals
  go_wp2
  go_end0;exact⟨rfl,m⟩
def RT(w c:aG)(sb i o gf b n h k:Nat)(P:World->Prop)(Q m:TypeId->Value->World->Prop)(j:w.alloc (.cells #[] 231)=c)(l:n+2<=b)(H:n<=1000)
 (y:Hid (∀W,aV c W->Calls prog 64 #[bH sb] W fun e a=>e=aZ (.pointer (some (aH i o)))/\aV c a))
 (x:Hid (∀W,aV c W->Calls prog 65 #[.pointer (some (aH i o))] W fun e a=>∃t z,e=aZ (.iface t z)/\Q t z a))
 (p:Hid (∀W t z,Q t z W->W.cell? (aH sb 1)=some (.slice (some (aH gf 0)) (n+2) b)/\W.frozen? (aH sb 1)=false/\sb<W.heap.size))
 (g:Hid (∀W t z,Q t z W->Calls prog 64 #[bH sb] (W.drew.setCell (aH sb 1) (.slice (some (aH gf 0)) (n+1) b)) fun e a=>e=aZ (.pointer (some (aH h k)))/\m t z a))
 (u:Hid (∀W t z,m t z W->Calls prog 239 #[.pointer (some (aH h k)),.iface t z] W fun e a=>e=aZ (.tuple #[])/\P a)):
 Calls prog 240 #[.agg #[],bH sb] w fun e a=>e=aZ (.tuple #[])/\P a:=by
 have v:=aB j;have I:(0:Int)<=(n:Int)+1:=by omega
 have F:(n:Int)+1<=(b:Int):=by omega
 have J:(0:Int)<(n:Int)+1:=by omega
 have K:(n:Int)+2-1=(n:Int)+1:=by omega
 clear j;go_in
 go_wp2_with fail;rw[v.out];refine(y _ (aV.refl _)).mono ?_;rintro e B ⟨rfl,f⟩;go_wp2_with fail;refine(x _ f).mono ?_;rintro e L ⟨t,z,rfl,d⟩;obtain⟨C,G,E⟩:=p _ _ _ d;have s:=aB (g _ _ _ d);clear d;go_wp2_with fail;go_region
 all_goals
  go_wp2_with fail;refine s.mono ?_;rintro e D ⟨rfl,q⟩;go_wp2_with fail;refine(u _ _ _ q).mono ?_;rintro e A ⟨rfl,r⟩;go_wp2
  go_end0;exact⟨rfl,r⟩
section
variable {fp:eQ} {F:bX} {base:Nat} {w:aG} {sb gf cap:Nat} {t0 tv outv s0:aQ} {fvs:List FVal} {below:List aJ} {f:aJ} {tape:List Int} {out:cN}
def dA.dropTop{fb:List FVal}{v:FVal}(h:dA false fp F base w sb gf cap t0 tv outv s0 (fb++[v]) ⟨below++[f],tape,out⟩):
 dA false fp F base (w.setCell (aH sb 1) (.slice (some (aH gf 0)) fb.length cap)) sb gf cap t0 tv outv s0 fb ⟨below,tape,out⟩/\Kept (aR false sb gf outv (fb++[v])) w (w.setCell (aH sb 1) (.slice (some (aH gf 0)) fb.length cap)):=by
 generalize G:Value.slice (some (aH gf 0)) fb.length cap=V;have l:∀k,k≠sb->(w.setCell (aH sb 1) V).heap[k]?=w.heap[k]?:=fun k l=>cm_ _ _ _ _ l
 have q:=(cB_.1 h.nodup).1;have c:cA false (fb++[v])=cA false fb++(v.ownX false):=by simp[cA]
 have d:∀k,k∈aR false sb gf outv fb->k∈aR false sb gf outv (fb++[v]):=fun k j=>by
  unfold aR at j ⊢
  rw[c];simp only[cv_,cu_] at j ⊢
  rcases j with g|g|g|g
  ·exact cl_ g
  ·exact ck_ (cl_ g)
  ·exact ck_ (ck_ (cl_ g))
  ·exact ck_ (ck_ (ck_ (cl_ g)))
 have m:∀b,F b->(w.setCell (aH sb 1) V).heap[b]?=w.heap[b]?:=fun b t=>l b fun e=>(h.apart b t).2 (by simp[aR,e])
 have i:∀k,k∈gf::(outv.ownBlock.toList++cA false (fb++[v]))->(w.setCell (aH sb 1) V).heap[k]?=w.heap[k]?:=fun k j=>l k fun e=>q (by rw[<-e];exact j)
 obtain⟨C,L,e,n,K⟩:=jQ.unsnoc h.frs;obtain⟨rfl,J⟩:=db_ e rfl;refine⟨⟨?_,?_,n.keep m dX fun u A k a=>i k ?_,h.tape.keep m dX,aW h.out fun k a=>i k (by simp[a]),?_,fun k a=>cn_ (h.lt k (d k a)) (by simp),fun k a=>⟨cn_ (h.apart k a).1 (by simp),fun j=>(h.apart k a).2 (d k j)⟩⟩,⟨rfl,rfl,rfl,by simp,fun k _ B=>l k fun e=>B (by simp[aR,e])⟩⟩
 ·rw[aK h.blk,<-G];rfl
 ·rcases h.row.2 with ⟨o,_⟩|⟨I,H,p,o,D,s,y,z,x,r⟩
  ·cases o
  ·cases o;rw[cp_] at y r;refine⟨by rw[eM],ck_ ⟨gf,cap,p,rfl,D,?_,by omega,z,x,?_⟩⟩
   ·rw[i gf (by simp)];exact s
   ·have:=congrArg (List.take (fb.length*6)) r;rw[dF_,show min (fb.length*6) ((fb.length+[v].length)*6)=fb.length*6 by simp,kJ] at this
    rw[this,List.take_left' (by rw[eM])]
 ·have:k∈cA false fb:=de_.2 ⟨u,A,a⟩;rw[c];simp[this]
 ·have E:aR false sb gf outv (fb++[v])=aR false sb gf outv fb++(v.ownX false):=by simp[aR,c]
  have:=h.nodup;rw[E] at this;exact(c5_.1 this).1
def zT(sb gf:Nat)(a:aQ)(fb:List FVal)(v:FVal):∀k,k∈aR false sb gf a fb->k∈aR false sb gf a (fb++[v]):=fun k b=>by
 have c:aR false sb gf a (fb++[v])=aR false sb gf a fb++(v.ownX false):=by simp[aR,cA]
 rw[c];exact cC_ _ b
def bh_(fp:eQ)(F:bX)(base sb gf cap:Nat)(t0 tv outv s0:aQ)(fb:List FVal)(v:FVal)(below:List aJ)(f:aJ)(tape:List Int)(out:cN)(w0:aG)(a:aM)(t:TypeId)(z:aQ)(W:aG):Prop:=
 PV F W (.iface t z) a/\aN a<=200/\∃v',(v'.ownX false)=(v.ownX false)/\dA false fp F base W sb gf cap t0 tv outv s0 (fb++[v']) ⟨below++[f.pop],tape,out⟩/\Kept (aR false sb gf outv (fb++[v])) w0 W
def bh_.gone{fb:List FVal}{v:FVal}{c W:aG}{a:aM}{t:TypeId}{z:aQ}(l:bh_ fp F base sb gf cap t0 tv outv s0 fb v below f tape out c a t z W):
 PV F (W.drew.setCell (aH sb 1) (.slice (some (aH gf 0)) fb.length cap)) (.iface t z) a/\dA false fp F base (W.drew.setCell (aH sb 1) (.slice (some (aH gf 0)) fb.length cap)) sb gf cap t0 tv outv s0 fb ⟨below,tape,out⟩/\Kept (aR false sb gf outv (fb++[v])) c (W.drew.setCell (aH sb 1) (.slice (some (aH gf 0)) fb.length cap)):=by
 obtain⟨n,r,i,p,b,o⟩:=l;have g:=b.grow (aV.drew W).below dX (fun _ h=>cl_ h)
 obtain⟨m,d⟩:=g.dropTop;have e:aR false sb gf outv (fb++[i])=aR false sb gf outv (fb++[v]):=by simp[aR,cA,p]
 rw[e] at d;refine⟨(n.keep (w':=W.drew) fun _ _=>rfl).keep fun k j=>cm_ _ _ _ _ fun e=>(b.apart k j).2 (by simp[aR,e]),m,(o.trans (Kept.of_below (own:=[]) (aV.drew W).below) (fun x q=>by simp at q)).trans d fun _ h=>cl_ h⟩
def aO_(s:List eU)(h:dA false fp F base w sb gf cap t0 tv outv s0 fvs ⟨below++[f],tape,out⟩)(o:below.length<=15)(l:base<=w.heap.size)(I:f.ops.length<=99000)(D:∃J a,f.ops=J++[a])(H:∀g∈below,g.ops.length<=99000):
 Calls prog 240 #[.agg #[],bH sb] w (DoM fp F base sb t0 s0 (aR false sb gf outv fvs) w (Hs.doI s .give below f tape out)):=by
 obtain⟨J,a,M⟩:=D;have T:=h.mid l (.cells #[] 231);obtain⟨b,v,Y,rfl,r, -, -, -,n, -⟩:=h.top;have q:Below w.heap.size w (w.alloc (.cells #[] 231)):=(co_ _ w).alloc cL _;have U:=h.grow q dX (fun _ h=>cl_ h)
 have G:=T.topS o;rw[<-r] at G
 have P:Hid (∀W,aV (w.alloc (.cells #[] 231)) W->Calls prog 65 #[.pointer (some (aH gf (b.length*6)))] W fun e m=>∃t z,e=aZ (.iface t z)/\bh_ fp F base sb gf cap t0 tv outv s0 b v below f tape out (w.alloc (.cells #[] 231)) a t z m):=fun W O=>by
  refine((U.grow O.below dX (fun _ h=>cl_ h)).popR M (by omega)).mono ?_
  rintro e m ⟨t,z,aa,B,V,u,h3,x,X,h6⟩;exact⟨t,z,B,V,u,_,by simp[FVal.ownX,h3],x,(Kept.of_below (own:=aR false sb gf outv (b++[v])) O.below).trans X fun _ h=>cl_ h⟩
 have K:∀W t z,bh_ fp F base sb gf cap t0 tv outv s0 b v below f tape out (w.alloc (.cells #[] 231)) a t z W->W.cell? (aH sb 1)=some (.slice (some (aH gf 0)) (b.length+1) cap)/\W.frozen? (aH sb 1)=false/\sb<W.heap.size:=fun W t z i=>by
  obtain⟨_,_,S,_,x,_⟩:=i;have c:=x.blk;rw[show (b++[S]).length=b.length+1 by simp] at c
  exact⟨aA c rfl,aD c,aC c⟩
 rcases dl_ below with rfl|⟨j,g,A⟩
 ·obtain rfl:b=[]:=cF_ r;refine(RU w _ sb gf 0 gf cap (fun m=>Done fp F base sb t0 s0 (aR false sb gf outv ([]++[v])) w ⟨[],tape,out⟩ m) _ rfl (by simpa using n) G P K fun W t z i=>?_).mono ?_
  ·obtain⟨_,C,y⟩:=i.gone;exact⟨(Kept.of_below q).trans y fun _ h=>cl_ h,F,gf,cap,tv,outv,[],Ext.refl _ _,C,fun k E=>cl_ (zT sb gf outv [] v k E)⟩
  ·rintro e m ⟨rfl,u⟩;exact⟨cl_ ⟨rfl,rfl⟩,u⟩
 ·rw[dm_] at A;subst A;have d:b.length=j.length+1:=by simpa using r
  have Q:j.length<=14:=by simp at o;omega
  rw[d] at n;have Z:Hs.doI s .give (j++[g]) f tape out=(⟨j++[g.push a],tape,out⟩,0):=by simp[Hs.doI,jS M]
  rw[Z];refine(RT w _ sb gf (b.length*6) gf cap j.length gf (j.length*6) (fun m=>Done fp F base sb t0 s0 (aR false sb gf outv (b++[v])) w ⟨j++[g.push a],tape,out⟩ m) _ (fun t z W=>PV F W (.iface t z) a/\aN a<=200/\dV false fp base sb gf j.length t0 s0 (aR false sb gf outv (b++[v])) (w.alloc (.cells #[] 231)) F ⟨j++[g],tape,out⟩ W) rfl (by omega) (by omega) G P (fun W t z i=>?_) (fun W t z i=>?_) (fun W t z i=>?_)).mono ?_
  ·have:=K W t z i;rw[d] at this;exact this
  ·obtain⟨L,C,y⟩:=i.gone;rw[d] at L C y;have p:dV false fp base sb gf j.length t0 s0 (aR false sb gf outv (b++[v])) (w.alloc (.cells #[] 231)) F ⟨j++[g],tape,out⟩ _:=⟨y,cw_ l (cw_ q.size y.size),cap,tv,outv,b,d,C,fun k E=>cl_ (zT sb gf outv b v k E)⟩
   refine(p.top (by omega)).mono ?_
   rintro e m ⟨B,N⟩;exact⟨B,L.keep (fun _ _=>by rw[N.heap]),i.2.1,p.same N⟩
  ·refine(i.2.2.push i.1 i.2.1 (by have:=H g (by simp);omega)).mono ?_
   rintro e m ⟨B,x⟩;exact⟨B,x.done (Ext.refl _ _)⟩
  ·rintro e m ⟨rfl,u⟩;exact⟨cl_ ⟨rfl,rfl⟩,u⟩
end
def TO(w j:World)(sb n o gf m f:Nat)(b:Option Addr)(S:World->Prop)(Q:Option Addr->Nat->World->Prop)(l:w.alloc (.cells #[.pointer b,.int .i64 f] 281)=j)
 (v:Hid (∀W,aV j W->Calls prog 64 #[.pointer (some ⟨sb,0,none⟩)] W fun e g=>e=.returned (.pointer (some ⟨n,o,none⟩))/\aV j g))
 (u:Hid (∀W,aV j W->Calls prog 245 #[.pointer (some ⟨n,o,none⟩),.int .i64 f] W fun e g=>∃x d,e=.returned (.slice x f d)/\Q x d g))
 (r:Hid (∀W x d,Q x d W->W.cell? ⟨sb,1,none⟩=some (.slice (some ⟨gf,0,none⟩) 16 m)/\S W)):
 Calls prog 269 #[.agg #[.pointer b,.int .i64 f],.pointer (some ⟨sb,0,none⟩)] w fun e g=>e=fR 5/\S g:=by
 have a:(w.alloc (.cells #[.pointer b,.int .i64 f] 281)).heap[w.heap.size]?=some (.cells #[.pointer b,.int .i64 f] 281 (0,0)):=aO _ _ rfl _;rw[l] at a;have s:=aB l;have h:=aB (aA (i:=1) a rfl);have C:=h.out;have k:=aC a;clear l a;go_enter func269,ntmps269;go_wp2_with fail;rw[s.out];go_region_law (go_simp;first|(go_at_call 64;refine(v.out _ (aV.drew _)).mono ?_;rintro e y ⟨rfl,c⟩;have B:=cM c.heap h.out;have z:=kX c.heap k)|(go_at_call 245;refine(u.out _ c).mono ?_;rintro e D ⟨x,d,rfl,p⟩;have q:=r.out _ _ _ p;obtain⟨A,t⟩:=q))
 all_goals
  go_wp2_with fail;exact⟨rfl,rfl,t⟩
end Go.Proofs.YtmjbnmpamlainaaGreatDoor
