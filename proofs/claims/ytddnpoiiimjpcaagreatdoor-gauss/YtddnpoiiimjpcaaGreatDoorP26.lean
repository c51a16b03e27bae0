/- Contracts of the program: a variable is declared. -/
import Derived.Test.YtddnpoiiimjpcaaGreatDoorP25
set_option linter.defProp false
set_option maxRecDepth 100000
set_option maxHeartbeats 4000000
namespace Go.Proofs.YtddnpoiiimjpcaaGreatDoor
open Hs
open _root_.Go.Proofs.Tryz
open Go.RowKit
def cW.declared{U:fN}{F:cC}{base:Nat}{w w':aH}{sb gf K:Nat}{Z V g W:aQ}{s:List FVal}{v:FVal}{p:List aJ}{f:aJ}{A:List Int}{J:cO}{cur:Array Value}{c u:aQ}{a:aI}{xs:List Value}{d:Nat}
 (h:cW false U F base w sb gf K Z V g W (s++[v]) ⟨p++[f],A,J⟩) (L:w.heap[gf]?=some (.cells cur 131 (0,0)))
 (P:gF F w xs (f.vars.take d)) (hd:d<=f.vars.length) (hu:PV F w u a) (O:aK a<=200)
 (p1:w'.heap[gf]?=some (.cells (cur.setIfInBounds (s.length*6+4) c) 131 (0,0))) (T:w'.ownsRow base 142 1 c (d+1) (xs++[u])) (S:∀k,c.ownBlock=some k->v.vv.ownBlock=some k\/w.heap.size<=k) (r:Chg gf v.vv.ownBlock w w'):
 cW false U F base w' sb gf K Z V g W (s++[{ v with vv:=c }]) ⟨p++[{ f with vars:=f.vars.take d++[a] }],A,J⟩/\Kept (aP false sb gf g (s++[v])) w w':=by
 obtain⟨ab,v0,e,aa,I⟩:=iW.unsnoc h.frs;obtain⟨rfl,e2⟩:=p7 e rfl;cases e2;have B:=h.row;rw[show (s++[v]).length=s.length+1 by simp] at B
 obtain⟨M,Y,_,c3⟩:=tY (j:=4) (x:=c) B (by omega)
 obtain rfl:M=cur:=by rw[L] at Y;cases Y;rfl
 have E:∀k∈(v.ownX false),k∈aP false sb gf g (s++[v]):=fun k l=>by simp[aP,bW,l]
 have Q:gf∉(v.ownX false):=fun H=>by
  have:=(Z9.1 (Z9.1 h.nodup).2).1;exact this (by simp[bW,H])
 have D:(v.ownX false).Nodup:=by
  have m:=h.nodup;have:aP false sb gf g (s++[v])=(sb::gf::(g.ownBlock.toList++bW false s))++(v.ownX false):=by simp[aP,bW]
  rw[this] at m;exact(m9.1 m).2.1
 have q:∀b,F b->w'.heap[b]?=w.heap[b]?:=fun b C=>by
  obtain⟨m,t⟩:=h.apart b C;exact r.block b m (fun e=>t (by simp[aP,e])) (fun e=>t (E b (by simp[FVal.ownX,<-e])))
 have z:∀k,k<w.heap.size->k≠gf->k∉(v.ownX false)->w'.heap[k]?=w.heap[k]?:=fun k m t N=>r.block k m t fun e=>N (by simp[FVal.ownX,<-e])
 have n:∀k,v.ov.ownBlock=some k->k<w.heap.size/\k≠gf/\v.vv.ownBlock≠some k:=fun k l=>by
  have H:k∈(v.ownX false):=by simp[FVal.ownX,l]
  refine⟨h.lt k (E k H),fun e=>Q (by rw[<-e];exact H),fun e=>?_⟩
  unfold FVal.ownX at D;rw[l,e] at D;simp at D
 refine⟨h.step (G:=F) r.size z (c3 w' p1 _ rfl) ?_ ?_ ?_ eD (fun _ h=>Y4 h),?_⟩
 ·refine⟨I.fn.keep q eD,I.nx,I.ln,fA.keep q eD I.sp,⟨⟨xs++[u],?_,?_⟩,?_⟩,I.ops.keep q eD fun k l=>?_⟩
  ·show w'.ownsRow base 142 1 c (f.vars.take d++[a]).length _
   rw[Y5,o9,Nat.min_eq_left hd];exact T
  ·exact(P.keep q).append ⟨rfl,fun i hi=>by
    obtain rfl:i=0:=by simpa using hi
    exact⟨u,rfl,hu.keep q⟩⟩
  ·intro b C;rcases Z2.1 C with C|C
   ·exact I.vars.2 b (an_ C)
   ·rw[Z1.1 C];exact O
  ·obtain⟨m,t,N⟩:=n k l;exact r.block k m t (fun e=>N e.symm)
 ·intro k l;rcases Z2.1 l with l|l
  ·have o:c.ownBlock=some k:=by simpa using l
   refine⟨cP T k o,?_⟩;rcases S k o with m|m
   ·exact Y4 (by simp[FVal.ownX,m])
   ·exact Y3 m
  ·have o:v.ov.ownBlock=some k:=by simpa using l
   exact⟨Y7 (n k o).1 r.size,Y4 (by simp[FVal.ownX,o])⟩
 ·show (c.ownBlock.toList++v.ov.ownBlock.toList).Nodup
  refine m9.2 ⟨by cases c.ownBlock<;>simp,by cases v.ov.ownBlock<;>simp,fun x hx y hy e=>?_⟩
  subst e;have m:c.ownBlock=some x:=by simpa using hx
  have t:v.ov.ownBlock=some x:=by simpa using hy
  obtain⟨N,_,h4⟩:=n x t;rcases S x m with X|X
  ·exact h4 X
  ·omega
 ·exact⟨r.os,r.tape,r.output,r.size,fun k l hn=>z k l (fun e=>hn (by simp[aP,e])) fun H=>hn (E k H)⟩
def EN(w q:aH)(sb j m base d:Nat)(g n c:Nat)(O:d<=n)(M:n<=c)(_hn:n<=100001)(P:World->Prop)(Q:TypeId->Value->World->Prop)(xs:List Value)(B:w.alloc (.cells #[Iv0 d] 330)=q)(Z:d<=100000)
 (Y:Hid (∀W,aY q W->Calls prog 82 #[bO sb] W fun e p=>e=.returned (.pointer (some (aL j m)))/\aY q p))
 (G:q.cell? (aL j (m+4))=some (.slice (some (aL g 0)) n c))
 (X:Hid (∀W,aY q W->Calls prog 95 #[.pointer (some (aL j m))] W fun e p=>∃t z,e=.returned (.iface t z)/\Q t z p))
 (H:Hid (∀W t z,Q t z W->W.cell? (aL w.heap.size 0)=some (Iv0 d)/\w.heap.size<W.heap.size/\W.cell? (aL j (m+4))=some (.slice (some (aL g 0)) n c)/\j<W.heap.size/\base<=W.heap.size))
 (L:Hid (∀W t z,Q t z W->W.ownsRow base 142 1 (.slice (some (aL g 0)) d c) d xs))
 (I:Hid (∀W t z,Q t z W->∀h:aH,(W.alloc (.cells #[.iface t z] 142)).grownBy h (some g)->(∃u,h.cell? (aL j (m+4))=some u)/\h.frozen? (aL j (m+4))=false/\j<h.heap.size))
 (N:Hid (∀W t z,Q t z W->∀s f (h:aH),h.ownsRow base 142 1 (.slice (some (aL s 0)) (d+1) f) (d+1) (xs++[.iface t z])->(W.alloc (.cells #[.iface t z] 142)).grownBy h (some g)->((some g)=some s\/W.heap.size+1<=s)->P (h.setCell (aL j (m+4)) (.slice (some (aL s 0)) (d+1) f)))):
 Calls prog 288 #[.agg #[Iv0 d],bO sb] w fun e p=>e=.returned (.tuple #[])/\P p:=by
 obtain⟨K,S,y,C,D⟩:=info_parts mR;have a:(w.alloc (.cells #[Iv0 d] 330)).heap[w.heap.size]?=some (.cells #[Iv0 d] 330 (0,0)):=aU _ _ rfl _;rw[B] at a;have T:=aB B;have E:=aB (aA (i:=0) a rfl);have x:=aD a;have A:=aB G;have e1:(0:Int)<=(d:Int):=by omega
 have e2:(d:Int)<=(n:Int):=by omega
 have e3:(d:Int)<=(c:Int):=by omega
 clear B a G;go_in
 go_wp2_with fail;rw[T.out];refine(Y _ (aY.refl _)).mono ?_;rintro e w1 ⟨rfl,k⟩;have c0:=cZ k.heap E;have U:=kA k.heap x;have c1:=cZ k.heap A;go_wp2_with fail;go_region_law (first|(go_simp;go_at_call 95;refine(X _ (k.trans (aY.drew _))).mono ?_;rintro e F ⟨t,z,rfl,v⟩;have o:=H _ _ _ v;have b1:=o.1;have b2:=o.2.1;have b3:=o.2.2.1;have b4:=o.2.2.2.1;have b5:=o.2.2.2.2;clear o)|(refine step_append_lies _ (by rfl) _ _ 129 (by rfl) base 142 K _ 1 16 underlying129 S y C D rfl (by decide) (.slice (some (aL g 0)) d c) d xs (by rfl) ((L _ _ _ v).alloc _) (aL F.heap.size 0) 1 1 [.iface t z] (by rfl) (by rfl) (BK F _) (vO t z) (by decide) (by unfold maxLen;omega) (by omega) (by simp;omega) (F.heap.size+1) (by simp) ?_;intro s f h l b r V;have J:=I _ _ _ v h b;obtain⟨⟨u5,y1⟩,y2,y3⟩:=J))
 all_goals
  go_wp2
  go_end0;exact⟨rfl,N _ _ _ v _ _ _ l b (r.imp_right fun e=>Nat.le_of_eq e.symm)⟩
def EO(w m:aH)(sb f j base:Nat)(P:World->Prop)(Q:TypeId->Value->World->Prop)(xs:List Value)(v:w.alloc (.cells #[Iv0 0] 330)=m)
 (O:Hid (∀W,aY m W->Calls prog 82 #[bO sb] W fun e l=>e=.returned (.pointer (some (aL f j)))/\aY m l))
 (C:m.cell? (aL f (j+4))=some (.slice none 0 0))
 (N:Hid (∀W,aY m W->Calls prog 95 #[.pointer (some (aL f j))] W fun e l=>∃t z,e=.returned (.iface t z)/\Q t z l))
 (D:Hid (∀W t z,Q t z W->W.cell? (aL w.heap.size 0)=some (Iv0 0)/\w.heap.size<W.heap.size/\W.cell? (aL f (j+4))=some (.slice none 0 0)/\f<W.heap.size/\base<=W.heap.size))
 (H:Hid (∀W t z,Q t z W->W.ownsRow base 142 1 (.slice none 0 0) 0 xs))
 (E:Hid (∀W t z,Q t z W->∀d:aH,(W.alloc (.cells #[.iface t z] 142)).grownBy d none->(∃u,d.cell? (aL f (j+4))=some u)/\d.frozen? (aL f (j+4))=false/\f<d.heap.size))
 (I:Hid (∀W t z,Q t z W->∀o c (d:aH),d.ownsRow base 142 1 (.slice (some (aL o 0)) 1 c) 1 (xs++[.iface t z])->(W.alloc (.cells #[.iface t z] 142)).grownBy d none->(none=some o\/W.heap.size+1<=o)->P (d.setCell (aL f (j+4)) (.slice (some (aL o 0)) 1 c)))):
 Calls prog 288 #[.agg #[Iv0 0],bO sb] w fun e l=>e=.returned (.tuple #[])/\P l:=by
 obtain⟨G,J,r,x,y⟩:=info_parts mR;have a:(w.alloc (.cells #[Iv0 0] 330)).heap[w.heap.size]?=some (.cells #[Iv0 0] 330 (0,0)):=aU _ _ rfl _;rw[v] at a;have K:=aB v;have A:=aB (aA (i:=0) a rfl);have q:=aD a;have s:=aB C;clear v a C;go_in
 go_wp2_with fail;rw[K.out];refine(O _ (aY.refl _)).mono ?_;rintro e S ⟨rfl,g⟩;have Z:=cZ g.heap A;have L:=kA g.heap q;have c1:=cZ g.heap s;go_wp2_with fail;go_region_law (first|(go_simp;go_at_call 95;refine(N _ (g.trans (aY.drew _))).mono ?_;rintro e B ⟨t,z,rfl,p⟩;have k:=D _ _ _ p;have T:=k.1;have b2:=k.2.1;have V:=k.2.2.1;have b4:=k.2.2.2.1;have U:=k.2.2.2.2;clear k)|(refine step_append_lies _ (by rfl) _ _ 129 (by rfl) base 142 G _ 1 16 underlying129 J r x y rfl (by decide) (.slice none 0 0) 0 xs (by rfl) ((H _ _ _ p).alloc _) (aL B.heap.size 0) 1 1 [.iface t z] (by rfl) (by rfl) (BK B _) (vO t z) (by decide) (by unfold maxLen;omega) (by omega) (by simp;omega) (B.heap.size+1) (by simp) ?_;intro o c d h b n M;have F:=E _ _ _ p d b;obtain⟨⟨u5,X⟩,y2,Y⟩:=F))
 all_goals
  go_wp2
  go_end0;exact⟨rfl,I _ _ _ p _ _ _ h b (n.imp_right fun e=>Nat.le_of_eq e.symm)⟩
section
variable {fp:fN} {F:cC} {base:Nat} {w:aH} {sb gf cap:Nat} {t0 tv outv s0:aQ} {fvs:List FVal} {below:List aJ} {f:aJ} {tape:List Int} {out:cO}
def cW.popR{m:List FVal}{v:FVal}{vs:List aI}{a:aI}(h:cW false fp F base w sb gf cap t0 tv outv s0 (m++[v]) ⟨below++[f],tape,out⟩)(H:f.ops=vs++[a])(l:f.ops.length<=100000):
 Calls prog 95 #[.pointer (some (aL gf (m.length*6)))] w fun e p=>∃t z c,e=.returned (.iface t z)/\PV F p (.iface t z) a/\aK a<=200/\c.ownBlock=v.ov.ownBlock/\cW false fp F base p sb gf cap t0 tv outv s0 (m++[{ v with ov:=c }]) ⟨below++[f.pop],tape,out⟩/\Kept (aP false sb gf outv (m++[v])) w p/\∀k,k≠gf->p.heap[k]?=w.heap[k]?:=by
 obtain⟨O,Y,C,e,Q,n,J,s,G,V,T,X,U,Z,M⟩:=h.top;obtain⟨rfl,N⟩:=p7 e rfl;cases N;obtain⟨⟨W,g,r⟩,d⟩:=n.ops;rw[H] at g r d l;obtain⟨o,u,rfl,P,q,I⟩:=gF.unsnoc r;obtain⟨t,z,rfl⟩:=I.form;rw[Y5] at g l;refine(NS base gf (m.length*6) vs.length C v.ov o _ w s M g P ⟨t,z,rfl⟩ (by omega)).mono ?_
 rintro e p ⟨rfl,c,rfl,K,D⟩;have i:f.pop.ops=vs:=by simp[aJ.pop,H]
 have y:KQ false fp F base w { v with ov:=c } f.pop:=⟨n.fn,n.nx,n.ln,n.sp,n.vars,⟨o,by rw[i];exact K,by rw[i];exact q⟩,fun b E=>d b (j2 _ (by rw[i] at E;exact E))⟩
 obtain⟨L,S⟩:=h.setTop (j:=5) (x:=c) (v':={ v with ov:=c }) (by omega) rfl (by simp[FVal.ownX,D]) y
 have A:∀k,F k->(w.setCell (aL gf (m.length*6+5)) c).heap[k]?=w.heap[k]?:=fun k B=>Y6 _ _ _ _ fun e=>(h.apart k B).2 (by simp[aP,e])
 exact⟨t,z,c,rfl,I.keep A,d a (by simp),D,L,S,fun k B=>Y6 _ _ _ _ B⟩
def cW.declaredC{o:List FVal}{v:FVal}{d:Nat}{xs:List Value}{a:aI}{t:TypeId}{z:aQ}{g b:Nat}{l:aH}{A:Option Nat}(h:cW false fp F base w sb gf cap t0 tv outv s0 (o++[v]) ⟨below++[f],tape,out⟩)(N:PV F w (.iface t z) a)(s:aK a<=200)(x:gF F w xs (f.vars.take d))(I:d<=f.vars.length)(j:A=v.vv.ownBlock)
 (J:l.ownsRow base 142 1 (.slice (some (aL g 0)) (d+1) b) (d+1) (xs++[.iface t z])) (m:(w.alloc (.cells #[.iface t z] 142)).grownBy l A) (n:A=some g\/w.heap.size+1<=g):
 cW false fp F base (l.setCell (aL gf (o.length*6+4)) (.slice (some (aL g 0)) (d+1) b)) sb gf cap t0 tv outv s0 (o++[{ v with vv:=.slice (some (aL g 0)) (d+1) b }]) ⟨below++[{ f with vars:=f.vars.take d++[a] }],tape,out⟩/\Kept (aP false sb gf outv (o++[v])) w (l.setCell (aL gf (o.length*6+4)) (.slice (some (aL g 0)) (d+1) b)):=by
 obtain⟨L,Y,B,e,M,X,H,c,G,T,Q,W,S,U,V⟩:=h.top;obtain⟨rfl,K⟩:=p7 e rfl;cases K;have C:=aD c
 have q:v.vv.ownBlock≠some gf:=fun e=>by
  have:=(Z9.1 (Z9.1 h.nodup).2).1;exact this (by simp[bW,FVal.ownX,e])
 have D:g≠gf:=by
  rcases n with e|e
  ·intro P;rw[j] at e;exact q (by rw[e,P])
  ·omega
 have E:∀k,k<w.heap.size->some k≠v.vv.ownBlock->l.heap[k]?=w.heap[k]?:=fun k y r=>by
  rw[m.block k (by simp;omega) (by rw[j];exact r),Z3 _ _ _ y]
 have p:l.heap[gf]?=some (.cells B 131 (0,0)):=by rw[E gf C (fun e=>q e.symm)];exact c
 refine h.declared (a:=a) (u:=.iface t z) (xs:=xs) c x I N s (aT p) (bA J fun k i=>Y6 _ _ _ _ (by cases i;exact D)) (fun k i=>?_) ⟨m.os.trans rfl,m.tape.trans rfl,m.output.trans rfl,Z4 (by simp) (Z4 m.size (by simp)),fun k y r O=>?_⟩
 ·cases i;rcases n with e|e
  ·exact Y4 (by rw[<-j];exact e)
  ·exact Y3 (by show w.heap.size<=g;omega)
 ·rw[Y6 _ _ _ _ r,E k y O]
def wG(fp:fN)(F:cC)(base sb gf cap:Nat)(t0 tv outv s0:aQ)(fb:List FVal)(v:FVal)(below:List aJ)(f:aJ)(tape:List Int)(out:cO)(w0:aH)(a:aI)(t:TypeId)(z:aQ)(W:aH):Prop:=
 ∃ov',ov'.ownBlock=v.ov.ownBlock/\PV F W (.iface t z) a/\aK a<=200/\cW false fp F base W sb gf cap t0 tv outv s0 (fb++[{ v with ov:=ov' }]) ⟨below++[f.pop],tape,out⟩/\Kept (aP false sb gf outv (fb++[v])) w0 W/\∀k,k≠gf->W.heap[k]?=w0.heap[k]?
def wG.fin{g:List FVal}{v:FVal}{x W:aH}{a:aI}{t:TypeId}{z:aQ}{d:Nat}{xs:List Value}{D:Obj}(h:cW false fp F base w sb gf cap t0 tv outv s0 (g++[v]) ⟨below++[f],tape,out⟩)(A:x=w.alloc D)(N:wG fp F base sb gf cap t0 tv outv s0 g v below f tape out x a t z W)(H:d<=f.vars.length)(r:gF F x xs (f.vars.take d))(y:f.last=a)
 (i c:Nat) (B:aH) (j:Option Nat) (o:j=v.vv.ownBlock) (K:B.ownsRow base 142 1 (.slice (some (aL i 0)) (d+1) c) (d+1) (xs++[.iface t z])) (M:(W.alloc (.cells #[.iface t z] 142)).grownBy B j) (n:j=some i\/W.heap.size+1<=i):
 Done fp F base sb t0 s0 (aP false sb gf outv (g++[v])) w ⟨below++[(aO (.declare d) f).1],tape,out⟩ (B.setCell (aL gf (g.length*6+4)) (.slice (some (aL i 0)) (d+1) c)):=by
 subst A;obtain⟨l,C,J,T,O,E,U⟩:=N;have u:∀k,F k->k≠gf:=fun k s e=>(h.apart k s).2 (by simp[aP,e])
 obtain⟨P,G⟩:=O.declaredC (d:=d) (xs:=xs) J T (r.keep fun b L=>U b (u b L)) H o K M n
 have m:aP false sb gf outv (g++[{ v with ov:=l }])=aP false sb gf outv (g++[v]):=by simp[aP,bW,FVal.ownX,C]
 rw[m] at G;have Q:=((Kept.of_below (own:=aP false sb gf outv (g++[v])) ((Y8 _ w).alloc dH D)).trans E fun _ h=>Y4 h).trans G fun _ h=>Y4 h
 refine⟨Q,F,gf,cap,tv,outv,g++[{ v with ov:=l,vv:=.slice (some (aL i 0)) (d+1) c }],Ext.refl _ _,?_,fun k s=>?_⟩
 ·have e:(aO (.declare d) f).1={ f.pop with vars:=f.pop.vars.take d++[a] }:=by simp[aO,y,aJ.pop]
  rw[e];exact P
 ·have V:aP false sb gf outv (g++[{ v with ov:=l,vv:=.slice (some (aL i 0)) (d+1) c }])=(sb::gf::(outv.ownBlock.toList++bW false g))++(i::v.ov.ownBlock.toList):=by
   have I:(Value.slice (some (aL i 0)) (d+1) c).ownBlock=some i:=rfl;simp[aP,bW,FVal.ownX,C,I]
  have S:aP false sb gf outv (g++[v])=(sb::gf::(outv.ownBlock.toList++bW false g))++(v.ownX false):=by simp[aP,bW]
  have q:k∈(sb::gf::(outv.ownBlock.toList++bW false g))++(i::v.ov.ownBlock.toList):=by rw[<-V];exact s
  rw[S];rcases Z2.1 q with p|p
  ·exact Y4 (j2 _ p)
  ·rcases Z6.1 p with rfl|p
   ·rcases n with e|e
    ·exact Y4 (j9 _ (by rw[o] at e;simp[FVal.ownX,e]))
    ·have:=E.size;exact Y3 (by simp at this;omega)
   ·exact Y4 (j9 _ (j9 _ p))
def wG.reads{g:List FVal}{v:FVal}{W:aH}{a:aI}{t:TypeId}{z:aQ}{cs:Array Value}{n:TypeId}(h:cW false fp F base w sb gf cap t0 tv outv s0 (g++[v]) ⟨below++[f],tape,out⟩)(q:base<=w.heap.size)(x:wG fp F base sb gf cap t0 tv outv s0 g v below f tape out (w.alloc (.cells cs n)) a t z W):
 W.heap[w.heap.size]?=some (.cells cs n (0,0))/\W.cell? (aL gf (g.length*6+4))=some v.vv/\gf<W.heap.size/\base<=W.heap.size/\
  ∀d:aH,(W.alloc (.cells #[.iface t z] 142)).grownBy d v.vv.ownBlock->(∃u,d.cell? (aL gf (g.length*6+4))=some u)/\d.frozen? (aL gf (g.length*6+4))=false/\gf<d.heap.size:=by
 obtain⟨k,M,J,O,y,A,E⟩:=x;obtain⟨C,H,j,e,D,Q,o,b,m,L,I,P,K,p,N⟩:=y.top;obtain⟨rfl,B⟩:=p7 e rfl;have G:H={ v with ov:=k }:=by simpa using B.symm
 subst G;have i:=aD b;have s:gf<w.heap.size:=h.lt gf (by simp[aP])
 have l:v.vv.ownBlock≠some gf:=fun e=>by
  have:=(Z9.1 (Z9.1 h.nodup).2).1;exact this (by simp[bW,FVal.ownX,e])
 refine⟨by rw[E _ (by omega)];exact aU _ _ rfl _,aA b p,i,Z4 q (Z4 (by simp) A.size),fun d r=>?_⟩
 have c:d.heap[gf]?=some (.cells j 131 (0,0)):=by
  rw[r.block gf (by simp;omega) (fun e=>l e.symm),Z3 _ _ _ i];exact b
 exact⟨⟨_,aA c p⟩,aE c,aD c⟩
def SZ(d:Nat)(h:cW false fp F base w sb gf cap t0 tv outv s0 fvs ⟨below++[f],tape,out⟩)(u:below.length<=15)(b:base<=w.heap.size)(ac:f.ops.length<=99000)(G:∃vs a,f.ops=vs++[a])(D:d<=f.vars.length)(af:f.vars.length<=90001):
 Calls prog 288 #[.agg #[.int .i64 d],.pointer (some ⟨sb,0,none⟩)] w (J5 fp F base sb t0 s0 (aP false sb gf outv fvs) w below tape out (aO (.declare d) f)):=by
 obtain⟨vs,a,O⟩:=G;have hM:=h.mid b (.cells #[.int .i64 d] 330);obtain⟨m,v,J,rfl,P, -⟩:=h.top;have h0:=h.grow ((Y8 _ w).alloc (Z7 _) (.cells #[.int .i64 d] 330)) (fun _ h=>h) (fun _ h=>Y4 h)
 have M:=hM.topS u;rw[<-P] at M;obtain⟨ae,v0,J,e, -,hv,ab,p,aa,k0,k1,k2,k3,k4,k5⟩:=h0.top;obtain⟨rfl,e2⟩:=p7 e rfl;cases e2
 have HP:Hid (∀W,aY (w.alloc (.cells #[.int .i64 d] 330)) W->Calls prog 95 #[.pointer (some ⟨gf,m.length*6,none⟩)] W fun e n=>∃t z,e=.returned (.iface t z)/\wG fp F base sb gf cap t0 tv outv s0 m v below f tape out (w.alloc (.cells #[.int .i64 d] 330)) a t z n):=fun W hS=>by
  refine((h0.grow hS.below (fun _ h=>h) (fun _ h=>Y4 h)).popR O (by omega)).mono ?_
  rintro e n ⟨t,z,s,he,h1,x,h3,h4,h5,h6⟩;exact⟨t,z,he,s,h3,h1,x,h4,(Kept.of_below (own:=aP false sb gf outv (m++[v])) hS.below).trans h5 fun _ h=>Y4 h,fun k hk=>by rw[h6 k hk,hS.heap]⟩
 obtain⟨⟨Q,A,B⟩,V⟩:=hv.vars
 have X:v.vv.ownBlock≠some gf:=fun e=>by
  have:=(Z9.1 (Z9.1 h.nodup).2).1;exact this (by simp[bW,FVal.ownX,e])
 have o:gF F (w.alloc (.cells #[.int .i64 d] 330)) (Q.take d) (f.vars.take d):=by
  have hh:=B;rw[<-l8 d f.vars] at hh;obtain⟨ys,zs,rfl,l1,l2,j,r2⟩:=hh.split;rw[o9,Nat.min_eq_left D] at l1;rw[<-l1,List.take_left,l1];exact j
 rcases A.2 with ⟨j,r2⟩|⟨g,c,K,j,N,y,E,U,S,Z⟩
 ·obtain rfl:d=0:=by omega
  refine(EO w _ sb gf (m.length*6) base (fun n=>Done fp F base sb t0 s0 (aP false sb gf outv (m++[v])) w ⟨below++[(aO (.declare 0) f).1],tape,out⟩ n) (wG fp F base sb gf cap t0 tv outv s0 m v below f tape out (w.alloc (.cells #[.int .i64 0] 330)) a) [] rfl M (by rw[<-j];exact aA p k4) HP (fun W t z i=>?_) (fun W t z i=>World.ownsRow_nil _ _ _ _) (fun W t z i=>?_) (fun W t z i=>?_)).mono ?_
  ·obtain⟨C,Y,I,q4,q5⟩:=wG.reads h b i;exact⟨aA C rfl,aD C,by rw[Y,j],I,q4⟩
  ·have:=(wG.reads h b i).2.2.2.2;rw[j] at this;exact this
  ·intro T l w5 H L q;exact wG.fin h rfl i D (by simpa using o) (iX O) T l w5 none (by rw[j];rfl) H L q
  ·rintro e n ⟨rfl,x⟩;exact J5.ok rfl x
 ·refine(EN w _ sb gf (m.length*6) base d g f.vars.length c D E (by omega) (fun n=>Done fp F base sb t0 s0 (aP false sb gf outv (m++[v])) w ⟨below++[(aO (.declare d) f).1],tape,out⟩ n) (wG fp F base sb gf cap t0 tv outv s0 m v below f tape out (w.alloc (.cells #[.int .i64 d] 330)) a) (Q.take d) rfl (by omega) M (by rw[<-j];exact aA p k4) HP (fun W t z i=>?_) (fun W t z i=>?_) (fun W t z i=>?_) (fun W t z i=>?_)).mono ?_
  ·obtain⟨C,Y,I,q4,q5⟩:=wG.reads h b i;exact⟨aA C rfl,aD C,by rw[Y,j],I,q4⟩
  ·obtain⟨s,_,_,_,_,_,h6⟩:=i;have r:W.heap[g]?=_:=(h6 g (fun e=>X (by rw[j,e];rfl))).trans y
   have ad:Q.length=f.vars.length:=B.1;refine⟨by rw[o9];omega,Y3 ⟨g,c,K,rfl,N,r,by omega,U,S,?_⟩⟩
   have:=congrArg (List.take d) Z;rw[ag_,show min d (f.vars.length*1)=d by omega] at this
   rw[Nat.mul_one];exact this
  ·have:=(wG.reads h b i).2.2.2.2;rw[j] at this;exact this
  ·intro T l w5 H L q;exact wG.fin h rfl i D o (iX O) T l w5 (some g) (by rw[j];rfl) H L q
  ·rintro e n ⟨rfl,x⟩;exact J5.ok rfl x
end
def LY(w a:aH)(sb:Nat)(x:Option Addr)(c:Nat)(d:w.alloc (.cells #[] 318)=a)(f:a.cell? (aL sb 2)=some (.slice x 0 c)):
 Calls prog 286 #[.agg #[],bO sb] w fun e b=>e=fP 7/\b=a:=by
 go_in
 go_wp2_with fail;exact⟨rfl,rfl,rfl⟩
def LX(w b:aH)(sb r t g o n c:Nat)(i:Int)(P k:World->Prop)(E:w.alloc (.cells #[] 318)=b)(K:n+1<=c)(_hnn:n<=17592186044416)
 (y:Hid (∀W,aY b W->Calls prog 82 #[bO sb] W fun e d=>e=bE (.pointer (some (aL r t)))/\aY b d))
 (p:b.cell? (aL sb 2)=some (.slice (some (aL g o)) (n+1) c)) (m:b.cell? (aL g o)=some (Iv0 i))
 (x:Hid (∀W,aY b W->Calls prog 256 #[.pointer (some (aL r t)),.iface 195 (Iv0 i)] W fun e d=>e=bE (.tuple #[])/\k d))
 (v:Hid (∀W,k W->W.cell? (aL sb 2)=some (.slice (some (aL g o)) (n+1) c)/\W.frozen? (aL sb 2)=false/\sb<W.heap.size))
 (s:Hid (∀W f q,k W->(n=0\/(f=o+1/\q=c-1))->P (W.setCell (aL sb 2) (.slice (some (aL g f)) n q)))):
 Calls prog 286 #[.agg #[],bO sb] w fun e d=>e=bE (.tuple #[])/\P d:=by
 have h:=aB p;have l:=aB m;have I:=p;have J:=m;have B:((n:Int)+1=0)=False:=by simp;omega
 have L:(1:Int)<=(n:Int)+1:=by omega
 have H:(n:Int)+1<=(c:Int):=by omega
 have M:(0:Int)<(n:Int)+1:=by omega
 clear p m;go_in
 go_wp2_with fail;go_region_law (first|(go_simp;go_at_call 82;refine(y _ (by first|assumption|exact aY.drew _)).mono ?_;rintro e A ⟨rfl,a⟩;have G:=cZ a.heap h;have C:=cZ a.heap l)|(go_simp;go_at_call 256;refine(x _ a).mono ?_;rintro e z ⟨rfl,j⟩;have u:=v _ j;obtain⟨D,N,F⟩:=u))
 all_goals
  go_wp2_with fail
  all_goals
   go_end0;first|exact⟨rfl,s _ _ _ j (Y3 ⟨rfl,rfl⟩)⟩|exact⟨rfl,s _ _ _ j (Y4 (by omega))⟩
section
variable {fp:fN} {F:cC} {base:Nat} {w:aH} {sb gf cap:Nat} {t0 tv outv s0:aQ} {fvs:List FVal} {below:List aJ} {f:aJ} {tape:List Int} {out:cO}
def cW.setTape{m:cT}{c:aQ}{d:List Int}(h:cW false fp F base w sb gf cap t0 tv outv s0 fvs m)(o:qQ F w c d):
 cW false fp F base (w.setCell (aL sb 2) c) sb gf cap t0 c outv s0 fvs ⟨m.frames,d,m.out⟩/\Kept (aP false sb gf outv fvs) w (w.setCell (aL sb 2) c):=by
 have g:∀k,k≠sb->(w.setCell (aL sb 2) c).heap[k]?=w.heap[k]?:=fun k g=>Y6 _ _ _ _ g
 have j:=(Z9.1 h.nodup).1;have i:∀b,F b->(w.setCell (aL sb 2) c).heap[b]?=w.heap[b]?:=fun b p=>g b fun e=>(h.apart b p).2 (by simp[aP,e])
 have f:∀k,k∈gf::(outv.ownBlock.toList++bW false fvs)->(w.setCell (aL sb 2) c).heap[k]?=w.heap[k]?:=fun k l=>g k fun e=>j (by rw[<-e];exact l)
 refine⟨⟨?_,bA h.row fun k a=>?_,h.frs.keep i eD fun v n k a=>f k ?_,o.keep i eD,bA h.out fun k a=>f k (by simp[a]),h.nodup,fun k a=>Y7 (h.lt k a) (by simp),fun k a=>⟨Y7 (h.apart k a).1 (by simp),(h.apart k a).2⟩⟩,⟨rfl,rfl,rfl,by simp,fun k _ q=>g k fun e=>q (by simp[aP,e])⟩⟩
 ·rw[aT h.blk];rfl
 ·cases a;exact f gf (by simp)
 ·have:k∈bW false fvs:=s9.2 ⟨v,n,a⟩;simp[this]
def V0(fp:fN)(F:cC)(base sb:Nat)(t0 s0:aQ)(own:List Nat)(w:aH)(r:cT × Nat)(e:Ending)(w':aH):Prop:=
 R3 r.2 e/\Done fp F base sb t0 s0 own w r.1 w'
def dT.tapes{own:List Nat}{i:aH}{G:cC}{n:Nat}{m:cT}(h:dT false fp base sb gf n t0 s0 own i G m w):∃tv,qQ G w tv m.tape/\w.cell? (aL sb 2)=some tv/\w.frozen? (aL sb 2)=false/\sb<w.heap.size/\
 ∀b a,qQ G w b a->dT false fp base sb gf n t0 s0 own i G ⟨m.frames,a,m.out⟩ (w.setCell (aL sb 2) b):=by
 obtain⟨p,k,e,tv,d,f,q,c,g⟩:=h;refine⟨tv,c.tape,aA c.blk rfl,aE c.blk,aD c.blk,fun b a l=>?_⟩
 obtain⟨o,j⟩:=c.setTape l;exact⟨p.trans j g,Z4 k j.size,e,b,d,f,q,o,g⟩
def dT.pushK{own:List Nat}{O:aH}{G:cC}{n:Nat}(h:dT false fp base sb gf n t0 s0 own O G ⟨below++[f],tape,out⟩ w){t:TypeId}{z:aQ}{a:aI}(Z:PV G w (.iface t z) a)(u:aK a<=200)(L:f.ops.length<=100000):Calls prog 256 #[.pointer (some (aL gf (n*6))),.iface t z] w fun e r=>e=bE (.tuple #[])/\dT false fp base sb gf n t0 s0 own O G ⟨below++[f.push a],tape,out⟩ r/\r.heap[sb]?=w.heap[sb]?/\∀k,G k->r.heap[k]?=w.heap[k]?:=by
 obtain⟨M,K,C,S,b,aa,d,c,p⟩:=h;obtain⟨l,v,i,rfl,X,hv,q,g,N,k0,k1,k2,k3,k4,U⟩:=c.top;have I:l.length=n:=by simpa using d
 subst I;obtain⟨⟨Y,m,y⟩,D⟩:=hv.ops;have F:=Z9.1 (Z9.1 c.nodup).2;have A:v.ov.ownBlock≠some gf:=fun e=>F.1 (by simp[bW,FVal.ownX,e])
 have x:v.ov.ownBlock≠some sb:=fun e=>(Z9.1 c.nodup).1 (by simp[bW,FVal.ownX,e])
 have E:sb≠gf:=fun e=>(Z9.1 c.nodup).1 (by simp[e])
 refine(vS base gf (l.length*6) f.ops.length i v.ov Y t z w g U m A K (by omega)).mono ?_
 rintro e r ⟨he,j,W,Q,J,s⟩;obtain⟨T,P⟩:=c.pushed (cur:=i) g y Z u W Q J s;refine⟨he,⟨M.trans P p,Z4 K P.size,C,S,b,_,by simp,T,fun k o=>?_⟩,s.block sb (aD q) E (fun e=>x e.symm),fun k B=>s.block k (c.apart k B).1 (fun e=>(c.apart k B).2 (by simp[aP,e])) fun e=>(c.apart k B).2 (by simp[aP,bW,FVal.ownX,<-e])⟩
 have e1:aP false sb gf b (l++[{ v with ov:=j }])=(sb::gf::(b.ownBlock.toList++bW false l))++({ v with ov:=j }:FVal).ownX false:=by simp[aP,bW]
 have V:aP false sb gf b (l++[v])=(sb::gf::(b.ownBlock.toList++bW false l))++(v.ownX false):=by simp[aP,bW]
 rw[e1] at o;rw[V] at p;rcases Z2.1 o with d|d
 ·exact p k (j2 _ d)
 ·rcases Z2.1 d with d|d
  ·exact p k (j9 _ (j2 _ d))
  ·have c:j.ownBlock=some k:=by simpa using d
   rcases J k c with H|H
   ·exact p k (j9 _ (by simp[FVal.ownX,H]))
   ·exact Y3 (Z4 M.size H)
def L3(v:List eV)(h:cW false fp F base w sb gf cap t0 tv outv s0 fvs ⟨below++[f],tape,out⟩)(p:below.length<=15)(b:base<=w.heap.size)(I:f.ops.length<=99000)(B:tape.length<=17592186044416):
 Calls prog 286 #[.agg #[],bO sb] w (V0 fp F base sb t0 s0 (aP false sb gf outv fvs) w (cJ v .read below f tape out)):=by
 have s:=h.mid b (.cells #[] 318);obtain⟨A,J,u,Y,N,L⟩:=s.tapes;cases tape with
 |nil=>
  have V:∃x c,A=.slice x 0 c:=by
   rcases J with ⟨_,d⟩|⟨g,o,c,d,_⟩
   ·exact d
   ·exact⟨_,_,d⟩
  obtain⟨x,c,rfl⟩:=V;refine(LY w _ sb x c rfl u).mono ?_;rintro e n ⟨rfl,rfl⟩;exact⟨Y3 ⟨show (7:Nat)≠0 by decide,rfl⟩,s.done (Ext.refl _ _)⟩
 |cons i l=>
  rcases J with ⟨O,_⟩|⟨g,o,c,rfl,M,q,a⟩
  ·cases O
  have E:=a 0 (by simp)
  simp only[Y9] at u M B
  refine(LX w _ sb gf (below.length*6) g o l.length c i (fun n=>Done fp F base sb t0 s0 (aP false sb gf outv fvs) w ⟨below++[f.push (bD i)],l,out⟩ n)
   (fun W=>dT false fp base sb gf below.length t0 s0 (aP false sb gf outv fvs) (w.alloc (.cells #[] 318)) F ⟨below++[f.push (bD i)],i::l,out⟩ W/\W.cell? (aL sb 2)=some (.slice (some (aL g o)) (l.length+1) c)/\∀k,F k->W.heap[k]?=(w.alloc (.cells #[] 318)).heap[k]?) rfl M (by omega) (s.topS p) u E.1 (fun W H=>?_) (fun W t=>?_) (fun W U Z t C=>?_)).mono ?_
  ·refine((s.same H).pushK (PV.num F W i E.2.1 E.2.2) (by rw[kD];omega) (by omega)).mono ?_
   rintro e n ⟨X,d,r,D⟩;refine⟨X,d,?_,fun k P=>by rw[D k P,H.heap]⟩
   have G:n.cell? (aL sb 2)=W.cell? ⟨sb,2,none⟩:=World.cell?_of_block r;rw[G];exact cZ H.heap u
  ·obtain⟨y,_,q2,Q,T,_⟩:=t.1.tapes;exact⟨t.2.1,Q,T⟩
  ·obtain⟨d,r,D⟩:=t;obtain⟨y,_,_,_,_,S⟩:=d.tapes;refine(S _ l ?_).done (Ext.refl _ _);by_cases K:l=[]
   ·subst K;exact Y4 ⟨rfl,_,_,rfl⟩
   ·have z:l.length≠0:=fun e=>K (i7 e)
    rcases C with C|⟨rfl,rfl⟩
    ·exact absurd C z
    ·refine Y3 ⟨g,o+1,c-1,rfl,by omega,q,fun j hj=>?_⟩
     have m:=a (j+1) (by simp;omega)
     simp only[List.getElem_cons_succ] at m;refine⟨?_,m.2⟩;have G:W.cell? (aL g (o+1+j))=(w.alloc (.cells #[] 318)).cell? ⟨g,o+1+j,none⟩:=World.cell?_of_block (D g q);rw[G,show o+1+j=o+(j+1) by omega];exact m.1
  ·rintro e n ⟨rfl,r⟩;exact⟨Y4 ⟨rfl,rfl⟩,r⟩
end
def NN(w c:aH)(sb g j gf a:Nat)(P:World->Prop)(Q:TypeId->Value->World->Prop)(h:w.alloc (.cells #[] 258)=c)(i:1<=a)
 (p:Hid (∀W,aY c W->Calls prog 82 #[bO sb] W fun e b=>e=bE (.pointer (some (aL g j)))/\aY c b))
 (o:Hid (∀W,aY c W->Calls prog 95 #[.pointer (some (aL g j))] W fun e b=>∃t z,e=bE (.iface t z)/\Q t z b))
 (k:Hid (∀W t z,Q t z W->W.cell? (aL sb 1)=some (.slice (some (aL gf 0)) 1 a)/\W.frozen? (aL sb 1)=false/\sb<W.heap.size))
 (l:Hid (∀W t z,Q t z W->P (W.drew.setCell (aL sb 1) (.slice (some (aL gf 0)) 0 a)))):
 Calls prog 257 #[.agg #[],bO sb] w fun e b=>e=bE (.tuple #[])/\P b:=by
 have n:=aB h;have u:(0:Int)<=(a:Int):=by omega
 clear h;go_in
 go_wp2_with fail;rw[n.out];refine(p _ (aY.refl _)).mono ?_;rintro e q ⟨rfl,f⟩;go_wp2_with fail;refine(o _ f).mono ?_;rintro e x ⟨t,z,rfl,d⟩;obtain⟨r,v,s⟩:=k _ _ _ d;have m:=aB (l _ _ _ d);clear d;go_wp2_with fail;go_region
 all_goals
  go_wp2
  go_end0;exact⟨rfl,m⟩
def NM(w c:aH)(sb i o gf b n h k:Nat)(P:World->Prop)(Q m:TypeId->Value->World->Prop)(j:w.alloc (.cells #[] 258)=c)(l:n+2<=b)(H:n<=1000)
 (y:Hid (∀W,aY c W->Calls prog 82 #[bO sb] W fun e a=>e=bE (.pointer (some (aL i o)))/\aY c a))
 (x:Hid (∀W,aY c W->Calls prog 95 #[.pointer (some (aL i o))] W fun e a=>∃t z,e=bE (.iface t z)/\Q t z a))
 (p:Hid (∀W t z,Q t z W->W.cell? (aL sb 1)=some (.slice (some (aL gf 0)) (n+2) b)/\W.frozen? (aL sb 1)=false/\sb<W.heap.size))
 (g:Hid (∀W t z,Q t z W->Calls prog 82 #[bO sb] (W.drew.setCell (aL sb 1) (.slice (some (aL gf 0)) (n+1) b)) fun e a=>e=bE (.pointer (some (aL h k)))/\m t z a))
 (u:Hid (∀W t z,m t z W->Calls prog 256 #[.pointer (some (aL h k)),.iface t z] W fun e a=>e=bE (.tuple #[])/\P a)):
 Calls prog 257 #[.agg #[],bO sb] w fun e a=>e=bE (.tuple #[])/\P a:=by
 have v:=aB j;have I:(0:Int)<=(n:Int)+1:=by omega
 have F:(n:Int)+1<=(b:Int):=by omega
 have J:(0:Int)<(n:Int)+1:=by omega
 have K:(n:Int)+2-1=(n:Int)+1:=by omega
 clear j;go_in
 go_wp2_with fail;rw[v.out];refine(y _ (aY.refl _)).mono ?_;rintro e B ⟨rfl,f⟩;go_wp2_with fail;refine(x _ f).mono ?_;rintro e L ⟨t,z,rfl,d⟩;obtain⟨C,G,E⟩:=p _ _ _ d;have s:=aB (g _ _ _ d);clear d;go_wp2_with fail;go_region
 all_goals
  go_wp2_with fail;refine s.mono ?_;rintro e D ⟨rfl,q⟩;go_wp2_with fail;refine(u _ _ _ q).mono ?_;rintro e A ⟨rfl,r⟩;go_wp2
  go_end0;exact⟨rfl,r⟩
section
variable {fp:fN} {F:cC} {base:Nat} {w:aH} {sb gf cap:Nat} {t0 tv outv s0:aQ} {fvs:List FVal} {below:List aJ} {f:aJ} {tape:List Int} {out:cO}
def cW.dropTop{a:List FVal}{v:FVal}(h:cW false fp F base w sb gf cap t0 tv outv s0 (a++[v]) ⟨below++[f],tape,out⟩):
 cW false fp F base (w.setCell (aL sb 1) (.slice (some (aL gf 0)) a.length cap)) sb gf cap t0 tv outv s0 a ⟨below,tape,out⟩/\Kept (aP false sb gf outv (a++[v])) w (w.setCell (aL sb 1) (.slice (some (aL gf 0)) a.length cap)):=by
 generalize H:Value.slice (some (aL gf 0)) a.length cap=V;have m:∀k,k≠sb->(w.setCell (aL sb 1) V).heap[k]?=w.heap[k]?:=fun k m=>Y6 _ _ _ _ m
 have r:=(Z9.1 h.nodup).1;have d:bW false (a++[v])=bW false a++(v.ownX false):=by simp[bW]
 have g:∀k,k∈aP false sb gf outv a->k∈aP false sb gf outv (a++[v]):=fun k l=>by
  unfold aP at l ⊢
  rw[d];simp only[Z6,Z2] at l ⊢
  rcases l with i|i|i|i
  ·exact Y4 i
  ·exact Y3 (Y4 i)
  ·exact Y3 (Y3 (Y4 i))
  ·exact Y3 (Y3 (Y3 (Y4 i)))
 have n:∀b,F b->(w.setCell (aL sb 1) V).heap[b]?=w.heap[b]?:=fun b x=>m b fun e=>(h.apart b x).2 (by simp[aP,e])
 have j:∀k,k∈gf::(outv.ownBlock.toList++bW false (a++[v]))->(w.setCell (aL sb 1) V).heap[k]?=w.heap[k]?:=fun k l=>m k fun e=>r (by rw[<-e];exact l)
 obtain⟨D,M,e,o,L⟩:=iW.unsnoc h.frs;obtain⟨rfl,K⟩:=p7 e rfl;refine⟨⟨?_,?_,o.keep n eD fun u B k c=>j k ?_,h.tape.keep n eD,bA h.out fun k c=>j k (by simp[c]),?_,fun k c=>Y7 (h.lt k (g k c)) (by simp),fun k c=>⟨Y7 (h.apart k c).1 (by simp),fun l=>(h.apart k c).2 (g k l)⟩⟩,⟨rfl,rfl,rfl,by simp,fun k _ C=>m k fun e=>C (by simp[aP,e])⟩⟩
 ·rw[aT h.blk,<-H];rfl
 ·rcases h.row.2 with ⟨p,_⟩|⟨J,I,q,p,E,t,z,A,y,s⟩
  ·cases p
  ·cases p;rw[Y5] at z s;refine⟨by rw[eH],Y3 ⟨gf,cap,q,rfl,E,?_,by omega,A,y,?_⟩⟩
   ·rw[j gf (by simp)];exact t
   ·have:=congrArg (List.take (a.length*6)) s;rw[ag_,show min (a.length*6) ((a.length+[v].length)*6)=a.length*6 by simp,jM] at this
    rw[this,List.take_left' (by rw[eH])]
 ·have:k∈bW false a:=s9.2 ⟨u,B,c⟩;rw[d];simp[this]
 ·have G:aP false sb gf outv (a++[v])=aP false sb gf outv a++(v.ownX false):=by simp[aP,d]
  have:=h.nodup;rw[G] at this;exact(m9.1 this).1
def wV(sb gf:Nat)(a:aQ)(b:List FVal)(v:FVal):∀k,k∈aP false sb gf a b->k∈aP false sb gf a (b++[v]):=fun k c=>by
 have d:aP false sb gf a (b++[v])=aP false sb gf a b++(v.ownX false):=by simp[aP,bW]
 rw[d];exact j2 _ c
def R1(fp:fN)(F:cC)(base sb gf cap:Nat)(t0 tv outv s0:aQ)(fb:List FVal)(v:FVal)(below:List aJ)(f:aJ)(tape:List Int)(out:cO)(w0:aH)(a:aI)(t:TypeId)(z:aQ)(W:aH):Prop:=
 PV F W (.iface t z) a/\aK a<=200/\∃v',(v'.ownX false)=(v.ownX false)/\cW false fp F base W sb gf cap t0 tv outv s0 (fb++[v']) ⟨below++[f.pop],tape,out⟩/\Kept (aP false sb gf outv (fb++[v])) w0 W
def R1.gone{b:List FVal}{v:FVal}{d W:aH}{a:aI}{t:TypeId}{z:aQ}(m:R1 fp F base sb gf cap t0 tv outv s0 b v below f tape out d a t z W):
 PV F (W.drew.setCell (aL sb 1) (.slice (some (aL gf 0)) b.length cap)) (.iface t z) a/\cW false fp F base (W.drew.setCell (aL sb 1) (.slice (some (aL gf 0)) b.length cap)) sb gf cap t0 tv outv s0 b ⟨below,tape,out⟩/\Kept (aP false sb gf outv (b++[v])) d (W.drew.setCell (aL sb 1) (.slice (some (aL gf 0)) b.length cap)):=by
 obtain⟨o,s,j,q,c,p⟩:=m;have i:=c.grow (aY.drew W).below eD (fun _ h=>Y4 h)
 obtain⟨n,g⟩:=i.dropTop;have e:aP false sb gf outv (b++[j])=aP false sb gf outv (b++[v]):=by simp[aP,bW,q]
 rw[e] at g;refine⟨(o.keep (w':=W.drew) fun _ _=>rfl).keep fun k l=>Y6 _ _ _ _ fun e=>(c.apart k l).2 (by simp[aP,e]),n,(p.trans (Kept.of_below (own:=[]) (aY.drew W).below) (fun x r=>by simp at r)).trans g fun _ h=>Y4 h⟩
def N7(s:List eV)(h:cW false fp F base w sb gf cap t0 tv outv s0 fvs ⟨below++[f],tape,out⟩)(o:below.length<=15)(l:base<=w.heap.size)(I:f.ops.length<=99000)(D:∃J a,f.ops=J++[a])(H:∀g∈below,g.ops.length<=99000):
 Calls prog 257 #[.agg #[],bO sb] w (V0 fp F base sb t0 s0 (aP false sb gf outv fvs) w (cJ s .give below f tape out)):=by
 obtain⟨J,a,M⟩:=D;have T:=h.mid l (.cells #[] 258);obtain⟨b,v,Y,rfl,r, -, -, -,n, -⟩:=h.top;have q:Below w.heap.size w (w.alloc (.cells #[] 258)):=(Y8 _ w).alloc dH _;have U:=h.grow q eD (fun _ h=>Y4 h)
 have G:=T.topS o;rw[<-r] at G
 have P:Hid (∀W,aY (w.alloc (.cells #[] 258)) W->Calls prog 95 #[.pointer (some (aL gf (b.length*6)))] W fun e m=>∃t z,e=bE (.iface t z)/\R1 fp F base sb gf cap t0 tv outv s0 b v below f tape out (w.alloc (.cells #[] 258)) a t z m):=fun W O=>by
  refine((U.grow O.below eD (fun _ h=>Y4 h)).popR M (by omega)).mono ?_
  rintro e m ⟨t,z,aa,B,V,u,h3,x,X,h6⟩;exact⟨t,z,B,V,u,_,by simp[FVal.ownX,h3],x,(Kept.of_below (own:=aP false sb gf outv (b++[v])) O.below).trans X fun _ h=>Y4 h⟩
 have K:∀W t z,R1 fp F base sb gf cap t0 tv outv s0 b v below f tape out (w.alloc (.cells #[] 258)) a t z W->W.cell? (aL sb 1)=some (.slice (some (aL gf 0)) (b.length+1) cap)/\W.frozen? (aL sb 1)=false/\sb<W.heap.size:=fun W t z i=>by
  obtain⟨_,_,S,_,x,_⟩:=i;have c:=x.blk;rw[show (b++[S]).length=b.length+1 by simp] at c
  exact⟨aA c rfl,aE c,aD c⟩
 rcases y8 below with rfl|⟨j,g,A⟩
 ·obtain rfl:b=[]:=i7 r;refine(NN w _ sb gf 0 gf cap (fun m=>Done fp F base sb t0 s0 (aP false sb gf outv ([]++[v])) w ⟨[],tape,out⟩ m) _ rfl (by simpa using n) G P K fun W t z i=>?_).mono ?_
  ·obtain⟨_,C,y⟩:=i.gone;exact⟨(Kept.of_below q).trans y fun _ h=>Y4 h,F,gf,cap,tv,outv,[],Ext.refl _ _,C,fun k E=>Y4 (wV sb gf outv [] v k E)⟩
  ·rintro e m ⟨rfl,u⟩;exact⟨Y4 ⟨rfl,rfl⟩,u⟩
 ·rw[y9] at A;subst A;have d:b.length=j.length+1:=by simpa using r
  have Q:j.length<=14:=by simp at o;omega
  rw[d] at n;have Z:cJ s .give (j++[g]) f tape out=(⟨j++[g.push a],tape,out⟩,0):=by simp[cJ,iX M]
  rw[Z];refine(NM w _ sb gf (b.length*6) gf cap j.length gf (j.length*6) (fun m=>Done fp F base sb t0 s0 (aP false sb gf outv (b++[v])) w ⟨j++[g.push a],tape,out⟩ m) _ (fun t z W=>PV F W (.iface t z) a/\aK a<=200/\dT false fp base sb gf j.length t0 s0 (aP false sb gf outv (b++[v])) (w.alloc (.cells #[] 258)) F ⟨j++[g],tape,out⟩ W) rfl (by omega) (by omega) G P (fun W t z i=>?_) (fun W t z i=>?_) (fun W t z i=>?_)).mono ?_
  ·have:=K W t z i;rw[d] at this;exact this
  ·obtain⟨L,C,y⟩:=i.gone;rw[d] at L C y;have p:dT false fp base sb gf j.length t0 s0 (aP false sb gf outv (b++[v])) (w.alloc (.cells #[] 258)) F ⟨j++[g],tape,out⟩ _:=⟨y,Z4 l (Z4 q.size y.size),cap,tv,outv,b,d,C,fun k E=>Y4 (wV sb gf outv b v k E)⟩
   refine(p.top (by omega)).mono ?_
   rintro e m ⟨B,N⟩;exact⟨B,L.keep (fun _ _=>by rw[N.heap]),i.2.1,p.same N⟩
  ·refine(i.2.2.push i.1 i.2.1 (by have:=H g (by simp);omega)).mono ?_
   rintro e m ⟨B,x⟩;exact⟨B,x.done (Ext.refl _ _)⟩
  ·rintro e m ⟨rfl,u⟩;exact⟨Y4 ⟨rfl,rfl⟩,u⟩
end
def PC(w j:World)(sb n o gf m f:Nat)(b:Option Addr)(S:World->Prop)(Q:Option Addr->Nat->World->Prop)(l:w.alloc (.cells #[.pointer b,.int .i64 f] 320)=j)
 (v:Hid (∀W,aY j W->Calls prog 82 #[.pointer (some ⟨sb,0,none⟩)] W fun e g=>e=.returned (.pointer (some ⟨n,o,none⟩))/\aY j g))
 (u:Hid (∀W,aY j W->Calls prog 262 #[.pointer (some ⟨n,o,none⟩),.int .i64 f] W fun e g=>∃x d,e=.returned (.slice x f d)/\Q x d g))
 (r:Hid (∀W x d,Q x d W->W.cell? ⟨sb,1,none⟩=some (.slice (some ⟨gf,0,none⟩) 16 m)/\S W)):
 Calls prog 287 #[.agg #[.pointer b,.int .i64 f],.pointer (some ⟨sb,0,none⟩)] w fun e g=>e=fP 5/\S g:=by
 have a:(w.alloc (.cells #[.pointer b,.int .i64 f] 320)).heap[w.heap.size]?=some (.cells #[.pointer b,.int .i64 f] 320 (0,0)):=aU _ _ rfl _;rw[l] at a;have s:=aB l;have h:=aB (aA (i:=1) a rfl);have C:=h.out;have k:=aD a;clear l a;go_enter func287,ntmps287;go_wp2_with fail;rw[s.out];go_region_law (go_simp;first|(go_at_call 82;refine(v.out _ (aY.drew _)).mono ?_;rintro e y ⟨rfl,c⟩;have B:=cZ c.heap h.out;have z:=kA c.heap k)|(go_at_call 262;refine(u.out _ c).mono ?_;rintro e D ⟨x,d,rfl,p⟩;have q:=r.out _ _ _ p;obtain⟨A,t⟩:=q))
 all_goals
  go_wp2_with fail;exact⟨rfl,rfl,t⟩
end Go.Proofs.YtddnpoiiimjpcaaGreatDoor
