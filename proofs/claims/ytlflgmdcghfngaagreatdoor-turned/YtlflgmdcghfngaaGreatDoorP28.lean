/- Contracts of the program: Seek, at whatever number. -/
import Derived.Test.YtlflgmdcghfngaaGreatDoorP22
set_option linter.defProp false
set_option maxRecDepth 100000
set_option maxHeartbeats 4000000
namespace Go.Proofs.YtlflgmdcghfngaaGreatDoor
open Hs
open _root_.Go.Proofs.Tryz
open Go.RowKit
section
variable {fp:eK} {F:bY} {w w':aG} {sb mb n:Nat} {mo:Obj} {st:Nat->Option aW} {s:aW}
def atOf(n:Nat)(key:Int):Nat:=if key<=0 then 0 else min n ((key.toNat-1)/20+1)
def UA(n:Nat)(key:Int):Bool:=decide (0<=key/\key.toNat%20=0/\key.toNat/20<n)
def ct_{n:Nat}{a:Int}{b:Nat}{d:Bool}(h:c6_ n a b d):b=atOf n a/\d=UA n a:=by
 have g:=h.le
 have e:b=atOf n a:=by
  unfold atOf;rcases Nat.lt_trichotomy b (if a<=0 then 0 else min n ((a.toNat-1)/20+1)) with q|q|q
  ·split at q
   ·omega
   ·have:=h.hi b o_ cL;omega
  ·exact q
  ·have:=h.lo _ q;split at q
   ·rename_i c;rw[if_pos c] at this;omega
   ·rename_i c;rw[if_neg c] at this;omega
 refine⟨e,?_⟩;have f:=h.fnd;unfold UA;rw[iw,decide_eq_true_iff,f,e];unfold atOf;split<;>omega
def YY(h:jD fp F w sb mb mo st s n)(a:Int)(M:n<=1000)(h0:0<n):
 Calls prog 47 #[.pointer (some (aH sb 5)),I_ a] w λe w'=>∃(v:SV) (ok:Bool),e=aX (.tuple #[v.val,.bool ok])/\Below w.heap.size w w'/\(ok=false->a<0)/\(ok=true->∃(j:Nat) (τ:aW),j<n/\((20*j:Nat):Int)<=a/\st (20*j)=some τ/\jC fp F w' v.val τ):=by
 have x:Below w.heap.size w (w.alloc (.cells #[I_ 0,bG,bG,bG,I_ 0] 53)):=(eh _ w).alloc cL _;have V:=h.grow x dP λ_ h=>d7 h
 have c:Calls prog 78 #[.pointer (some (aH sb 5)),I_ a] (w.alloc (.cells #[I_ 0,bG,bG,bG,I_ 0] 53)) λe w'=>e=aX (.tuple #[I_ (atOf n a:Nat),.bool (UA n a)])/\Below (w.heap.size+1) (w.alloc (.cells #[I_ 0,bG,bG,bG,I_ 0] 53)) w':=by
  refine(tT V a M).mono ?_;rintro e w' ⟨Q,fd,rfl,f,hA⟩;obtain⟨rfl,rfl⟩:=ct_ hA;rw[World.size_alloc] at f;exact⟨rfl,f⟩
 by_cases X:a<0
 ·have e1:atOf n a=0:=if_pos o_
  have e2:UA n a=false:=by unfold UA;simp;omega
  rw[e1,e2] at c;refine(OP w sb a c).mono ?_;rintro e w' ⟨rfl,f⟩;exact⟨mD,false,rfl,f,λ_=>X,λh=>by cases h⟩
 ·obtain⟨j,hj,o,r⟩:∃j,((UA n a=true/\atOf n a=j)\/(UA n a=false/\atOf n a=j+1))/\j<n/\((20*j:Nat):Int)<=a:=by
   by_cases u:0<=a/\a.toNat%20=0/\a.toNat/20<n
   ·refine⟨a.toNat/20,d7 ⟨decide_eq_true u,?_⟩,u.2.2,o_⟩
    unfold atOf;split<;>omega
   ·refine⟨min n ((a.toNat-1)/20+1)-1,d6 ⟨decide_eq_false u,?_⟩,o_,?_⟩
    ·unfold atOf;split<;>omega
    ·omega
  obtain⟨fv,tv,ov,W,d,Z,h2,K,Y,E,h6,h7⟩:=h.blk;have q:=h.lt;have p:j<d.length:=o_
  obtain⟨k0,τ,z,m⟩:=E j p;obtain⟨v,l,T,U⟩:=m.sv;have c5:=aA (i:=5) Z rfl;rcases K.2 with ⟨C,r2⟩|⟨g,t,aa,C,r2,S,r4,r5⟩
  ·omega
  ·subst C;have k:=PD (es:=d) (by rw[Y];exact K) λi hi=>(E i hi).ok
   obtain⟨_,a0,N,O,G,I,H⟩:=k j p;simp only[SV.val,Value.agg.injEq] at l;simp at l;obtain⟨A,J,D,L,B⟩:=l;rw[A] at N;rw[J] at O;rw[D] at G;rw[L] at I;rw[B] at H;refine(AU w sb g n t (atOf n a) j (UA n a) a v q (aC S) M c5 N O G I H hj o c).mono ?_;rintro e w' ⟨rfl,f⟩;refine⟨v,true,rfl,f,λh=>(by cases h),λ_=>⟨j,τ,o,r,z,?_⟩⟩
   have P:v.val=.agg #[I_ d[j].a,d[j].b,d[j].c,d[j].d,I_ d[j].e]:=by
    rw[A,J,D,L,B];rfl
   rw[P];exact m.keep (λb y=>f.block b (h.fix b y).1) λ_ h=>h
end
section
variable {fp:eK} {F G:bY} {w w':aG} {sb mb n n':Nat} {mo:Obj} {ks:List aE} {tape:List Int} {s:aW} {L:List Nat}
structure AtI(fp:eK)(sb mb:Nat)(mo:Obj)(ks:List aE)(tape:List Int)(s:aW)(L:List Nat)(w:aG)(F0:bY)(n0:Nat)(m_:Int)(gk b:Nat)(v:SV)(ok:Bool)(W:aG):Prop where
 blk:W.heap[b]?=some (.cells v.cells 53 (0,0))
 hb:w.heap.size<b
 z:W.heap[w.heap.size]?=some (.cells NR 53 (0,0))
 fs:FS sb w W
 now:∃F n,Ext F0 F w.heap.size/\n0<=n/\Live fp F W sb mb mo ks tape s n (b::w.heap.size::L)/\(ok=true->∃τ,bT ks tape τ.m_=some τ/\jC fp F W v.val τ/\τ.m_/20<n/\(τ.m_:Int)<=m_/\501<=gk+τ.m_)
 no:ok=false->m_<0\/bT ks tape m_.toNat=none
def AtP(fp:eK)(F:bY)(w:aG)(sb mb:Nat)(mo:Obj)(ks:List aE)(tape:List Int)(s:aW)(n:Nat)(L:List Nat)(m_:Int)(v:SV)(ok:Bool)(W:aG):Prop:=
 ∃G n',n<=n'/\Ext F G w.heap.size/\FS sb w W/\Live fp G W sb mb mo ks tape s n' L/\(ok=true->∃τ,(τ.m_:Int)=m_/\bT ks tape τ.m_=some τ/\jC fp G W v.val τ/\τ.m_/20<n')/\(ok=false->m_<0\/bT ks tape m_.toNat=none)
def cY_(Q:Good ks)(ab:tape.length<=17592186044416)(h:Live fp F w sb mb mo ks tape s n L)(a:Int):
 Calls prog 24 #[aZ sb,I_ a] w λe w'=>∃v ok,e=aX (.tuple #[SV.val v,.bool ok])/\AtP fp F w sb mb mo ks tape s n L a v ok w':=by
 have l:=h.ses.lt;have ae:=h.count Q;have Y:0<n:=by have:=h.hn;omega
 have E:=h.alloc (.cells NR 53);have X:Below w.heap.size w (w.alloc (.cells NR 53)):=(eh _ w).alloc cL _;refine cs_ w sb 501 a (AtI fp sb mb mo ks tape s L w F n a) (AtP fp F w sb mb mo ks tape s n L a) ((YY E.ses a o_ Y).mono ?_) (λgk b v ok W d=>?_) (λgk b v W d hv=>?_) (λgk b v W d hv=>?_) (λgk b v W d=>?_)
 ·rintro e K ⟨v,ok,rfl,p,D,h2⟩;rw[World.size_alloc] at p;have f:But [] (w.alloc (.cells NR 53)) K:=⟨p.os,p.tape,p.output,by have:=p.size;simpa using this,λk hk _=>p.block k (by simpa using hk)⟩
  have H:Live fp F K sb mb mo ks tape s n (w.heap.size::L):=E.but f nY;have ag:w.heap.size+1<=K.heap.size:=by have:=p.size;simpa using this
  have q:Below w.heap.size w K:=X.trans (p.mono o_)
  have hz:K.heap[w.heap.size]?=some (.cells NR 53 (0,0)):=(p.block _ o_).trans (aN _ _ rfl _)
  refine⟨v,ok,rfl,aN _ _ rfl _,o_,by rw[ek _ _ _ (aC hz)];exact hz,FS.of_below (q.alloc q.size _) l,⟨F,n,Ext.refl _ _,cL,H.alloc _,λg=>?_⟩,λg=>d7 (D g)⟩
  obtain⟨j,r,j1,j2,j3,j4⟩:=h2 g;have ht:=(Q.sta j3).2.1;exact⟨r,by rw[ht];exact j3,j4.but H (But.alloc _ _ []) nY,o_,o_,o_⟩
 ·obtain⟨C,B,_,_,u,_⟩:=d.now;have:=d.hb;exact⟨d.blk,o_,d.z⟩
 ·obtain⟨C,B,c,o,u,D⟩:=d.now;obtain⟨r,J,M,t3,t4,t5⟩:=D rfl
  have aa:v.t=r.m_:=by
   obtain⟨s2,T,e2,_⟩:=M.sv;obtain rfl:=SV.val_inj T;exact e2
  have af:=(Q.sta J).1.m_;have ad:=aC d.blk;have q:=d.hb;have U:=aC d.z;have A:Live fp C (W.alloc (.cells v.cells 53)) sb mb mo ks tape s B (b::w.heap.size::L):=u.but (But.alloc _ _ []) nY;refine⟨gk-1,o_,(yP Q A ab v r (M.but u (But.alloc _ _ []) nY) J t3).mono ?_⟩
  rintro e P ⟨v',ok,rfl,G,m,k1,k2,Z,k4,k5,k6⟩;have I:P.heap[b]?=some (.cells v.cells 53 (0,0)):=by rw[A.blk Z s_,ek _ _ _ ad];exact d.blk
  have V:P.heap[w.heap.size]?=some (.cells NR 53 (0,0)):=by rw[A.blk Z s_,ek _ _ _ U];exact d.z
  have z:But [b] P (dW P b v'):=But.set5 _ _ _;have i:∀x∈[b],x∈(b::w.heap.size::L):=λx c=>by rw[ew.1 c];simp
  have O:FS sb w (W.alloc (.cells v.cells 53)):=d.fs.but (But.alloc _ _ []) nY l;refine⟨v',ok,rfl,⟨_,I,by simp[SV.cells]⟩,sI I rfl,q,by rw[dH _ _ _ _ o_];exact V,(O.trans Z).but z (λx c=>by rw[ew.1 c];omega) l,⟨G,m,c.trans k2 O.size,em o k1,k4.but z i,λg=>?_⟩,λg=>?_⟩
  ·obtain⟨_,ac,a1,a2,a3,a4⟩:=k5 g;exact⟨ac,by rw[a2];exact a1,a3.but k4 z i,a4,o_,o_⟩
  ·right
   cases hq:bT ks tape a.toNat with
   |none=>rfl
   |some y=>
    obtain⟨x,N,S⟩:=RF hq (t:=r.m_) o_
    rw[J] at N;cases N;exact absurd S (k6 g)
 ·obtain⟨C,B,c,o,u,D⟩:=d.now;obtain⟨r,J,M,t3,t4,t5⟩:=D rfl
  have aa:v.t=r.m_:=by
   obtain⟨s2,T,e2,_⟩:=M.sv;obtain rfl:=SV.val_inj T;exact e2
  have f:But [w.heap.size] W (dW (W.alloc (.cells v.cells 53)) w.heap.size v):=by simpa using (But.alloc W _ []).trans (But.set5 _ _ _)
  have i:∀x∈[w.heap.size],x∈(b::w.heap.size::L):=λx c=>by rw[ew.1 c];simp
  exact⟨C,B,o,c,d.fs.but f (λx c=>by rw[ew.1 c];exact en _) l,(u.but f i).drop λx c=>fe _ (fe _ c),λ_=>⟨r,o_,J,M.but u f i,t3⟩,λh=>by cases h⟩
 ·obtain⟨C,B,c,o,u,D⟩:=d.now;have f:But [w.heap.size] W (dW W w.heap.size v):=But.set5 _ _ _;have i:∀x∈[w.heap.size],x∈(b::w.heap.size::L):=λx c=>by rw[ew.1 c];simp
  exact⟨C,B,o,c,d.fs.but f (λx c=>by rw[ew.1 c];exact en _) l,(u.but f i).drop λx c=>fe _ (fe _ c),λh=>(by cases h),λ_=>d.no rfl⟩
def c2_(st:Nat->Option aW)(m_:Int)(s τ:aW)(fd:Bool):Prop:=
 (fd=true/\(τ.m_:Int)=m_/\st τ.m_=some τ)\/(fd=false/\τ=s/\(m_<0\/st m_.toNat=none))
def RT(q:Good ks)(j:tape.length<=17592186044416)(h:Live fp F w sb mb mo ks tape s n L)(a:Int):
 Calls prog 7 #[aZ sb,I_ a] w λe w'=>∃b,e=aX (.bool b)/\nB fp sb mb mo ks tape L (c2_ (bT ks tape) a s) w b w':=by
 have i:=h.ses.lt;refine L8 w sb a _ ((cY_ q j h a).mono ?_);rintro e w' ⟨v,ok,rfl,G,g,E,B,z,l,t,A⟩;have c:Live fp G (w'.alloc (.cells v.cells 53)) sb mb mo ks tape s g L:=l.but (But.alloc _ _ []) nY;have f:FS sb w (w'.alloc (.cells v.cells 53)):=z.but (But.alloc _ _ []) nY i;refine⟨v,ok,rfl,λd=>?_,λd=>⟨G,g,s,c,d6 ⟨rfl,rfl,A d⟩,f⟩⟩
 obtain⟨y,u,k,m,p⟩:=t d;obtain⟨J,D,I,C,H,o,_⟩:=c.ses.blk;obtain⟨x,r⟩:=c.go (m.but l (But.alloc _ _ []) nY) k p;exact⟨⟨_,o,s_⟩,G,g,y,x,d7 ⟨rfl,u,k⟩,f.trans r⟩
end
attribute [local go_sem] Oper.semAt_some
structure vE where
 k:Nat
 e:Nat
 ms:List Nat
 g:Nat
 n:Nat
 cap:Nat
 vs:Nat->SV
 w2:aG
def JY(l U sb:Nat)(s:SV)(W:aG)(Z:World->Prop)(ak:W.cell? (aH U 0)=some (aZ sb))(aq:U<W.heap.size)(ap:sb<W.heap.size)
 (k0:W.cell? (aH sb 0)=some (I_ s.t)) (k1:W.cell? (aH sb 1)=some (.slice s.x1 s.n1 s.c1)) (k2:W.cell? (aH sb 2)=some (.slice s.x2 s.n2 s.c2)) (k3:W.cell? (aH sb 3)=some (.slice s.x3 s.n3 s.c3)) (k4:W.cell? (aH sb 4)=some (I_ s.q))
 (I:Nat->Nat->List Nat->World->Prop) (S:vE->Prop) (A B:vE->Nat->World->Prop) (A1:vE->Nat->Nat->World->Prop) (D E:vE->World->Prop) (K0:Nat)
 (Y:Hid (I K0 s.t [] ((W.alloc (.cells #[.func (.yield l) #[] #[]] 86)).alloc (.cells s.cells 53))))
 (HI:Hid (∀k e p V,I k e p V->V.cell? (aH U 0)=some (aZ sb)/\U<V.heap.size/\(e=0->p.Nodup/\(∀b∈p,V.heap[b]?=some (.deferred (some [])))/\Z (oL V p))/\
   (0<e->Calls prog 67 #[aZ sb,I_ e] V λr w2=>∃g n o vs,r=aX (.slice (some (aH g 0)) (n+1) o)/\S ⟨k,e,p,g,n,o,vs,w2⟩)))
 (HS:Hid (∀x,S x->x.n+1<=1000000/\∀R0,A x x.n (((x.w2.alloc (.cells #[.slice (some (aH x.g 0)) (x.n+1) x.cap] 121)).alloc (.deferred (some []))).alloc (.loop R0))))
 (HA:Hid (∀x i V,A x i V->x.w2.heap.size+1+1<V.heap.size/\V.cell? (aH x.w2.heap.size 0)=some (.slice (some (aH x.g 0)) (x.n+1) x.cap)/\x.g<V.heap.size/\ElS V x.g i (x.vs i)/\A1 x i V.heap.size (V.alloc (.cells (x.vs i).cells 53))))
 (N:Hid (∀x i b V r,A1 x i b V->A1 x i b (V.putObj (x.w2.heap.size+1+1) (.loop r)))) (H:Hid (∀x i V r,B x i V->B x i (V.putObj (x.w2.heap.size+1+1) (.loop r)))) (L:Hid (∀x V r,D x V->D x (V.putObj (x.w2.heap.size+1+1) (.loop r)))) (M:Hid (∀x V r,E x V->E x (V.putObj (x.w2.heap.size+1+1) (.loop r))))
 (HY:Hid (∀x i b V,A1 x i b V->V.heap[b]?=some (.cells (x.vs i).cells 53 (0,0))/\V.cell? (aH W.heap.size 0)=some (.func (.yield l) #[] #[])/\W.heap.size<V.heap.size/\YieldAt Fence.wide 0 prog l #[(x.vs i).val] V λe V'=>(V'.heap[x.w2.heap.size+1]?=V.heap[x.w2.heap.size+1]?/\V'.heap[x.w2.heap.size+1+1]?=V.heap[x.w2.heap.size+1+1]?)/\((e=aX (.bool true)/\B x i V')\/(e=aX (.bool false)/\E x V'))))
 (HB:Hid (∀x i V,B x (i+1) V->A x i V)) (G:Hid (∀x V,B x 0 V->D x V))
 (HD:Hid (∀x V,D x V->V.heap[x.w2.heap.size+1]?=some (.deferred (some []))->x.g<V.heap.size/\ElS V x.g 0 (x.vs 0)/\∃k',k'<x.k/\I k' (x.vs 0).t ((x.w2.heap.size+1)::x.ms) (V.alloc (.cells (x.vs 0).cells 53))))
 (HE:Hid (∀x V,E x V->V.heap[x.w2.heap.size+1]?=some (.deferred (some []))->((x.w2.heap.size+1)::x.ms).Nodup/\(∀b∈(x.w2.heap.size+1)::x.ms,V.heap[b]?=some (.deferred (some [])))/\Z (oL V ((x.w2.heap.size+1)::x.ms)))):
 Calls prog 66 #[.func (.yield l) #[] #[],aZ U] W λe w'=>e=aX (.tuple #[])/\Z w':=by
 have HT:=aB λ(v:SV) (w:aG)=>oC v.t v.q v.x1 v.x2 v.x3 v.n1 v.n2 v.n3 v.c1 v.c2 v.c3 w
 have z:=aB (HT s);unfold SV.cells at Y;refine(callsIn_wide (n:=0)).1 (callsIn_of_wp_marks func66 rfl trivial ?_ rfl);simp only[ntmps66,kj,ep,ey,Nat.reduceAdd,Nat.reduceSub,Array.replicate_succ,Array.replicate_zero,List.push_toArray,List.append_toArray,ij,gb];refine wpIn_wide.2 ?_;go_wp2_with fail;refine(z _).mono ?_;rintro e w1 ⟨rfl,rfl⟩;go_wp2_with fail;clear ak k0 k1 k2 k3 k4 z;refine wp_loop_ghost_k (λk a V=>∃e p,I k e p V/\∃(u4 u5 u6 u7 u8 u9 u10 u11 u12 u13 u14 u15 u16 u17 u18 u19 u20 u21 u22 u23 u24 u25 u26 u27 u28:aQ),a={ tmps:= #[.func (.yield l) #[] #[],aZ U,aZ W.heap.size,I_ (e:Nat),u4,u5,u6,u7,u8,u9,u10,u11,u12,u13,u14,u15,u16,u17,u18,u19,u20,u21,u22,u23,u24,u25,u26,u27,u28],defers:=p.map mark }) K0 ⟨s.t,[],Y,_,_,_,_,_,_,_,_,_,_,_,_,_,_,_,_,_,_,_,_,_,_,_,_,_,rfl⟩ ?_
 rintro k a V ⟨e,p,hi,u4,u5,u6,u7,u8,u9,u10,u11,u12,u13,u14,u15,u16,u17,u18,u19,u20,u21,u22,u23,u24,u25,u26,u27,u28,rfl⟩ J K hJ hK;obtain⟨c0,l0,h0,X⟩:=HI _ _ _ _ hi;clear hi;by_cases he:e=0
 ·subst he;obtain⟨n1,n2,n3⟩:=h0 rfl;have HL:=aB λtmps=>(qQ (P:=prog) (fn:=f66) (tmps:=tmps) (R:=λe w'=>e=aX (.tuple #[])/\Z w') rfl p V n1 n2 ⟨rfl,n3⟩)
  clear h0 X n1 n2 n3;go_wp2_with fail;exact HL _
 ·have aj:=aB (X o_)
  have ao:(0:Int)<(e:Int):=o_
  clear h0 X HI Y;go_wp2_with fail;refine aj.mono ?_;rintro r w2 ⟨g,n,o,vs,rfl,h2⟩;have ae:=aB (QA (some (aH g 0)) (n+1) o w2);clear aj;go_wp2_with fail;refine ae.mono ?_;rintro r w3 ⟨rfl,rfl⟩;clear ae;go_wp2_with fail;obtain⟨g1,m⟩:=HS _ h2;obtain⟨x,C⟩:∃x:vE,x=⟨k,e,p,g,n,o,vs,w2⟩:=⟨_,rfl⟩;rw[<-C] at m;have xk:x.k=k:=by rw[C]
  have xe:x.e=e:=by rw[C]
  have an:x.ms=p:=by rw[C]
  have xg:x.g=g:=by rw[C]
  have xn:x.n=n:=by rw[C]
  have xc:x.cap=o:=by rw[C]
  have xw:x.w2=w2:=by rw[C]
  clear h2 HS C;subst xk xe an xg xn xc xw;generalize ag:x.w2.alloc (.cells #[.slice (some (aH x.g 0)) (x.n+1) x.cap] 121)=w3 at m ⊢
  have d:w3.heap.size=x.w2.heap.size+1:=by rw[<-ag];simp
  clear ag
  refine wpIn_wide.1 (vT (τ:=Nat) (P:=prog) (gf:=100) (lb:= #[aZ x.w2.heap.size]) rfl cX_ (λi y V=>y= #[I_ (i:Nat),SV.val (x.vs i)]/\A x i V) (λi y V=>B x i V)
   (λi y a' V=>∃b,y= #[I_ (i:Nat),SV.val (x.vs i)]/\a'={ tmps:= #[.func (.yield l) #[] #[],aZ U,aZ W.heap.size,I_ (x.e:Nat),.slice (some (aH x.g 0)) (x.n+1) x.cap,u5,aZ b,u7,u8,u9,u10,u11,I_ (x.e:Nat),.bool true,aZ sb,I_ (x.e:Nat),.slice (some (aH x.g 0)) (x.n+1) x.cap,.slice (some (aH x.g 0)) (x.n+1) x.cap,.func (.func 100) #[] #[aZ x.w2.heap.size],I_ (i:Nat),SV.val (x.vs i),u21,u22,u23,u24,u25,u26,u27,u28],defers:=[] }/\A1 x i b V)
   (λ_ c _ V=>c=.ret/\E x V) (λV=>D x V) ?hps ?hAx ?hB ?hBx ?hZ ?hassign ?hbody ?hseq ?hdone ?hstop)
  case hps=>rintro i y V ⟨rfl,_⟩;rfl
  case hAx=>rintro i y a' V r ⟨b,X,h2,h5⟩;rw[d];exact⟨b,X,h2,N _ _ _ _ _ h5⟩
  case hB=>intro i y V r h;rw[d];exact H _ _ _ _ h
  case hBx=>rintro _ c y V r ⟨rfl,h⟩;rw[d];exact⟨rfl,M _ _ _ h⟩
  case hZ=>intro V r h;rw[d];exact L _ _ _ h
  case hassign=>
   rintro i y V' K' ⟨rfl,h⟩ ah;obtain⟨q1, -, -, -,q2⟩:=HA _ _ _ h;have ai:=aB (ah _ _ (ek _ _ _ (by rw[d];omega)) (ek _ _ _ (by rw[d];omega)) ⟨_,rfl,rfl,q2⟩)
   unfold SV.val SV.cells at ai;clear ah q2 h;unfold SV.val;gi_wp2
   exact ai
  case hbody=>
   rintro i y a' V' ⟨b,rfl,rfl,h⟩ F;obtain⟨O,y2,y3,fn,tmps,f,t,hy,hR⟩:=HY _ _ _ _ h;have HR:=aB hR;unfold SV.val at hy;unfold SV.val;unfold SV.cells at O;have d0:=aA (i:=0) O rfl;have d1:=aA (i:=1) O rfl;have d2:=aA (i:=2) O rfl;have d3:=aA (i:=3) O rfl;have d4:=aA (i:=4) O rfl;have l1:=aC O;clear h hR O HA HY N H L M HE HD HB G m;gi_wp2
   refine⟨rfl,(show RoundIn (Fence.wide.inRound (x.w2.heap.size+1+1)) 0 prog l fn tmps f t V' _ from HR).mono ?_⟩
   rintro r V2 ⟨hq,⟨rfl,ab⟩|⟨rfl,ac⟩⟩
   ·have am:=aB ab;clear ab HR hy d0 d1 d2 d3 d4 y2;gi_wp2
    rw[d];exact⟨hq,am⟩
   ·have al:=aB ac;clear ac HR hy d0 d1 d2 d3 d4 y2;gi_wp2
    rw[d];exact⟨hq,rfl,al⟩
  case hseq=>
   intro R0 Rdy Don X h2 h3 h4 h5 hY;rw[d] at X h2 h3 h4 hY ⊢
   have T:=m R0;generalize (w3.alloc (.deferred (some []))).alloc (.loop R0)=V0 at T h5 ⊢
   obtain⟨q1,q2,q3,q4, -⟩:=HA _ _ _ T;refine callsIn_wide.2 ((C6 (x.w2.heap.size+1+1) x.w2.heap.size x.g (x.n+1) x.cap x.vs V0 (λi V=>Rdy V/\((i=0->D x V)/\∀j,i=j+1->A x j V)) (λV=>D x V/\Rdy V) (λV=>∃c,(c=Code.ret/\E x V)/\Don c V) g1 q2 o_ ⟨h5,λh=>by omega,λj hj=>(show x.n=j by omega)▸T⟩ (λi V hi u=>?_) (λV u=>⟨u.2.1 rfl,u.1⟩)).mono ?_)
   ·have ad:=u.2.2 i rfl;obtain⟨q1,q2,q3,q4, -⟩:=HA _ _ _ ad;refine⟨q2,o_,q3,q4,?_⟩
    obtain⟨fn,tmps,f,t,hy,hr⟩:=hY i _ V ⟨rfl,ad⟩ u.1;refine⟨fn,tmps,f,t,hy,hr.mono ?_⟩;rintro r V' (⟨rfl,hb,hr⟩|⟨rfl,c,⟨rfl,hE⟩,q⟩)
    ·refine d7 ⟨rfl,hr,λh=>?_,λj hj=>?_⟩
     ·subst h;exact G _ _ hb
     ·subst hj;exact HB _ _ _ hb
    ·exact d6 ⟨rfl,_,⟨rfl,hE⟩,q⟩
   ·rintro r V' ⟨rfl,⟨hd,hr⟩|⟨c,⟨rfl,hE⟩,q⟩⟩
    ·exact⟨⟨_,rfl⟩,d7 ⟨hd,hr⟩⟩
    ·exact⟨⟨_,rfl⟩,d6 ⟨0,_,#[],⟨rfl,hE⟩,q⟩⟩
  case hdone=>
   intro V' hd q F;rw[d] at q F ⊢
   obtain⟨p1,⟨e0,e1,e2,e3,e4⟩,k',p2,p3⟩:=HD _ _ hd q;simp only[Nat.zero_mul,ge] at e0 e1 e2 e3 e4;have Q:=aB p3;have z:=aB (HT (x.vs 0));have af:=aB hJ;have aa:=aB p2;unfold SV.cells at Q;clear hd q p3 HD HE HA HY N H L M HB G m HT;dsimp only[Exit.inBlock,Exit.then]
   go_wp2_with fail;refine(z _).mono ?_;rintro r w4 ⟨rfl,rfl⟩;clear e0 e1 e2 e3 e4 z;go_wp2_with fail
   first
    |exact hK _ _ (Handed.intro k' aa (af _ _ _ ⟨_,_,Q,_,_,_,_,_,_,_,_,_,_,_,_,_,_,_,_,_,_,_,_,_,_,_,_,_,rfl⟩))
    |exact Handed.intro k' aa (af _ _ _ ⟨_,_,Q,_,_,_,_,_,_,_,_,_,_,_,_,_,_,_,_,_,_,_,_,_,_,_,_,_,rfl⟩)
  case hstop=>
   rintro _ c y V' ⟨rfl,hz⟩ q F;rw[d] at q F ⊢
   obtain⟨p1,p2,p3⟩:=HE _ _ hz q;have HL:=aB λtmps=>(qQ (P:=prog) (fn:=f66) (tmps:=tmps) (R:=λe w'=>e=aX (.tuple #[])/\Z w') rfl _ V' p1 p2 ⟨rfl,p3⟩)
   clear hz q HE HD HA HY N H L M HB G m p1 p2 p3;refine wpIn_wide.2 ?_;go_wp2_with fail;exact HL _
def VT{τ:Type}(P:Program)(gf:Nat)(lb:Array Value)(w:aG)(A B:τ->SV->World->Prop)(E Z:τ->World->Prop):Prop:=
 ∀(R0:Loop) (Rdy:World->Prop) (Don:World->Prop),(∀W W',Rdy W->W'.heap[w.heap.size]?=W.heap[w.heap.size]?->W'.heap[w.heap.size+1]?=W.heap[w.heap.size+1]?->Rdy W')->(∀W,Rdy W->w.heap.size+1<W.heap.size)->(∀W W',Don W->W'.heap[w.heap.size]?=W.heap[w.heap.size]?->W'.heap[w.heap.size+1]?=W.heap[w.heap.size+1]?->Don W')->
  Rdy ((w.alloc (.deferred (some []))).alloc (.loop R0))->
  (∀t s W,A t s W->Rdy W->YieldAt Fence.wide 0 P (w.heap.size+1) #[s.val] W λe W'=>(e=aX (.bool true)/\B t s W'/\Rdy W')\/(e=aX (.bool false)/\E t W'/\Don W'))->
  Calls P gf (#[.func (.yield (w.heap.size+1)) #[] #[]]++lb) ((w.alloc (.deferred (some []))).alloc (.loop R0)) λe W'=>(∃v,e=aX v)/\((∃t,Z t W'/\Rdy W')\/∃t,E t W'/\Don W')
structure ECx where
 fp:Nat->Value
 sb:Nat
 mb:Nat
 mo:Obj
 ks:List aE
 tape:List Int
 s:aW
 bb:Nat
 bd:Nat
 All:List Nat
 Q:Nat->List Nat->(Nat->Prop)->Nat->World->Prop
 X:List Nat->(Nat->Prop)->Nat->World->Prop
structure ECx.Ok(C:ECx):Prop where
 live:∀{k L F n W},C.Q k L F n W->Live C.fp F W C.sb C.mb C.mo C.ks C.tape C.s n L/\∀b∈C.All,b∈L
 cb:∀{k L F n W},C.Q k L F n W->W.heap[C.bb]?=some (.cells #[aZ C.sb] 24 (0,0))
 but:∀{k L L' F n W W'},C.Q k L F n W->But L' W W'->(∀b∈L',b∈L/\C.bd<b)->C.Q k L F n W'
 more:∀{k L L' F n W},C.Q k L F n W->Live C.fp F W C.sb C.mb C.mo C.ks C.tape C.s n L'->(∀b∈C.All,b∈L')->C.Q k L' F n W
 fs:∀{k L F G n n' W W'},C.Q k L F n W->FS C.sb W W'->Live C.fp G W' C.sb C.mb C.mo C.ks C.tape C.s n' L->Ext F G W.heap.size->n<=n'->C.Q k L G n' W'
 xbut:∀{L L' F n W W'},C.X L F n W->But L' W W'->(∀b∈L',b∈L/\C.bd<b)->C.X L F n W'
 xmore:∀{L L' F n W},C.X L F n W->(∀b∈L',b∈L)->(∀b∈C.All,b∈L')->C.X L' F n W
structure Tg where
 L:List Nat
 F:Nat->Prop
 n:Nat
 U:aG
def ECx.S(C:ECx)(t:Tg)(W:aG):Prop:=(∀b∈t.L,W.heap[b]?=t.U.heap[b]?/\C.bd<b)/\∀b,t.F b->W.heap[b]?=t.U.heap[b]?
def ECx.A(C:ECx)(t:Tg)(s':SV)(W:aG):Prop:=∃σ,C.Q (σ.m_+1) (t.L++C.All) t.F t.n W/\jC C.fp t.F W s'.val σ/\bT C.ks C.tape σ.m_=some σ/\σ.m_<C.s.m_/\σ.m_/20<t.n/\C.S t W
def ECx.B(C:ECx)(t:Tg)(s':SV)(W:aG):Prop:=C.Q s'.t (t.L++C.All) t.F t.n W/\C.S t W
def ECx.E(C:ECx)(t:Tg)(W:aG):Prop:=C.X (t.L++C.All) t.F t.n W/\C.S t W
def ECx.Z(C:ECx)(t:Tg)(W:aG):Prop:=C.Q 0 (t.L++C.All) t.F t.n W
def qS:∀(a:List Nat) (V:aG),But a V (oL V a)
 |[],V=>⟨rfl,rfl,rfl,cL,λ_ _ _=>rfl⟩
 |b::a,V=>by
  have:=(But.put V b (.deferred none)).trans (qS a _);exact this
def tF:∀(c:List Nat) (V:aG) (b:Nat),b∉c->(oL V c).heap[b]?=V.heap[b]?
 |[],_,_,_=>rfl
 |a::c,V,b,h=>by
  rw[eo,not_or] at h;exact(tF c _ b h.2).trans (World.putObj_heap_other h.1)
structure EaI(C:ECx)(wb:Nat)(Rdy:World->Prop)(L:List Nat)(e:Nat)(ms:List Nat)(F:bY)(n:Nat)(V:aG):Prop where
 q:C.Q e L F n V
 mem:∀b∈ms++wb::C.All,b∈L
 nd:ms.Nodup
 mrk:∀b∈ms,V.heap[b]?=some (.deferred (some []))/\C.bd<b
 box:V.heap[wb]?=some (.cells #[.func (.yield C.bd) #[] #[]] 86 (0,0))
 rdy:Rdy V
def vE.bl(x:vE)(wb:Nat):List Nat:=x.g::x.w2.heap.size::(x.w2.heap.size+1)::(x.w2.heap.size+1+1)::(x.ms++[wb])
def vE.t0(x:vE):Nat:=20*((x.e-1)/20)
structure I5(C:ECx)(wb:Nat)(Rdy:World->Prop)(x:vE)(L:List Nat)(k:Nat)(F:bY)(n:Nat)(V:aG):Prop where
 i:EaI C wb Rdy L k x.ms F n V
 mem:∀b∈x.bl wb++C.All,b∈L
 ar:x.k=x.e/\x.e<=C.s.m_/\x.t0+(x.n+1)=x.e
 sl:V.heap[x.w2.heap.size]?=some (.cells #[.slice (some (aH x.g 0)) (x.n+1) x.cap] 121 (0,0))
 st:∀i,i<=x.n->∃τ,bT C.ks C.tape (x.t0+i)=some τ/\jC C.fp F V (x.vs i).val τ/\ElS V x.g i (x.vs i)
 hn:(x.t0+x.n)/20<n
 lo:(∀b∈x.ms,b<x.w2.heap.size)/\wb<x.w2.heap.size/\C.bd<x.g/\x.g<x.w2.heap.size
section
variable {C:ECx} {wb:Nat} {Rdy:World->Prop} {x:vE} {L L':List Nat} {k k':Nat} {F:bY} {n:Nat} {V V':aG}
def I5.same(h:I5 C wb Rdy x L k F n V)(l:C.Q k' L' F n V')(g:∀b∈x.bl wb++C.All,b∈L')(f:∀b∈x.g::x.w2.heap.size::wb::x.ms,V'.heap[b]?=V.heap[b]?)(r:∀b,F b->V'.heap[b]?=V.heap[b]?)(o:Rdy V'):I5 C wb Rdy x L' k' F n V':=by
 refine⟨⟨l,λb a=>g b ?_,h.i.nd,λb a=>⟨by rw[f b (by simp[a])];exact(h.i.mrk b a).1,(h.i.mrk b a).2⟩,by rw[f wb s_];exact h.i.box,o⟩,g,h.ar,by rw[f _ s_];exact h.sl,λi q=>?_,h.hn,h.lo⟩
 ·simp only[vE.bl,eu,eo,fi,or_false] at a ⊢
  rcases a with c|c|c
  ·exact d7 (d6 (d6 (d6 (d6 (d7 c)))))
  ·exact d7 (d6 (d6 (d6 (d6 (d6 c)))))
  ·exact d6 c
 ·obtain⟨p,c,m,d⟩:=h.st i q;have e:∀j,V'.cell? (aH x.g j)=V.cell? ⟨x.g,j,none⟩:=λj=>World.cell?_of_block (f x.g s_)
  exact⟨p,c,m.keep r dP,⟨by rw[e];exact d.c0,by rw[e];exact d.c1,by rw[e];exact d.c2,by rw[e];exact d.c3,by rw[e];exact d.c4⟩⟩
def I5.lt(a:C.Ok)(h:I5 C wb Rdy x L k F n V){b:Nat}(c:b∈x.bl wb++C.All):b<V.heap.size:=((a.live h.i.q).1.loc b (h.mem b c)).2.1
def I5.up(h:I5 C wb Rdy x L k F n V)(c:C.bd<wb){b:Nat}(a:b∈x.bl wb):C.bd<b:=by
 obtain⟨g,e,d,f⟩:=h.lo;simp only[vE.bl,eu,eo,fi,or_false] at a;rcases a with rfl|rfl|rfl|rfl|a|rfl
 ·exact d
 ·omega
 ·omega
 ·omega
 ·exact(h.i.mrk b a).2
 ·exact c
def I5.putL(d:C.Ok)(h:I5 C wb Rdy x L k F n V)(f:C.bd<wb)(o:Obj)(g:Rdy (V.putObj (x.w2.heap.size+1+1) o)):I5 C wb Rdy x L k F n (V.putObj (x.w2.heap.size+1+1) o):=by
 have c:x.w2.heap.size+1+1∈x.bl wb:=by simp[vE.bl]
 obtain⟨i,j,m,l⟩:=h.lo;refine h.same (d.but h.i.q (But.put _ _ _) λb a=>by rw[ew.1 a];exact⟨h.mem _ (fk _ c),h.up f c⟩) h.mem (λb a=>World.putObj_heap_other ?_) (λb a=>World.putObj_heap_other λe=>?_) g
 ·simp only[eo] at a;rcases a with rfl|rfl|rfl|a
  ·omega
  ·omega
  ·omega
  ·have:=i b a;omega
 ·exact((d.live h.i.q).1.loc _ (h.mem _ (fk _ c))).2.2.1 (e▸a)
end
def uQ{C:ECx}(p:C.Ok)(hg:Good C.ks)(bq:C.tape.length<=17592186044416){F:bY}{n:Nat}(W0:aG)(aj:C.bd=W0.heap.size+1)(W:W0.heap.size∈C.All/\W0.heap.size+1∈C.All)
 (hM:∀R0,C.Q C.s.m_ C.All F n ((W0.alloc (.deferred (some []))).alloc (.loop R0))):
 VT prog 66 #[aZ C.bb] W0 C.A C.B C.E C.Z:=by
 intro R0 Rdy Don hR ca bk bc hY;have K:=hM R0;have aq:((W0.alloc (.deferred (some []))).alloc (.loop R0)).heap.size=C.bd+1:=by rw[aj];simp
 generalize (W0.alloc (.deferred (some []))).alloc (.loop R0)=f at K bc aq ⊢
 obtain⟨U,cb⟩:=p.live K;have an:=U.ses.now;have bv:=(hg.sta an).1.m_;obtain⟨s1,bn,k0,k1,k2,k3,k4,_⟩:=U.ses.cells
 have bb:s1.t=C.s.m_:=by
  obtain⟨s2,e1,e2,_⟩:=bn.sv;obtain rfl:=SV.val_inj e1;exact e2
 have ba:=p.cb K;have A:∀{V P:aG},Rdy V->(∀b∈C.All,b<=C.bd->P.heap[b]?=V.heap[b]?)->Rdy P:=λ{V P} h O=>hR V P h (O _ W.1 o_) (O _ W.2 o_)
 have ap:∀{V P:aG},Don V->(∀b∈C.All,b<=C.bd->P.heap[b]?=V.heap[b]?)->Don P:=λ{V P} h O=>bk V P h (O _ W.1 o_) (O _ W.2 o_)
 have I:∀{V:aG} (b:Nat) (o:Obj),C.bd<b->∀c∈C.All,c<=C.bd->(V.putObj b o).heap[c]?=V.heap[c]?:=λb o a c _ X=>World.putObj_heap_other o_
 rw[<-aj] at hY ⊢
 refine(JY C.bd C.bb C.sb s1 f (λV=>(∃t,C.Z t V/\Rdy V)\/∃t,C.E t V/\Don V) (aA ba rfl) (aC ba) U.ses.lt k0 k1 k2 k3 k4
  (λk e ms V=>k=e/\e<=C.s.m_/\∃F n,EaI C f.heap.size Rdy (ms++f.heap.size::C.All) e ms F n V)
  (λx=>∃V F n F' n' E,EaI C f.heap.size Rdy (x.ms++f.heap.size::C.All) x.e x.ms F n V/\x.k=x.e/\x.e<=C.s.m_/\0<x.e/\E.length=x.n+1/\(∀i v,E[i]?=some v->x.vs i=v)/\x.t0+E.length=x.e/\cx_ C.fp C.sb C.mb C.mo C.ks C.tape C.s (x.ms++f.heap.size::C.All) V F n x.t0 F' n' E (some (aH x.g 0)) x.cap x.w2)
  (λx i V=>i<=x.n/\∃F n,I5 C f.heap.size Rdy x (x.bl f.heap.size++C.All) (x.t0+i+1) F n V)
  (λx i V=>i<=x.n/\∃F n,I5 C f.heap.size Rdy x (x.bl f.heap.size++C.All) (x.t0+i) F n V)
  (λx i b V=>i<=x.n/\V.heap[b]?=some (.cells (x.vs i).cells 53 (0,0))/\x.w2.heap.size+1+1<b/\∃F n,I5 C f.heap.size Rdy x (b::(x.bl f.heap.size++C.All)) (x.t0+i+1) F n V)
  (λx V=>∃F n,I5 C f.heap.size Rdy x (x.bl f.heap.size++C.All) x.t0 F n V)
  (λx V=>Don V/\x.ms.Nodup/\C.bd<x.w2.heap.size/\(∀b∈x.ms,V.heap[b]?=some (.deferred (some []))/\C.bd<b/\b<x.w2.heap.size)/\∃F n,C.X (x.bl f.heap.size++C.All) F n V)
  s1.t ?_ (λk e ms V hI=>?_) (λx S=>?_) (λx i V J=>?_) (λx i b V r J=>?_) (λx i V r hB=>?_) (λx V r hD=>?_) (λx V r hE=>?_) (λx i b V J=>?_) (λx i V hB=>?_) (λx V hB=>?_) (λx V hD hd=>?_) (λx V hE hd=>?_)).mono ?_
 ·generalize ae:(f.alloc (.cells #[.func (.yield C.bd) #[] #[]] 86)).alloc (.cells s1.cells 53)=Ws;have ag:But [] f Ws:=by rw[<-ae];exact(But.alloc f _ []).trans (But.alloc _ _ [])
  have bm:Ws.heap[f.heap.size]?=some (.cells #[.func (.yield C.bd) #[] #[]] 86 (0,0)):=by rw[<-ae];exact(ek _ _ _ s_).trans (aN _ _ rfl _)
  have az:=(U.alloc (.cells #[.func (.yield C.bd) #[] #[]] 86)).alloc (.cells s1.cells 53);rw[ae] at az;rw[bb];refine⟨rfl,cL,F,n,p.more (p.but K ag nY) (az.drop λb a=>fe _ a) (λb a=>by simp[a]),λb a=>a,List.nodup_nil,nY,bm,A bc λb _ a=>ag.blk b o_ s_⟩
 ·obtain⟨rfl,he,F,n,h⟩:=hI;obtain⟨G,J⟩:=p.live h.q;have X:=p.cb h.q;refine⟨aA X rfl,aC X,λO=>?_,λO=>?_⟩
  ·subst O;have s:=qS ms V;have bj:∀b∈ms,b∈ms++f.heap.size::C.All:=λb a=>fk _ a
   refine⟨h.nd,λb a=>(h.mrk b a).1,d7 ⟨⟨[],F,n,V⟩,?_,A h.rdy λb a M=>s.blk b (G.loc b (J b a)).2.1 λK=>by have:=(h.mrk b K).2;omega⟩⟩
   have z:=p.but h.q s λb a=>⟨bj b a,(h.mrk b a).2⟩
   exact p.more z ((p.live z).1.drop λb a=>by simp at a;simp[a]) (λb a=>by simpa using a)
  ·refine(RD hg bq G k O he (by have:=G.count hg;omega)).mono ?_
   rintro r w2 ⟨E,y,d,rfl,q,F',n',h2⟩;have bu:0<E.length:=o_
   rcases h2.own.2 with ⟨r1,r2⟩|⟨g,ce,bw,r1,_⟩
   ·omega
   ·cases r1;obtain⟨m,am⟩:∃m,E.length=m+1:=⟨E.length-1,o_⟩
    exact⟨g,m,d,λi=>(E[i]?).getD mD,by rw[am],V,F,n,F',n',E,h,rfl,he,O,am,λi v Q=>by simp[Q],q,h2⟩
 ·obtain⟨V,F,n,F',n',E,h,bf,bi,bx,br,bg,al,z⟩:=S;have aa:=z.live.drop (L':=x.ms++f.heap.size::C.All) λb a=>fq _ a
  have bl:=p.fs h.q z.fs aa z.ext z.le;obtain⟨G,J⟩:=p.live h.q;have bt:∀b∈x.ms++f.heap.size::C.All,x.w2.heap[b]?=V.heap[b]?:=λb a=>G.blk z.fs a
  have Y:=z.live.loc x.g (by simp[rR,Value.ownBlock])
  have bz:V.heap.size<=x.g:=(z.own.lt x.g (by simp[Value.ownBlock])).1
  have cg:f.heap.size<V.heap.size:=(G.loc f.heap.size s_).2.1
  have cf:=z.fs.size
  have w:∀i v j u,E[i]?=some v->j<5->([I_ v.t,.slice v.x1 v.n1 v.c1,.slice v.x2 v.n2 v.c2,.slice v.x3 v.n3 v.c3,I_ v.q]:List Value)[j]?=some u->x.w2.cell? (aH x.g (i*5+j))=some u:=λi v j u Q hj hu=>by
   have:=z.own.cells (g:=x.g) rfl (i*5+j) u (by rw[MG E i j v Q hj];exact hu)
   rwa [pH] at this
  refine⟨by unfold vE.t0 at al;omega,λR1=>⟨en _,F',n',?_⟩⟩
  have cd:=((aa.alloc (.cells #[.slice (some (aH x.g 0)) (x.n+1) x.cap] 121)).alloc (.deferred (some []))).alloc (.loop R1);have ad:=((z.live.alloc (.cells #[.slice (some (aH x.g 0)) (x.n+1) x.cap] 121)).alloc (.deferred (some []))).alloc (.loop R1);have s:But [] x.w2 (((x.w2.alloc (.cells #[.slice (some (aH x.g 0)) (x.n+1) x.cap] 121)).alloc (.deferred (some []))).alloc (.loop R1)):=((But.alloc x.w2 _ []).trans (But.alloc _ _ [])).trans (But.alloc _ _ [])
  have ao:(((x.w2.alloc (.cells #[.slice (some (aH x.g 0)) (x.n+1) x.cap] 121)).alloc (.deferred (some []))).alloc (.loop R1)).heap[x.w2.heap.size]?=some (.cells #[.slice (some (aH x.g 0)) (x.n+1) x.cap] 121 (0,0)):=by
   rw[ek _ _ _ (by simp only[World.size_alloc];omega),ek _ _ _ (by simp only[World.size_alloc];omega)];exact aN _ _ rfl _
  simp only[World.size_alloc] at ad;generalize ((x.w2.alloc (.cells #[.slice (some (aH x.g 0)) (x.n+1) x.cap] 121)).alloc (.deferred (some []))).alloc (.loop R1)=V2 at ad s ao ⊢
  have ai:∀b,b<x.w2.heap.size->V2.heap[b]?=x.w2.heap[b]?:=λb a=>s.blk b a s_
  have ak:∀b∈x.ms++f.heap.size::C.All,b<x.w2.heap.size:=λb a=>(aa.loc b a).2.1
  have ac:∀b∈x.ms++f.heap.size::C.All,V2.heap[b]?=V.heap[b]?:=λb a=>(ai b (ak b a)).trans (bt b a)
  have au:∀b∈x.bl f.heap.size++C.All,b∈(x.w2.heap.size+1+1)::(x.w2.heap.size+1)::x.w2.heap.size::(rR (some (aH x.g 0)) E.length x.cap++(x.ms++f.heap.size::C.All)):=λb a=>by
   simp only[vE.bl,rR,Value.ownBlock,Option.toList,eu,eo,fi,or_false] at a ⊢
   rcases a with (h|h|h|h|h|h)|h<;>simp[h]
  have ay:=ad.drop au;have ax:x.t0+(x.n+1)=x.e:=by rw[<-br];exact al
  have bp:C.Q x.e (x.bl f.heap.size++C.All) F' n' V2:=p.more (p.but bl s nY) ay (λb a=>fq _ a)
  have bo:C.bd<x.g:=o_
  refine⟨⟨(by rw[show x.t0+x.n+1=x.e by omega];exact bp),λb a=>?_,h.nd,λb a=>⟨by rw[ac b (fk _ a)];exact(h.mrk b a).1,(h.mrk b a).2⟩,by rw[ac _ s_];exact h.box,A h.rdy λb a _=>ac b (by simp[a])⟩,λ_ h=>h,⟨bf,bi,ax⟩,ao,λi L=>?_,?_,λb a=>ak b (fk _ a),o_,bo,Y.2.1⟩
  ·simp only[vE.bl,eu,eo,fi,or_false] at a ⊢
   rcases a with q|q|q<;>simp[q]
  ·obtain⟨τ,a1,a2⟩:=z.all i o_
   have Q:=fh (l:=E) (i:=i) o_
   rw[bg i _ Q];have X:∀j,V2.cell? (aH x.g j)=x.w2.cell? ⟨x.g,j,none⟩:=λj=>World.cell?_of_block (ai x.g Y.2.1)
   exact⟨τ,a1,a2.but z.live s nY,⟨by rw[X];exact w i _ 0 _ Q o_ rfl,by rw[X];exact w i _ 1 _ Q o_ rfl,by rw[X];exact w i _ 2 _ Q o_ rfl,by rw[X];exact w i _ 3 _ Q o_ rfl,by rw[X];exact w i _ 4 _ Q o_ rfl⟩⟩
  ·have:=ay.hn;omega
 ·obtain⟨L,F,n,h⟩:=J;obtain⟨τ,a1,a2,a3⟩:=h.st i L;obtain⟨G,J⟩:=p.live h.i.q;have ah:=h.lt p (b:=x.w2.heap.size+1+1) (by simp[vE.bl])
  refine⟨ah,aA h.sl rfl,h.lt p (by simp[vE.bl]),a3,L,aN _ _ rfl _,ah,F,n,?_⟩
  refine h.same (p.more (p.but h.i.q (But.alloc _ _ []) nY) (G.alloc _) λb a=>by simp[a]) (λb a=>fe _ a) (λb a=>ek _ _ _ (h.lt p ?_)) (λb a=>ek _ _ _ (G.ses.fix b a).1) (A h.i.rdy λb a _=>ek _ _ _ (G.loc b (J b a)).2.1)
  simp only[vE.bl,eu,eo,fi,or_false] at a ⊢
  rcases a with q|q|q|q<;>simp[q]
 ·obtain⟨L,af,ar,F,n,h⟩:=J;have B:=h.up o_ (b:=x.w2.heap.size+1+1) (by simp[vE.bl])
  exact⟨L,by rw[World.putObj_heap_other o_];exact af,ar,F,n,h.putL p o_ _ (A h.i.rdy (I _ _ B))⟩
 ·obtain⟨L,F,n,h⟩:=hB;have B:=h.up o_ (b:=x.w2.heap.size+1+1) (by simp[vE.bl])
  exact⟨L,F,n,h.putL p o_ _ (A h.i.rdy (I _ _ B))⟩
 ·obtain⟨F,n,h⟩:=hD;have B:=h.up o_ (b:=x.w2.heap.size+1+1) (by simp[vE.bl])
  exact⟨F,n,h.putL p o_ _ (A h.i.rdy (I _ _ B))⟩
 ·obtain⟨q,h2,h3,h4,F,n,h5⟩:=hE;exact⟨ap q (I _ _ o_),h2,h3,λb a=>⟨by rw[World.putObj_heap_other (by have:=(h4 b a).2.2;omega)];exact(h4 b a).1,(h4 b a).2⟩,F,n,p.xbut h5 (But.put _ _ _) λb a=>by rw[ew.1 a];exact⟨by simp[vE.bl],o_⟩⟩
 ·obtain⟨L,af,ar,F,n,h⟩:=J;obtain⟨τ,a1,a2,a3⟩:=h.st i L;have D:=(hg.sta a1).2.1;obtain⟨G,J⟩:=p.live h.i.q
  have N:(x.vs i).t=x.t0+i:=by
   obtain⟨s2,e1,e2,_⟩:=a2.sv;obtain rfl:=SV.val_inj e1;rw[e2,D]
  have be:=h.ar;have cc:=h.hn;have bh:C.A ⟨x.bl f.heap.size,F,n,V⟩ (x.vs i) V:=⟨τ,by rw[D];exact p.more h.i.q (G.drop λb a=>fe _ a) (λb a=>fq _ a),a2,by rw[D];exact a1,by rw[D];omega,by rw[D];show (x.t0+i)/20<n;omega,λb a=>⟨rfl,h.up o_ a⟩,λ_ _=>rfl⟩
  refine⟨af,aA h.i.box rfl,aC h.i.box,?_⟩;obtain⟨fn,aw,T,av,hy,hr⟩:=hY _ _ V bh h.i.rdy;refine⟨fn,aw,T,av,hy,hr.mono ?_⟩
  have bd:∀b∈x.g::x.w2.heap.size::f.heap.size::x.ms,b∈x.bl f.heap.size:=λb a=>by
   simp only[vE.bl,eu,eo,fi,or_false] at a ⊢
   rcases a with q|q|q|q<;>simp[q]
  rintro e P (⟨rfl,⟨hB,S⟩,Z⟩|⟨rfl,⟨hE,S⟩,Z⟩)
  ·refine⟨⟨(S.1 _ (by simp[vE.bl])).1,(S.1 _ (by simp[vE.bl])).1⟩,d7 ⟨rfl,L,F,n,h.same (by rw[<-N];exact hB) dP (λb a=>(S.1 b (bd b a)).1) S.2 Z⟩⟩
  ·refine⟨⟨(S.1 _ (by simp[vE.bl])).1,(S.1 _ (by simp[vE.bl])).1⟩,d6 ⟨rfl,Z,h.i.nd,by have:=h.lo;omega,λb a=>⟨by rw[(S.1 b (bd b (by simp[a]))).1];exact(h.i.mrk b a).1,(h.i.mrk b a).2,h.lo.1 b a⟩,F,n,hE⟩⟩
 ·obtain⟨L,F,n,h⟩:=hB;exact⟨o_,F,n,h⟩
 ·obtain⟨L,F,n,h⟩:=hB;exact⟨F,n,h⟩
 ·obtain⟨F,n,h⟩:=hD;obtain⟨τ,a1,a2,a3⟩:=h.st 0 (ft _)
  have N:(x.vs 0).t=x.t0:=by
   obtain⟨s2,e1,e2,_⟩:=a2.sv;obtain rfl:=SV.val_inj e1;rw[e2,(hg.sta a1).2.1];rfl
  have be:=h.ar;obtain⟨G,J⟩:=p.live h.i.q;have s:But [] V (V.alloc (.cells (x.vs 0).cells 53)):=But.alloc _ _ []
  have H:∀b∈((x.w2.heap.size+1)::x.ms)++f.heap.size::C.All,b∈x.bl f.heap.size++C.All:=λb a=>by
   simp only[vE.bl,eu,eo,fi,or_false] at a ⊢
   rcases a with (q|q)|q|q<;>simp[q]
  have ab:∀b∈((x.w2.heap.size+1)::x.ms)++f.heap.size::C.All,b<V.heap.size:=λb a=>h.lt p (H b a)
  refine⟨h.lt p (by simp[vE.bl]),a3,x.t0,o_,N.symm,by rw[N];omega,F,n,?_,λ_ h=>h,?_,λb a=>?_,?_,A h.i.rdy λb a _=>s.blk b (G.loc b (J b a)).2.1 s_⟩
  ·rw[N];have z:=p.but h.i.q s nY;exact p.more z ((p.live z).1.drop H) λb a=>by simp[a]
  ·refine e7.2 ⟨λK=>?_,h.i.nd⟩
   have:=h.lo.1 _ K;omega
  ·rcases eo.1 a with rfl|M
   ·exact⟨by rw[ek _ _ _ (ab _ s_)];exact hd,by have:=h.lo;omega⟩
   ·exact⟨by rw[ek _ _ _ (ab _ (by simp[M]))];exact(h.i.mrk b M).1,(h.i.mrk b M).2⟩
  ·rw[ek _ _ _ (ab _ s_)];exact h.i.box
 ·obtain⟨q,h2,h3,h4,F,n,h5⟩:=hE;have s:=qS ((x.w2.heap.size+1)::x.ms) V
  have B:∀b∈(x.w2.heap.size+1)::x.ms,C.bd<b:=λb a=>by
   rcases eo.1 a with rfl|a
   ·omega
   ·exact(h4 b a).2.1
  have H:∀b∈(x.w2.heap.size+1)::x.ms,b∈x.bl f.heap.size++C.All:=λb a=>by
   simp only[vE.bl,eu,eo,fi,or_false] at a ⊢
   rcases a with q|q<;>simp[q]
  refine⟨e7.2 ⟨λK=>by have:=(h4 _ K).2.2;omega,h2⟩,λb a=>?_,d6 ⟨⟨[],F,n,oL V ((x.w2.heap.size+1)::x.ms)⟩,⟨p.xmore (p.xbut h5 s λb a=>⟨H b a,B b a⟩) (λb a=>fq _ (by simpa using a)) (λb a=>by simpa using a),nY,λ_ _=>rfl⟩,?_⟩⟩
  ·rcases eo.1 a with rfl|a
   ·exact hd
   ·exact(h4 b a).1
  ·exact ap q λb _ M=>tF _ _ _ λK=>by have:=B b K;omega
 ·rintro e W' ⟨rfl,h⟩;exact⟨⟨_,rfl⟩,h⟩
end Go.Proofs.YtlflgmdcghfngaaGreatDoor
