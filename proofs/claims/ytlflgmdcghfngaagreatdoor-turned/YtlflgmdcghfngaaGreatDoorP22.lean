/- Contracts of the program: the latest state that is kept. -/
import Derived.Test.YtlflgmdcghfngaaGreatDoorP21
set_option linter.defProp false
set_option maxRecDepth 100000
set_option maxHeartbeats 4000000
namespace Go.Proofs.YtlflgmdcghfngaaGreatDoor
open Hs
open _root_.Go.Proofs.Tryz
open Go.RowKit
def AU(w:World)(sb g n E h j:Nat)(B:Bool)(t:Int)(a:SV)(F:sb<w.heap.size)(p:g<w.heap.size)(hn:n<=1000)
 (u:w.cell? ⟨sb,5,none⟩=some (.slice (some ⟨g,0,none⟩) n E))
 (y:w.cell? ⟨g,j*6+1,none⟩=some (.int .i64 a.t)) (r:w.cell? ⟨g,j*6+2,none⟩=some (.slice a.x1 a.n1 a.c1)) (z:w.cell? ⟨g,j*6+3,none⟩=some (.slice a.x2 a.n2 a.c2)) (A:w.cell? ⟨g,j*6+4,none⟩=some (.slice a.x3 a.n3 a.c3)) (o:w.cell? ⟨g,j*6+5,none⟩=some (.int .i64 a.q))
 (hj:(B=true/\h=j)\/(B=false/\h=j+1)) (aa:j<n)
 (N:Hid (Calls prog 78 #[.pointer (some ⟨sb,5,none⟩),.int .i64 t] (w.alloc (.cells #[.int .i64 0,.slice none 0 0,.slice none 0 0,.slice none 0 0,.int .i64 0] 53)) λe w'=>e=.returned (.tuple #[.int .i64 h,.bool B])/\Below (w.heap.size+1) (w.alloc (.cells #[.int .i64 0,.slice none 0 0,.slice none 0 0,.slice none 0 0,.int .i64 0] 53)) w')):
 Calls prog 47 #[.pointer (some ⟨sb,5,none⟩),.int .i64 t] w λe w'=>e=.returned (.tuple #[a.val,.bool true])/\Below w.heap.size w w':=by
 have X:=aB (ff u (ff y (ff r (ff z (ff A o)))));clear u y r z A o;go_enter func47,ntmps47;go_wp2_with fail;refine N.out.mono ?_;rintro e m ⟨rfl,D⟩;have l:Below w.heap.size w m:=((eh w.heap.size w).alloc (en _) _).trans (D.mono o_)
 have c:m.heap[w.heap.size]?=some (.cells #[.int .i64 0,.slice none 0 0,.slice none 0 0,.slice none 0 0,.int .i64 0] 53 (0,0)):=(D.block _ o_).trans (aN _ _ rfl _)
 obtain⟨u,y,r,z,A,o⟩:=X.out;have k:∀(b i:Nat) (v:Value),b<w.heap.size->w.cell? ⟨b,i,none⟩=some v->m.cell? ⟨b,i,none⟩=some v:=λb i v C hv=>(World.cell?_of_block (l.block b C)).trans hv
 have Y:=k _ _ _ F u;have U:=k _ _ _ p y;have L:=k _ _ _ p r;have M:=k _ _ _ p z;have d4:=k _ _ _ p A;have V:=k _ _ _ p o;have z0:=aA (i:=0) c rfl;have T:=aA (i:=1) c rfl;have P:=aA (i:=2) c rfl;have Z:=aA (i:=3) c rfl;have Q:=aA (i:=4) c rfl;have O:=aD (i:=0) c;have S:=aD (i:=1) c;have f2:=aD (i:=2) c;have f3:=aD (i:=3) c;have f4:=aD (i:=4) c;have lz:=aC c;have x:=aB (jV (W:=m) (s:=a) c s_ rfl)
 have q:=aB (mR a l (en _));unfold dW at x q;have q1:(0:Int)<=(j:Int):=o_
 have q2:(j:Int)<(n:Int):=o_
 clear D l c k X u y r z A o N;rcases hj with ⟨rfl,rfl⟩|⟨rfl,rfl⟩
 ·go_wp2_with fail;have f:=x.out;have d:=q.out;clear x q z0 T P Z Q O S f2 f3 f4 U L M d4 Y V;generalize ((((m.setCell ⟨w.heap.size,0,none⟩ (.int .i64 a.t)).setCell ⟨w.heap.size,1,none⟩ (.slice a.x1 a.n1 a.c1)).setCell ⟨w.heap.size,2,none⟩ (.slice a.x2 a.n2 a.c2)).setCell ⟨w.heap.size,3,none⟩ (.slice a.x3 a.n3 a.c3)).setCell ⟨w.heap.size,4,none⟩ (.int .i64 a.q)=W3 at f d ⊢
  obtain⟨G,H,I,J,K⟩:=f;exact bodyPost_ret (v:=.tuple #[a.val,.bool true]) (by simp[results,results47,go_sem,G,H,I,J,K,SV.val]) rfl ⟨rfl,d⟩
 ·have q3:(((j+1:Nat):Int)==0)=false:=t_
  go_wp2_with fail;have f:=x.out;have d:=q.out;clear x q z0 T P Z Q O S f2 f3 f4 U L M d4 Y V;generalize ((((m.setCell ⟨w.heap.size,0,none⟩ (.int .i64 a.t)).setCell ⟨w.heap.size,1,none⟩ (.slice a.x1 a.n1 a.c1)).setCell ⟨w.heap.size,2,none⟩ (.slice a.x2 a.n2 a.c2)).setCell ⟨w.heap.size,3,none⟩ (.slice a.x3 a.n3 a.c3)).setCell ⟨w.heap.size,4,none⟩ (.int .i64 a.q)=W3 at f d ⊢
  obtain⟨G,H,I,J,K⟩:=f;exact bodyPost_ret (v:=.tuple #[a.val,.bool true]) (by simp[results,results47,go_sem,G,H,I,J,K,SV.val]) rfl ⟨rfl,d⟩
def bY_:(prog.info? 53).map (λi=>(i.zero,i.size,i.bytes))=some (some (.agg #[I_ 0,bG,bG,bG,I_ 0]),5,88):=k_
def ag_(w:aG)(b c d e a:aQ):∀j u,([b,c,d,e,a]:List Value)[j]?=some u->(w.alloc (.cells #[b,c,d,e,a] 53)).cell? ((⟨w.heap.size,0,none⟩:Addr).add j)=some u:=by
 intro j u f;exact World.news_of_block (cs:= #[b,c,d,e,a]) (aN _ _ rfl _) j u f
def bC_(v:SV):∀u∈([I_ v.t,.slice v.x1 v.n1 v.c1,.slice v.x2 v.n2 v.c2,.slice v.x3 v.n3 v.c3,I_ v.q]:List Value),u.oneCell'=true:=by
 intro u a;simp at a;rcases a with rfl|rfl|rfl|rfl|rfl<;>rfl
def uR(l:List SV):List Value:=l.flatMap λv=>[I_ v.t,.slice v.x1 v.n1 v.c1,.slice v.x2 v.n2 v.c2,.slice v.x3 v.n3 v.c3,I_ v.q]
def ZL(l:List SV)(v:SV):uR (l++[v])=uR l++[I_ v.t,.slice v.x1 v.n1 v.c1,.slice v.x2 v.n2 v.c2,.slice v.x3 v.n3 v.c3,I_ v.q]:=by simp[uR]
def NM(w:World)(sb a K0 b_:Nat)(I:Nat->Nat->List SV->Option Addr->Nat->SV->Bool->World->Prop)(R:List SV->Option Addr->Nat->World->Prop)(ad:0<a)(Y:a<=1000)
 (HL:Hid (Calls prog 47 #[.pointer (some ⟨sb,5,none⟩),.int .i64 ((a-1:Nat):Int)] w λe w'=>∃v,e=.returned (.tuple #[SV.val v,.bool true])/\I K0 w'.heap.size [] none 0 v true (w'.alloc (.cells v.cells 53))))
 (T:Hid (∀gk b f y d v ok W,I gk b f y d v ok W->W.heap[b]?=some (.cells v.cells 53 (0,0))/\W.ownsRow b_ 53 5 (.slice y f.length d) f.length (uR f)/\f.length<=1000/\b_<=W.heap.size))
 (U:Hid (∀gk b f y d v W,I gk b f y d v true W->v.t<a->∃j,gk=j+1/\∀H m (K:World),K.ownsRow b_ 53 5 (.slice (some ⟨H,0,none⟩) (f.length+1) m) (f.length+1) (uR (f++[v]))->((W.alloc (.cells v.cells 53)).alloc (.cells v.cells 53)).grownBy K (Value.ownBlock (.slice y f.length d))->(Value.ownBlock (.slice y f.length d)=some H\/H=W.heap.size+2)->
   K.heap[b]?=some (.cells v.cells 53 (0,0))/\Calls prog 48 #[.pointer (some ⟨sb,0,none⟩),v.val] K λe w'=>∃O ok,e=.returned (.tuple #[SV.val O,.bool ok])/\(∃c,w'.heap[b]?=some (.cells c 53 (0,0))/\c.size=5)/\I j b (f++[v]) (some ⟨H,0,none⟩) m O ok (dW w' b O)))
 (X:Hid (∀gk b f y d v W,I gk b f y d v true W->¬v.t<a->R f y d (W.alloc (.cells v.cells 53)))) (q:Hid (∀gk b f y d v W,I gk b f y d v false W->R f y d W)):
 Calls prog 67 #[.pointer (some ⟨sb,0,none⟩),.int .i64 a] w λe w'=>∃f y d,e=.returned (.slice y f.length d)/\R f y d w':=by
 obtain⟨i0,hi,aa,ac,ab⟩:=info_parts bY_;have e0:((a:Nat):Int)-1=((a-1:Nat):Int):=o_
 go_enter func67,ntmps67;go_wp2_with fail;refine HL.out.mono ?_;rintro e w1 ⟨v0,rfl,h1⟩;have H1:=aB h1;unfold SV.cells at H1;unfold SV.val;clear h1 HL;go_wp2_with fail;go_loopg [5,7] K0 (λgk s5 s7 wr=>∃f y d v ok,s5=.slice y f.length d/\s7=.bool ok/\I gk w1.heap.size f y d v ok wr)
 case atStart=>exact⟨[],_,_,_,_,rfl,rfl,H1.out⟩
 case round=>
  obtain⟨f,y,d,v,ok,rfl,rfl,Q⟩:=hrel;cases ok
  ·have V:=aB (q.out _ _ _ _ _ _ _ Q);clear Q T U X q;go_wp2_with fail;go_ret;exact⟨f,y,d,rfl,V.out⟩
  ·obtain⟨g,x,ah,af⟩:=T.out _ _ _ _ _ _ _ _ Q;unfold SV.cells at g;have D:=aA (i:=0) g rfl;have F:=aA (i:=1) g rfl;have C:=aA (i:=2) g rfl;have E:=aA (i:=3) g rfl;have G:=aA (i:=4) g rfl;have Z:=aC g;have HT:=aB (oC v.t v.q v.x1 v.x2 v.x3 v.n1 v.n2 v.n3 v.c1 v.c2 v.c3 wr);have HO:=aB x;have r:=aB Q;clear x Q;go_wp2_with fail;refine HT.out.mono ?_;rintro e J ⟨rfl,rfl⟩;clear HT;by_cases hv:v.t<a
   ·obtain⟨j,rfl,hN⟩:=U.out _ _ _ _ _ _ _ r.out hv;have e1:(v.t:Int)<(a:Int):=o_
    have s:=aB hN;unfold SV.cells at s;have A:(wr.alloc (.cells #[.int .i64 v.t,.slice v.x1 v.n1 v.c1,.slice v.x2 v.n2 v.c2,.slice v.x3 v.n3 v.c3,.int .i64 v.q] 53)).ownsRow b_ 53 5 (.slice y f.length d) f.length (uR f):=HO.out.alloc _;generalize z:wr.alloc (.cells #[.int .i64 v.t,.slice v.x1 v.n1 v.c1,.slice v.x2 v.n2 v.c2,.slice v.x3 v.n3 v.c3,.int .i64 v.q] 53)=J at A s ⊢
    have t:J.heap.size=wr.heap.size+1:=by rw[<-z];simp
    have k:J.heap[w1.heap.size]?=some (.cells #[.int .i64 v.t,.slice v.x1 v.n1 v.c1,.slice v.x2 v.n2 v.c2,.slice v.x3 v.n3 v.c3,.int .i64 v.q] 53 (0,0)):=by rw[<-z,ek _ _ _ Z];exact g
    have D:=aA (i:=0) k rfl;have F:=aA (i:=1) k rfl;have C:=aA (i:=2) k rfl;have E:=aA (i:=3) k rfl;have G:=aA (i:=4) k rfl;have S:=aC k;have M:=aB A;have L:=aB t;clear A g k z t HO r T U X q;go_wp2_with (at_builtin;refine wpList_append_lies _ r_ _ _ 121 r_ b_ 53 i0 _ 5 88 underlying121 hi aa ac ab rfl d_ (.slice y f.length d) f.length _ r_ (M.out.alloc _) ⟨J.heap.size,0,none⟩ 1 1 [.int .i64 v.t,.slice v.x1 v.n1 v.c1,.slice v.x2 v.n2 v.c2,.slice v.x3 v.n3 v.c3,.int .i64 v.q] r_ r_ (ag_ J _ _ _ _ _) (bC_ v) d_ (by unfold maxLen;omega) o_ (by simp;have:=L.out;omega) (J.heap.size+1) s_ ?_)
    intro H m K p n u ai;obtain⟨l,P⟩:=s.out H m K (by rw[ZL];exact p) n (by have:=L.out;rcases u with h|h;exact d7 h;exact d6 o_)
    clear p n u s M D F C E G S;have D:=aA (i:=0) l rfl;have F:=aA (i:=1) l rfl;have C:=aA (i:=2) l rfl;have E:=aA (i:=3) l rfl;have G:=aA (i:=4) l rfl;have N:=aC l;have B:=aB P;unfold SV.val at B;clear l P;go_wp2_with fail;refine B.out.mono ?_;rintro e w6 ⟨O,ok,rfl,⟨c,o,ag⟩,h6⟩;have H6:=aB h6;unfold dW at H6;clear B D F C E G N h6;have D:=aA (i:=0) o (ez o_)
    have F:=aA (i:=1) o (ez o_)
    have C:=aA (i:=2) o (ez o_)
    have E:=aA (i:=3) o (ez o_)
    have G:=aA (i:=4) o (ez o_)
    have f0:=aD (i:=0) o;have f1:=aD (i:=1) o;have f2:=aD (i:=2) o;have f3:=aD (i:=3) o;have f4:=aD (i:=4) o;have ae:=aC o;clear o;go_wp2_with fail;go_roundg j
    case measure=>omega
    case rel=>exact⟨f++[v],_,_,O,ok,s_,rfl,H6.out⟩
   ·have e1:¬(v.t:Int)<(a:Int):=o_
    have V:=aB (X.out _ _ _ _ _ _ _ r.out hv);unfold SV.cells at V;clear T U X q HO r g D F C E G;go_wp2_with fail;go_ret;exact⟨f,y,d,rfl,V.out⟩
section
variable {fp:eK} {F:bY} {w w':aG} {sb mb n:Nat} {mo:Obj} {st:Nat->Option aW} {s:aW}
def YZ(h:jD fp F w sb mb mo st s n)(a:Nat)(E:a/20<n)(N:n<=1000):
 Calls prog 47 #[.pointer (some (aH sb 5)),I_ a] w λe w'=>∃(v:SV) (τ:aW),e=aX (.tuple #[v.val,.bool true])/\st (20*(a/20))=some τ/\jC fp F w' v.val τ/\Below w.heap.size w w':=by
 obtain⟨fv,tv,ov,X,j,Z,h2,L,Y,G,h6,h7⟩:=h.blk;have r:=h.lt;have Q:a/20<j.length:=o_
 obtain⟨k0,τ,z,p⟩:=G (a/20) Q;obtain⟨v,l,V,W⟩:=p.sv;have c5:=aA (i:=5) Z rfl;rcases L.2 with ⟨C,r2⟩|⟨g,u,aa,C,r2,T,r4,r5⟩
 ·omega
 ·subst C;have k:=PD (es:=j) (by rw[Y];exact L) λi hi=>(G i hi).ok
  obtain⟨_,a0,O,P,H,J,I⟩:=k (a/20) Q;simp only[SV.val,Value.agg.injEq] at l;simp at l;obtain⟨A,K,D,M,B⟩:=l;rw[A] at O;rw[K] at P;rw[D] at H;rw[M] at J;rw[B] at I;have x:Below w.heap.size w (w.alloc (.cells #[I_ 0,bG,bG,bG,I_ 0] 53)):=(eh _ w).alloc cL _;have U:=h.grow x dP λ_ h=>d7 h
  have t:∀c m,c6_ n (a:Int) c m->m=decide (a%20=0)/\c=if a%20=0 then a/20 else a/20+1:=λc m f=>by
   have l1:¬c<a/20:=λq=>by have:=f.hi c o_ cL;omega
   have l2:¬a/20+1<c:=λq=>by have:=f.lo (a/20+1) q;omega
   by_cases d:a%20=0
   ·have l3:¬a/20<c:=λq=>by have:=f.lo (a/20) q;omega
    have:c=a/20:=o_
    subst this;rw[if_pos d];exact⟨by rw[f.fnd.2 ⟨E,o_⟩];simp[d],rfl⟩
   ·have l3:¬c=a/20:=λq=>by have:=f.hi c o_ cL;omega
    rw[if_neg d];refine⟨?_,o_⟩
    cases m with
    |false=>simp[d]
    |true=>have:=(f.fnd.1 rfl).2;omega
  refine(AU w sb g n u (if a%20=0 then a/20 else a/20+1) (a/20) (decide (a%20=0)) a v r (aC T) N c5 O P H J I ?_ E ((tT U a N).mono ?_)).mono ?_
  ·by_cases d:a%20=0
   ·exact d7 ⟨by simp[d],if_pos d⟩
   ·exact d6 ⟨by simp[d],if_neg d⟩
  ·rintro e w' ⟨c,m,rfl,o,f⟩;obtain⟨rfl,rfl⟩:=t _ _ f;refine⟨rfl,?_⟩;rw[World.size_alloc] at o;exact o
  ·rintro e w' ⟨rfl,o⟩;refine⟨v,τ,rfl,z,?_,o⟩
   have S:v.val=.agg #[I_ j[a/20].a,j[a/20].b,j[a/20].c,j[a/20].d,I_ j[a/20].e]:=by
    rw[A,K,D,M,B];rfl
   rw[S];exact p.keep (λb y=>o.block b (h.fix b y).1) λ_ h=>h
end
section
variable {fp:eK} {F G:bY} {w w':aG} {sb mb n n':Nat} {mo:Obj} {ks:List aE} {tape:List Int} {s:aW} {L:List Nat}
def Live.fresh(h:Live fp F w sb mb mo ks tape s n L)(a:Live fp F w' sb mb mo ks tape s n L)(f:w'.heap[sb]?=w.heap[sb]?){b:Nat}(k:w.heap.size<=b)(c:b<w'.heap.size):Live fp F w' sb mb mo ks tape s n (b::L):=by
 refine⟨a.ses,a.tab,a.pow,a.low,a.hn,λx d=>?_⟩
 rcases eo.1 d with rfl|d
 ·have j:=h.ses.lt;have i:=h.low;refine⟨o_,c,λg=>by have:=(h.ses.fix _ g).1;omega,λe=>?_,o_,by have:=aC h.ses.map.1;omega⟩
  rw[nL f] at e;have:=(h.row e).2.1;omega
 ·exact a.loc x d
def Live.freshL(h:Live fp F w sb mb mo ks tape s n L)(e:Live fp F w' sb mb mo ks tape s n L)(f:w'.heap[sb]?=w.heap[sb]?):∀(M:List Nat),(∀b∈M,w.heap.size<=b/\b<w'.heap.size)->Live fp F w' sb mb mo ks tape s n (M++L)
 |[],_=>e
 |b::M,d=>by
  have a:=Live.freshL h e f M λx c=>d x (fe _ c)
  have g:=h.fresh e f (d b (fw ..)).1 (d b (fw ..)).2
  exact⟨a.ses,a.tab,a.pow,a.low,a.hn,λx c=>by
   rcases eo.1 c with rfl|c
   ·exact g.loc x (fw ..)
   ·exact a.loc x c⟩
def rR(y:Option Addr)(k d:Nat):List Nat:=(Value.ownBlock (.slice y k d)).toList
structure cx_(fp:eK)(sb mb:Nat)(mo:Obj)(ks:List aE)(tape:List Int)(s:aW)(L:List Nat)(w:aG)(F0:bY)(n0 t0:Nat)(F:bY)(n:Nat)(vs:List SV)(y:Option Addr)(d:Nat)(W:aG):Prop where
 fs:FS sb w W
 ext:Ext F0 F w.heap.size
 le:n0<=n
 own:W.ownsRow w.heap.size 53 5 (.slice y vs.length d) vs.length (uR vs)
 live:Live fp F W sb mb mo ks tape s n (rR y vs.length d++L)
 all:∀i (h:i<vs.length),∃τ,bT ks tape (t0+i)=some τ/\jC fp F W vs[i].val τ
structure StI(fp:eK)(sb mb:Nat)(mo:Obj)(ks:List aE)(tape:List Int)(s:aW)(L:List Nat)(w:aG)(F0:bY)(n0 t0 end_ K0:Nat)(gk b:Nat)(vs:List SV)(y:Option Addr)(d:Nat)(v:SV)(ok:Bool)(W:aG):Prop where
 ok:ok=true
 gk:gk+vs.length=K0
 le:t0+vs.length<=end_
 blk:W.heap[b]?=some (.cells v.cells 53 (0,0))
 hb:w.heap.size<=b/\b∉rR y vs.length d
 now:∃F n τ,cx_ fp sb mb mo ks tape s (b::L) w F0 n0 t0 F n vs y d W/\bT ks tape (t0+vs.length)=some τ/\jC fp F W v.val τ/\τ.m_/20<n
def RD(Y:Good ks)(ap:tape.length<=17592186044416)(h:Live fp F w sb mb mo ks tape s n L)(a:Nat)(h0:0<a)(h1:a<=s.m_)(hn:n<=1000):
 Calls prog 67 #[aZ sb,I_ a] w λe w'=>∃l y d,e=aX (.slice y l.length d)/\20*((a-1)/20)+l.length=a/\∃E n',cx_ fp sb mb mo ks tape s L w F n (20*((a-1)/20)) E n' l y d w':=by
 have al:=(Y.sta h.ses.now).1.m_;have ac:=h.ses.now;have bb:=h.hn;have I:=h.ses.lt;refine(NM w sb a (a+1-20*((a-1)/20)) w.heap.size (StI fp sb mb mo ks tape s L w F n (20*((a-1)/20)) a (a+1-20*((a-1)/20))) (λl y d W=>20*((a-1)/20)+l.length=a/\∃E n',cx_ fp sb mb mo ks tape s L w F n (20*((a-1)/20)) E n' l y d W) h0 o_ ((YZ h.ses (a-1) o_ hn).mono ?_) (λgk b l y d v ok W r=>?_) (λgk b l y d v W r hv=>?_) (λgk b l y d v W r hv=>?_) (λgk b l y d v W r=>?_)).mono ?_
 ·rintro e w1 ⟨v,A,rfl,o,u,hb⟩;have ab:Live fp F w1 sb mb mo ks tape s n L:=h.but (But.below hb []) nY;have K:Below w.heap.size w (w1.alloc (.cells v.cells 53)):=hb.alloc hb.size _;refine⟨v,rfl,rfl,s_,t_,aN _ _ rfl _,⟨hb.size,by simp[rR,Value.ownBlock]⟩,F,n,A,⟨FS.of_below K I,Ext.refl _ _,cL,World.ownsRow_nil _ _ _ _,by simpa [rR,Value.ownBlock] using ab.alloc _,λi X=>by simp at X⟩,by simpa using o,u.but ab (But.alloc _ _ []) nY,?_⟩
  have:=(Y.sta o).2.1;omega
 ·obtain⟨E,n',A,j,_⟩:=r.now;have:=r.le;exact⟨r.blk,j.own,o_,j.fs.size⟩
 ·obtain⟨E,n',A,j,o,u,O⟩:=r.now
  have ao:v.t=20*((a-1)/20)+l.length:=by
   obtain⟨s2,e1,e2,_⟩:=u.sv;obtain rfl:=SV.val_inj e1;rw[e2];exact(Y.sta o).2.1
  have ah:=(Y.sta o).2.1;have bd:=r.gk;obtain⟨K,ad⟩:=r.hb;refine⟨gk-1,o_,λV aw H B f C=>?_⟩
  have au:=aC r.blk;have ay:((W.alloc (.cells v.cells 53)).alloc (.cells v.cells 53)).heap.size=W.heap.size+2:=s_
  have az:=((j.live.alloc (.cells v.cells 53)).alloc (.cells v.cells 53)).drop (L':=rR y l.length d++b::L) λx c=>fe _ (fe _ c)
  have aa:But [] W ((W.alloc (.cells v.cells 53)).alloc (.cells v.cells 53)):=(But.alloc W _ []).trans (But.alloc _ _ []);have Z:But (rR y l.length d) ((W.alloc (.cells v.cells 53)).alloc (.cells v.cells 53)) H:=⟨f.os,f.tape,f.output,f.size,λk hk hm=>f.block k hk λe=>hm (by simp[rR,<-e])⟩
  have p:But (rR y l.length d) W H:=by simpa using aa.trans Z
  have J:∀x∈rR y l.length d,x∈rR y l.length d++b::L:=λx c=>fk _ c
  have ag:=j.live.but p J;have ae:H.heap[sb]?=W.heap[sb]?:=p.blk sb j.live.ses.lt λhm=>(j.live.loc sb (J sb hm)).2.2.2.2.1 rfl
  have ar:V<H.heap.size:=by
   rcases B.2 with ⟨r1,_⟩|⟨g,bc,ax,r1,_,r3,_⟩
   ·cases r1
   ·cases r1;exact aC r3
  have q:Live fp E H sb mb mo ks tape s n' (V::b::L):=by
   rcases C with N|N
   ·exact ag.drop λx c=>by
     rcases eo.1 c with rfl|c
     ·exact fk _ (by simp[rR,N])
     ·exact fq _ c
   ·exact(j.live.fresh ag ae o_ ar).drop λx c=>by
     rcases eo.1 c with rfl|c
     ·exact fw ..
     ·exact fe _ (fq _ c)
  have Q:V≠b:=by
   rcases C with N|N
   ·rintro rfl;exact ad (by simp[rR,N])
   ·omega
  have av:w.heap.size<=V:=by
   rcases C with N|N
   ·exact(j.own.lt _ N).1
   ·have:=j.fs.size;omega
  have ai:H.heap[b]?=some (.cells v.cells 53 (0,0)):=by rw[p.blk b au ad];exact r.blk
  have S:jC fp E H v.val A:=u.but j.live p J
  have U:∀i (h:i<l.length),∃A,bT ks tape (20*((a-1)/20)+i)=some A/\jC fp E H l[i].val A:=λi X=>by
   obtain⟨D,q1,q2⟩:=j.all i X;exact⟨D,q1,q2.but j.live p J⟩
  have P:FS sb w H:=j.fs.but p (λx c=>by
   simp only[rR,Option.mem_toList] at c;exact(j.own.lt x c).1) I
  refine⟨ai,(yP Y q ap v A S (by rw[ah];exact o) O).mono ?_⟩
  rintro e w6 ⟨v',ok,rfl,G,m,k1,k2,k3,k4,k5,k6⟩
  have am:ok=true:=by
   cases ok with
   |true=>rfl
   |false=>
    obtain⟨x,aj,ak⟩:=RF ac (t:=20*((a-1)/20)+l.length) o_
    rw[o] at aj;cases aj;exact absurd ak (k6 rfl)
  subst am;obtain⟨_,aq,a1,a2,a3,a4⟩:=k5 rfl;have af:w6.heap[b]?=some (.cells v.cells 53 (0,0)):=by rw[q.blk k3 s_];exact ai
  have an:w6.heap[V]?=H.heap[V]?:=q.blk k3 s_
  have z:But [b] w6 (dW w6 b v'):=But.set5 _ _ _;have M:∀x∈[b],x∈(V::b::L):=λx c=>by rw[ew.1 c];simp
  refine⟨v',true,rfl,⟨_,af,by simp[SV.cells]⟩,rfl,t_,t_,sI af rfl,⟨K,by simp[rR,Value.ownBlock];exact λe=>Q e.symm⟩,G,m,aq,⟨?_,⟨λx c=>k2.sub x (j.ext.sub x c),λx c=>?_⟩,em j.le k1,?_,?_,?_⟩,?_,a3.but k4 z M,a4⟩
  ·exact(P.trans k3).but z (λx c=>by rw[ew.1 c];exact K) I
  ·rcases k2.new x c with c|c
   ·exact j.ext.new x c
   ·exact d6 (by have:=P.size;omega)
  ·have:=aY (w1:=dW w6 b v') B λk hk=>by
    simp[Value.ownBlock] at hk;subst hk;rw[dH _ _ _ _ Q];exact an
   simpa using this
  ·have:=k4.but z M;simpa [rR,Value.ownBlock] using this
  ·intro i X;rcases fu i l.length with T|T
   ·obtain⟨D,q1,q2⟩:=U i T;refine⟨D,q1,?_⟩;rw[jq T];exact(q.stR k3 k2 q2).but k4 z M
   ·obtain rfl:i=l.length:=by simp at X;omega
    refine⟨A,o,?_⟩;simp only[km cL,Nat.sub_self,kn];exact(q.stR k3 k2 S).but k4 z M
  ·rw[show 20*((a-1)/20)+(l++[v]).length=A.m_+1 by simp;omega];exact a1
 ·obtain⟨E,n',A,j,o,u,O⟩:=r.now
  have ao:v.t=20*((a-1)/20)+l.length:=by
   obtain⟨s2,e1,e2,_⟩:=u.sv;obtain rfl:=SV.val_inj e1;rw[e2];exact(Y.sta o).2.1
  have ba:=r.le;have p:But [] W (W.alloc (.cells v.cells 53)):=But.alloc W _ [];refine⟨o_,E,n',j.fs.but p nY I,j.ext,j.le,j.own.alloc _,(j.live.alloc _).drop λx c=>?_,λi X=>?_⟩
  ·rcases eu.1 c with c|c
   ·exact fe _ (fk _ c)
   ·exact fe _ (fq _ (fe _ c))
  ·obtain⟨D,q1,q2⟩:=j.all i X;exact⟨D,q1,q2.but j.live p nY⟩
 ·have:=r.ok;cases this
 ·rintro e w' ⟨l,y,d,rfl,h1,h2⟩;exact⟨l,y,d,rfl,h1,h2⟩
end
attribute [local go_sem] Oper.semAt_some
def QA(x:Option Addr)(n c:Nat)(W:aG):Calls prog 68 #[.slice x n c] W λe b=>e=aX (.func (.func 100) #[] #[aZ W.heap.size])/\b=W.alloc (.cells #[.slice x n c] 121):=by
 have d:∀(a:aQ) (w:aG),(Instr.makeFunc (.func 100) #[] #[a]).run prog w=.ok (.func (.func 100) #[] #[a]) w:=λ_ _=>rfl
 go_in
 go_wp2
 go_ret;exact⟨rfl,rfl⟩
def cX_(args:Array Value)(W:aG):(callFunc 100 args).run prog W=.ok (.enter 100 args) W:=(enters_of func100 k_ rfl) args W
def MG:∀(l:List SV) (i j:Nat) (v:SV),l[i]?=some v->j<5->(uR l)[i*5+j]?=([I_ v.t,.slice v.x1 v.n1 v.c1,.slice v.x2 v.n2 v.c2,.slice v.x3 v.n3 v.c3,I_ v.q]:List Value)[j]?
 |[],_,_,_,h,_=>by simp at h
 |x::l,0,j,v,h,a=>by
  simp at h;subst h;simp only[uR,kc,Nat.zero_mul,ge];rw[hQ t_]
 |x::l,i+1,j,v,h,a=>by
  have:=MG l i j v (by simpa using h) a
  rw[<-this];simp only[uR,kc];rw[gl t_]
  congr 1
  simp;omega
def bwd(s:aW)(k:Nat)(fd:Bool):Prop:=k<=s.m_/\(fd=true↔k<s.m_)
section
variable {C:MCtx} {M:List Nat} {t:List Nat × World} {s':SV} {W:aG}
end
def aU_(args:Array Value)(W:aG):(callFunc 66 args).run prog W=.ok (.enter 66 args) W:=(enters_of func66 k_ rfl) args W
section
variable {fp:eK} {F:bY} {w:aG} {sb mb n:Nat} {mo:Obj} {ks:List aE} {tape:List Int} {s:aW} {L:List Nat}
def pF(sb:Nat)(W:aG):Calls prog 38 #[aZ sb] W λe b=>e=aX (.func (.func 66) #[] #[aZ W.heap.size])/\b=W.alloc (.cells #[aZ sb] 24):=by
 have c:∀(a:aQ) (w:aG),(Instr.makeFunc (.func 66) #[] #[a]).run prog w=.ok (.func (.func 66) #[] #[a]) w:=λ_ _=>rfl
 go_in
 go_wp2
 go_ret;exact⟨rfl,rfl⟩
def Y8(sb:Nat)(w:aG)(P:Bool->World->Prop)
 (a:Hid (Calls prog 35 #[aZ sb,.func (.func 66) #[] #[aZ w.heap.size],.func (.func 37) #[] #[]] (w.alloc (.cells #[aZ sb] 24)) λe w'=>∃b,e=aX (.bool b)/\P b w')):
 Calls prog 14 #[aZ sb] w λe w'=>∃b,e=aX (.bool b)/\P b w':=by
 have d:=aB (pF sb w);go_in
 go_wp2_with fail;refine d.mono ?_;rintro e g ⟨rfl,rfl⟩;clear d;go_wp2_with fail;refine a.mono ?_;rintro e h ⟨b,rfl,c⟩;have f:=aB c;clear c a;go_wp2
 go_ret;exact⟨b,rfl,f⟩
end
end Go.Proofs.YtlflgmdcghfngaaGreatDoor
