/- Contracts of the program: the latest state that is kept. -/
import Derived.Test.YthbffcmfmjpncaaGreatDoorP17
set_option linter.defProp false
set_option maxRecDepth 100000
set_option maxHeartbeats 4000000
namespace Go.Proofs.YthbffcmfmjpncaaGreatDoor
open Hs
open _root_.Go.Proofs.Tryz
open Go.RowKit
def QM(w:World)(sb g n F k j:Nat)(C:Bool)(u:Int)(a:SV)(G:sb<w.heap.size)(q:g<w.heap.size)(hn:n<=1000)
 (x:w.cell? ⟨sb,5,none⟩=some (.slice (some ⟨g,0,none⟩) n F))
 (z:w.cell? ⟨g,j*6+1,none⟩=some (.int .i64 a.t)) (t:w.cell? ⟨g,j*6+2,none⟩=some (.slice a.x1 a.n1 a.c1)) (A:w.cell? ⟨g,j*6+3,none⟩=some (.slice a.x2 a.n2 a.c2)) (B:w.cell? ⟨g,j*6+4,none⟩=some (.slice a.x3 a.n3 a.c3)) (p:w.cell? ⟨g,j*6+5,none⟩=some (.int .i64 a.q))
 (hj:(C=true/\k=j)\/(C=false/\k=j+1)) (aa:j<n)
 (O:Hid (Calls prog 106 #[.pointer (some ⟨sb,5,none⟩),.int .i64 u] (w.alloc (.cells #[.int .i64 0,.slice none 0 0,.slice none 0 0,.slice none 0 0,.int .i64 0] 72)) λe w'=>e=.returned (.tuple #[.int .i64 k,.bool C])/\Below (w.heap.size+1) (w.alloc (.cells #[.int .i64 0,.slice none 0 0,.slice none 0 0,.slice none 0 0,.int .i64 0] 72)) w')):
 Calls prog 100 #[.pointer (some ⟨sb,5,none⟩),.int .i64 u] w λe w'=>e=.returned (.tuple #[a.val,.bool true])/\Below w.heap.size w w':=by
 have Y:=aB (fh x (fh z (fh t (fh A (fh B p)))));clear x z t A B p;go_enter func100,ntmps100;go_wp2_with fail;refine O.out.mono ?_;rintro e o ⟨rfl,E⟩;have m:Below w.heap.size w o:=((ei w.heap.size w).alloc (eh _) _).trans (E.mono o_)
 have c:o.heap[w.heap.size]?=some (.cells #[.int .i64 0,.slice none 0 0,.slice none 0 0,.slice none 0 0,.int .i64 0] 72 (0,0)):=(E.block _ o_).trans (aL _ _ rfl _)
 obtain⟨x,z,t,A,B,p⟩:=Y.out;have l:∀(b i:Nat) (v:Value),b<w.heap.size->w.cell? ⟨b,i,none⟩=some v->o.cell? ⟨b,i,none⟩=some v:=λb i v D hv=>(World.cell?_of_block (m.block b D)).trans hv
 have Z:=l _ _ _ G x;have V:=l _ _ _ q z;have M:=l _ _ _ q t;have N:=l _ _ _ q A;have d4:=l _ _ _ q B;have X:=l _ _ _ q p;have z0:=aA (i:=0) c rfl;have U:=aA (i:=1) c rfl;have Q:=aA (i:=2) c rfl;have z3:=aA (i:=3) c rfl;have S:=aA (i:=4) c rfl;have P:=aE (i:=0) c;have T:=aE (i:=1) c;have f2:=aE (i:=2) c;have f3:=aE (i:=3) c;have f4:=aE (i:=4) c;have lz:=aD c;have y:=aB (nA (W:=o) (s:=a) c s_ rfl)
 have r:=aB (lX a m (eh _));unfold dS at y r;have q1:(0:Int)<=(j:Int):=o_
 have q2:(j:Int)<(n:Int):=o_
 clear E m c l Y x z t A B p O;rcases hj with ⟨rfl,rfl⟩|⟨rfl,rfl⟩
 ·go_wp2_with fail;have f:=y.out;have d:=r.out;clear y r z0 U Q z3 S P T f2 f3 f4 V M N d4 Z X;generalize ((((o.setCell ⟨w.heap.size,0,none⟩ (.int .i64 a.t)).setCell ⟨w.heap.size,1,none⟩ (.slice a.x1 a.n1 a.c1)).setCell ⟨w.heap.size,2,none⟩ (.slice a.x2 a.n2 a.c2)).setCell ⟨w.heap.size,3,none⟩ (.slice a.x3 a.n3 a.c3)).setCell ⟨w.heap.size,4,none⟩ (.int .i64 a.q)=W3 at f d ⊢
  obtain⟨H,I,J,K,L⟩:=f;exact bodyPost_ret (v:=.tuple #[a.val,.bool true]) (by simp[results,results100,go_sem,H,I,J,K,L,SV.val]) rfl ⟨rfl,d⟩
 ·have q3:(((j+1:Nat):Int)==0)=false:=t_
  go_wp2_with fail;have f:=y.out;have d:=r.out;clear y r z0 U Q z3 S P T f2 f3 f4 V M N d4 Z X;generalize ((((o.setCell ⟨w.heap.size,0,none⟩ (.int .i64 a.t)).setCell ⟨w.heap.size,1,none⟩ (.slice a.x1 a.n1 a.c1)).setCell ⟨w.heap.size,2,none⟩ (.slice a.x2 a.n2 a.c2)).setCell ⟨w.heap.size,3,none⟩ (.slice a.x3 a.n3 a.c3)).setCell ⟨w.heap.size,4,none⟩ (.int .i64 a.q)=W3 at f d ⊢
  obtain⟨H,I,J,K,L⟩:=f;exact bodyPost_ret (v:=.tuple #[a.val,.bool true]) (by simp[results,results100,go_sem,H,I,J,K,L,SV.val]) rfl ⟨rfl,d⟩
def m7:(prog.info? 72).map (λi=>(i.zero,i.size,i.bytes))=some (some (.agg #[.int .i64 0,.slice none 0 0,.slice none 0 0,.slice none 0 0,.int .i64 0]),5,88):=k_
def Q0(w:World)(b c d e a:Value):∀j u,([b,c,d,e,a]:List Value)[j]?=some u->(w.alloc (.cells #[b,c,d,e,a] 72)).cell? ((⟨w.heap.size,0,none⟩:Addr).add j)=some u:=by
 intro j u f;exact World.news_of_block (cs:= #[b,c,d,e,a]) (aL _ _ rfl _) j u f
def Z9(v:SV):∀u∈([.int .i64 v.t,.slice v.x1 v.n1 v.c1,.slice v.x2 v.n2 v.c2,.slice v.x3 v.n3 v.c3,.int .i64 v.q]:List Value),u.oneCell'=true:=by
 intro u a;simp at a;rcases a with rfl|rfl|rfl|rfl|rfl<;>rfl
def tE(l:List SV):List Value:=l.flatMap λv=>[.int .i64 v.t,.slice v.x1 v.n1 v.c1,.slice v.x2 v.n2 v.c2,.slice v.x3 v.n3 v.c3,.int .i64 v.q]
def WH(l:List SV)(v:SV):tE (l++[v])=tE l++[.int .i64 v.t,.slice v.x1 v.n1 v.c1,.slice v.x2 v.n2 v.c2,.slice v.x3 v.n3 v.c3,.int .i64 v.q]:=by simp[tE]
def KY(w:World)(sb a K0 b_:Nat)(I:Nat->Nat->List SV->Option Addr->Nat->SV->Bool->World->Prop)(R:List SV->Option Addr->Nat->World->Prop)(ad:0<a)(Y:a<=1000)
 (HL:Hid (Calls prog 100 #[.pointer (some ⟨sb,5,none⟩),.int .i64 ((a-1:Nat):Int)] w λe w'=>∃v,e=.returned (.tuple #[SV.val v,.bool true])/\I K0 w'.heap.size [] none 0 v true (w'.alloc (.cells v.cells 72))))
 (T:Hid (∀gk b f y d v ok W,I gk b f y d v ok W->W.heap[b]?=some (.cells v.cells 72 (0,0))/\W.ownsRow b_ 72 5 (.slice y f.length d) f.length (tE f)/\f.length<=1000/\b_<=W.heap.size))
 (U:Hid (∀gk b f y d v W,I gk b f y d v true W->v.t<a->∃j,gk=j+1/\∀H m (K:World),K.ownsRow b_ 72 5 (.slice (some ⟨H,0,none⟩) (f.length+1) m) (f.length+1) (tE (f++[v]))->((W.alloc (.cells v.cells 72)).alloc (.cells v.cells 72)).grownBy K (Value.ownBlock (.slice y f.length d))->(Value.ownBlock (.slice y f.length d)=some H\/H=W.heap.size+2)->
   K.heap[b]?=some (.cells v.cells 72 (0,0))/\Calls prog 60 #[.pointer (some ⟨sb,0,none⟩),v.val] K λe w'=>∃O ok,e=.returned (.tuple #[SV.val O,.bool ok])/\(∃c,w'.heap[b]?=some (.cells c 72 (0,0))/\c.size=5)/\I j b (f++[v]) (some ⟨H,0,none⟩) m O ok (dS w' b O)))
 (X:Hid (∀gk b f y d v W,I gk b f y d v true W->¬v.t<a->R f y d (W.alloc (.cells v.cells 72)))) (q:Hid (∀gk b f y d v W,I gk b f y d v false W->R f y d W)):
 Calls prog 63 #[.pointer (some ⟨sb,0,none⟩),.int .i64 a] w λe w'=>∃f y d,e=.returned (.slice y f.length d)/\R f y d w':=by
 obtain⟨i0,hi,aa,ac,ab⟩:=info_parts m7;have e0:((a:Nat):Int)-1=((a-1:Nat):Int):=o_
 go_enter func63,ntmps63;go_wp2_with fail;refine HL.out.mono ?_;rintro e w1 ⟨v0,rfl,h1⟩;have H1:=aB h1;unfold SV.cells at H1;unfold SV.val;clear h1 HL;go_wp2_with fail;go_loopg [5,7] K0 (λgk s5 s7 wr=>∃f y d v ok,s5=.slice y f.length d/\s7=.bool ok/\I gk w1.heap.size f y d v ok wr)
 case atStart=>exact⟨[],_,_,_,_,rfl,rfl,H1.out⟩
 case round=>
  obtain⟨f,y,d,v,ok,rfl,rfl,Q⟩:=hrel;cases ok
  ·have V:=aB (q.out _ _ _ _ _ _ _ Q);clear Q T U X q;go_wp2_with fail;go_ret;exact⟨f,y,d,rfl,V.out⟩
  ·obtain⟨g,x,ah,af⟩:=T.out _ _ _ _ _ _ _ _ Q;unfold SV.cells at g;have D:=aA (i:=0) g rfl;have F:=aA (i:=1) g rfl;have C:=aA (i:=2) g rfl;have E:=aA (i:=3) g rfl;have G:=aA (i:=4) g rfl;have Z:=aD g;have HT:=aB (oL v.t v.q v.x1 v.x2 v.x3 v.n1 v.n2 v.n3 v.c1 v.c2 v.c3 wr);have HO:=aB x;have r:=aB Q;clear x Q;go_wp2_with fail;refine HT.out.mono ?_;rintro e J ⟨rfl,rfl⟩;clear HT;by_cases hv:v.t<a
   ·obtain⟨j,rfl,hN⟩:=U.out _ _ _ _ _ _ _ r.out hv;have e1:(v.t:Int)<(a:Int):=o_
    have s:=aB hN;unfold SV.cells at s;have A:(wr.alloc (.cells #[.int .i64 v.t,.slice v.x1 v.n1 v.c1,.slice v.x2 v.n2 v.c2,.slice v.x3 v.n3 v.c3,.int .i64 v.q] 72)).ownsRow b_ 72 5 (.slice y f.length d) f.length (tE f):=HO.out.alloc _;generalize z:wr.alloc (.cells #[.int .i64 v.t,.slice v.x1 v.n1 v.c1,.slice v.x2 v.n2 v.c2,.slice v.x3 v.n3 v.c3,.int .i64 v.q] 72)=J at A s ⊢
    have t:J.heap.size=wr.heap.size+1:=by rw[<-z];simp
    have k:J.heap[w1.heap.size]?=some (.cells #[.int .i64 v.t,.slice v.x1 v.n1 v.c1,.slice v.x2 v.n2 v.c2,.slice v.x3 v.n3 v.c3,.int .i64 v.q] 72 (0,0)):=by rw[<-z,en _ _ _ Z];exact g
    have D:=aA (i:=0) k rfl;have F:=aA (i:=1) k rfl;have C:=aA (i:=2) k rfl;have E:=aA (i:=3) k rfl;have G:=aA (i:=4) k rfl;have S:=aD k;have M:=aB A;have L:=aB t;clear A g k z t HO r T U X q;go_wp2_with (at_builtin;refine wpList_append_lies _ r_ _ _ 124 r_ b_ 72 i0 _ 5 88 underlying124 hi aa ac ab rfl d_ (.slice y f.length d) f.length _ r_ (M.out.alloc _) ⟨J.heap.size,0,none⟩ 1 1 [.int .i64 v.t,.slice v.x1 v.n1 v.c1,.slice v.x2 v.n2 v.c2,.slice v.x3 v.n3 v.c3,.int .i64 v.q] r_ r_ (Q0 J _ _ _ _ _) (Z9 v) d_ (by unfold maxLen;omega) o_ (by simp;have:=L.out;omega) (J.heap.size+1) s_ ?_)
    intro H m K p n u ai;obtain⟨l,P⟩:=s.out H m K (by rw[WH];exact p) n (by have:=L.out;rcases u with h|h;exact d7 h;exact d6 o_)
    clear p n u s M D F C E G S;have D:=aA (i:=0) l rfl;have F:=aA (i:=1) l rfl;have C:=aA (i:=2) l rfl;have E:=aA (i:=3) l rfl;have G:=aA (i:=4) l rfl;have N:=aD l;have B:=aB P;unfold SV.val at B;clear l P;go_wp2_with fail;refine B.out.mono ?_;rintro e w6 ⟨O,ok,rfl,⟨c,o,ag⟩,h6⟩;have H6:=aB h6;unfold dS at H6;clear B D F C E G N h6;have D:=aA (i:=0) o (e7 o_)
    have F:=aA (i:=1) o (e7 o_)
    have C:=aA (i:=2) o (e7 o_)
    have E:=aA (i:=3) o (e7 o_)
    have G:=aA (i:=4) o (e7 o_)
    have f0:=aE (i:=0) o;have f1:=aE (i:=1) o;have f2:=aE (i:=2) o;have f3:=aE (i:=3) o;have f4:=aE (i:=4) o;have ae:=aD o;clear o;go_wp2_with fail;go_roundg j
    case measure=>omega
    case rel=>exact⟨f++[v],_,_,O,ok,s_,rfl,H6.out⟩
   ·have e1:¬(v.t:Int)<(a:Int):=o_
    have V:=aB (X.out _ _ _ _ _ _ _ r.out hv);unfold SV.cells at V;clear T U X q HO r g D F C E G;go_wp2_with fail;go_ret;exact⟨f,y,d,rfl,V.out⟩
section
variable {fp:Nat->Value} {F:Nat->Prop} {w w':World} {sb mb n:Nat} {mo:Obj} {st:Nat->Option bI} {s:bI}
def VV(h:kC fp F w sb mb mo st s n)(a:Nat)(E:a/20<n)(N:n<=1000):
 Calls prog 100 #[.pointer (some ⟨sb,5,none⟩),.int .i64 a] w λe w'=>∃(v:SV) (τ:bI),e=.returned (.tuple #[v.val,.bool true])/\st (20*(a/20))=some τ/\kY fp F w' v.val τ/\Below w.heap.size w w':=by
 obtain⟨fv,tv,ov,X,j,Z,h2,L,Y,G,h6,h7⟩:=h.blk;have r:=h.lt;have Q:a/20<j.length:=o_
 obtain⟨k0,τ,z,p⟩:=G (a/20) Q;obtain⟨v,l,V,W⟩:=p.sv;have c5:w.cell? ⟨sb,5,none⟩=some X:=aA Z rfl;rcases L.2 with ⟨C,r2⟩|⟨g,u,aa,C,r2,T,r4,r5⟩
 ·omega
 ·subst C;have k:=YM (es:=j) (by rw[Y];exact L) λi hi=>(G i hi).ok
  obtain⟨_,a0,O,P,H,J,I⟩:=k (a/20) Q;simp only[SV.val,Value.agg.injEq] at l;simp at l;obtain⟨A,K,D,M,B⟩:=l;rw[A] at O;rw[K] at P;rw[D] at H;rw[M] at J;rw[B] at I;have x:Below w.heap.size w (w.alloc (.cells #[.int .i64 0,.slice none 0 0,.slice none 0 0,.slice none 0 0,.int .i64 0] 72)):=(ei _ w).alloc (eh _) _;have U:=h.grow x (λ_ h=>h) λ_ h=>d7 h
  have t:∀c m,aV_ n (a:Int) c m->m=decide (a%20=0)/\c=if a%20=0 then a/20 else a/20+1:=λc m f=>by
   have l1:¬c<a/20:=λq=>by have:=f.hi c o_ (eh _);omega
   have l2:¬a/20+1<c:=λq=>by have:=f.lo (a/20+1) q;omega
   by_cases d:a%20=0
   ·have l3:¬a/20<c:=λq=>by have:=f.lo (a/20) q;omega
    have:c=a/20:=o_
    subst this;rw[if_pos d];exact⟨by rw[f.fnd.2 ⟨E,o_⟩];simp[d],rfl⟩
   ·have l3:¬c=a/20:=λq=>by have:=f.hi c o_ (eh _);omega
    rw[if_neg d];refine⟨?_,o_⟩
    cases m with
    |false=>simp[d]
    |true=>have:=(f.fnd.1 rfl).2;omega
  refine(QM w sb g n u (if a%20=0 then a/20 else a/20+1) (a/20) (decide (a%20=0)) a v r (aD T) N c5 O P H J I ?_ E ((wV U a N).mono ?_)).mono ?_
  ·by_cases d:a%20=0
   ·exact d7 ⟨by simp[d],if_pos d⟩
   ·exact d6 ⟨by simp[d],if_neg d⟩
  ·rintro e w' ⟨c,m,rfl,o,f⟩;obtain⟨rfl,rfl⟩:=t _ _ f;refine⟨rfl,?_⟩;rw[World.size_alloc] at o;exact o
  ·rintro e w' ⟨rfl,o⟩;refine⟨v,τ,rfl,z,?_,o⟩
   have S:v.val=.agg #[.int .i64 j[a/20].a,j[a/20].b,j[a/20].c,j[a/20].d,.int .i64 j[a/20].e]:=by
    rw[A,K,D,M,B];rfl
   rw[S];exact p.keep (λb y=>o.block b (h.fix b y).1) λ_ h=>h
end
section
variable {fp:Nat->Value} {F G:Nat->Prop} {w w':World} {sb mb n n':Nat} {mo:Obj} {ks:List aC} {tape:List Int} {s:bI} {L:List Nat}
def Live.fresh(h:Live fp F w sb mb mo ks tape s n L)(a:Live fp F w' sb mb mo ks tape s n L)(f:w'.heap[sb]?=w.heap[sb]?){b:Nat}(k:w.heap.size<=b)(c:b<w'.heap.size):Live fp F w' sb mb mo ks tape s n (b::L):=by
 refine⟨a.ses,a.tab,a.pow,a.low,a.hn,λx d=>?_⟩
 rcases ep.1 d with rfl|d
 ·have j:=h.ses.lt;have i:=h.low;refine⟨o_,c,λg=>by have:=(h.ses.fix _ g).1;omega,λe=>?_,o_,by have:=aD h.ses.map.1;omega⟩
  rw[nV f] at e;have:=(h.row e).2.1;omega
 ·exact a.loc x d
def sX(y:Option Addr)(k d:Nat):List Nat:=(Value.ownBlock (.slice y k d)).toList
structure ab_(fp:Nat->Value)(sb mb:Nat)(mo:Obj)(ks:List aC)(tape:List Int)(s:bI)(L:List Nat)(w:World)(F0:Nat->Prop)(n0 t0:Nat)(F:Nat->Prop)(n:Nat)(vs:List SV)(y:Option Addr)(d:Nat)(W:World):Prop where
 fs:Fz sb w W
 ext:Ext F0 F w.heap.size
 le:n0<=n
 own:W.ownsRow w.heap.size 72 5 (.slice y vs.length d) vs.length (tE vs)
 live:Live fp F W sb mb mo ks tape s n (sX y vs.length d++L)
 all:∀i (h:i<vs.length),∃τ,cG ks tape (t0+i)=some τ/\kY fp F W vs[i].val τ
structure StI(fp:Nat->Value)(sb mb:Nat)(mo:Obj)(ks:List aC)(tape:List Int)(s:bI)(L:List Nat)(w:World)(F0:Nat->Prop)(n0 t0 end_ K0:Nat)(gk b:Nat)(vs:List SV)(y:Option Addr)(d:Nat)(v:SV)(ok:Bool)(W:World):Prop where
 ok:ok=true
 gk:gk+vs.length=K0
 le:t0+vs.length<=end_
 blk:W.heap[b]?=some (.cells v.cells 72 (0,0))
 hb:w.heap.size<=b/\b∉sX y vs.length d
 now:∃F n τ,ab_ fp sb mb mo ks tape s (b::L) w F0 n0 t0 F n vs y d W/\cG ks tape (t0+vs.length)=some τ/\kY fp F W v.val τ/\τ.m_/20<n
def OL(Z:Good ks)(aq:tape.length<=17592186044416)(h:Live fp F w sb mb mo ks tape s n L)(a:Nat)(h0:0<a)(h1:a<=s.m_)(hn:n<=1000):
 Calls prog 63 #[.pointer (some ⟨sb,0,none⟩),.int .i64 a] w λe w'=>∃l y d,e=.returned (.slice y l.length d)/\20*((a-1)/20)+l.length=a/\∃H n',ab_ fp sb mb mo ks tape s L w F n (20*((a-1)/20)) H n' l y d w':=by
 have am:=(Z.sta h.ses.now).1.m_;have ad:=h.ses.now;have bc:=h.hn;have J:=h.ses.lt;refine(KY w sb a (a+1-20*((a-1)/20)) w.heap.size (StI fp sb mb mo ks tape s L w F n (20*((a-1)/20)) a (a+1-20*((a-1)/20))) (λl y d W=>20*((a-1)/20)+l.length=a/\∃H n',ab_ fp sb mb mo ks tape s L w F n (20*((a-1)/20)) H n' l y d W) h0 o_ ((VV h.ses (a-1) o_ hn).mono ?_) (λgk b l y d v ok W r=>?_) (λgk b l y d v W r hv=>?_) (λgk b l y d v W r hv=>?_) (λgk b l y d v W r=>?_)).mono ?_
 ·rintro e w1 ⟨v,B,rfl,o,u,z⟩;have ac:Live fp F w1 sb mb mo ks tape s n L:=h.but (But.below z []) λb z=>by cases z
  have M:Below w.heap.size w (w1.alloc (.cells v.cells 72)):=z.alloc z.size _;refine⟨v,rfl,rfl,s_,t_,aL _ _ rfl _,⟨z.size,by simp[sX,Value.ownBlock]⟩,F,n,B,⟨Fz.of_below M J,Ext.refl _ _,eh _,World.ownsRow_nil _ _ _ _,by simpa [sX,Value.ownBlock] using ac.alloc _,λi Y=>by simp at Y⟩,by simpa using o,u.but ac (But.alloc _ _ []) (λb z=>by cases z),?_⟩
  have:=(Z.sta o).2.1;omega
 ·obtain⟨H,n',B,j,_⟩:=r.now;have:=r.le;exact⟨r.blk,j.own,o_,j.fs.size⟩
 ·obtain⟨H,n',B,j,o,u,P⟩:=r.now
  have ap:v.t=20*((a-1)/20)+l.length:=by
   obtain⟨s2,e1,e2,_⟩:=u.sv;obtain rfl:=SV.val_inj e1;rw[e2];exact(Z.sta o).2.1
  have ai:=(Z.sta o).2.1;have be:=r.gk;obtain⟨M,ae⟩:=r.hb;refine⟨gk-1,o_,λX ax I C f D=>?_⟩
  have av:=aD r.blk;have az:((W.alloc (.cells v.cells 72)).alloc (.cells v.cells 72)).heap.size=W.heap.size+2:=s_
  have ba:=((j.live.alloc (.cells v.cells 72)).alloc (.cells v.cells 72)).drop (L':=sX y l.length d++b::L) λx c=>fg _ (fg _ c)
  have ab:But [] W ((W.alloc (.cells v.cells 72)).alloc (.cells v.cells 72)):=(But.alloc W _ []).trans (But.alloc _ _ []);have aa:But (sX y l.length d) ((W.alloc (.cells v.cells 72)).alloc (.cells v.cells 72)) I:=⟨f.os,f.tape,f.output,f.size,λk hk hm=>f.block k hk λe=>hm (by simp[sX,<-e])⟩
  have p:But (sX y l.length d) W I:=by simpa using ab.trans aa
  have K:∀x∈sX y l.length d,x∈sX y l.length d++b::L:=λx c=>fw _ c
  have ah:=j.live.but p K;have af:I.heap[sb]?=W.heap[sb]?:=p.blk sb j.live.ses.lt λhm=>(j.live.loc sb (K sb hm)).2.2.2.2.1 rfl
  have au:X<I.heap.size:=by
   rcases C.2 with ⟨r1,_⟩|⟨g,bd,ay,r1,_,r3,_⟩
   ·cases r1
   ·cases r1;exact aD r3
  have q:Live fp H I sb mb mo ks tape s n' (X::b::L):=by
   rcases D with O|O
   ·exact ah.drop λx c=>by
     rcases ep.1 c with rfl|c
     ·exact fw _ (by simp[sX,O])
     ·exact fq _ c
   ·exact(j.live.fresh ah af o_ au).drop λx c=>by
     rcases ep.1 c with rfl|c
     ·exact ft ..
     ·exact fg _ (fq _ c)
  have S:X≠b:=by
   rcases D with O|O
   ·rintro rfl;exact ae (by simp[sX,O])
   ·omega
  have aw:w.heap.size<=X:=by
   rcases D with O|O
   ·exact(j.own.lt _ O).1
   ·have:=j.fs.size;omega
  have aj:I.heap[b]?=some (.cells v.cells 72 (0,0)):=by rw[p.blk b av ae];exact r.blk
  have T:kY fp H I v.val B:=u.but j.live p K
  have V:∀i (h:i<l.length),∃B,cG ks tape (20*((a-1)/20)+i)=some B/\kY fp H I l[i].val B:=λi Y=>by
   obtain⟨E,q1,q2⟩:=j.all i Y;exact⟨E,q1,q2.but j.live p K⟩
  have Q:Fz sb w I:=j.fs.but p (λx c=>by
   simp only[sX,Option.mem_toList] at c;exact(j.own.lt x c).1) J
  refine⟨aj,(IW Z q aq v B T (by rw[ai];exact o) P).mono ?_⟩
  rintro e w6 ⟨v',ok,rfl,G,m,k1,k2,k3,k4,k5,k6⟩
  have an:ok=true:=by
   cases ok with
   |true=>rfl
   |false=>
    obtain⟨x,ak,al⟩:=XT ad (t:=20*((a-1)/20)+l.length) o_
    rw[o] at ak;cases ak;exact absurd al (k6 rfl)
  subst an;obtain⟨_,ar,a1,a2,a3,a4⟩:=k5 rfl;have ag:w6.heap[b]?=some (.cells v.cells 72 (0,0)):=by rw[q.blk k3 s_];exact aj
  have ao:w6.heap[X]?=I.heap[X]?:=q.blk k3 s_
  have A:But [b] w6 (dS w6 b v'):=But.set5 _ _ _;have N:∀x∈[b],x∈(X::b::L):=λx c=>by rw[ew.1 c];simp
  refine⟨v',true,rfl,⟨_,ag,by simp[SV.cells]⟩,rfl,t_,t_,qS ag rfl,⟨M,by simp[sX,Value.ownBlock];exact λe=>S e.symm⟩,G,m,ar,⟨?_,⟨λx c=>k2.sub x (j.ext.sub x c),λx c=>?_⟩,em j.le k1,?_,?_,?_⟩,?_,a3.but k4 A N,a4⟩
  ·exact(Q.trans k3).but A (λx c=>by rw[ew.1 c];exact M) J
  ·rcases k2.new x c with c|c
   ·exact j.ext.new x c
   ·exact d6 (by have:=Q.size;omega)
  ·have:=aT (w1:=dS w6 b v') C λk hk=>by
    simp[Value.ownBlock] at hk;subst hk;rw[cV _ _ _ _ S];exact ao
   simpa using this
  ·have:=k4.but A N;simpa [sX,Value.ownBlock] using this
  ·intro i Y;rcases fo i l.length with U|U
   ·obtain⟨E,q1,q2⟩:=V i U;refine⟨E,q1,?_⟩;rw[jm U];exact(q.stR k3 k2 q2).but k4 A N
   ·obtain rfl:i=l.length:=by simp at Y;omega
    refine⟨B,o,?_⟩;simp only[ke (eh _),Nat.sub_self,kf];exact(q.stR k3 k2 T).but k4 A N
  ·rw[show 20*((a-1)/20)+(l++[v]).length=B.m_+1 by simp;omega];exact a1
 ·obtain⟨H,n',B,j,o,u,P⟩:=r.now
  have ap:v.t=20*((a-1)/20)+l.length:=by
   obtain⟨s2,e1,e2,_⟩:=u.sv;obtain rfl:=SV.val_inj e1;rw[e2];exact(Z.sta o).2.1
  have bb:=r.le;have p:But [] W (W.alloc (.cells v.cells 72)):=But.alloc W _ [];refine⟨o_,H,n',j.fs.but p (λb z=>by cases z) J,j.ext,j.le,j.own.alloc _,(j.live.alloc _).drop λx c=>?_,λi Y=>?_⟩
  ·rcases eu.1 c with c|c
   ·exact fg _ (fw _ c)
   ·exact fg _ (fq _ (fg _ c))
  ·obtain⟨E,q1,q2⟩:=j.all i Y;exact⟨E,q1,q2.but j.live p λb z=>by cases z⟩
 ·have:=r.ok;cases this
 ·rintro e w' ⟨l,y,d,rfl,h1,h2⟩;exact⟨l,y,d,rfl,h1,h2⟩
end
attribute [local go_sem] Oper.semAt_some
def NL(x:Option Addr)(n c:Nat)(W:World):Calls prog 64 #[.slice x n c] W λe b=>e=.returned (.func (.func 101) #[] #[.pointer (some ⟨W.heap.size,0,none⟩)])/\b=W.alloc (.cells #[.slice x n c] 124):=by
 have d:∀(a:Value) (w:World),(Instr.makeFunc (.func 101) #[] #[a]).run prog w=.ok (.func (.func 101) #[] #[a]) w:=λ_ _=>rfl
 go_enter func64,ntmps64;go_wp2_with fail;go_ret;exact⟨rfl,rfl⟩
def XK(l bs g n c:Nat)(a:SV)(W:World)(Z:World->Prop)(z:n+1<=1000000)
 (k:W.cell? ⟨bs,0,none⟩=some (.slice (some ⟨g,0,none⟩) (n+1) c)) (m:bs<W.heap.size) (u:g<W.heap.size)
 (t:W.cell? ⟨g,n*5,none⟩=some (.int .i64 a.t)) (A:W.cell? ⟨g,n*5+1,none⟩=some (.slice a.x1 a.n1 a.c1)) (w:W.cell? ⟨g,n*5+2,none⟩=some (.slice a.x2 a.n2 a.c2)) (B:W.cell? ⟨g,n*5+3,none⟩=some (.slice a.x3 a.n3 a.c3)) (C:W.cell? ⟨g,n*5+4,none⟩=some (.int .i64 a.q))
 (i:Hid (YieldAt Fence.wide 0 prog l #[.int .i64 n,a.val] W λe o=>e=.returned (.bool false)/\Z o)):
 Calls prog 101 #[.func (.yield l) #[] #[],.pointer (some ⟨bs,0,none⟩)] W λe w'=>e=.returned (.tuple #[])/\Z w':=by
 obtain⟨y,f,b,d,r,j⟩:=i.out;have p:=aB j;unfold SV.val at r;have v:(0:Int)<=(n:Int):=o_
 have D:(n:Int)<((n+1:Nat):Int):=o_
 clear j i;go_enter func101,ntmps101;go_wp2_with fail;go_loopg [3] 0 (λgk s wr=>s=.int .i64 n/\wr=W)
 case atStart=>exact⟨by go_num,rfl⟩
 case round=>
  obtain⟨rfl,rfl⟩:=hrel;refine(wpIn_wide (n:=0)).1 ?_;gi_wp2
  refine⟨rfl,p.out.mono ?_⟩;rintro e x ⟨rfl,q⟩;gi_wp2
  refine bodyPost_ret (results_none rfl _ _ _) rfl ⟨rfl,q⟩
def aE_(args:Array Value)(W:World):(callFunc 101 args).run prog W=.ok (.enter 101 args) W:=(enters_of func101 k_ rfl) args W
def GO(l Q sb:Nat)(s:SV)(W:World)(Z:World->Prop)(U:W.cell? ⟨Q,0,none⟩=some (.pointer (some ⟨sb,0,none⟩)))(ag:Q<W.heap.size)(af:sb<W.heap.size)
 (k0:W.cell? ⟨sb,0,none⟩=some (.int .i64 s.t)) (k1:W.cell? ⟨sb,1,none⟩=some (.slice s.x1 s.n1 s.c1)) (k2:W.cell? ⟨sb,2,none⟩=some (.slice s.x2 s.n2 s.c2)) (k3:W.cell? ⟨sb,3,none⟩=some (.slice s.x3 s.n3 s.c3)) (k4:W.cell? ⟨sb,4,none⟩=some (.int .i64 s.q))
 (ht:0<s.t) (S:Nat->Nat->Nat->SV->World->Prop) (A E:SV->World->World->Prop) (F:SV->World->Nat->World->Prop)
 (HS:Hid (Calls prog 63 #[.pointer (some ⟨sb,0,none⟩),.int .i64 s.t] ((W.alloc (.cells #[.func (.yield l) #[] #[]] 85)).alloc (.cells s.cells 72)) λe w'=>∃g n d s',e=.returned (.slice (some ⟨g,0,none⟩) (n+1) d)/\S g n d s' w'))
 (HG:Hid (∀g n d s' a,S g n d s' a->n+1<=1000000/\g<a.heap.size/\a.cell? ⟨g,n*5,none⟩=some (.int .i64 s'.t)/\a.cell? ⟨g,n*5+1,none⟩=some (.slice s'.x1 s'.n1 s'.c1)/\a.cell? ⟨g,n*5+2,none⟩=some (.slice s'.x2 s'.n2 s'.c2)/\a.cell? ⟨g,n*5+3,none⟩=some (.slice s'.x3 s'.n3 s'.c3)/\a.cell? ⟨g,n*5+4,none⟩=some (.int .i64 s'.q)/\
   ∀C,A s' a (((a.alloc (.cells #[.slice (some ⟨g,0,none⟩) (n+1) d] 124)).alloc (.deferred (some []))).alloc (.loop C))))
 (z:Hid (∀s' a b V r,F s' a b V->F s' a b (V.putObj (a.heap.size+1+1) (.loop r)))) (B:Hid (∀s' a V r,E s' a V->E s' a (V.putObj (a.heap.size+1+1) (.loop r))))
 (T:Hid (∀s' a V,A s' a V->F s' a V.heap.size (V.alloc (.cells s'.cells 72))/\a.heap.size+1+1<V.heap.size))
 (HY:Hid (∀s' a b V,F s' a b V->V.heap[b]?=some (.cells s'.cells 72 (0,0))/\V.cell? ⟨W.heap.size,0,none⟩=some (.func (.yield l) #[] #[])/\W.heap.size<V.heap.size/\YieldAt Fence.wide 0 prog l #[s'.val] V λe N=>e=.returned (.bool false)/\(N.heap[a.heap.size+1]?=V.heap[a.heap.size+1]?/\N.heap[a.heap.size+1+1]?=V.heap[a.heap.size+1+1]?)/\E s' a N))
 (HE:Hid (∀s' a V,E s' a V->Z (V.putObj (a.heap.size+1) (.deferred none)))):
 Calls prog 61 #[.func (.yield l) #[] #[],.pointer (some ⟨Q,0,none⟩)] W λe w'=>e=.returned (.tuple #[])/\Z w':=by
 unfold SV.cells at HS;have HT:=aB λ(w:World)=>oL s.t s.q s.x1 s.x2 s.x3 s.n1 s.n2 s.n3 s.c1 s.c2 s.c3 w
 have e0:(0:Int)<(s.t:Int):=o_
 refine(callsIn_wide (n:=0)).1 (callsIn_of_wp_marks func61 rfl trivial ?_ rfl);simp only[ntmps61,List.size_toArray,eo,ex,Nat.reduceAdd,Nat.reduceSub,Array.replicate_succ,Array.replicate_zero,List.push_toArray,List.append_toArray,ii,gb];refine wpIn_wide.2 ?_;go_wp2_with fail;refine(HT.out _).mono ?_;rintro e w1 ⟨rfl,rfl⟩;go_wp2_with fail;refine wp_loop_rounds 1 ?_;rw[rounds_succ];go_wp2_with fail;refine HS.out.mono ?_;rintro e a ⟨g,n,d,s',rfl,I⟩;have HB:=aB (NL (some ⟨g,0,none⟩) (n+1) d a);go_wp2_with fail;refine HB.out.mono ?_;rintro e o ⟨rfl,rfl⟩;clear HB HS HT;go_wp2_with fail;obtain⟨g1,g2,c0,c1,c2,c3,c4,H⟩:=HG.out _ _ _ _ _ I;generalize q:a.alloc (.cells #[.slice (some ⟨g,0,none⟩) (n+1) d] 124)=o at H ⊢
 have j:o.heap.size=a.heap.size+1:=by rw[<-q];simp
 have X:o.heap[a.heap.size]?=some (.cells #[.slice (some ⟨g,0,none⟩) (n+1) d] 124 (0,0)):=by rw[<-q];exact aL _ _ rfl _
 have ad:o.heap[g]?=a.heap[g]?:=by rw[<-q];exact en _ _ _ g2
 clear q I HG U k0 k1 k2 k3 k4
 refine wpIn_wide.1 (DA (τ:=Unit) (P:=prog) (gf:=101) (lb:= #[.pointer (some ⟨a.heap.size,0,none⟩)]) rfl aE_ (λ_ x V=>x= #[.int .i64 n,SV.val s']/\A s' a V) (λ_ _ _=>False)
  (λ_ x a' V=>∃b,x= #[.int .i64 n,SV.val s']/\a'={ tmps:= #[.func (.yield l) #[] #[],.pointer (some ⟨Q,0,none⟩),.pointer (some ⟨W.heap.size,0,none⟩),.int .i64 s.t,.slice (some ⟨g,0,none⟩) (n+1) d,undef,.pointer (some ⟨b,0,none⟩),.pointer (some ⟨sb,0,none⟩),.pointer (some ⟨sb,0,none⟩),.pointer (some ⟨sb,0,none⟩),s.val,.int .i64 s.t,.int .i64 s.t,.bool true,.pointer (some ⟨sb,0,none⟩),.int .i64 s.t,.slice (some ⟨g,0,none⟩) (n+1) d,.slice (some ⟨g,0,none⟩) (n+1) d,.func (.func 101) #[] #[.pointer (some ⟨a.heap.size,0,none⟩)],.int .i64 n,SV.val s',undef,undef,undef,undef,undef,undef,undef,undef],defers:=[] }/\F s' a b V)
  (λ_ c x V=>c=.ret/\E s' a V) (λ_=>False) ?hps ?hAx ?hB ?hBx ?hZ ?hassign ?hbody ?hseq ?hdone ?hstop)
 case hps=>rintro t x V ⟨rfl,_⟩;rfl
 case hAx=>rintro t x a' V r ⟨b,h1,I,Y⟩;rw[j];exact⟨b,h1,I,z.out _ _ _ _ _ Y⟩
 case hB=>intro t x V r h;exact h
 case hBx=>rintro _ c x V r ⟨rfl,h⟩;rw[j];exact⟨rfl,B.out _ _ _ _ h⟩
 case hZ=>intro V r h;exact h
 case hassign=>
  rintro t x V K ⟨rfl,h⟩ hK;obtain⟨q1,q2⟩:=T.out _ _ _ h;have J:=aB (hK _ _ (en _ _ _ (by rw[j];omega)) (en _ _ _ (by rw[j];omega)) ⟨_,rfl,rfl,q1⟩)
  unfold SV.val SV.cells at J;clear hK q1 h;unfold SV.val;gi_wp2
  exact J.out
 case hbody=>
  rintro t x a' V ⟨b,rfl,rfl,h⟩ G;obtain⟨u,y2,y3,fn,tmps,f,p,M,hR⟩:=HY.out _ _ _ _ h;have HR:=aB hR;unfold SV.val at M;unfold SV.val;unfold SV.cells at u;have d0:=aA (i:=0) u rfl;have d1:=aA (i:=1) u rfl;have d2:=aA (i:=2) u rfl;have d3:=aA (i:=3) u rfl;have d4:=aA (i:=4) u rfl;have l1:=aD u;clear h hR u T HY z B HE;gi_wp2
  refine⟨rfl,(show RoundIn (Fence.wide.inRound (a.heap.size+1+1)) 0 prog l fn tmps f p V _ from HR.out).mono ?_⟩
  rintro e N ⟨rfl,hq,D⟩;have aa:=aB D;clear D HR M d0 d1 d2 d3 d4 y2;gi_wp2
  rw[j];exact⟨hq,rfl,aa.out⟩
 case hseq=>
  intro C Rdy Don h1 I h3 h4 Y hY;have ac:=hY () #[.int .i64 n,SV.val s'] _ ⟨rfl,H C⟩ Y;have L:∀k,k<o.heap.size->((o.alloc (.deferred (some []))).alloc (.loop C)).heap[k]?=o.heap[k]?:=λk hk=>by rw[en _ _ _ (by simp only[World.size_alloc];omega),en _ _ _ hk]
  have ae:o.heap.size<=((o.alloc (.deferred (some []))).alloc (.loop C)).heap.size:=t_
  have m:∀i v,a.cell? ⟨g,i,none⟩=some v->((o.alloc (.deferred (some []))).alloc (.loop C)).cell? ⟨g,i,none⟩=some v:=λi v hv=>(World.cell?_of_block ((L g o_).trans ad)).trans hv
  refine callsIn_wide.2 ((XK (o.heap.size+1) a.heap.size g n d s' _ (λO=>∃c x,(c=Code.ret/\E s' a O)/\Don c O/\x=(#[]:Array Value)) g1 (aA ((L _ o_).trans X) rfl) o_ o_ (m _ _ c0) (m _ _ c1) (m _ _ c2) (m _ _ c3) (m _ _ c4) ?_).mono ?_)
  ·obtain⟨fn,tmps,f,p,M,hr⟩:=ac;refine⟨fn,tmps,f,p,M,hr.mono ?_⟩;rintro e O (⟨rfl,hf,_⟩|⟨rfl,c,⟨rfl,D⟩,y⟩)
   ·exact hf.elim
   ·exact⟨rfl,_,#[],⟨rfl,D⟩,y,rfl⟩
  ·rintro e O ⟨rfl,c,x,⟨rfl,D⟩,y,_⟩;exact⟨⟨_,rfl⟩,d6 ⟨(),_,#[],⟨rfl,D⟩,y⟩⟩
 case hdone=>intro V h;exact h.elim
 case hstop=>
  rintro _ c x V ⟨rfl,hz⟩ y G;rw[j] at y G ⊢
  have HZ:=aB (HE.out _ _ _ hz);have ab:=aB y;clear hz y HE T HY z B;refine wpIn_wide.2 ?_;go_wp2_with fail;refine⟨s_,.inl ⟨_,_,rfl,run_takeDeferred ab.out,?_⟩⟩
  exact⟨_,results_none rfl _ _ _,rfl,HZ.out⟩
def GN(l a sb:Nat)(s:SV)(W:World)(c:W.cell? ⟨a,0,none⟩=some (.pointer (some ⟨sb,0,none⟩)))(f:a<W.heap.size)(d:sb<W.heap.size)
 (k0:W.cell? ⟨sb,0,none⟩=some (.int .i64 s.t)) (i:W.cell? ⟨sb,1,none⟩=some (.slice s.x1 s.n1 s.c1)) (m:W.cell? ⟨sb,2,none⟩=some (.slice s.x2 s.n2 s.c2)) (k:W.cell? ⟨sb,3,none⟩=some (.slice s.x3 s.n3 s.c3)) (n:W.cell? ⟨sb,4,none⟩=some (.int .i64 s.q))
 (b:s.t=0):Calls prog 61 #[.func (.yield l) #[] #[],.pointer (some ⟨a,0,none⟩)] W λe w'=>e=.returned (.tuple #[])/\Below W.heap.size W w':=by
 have g:=aB λ(w:World)=>oL 0 s.q s.x1 s.x2 s.x3 s.n1 s.n2 s.n3 s.c1 s.c2 s.c3 w
 rw[b] at k0;go_enter func61,ntmps61;go_wp2_with fail;refine(g.out _).mono ?_;rintro e j ⟨rfl,rfl⟩;go_wp2_with fail;refine wp_loop_rounds 1 ?_;rw[rounds_succ];go_wp2_with fail;go_end0;exact⟨rfl,((ei W.heap.size W).alloc (eh _) _).alloc s_ _⟩
def JQ:∀(l:List SV) (i j:Nat) (v:SV),l[i]?=some v->j<5->(tE l)[i*5+j]?=([.int .i64 v.t,.slice v.x1 v.n1 v.c1,.slice v.x2 v.n2 v.c2,.slice v.x3 v.n3 v.c3,.int .i64 v.q]:List Value)[j]?
 |[],_,_,_,h,_=>by simp at h
 |x::l,0,j,v,h,a=>by
  simp at h;subst h;simp only[tE,List.flatMap_cons,Nat.zero_mul,gq];rw[g9 t_]
 |x::l,i+1,j,v,h,a=>by
  have:=JQ l i j v (by simpa using h) a
  rw[<-this];simp only[tE,List.flatMap_cons];rw[gp t_]
  congr 1
  simp;omega
def bwd(s:bI)(k:Nat)(fd:Bool):Prop:=k<=s.m_/\(fd=true↔k<s.m_)
def NU(st:Nat->Option bI)(s τ:bI)(fd:Bool):Prop:=(fd=false/\τ=s/\s.m_=0)\/(fd=true/\τ.m_+1=s.m_/\st τ.m_=some τ)
def pP(C:MCtx)(M:List Nat)(t:List Nat × World)(s':SV)(W:World):Prop:=∃F n σ,Mvg C (M++(t.1++C.all)) F n C.s.m_ false W/\kY C.fp F W s'.val σ/\C.st σ.m_=some σ/\σ.m_+1=C.s.m_/\σ.m_/20<n/\∀b∈t.1,W.heap[b]?=t.2.heap[b]?/\C.w.heap.size+3+1<b
def IJ(C:MCtx)(t:List Nat × World)(W:World):Prop:=∃F n k fd τ,Mvg C (t.1++C.all) F n k fd W/\C.st k=some τ/\NU C.st C.s τ fd/\∀b∈t.1,W.heap[b]?=t.2.heap[b]?/\C.w.heap.size+3+1<b
section
variable {C:MCtx} {M:List Nat} {t:List Nat × World} {s':SV} {W:World}
def pP.drop(h:pP C M t s' W):pP C [] (t.1,W) s' W:=by
 obtain⟨F,n,j,c,e,i,f,g,d⟩:=h;exact⟨F,n,j,c.more (c.live.drop λb a=>fq _ a) (λb a=>fq _ (fq _ a)),e,i,f,g,λb a=>⟨rfl,(d b a).2⟩⟩
def pP.putD{d:Nat}(h:pP C M t s' W)(e:d∈t.1)(o:Obj):pP C M (t.1,W.putObj d o) s' (W.putObj d o):=by
 obtain⟨F,n,m,g,i,l,j,k,f⟩:=h
 have a:∀b∈[d],b∈M++(t.1++C.all)/\C.bo<b:=λb c=>by
  obtain rfl:=ew.1 c;exact⟨fq _ (fw _ e),by have:=(f b e).2;simp only[MCtx.bo];omega⟩
 exact⟨F,n,m,g.but (But.put _ _ _) a,i.but g.live (But.put _ _ _) λb c=>(a b c).1,l,j,k,λb c=>⟨rfl,(f b c).2⟩⟩
def IJ.putD{d:Nat}(h:IJ C t W)(e:d∈t.1)(o:Obj):IJ C (t.1,W.putObj d o) (W.putObj d o):=by
 obtain⟨F,n,k,g,l,j,i,m,f⟩:=h
 have a:∀b∈[d],b∈t.1++C.all/\C.bo<b:=λb c=>by
  obtain rfl:=ew.1 c;exact⟨fw _ e,by have:=(f b e).2;simp only[MCtx.bo];omega⟩
 exact⟨F,n,k,g,l,j.but (But.put _ _ _) a,i,m,λb c=>⟨rfl,(f b c).2⟩⟩
def pP.alloc(h:pP C [] t s' W)(o:Obj):pP C [W.heap.size] t s' (W.alloc o):=by
 obtain⟨F,n,j,c,e,i,f,g,d⟩:=h;refine⟨F,n,j,c.alloc o,e.but c.live (But.alloc _ _ []) (λb a=>by cases a),i,f,g,λb a=>⟨?_,(d b a).2⟩⟩
 rw[en _ _ _ (c.live.loc b (fq _ (fw _ a))).2.1];exact(d b a).1
def pP.lt{b:Nat}(h:pP C M t s' W)(a:b∈t.1):b<W.heap.size/\C.w.heap.size+3+1<b:=by
 obtain⟨F,n,j,d,e,i,f,g,c⟩:=h;exact⟨(d.live.loc b (fq _ (fw _ a))).2.1,(c b a).2⟩
def pP.put(h:pP C M t s' W)(o:Obj):pP C M t s' (W.putObj (C.w.heap.size+3+1) o):=by
 obtain⟨F,n,j,d,e,i,f,g,a⟩:=h;exact⟨F,n,j,d.put o,d.putS e o,i,f,g,λb c=>⟨by rw[World.putObj_heap_other (by have:=(a b c).2;omega)];exact(a b c).1,(a b c).2⟩⟩
def IJ.put(h:IJ C t W)(o:Obj):IJ C t (W.putObj (C.w.heap.size+3+1) o):=by
 obtain⟨F,n,k,d,g,f,e,i,a⟩:=h;exact⟨F,n,k,d,g,f.put o,e,i,λb c=>⟨by rw[World.putObj_heap_other (by have:=(a b c).2;omega)];exact(a b c).1,(a b c).2⟩⟩
end
def ME{C:MCtx}(hg:Good C.ks)(al:C.tape.length<=17592186044416){F:Nat->Prop}{n:Nat}(hn:n<=1000)(W0:World)(S:W0.heap.size=C.w.heap.size+3)
 (hM:∀W,Mvg C C.all F n C.s.m_ false ((W0.alloc (.deferred (some []))).alloc (.loop W))):
 XM prog 61 #[.pointer (some ⟨C.bb,0,none⟩)] W0 (pP C []) (λ_ _ _=>False) (IJ C):=by
 intro W Rdy Don P ah J N hY;rw[S] at P ah hY J ⊢
 have v:=hM W;have aa:((W0.alloc (.deferred (some []))).alloc (.loop W)).heap.size=C.w.heap.size+3+1+1:=by simp[S]
 generalize (W0.alloc (.deferred (some []))).alloc (.loop W)=c at v N aa ⊢
 have G:=v.live.ses.now;have E:∀b,b=C.w.heap.size+3\/b=C.w.heap.size+3+1->b∈C.all:=λb i=>by rcases i with rfl|rfl<;>simp[MCtx.all]
 obtain⟨s1,aj,k0,k1,k2,k3,k4,_⟩:=v.live.ses.cells
 have ac:s1.t=C.s.m_:=by
  obtain⟨s2,e1,e2,_⟩:=aj.sv;obtain rfl:=SV.val_inj e1;exact e2
 by_cases ht:C.s.m_=0
 ·refine(GN (C.w.heap.size+3+1) C.bb C.sb s1 c (aA v.cb.1 rfl) (aD v.cb.1) v.live.ses.lt k0 k1 k2 k3 k4 o_).mono ?_
  rintro e W' ⟨rfl,i⟩;refine⟨⟨_,rfl⟩,([],c),⟨F,n,C.s.m_,false,C.s,v.but (L':=[]) (But.below i []) (λb i=>by cases i),G,d7 ⟨rfl,rfl,ht⟩,λb i=>by cases i⟩,d7 (P c _ N (i.block _ o_) (i.block _ o_))⟩
 ·-- the worlds on the way
  generalize w:(c.alloc (.cells #[.func (.yield (C.w.heap.size+3+1)) #[] #[]] 85)).alloc (.cells s1.cells 72)=Ws
  have L:Mvg C ((c.heap.size+1)::c.heap.size::C.all) F n C.s.m_ false Ws:=by
   have:=(v.alloc (.cells #[.func (.yield (C.w.heap.size+3+1)) #[] #[]] 85)).alloc (.cells s1.cells 72);rw[World.size_alloc,w] at this;exact this
  have Q:Below c.heap.size c Ws:=by rw[<-w];exact((ei _ c).alloc (eh _) _).alloc s_ _
  have ai:Ws.heap[c.heap.size]?=some (.cells #[.func (.yield (C.w.heap.size+3+1)) #[] #[]] 85 (0,0)):=by rw[<-w];exact(en _ _ _ s_).trans (aL _ _ rfl _)
  have ak:Rdy Ws:=P c _ N (Q.block _ o_) (Q.block _ o_)
  refine(GO (C.w.heap.size+3+1) C.bb C.sb s1 c (λV=>∃t,IJ C t V/\(Rdy V\/Don V)) (aA v.cb.1 rfl) (aD v.cb.1) v.live.ses.lt k0 k1 k2 k3 k4 o_
   (λg m s f a=>∃q B x,q.length=m+1/\q[m]?=some f/\20*((C.s.m_-1)/20)+q.length=C.s.m_/\ab_ C.fp C.sb C.mb C.mo C.ks C.tape C.s ((c.heap.size+1)::c.heap.size::C.all) Ws F n (20*((C.s.m_-1)/20)) B x q (some ⟨g,0,none⟩) s a)
   (λf a V=>c.heap.size<a.heap.size/\(∃U,pP C [] ([c.heap.size,a.heap.size+1,a.heap.size+1+1],U) f V)/\V.heap[c.heap.size]?=some (.cells #[.func (.yield (C.w.heap.size+3+1)) #[] #[]] 85 (0,0))/\Rdy V)
   (λf a V=>c.heap.size<a.heap.size/\(∃U,IJ C ([c.heap.size,a.heap.size+1,a.heap.size+1+1],U) V)/\Don V)
   (λf a b V=>c.heap.size<a.heap.size/\(∃U,pP C [b] ([c.heap.size,a.heap.size+1,a.heap.size+1+1],U) f V)/\V.heap[c.heap.size]?=some (.cells #[.func (.yield (C.w.heap.size+3+1)) #[] #[]] 85 (0,0))/\Rdy V/\V.heap[b]?=some (.cells f.cells 72 (0,0))/\a.heap.size+1+1<b)
   ?_ (λg m s f a hS=>?_) (λf a b V r Z=>?_) (λf a V r hE=>?_) (λf a V Z=>?_) (λf a b V Z=>?_) (λf a V hE=>?_)).mono ?_
  ·rw[w,ac];refine(OL hg al L.live C.s.m_ o_ (eh _) hn).mono ?_
   rintro e a ⟨q,y,d,rfl,o,B,x,p⟩;have am:0<q.length:=o_
   rcases p.own.2 with ⟨r1,r2⟩|⟨g,s,aq,r1,_⟩
   ·omega
   ·cases r1;obtain⟨m,X⟩:∃m,q.length=m+1:=⟨q.length-1,o_⟩
    exact⟨g,m,d,q[m]'(by omega),by rw[X],q,B,x,X,fi _,o,p⟩
  ·obtain⟨q,B,x,q1,K,q3,D⟩:=hS;have ao:=(hg.sta G).1.m_
   have l:∀j u,j<5->([.int .i64 f.t,.slice f.x1 f.n1 f.c1,.slice f.x2 f.n2 f.c2,.slice f.x3 f.n3 f.c3,.int .i64 f.q]:List Value)[j]?=some u->a.cell? ⟨g,m*5+j,none⟩=some u:=λj u hj hu=>by
    have:=D.own.cells (g:=g) rfl (m*5+j) u (by rw[JQ q m j f K hj];exact hu)
    rwa [oA] at this
   have ad:g<a.heap.size:=(D.live.loc g (by simp[sX,Value.ownBlock])).2.1
   refine⟨o_,ad,l 0 _ o_ rfl,l 1 _ o_ rfl,l 2 _ o_ rfl,l 3 _ o_ rfl,l 4 _ o_ rfl,λR1=>?_⟩
   have A:=D.live.drop (L':=(c.heap.size+1)::c.heap.size::C.all) λb i=>fq _ i
   have ag:=L.fs D.fs A D.ext D.le;have z:=((ag.alloc (.cells #[.slice (some ⟨g,0,none⟩) (m+1) s] 124)).alloc (.deferred (some []))).alloc (.loop R1);have M:But [] a (((a.alloc (.cells #[.slice (some ⟨g,0,none⟩) (m+1) s] 124)).alloc (.deferred (some []))).alloc (.loop R1)):=((But.alloc a _ []).trans (But.alloc _ _ [])).trans (But.alloc _ _ []);simp only[World.size_alloc] at z;generalize ((a.alloc (.cells #[.slice (some ⟨g,0,none⟩) (m+1) s] 124)).alloc (.deferred (some []))).alloc (.loop R1)=V at z M ⊢
   have ap:Ws.heap.size<=a.heap.size:=D.fs.size;have an:c.heap.size+2=Ws.heap.size:=by rw[<-w];simp
   have I:∀b∈(c.heap.size+1)::c.heap.size::C.all,V.heap[b]?=Ws.heap[b]?:=λb i=>(M.blk b (A.loc b i).2.1 s_).trans (L.live.blk D.fs i)
   obtain⟨τ,ab,Y⟩:=D.all m o_
   have af:q[m]'(by omega)=f:=by rw[fi o_] at K;exact Option.some.inj K
   rw[af] at Y;have ae:=(hg.sta ab).2.1;have ar:C.s.m_/20<x:=A.hn;refine⟨o_,⟨V,B,x,τ,z.more (z.live.drop λb i=>?_) (λb i=>by simp[i]),Y.but A M (λb i=>by cases i),by unfold MCtx.st;rw[ae];exact ab,o_,o_,λb i=>⟨rfl,?_⟩⟩,?_,?_⟩
   ·simp only[ii,gb,ep] at i ⊢
    rcases i with rfl|rfl|rfl|i
    ·simp
    ·simp
    ·simp
    ·simp[i]
   ·simp only[ep,fk,or_false] at i;rcases i with rfl|rfl|rfl<;>omega
   ·rw[I _ s_];exact ai
   ·exact P Ws _ ak (I _ (by simp[E _ (d7 rfl)])) (I _ (by simp[E _ (d6 rfl)]))
  ·obtain⟨H,⟨U,o⟩,p,T,h4,h5⟩:=Z;have hl:=o.lt (b:=a.heap.size+1+1) s_
   exact⟨H,⟨_,o.putD (d:=a.heap.size+1+1) s_ _⟩,by rw[World.putObj_heap_other o_];exact p,P V _ T (World.putObj_heap_other o_) (World.putObj_heap_other o_),by rw[World.putObj_heap_other o_];exact h4,h5⟩
  ·obtain⟨H,⟨U,o⟩,p⟩:=hE
   have hl:C.w.heap.size+3+1<a.heap.size+1+1:=by
    obtain⟨B,x,k,fd,τ,q1,K,q3,O⟩:=o;exact(O _ s_).2
   exact⟨H,⟨_,o.putD (d:=a.heap.size+1+1) s_ _⟩,J V _ p (World.putObj_heap_other o_) (World.putObj_heap_other o_)⟩
  ·obtain⟨H,⟨U,o⟩,p,T⟩:=Z;have hl:=o.lt (b:=a.heap.size+1+1) s_
   have hy:=o.lt (b:=c.heap.size) s_
   refine⟨⟨H,⟨U,o.alloc _⟩,by rw[en _ _ _ hy.1];exact p,P V _ T (en _ _ _ o_) (en _ _ _ o_),aL _ _ rfl _,hl.1⟩,hl.1⟩
  ·obtain⟨H,⟨U,o⟩,p,T,h4,h5⟩:=Z;refine⟨h4,aA p rfl,aD p,?_⟩;refine(hY ([c.heap.size,a.heap.size+1,a.heap.size+1+1],V) f V o.drop T).mono ?_;rintro e V' (⟨_,hf,_⟩|⟨rfl,hE,hD⟩)
   ·exact hf.elim
   ·obtain⟨B,x,k,fd,τ,q1,K,q3,O⟩:=hE;exact⟨rfl,⟨(O _ s_).1,(O _ s_).1⟩,H,⟨V,B,x,k,fd,τ,q1,K,q3,O⟩,hD⟩
  ·obtain⟨H,⟨U,o⟩,p⟩:=hE
   have hl:C.w.heap.size+3+1<a.heap.size+1:=by
    obtain⟨B,x,k,fd,τ,q1,K,q3,O⟩:=o;exact(O _ s_).2
   exact⟨_,o.putD (d:=a.heap.size+1) s_ _,d6 (J V _ p (World.putObj_heap_other o_) (World.putObj_heap_other o_))⟩
  ·rintro e W' ⟨rfl,h⟩;obtain⟨t,o,p⟩:=h;exact⟨⟨_,rfl⟩,t,o,p⟩
def aD_(args:Array Value)(W:World):(callFunc 61 args).run prog W=.ok (.enter 61 args) W:=(enters_of func61 k_ rfl) args W
section
variable {fp:Nat->Value} {F:Nat->Prop} {w:World} {sb mb n:Nat} {mo:Obj} {ks:List aC} {tape:List Int} {s:bI} {L:List Nat}
def WF(hg:Good ks)(ap:tape.length<=17592186044416)(h:Live fp F w sb mb mo ks tape s n L)(P:Nat)(ao:P∈L)(T:w.heap[P]?=some (.cells #[.pointer (some ⟨sb,0,none⟩)] 32 (0,0))):
 Calls prog 30 #[.pointer (some ⟨sb,0,none⟩),.func (.func 61) #[] #[.pointer (some ⟨P,0,none⟩)],.func (.func 32) #[] #[]] w λe w'=>∃b,e=.returned (.bool b)/\KC fp sb mb mo ks tape L (NU (cG ks tape) s) w b w':=by
 obtain⟨U,ak,k0,k1,k2,k3,k4,_⟩:=h.ses.cells;have A:=h.ses.lt;have au:=h.count hg;obtain⟨C,m⟩:∃C:MCtx,C=⟨fp,sb,mb,mo,ks,tape,s,λ_=>true,P,.func (.func 32) #[] #[],w,L,bwd s⟩:=⟨_,rfl⟩
 have aa:Good C.ks:=by rw[m];exact hg
 have a:C.w=w:=by rw[m]
 have af:C.s=s:=by rw[m]
 have E:C.st=cG ks tape:=by rw[m];rfl
 have X:C.le=bwd C.s:=by rw[m]
 refine JM (τ:=List Nat × World) w sb 61 32 #[.pointer (some ⟨P,0,none⟩)] #[] U (λb w'=>KC fp sb mb mo ks tape L (NU (cG ks tape) s) w b w')
  (pP C []) (λ_ _ _=>False) (λt l b W=>pP C [b] t l W/\W.heap[b]?=some (.cells l.cells 72 (0,0))/\C.w.heap.size+3+1<b) (IJ C) A k0 k1 k2 k3 k4 aD_ YQ
  (λt l b W r h=>?_) (λt l W r h=>h) (λt W r h=>?_) (λt l W h=>?_) (λt l b W h=>?_) (λt W hE=>?_) (λz j=>?_)
 ·obtain⟨f,h2,D⟩:=h;rw[<-a];exact⟨f.put _,by rw[World.putObj_heap_other o_];exact h2,D⟩
 ·rw[<-a];exact h.put _
 ·have O:C.w.heap.size+3+1<W.heap.size:=by
   obtain⟨F,n,σ,f,_⟩:=h;exact f.lt
  rw[<-a];exact⟨⟨h.alloc _,aL _ _ rfl _,O⟩,O⟩
 ·obtain⟨⟨F,n,σ,f,h2,D,h4,h5,h6⟩,h9,al⟩:=h;have O:=f.lt;have I:=f.cf;have o:=f.co;obtain⟨s2,τ,Z,a2,Q,a4⟩:=f.ct;have q:=f.set h2 D h5 (by rw[X];exact⟨o_,t_⟩)
  have y:C.bt=w.heap.size+1:=by rw[<-a];rfl
  have v:C.bo=w.heap.size+1+1:=by rw[<-a];rfl
  have ai:C.bf=w.heap.size:=by rw[<-a];rfl
  rw[a] at O al;rw[ai] at I;rw[v] at o;rw[y] at Z;have aq:C.fv=.func (.func 32) #[] #[]:=by rw[m]
  rw[aq] at I;refine⟨h9,I,⟨_,Z,by simp[SV.cells]⟩,⟨_,o⟩,o_,o_,o_,?_⟩
  have S:But ([C.bt]++[C.bo]) W ((dS W C.bt l).setCell ⟨C.bo,0,none⟩ (.bool true)):=(But.set5 W C.bt l).trans (But.set _ _ _);have B:∀x,w.heap.size+1+1<x->x<W.heap.size->((dS W C.bt l).setCell ⟨C.bo,0,none⟩ (.bool true)).heap[x]?=W.heap[x]?:=λx N an=>S.blk x an (by simp[y,v];omega)
  have ag:W.heap.size<=((dS W C.bt l).setCell ⟨C.bo,0,none⟩ (.bool true)).heap.size:=S.size;have ad:∀b∈t.1,b<W.heap.size:=λb d=>(f.live.loc b (fq _ (fw _ d))).2.1
  rw[<-v,<-y];generalize (dS W C.bt l).setCell ⟨C.bo,0,none⟩ (.bool true)=V at q B ag ⊢
  refine(vY l V).mono ?_;rintro e W' ⟨rfl,d⟩;refine⟨true,rfl,⟨by rw[d.block _ o_];exact B _ o_ o_,by rw[d.block _ o_];exact B _ o_ o_⟩,λ_=>?_,λhp=>by cases hp⟩
  refine⟨F,n,σ.m_,true,σ,(q.but (But.below d []) λb d=>by cases d).more ((q.live.but (But.below d []) λb d=>(by cases d)).drop λx N=>fq _ N) (λx N=>fq _ N),D,d6 ⟨rfl,h4,D⟩,λb u=>⟨?_,(h6 b u).2⟩⟩
  have N:=(h6 b u).2;rw[a] at N;rw[d.block _ (by have:=ad b u;omega),B b o_ (ad b u)]
  exact(h6 b u).1
 ·obtain⟨F,n,k,fd,τ,f,h2,D,h6⟩:=hE;replace f:Mvg C C.all F n k fd W:=f.more (f.live.drop λb d=>fq _ d) (λ_ h=>h)
  obtain⟨s2,ac,Z,a2,Q,a4⟩:=f.ct;obtain rfl:ac=τ:=by rw[h2] at Q;cases Q;rfl
  have H:=(aa.sta Q).2.1;have o:=f.co;have O:=f.lt;have M:=f.live;have ab:=f.fr.1;have J:=f.fr.2.2;have y:C.bt=w.heap.size+1:=by rw[<-a];rfl
  have v:C.bo=w.heap.size+1+1:=by rw[<-a];rfl
  rw[y] at Z;rw[v] at o;rw[a] at O;rw[m] at M ab J;rw[E] at Q;rw[m] at a2;obtain⟨_,_,_,_,_,_,_,c,ar,am⟩:=M.ses.cells;refine⟨s2,fd,Z,o,⟨c,_,ar,am⟩,?_⟩;obtain⟨g1,g2⟩:=M.go a2 (by rw[H];exact Q) (by rw[H];exact a4)
  have ae:∀b∈[w.heap.size+3],b∈C.all:=λb d=>by
   obtain rfl:=ew.1 d;simp[MCtx.all,a]
  rw[E,af] at D;rw[m] at ae;refine⟨F,n,ac,(g1.but (But.put _ (w.heap.size+3) _) ae).drop λb d=>by simp[MCtx.all,d],D,(ab.trans g2).but (But.put _ (w.heap.size+3) _) (λb d=>?_) A⟩
  obtain rfl:=ew.1 d;show w.heap.size<=w.heap.size+3
  omega
 ·have Y:z.heap.size=w.heap.size+3:=by rw[j];simp
  have ah:∀b,F b->b<w.heap.size:=λb d=>(h.ses.fix b d).1
  have p:∀g,Below w.heap.size w ((z.alloc (.deferred (some []))).alloc (.loop g)):=λg=>by
   rw[j];exact(((((ei _ w).alloc (eh _) _).alloc (by simp only[World.size_alloc];omega) _).alloc (by simp only[World.size_alloc];omega) _).alloc (by simp only[World.size_alloc];omega) _).alloc (by simp only[World.size_alloc];omega) _
  have aj:∀g,kY fp F ((z.alloc (.deferred (some []))).alloc (.loop g)) U.val s:=λg=>ak.keep (λb d=>(p g).block b (ah b d)) λ_ h=>h
  have K:∀g k,k<z.heap.size->((z.alloc (.deferred (some []))).alloc (.loop g)).heap[k]?=z.heap[k]?:=λg k hk=>by rw[en _ _ _ (by simp only[World.size_alloc];omega),en _ _ _ hk]
  have G:C.bb=P:=by rw[m]
  rw[<-G];refine ME (C:=C) (F:=F) (n:=n) aa (by rw[m];exact ap) o_ z (by rw[a];exact Y) (λg=>?_)
  clear G
  ·have i:=((((h.alloc (.cells #[.func (.func 32) #[] #[]] 85)).alloc (.cells U.cells 72)).alloc (.cells #[.bool false] 4)).alloc (.deferred (some []))).alloc (.loop g);simp only[World.size_alloc] at i;rw[<-j] at i;have J:∀b∈L,b<w.heap.size:=λb d=>(h.loc b d).2.1
   have c1:z.heap[w.heap.size]?=some (.cells #[.func (.func 32) #[] #[]] 85 (0,0)):=by
    rw[j,en _ _ _ (by simp only[World.size_alloc];omega),en _ _ _ (by simp only[World.size_alloc];omega)];exact aL _ _ rfl _
   have c2:z.heap[w.heap.size+1]?=some (.cells U.cells 72 (0,0)):=by
    rw[j,en _ _ _ (by simp only[World.size_alloc];omega)];exact aL _ _ (by simp only[World.size_alloc]) _
   have c3:z.heap[w.heap.size+1+1]?=some (.cells #[.bool false] 4 (0,0)):=by
    rw[j];exact aL _ _ (by simp only[World.size_alloc]) _
   rw[m];exact⟨i,λ_ h=>h,by rw[K g _ (by simp only[MCtx.bf];omega)];exact c1,⟨by rw[(p g).block _ (aD T)];exact T,ao⟩,⟨U,s,by rw[K g _ (by simp only[MCtx.bt];omega)];exact c2,aj g,h.ses.now,h.hn⟩,by rw[K g _ (by simp only[MCtx.bo];omega)];exact c3,⟨eh _,s_⟩,Fz.of_below (p g) A,A,J⟩
def RT(sb:Nat)(W:World):Calls prog 33 #[.pointer (some ⟨sb,0,none⟩)] W λe b=>e=.returned (.func (.func 61) #[] #[.pointer (some ⟨W.heap.size,0,none⟩)])/\b=W.alloc (.cells #[.pointer (some ⟨sb,0,none⟩)] 32):=by
 have c:∀(a:Value) (w:World),(Instr.makeFunc (.func 61) #[] #[a]).run prog w=.ok (.func (.func 61) #[] #[a]) w:=λ_ _=>rfl
 go_enter func33,ntmps33;go_wp2_with fail;go_ret;exact⟨rfl,rfl⟩
def K9(sb:Nat)(w:World)(P:Bool->World->Prop)
 (a:Hid (Calls prog 30 #[.pointer (some ⟨sb,0,none⟩),.func (.func 61) #[] #[.pointer (some ⟨w.heap.size,0,none⟩)],.func (.func 32) #[] #[]] (w.alloc (.cells #[.pointer (some ⟨sb,0,none⟩)] 32)) λe w'=>∃b,e=.returned (.bool b)/\P b w')):
 Calls prog 14 #[.pointer (some ⟨sb,0,none⟩)] w λe w'=>∃b,e=.returned (.bool b)/\P b w':=by
 have d:=aB (RT sb w);go_enter func14,ntmps14;go_wp2_with fail;refine d.out.mono ?_;rintro e g ⟨rfl,rfl⟩;clear d;go_wp2_with fail;refine a.out.mono ?_;rintro e i ⟨b,rfl,c⟩;have f:=aB c;clear c a;go_wp2_with fail;go_ret;exact⟨b,rfl,f.out⟩
def W9(i:Good ks)(c:tape.length<=17592186044416)(h:Live fp F w sb mb mo ks tape s n L):
 Calls prog 14 #[.pointer (some ⟨sb,0,none⟩)] w λe w'=>∃b,e=.returned (.bool b)/\KC fp sb mb mo ks tape L (NU (cG ks tape) s) w b w':=by
 refine K9 sb w _ ((WF i c (h.alloc (.cells #[.pointer (some ⟨sb,0,none⟩)] 32)) w.heap.size (ft ..) (aL _ _ rfl _)).mono ?_);rintro e w' ⟨b,rfl,G,d,j,g,f,k⟩;have a:Below w.heap.size w (w.alloc (.cells #[.pointer (some ⟨sb,0,none⟩)] 32)):=(ei _ w).alloc (eh _) _;exact⟨b,rfl,G,d,j,g.drop λb l=>fg _ l,f,(Fz.of_below a h.ses.lt).trans k⟩
end
end Go.Proofs.YthbffcmfmjpncaaGreatDoor
