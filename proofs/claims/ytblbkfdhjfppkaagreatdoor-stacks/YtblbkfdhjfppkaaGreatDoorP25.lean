/- Contracts of the program: the latest state that is kept. -/
import Derived.Test.YtblbkfdhjfppkaaGreatDoorP24
set_option linter.defProp false
set_option maxRecDepth 100000
set_option maxHeartbeats 4000000
namespace Go.Proofs.YtblbkfdhjfppkaaGreatDoor
open Hs
open _root_.Go.Proofs.Tryz
open Go.RowKit
def PB(w:World)(sb g n E h j:Nat)(B:Bool)(t:Int)(a:SV)(F:sb<w.heap.size)(p:g<w.heap.size)(hn:n<=1000)
 (u:w.cell? ⟨sb,5,none⟩=some (.slice (some ⟨g,0,none⟩) n E))
 (y:w.cell? ⟨g,j*6+1,none⟩=some (.int .i64 a.t)) (r:w.cell? ⟨g,j*6+2,none⟩=some (.slice a.x1 a.n1 a.c1)) (z:w.cell? ⟨g,j*6+3,none⟩=some (.slice a.x2 a.n2 a.c2)) (A:w.cell? ⟨g,j*6+4,none⟩=some (.slice a.x3 a.n3 a.c3)) (o:w.cell? ⟨g,j*6+5,none⟩=some (.int .i64 a.q))
 (hj:(B=true/\h=j)\/(B=false/\h=j+1)) (aa:j<n)
 (N:Hid (Calls prog 162 #[.pointer (some ⟨sb,5,none⟩),.int .i64 t] (w.alloc (.cells #[.int .i64 0,.slice none 0 0,.slice none 0 0,.slice none 0 0,.int .i64 0] 108)) fun e w'=>e=.returned (.tuple #[.int .i64 h,.bool B])/\Below (w.heap.size+1) (w.alloc (.cells #[.int .i64 0,.slice none 0 0,.slice none 0 0,.slice none 0 0,.int .i64 0] 108)) w')):
 Calls prog 110 #[.pointer (some ⟨sb,5,none⟩),.int .i64 t] w fun e w'=>e=.returned (.tuple #[a.val,.bool true])/\Below w.heap.size w w':=by
 have X:=aB (aW_ u (aW_ y (aW_ r (aW_ z (aW_ A o)))));clear u y r z A o;go_enter func110,ntmps110;go_wp2_with fail;refine N.out.mono ?_;rintro e m ⟨rfl,D⟩;have l:Below w.heap.size w m:=((ay_ w.heap.size w).alloc (au_ _) _).trans (D.mono (by omega))
 have c:m.heap[w.heap.size]?=some (.cells #[.int .i64 0,.slice none 0 0,.slice none 0 0,.slice none 0 0,.int .i64 0] 108 (0,0)):=(D.block _ (by omega)).trans (aM _ _ rfl _)
 obtain⟨u,y,r,z,A,o⟩:=X.out;have k:∀(b i:Nat) (v:Value),b<w.heap.size->w.cell? ⟨b,i,none⟩=some v->m.cell? ⟨b,i,none⟩=some v:=fun b i v C hv=>(World.cell?_of_block (l.block b C)).trans hv
 have Y:=k _ _ _ F u;have U:=k _ _ _ p y;have L:=k _ _ _ p r;have M:=k _ _ _ p z;have d4:=k _ _ _ p A;have V:=k _ _ _ p o;have z0:=aA (i:=0) c rfl;have T:=aA (i:=1) c rfl;have P:=aA (i:=2) c rfl;have Z:=aA (i:=3) c rfl;have Q:=aA (i:=4) c rfl;have O:=aE (i:=0) c;have S:=aE (i:=1) c;have f2:=aE (i:=2) c;have f3:=aE (i:=3) c;have f4:=aE (i:=4) c;have lz:=aD c;have x:=aB (mR (W:=m) (s:=a) c (by simp) rfl)
 have q:=aB (lO a l (au_ _));unfold dR at x q;have q1:(0:Int)<=(j:Int):=by omega
 have q2:(j:Int)<(n:Int):=by omega
 clear D l c k X u y r z A o N;rcases hj with ⟨rfl,rfl⟩|⟨rfl,rfl⟩
 ·go_wp2_with fail;have f:=x.out;have d:=q.out;clear x q z0 T P Z Q O S f2 f3 f4 U L M d4 Y V;generalize ((((m.setCell ⟨w.heap.size,0,none⟩ (.int .i64 a.t)).setCell ⟨w.heap.size,1,none⟩ (.slice a.x1 a.n1 a.c1)).setCell ⟨w.heap.size,2,none⟩ (.slice a.x2 a.n2 a.c2)).setCell ⟨w.heap.size,3,none⟩ (.slice a.x3 a.n3 a.c3)).setCell ⟨w.heap.size,4,none⟩ (.int .i64 a.q)=W3 at f d ⊢
  obtain⟨G,H,I,J,K⟩:=f;exact bodyPost_ret (v:=.tuple #[a.val,.bool true]) (by simp[results,results110,go_sem,G,H,I,J,K,SV.val]) rfl ⟨rfl,d⟩
 ·have q3:(((j+1:Nat):Int)==0)=false:=by simp;omega
  go_wp2_with fail;have f:=x.out;have d:=q.out;clear x q z0 T P Z Q O S f2 f3 f4 U L M d4 Y V;generalize ((((m.setCell ⟨w.heap.size,0,none⟩ (.int .i64 a.t)).setCell ⟨w.heap.size,1,none⟩ (.slice a.x1 a.n1 a.c1)).setCell ⟨w.heap.size,2,none⟩ (.slice a.x2 a.n2 a.c2)).setCell ⟨w.heap.size,3,none⟩ (.slice a.x3 a.n3 a.c3)).setCell ⟨w.heap.size,4,none⟩ (.int .i64 a.q)=W3 at f d ⊢
  obtain⟨G,H,I,J,K⟩:=f;exact bodyPost_ret (v:=.tuple #[a.val,.bool true]) (by simp[results,results110,go_sem,G,H,I,J,K,SV.val]) rfl ⟨rfl,d⟩
def Y0:(prog.info? 108).map (fun i=>(i.zero,i.size,i.bytes))=some (some (.agg #[.int .i64 0,.slice none 0 0,.slice none 0 0,.slice none 0 0,.int .i64 0]),5,88):=by kernel_rfl
def L7(w:World)(b c d e a:Value):∀j u,([b,c,d,e,a]:List Value)[j]?=some u->(w.alloc (.cells #[b,c,d,e,a] 108)).cell? ((⟨w.heap.size,0,none⟩:Addr).add j)=some u:=by
 intro j u f;exact World.news_of_block (cs:= #[b,c,d,e,a]) (aM _ _ rfl _) j u f
def U7(v:SV):∀u∈([.int .i64 v.t,.slice v.x1 v.n1 v.c1,.slice v.x2 v.n2 v.c2,.slice v.x3 v.n3 v.c3,.int .i64 v.q]:List Value),u.oneCell'=true:=by
 intro u a;simp at a;rcases a with rfl|rfl|rfl|rfl|rfl<;>rfl
def sQ(l:List SV):List Value:=l.flatMap fun v=>[.int .i64 v.t,.slice v.x1 v.n1 v.c1,.slice v.x2 v.n2 v.c2,.slice v.x3 v.n3 v.c3,.int .i64 v.q]
def UW(l:List SV)(v:SV):sQ (l++[v])=sQ l++[.int .i64 v.t,.slice v.x1 v.n1 v.c1,.slice v.x2 v.n2 v.c2,.slice v.x3 v.n3 v.c3,.int .i64 v.q]:=by simp[sQ]
def JV(w:World)(sb a K0 base:Nat)(I:Nat->Nat->List SV->Option Addr->Nat->SV->Bool->World->Prop)(R:List SV->Option Addr->Nat->World->Prop)(ad:0<a)(Y:a<=1000)
 (HL:Hid (Calls prog 110 #[.pointer (some ⟨sb,5,none⟩),.int .i64 ((a-1:Nat):Int)] w fun e w'=>∃v,e=.returned (.tuple #[SV.val v,.bool true])/\I K0 w'.heap.size [] none 0 v true (w'.alloc (.cells v.cells 108))))
 (T:Hid (∀gk b f y d v ok W,I gk b f y d v ok W->W.heap[b]?=some (.cells v.cells 108 (0,0))/\W.ownsRow base 108 5 (.slice y f.length d) f.length (sQ f)/\f.length<=1000/\base<=W.heap.size))
 (U:Hid (∀gk b f y d v W,I gk b f y d v true W->v.t<a->∃j,gk=j+1/\∀H m (K:World),K.ownsRow base 108 5 (.slice (some ⟨H,0,none⟩) (f.length+1) m) (f.length+1) (sQ (f++[v]))->((W.alloc (.cells v.cells 108)).alloc (.cells v.cells 108)).grownBy K (Value.ownBlock (.slice y f.length d))->(Value.ownBlock (.slice y f.length d)=some H\/H=W.heap.size+2)->
   K.heap[b]?=some (.cells v.cells 108 (0,0))/\Calls prog 111 #[.pointer (some ⟨sb,0,none⟩),v.val] K fun e w'=>∃O ok,e=.returned (.tuple #[SV.val O,.bool ok])/\(∃c,w'.heap[b]?=some (.cells c 108 (0,0))/\c.size=5)/\I j b (f++[v]) (some ⟨H,0,none⟩) m O ok (dR w' b O)))
 (X:Hid (∀gk b f y d v W,I gk b f y d v true W->¬v.t<a->R f y d (W.alloc (.cells v.cells 108)))) (q:Hid (∀gk b f y d v W,I gk b f y d v false W->R f y d W)):
 Calls prog 120 #[.pointer (some ⟨sb,0,none⟩),.int .i64 a] w fun e w'=>∃f y d,e=.returned (.slice y f.length d)/\R f y d w':=by
 obtain⟨i0,hi,aa,ac,ab⟩:=info_parts Y0;have e0:((a:Nat):Int)-1=((a-1:Nat):Int):=by omega
 go_enter func120,ntmps120;go_wp2_with fail;refine HL.out.mono ?_;rintro e w1 ⟨v0,rfl,h1⟩;have H1:=aB h1;unfold SV.cells at H1;unfold SV.val;clear h1 HL;go_wp2_with fail;go_loopg [5,7] K0 (fun gk s5 s7 wr=>∃f y d v ok,s5=.slice y f.length d/\s7=.bool ok/\I gk w1.heap.size f y d v ok wr)
 case atStart=>exact⟨[],_,_,_,_,rfl,rfl,H1.out⟩
 case round=>
  obtain⟨f,y,d,v,ok,rfl,rfl,Q⟩:=hrel;cases ok
  ·have V:=aB (q.out _ _ _ _ _ _ _ Q);clear Q T U X q;go_wp2_with fail;go_ret;exact⟨f,y,d,rfl,V.out⟩
  ·obtain⟨g,x,ah,af⟩:=T.out _ _ _ _ _ _ _ _ Q;unfold SV.cells at g;have D:=aA (i:=0) g rfl;have F:=aA (i:=1) g rfl;have C:=aA (i:=2) g rfl;have E:=aA (i:=3) g rfl;have G:=aA (i:=4) g rfl;have Z:=aD g;have HT:=aB (nZ v.t v.q v.x1 v.x2 v.x3 v.n1 v.n2 v.n3 v.c1 v.c2 v.c3 wr);have HO:=aB x;have r:=aB Q;clear x Q;go_wp2_with fail;refine HT.out.mono ?_;rintro e J ⟨rfl,rfl⟩;clear HT;by_cases hv:v.t<a
   ·obtain⟨j,rfl,hN⟩:=U.out _ _ _ _ _ _ _ r.out hv;have e1:(v.t:Int)<(a:Int):=by omega
    have s:=aB hN;unfold SV.cells at s;have A:(wr.alloc (.cells #[.int .i64 v.t,.slice v.x1 v.n1 v.c1,.slice v.x2 v.n2 v.c2,.slice v.x3 v.n3 v.c3,.int .i64 v.q] 108)).ownsRow base 108 5 (.slice y f.length d) f.length (sQ f):=HO.out.alloc _;generalize z:wr.alloc (.cells #[.int .i64 v.t,.slice v.x1 v.n1 v.c1,.slice v.x2 v.n2 v.c2,.slice v.x3 v.n3 v.c3,.int .i64 v.q] 108)=J at A s ⊢
    have t:J.heap.size=wr.heap.size+1:=by rw[<-z];simp
    have k:J.heap[w1.heap.size]?=some (.cells #[.int .i64 v.t,.slice v.x1 v.n1 v.c1,.slice v.x2 v.n2 v.c2,.slice v.x3 v.n3 v.c3,.int .i64 v.q] 108 (0,0)):=by rw[<-z,aA_ _ _ _ Z];exact g
    have D:=aA (i:=0) k rfl;have F:=aA (i:=1) k rfl;have C:=aA (i:=2) k rfl;have E:=aA (i:=3) k rfl;have G:=aA (i:=4) k rfl;have S:=aD k;have M:=aB A;have L:=aB t;clear A g k z t HO r T U X q;go_wp2_with (at_builtin;refine wpList_append_lies _ (by rfl) _ _ 183 (by rfl) base 108 i0 _ 5 88 underlying183 hi aa ac ab rfl (by decide) (.slice y f.length d) f.length _ (by rfl) (M.out.alloc _) ⟨J.heap.size,0,none⟩ 1 1 [.int .i64 v.t,.slice v.x1 v.n1 v.c1,.slice v.x2 v.n2 v.c2,.slice v.x3 v.n3 v.c3,.int .i64 v.q] (by rfl) (by rfl) (L7 J _ _ _ _ _) (U7 v) (by decide) (by unfold maxLen;omega) (by omega) (by simp;have:=L.out;omega) (J.heap.size+1) (by simp) ?_)
    intro H m K p n u ai;obtain⟨l,P⟩:=s.out H m K (by rw[UW];exact p) n (by have:=L.out;rcases u with h|h;exact av_ h;exact as_ (by omega))
    clear p n u s M D F C E G S;have D:=aA (i:=0) l rfl;have F:=aA (i:=1) l rfl;have C:=aA (i:=2) l rfl;have E:=aA (i:=3) l rfl;have G:=aA (i:=4) l rfl;have N:=aD l;have B:=aB P;unfold SV.val at B;clear l P;go_wp2_with fail;refine B.out.mono ?_;rintro e w6 ⟨O,ok,rfl,⟨c,o,ag⟩,h6⟩;have H6:=aB h6;unfold dR at H6;clear B D F C E G N h6;have D:=aA (i:=0) o (aC_ (by omega))
    have F:=aA (i:=1) o (aC_ (by omega))
    have C:=aA (i:=2) o (aC_ (by omega))
    have E:=aA (i:=3) o (aC_ (by omega))
    have G:=aA (i:=4) o (aC_ (by omega))
    have f0:=aE (i:=0) o;have f1:=aE (i:=1) o;have f2:=aE (i:=2) o;have f3:=aE (i:=3) o;have f4:=aE (i:=4) o;have ae:=aD o;clear o;go_wp2_with fail;go_roundg j
    case measure=>omega
    case rel=>exact⟨f++[v],_,_,O,ok,by simp,rfl,H6.out⟩
   ·have e1:¬(v.t:Int)<(a:Int):=by omega
    have V:=aB (X.out _ _ _ _ _ _ _ r.out hv);unfold SV.cells at V;clear T U X q HO r g D F C E G;go_wp2_with fail;go_ret;exact⟨f,y,d,rfl,V.out⟩
section
variable {fp:Nat->Value} {F:Nat->Prop} {w w':World} {sb mb n:Nat} {mo:Obj} {st:Nat->Option bI} {s:bI}
def UL(h:jV fp F w sb mb mo st s n)(a:Nat)(E:a/20<n)(N:n<=1000):
 Calls prog 110 #[.pointer (some ⟨sb,5,none⟩),.int .i64 a] w fun e w'=>∃(v:SV) (τ:bI),e=.returned (.tuple #[v.val,.bool true])/\st (20*(a/20))=some τ/\kR fp F w' v.val τ/\Below w.heap.size w w':=by
 obtain⟨fv,tv,ov,X,j,Z,h2,L,Y,G,h6,h7⟩:=h.blk;have r:=h.lt;have Q:a/20<j.length:=by omega
 obtain⟨k0,τ,z,p⟩:=G (a/20) Q;obtain⟨v,l,V,W⟩:=p.sv;have c5:w.cell? ⟨sb,5,none⟩=some X:=aA Z rfl;rcases L.2 with ⟨C,r2⟩|⟨g,u,aa,C,r2,T,r4,r5⟩
 ·omega
 ·subst C;have k:=XB (es:=j) (by rw[Y];exact L) fun i hi=>(G i hi).ok
  obtain⟨_,a0,O,P,H,J,I⟩:=k (a/20) Q;simp only[SV.val,Value.agg.injEq] at l;simp at l;obtain⟨A,K,D,M,B⟩:=l;rw[A] at O;rw[K] at P;rw[D] at H;rw[M] at J;rw[B] at I;have x:Below w.heap.size w (w.alloc (.cells #[.int .i64 0,.slice none 0 0,.slice none 0 0,.slice none 0 0,.int .i64 0] 108)):=(ay_ _ w).alloc (au_ _) _;have U:=h.grow x (fun _ h=>h) fun _ h=>av_ h
  have t:∀c m,ag_ n (a:Int) c m->m=decide (a%20=0)/\c=if a%20=0 then a/20 else a/20+1:=fun c m f=>by
   have l1:¬c<a/20:=fun q=>by have:=f.hi c (by omega) (au_ _);omega
   have l2:¬a/20+1<c:=fun q=>by have:=f.lo (a/20+1) q;omega
   by_cases d:a%20=0
   ·have l3:¬a/20<c:=fun q=>by have:=f.lo (a/20) q;omega
    have:c=a/20:=by omega
    subst this;rw[if_pos d];exact⟨by rw[f.fnd.2 ⟨E,by omega⟩];simp[d],rfl⟩
   ·have l3:¬c=a/20:=fun q=>by have:=f.hi c (by omega) (au_ _);omega
    rw[if_neg d];refine⟨?_,by omega⟩
    cases m with
    |false=>simp[d]
    |true=>have:=(f.fnd.1 rfl).2;omega
  refine(PB w sb g n u (if a%20=0 then a/20 else a/20+1) (a/20) (decide (a%20=0)) a v r (aD T) N c5 O P H J I ?_ E ((wG U a N).mono ?_)).mono ?_
  ·by_cases d:a%20=0
   ·exact av_ ⟨by simp[d],if_pos d⟩
   ·exact as_ ⟨by simp[d],if_neg d⟩
  ·rintro e w' ⟨c,m,rfl,o,f⟩;obtain⟨rfl,rfl⟩:=t _ _ f;refine⟨rfl,?_⟩;rw[World.size_alloc] at o;exact o
  ·rintro e w' ⟨rfl,o⟩;refine⟨v,τ,rfl,z,?_,o⟩
   have S:v.val=.agg #[.int .i64 j[a/20].a,j[a/20].b,j[a/20].c,j[a/20].d,.int .i64 j[a/20].e]:=by
    rw[A,K,D,M,B];rfl
   rw[S];exact p.keep (fun b y=>o.block b (h.fix b y).1) fun _ h=>h
end
section
variable {fp:Nat->Value} {F G:Nat->Prop} {w w':World} {sb mb n n':Nat} {mo:Obj} {ks:List aC} {tape:List Int} {s:bI} {L:List Nat}
def Live.fresh(h:Live fp F w sb mb mo ks tape s n L)(a:Live fp F w' sb mb mo ks tape s n L)(f:w'.heap[sb]?=w.heap[sb]?){b:Nat}(k:w.heap.size<=b)(c:b<w'.heap.size):Live fp F w' sb mb mo ks tape s n (b::L):=by
 refine⟨a.ses,a.tab,a.pow,a.low,a.hn,fun x d=>?_⟩
 rcases aG_.1 d with rfl|d
 ·have j:=h.ses.lt;have i:=h.low;refine⟨by omega,c,fun g=>by have:=(h.ses.fix _ g).1;omega,fun e=>?_,by omega,by have:=aD h.ses.map.1;omega⟩
  rw[nL f] at e;have:=(h.row e).2.1;omega
 ·exact a.loc x d
def sJ(y:Option Addr)(k d:Nat):List Nat:=(Value.ownBlock (.slice y k d)).toList
structure j1(fp:Nat->Value)(sb mb:Nat)(mo:Obj)(ks:List aC)(tape:List Int)(s:bI)(L:List Nat)(w:World)(F0:Nat->Prop)(n0 t0:Nat)(F:Nat->Prop)(n:Nat)(vs:List SV)(y:Option Addr)(d:Nat)(W:World):Prop where
 fs:Fs sb w W
 ext:Ext F0 F w.heap.size
 le:n0<=n
 own:W.ownsRow w.heap.size 108 5 (.slice y vs.length d) vs.length (sQ vs)
 live:Live fp F W sb mb mo ks tape s n (sJ y vs.length d++L)
 all:∀i (h:i<vs.length),∃τ,cE ks tape (t0+i)=some τ/\kR fp F W vs[i].val τ
structure StI(fp:Nat->Value)(sb mb:Nat)(mo:Obj)(ks:List aC)(tape:List Int)(s:bI)(L:List Nat)(w:World)(F0:Nat->Prop)(n0 t0 end_ K0:Nat)(gk b:Nat)(vs:List SV)(y:Option Addr)(d:Nat)(v:SV)(ok:Bool)(W:World):Prop where
 ok:ok=true
 gk:gk+vs.length=K0
 le:t0+vs.length<=end_
 blk:W.heap[b]?=some (.cells v.cells 108 (0,0))
 hb:w.heap.size<=b/\b∉sJ y vs.length d
 now:∃F n τ,j1 fp sb mb mo ks tape s (b::L) w F0 n0 t0 F n vs y d W/\cE ks tape (t0+vs.length)=some τ/\kR fp F W v.val τ/\τ.time/20<n
def ND(Z:Good ks)(aq:tape.length<=17592186044416)(h:Live fp F w sb mb mo ks tape s n L)(a:Nat)(h0:0<a)(h1:a<=s.time)(hn:n<=1000):
 Calls prog 120 #[.pointer (some ⟨sb,0,none⟩),.int .i64 a] w fun e w'=>∃l y d,e=.returned (.slice y l.length d)/\20*((a-1)/20)+l.length=a/\∃H n',j1 fp sb mb mo ks tape s L w F n (20*((a-1)/20)) H n' l y d w':=by
 have am:=(Z.sta h.ses.now).1.time;have ad:=h.ses.now;have bc:=h.hn;have J:=h.ses.lt;refine(JV w sb a (a+1-20*((a-1)/20)) w.heap.size (StI fp sb mb mo ks tape s L w F n (20*((a-1)/20)) a (a+1-20*((a-1)/20))) (fun l y d W=>20*((a-1)/20)+l.length=a/\∃H n',j1 fp sb mb mo ks tape s L w F n (20*((a-1)/20)) H n' l y d W) h0 (by omega) ((UL h.ses (a-1) (by omega) hn).mono ?_) (fun gk b l y d v ok W r=>?_) (fun gk b l y d v W r hv=>?_) (fun gk b l y d v W r hv=>?_) (fun gk b l y d v W r=>?_)).mono ?_
 ·rintro e w1 ⟨v,B,rfl,o,u,z⟩;have ac:Live fp F w1 sb mb mo ks tape s n L:=h.but (But.below z []) fun b z=>by cases z
  have M:Below w.heap.size w (w1.alloc (.cells v.cells 108)):=z.alloc z.size _;refine⟨v,rfl,rfl,by simp,by simp;omega,aM _ _ rfl _,⟨z.size,by simp[sJ,Value.ownBlock]⟩,F,n,B,⟨Fs.of_below M J,Ext.refl _ _,au_ _,World.ownsRow_nil _ _ _ _,by simpa [sJ,Value.ownBlock] using ac.alloc _,fun i Y=>by simp at Y⟩,by simpa using o,u.but ac (But.alloc _ _ []) (fun b z=>by cases z),?_⟩
  have:=(Z.sta o).2.1;omega
 ·obtain⟨H,n',B,j,_⟩:=r.now;have:=r.le;exact⟨r.blk,j.own,by omega,j.fs.size⟩
 ·obtain⟨H,n',B,j,o,u,P⟩:=r.now
  have ap:v.t=20*((a-1)/20)+l.length:=by
   obtain⟨s2,e1,e2,_⟩:=u.sv;obtain rfl:=SV.val_inj e1;rw[e2];exact(Z.sta o).2.1
  have ai:=(Z.sta o).2.1;have be:=r.gk;obtain⟨M,ae⟩:=r.hb;refine⟨gk-1,by omega,fun X ax I C f D=>?_⟩
  have av:=aD r.blk;have az:((W.alloc (.cells v.cells 108)).alloc (.cells v.cells 108)).heap.size=W.heap.size+2:=by simp
  have ba:=((j.live.alloc (.cells v.cells 108)).alloc (.cells v.cells 108)).drop (L':=sJ y l.length d++b::L) fun x c=>aJ_ _ (aJ_ _ c)
  have ab:But [] W ((W.alloc (.cells v.cells 108)).alloc (.cells v.cells 108)):=(But.alloc W _ []).trans (But.alloc _ _ []);have aa:But (sJ y l.length d) ((W.alloc (.cells v.cells 108)).alloc (.cells v.cells 108)) I:=⟨f.os,f.tape,f.output,f.size,fun k hk hm=>f.block k hk fun e=>hm (by simp[sJ,<-e])⟩
  have p:But (sJ y l.length d) W I:=by simpa using ab.trans aa
  have K:∀x∈sJ y l.length d,x∈sJ y l.length d++b::L:=fun x c=>aP_ _ c
  have ah:=j.live.but p K;have af:I.heap[sb]?=W.heap[sb]?:=p.blk sb j.live.ses.lt fun hm=>(j.live.loc sb (K sb hm)).2.2.2.2.1 rfl
  have au:X<I.heap.size:=by
   rcases C.2 with ⟨r1,_⟩|⟨g,bd,ay,r1,_,r3,_⟩
   ·cases r1
   ·cases r1;exact aD r3
  have q:Live fp H I sb mb mo ks tape s n' (X::b::L):=by
   rcases D with O|O
   ·exact ah.drop fun x c=>by
     rcases aG_.1 c with rfl|c
     ·exact aP_ _ (by simp[sJ,O])
     ·exact aL_ _ c
   ·exact(j.live.fresh ah af (by omega) au).drop fun x c=>by
     rcases aG_.1 c with rfl|c
     ·exact aS_ ..
     ·exact aJ_ _ (aL_ _ c)
  have S:X≠b:=by
   rcases D with O|O
   ·rintro rfl;exact ae (by simp[sJ,O])
   ·omega
  have aw:w.heap.size<=X:=by
   rcases D with O|O
   ·exact(j.own.lt _ O).1
   ·have:=j.fs.size;omega
  have aj:I.heap[b]?=some (.cells v.cells 108 (0,0)):=by rw[p.blk b av ae];exact r.blk
  have T:kR fp H I v.val B:=u.but j.live p K
  have V:∀i (h:i<l.length),∃B,cE ks tape (20*((a-1)/20)+i)=some B/\kR fp H I l[i].val B:=fun i Y=>by
   obtain⟨E,q1,q2⟩:=j.all i Y;exact⟨E,q1,q2.but j.live p K⟩
  have Q:Fs sb w I:=j.fs.but p (fun x c=>by
   simp only[sJ,Option.mem_toList] at c;exact(j.own.lt x c).1) J
  refine⟨aj,(GY Z q aq v B T (by rw[ai];exact o) P).mono ?_⟩
  rintro e w6 ⟨v',ok,rfl,G,m,k1,k2,k3,k4,k5,k6⟩
  have an:ok=true:=by
   cases ok with
   |true=>rfl
   |false=>
    obtain⟨x,ak,al⟩:=WI ad (t:=20*((a-1)/20)+l.length) (by omega)
    rw[o] at ak;cases ak;exact absurd al (k6 rfl)
  subst an;obtain⟨_,ar,a1,a2,a3,a4⟩:=k5 rfl;have ag:w6.heap[b]?=some (.cells v.cells 108 (0,0)):=by rw[q.blk k3 (by simp)];exact aj
  have ao:w6.heap[X]?=I.heap[X]?:=q.blk k3 (by simp)
  have A:But [b] w6 (dR w6 b v'):=But.set5 _ _ _;have N:∀x∈[b],x∈(X::b::L):=fun x c=>by rw[aD_.1 c];simp
  refine⟨v',true,rfl,⟨_,ag,by simp[SV.cells]⟩,rfl,by simp;omega,by simp;omega,qG ag rfl,⟨M,by simp[sJ,Value.ownBlock];exact fun e=>S e.symm⟩,G,m,ar,⟨?_,⟨fun x c=>k2.sub x (j.ext.sub x c),fun x c=>?_⟩,aF_ j.le k1,?_,?_,?_⟩,?_,a3.but k4 A N,a4⟩
  ·exact(Q.trans k3).but A (fun x c=>by rw[aD_.1 c];exact M) J
  ·rcases k2.new x c with c|c
   ·exact j.ext.new x c
   ·exact as_ (by have:=Q.size;omega)
  ·have:=aY (w1:=dR w6 b v') C fun k hk=>by
    simp[Value.ownBlock] at hk;subst hk;rw[cV _ _ _ _ S];exact ao
   simpa using this
  ·have:=k4.but A N;simpa [sJ,Value.ownBlock] using this
  ·intro i Y;rcases a6_ i l.length with U|U
   ·obtain⟨E,q1,q2⟩:=V i U;refine⟨E,q1,?_⟩;rw[bv_ U];exact(q.stR k3 k2 q2).but k4 A N
   ·obtain rfl:i=l.length:=by simp at Y;omega
    refine⟨B,o,?_⟩;simp only[bM_ (au_ _),Nat.sub_self,bV_];exact(q.stR k3 k2 T).but k4 A N
  ·rw[show 20*((a-1)/20)+(l++[v]).length=B.time+1 by simp;omega];exact a1
 ·obtain⟨H,n',B,j,o,u,P⟩:=r.now
  have ap:v.t=20*((a-1)/20)+l.length:=by
   obtain⟨s2,e1,e2,_⟩:=u.sv;obtain rfl:=SV.val_inj e1;rw[e2];exact(Z.sta o).2.1
  have bb:=r.le;have p:But [] W (W.alloc (.cells v.cells 108)):=But.alloc W _ [];refine⟨by omega,H,n',j.fs.but p (fun b z=>by cases z) J,j.ext,j.le,j.own.alloc _,(j.live.alloc _).drop fun x c=>?_,fun i Y=>?_⟩
  ·rcases aE_.1 c with c|c
   ·exact aJ_ _ (aP_ _ c)
   ·exact aJ_ _ (aL_ _ (aJ_ _ c))
  ·obtain⟨E,q1,q2⟩:=j.all i Y;exact⟨E,q1,q2.but j.live p fun b z=>by cases z⟩
 ·have:=r.ok;cases this
 ·rintro e w' ⟨l,y,d,rfl,h1,h2⟩;exact⟨l,y,d,rfl,h1,h2⟩
end
attribute [local go_sem] Oper.semAt_some
def MF(x:Option Addr)(n c:Nat)(W:World):Calls prog 121 #[.slice x n c] W fun e b=>e=.returned (.func (.func 172) #[] #[.pointer (some ⟨W.heap.size,0,none⟩)])/\b=W.alloc (.cells #[.slice x n c] 183):=by
 have d:∀(a:Value) (w:World),(Instr.makeFunc (.func 172) #[] #[a]).run prog w=.ok (.func (.func 172) #[] #[a]) w:=fun _ _=>rfl
 go_enter func121,ntmps121;go_wp2_with fail;go_ret;exact⟨rfl,rfl⟩
def WA(l bs g n c:Nat)(a:SV)(W:World)(Z:World->Prop)(y:n+1<=1000000)
 (k:W.cell? ⟨bs,0,none⟩=some (.slice (some ⟨g,0,none⟩) (n+1) c)) (j:bs<W.heap.size) (t:g<W.heap.size)
 (s:W.cell? ⟨g,n*5,none⟩=some (.int .i64 a.t)) (z:W.cell? ⟨g,n*5+1,none⟩=some (.slice a.x1 a.n1 a.c1)) (v:W.cell? ⟨g,n*5+2,none⟩=some (.slice a.x2 a.n2 a.c2)) (A:W.cell? ⟨g,n*5+3,none⟩=some (.slice a.x3 a.n3 a.c3)) (B:W.cell? ⟨g,n*5+4,none⟩=some (.int .i64 a.q))
 (h:Hid (YieldAt Fence.wide 0 prog l #[.int .i64 n,a.val] W fun e m=>e=.returned (.bool false)/\Z m)):
 Calls prog 172 #[.func (.yield l) #[] #[],.pointer (some ⟨bs,0,none⟩)] W fun e w'=>e=.returned (.tuple #[])/\Z w':=by
 obtain⟨x,f,b,d,q,i⟩:=h.out;have o:=aB i;unfold SV.val at q;have u:(0:Int)<=(n:Int):=by omega
 have C:(n:Int)<((n+1:Nat):Int):=by omega
 clear i h;go_enter func172,ntmps172;go_wp2_with fail;go_loopg [3] 0 (fun gk r wr=>r=.int .i64 n/\wr=W)
 case atStart=>exact⟨by go_num,rfl⟩
 case round=>
  obtain⟨rfl,rfl⟩:=hrel;refine(wpIn_wide (n:=0)).1 ?_;gi_wp2
  refine⟨rfl,o.out.mono ?_⟩;rintro e w ⟨rfl,p⟩;gi_wp2
  refine bodyPost_ret (results_none rfl _ _ _) rfl ⟨rfl,p⟩
def p8(args:Array Value)(W:World):(callFunc 172 args).run prog W=.ok (.enter 172 args) W:=(enters_of func172 (by kernel_rfl) rfl) args W
def FQ(l Q sb:Nat)(s:SV)(W:World)(Z:World->Prop)(U:W.cell? ⟨Q,0,none⟩=some (.pointer (some ⟨sb,0,none⟩)))(ag:Q<W.heap.size)(af:sb<W.heap.size)
 (k0:W.cell? ⟨sb,0,none⟩=some (.int .i64 s.t)) (k1:W.cell? ⟨sb,1,none⟩=some (.slice s.x1 s.n1 s.c1)) (k2:W.cell? ⟨sb,2,none⟩=some (.slice s.x2 s.n2 s.c2)) (k3:W.cell? ⟨sb,3,none⟩=some (.slice s.x3 s.n3 s.c3)) (k4:W.cell? ⟨sb,4,none⟩=some (.int .i64 s.q))
 (ht:0<s.t) (S:Nat->Nat->Nat->SV->World->Prop) (A E:SV->World->World->Prop) (F:SV->World->Nat->World->Prop)
 (HS:Hid (Calls prog 120 #[.pointer (some ⟨sb,0,none⟩),.int .i64 s.t] ((W.alloc (.cells #[.func (.yield l) #[] #[]] 132)).alloc (.cells s.cells 108)) fun e w'=>∃g n d s',e=.returned (.slice (some ⟨g,0,none⟩) (n+1) d)/\S g n d s' w'))
 (HG:Hid (∀g n d s' a,S g n d s' a->n+1<=1000000/\g<a.heap.size/\a.cell? ⟨g,n*5,none⟩=some (.int .i64 s'.t)/\a.cell? ⟨g,n*5+1,none⟩=some (.slice s'.x1 s'.n1 s'.c1)/\a.cell? ⟨g,n*5+2,none⟩=some (.slice s'.x2 s'.n2 s'.c2)/\a.cell? ⟨g,n*5+3,none⟩=some (.slice s'.x3 s'.n3 s'.c3)/\a.cell? ⟨g,n*5+4,none⟩=some (.int .i64 s'.q)/\
   ∀C,A s' a (((a.alloc (.cells #[.slice (some ⟨g,0,none⟩) (n+1) d] 183)).alloc (.deferred (some []))).alloc (.loop C))))
 (z:Hid (∀s' a b V r,F s' a b V->F s' a b (V.putObj (a.heap.size+1+1) (.loop r)))) (B:Hid (∀s' a V r,E s' a V->E s' a (V.putObj (a.heap.size+1+1) (.loop r))))
 (T:Hid (∀s' a V,A s' a V->F s' a V.heap.size (V.alloc (.cells s'.cells 108))/\a.heap.size+1+1<V.heap.size))
 (HY:Hid (∀s' a b V,F s' a b V->V.heap[b]?=some (.cells s'.cells 108 (0,0))/\V.cell? ⟨W.heap.size,0,none⟩=some (.func (.yield l) #[] #[])/\W.heap.size<V.heap.size/\YieldAt Fence.wide 0 prog l #[s'.val] V fun e N=>e=.returned (.bool false)/\(N.heap[a.heap.size+1]?=V.heap[a.heap.size+1]?/\N.heap[a.heap.size+1+1]?=V.heap[a.heap.size+1+1]?)/\E s' a N))
 (HE:Hid (∀s' a V,E s' a V->Z (V.putObj (a.heap.size+1) (.deferred none)))):
 Calls prog 119 #[.func (.yield l) #[] #[],.pointer (some ⟨Q,0,none⟩)] W fun e w'=>e=.returned (.tuple #[])/\Z w':=by
 unfold SV.cells at HS;have HT:=aB fun (w:World)=>nZ s.t s.q s.x1 s.x2 s.x3 s.n1 s.n2 s.n3 s.c1 s.c2 s.c3 w
 have e0:(0:Int)<(s.t:Int):=by omega
 refine(callsIn_wide (n:=0)).1 (callsIn_of_wp_marks func119 rfl trivial ?_ rfl);simp only[ntmps119,List.size_toArray,aB_,aI_,Nat.reduceAdd,Nat.reduceSub,Array.replicate_succ,Array.replicate_zero,List.push_toArray,List.append_toArray,by_,aY_];refine wpIn_wide.2 ?_;go_wp2_with fail;refine(HT.out _).mono ?_;rintro e w1 ⟨rfl,rfl⟩;go_wp2_with fail;refine wp_loop_rounds 1 ?_;rw[rounds_succ];go_wp2_with fail;refine HS.out.mono ?_;rintro e a ⟨g,n,d,s',rfl,I⟩;have HB:=aB (MF (some ⟨g,0,none⟩) (n+1) d a);go_wp2_with fail;refine HB.out.mono ?_;rintro e o ⟨rfl,rfl⟩;clear HB HS HT;go_wp2_with fail;obtain⟨g1,g2,c0,c1,c2,c3,c4,H⟩:=HG.out _ _ _ _ _ I;generalize q:a.alloc (.cells #[.slice (some ⟨g,0,none⟩) (n+1) d] 183)=o at H ⊢
 have j:o.heap.size=a.heap.size+1:=by rw[<-q];simp
 have X:o.heap[a.heap.size]?=some (.cells #[.slice (some ⟨g,0,none⟩) (n+1) d] 183 (0,0)):=by rw[<-q];exact aM _ _ rfl _
 have ad:o.heap[g]?=a.heap[g]?:=by rw[<-q];exact aA_ _ _ _ g2
 clear q I HG U k0 k1 k2 k3 k4
 refine wpIn_wide.1 (CC (τ:=Unit) (P:=prog) (gf:=172) (lb:= #[.pointer (some ⟨a.heap.size,0,none⟩)]) rfl p8 (fun _ x V=>x= #[.int .i64 n,SV.val s']/\A s' a V) (fun _ _ _=>False)
  (fun _ x a' V=>∃b,x= #[.int .i64 n,SV.val s']/\a'={ tmps:= #[.func (.yield l) #[] #[],.pointer (some ⟨Q,0,none⟩),.pointer (some ⟨W.heap.size,0,none⟩),.int .i64 s.t,.slice (some ⟨g,0,none⟩) (n+1) d,undef,.pointer (some ⟨b,0,none⟩),.pointer (some ⟨sb,0,none⟩),.pointer (some ⟨sb,0,none⟩),.pointer (some ⟨sb,0,none⟩),s.val,.int .i64 s.t,.int .i64 s.t,.bool true,.pointer (some ⟨sb,0,none⟩),.int .i64 s.t,.slice (some ⟨g,0,none⟩) (n+1) d,.slice (some ⟨g,0,none⟩) (n+1) d,.func (.func 172) #[] #[.pointer (some ⟨a.heap.size,0,none⟩)],.int .i64 n,SV.val s',undef,undef,undef,undef,undef,undef,undef,undef],defers:=[] }/\F s' a b V)
  (fun _ c x V=>c=.ret/\E s' a V) (fun _=>False) ?hps ?hAx ?hB ?hBx ?hZ ?hassign ?hbody ?hseq ?hdone ?hstop)
 case hps=>rintro t x V ⟨rfl,_⟩;rfl
 case hAx=>rintro t x a' V r ⟨b,h1,I,Y⟩;rw[j];exact⟨b,h1,I,z.out _ _ _ _ _ Y⟩
 case hB=>intro t x V r h;exact h
 case hBx=>rintro _ c x V r ⟨rfl,h⟩;rw[j];exact⟨rfl,B.out _ _ _ _ h⟩
 case hZ=>intro V r h;exact h
 case hassign=>
  rintro t x V K ⟨rfl,h⟩ hK;obtain⟨q1,q2⟩:=T.out _ _ _ h;have J:=aB (hK _ _ (aA_ _ _ _ (by rw[j];omega)) (aA_ _ _ _ (by rw[j];omega)) ⟨_,rfl,rfl,q1⟩)
  unfold SV.val SV.cells at J;clear hK q1 h;unfold SV.val;gi_wp2
  exact J.out
 case hbody=>
  rintro t x a' V ⟨b,rfl,rfl,h⟩ G;obtain⟨u,y2,y3,fn,tmps,f,p,M,hR⟩:=HY.out _ _ _ _ h;have HR:=aB hR;unfold SV.val at M;unfold SV.val;unfold SV.cells at u;have d0:=aA (i:=0) u rfl;have d1:=aA (i:=1) u rfl;have d2:=aA (i:=2) u rfl;have d3:=aA (i:=3) u rfl;have d4:=aA (i:=4) u rfl;have l1:=aD u;clear h hR u T HY z B HE;gi_wp2
  refine⟨rfl,(show RoundIn (Fence.wide.inRound (a.heap.size+1+1)) 0 prog l fn tmps f p V _ from HR.out).mono ?_⟩
  rintro e N ⟨rfl,hq,D⟩;have aa:=aB D;clear D HR M d0 d1 d2 d3 d4 y2;gi_wp2
  rw[j];exact⟨hq,rfl,aa.out⟩
 case hseq=>
  intro C Rdy Don h1 I h3 h4 Y hY;have ac:=hY () #[.int .i64 n,SV.val s'] _ ⟨rfl,H C⟩ Y;have L:∀k,k<o.heap.size->((o.alloc (.deferred (some []))).alloc (.loop C)).heap[k]?=o.heap[k]?:=fun k hk=>by rw[aA_ _ _ _ (by simp only[World.size_alloc];omega),aA_ _ _ _ hk]
  have ae:o.heap.size<=((o.alloc (.deferred (some []))).alloc (.loop C)).heap.size:=by simp;omega
  have m:∀i v,a.cell? ⟨g,i,none⟩=some v->((o.alloc (.deferred (some []))).alloc (.loop C)).cell? ⟨g,i,none⟩=some v:=fun i v hv=>(World.cell?_of_block ((L g (by omega)).trans ad)).trans hv
  refine callsIn_wide.2 ((WA (o.heap.size+1) a.heap.size g n d s' _ (fun O=>∃c x,(c=Code.ret/\E s' a O)/\Don c O/\x=(#[]:Array Value)) g1 (aA ((L _ (by omega)).trans X) rfl) (by omega) (by omega) (m _ _ c0) (m _ _ c1) (m _ _ c2) (m _ _ c3) (m _ _ c4) ?_).mono ?_)
  ·obtain⟨fn,tmps,f,p,M,hr⟩:=ac;refine⟨fn,tmps,f,p,M,hr.mono ?_⟩;rintro e O (⟨rfl,hf,_⟩|⟨rfl,c,⟨rfl,D⟩,y⟩)
   ·exact hf.elim
   ·exact⟨rfl,_,#[],⟨rfl,D⟩,y,rfl⟩
  ·rintro e O ⟨rfl,c,x,⟨rfl,D⟩,y,_⟩;exact⟨⟨_,rfl⟩,as_ ⟨(),_,#[],⟨rfl,D⟩,y⟩⟩
 case hdone=>intro V h;exact h.elim
 case hstop=>
  rintro _ c x V ⟨rfl,hz⟩ y G;rw[j] at y G ⊢
  have HZ:=aB (HE.out _ _ _ hz);have ab:=aB y;clear hz y HE T HY z B;refine wpIn_wide.2 ?_;go_wp2_with fail;refine⟨by simp,.inl ⟨_,_,rfl,run_takeDeferred ab.out,?_⟩⟩
  exact⟨_,results_none rfl _ _ _,rfl,HZ.out⟩
def FP(l a sb:Nat)(s:SV)(W:World)(c:W.cell? ⟨a,0,none⟩=some (.pointer (some ⟨sb,0,none⟩)))(f:a<W.heap.size)(d:sb<W.heap.size)
 (k0:W.cell? ⟨sb,0,none⟩=some (.int .i64 s.t)) (h:W.cell? ⟨sb,1,none⟩=some (.slice s.x1 s.n1 s.c1)) (k:W.cell? ⟨sb,2,none⟩=some (.slice s.x2 s.n2 s.c2)) (j:W.cell? ⟨sb,3,none⟩=some (.slice s.x3 s.n3 s.c3)) (m:W.cell? ⟨sb,4,none⟩=some (.int .i64 s.q))
 (b:s.t=0):Calls prog 119 #[.func (.yield l) #[] #[],.pointer (some ⟨a,0,none⟩)] W fun e w'=>e=.returned (.tuple #[])/\Below W.heap.size W w':=by
 have g:=aB fun (w:World)=>nZ 0 s.q s.x1 s.x2 s.x3 s.n1 s.n2 s.n3 s.c1 s.c2 s.c3 w
 rw[b] at k0;go_enter func119,ntmps119;go_wp2_with fail;refine(g.out _).mono ?_;rintro e i ⟨rfl,rfl⟩;go_wp2_with fail;refine wp_loop_rounds 1 ?_;rw[rounds_succ];go_wp2_with fail;go_end0;exact⟨rfl,((ay_ W.heap.size W).alloc (au_ _) _).alloc (by simp) _⟩
def IU:∀(l:List SV) (i j:Nat) (v:SV),l[i]?=some v->j<5->(sQ l)[i*5+j]?=([.int .i64 v.t,.slice v.x1 v.n1 v.c1,.slice v.x2 v.n2 v.c2,.slice v.x3 v.n3 v.c3,.int .i64 v.q]:List Value)[j]?
 |[],_,_,_,h,_=>by simp at h
 |x::l,0,j,v,h,a=>by
  simp at h;subst h;simp only[sQ,List.flatMap_cons,Nat.zero_mul,bk_];rw[a3_ (by simp;omega)]
 |x::l,i+1,j,v,h,a=>by
  have:=IU l i j v (by simpa using h) a
  rw[<-this];simp only[sQ,List.flatMap_cons];rw[aV_ (by simp;omega)]
  congr 1
  simp;omega
def bwd(s:bI)(k:Nat)(fd:Bool):Prop:=k<=s.time/\(fd=true↔k<s.time)
def MO(st:Nat->Option bI)(s τ:bI)(fd:Bool):Prop:=(fd=false/\τ=s/\s.time=0)\/(fd=true/\τ.time+1=s.time/\st τ.time=some τ)
def pD(C:MCtx)(M:List Nat)(t:List Nat × World)(s':SV)(W:World):Prop:=∃F n σ,Mvg C (M++(t.1++C.all)) F n C.s.time false W/\kR C.fp F W s'.val σ/\C.st σ.time=some σ/\σ.time+1=C.s.time/\σ.time/20<n/\∀b∈t.1,W.heap[b]?=t.2.heap[b]?/\C.w.heap.size+3+1<b
def GM(C:MCtx)(t:List Nat × World)(W:World):Prop:=∃F n k fd τ,Mvg C (t.1++C.all) F n k fd W/\C.st k=some τ/\MO C.st C.s τ fd/\∀b∈t.1,W.heap[b]?=t.2.heap[b]?/\C.w.heap.size+3+1<b
section
variable {C:MCtx} {M:List Nat} {t:List Nat × World} {s':SV} {W:World}
def pD.drop(h:pD C M t s' W):pD C [] (t.1,W) s' W:=by
 obtain⟨F,n,j,c,e,i,f,g,d⟩:=h;exact⟨F,n,j,c.more (c.live.drop fun b a=>aL_ _ a) (fun b a=>aL_ _ (aL_ _ a)),e,i,f,g,fun b a=>⟨rfl,(d b a).2⟩⟩
def pD.putD{d:Nat}(h:pD C M t s' W)(e:d∈t.1)(o:Obj):pD C M (t.1,W.putObj d o) s' (W.putObj d o):=by
 obtain⟨F,n,m,g,i,l,j,k,f⟩:=h
 have a:∀b∈[d],b∈M++(t.1++C.all)/\C.bo<b:=fun b c=>by
  obtain rfl:=aD_.1 c;exact⟨aL_ _ (aP_ _ e),by have:=(f b e).2;simp only[MCtx.bo];omega⟩
 exact⟨F,n,m,g.but (But.put _ _ _) a,i.but g.live (But.put _ _ _) fun b c=>(a b c).1,l,j,k,fun b c=>⟨rfl,(f b c).2⟩⟩
def GM.putD{d:Nat}(h:GM C t W)(e:d∈t.1)(o:Obj):GM C (t.1,W.putObj d o) (W.putObj d o):=by
 obtain⟨F,n,k,g,l,j,i,m,f⟩:=h
 have a:∀b∈[d],b∈t.1++C.all/\C.bo<b:=fun b c=>by
  obtain rfl:=aD_.1 c;exact⟨aP_ _ e,by have:=(f b e).2;simp only[MCtx.bo];omega⟩
 exact⟨F,n,k,g,l,j.but (But.put _ _ _) a,i,m,fun b c=>⟨rfl,(f b c).2⟩⟩
def pD.alloc(h:pD C [] t s' W)(o:Obj):pD C [W.heap.size] t s' (W.alloc o):=by
 obtain⟨F,n,j,c,e,i,f,g,d⟩:=h;refine⟨F,n,j,c.alloc o,e.but c.live (But.alloc _ _ []) (fun b a=>by cases a),i,f,g,fun b a=>⟨?_,(d b a).2⟩⟩
 rw[aA_ _ _ _ (c.live.loc b (aL_ _ (aP_ _ a))).2.1];exact(d b a).1
def pD.lt{b:Nat}(h:pD C M t s' W)(a:b∈t.1):b<W.heap.size/\C.w.heap.size+3+1<b:=by
 obtain⟨F,n,j,d,e,i,f,g,c⟩:=h;exact⟨(d.live.loc b (aL_ _ (aP_ _ a))).2.1,(c b a).2⟩
def pD.put(h:pD C M t s' W)(o:Obj):pD C M t s' (W.putObj (C.w.heap.size+3+1) o):=by
 obtain⟨F,n,j,d,e,i,f,g,a⟩:=h;exact⟨F,n,j,d.put o,d.putS e o,i,f,g,fun b c=>⟨by rw[World.putObj_heap_other (by have:=(a b c).2;omega)];exact(a b c).1,(a b c).2⟩⟩
def GM.put(h:GM C t W)(o:Obj):GM C t (W.putObj (C.w.heap.size+3+1) o):=by
 obtain⟨F,n,k,d,g,f,e,i,a⟩:=h;exact⟨F,n,k,d,g,f.put o,e,i,fun b c=>⟨by rw[World.putObj_heap_other (by have:=(a b c).2;omega)];exact(a b c).1,(a b c).2⟩⟩
end
def LB{C:MCtx}(hg:Good C.ks)(al:C.tape.length<=17592186044416){F:Nat->Prop}{n:Nat}(hn:n<=1000)(W0:World)(S:W0.heap.size=C.w.heap.size+3)
 (hM:∀W,Mvg C C.all F n C.s.time false ((W0.alloc (.deferred (some []))).alloc (.loop W))):
 WC prog 119 #[.pointer (some ⟨C.bb,0,none⟩)] W0 (pD C []) (fun _ _ _=>False) (GM C):=by
 intro W Rdy Don P ah J N hY;rw[S] at P ah hY J ⊢
 have v:=hM W;have aa:((W0.alloc (.deferred (some []))).alloc (.loop W)).heap.size=C.w.heap.size+3+1+1:=by simp[S]
 generalize (W0.alloc (.deferred (some []))).alloc (.loop W)=c at v N aa ⊢
 have G:=v.live.ses.now;have E:∀b,b=C.w.heap.size+3\/b=C.w.heap.size+3+1->b∈C.all:=fun b i=>by rcases i with rfl|rfl<;>simp[MCtx.all]
 obtain⟨s1,aj,k0,k1,k2,k3,k4,_⟩:=v.live.ses.cells
 have ac:s1.t=C.s.time:=by
  obtain⟨s2,e1,e2,_⟩:=aj.sv;obtain rfl:=SV.val_inj e1;exact e2
 by_cases ht:C.s.time=0
 ·refine(FP (C.w.heap.size+3+1) C.bb C.sb s1 c (aA v.cb.1 rfl) (aD v.cb.1) v.live.ses.lt k0 k1 k2 k3 k4 (by omega)).mono ?_
  rintro e W' ⟨rfl,i⟩;refine⟨⟨_,rfl⟩,([],c),⟨F,n,C.s.time,false,C.s,v.but (L':=[]) (But.below i []) (fun b i=>by cases i),G,av_ ⟨rfl,rfl,ht⟩,fun b i=>by cases i⟩,av_ (P c _ N (i.block _ (by omega)) (i.block _ (by omega)))⟩
 ·-- the worlds on the way
  generalize w:(c.alloc (.cells #[.func (.yield (C.w.heap.size+3+1)) #[] #[]] 132)).alloc (.cells s1.cells 108)=Ws
  have L:Mvg C ((c.heap.size+1)::c.heap.size::C.all) F n C.s.time false Ws:=by
   have:=(v.alloc (.cells #[.func (.yield (C.w.heap.size+3+1)) #[] #[]] 132)).alloc (.cells s1.cells 108);rw[World.size_alloc,w] at this;exact this
  have Q:Below c.heap.size c Ws:=by rw[<-w];exact((ay_ _ c).alloc (au_ _) _).alloc (by simp) _
  have ai:Ws.heap[c.heap.size]?=some (.cells #[.func (.yield (C.w.heap.size+3+1)) #[] #[]] 132 (0,0)):=by rw[<-w];exact(aA_ _ _ _ (by simp)).trans (aM _ _ rfl _)
  have ak:Rdy Ws:=P c _ N (Q.block _ (by omega)) (Q.block _ (by omega))
  refine(FQ (C.w.heap.size+3+1) C.bb C.sb s1 c (fun V=>∃t,GM C t V/\(Rdy V\/Don V)) (aA v.cb.1 rfl) (aD v.cb.1) v.live.ses.lt k0 k1 k2 k3 k4 (by omega)
   (fun g m s f a=>∃q B x,q.length=m+1/\q[m]?=some f/\20*((C.s.time-1)/20)+q.length=C.s.time/\j1 C.fp C.sb C.mb C.mo C.ks C.tape C.s ((c.heap.size+1)::c.heap.size::C.all) Ws F n (20*((C.s.time-1)/20)) B x q (some ⟨g,0,none⟩) s a)
   (fun f a V=>c.heap.size<a.heap.size/\(∃U,pD C [] ([c.heap.size,a.heap.size+1,a.heap.size+1+1],U) f V)/\V.heap[c.heap.size]?=some (.cells #[.func (.yield (C.w.heap.size+3+1)) #[] #[]] 132 (0,0))/\Rdy V)
   (fun f a V=>c.heap.size<a.heap.size/\(∃U,GM C ([c.heap.size,a.heap.size+1,a.heap.size+1+1],U) V)/\Don V)
   (fun f a b V=>c.heap.size<a.heap.size/\(∃U,pD C [b] ([c.heap.size,a.heap.size+1,a.heap.size+1+1],U) f V)/\V.heap[c.heap.size]?=some (.cells #[.func (.yield (C.w.heap.size+3+1)) #[] #[]] 132 (0,0))/\Rdy V/\V.heap[b]?=some (.cells f.cells 108 (0,0))/\a.heap.size+1+1<b)
   ?_ (fun g m s f a hS=>?_) (fun f a b V r Z=>?_) (fun f a V r hE=>?_) (fun f a V Z=>?_) (fun f a b V Z=>?_) (fun f a V hE=>?_)).mono ?_
  ·rw[w,ac];refine(ND hg al L.live C.s.time (by omega) (au_ _) hn).mono ?_
   rintro e a ⟨q,y,d,rfl,o,B,x,p⟩;have am:0<q.length:=by omega
   rcases p.own.2 with ⟨r1,r2⟩|⟨g,s,aq,r1,_⟩
   ·omega
   ·cases r1;obtain⟨m,X⟩:∃m,q.length=m+1:=⟨q.length-1,by omega⟩
    exact⟨g,m,d,q[m]'(by omega),by rw[X],q,B,x,X,aH_ _,o,p⟩
  ·obtain⟨q,B,x,q1,K,q3,D⟩:=hS;have ao:=(hg.sta G).1.time
   have l:∀j u,j<5->([.int .i64 f.t,.slice f.x1 f.n1 f.c1,.slice f.x2 f.n2 f.c2,.slice f.x3 f.n3 f.c3,.int .i64 f.q]:List Value)[j]?=some u->a.cell? ⟨g,m*5+j,none⟩=some u:=fun j u hj hu=>by
    have:=D.own.cells (g:=g) rfl (m*5+j) u (by rw[IU q m j f K hj];exact hu)
    rwa [nQ] at this
   have ad:g<a.heap.size:=(D.live.loc g (by simp[sJ,Value.ownBlock])).2.1
   refine⟨by omega,ad,l 0 _ (by omega) rfl,l 1 _ (by omega) rfl,l 2 _ (by omega) rfl,l 3 _ (by omega) rfl,l 4 _ (by omega) rfl,fun R1=>?_⟩
   have A:=D.live.drop (L':=(c.heap.size+1)::c.heap.size::C.all) fun b i=>aL_ _ i
   have ag:=L.fs D.fs A D.ext D.le;have z:=((ag.alloc (.cells #[.slice (some ⟨g,0,none⟩) (m+1) s] 183)).alloc (.deferred (some []))).alloc (.loop R1);have M:But [] a (((a.alloc (.cells #[.slice (some ⟨g,0,none⟩) (m+1) s] 183)).alloc (.deferred (some []))).alloc (.loop R1)):=((But.alloc a _ []).trans (But.alloc _ _ [])).trans (But.alloc _ _ []);simp only[World.size_alloc] at z;generalize ((a.alloc (.cells #[.slice (some ⟨g,0,none⟩) (m+1) s] 183)).alloc (.deferred (some []))).alloc (.loop R1)=V at z M ⊢
   have ap:Ws.heap.size<=a.heap.size:=D.fs.size;have an:c.heap.size+2=Ws.heap.size:=by rw[<-w];simp
   have I:∀b∈(c.heap.size+1)::c.heap.size::C.all,V.heap[b]?=Ws.heap[b]?:=fun b i=>(M.blk b (A.loc b i).2.1 (by simp)).trans (L.live.blk D.fs i)
   obtain⟨τ,ab,Y⟩:=D.all m (by omega)
   have af:q[m]'(by omega)=f:=by rw[aH_ (by omega)] at K;exact Option.some.inj K
   rw[af] at Y;have ae:=(hg.sta ab).2.1;have ar:C.s.time/20<x:=A.hn;refine⟨by omega,⟨V,B,x,τ,z.more (z.live.drop fun b i=>?_) (fun b i=>by simp[i]),Y.but A M (fun b i=>by cases i),by unfold MCtx.st;rw[ae];exact ab,by omega,by omega,fun b i=>⟨rfl,?_⟩⟩,?_,?_⟩
   ·simp only[by_,aY_,aG_] at i ⊢
    rcases i with rfl|rfl|rfl|i
    ·simp
    ·simp
    ·simp
    ·simp[i]
   ·simp only[aG_,aQ_,or_false] at i;rcases i with rfl|rfl|rfl<;>omega
   ·rw[I _ (by simp)];exact ai
   ·exact P Ws _ ak (I _ (by simp[E _ (av_ rfl)])) (I _ (by simp[E _ (as_ rfl)]))
  ·obtain⟨H,⟨U,o⟩,p,T,h4,h5⟩:=Z;have hl:=o.lt (b:=a.heap.size+1+1) (by simp)
   exact⟨H,⟨_,o.putD (d:=a.heap.size+1+1) (by simp) _⟩,by rw[World.putObj_heap_other (by omega)];exact p,P V _ T (World.putObj_heap_other (by omega)) (World.putObj_heap_other (by omega)),by rw[World.putObj_heap_other (by omega)];exact h4,h5⟩
  ·obtain⟨H,⟨U,o⟩,p⟩:=hE
   have hl:C.w.heap.size+3+1<a.heap.size+1+1:=by
    obtain⟨B,x,k,fd,τ,q1,K,q3,O⟩:=o;exact(O _ (by simp)).2
   exact⟨H,⟨_,o.putD (d:=a.heap.size+1+1) (by simp) _⟩,J V _ p (World.putObj_heap_other (by omega)) (World.putObj_heap_other (by omega))⟩
  ·obtain⟨H,⟨U,o⟩,p,T⟩:=Z;have hl:=o.lt (b:=a.heap.size+1+1) (by simp)
   have hy:=o.lt (b:=c.heap.size) (by simp)
   refine⟨⟨H,⟨U,o.alloc _⟩,by rw[aA_ _ _ _ hy.1];exact p,P V _ T (aA_ _ _ _ (by omega)) (aA_ _ _ _ (by omega)),aM _ _ rfl _,hl.1⟩,hl.1⟩
  ·obtain⟨H,⟨U,o⟩,p,T,h4,h5⟩:=Z;refine⟨h4,aA p rfl,aD p,?_⟩;refine(hY ([c.heap.size,a.heap.size+1,a.heap.size+1+1],V) f V o.drop T).mono ?_;rintro e V' (⟨_,hf,_⟩|⟨rfl,hE,hD⟩)
   ·exact hf.elim
   ·obtain⟨B,x,k,fd,τ,q1,K,q3,O⟩:=hE;exact⟨rfl,⟨(O _ (by simp)).1,(O _ (by simp)).1⟩,H,⟨V,B,x,k,fd,τ,q1,K,q3,O⟩,hD⟩
  ·obtain⟨H,⟨U,o⟩,p⟩:=hE
   have hl:C.w.heap.size+3+1<a.heap.size+1:=by
    obtain⟨B,x,k,fd,τ,q1,K,q3,O⟩:=o;exact(O _ (by simp)).2
   exact⟨_,o.putD (d:=a.heap.size+1) (by simp) _,as_ (J V _ p (World.putObj_heap_other (by omega)) (World.putObj_heap_other (by omega)))⟩
  ·rintro e W' ⟨rfl,h⟩;obtain⟨t,o,p⟩:=h;exact⟨⟨_,rfl⟩,t,o,p⟩
def p7(args:Array Value)(W:World):(callFunc 119 args).run prog W=.ok (.enter 119 args) W:=(enters_of func119 (by kernel_rfl) rfl) args W
section
variable {fp:Nat->Value} {F:Nat->Prop} {w:World} {sb mb n:Nat} {mo:Obj} {ks:List aC} {tape:List Int} {s:bI} {L:List Nat}
def UV(hg:Good ks)(ap:tape.length<=17592186044416)(h:Live fp F w sb mb mo ks tape s n L)(P:Nat)(ao:P∈L)(T:w.heap[P]?=some (.cells #[.pointer (some ⟨sb,0,none⟩)] 39 (0,0))):
 Calls prog 64 #[.pointer (some ⟨sb,0,none⟩),.func (.func 119) #[] #[.pointer (some ⟨P,0,none⟩)],.func (.func 66) #[] #[]] w fun e w'=>∃b,e=.returned (.bool b)/\JF fp sb mb mo ks tape L (MO (cE ks tape) s) w b w':=by
 obtain⟨U,ak,k0,k1,k2,k3,k4,_⟩:=h.ses.cells;have A:=h.ses.lt;have au:=h.count hg;obtain⟨C,m⟩:∃C:MCtx,C=⟨fp,sb,mb,mo,ks,tape,s,fun _=>true,P,.func (.func 66) #[] #[],w,L,bwd s⟩:=⟨_,rfl⟩
 have aa:Good C.ks:=by rw[m];exact hg
 have a:C.w=w:=by rw[m]
 have af:C.s=s:=by rw[m]
 have E:C.st=cE ks tape:=by rw[m];rfl
 have X:C.le=bwd C.s:=by rw[m]
 refine IQ (τ:=List Nat × World) w sb 119 66 #[.pointer (some ⟨P,0,none⟩)] #[] U (fun b w'=>JF fp sb mb mo ks tape L (MO (cE ks tape) s) w b w')
  (pD C []) (fun _ _ _=>False) (fun t l b W=>pD C [b] t l W/\W.heap[b]?=some (.cells l.cells 108 (0,0))/\C.w.heap.size+3+1<b) (GM C) A k0 k1 k2 k3 k4 p7 XF
  (fun t l b W r h=>?_) (fun t l W r h=>h) (fun t W r h=>?_) (fun t l W h=>?_) (fun t l b W h=>?_) (fun t W hE=>?_) (fun z j=>?_)
 ·obtain⟨f,h2,D⟩:=h;rw[<-a];exact⟨f.put _,by rw[World.putObj_heap_other (by omega)];exact h2,D⟩
 ·rw[<-a];exact h.put _
 ·have O:C.w.heap.size+3+1<W.heap.size:=by
   obtain⟨F,n,σ,f,_⟩:=h;exact f.lt
  rw[<-a];exact⟨⟨h.alloc _,aM _ _ rfl _,O⟩,O⟩
 ·obtain⟨⟨F,n,σ,f,h2,D,h4,h5,h6⟩,h9,al⟩:=h;have O:=f.lt;have I:=f.cf;have o:=f.co;obtain⟨s2,τ,Z,a2,Q,a4⟩:=f.ct;have q:=f.set h2 D h5 (by rw[X];exact⟨by omega,by simp;omega⟩)
  have y:C.bt=w.heap.size+1:=by rw[<-a];rfl
  have v:C.bo=w.heap.size+1+1:=by rw[<-a];rfl
  have ai:C.bf=w.heap.size:=by rw[<-a];rfl
  rw[a] at O al;rw[ai] at I;rw[v] at o;rw[y] at Z;have aq:C.fv=.func (.func 66) #[] #[]:=by rw[m]
  rw[aq] at I;refine⟨h9,I,⟨_,Z,by simp[SV.cells]⟩,⟨_,o⟩,by omega,by omega,by omega,?_⟩
  have S:But ([C.bt]++[C.bo]) W ((dR W C.bt l).setCell ⟨C.bo,0,none⟩ (.bool true)):=(But.set5 W C.bt l).trans (But.set _ _ _);have B:∀x,w.heap.size+1+1<x->x<W.heap.size->((dR W C.bt l).setCell ⟨C.bo,0,none⟩ (.bool true)).heap[x]?=W.heap[x]?:=fun x N an=>S.blk x an (by simp[y,v];omega)
  have ag:W.heap.size<=((dR W C.bt l).setCell ⟨C.bo,0,none⟩ (.bool true)).heap.size:=S.size;have ad:∀b∈t.1,b<W.heap.size:=fun b d=>(f.live.loc b (aL_ _ (aP_ _ d))).2.1
  rw[<-v,<-y];generalize (dR W C.bt l).setCell ⟨C.bo,0,none⟩ (.bool true)=V at q B ag ⊢
  refine(vK l V).mono ?_;rintro e W' ⟨rfl,d⟩;refine⟨true,rfl,⟨by rw[d.block _ (by omega)];exact B _ (by omega) (by omega),by rw[d.block _ (by omega)];exact B _ (by omega) (by omega)⟩,fun _=>?_,fun hp=>by cases hp⟩
  refine⟨F,n,σ.time,true,σ,(q.but (But.below d []) fun b d=>by cases d).more ((q.live.but (But.below d []) fun b d=>(by cases d)).drop fun x N=>aL_ _ N) (fun x N=>aL_ _ N),D,as_ ⟨rfl,h4,D⟩,fun b u=>⟨?_,(h6 b u).2⟩⟩
  have N:=(h6 b u).2;rw[a] at N;rw[d.block _ (by have:=ad b u;omega),B b (by omega) (ad b u)]
  exact(h6 b u).1
 ·obtain⟨F,n,k,fd,τ,f,h2,D,h6⟩:=hE;replace f:Mvg C C.all F n k fd W:=f.more (f.live.drop fun b d=>aL_ _ d) (fun _ h=>h)
  obtain⟨s2,ac,Z,a2,Q,a4⟩:=f.ct;obtain rfl:ac=τ:=by rw[h2] at Q;cases Q;rfl
  have H:=(aa.sta Q).2.1;have o:=f.co;have O:=f.lt;have M:=f.live;have ab:=f.fr.1;have J:=f.fr.2.2;have y:C.bt=w.heap.size+1:=by rw[<-a];rfl
  have v:C.bo=w.heap.size+1+1:=by rw[<-a];rfl
  rw[y] at Z;rw[v] at o;rw[a] at O;rw[m] at M ab J;rw[E] at Q;rw[m] at a2;obtain⟨_,_,_,_,_,_,_,c,ar,am⟩:=M.ses.cells;refine⟨s2,fd,Z,o,⟨c,_,ar,am⟩,?_⟩;obtain⟨g1,g2⟩:=M.go a2 (by rw[H];exact Q) (by rw[H];exact a4)
  have ae:∀b∈[w.heap.size+3],b∈C.all:=fun b d=>by
   obtain rfl:=aD_.1 d;simp[MCtx.all,a]
  rw[E,af] at D;rw[m] at ae;refine⟨F,n,ac,(g1.but (But.put _ (w.heap.size+3) _) ae).drop fun b d=>by simp[MCtx.all,d],D,(ab.trans g2).but (But.put _ (w.heap.size+3) _) (fun b d=>?_) A⟩
  obtain rfl:=aD_.1 d;show w.heap.size<=w.heap.size+3
  omega
 ·have Y:z.heap.size=w.heap.size+3:=by rw[j];simp
  have ah:∀b,F b->b<w.heap.size:=fun b d=>(h.ses.fix b d).1
  have p:∀g,Below w.heap.size w ((z.alloc (.deferred (some []))).alloc (.loop g)):=fun g=>by
   rw[j];exact(((((ay_ _ w).alloc (au_ _) _).alloc (by simp only[World.size_alloc];omega) _).alloc (by simp only[World.size_alloc];omega) _).alloc (by simp only[World.size_alloc];omega) _).alloc (by simp only[World.size_alloc];omega) _
  have aj:∀g,kR fp F ((z.alloc (.deferred (some []))).alloc (.loop g)) U.val s:=fun g=>ak.keep (fun b d=>(p g).block b (ah b d)) fun _ h=>h
  have K:∀g k,k<z.heap.size->((z.alloc (.deferred (some []))).alloc (.loop g)).heap[k]?=z.heap[k]?:=fun g k hk=>by rw[aA_ _ _ _ (by simp only[World.size_alloc];omega),aA_ _ _ _ hk]
  have G:C.bb=P:=by rw[m]
  rw[<-G];refine LB (C:=C) (F:=F) (n:=n) aa (by rw[m];exact ap) (by omega) z (by rw[a];exact Y) (fun g=>?_)
  clear G
  ·have i:=((((h.alloc (.cells #[.func (.func 66) #[] #[]] 132)).alloc (.cells U.cells 108)).alloc (.cells #[.bool false] 4)).alloc (.deferred (some []))).alloc (.loop g);simp only[World.size_alloc] at i;rw[<-j] at i;have J:∀b∈L,b<w.heap.size:=fun b d=>(h.loc b d).2.1
   have c1:z.heap[w.heap.size]?=some (.cells #[.func (.func 66) #[] #[]] 132 (0,0)):=by
    rw[j,aA_ _ _ _ (by simp only[World.size_alloc];omega),aA_ _ _ _ (by simp only[World.size_alloc];omega)];exact aM _ _ rfl _
   have c2:z.heap[w.heap.size+1]?=some (.cells U.cells 108 (0,0)):=by
    rw[j,aA_ _ _ _ (by simp only[World.size_alloc];omega)];exact aM _ _ (by simp only[World.size_alloc]) _
   have c3:z.heap[w.heap.size+1+1]?=some (.cells #[.bool false] 4 (0,0)):=by
    rw[j];exact aM _ _ (by simp only[World.size_alloc]) _
   rw[m];exact⟨i,fun _ h=>h,by rw[K g _ (by simp only[MCtx.bf];omega)];exact c1,⟨by rw[(p g).block _ (aD T)];exact T,ao⟩,⟨U,s,by rw[K g _ (by simp only[MCtx.bt];omega)];exact c2,aj g,h.ses.now,h.hn⟩,by rw[K g _ (by simp only[MCtx.bo];omega)];exact c3,⟨au_ _,by simp⟩,Fs.of_below (p g) A,A,J⟩
def QL(sb:Nat)(W:World):Calls prog 67 #[.pointer (some ⟨sb,0,none⟩)] W fun e b=>e=.returned (.func (.func 119) #[] #[.pointer (some ⟨W.heap.size,0,none⟩)])/\b=W.alloc (.cells #[.pointer (some ⟨sb,0,none⟩)] 39):=by
 have c:∀(a:Value) (w:World),(Instr.makeFunc (.func 119) #[] #[a]).run prog w=.ok (.func (.func 119) #[] #[a]) w:=fun _ _=>rfl
 go_enter func67,ntmps67;go_wp2_with fail;go_ret;exact⟨rfl,rfl⟩
def F2(sb:Nat)(w:World)(P:Bool->World->Prop)
 (a:Hid (Calls prog 64 #[.pointer (some ⟨sb,0,none⟩),.func (.func 119) #[] #[.pointer (some ⟨w.heap.size,0,none⟩)],.func (.func 66) #[] #[]] (w.alloc (.cells #[.pointer (some ⟨sb,0,none⟩)] 39)) fun e w'=>∃b,e=.returned (.bool b)/\P b w')):
 Calls prog 30 #[.pointer (some ⟨sb,0,none⟩)] w fun e w'=>∃b,e=.returned (.bool b)/\P b w':=by
 have d:=aB (QL sb w);go_enter func30,ntmps30;go_wp2_with fail;refine d.out.mono ?_;rintro e g ⟨rfl,rfl⟩;clear d;go_wp2_with fail;refine a.out.mono ?_;rintro e h ⟨b,rfl,c⟩;have f:=aB c;clear c a;go_wp2_with fail;go_ret;exact⟨b,rfl,f.out⟩
def P8(i:Good ks)(c:tape.length<=17592186044416)(h:Live fp F w sb mb mo ks tape s n L):
 Calls prog 30 #[.pointer (some ⟨sb,0,none⟩)] w fun e w'=>∃b,e=.returned (.bool b)/\JF fp sb mb mo ks tape L (MO (cE ks tape) s) w b w':=by
 refine F2 sb w _ ((UV i c (h.alloc (.cells #[.pointer (some ⟨sb,0,none⟩)] 39)) w.heap.size (aS_ ..) (aM _ _ rfl _)).mono ?_);rintro e w' ⟨b,rfl,G,d,j,g,f,k⟩;have a:Below w.heap.size w (w.alloc (.cells #[.pointer (some ⟨sb,0,none⟩)] 39)):=(ay_ _ w).alloc (au_ _) _;exact⟨b,rfl,G,d,j,g.drop fun b l=>aJ_ _ l,f,(Fs.of_below a h.ses.lt).trans k⟩
end
end Go.Proofs.YtblbkfdhjfppkaaGreatDoor
