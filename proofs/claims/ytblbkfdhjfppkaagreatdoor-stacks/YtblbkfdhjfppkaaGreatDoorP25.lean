/- Contracts of the program: the latest state that is kept. -/
import Derived.Test.YtblbkfdhjfppkaaGreatDoorP24
set_option linter.defProp false
set_option maxRecDepth 100000
set_option maxHeartbeats 4000000
namespace Go.Proofs.YtblbkfdhjfppkaaGreatDoor
open Hs
open _root_.Go.Proofs.Tryz(prog)
open Go.RowKit
def PB(w:World)(sb g n L l j:Nat)(J:Bool)(p:Int)(a:SV)(I:sb<w.heap.size)(z:g<w.heap.size)(hn:n<=1000)
 (t:w.cell? ⟨sb,5,none⟩=some (.slice (some ⟨g,0,none⟩) n L))
 (y:w.cell? ⟨g,j*6+1,none⟩=some (.int .i64 a.t)) (r:w.cell? ⟨g,j*6+2,none⟩=some (.slice a.x1 a.n1 a.c1)) (q:w.cell? ⟨g,j*6+3,none⟩=some (.slice a.x2 a.n2 a.c2)) (x:w.cell? ⟨g,j*6+4,none⟩=some (.slice a.x3 a.n3 a.c3)) (o:w.cell? ⟨g,j*6+5,none⟩=some (.int .i64 a.q))
 (hj:(J=true/\l=j)\/(J=false/\l=j+1)) (aa:j<n)
 (P:Hid (Calls prog 162 #[.pointer (some ⟨sb,5,none⟩),.int .i64 p] (w.alloc (.cells #[.int .i64 0,.slice none 0 0,.slice none 0 0,.slice none 0 0,.int .i64 0] 108)) fun e D=>e=.returned (.tuple #[.int .i64 l,.bool J])/\Below (w.heap.size+1) (w.alloc (.cells #[.int .i64 0,.slice none 0 0,.slice none 0 0,.slice none 0 0,.int .i64 0] 108)) D)):
 Calls prog 110 #[.pointer (some ⟨sb,5,none⟩),.int .i64 p] w fun e D=>e=.returned (.tuple #[a.val,.bool true])/\Below w.heap.size w D:=by
 have Y:=aB (aW_ t (aW_ y (aW_ r (aW_ q (aW_ x o)))));clear t y r q x o;go_enter Tryz.func110,Tryz.ntmps110;go_wp2_with fail;refine P.out.mono ?_;rintro e m ⟨rfl,B⟩;have h:Below w.heap.size w m:=((ay_ w.heap.size w).alloc (au_ _) _).trans (B.mono (by omega))
 have c:m.heap[w.heap.size]?=some (.cells #[.int .i64 0,.slice none 0 0,.slice none 0 0,.slice none 0 0,.int .i64 0] 108 (0,0)):=(B.block _ (by omega)).trans (aM _ _ rfl _)
 obtain⟨t,y,r,q,x,o⟩:=Y.out;have k:∀(b i:Nat) (v:Value),b<w.heap.size->w.cell? ⟨b,i,none⟩=some v->m.cell? ⟨b,i,none⟩=some v:=fun b i v F hv=>(World.cell?_of_block (h.block b F)).trans hv
 have Z:=k _ _ _ I t;have d1:=k _ _ _ z y;have d2:=k _ _ _ z r;have U:=k _ _ _ z q;have d4:=k _ _ _ z x;have N:=k _ _ _ z o;have M:=aA (i:=0) c rfl;have z1:=aA (i:=1) c rfl;have V:=aA (i:=2) c rfl;have z3:=aA (i:=3) c rfl;have z4:=aA (i:=4) c rfl;have O:=aE (i:=0) c;have T:=aE (i:=1) c;have Q:=aE (i:=2) c;have X:=aE (i:=3) c;have S:=aE (i:=4) c;have lz:=aD c;have u:=aB (mR (W:=m) (s:=a) c (by simp) rfl)
 have A:=aB (lO a h (au_ _));unfold dR at u A;have q1:(0:Int)<=(j:Int):=by omega
 have q2:(j:Int)<(n:Int):=by omega
 clear B h c k Y t y r q x o P;rcases hj with ⟨rfl,rfl⟩|⟨rfl,rfl⟩
 ·go_wp2_with fail;have d:=u.out;have f:=A.out;clear u A M z1 V z3 z4 O T Q X S d1 d2 U d4 Z N;generalize ((((m.setCell ⟨w.heap.size,0,none⟩ (.int .i64 a.t)).setCell ⟨w.heap.size,1,none⟩ (.slice a.x1 a.n1 a.c1)).setCell ⟨w.heap.size,2,none⟩ (.slice a.x2 a.n2 a.c2)).setCell ⟨w.heap.size,3,none⟩ (.slice a.x3 a.n3 a.c3)).setCell ⟨w.heap.size,4,none⟩ (.int .i64 a.q)=W3 at d f ⊢
  obtain⟨H,E,K,C,G⟩:=d;exact bodyPost_ret (v:=.tuple #[a.val,.bool true]) (by simp[results,Tryz.results110,go_sem,H,E,K,C,G,SV.val]) rfl ⟨rfl,f⟩
 ·have q3:(((j+1:Nat):Int)==0)=false:=by simp;omega
  go_wp2_with fail;have d:=u.out;have f:=A.out;clear u A M z1 V z3 z4 O T Q X S d1 d2 U d4 Z N;generalize ((((m.setCell ⟨w.heap.size,0,none⟩ (.int .i64 a.t)).setCell ⟨w.heap.size,1,none⟩ (.slice a.x1 a.n1 a.c1)).setCell ⟨w.heap.size,2,none⟩ (.slice a.x2 a.n2 a.c2)).setCell ⟨w.heap.size,3,none⟩ (.slice a.x3 a.n3 a.c3)).setCell ⟨w.heap.size,4,none⟩ (.int .i64 a.q)=W3 at d f ⊢
  obtain⟨H,E,K,C,G⟩:=d;exact bodyPost_ret (v:=.tuple #[a.val,.bool true]) (by simp[results,Tryz.results110,go_sem,H,E,K,C,G,SV.val]) rfl ⟨rfl,f⟩
def Y0:(prog.info? 108).map (fun i=>(i.zero,i.size,i.bytes))=some (some (.agg #[.int .i64 0,.slice none 0 0,.slice none 0 0,.slice none 0 0,.int .i64 0]),5,88):=by kernel_rfl
def L7(w:World)(a c d e b:Value):∀j u,([a,c,d,e,b]:List Value)[j]?=some u->(w.alloc (.cells #[a,c,d,e,b] 108)).cell? ((⟨w.heap.size,0,none⟩:Addr).add j)=some u:=by
 intro j u f;exact World.news_of_block (cs:= #[a,c,d,e,b]) (aM _ _ rfl _) j u f
def U7(v:SV):∀u∈([.int .i64 v.t,.slice v.x1 v.n1 v.c1,.slice v.x2 v.n2 v.c2,.slice v.x3 v.n3 v.c3,.int .i64 v.q]:List Value),u.oneCell'=true:=by
 intro u a;simp at a;rcases a with rfl|rfl|rfl|rfl|rfl<;>rfl
def sQ(l:List SV):List Value:=l.flatMap fun v=>[.int .i64 v.t,.slice v.x1 v.n1 v.c1,.slice v.x2 v.n2 v.c2,.slice v.x3 v.n3 v.c3,.int .i64 v.q]
def UW(l:List SV)(v:SV):sQ (l++[v])=sQ l++[.int .i64 v.t,.slice v.x1 v.n1 v.c1,.slice v.x2 v.n2 v.c2,.slice v.x3 v.n3 v.c3,.int .i64 v.q]:=by simp[sQ]
def JV(w:World)(sb a K0 base:Nat)(I:Nat->Nat->List SV->Option Addr->Nat->SV->Bool->World->Prop)(R:List SV->Option Addr->Nat->World->Prop)(ae:0<a)(aa:a<=1000)
 (HL:Hid (Calls prog 110 #[.pointer (some ⟨sb,5,none⟩),.int .i64 ((a-1:Nat):Int)] w fun e A=>∃v,e=.returned (.tuple #[SV.val v,.bool true])/\I K0 A.heap.size [] none 0 v true (A.alloc (.cells v.cells 108))))
 (U:Hid (∀gk b f y d v ok W,I gk b f y d v ok W->W.heap[b]?=some (.cells v.cells 108 (0,0))/\W.ownsRow base 108 5 (.slice y f.length d) f.length (sQ f)/\f.length<=1000/\base<=W.heap.size))
 (V:Hid (∀gk b f y d v W,I gk b f y d v true W->v.t<a->∃j,gk=j+1/\∀J n (E:World),E.ownsRow base 108 5 (.slice (some ⟨J,0,none⟩) (f.length+1) n) (f.length+1) (sQ (f++[v]))->((W.alloc (.cells v.cells 108)).alloc (.cells v.cells 108)).grownBy E (Value.ownBlock (.slice y f.length d))->(Value.ownBlock (.slice y f.length d)=some J\/J=W.heap.size+2)->
   E.heap[b]?=some (.cells v.cells 108 (0,0))/\Calls prog 111 #[.pointer (some ⟨sb,0,none⟩),v.val] E fun e A=>∃N ok,e=.returned (.tuple #[SV.val N,.bool ok])/\(∃c,A.heap[b]?=some (.cells c 108 (0,0))/\c.size=5)/\I j b (f++[v]) (some ⟨J,0,none⟩) n N ok (dR A b N)))
 (Y:Hid (∀gk b f y d v W,I gk b f y d v true W->¬v.t<a->R f y d (W.alloc (.cells v.cells 108)))) (s:Hid (∀gk b f y d v W,I gk b f y d v false W->R f y d W)):
 Calls prog 120 #[.pointer (some ⟨sb,0,none⟩),.int .i64 a] w fun e A=>∃f y d,e=.returned (.slice y f.length d)/\R f y d A:=by
 obtain⟨i0,hi,ad,ab,Z⟩:=info_parts Y0;have e0:((a:Nat):Int)-1=((a-1:Nat):Int):=by omega
 go_enter Tryz.func120,Tryz.ntmps120;go_wp2_with fail;refine HL.out.mono ?_;rintro e w1 ⟨v0,rfl,h1⟩;have H1:=aB h1;unfold SV.cells at H1;unfold SV.val;clear h1 HL;go_wp2_with fail;go_loopg [5,7] K0 (fun gk s5 s7 wr=>∃f y d v ok,s5=.slice y f.length d/\s7=.bool ok/\I gk w1.heap.size f y d v ok wr)
 case atStart=>exact⟨[],_,_,_,_,rfl,rfl,H1.out⟩
 case round=>
  obtain⟨f,y,d,v,ok,rfl,rfl,P⟩:=hrel;cases ok
  ·have X:=aB (s.out _ _ _ _ _ _ _ P);clear P U V Y s;go_wp2_with fail;go_ret;exact⟨f,y,d,rfl,X.out⟩
  ·obtain⟨g,u,ah,ai⟩:=U.out _ _ _ _ _ _ _ _ P;unfold SV.cells at g;have D:=aA (i:=0) g rfl;have L:=aA (i:=1) g rfl;have H:=aA (i:=2) g rfl;have F:=aA (i:=3) g rfl;have K:=aA (i:=4) g rfl;have ac:=aD g;have HT:=aB (nZ v.t v.q v.x1 v.x2 v.x3 v.n1 v.n2 v.n3 v.c1 v.c2 v.c3 wr);have HO:=aB u;have r:=aB P;clear u P;go_wp2_with fail;refine HT.out.mono ?_;rintro e G ⟨rfl,rfl⟩;clear HT;by_cases hv:v.t<a
   ·obtain⟨j,rfl,hN⟩:=V.out _ _ _ _ _ _ _ r.out hv;have e1:(v.t:Int)<(a:Int):=by omega
    have q:=aB hN;unfold SV.cells at q;have C:(wr.alloc (.cells #[.int .i64 v.t,.slice v.x1 v.n1 v.c1,.slice v.x2 v.n2 v.c2,.slice v.x3 v.n3 v.c3,.int .i64 v.q] 108)).ownsRow base 108 5 (.slice y f.length d) f.length (sQ f):=HO.out.alloc _;generalize B:wr.alloc (.cells #[.int .i64 v.t,.slice v.x1 v.n1 v.c1,.slice v.x2 v.n2 v.c2,.slice v.x3 v.n3 v.c3,.int .i64 v.q] 108)=G at C q ⊢
    have x:G.heap.size=wr.heap.size+1:=by rw[<-B];simp
    have k:G.heap[w1.heap.size]?=some (.cells #[.int .i64 v.t,.slice v.x1 v.n1 v.c1,.slice v.x2 v.n2 v.c2,.slice v.x3 v.n3 v.c3,.int .i64 v.q] 108 (0,0)):=by rw[<-B,aA_ _ _ _ ac];exact g
    have D:=aA (i:=0) k rfl;have L:=aA (i:=1) k rfl;have H:=aA (i:=2) k rfl;have F:=aA (i:=3) k rfl;have K:=aA (i:=4) k rfl;have S:=aD k;have M:=aB C;have O:=aB x;clear C g k B x HO r U V Y s;go_wp2_with (at_builtin;refine wpList_append_lies _ (by rfl) _ _ 183 (by rfl) base 108 i0 _ 5 88 Tryz.underlying183 hi ad ab Z rfl (by decide) (.slice y f.length d) f.length _ (by rfl) (M.out.alloc _) ⟨G.heap.size,0,none⟩ 1 1 [.int .i64 v.t,.slice v.x1 v.n1 v.c1,.slice v.x2 v.n2 v.c2,.slice v.x3 v.n3 v.c3,.int .i64 v.q] (by rfl) (by rfl) (L7 G _ _ _ _ _) (U7 v) (by decide) (by unfold maxLen;omega) (by omega) (by simp;have:=O.out;omega) (G.heap.size+1) (by simp) ?_)
    intro J n E p m t ag;obtain⟨l,T⟩:=q.out J n E (by rw[UW];exact p) m (by have:=O.out;rcases t with h|h;exact av_ h;exact as_ (by omega))
    clear p m t q M D L H F K S;have D:=aA (i:=0) l rfl;have L:=aA (i:=1) l rfl;have H:=aA (i:=2) l rfl;have F:=aA (i:=3) l rfl;have K:=aA (i:=4) l rfl;have Q:=aD l;have z:=aB T;unfold SV.val at z;clear l T;go_wp2_with fail;refine z.out.mono ?_;rintro e w6 ⟨N,ok,rfl,⟨c,o,aj⟩,h6⟩;have H6:=aB h6;unfold dR at H6;clear z D L H F K Q h6;have D:=aA (i:=0) o (aC_ (by omega))
    have L:=aA (i:=1) o (aC_ (by omega))
    have H:=aA (i:=2) o (aC_ (by omega))
    have F:=aA (i:=3) o (aC_ (by omega))
    have K:=aA (i:=4) o (aC_ (by omega))
    have f0:=aE (i:=0) o;have f1:=aE (i:=1) o;have f2:=aE (i:=2) o;have f3:=aE (i:=3) o;have f4:=aE (i:=4) o;have af:=aD o;clear o;go_wp2_with fail;go_roundg j
    case measure=>omega
    case rel=>exact⟨f++[v],_,_,N,ok,by simp,rfl,H6.out⟩
   ·have e1:¬(v.t:Int)<(a:Int):=by omega
    have X:=aB (Y.out _ _ _ _ _ _ _ r.out hv);unfold SV.cells at X;clear U V Y s HO r g D L H F K;go_wp2_with fail;go_ret;exact⟨f,y,d,rfl,X.out⟩
section
variable {fp:Nat->Value} {F:Nat->Prop} {w w':World} {sb mb n:Nat} {mo:Obj} {st:Nat->Option bI} {s:bI}
def UL(h:jV fp F w sb mb mo st s n)(a:Nat)(M:a/20<n)(D:n<=1000):
 Calls prog 110 #[.pointer (some ⟨sb,5,none⟩),.int .i64 a] w fun e r=>∃(v:SV) (τ:bI),e=.returned (.tuple #[v.val,.bool true])/\st (20*(a/20))=some τ/\kR fp F r v.val τ/\Below w.heap.size w r:=by
 obtain⟨fv,tv,ov,Z,j,h1,h2,P,h4,E,h6,h7⟩:=h.blk;have z:=h.lt;have C:a/20<j.length:=by omega
 obtain⟨k0,τ,u,o⟩:=E (a/20) C;obtain⟨v,l,V,W⟩:=o.sv;have Y:w.cell? ⟨sb,5,none⟩=some Z:=aA h1 rfl;rcases P.2 with ⟨L,r2⟩|⟨g,A,X,L,r2,r3,r4,r5⟩
 ·omega
 ·subst L;have k:=XB (es:=j) (by rw[h4];exact P) fun i hi=>(E i hi).ok
  obtain⟨_,a0,J,Q,S,H,I⟩:=k (a/20) C;simp only[SV.val,Value.agg.injEq] at l;simp at l;obtain⟨G,N,B,K,O⟩:=l;rw[G] at J;rw[N] at Q;rw[B] at S;rw[K] at H;rw[O] at I;have t:Below w.heap.size w (w.alloc (.cells #[.int .i64 0,.slice none 0 0,.slice none 0 0,.slice none 0 0,.int .i64 0] 108)):=(ay_ _ w).alloc (au_ _) _;have hg:=h.grow t (fun _ h=>h) fun _ h=>av_ h
  have x:∀c q,ag_ n (a:Int) c q->q=decide (a%20=0)/\c=if a%20=0 then a/20 else a/20+1:=fun c q f=>by
   have l1:¬c<a/20:=fun p=>by have:=f.hi c (by omega) (au_ _);omega
   have l2:¬a/20+1<c:=fun p=>by have:=f.lo (a/20+1) p;omega
   by_cases d:a%20=0
   ·have T:¬a/20<c:=fun p=>by have:=f.lo (a/20) p;omega
    have:c=a/20:=by omega
    subst this;rw[if_pos d];exact⟨by rw[f.fnd.2 ⟨M,by omega⟩];simp[d],rfl⟩
   ·have T:¬c=a/20:=fun p=>by have:=f.hi c (by omega) (au_ _);omega
    rw[if_neg d];refine⟨?_,by omega⟩
    cases q with
    |false=>simp[d]
    |true=>have:=(f.fnd.1 rfl).2;omega
  refine(PB w sb g n A (if a%20=0 then a/20 else a/20+1) (a/20) (decide (a%20=0)) a v z (aD r3) D Y J Q S H I ?_ M ((wG hg a D).mono ?_)).mono ?_
  ·by_cases d:a%20=0
   ·exact av_ ⟨by simp[d],if_pos d⟩
   ·exact as_ ⟨by simp[d],if_neg d⟩
  ·rintro e r ⟨c,q,rfl,m,f⟩;obtain⟨rfl,rfl⟩:=x _ _ f;refine⟨rfl,?_⟩;rw[World.size_alloc] at m;exact m
  ·rintro e r ⟨rfl,m⟩;refine⟨v,τ,rfl,u,?_,m⟩
   have U:v.val=.agg #[.int .i64 j[a/20].a,j[a/20].b,j[a/20].c,j[a/20].d,.int .i64 j[a/20].e]:=by
    rw[G,N,B,K,O];rfl
   rw[U];exact o.keep (fun b y=>m.block b (h.fix b y).1) fun _ h=>h
end
section
variable {fp:Nat->Value} {F G:Nat->Prop} {w w':World} {sb mb n n':Nat} {mo:Obj} {ks:List aC} {tape:List Int} {s:bI} {L:List Nat}
def Live.fresh(h:Live fp F w sb mb mo ks tape s n L)(a:Live fp F w' sb mb mo ks tape s n L)(f:w'.heap[sb]?=w.heap[sb]?){b:Nat}(i:w.heap.size<=b)(d:b<w'.heap.size):Live fp F w' sb mb mo ks tape s n (b::L):=by
 refine⟨a.ses,a.tab,a.pow,a.low,a.hn,fun x c=>?_⟩
 rcases aG_.1 c with rfl|c
 ·have j:=h.ses.lt;have k:=h.low;refine⟨by omega,d,fun g=>by have:=(h.ses.fix _ g).1;omega,fun e=>?_,by omega,by have:=aD h.ses.map.1;omega⟩
  rw[nL f] at e;have:=(h.row e).2.1;omega
 ·exact a.loc x c
def sJ(y:Option Addr)(k d:Nat):List Nat:=(Value.ownBlock (.slice y k d)).toList
structure j1(fp:Nat->Value)(sb mb:Nat)(mo:Obj)(ks:List aC)(tape:List Int)(s:bI)(L:List Nat)(w:World)(F0:Nat->Prop)(n0 t0:Nat)(F:Nat->Prop)(n:Nat)(vs:List SV)(y:Option Addr)(d:Nat)(W:World):Prop where
 fs:FS sb w W
 ext:Ext F0 F w.heap.size
 le:n0<=n
 own:W.ownsRow w.heap.size 108 5 (.slice y vs.length d) vs.length (sQ vs)
 live:Live fp F W sb mb mo ks tape s n (sJ y vs.length d++L)
 all:∀i (h:i<vs.length),∃τ,cE ks tape (t0+i)=some τ/\kR fp F W vs[i].val τ
structure StI(fp:Nat->Value)(sb mb:Nat)(mo:Obj)(ks:List aC)(tape:List Int)(s:bI)(L:List Nat)(w:World)(F0:Nat->Prop)(n0 t0 end_ K0:Nat)(gk b:Nat)(vs:List SV)(y:Option Addr)(d:Nat)(v:SV)(ok:Bool)(W:World):Prop where
 ok:ok=true
 gk:gk+vs.length=K0
 le:t0+vs.length<=end_
 blk:W.heap[b]?=some (.cells v.cells 108 (0,0))
 hb:w.heap.size<=b/\b∉sJ y vs.length d
 now:∃F n τ,j1 fp sb mb mo ks tape s (b::L) w F0 n0 t0 F n vs y d W/\cE ks tape (t0+vs.length)=some τ/\kR fp F W v.val τ/\τ.time/20<n
def ND(hg:Good ks)(am:tape.length<=17592186044416)(h:Live fp F w sb mb mo ks tape s n L)(a:Nat)(h0:0<a)(h1:a<=s.time)(hn:n<=1000):
 Calls prog 120 #[.pointer (some ⟨sb,0,none⟩),.int .i64 a] w fun e w'=>∃l y d,e=.returned (.slice y l.length d)/\20*((a-1)/20)+l.length=a/\∃I P,j1 fp sb mb mo ks tape s L w F n (20*((a-1)/20)) I P l y d w':=by
 have aq:=(hg.sta h.ses.now).1.time;have ai:=h.ses.now;have bd:=h.hn;have M:=h.ses.lt;refine(JV w sb a (a+1-20*((a-1)/20)) w.heap.size (StI fp sb mb mo ks tape s L w F n (20*((a-1)/20)) a (a+1-20*((a-1)/20))) (fun l y d W=>20*((a-1)/20)+l.length=a/\∃I P,j1 fp sb mb mo ks tape s L w F n (20*((a-1)/20)) I P l y d W) h0 (by omega) ((UL h.ses (a-1) (by omega) hn).mono ?_) (fun gk b l y d v ok W r=>?_) (fun gk b l y d v W r hv=>?_) (fun gk b l y d v W r hv=>?_) (fun gk b l y d v W r=>?_)).mono ?_
 ·rintro e w1 ⟨v,E,rfl,o,u,z⟩;have ac:Live fp F w1 sb mb mo ks tape s n L:=h.but (But.below z []) fun b z=>by cases z
  have N:Below w.heap.size w (w1.alloc (.cells v.cells 108)):=z.alloc z.size _;refine⟨v,rfl,rfl,by simp,by simp;omega,aM _ _ rfl _,⟨z.size,by simp[sJ,Value.ownBlock]⟩,F,n,E,⟨FS.of_below N M,Ext.refl _ _,au_ _,World.ownsRow_nil _ _ _ _,by simpa [sJ,Value.ownBlock] using ac.alloc _,fun i X=>by simp at X⟩,by simpa using o,u.but ac (But.alloc _ _ []) (fun b z=>by cases z),?_⟩
  have:=(hg.sta o).2.1;omega
 ·obtain⟨I,P,E,j,_⟩:=r.now;have:=r.le;exact⟨r.blk,j.own,by omega,j.fs.size⟩
 ·obtain⟨I,P,E,j,o,u,S⟩:=r.now
  have an:v.t=20*((a-1)/20)+l.length:=by
   obtain⟨s2,e1,e2,_⟩:=u.sv;obtain rfl:=SV.val_inj e1;rw[e2];exact(hg.sta o).2.1
  have aj:=(hg.sta o).2.1;have bb:=r.gk;obtain⟨N,ah⟩:=r.hb;refine⟨gk-1,by omega,fun Y aw H B f A=>?_⟩
  have al:=aD r.blk;have bc:((W.alloc (.cells v.cells 108)).alloc (.cells v.cells 108)).heap.size=W.heap.size+2:=by simp
  have be:=((j.live.alloc (.cells v.cells 108)).alloc (.cells v.cells 108)).drop (L':=sJ y l.length d++b::L) fun x c=>aJ_ _ (aJ_ _ c)
  have ad:But [] W ((W.alloc (.cells v.cells 108)).alloc (.cells v.cells 108)):=(But.alloc W _ []).trans (But.alloc _ _ []);have ab:But (sJ y l.length d) ((W.alloc (.cells v.cells 108)).alloc (.cells v.cells 108)) H:=⟨f.os,f.tape,f.output,f.size,fun k hk hm=>f.block k hk fun e=>hm (by simp[sJ,<-e])⟩
  have p:But (sJ y l.length d) W H:=by simpa using ad.trans ab
  have K:∀x∈sJ y l.length d,x∈sJ y l.length d++b::L:=fun x c=>aP_ _ c
  have ak:=j.live.but p K;have ae:H.heap[sb]?=W.heap[sb]?:=p.blk sb j.live.ses.lt fun hm=>(j.live.loc sb (K sb hm)).2.2.2.2.1 rfl
  have ao:Y<H.heap.size:=by
   rcases B.2 with ⟨r1,_⟩|⟨g,ba,ay,r1,_,r3,_⟩
   ·cases r1
   ·cases r1;exact aD r3
  have q:Live fp I H sb mb mo ks tape s P (Y::b::L):=by
   rcases A with T|T
   ·exact ak.drop fun x c=>by
     rcases aG_.1 c with rfl|c
     ·exact aP_ _ (by simp[sJ,T])
     ·exact aL_ _ c
   ·exact(j.live.fresh ak ae (by omega) ao).drop fun x c=>by
     rcases aG_.1 c with rfl|c
     ·exact aS_ ..
     ·exact aJ_ _ (aL_ _ c)
  have O:Y≠b:=by
   rcases A with T|T
   ·rintro rfl;exact ah (by simp[sJ,T])
   ·omega
  have ax:w.heap.size<=Y:=by
   rcases A with T|T
   ·exact(j.own.lt _ T).1
   ·have:=j.fs.size;omega
  have af:H.heap[b]?=some (.cells v.cells 108 (0,0)):=by rw[p.blk b al ah];exact r.blk
  have Q:kR fp I H v.val E:=u.but j.live p K
  have Z:∀i (h:i<l.length),∃E,cE ks tape (20*((a-1)/20)+i)=some E/\kR fp I H l[i].val E:=fun i X=>by
   obtain⟨C,q1,q2⟩:=j.all i X;exact⟨C,q1,q2.but j.live p K⟩
  have U:FS sb w H:=j.fs.but p (fun x c=>by
   simp only[sJ,Option.mem_toList] at c;exact(j.own.lt x c).1) M
  refine⟨af,(GY hg q am v E Q (by rw[aj];exact o) S).mono ?_⟩
  rintro e w6 ⟨v',ok,rfl,G,m,k1,k2,k3,k4,k5,k6⟩
  have av:ok=true:=by
   cases ok with
   |true=>rfl
   |false=>
    obtain⟨x,ag,au⟩:=WI ai (t:=20*((a-1)/20)+l.length) (by omega)
    rw[o] at ag;cases ag;exact absurd au (k6 rfl)
  subst av;obtain⟨_,ar,a1,a2,a3,a4⟩:=k5 rfl;have aa:w6.heap[b]?=some (.cells v.cells 108 (0,0)):=by rw[q.blk k3 (by simp)];exact af
  have ap:w6.heap[Y]?=H.heap[Y]?:=q.blk k3 (by simp)
  have D:But [b] w6 (dR w6 b v'):=But.set5 _ _ _;have J:∀x∈[b],x∈(Y::b::L):=fun x c=>by rw[aD_.1 c];simp
  refine⟨v',true,rfl,⟨_,aa,by simp[SV.cells]⟩,rfl,by simp;omega,by simp;omega,qG aa rfl,⟨N,by simp[sJ,Value.ownBlock];exact fun e=>O e.symm⟩,G,m,ar,⟨?_,⟨fun x c=>k2.sub x (j.ext.sub x c),fun x c=>?_⟩,aF_ j.le k1,?_,?_,?_⟩,?_,a3.but k4 D J,a4⟩
  ·exact(U.trans k3).but D (fun x c=>by rw[aD_.1 c];exact N) M
  ·rcases k2.new x c with c|c
   ·exact j.ext.new x c
   ·exact as_ (by have:=U.size;omega)
  ·have:=aY (w1:=dR w6 b v') B fun k hk=>by
    simp[Value.ownBlock] at hk;subst hk;rw[cV _ _ _ _ O];exact ap
   simpa using this
  ·have:=k4.but D J;simpa [sJ,Value.ownBlock] using this
  ·intro i X;rcases a6_ i l.length with V|V
   ·obtain⟨C,q1,q2⟩:=Z i V;refine⟨C,q1,?_⟩;rw[bv_ V];exact(q.stR k3 k2 q2).but k4 D J
   ·obtain rfl:i=l.length:=by simp at X;omega
    refine⟨E,o,?_⟩;simp only[bM_ (au_ _),Nat.sub_self,bV_];exact(q.stR k3 k2 Q).but k4 D J
  ·rw[show 20*((a-1)/20)+(l++[v]).length=E.time+1 by simp;omega];exact a1
 ·obtain⟨I,P,E,j,o,u,S⟩:=r.now
  have an:v.t=20*((a-1)/20)+l.length:=by
   obtain⟨s2,e1,e2,_⟩:=u.sv;obtain rfl:=SV.val_inj e1;rw[e2];exact(hg.sta o).2.1
  have az:=r.le;have p:But [] W (W.alloc (.cells v.cells 108)):=But.alloc W _ [];refine⟨by omega,I,P,j.fs.but p (fun b z=>by cases z) M,j.ext,j.le,j.own.alloc _,(j.live.alloc _).drop fun x c=>?_,fun i X=>?_⟩
  ·rcases aE_.1 c with c|c
   ·exact aJ_ _ (aP_ _ c)
   ·exact aJ_ _ (aL_ _ (aJ_ _ c))
  ·obtain⟨C,q1,q2⟩:=j.all i X;exact⟨C,q1,q2.but j.live p fun b z=>by cases z⟩
 ·have:=r.ok;cases this
 ·rintro e w' ⟨l,y,d,rfl,h1,h2⟩;exact⟨l,y,d,rfl,h1,h2⟩
end
attribute [local go_sem] Oper.semAt_some
def MF(x:Option Addr)(n c:Nat)(W:World):Calls prog 121 #[.slice x n c] W fun e b=>e=.returned (.func (.func 172) #[] #[.pointer (some ⟨W.heap.size,0,none⟩)])/\b=W.alloc (.cells #[.slice x n c] 183):=by
 have d:∀(a:Value) (w:World),(Instr.makeFunc (.func 172) #[] #[a]).run prog w=.ok (.func (.func 172) #[] #[a]) w:=fun _ _=>rfl
 go_enter Tryz.func121,Tryz.ntmps121;go_wp2_with fail;go_ret;exact⟨rfl,rfl⟩
def WA(l bs g n c:Nat)(a:SV)(W:World)(Z:World->Prop)(t:n+1<=1000000)
 (k:W.cell? ⟨bs,0,none⟩=some (.slice (some ⟨g,0,none⟩) (n+1) c)) (o:bs<W.heap.size) (D:g<W.heap.size)
 (w:W.cell? ⟨g,n*5,none⟩=some (.int .i64 a.t)) (C:W.cell? ⟨g,n*5+1,none⟩=some (.slice a.x1 a.n1 a.c1)) (y:W.cell? ⟨g,n*5+2,none⟩=some (.slice a.x2 a.n2 a.c2)) (v:W.cell? ⟨g,n*5+3,none⟩=some (.slice a.x3 a.n3 a.c3)) (B:W.cell? ⟨g,n*5+4,none⟩=some (.int .i64 a.q))
 (i:Hid (YieldAt Fence.wide 0 prog l #[.int .i64 n,a.val] W fun e r=>e=.returned (.bool false)/\Z r)):
 Calls prog 172 #[.func (.yield l) #[] #[],.pointer (some ⟨bs,0,none⟩)] W fun e j=>e=.returned (.tuple #[])/\Z j:=by
 obtain⟨u,d,b,f,q,h⟩:=i.out;have m:=aB h;unfold SV.val at q;have A:(0:Int)<=(n:Int):=by omega
 have z:(n:Int)<((n+1:Nat):Int):=by omega
 clear h i;go_enter Tryz.func172,Tryz.ntmps172;go_wp2_with fail;go_loopg [3] 0 (fun gk p wr=>p=.int .i64 n/\wr=W)
 case atStart=>exact⟨by go_num,rfl⟩
 case round=>
  obtain⟨rfl,rfl⟩:=hrel;refine(wpIn_wide (n:=0)).1 ?_;gi_wp2
  refine⟨rfl,m.out.mono ?_⟩;rintro e x ⟨rfl,s⟩;gi_wp2
  refine bodyPost_ret (results_none rfl _ _ _) rfl ⟨rfl,s⟩
def p8(args:Array Value)(W:World):(callFunc 172 args).run prog W=.ok (.enter 172 args) W:=(enters_of Tryz.func172 (by kernel_rfl) rfl) args W
def FQ(l Q sb:Nat)(s:SV)(W:World)(Z:World->Prop)(Y:W.cell? ⟨Q,0,none⟩=some (.pointer (some ⟨sb,0,none⟩)))(af:Q<W.heap.size)(ah:sb<W.heap.size)
 (k0:W.cell? ⟨sb,0,none⟩=some (.int .i64 s.t)) (k1:W.cell? ⟨sb,1,none⟩=some (.slice s.x1 s.n1 s.c1)) (k2:W.cell? ⟨sb,2,none⟩=some (.slice s.x2 s.n2 s.c2)) (k3:W.cell? ⟨sb,3,none⟩=some (.slice s.x3 s.n3 s.c3)) (k4:W.cell? ⟨sb,4,none⟩=some (.int .i64 s.q))
 (ht:0<s.t) (S:Nat->Nat->Nat->SV->World->Prop) (A E:SV->World->World->Prop) (H:SV->World->Nat->World->Prop)
 (HS:Hid (Calls prog 120 #[.pointer (some ⟨sb,0,none⟩),.int .i64 s.t] ((W.alloc (.cells #[.func (.yield l) #[] #[]] 132)).alloc (.cells s.cells 108)) fun e w'=>∃g n f d,e=.returned (.slice (some ⟨g,0,none⟩) (n+1) f)/\S g n f d w'))
 (HG:Hid (∀g n f d a,S g n f d a->n+1<=1000000/\g<a.heap.size/\a.cell? ⟨g,n*5,none⟩=some (.int .i64 d.t)/\a.cell? ⟨g,n*5+1,none⟩=some (.slice d.x1 d.n1 d.c1)/\a.cell? ⟨g,n*5+2,none⟩=some (.slice d.x2 d.n2 d.c2)/\a.cell? ⟨g,n*5+3,none⟩=some (.slice d.x3 d.n3 d.c3)/\a.cell? ⟨g,n*5+4,none⟩=some (.int .i64 d.q)/\
   ∀G,A d a (((a.alloc (.cells #[.slice (some ⟨g,0,none⟩) (n+1) f] 183)).alloc (.deferred (some []))).alloc (.loop G))))
 (B:Hid (∀d a b V r,H d a b V->H d a b (V.putObj (a.heap.size+1+1) (.loop r)))) (D:Hid (∀d a V r,E d a V->E d a (V.putObj (a.heap.size+1+1) (.loop r))))
 (HA:Hid (∀d a V,A d a V->H d a V.heap.size (V.alloc (.cells d.cells 108))/\a.heap.size+1+1<V.heap.size))
 (HY:Hid (∀d a b V,H d a b V->V.heap[b]?=some (.cells d.cells 108 (0,0))/\V.cell? ⟨W.heap.size,0,none⟩=some (.func (.yield l) #[] #[])/\W.heap.size<V.heap.size/\YieldAt Fence.wide 0 prog l #[d.val] V fun e U=>e=.returned (.bool false)/\(U.heap[a.heap.size+1]?=V.heap[a.heap.size+1]?/\U.heap[a.heap.size+1+1]?=V.heap[a.heap.size+1+1]?)/\E d a U))
 (HE:Hid (∀d a V,E d a V->Z (V.putObj (a.heap.size+1) (.deferred none)))):
 Calls prog 119 #[.func (.yield l) #[] #[],.pointer (some ⟨Q,0,none⟩)] W fun e w'=>e=.returned (.tuple #[])/\Z w':=by
 unfold SV.cells at HS;have HT:=aB fun (w:World)=>nZ s.t s.q s.x1 s.x2 s.x3 s.n1 s.n2 s.n3 s.c1 s.c2 s.c3 w
 have e0:(0:Int)<(s.t:Int):=by omega
 refine(callsIn_wide (n:=0)).1 (callsIn_of_wp_marks Tryz.func119 rfl trivial ?_ rfl);simp only[Tryz.ntmps119,List.size_toArray,aB_,aI_,Nat.reduceAdd,Nat.reduceSub,Array.replicate_succ,Array.replicate_zero,List.push_toArray,List.append_toArray,by_,aY_];refine wpIn_wide.2 ?_;go_wp2_with fail;refine(HT.out _).mono ?_;rintro e w1 ⟨rfl,rfl⟩;go_wp2_with fail;refine wp_loop_rounds 1 ?_;rw[rounds_succ];go_wp2_with fail;refine HS.out.mono ?_;rintro e a ⟨g,n,f,d,rfl,J⟩;have HB:=aB (MF (some ⟨g,0,none⟩) (n+1) f a);go_wp2_with fail;refine HB.out.mono ?_;rintro e u ⟨rfl,rfl⟩;clear HB HS HT;go_wp2_with fail;obtain⟨g1,g2,c0,c1,c2,c3,c4,L⟩:=HG.out _ _ _ _ _ J;generalize y:a.alloc (.cells #[.slice (some ⟨g,0,none⟩) (n+1) f] 183)=u at L ⊢
 have o:u.heap.size=a.heap.size+1:=by rw[<-y];simp
 have ad:u.heap[a.heap.size]?=some (.cells #[.slice (some ⟨g,0,none⟩) (n+1) f] 183 (0,0)):=by rw[<-y];exact aM _ _ rfl _
 have ac:u.heap[g]?=a.heap[g]?:=by rw[<-y];exact aA_ _ _ _ g2
 clear y J HG Y k0 k1 k2 k3 k4
 refine wpIn_wide.1 (CC (τ:=Unit) (P:=prog) (gf:=172) (lb:= #[.pointer (some ⟨a.heap.size,0,none⟩)]) rfl p8 (fun _ x V=>x= #[.int .i64 n,SV.val d]/\A d a V) (fun _ _ _=>False)
  (fun _ x X V=>∃b,x= #[.int .i64 n,SV.val d]/\X={ tmps:= #[.func (.yield l) #[] #[],.pointer (some ⟨Q,0,none⟩),.pointer (some ⟨W.heap.size,0,none⟩),.int .i64 s.t,.slice (some ⟨g,0,none⟩) (n+1) f,undef,.pointer (some ⟨b,0,none⟩),.pointer (some ⟨sb,0,none⟩),.pointer (some ⟨sb,0,none⟩),.pointer (some ⟨sb,0,none⟩),s.val,.int .i64 s.t,.int .i64 s.t,.bool true,.pointer (some ⟨sb,0,none⟩),.int .i64 s.t,.slice (some ⟨g,0,none⟩) (n+1) f,.slice (some ⟨g,0,none⟩) (n+1) f,.func (.func 172) #[] #[.pointer (some ⟨a.heap.size,0,none⟩)],.int .i64 n,SV.val d,undef,undef,undef,undef,undef,undef,undef,undef],defers:=[] }/\H d a b V)
  (fun _ c x V=>c=.ret/\E d a V) (fun _=>False) ?hps ?hAx ?hB ?hBx ?hZ ?hassign ?hbody ?hseq ?hdone ?hstop)
 case hps=>rintro t x V ⟨rfl,_⟩;rfl
 case hAx=>rintro t x X V r ⟨b,h1,J,h5⟩;rw[o];exact⟨b,h1,J,B.out _ _ _ _ _ h5⟩
 case hB=>intro t x V r h;exact h
 case hBx=>rintro _ c x V r ⟨rfl,h⟩;rw[o];exact⟨rfl,D.out _ _ _ _ h⟩
 case hZ=>intro V r h;exact h
 case hassign=>
  rintro t x V K ⟨rfl,h⟩ hK;obtain⟨q1,q2⟩:=HA.out _ _ _ h;have N:=aB (hK _ _ (aA_ _ _ _ (by rw[o];omega)) (aA_ _ _ _ (by rw[o];omega)) ⟨_,rfl,rfl,q1⟩)
  unfold SV.val SV.cells at N;clear hK q1 h;unfold SV.val;gi_wp2
  exact N.out
 case hbody=>
  rintro t x X V ⟨b,rfl,rfl,h⟩ M;obtain⟨z,y2,y3,fn,m,j,q,O,hR⟩:=HY.out _ _ _ _ h;have HR:=aB hR;unfold SV.val at O;unfold SV.val;unfold SV.cells at z;have d0:=aA (i:=0) z rfl;have d1:=aA (i:=1) z rfl;have d2:=aA (i:=2) z rfl;have d3:=aA (i:=3) z rfl;have d4:=aA (i:=4) z rfl;have l1:=aD z;clear h hR z HA HY B D HE;gi_wp2
  refine⟨rfl,(show RoundIn (Fence.wide.inRound (a.heap.size+1+1)) 0 prog l fn m j q V _ from HR.out).mono ?_⟩
  rintro e U ⟨rfl,hq,F⟩;have aa:=aB F;clear F HR O d0 d1 d2 d3 d4 y2;gi_wp2
  rw[o];exact⟨hq,rfl,aa.out⟩
 case hseq=>
  intro G Rdy Don h1 J h3 h4 h5 hY;have ab:=hY () #[.int .i64 n,SV.val d] _ ⟨rfl,L G⟩ h5;have I:∀k,k<u.heap.size->((u.alloc (.deferred (some []))).alloc (.loop G)).heap[k]?=u.heap[k]?:=fun k hk=>by rw[aA_ _ _ _ (by simp only[World.size_alloc];omega),aA_ _ _ _ hk]
  have ag:u.heap.size<=((u.alloc (.deferred (some []))).alloc (.loop G)).heap.size:=by simp;omega
  have p:∀i v,a.cell? ⟨g,i,none⟩=some v->((u.alloc (.deferred (some []))).alloc (.loop G)).cell? ⟨g,i,none⟩=some v:=fun i v hv=>(World.cell?_of_block ((I g (by omega)).trans ac)).trans hv
  refine callsIn_wide.2 ((WA (u.heap.size+1) a.heap.size g n f d _ (fun T=>∃c x,(c=Code.ret/\E d a T)/\Don c T/\x=(#[]:Array Value)) g1 (aA ((I _ (by omega)).trans ad) rfl) (by omega) (by omega) (p _ _ c0) (p _ _ c1) (p _ _ c2) (p _ _ c3) (p _ _ c4) ?_).mono ?_)
  ·obtain⟨fn,m,j,q,O,hr⟩:=ab;refine⟨fn,m,j,q,O,hr.mono ?_⟩;rintro e T (⟨rfl,hf,_⟩|⟨rfl,c,⟨rfl,F⟩,C⟩)
   ·exact hf.elim
   ·exact⟨rfl,_,#[],⟨rfl,F⟩,C,rfl⟩
  ·rintro e T ⟨rfl,c,x,⟨rfl,F⟩,C,_⟩;exact⟨⟨_,rfl⟩,as_ ⟨(),_,#[],⟨rfl,F⟩,C⟩⟩
 case hdone=>intro V h;exact h.elim
 case hstop=>
  rintro _ c x V ⟨rfl,hz⟩ C M;rw[o] at C M ⊢
  have HZ:=aB (HE.out _ _ _ hz);have ae:=aB C;clear hz C HE HA HY B D;refine wpIn_wide.2 ?_;go_wp2_with fail;refine⟨by simp,.inl ⟨_,_,rfl,run_takeDeferred ae.out,?_⟩⟩
  exact⟨_,results_none rfl _ _ _,rfl,HZ.out⟩
def FP(l a sb:Nat)(s:SV)(W:World)(h:W.cell? ⟨a,0,none⟩=some (.pointer (some ⟨sb,0,none⟩)))(c:a<W.heap.size)(d:sb<W.heap.size)
 (k0:W.cell? ⟨sb,0,none⟩=some (.int .i64 s.t)) (n:W.cell? ⟨sb,1,none⟩=some (.slice s.x1 s.n1 s.c1)) (m:W.cell? ⟨sb,2,none⟩=some (.slice s.x2 s.n2 s.c2)) (k:W.cell? ⟨sb,3,none⟩=some (.slice s.x3 s.n3 s.c3)) (i:W.cell? ⟨sb,4,none⟩=some (.int .i64 s.q))
 (f:s.t=0):Calls prog 119 #[.func (.yield l) #[] #[],.pointer (some ⟨a,0,none⟩)] W fun e b=>e=.returned (.tuple #[])/\Below W.heap.size W b:=by
 have g:=aB fun (w:World)=>nZ 0 s.q s.x1 s.x2 s.x3 s.n1 s.n2 s.n3 s.c1 s.c2 s.c3 w
 rw[f] at k0;go_enter Tryz.func119,Tryz.ntmps119;go_wp2_with fail;refine(g.out _).mono ?_;rintro e j ⟨rfl,rfl⟩;go_wp2_with fail;refine wp_loop_rounds 1 ?_;rw[rounds_succ];go_wp2_with fail;go_end0;exact⟨rfl,((ay_ W.heap.size W).alloc (au_ _) _).alloc (by simp) _⟩
def IU:∀(l:List SV) (i j:Nat) (v:SV),l[i]?=some v->j<5->(sQ l)[i*5+j]?=([.int .i64 v.t,.slice v.x1 v.n1 v.c1,.slice v.x2 v.n2 v.c2,.slice v.x3 v.n3 v.c3,.int .i64 v.q]:List Value)[j]?
 |[],_,_,_,h,_=>by simp at h
 |x::l,0,j,v,h,a=>by
  simp at h;subst h;simp only[sQ,List.flatMap_cons,Nat.zero_mul,bk_];rw[a3_ (by simp;omega)]
 |x::l,i+1,j,v,h,a=>by
  have:=IU l i j v (by simpa using h) a
  rw[<-this];simp only[sQ,List.flatMap_cons];rw[aV_ (by simp;omega)]
  congr 1
  simp;omega
def bwd(s:bI)(k:Nat)(fd:Bool):Prop:=k<=s.time/\(fd=true↔k<s.time)
def MO(st:Nat->Option bI)(s τ:bI)(fd:Bool):Prop:=(fd=false/\τ=s/\s.time=0)\/(fd=true/\τ.time+1=s.time/\st τ.time=some τ)
def pD(C:MCtx)(M:List Nat)(t:List Nat × World)(s':SV)(W:World):Prop:=∃F n σ,Mvg C (M++(t.1++C.all)) F n C.s.time false W/\kR C.fp F W s'.val σ/\C.st σ.time=some σ/\σ.time+1=C.s.time/\σ.time/20<n/\∀b∈t.1,W.heap[b]?=t.2.heap[b]?/\C.w.heap.size+3+1<b
def GM(C:MCtx)(t:List Nat × World)(W:World):Prop:=∃F n k fd τ,Mvg C (t.1++C.all) F n k fd W/\C.st k=some τ/\MO C.st C.s τ fd/\∀b∈t.1,W.heap[b]?=t.2.heap[b]?/\C.w.heap.size+3+1<b
section
variable {C:MCtx} {M:List Nat} {t:List Nat × World} {s':SV} {W:World}
def pD.drop(h:pD C M t s' W):pD C [] (t.1,W) s' W:=by
 obtain⟨F,n,j,c,e,i,g,d,f⟩:=h;exact⟨F,n,j,c.more (c.live.drop fun b a=>aL_ _ a) (fun b a=>aL_ _ (aL_ _ a)),e,i,g,d,fun b a=>⟨rfl,(f b a).2⟩⟩
def pD.putD{d:Nat}(h:pD C M t s' W)(g:d∈t.1)(o:Obj):pD C M (t.1,W.putObj d o) s' (W.putObj d o):=by
 obtain⟨F,n,m,e,j,l,k,i,f⟩:=h
 have c:∀b∈[d],b∈M++(t.1++C.all)/\C.bo<b:=fun b a=>by
  obtain rfl:=aD_.1 a;exact⟨aL_ _ (aP_ _ g),by have:=(f b g).2;simp only[MCtx.bo];omega⟩
 exact⟨F,n,m,e.but (But.put _ _ _) c,j.but e.live (But.put _ _ _) fun b a=>(c b a).1,l,k,i,fun b a=>⟨rfl,(f b a).2⟩⟩
def GM.putD{d:Nat}(h:GM C t W)(f:d∈t.1)(o:Obj):GM C (t.1,W.putObj d o) (W.putObj d o):=by
 obtain⟨F,n,k,i,g,j,l,m,e⟩:=h
 have c:∀b∈[d],b∈t.1++C.all/\C.bo<b:=fun b a=>by
  obtain rfl:=aD_.1 a;exact⟨aP_ _ f,by have:=(e b f).2;simp only[MCtx.bo];omega⟩
 exact⟨F,n,k,i,g,j.but (But.put _ _ _) c,l,m,fun b a=>⟨rfl,(e b a).2⟩⟩
def pD.alloc(h:pD C [] t s' W)(o:Obj):pD C [W.heap.size] t s' (W.alloc o):=by
 obtain⟨F,n,j,c,f,i,g,e,d⟩:=h;refine⟨F,n,j,c.alloc o,f.but c.live (But.alloc _ _ []) (fun b a=>by cases a),i,g,e,fun b a=>⟨?_,(d b a).2⟩⟩
 rw[aA_ _ _ _ (c.live.loc b (aL_ _ (aP_ _ a))).2.1];exact(d b a).1
def pD.lt{b:Nat}(h:pD C M t s' W)(a:b∈t.1):b<W.heap.size/\C.w.heap.size+3+1<b:=by
 obtain⟨F,n,j,c,f,i,g,e,d⟩:=h;exact⟨(c.live.loc b (aL_ _ (aP_ _ a))).2.1,(d b a).2⟩
def pD.put(h:pD C M t s' W)(o:Obj):pD C M t s' (W.putObj (C.w.heap.size+3+1) o):=by
 obtain⟨F,n,j,d,f,i,g,e,c⟩:=h;exact⟨F,n,j,d.put o,d.putS f o,i,g,e,fun b a=>⟨by rw[World.putObj_heap_other (by have:=(c b a).2;omega)];exact(c b a).1,(c b a).2⟩⟩
def GM.put(h:GM C t W)(o:Obj):GM C t (W.putObj (C.w.heap.size+3+1) o):=by
 obtain⟨F,n,k,e,d,f,g,i,c⟩:=h;exact⟨F,n,k,e,d,f.put o,g,i,fun b a=>⟨by rw[World.putObj_heap_other (by have:=(c b a).2;omega)];exact(c b a).1,(c b a).2⟩⟩
end
def LB{C:MCtx}(hg:Good C.ks)(ai:C.tape.length<=17592186044416){F:Nat->Prop}{n:Nat}(hn:n<=1000)(W:World)(ac:W.heap.size=C.w.heap.size+3)
 (hM:∀R0,Mvg C C.all F n C.s.time false ((W.alloc (.deferred (some []))).alloc (.loop R0))):
 WC prog 119 #[.pointer (some ⟨C.bb,0,none⟩)] W (pD C []) (fun _ _ _=>False) (GM C):=by
 intro R0 Rdy Don P ak J M hY;rw[ac] at P ak hY J ⊢
 have w:=hM R0;have ae:((W.alloc (.deferred (some []))).alloc (.loop R0)).heap.size=C.w.heap.size+3+1+1:=by simp[ac]
 generalize (W.alloc (.deferred (some []))).alloc (.loop R0)=c at w M ae ⊢
 have H:=w.live.ses.now;have E:∀b,b=C.w.heap.size+3\/b=C.w.heap.size+3+1->b∈C.all:=fun b i=>by rcases i with rfl|rfl<;>simp[MCtx.all]
 obtain⟨s1,ag,k0,k1,k2,k3,k4,_⟩:=w.live.ses.cells
 have S:s1.t=C.s.time:=by
  obtain⟨s2,e1,e2,_⟩:=ag.sv;obtain rfl:=SV.val_inj e1;exact e2
 by_cases ht:C.s.time=0
 ·refine(FP (C.w.heap.size+3+1) C.bb C.sb s1 c (aA w.cb.1 rfl) (aD w.cb.1) w.live.ses.lt k0 k1 k2 k3 k4 (by omega)).mono ?_
  rintro e W' ⟨rfl,i⟩;refine⟨⟨_,rfl⟩,([],c),⟨F,n,C.s.time,false,C.s,w.but (L':=[]) (But.below i []) (fun b i=>by cases i),H,av_ ⟨rfl,rfl,ht⟩,fun b i=>by cases i⟩,av_ (P c _ M (i.block _ (by omega)) (i.block _ (by omega)))⟩
 ·-- the worlds on the way
  generalize v:(c.alloc (.cells #[.func (.yield (C.w.heap.size+3+1)) #[] #[]] 132)).alloc (.cells s1.cells 108)=Ws
  have I:Mvg C ((c.heap.size+1)::c.heap.size::C.all) F n C.s.time false Ws:=by
   have:=(w.alloc (.cells #[.func (.yield (C.w.heap.size+3+1)) #[] #[]] 132)).alloc (.cells s1.cells 108);rw[World.size_alloc,v] at this;exact this
  have ab:Below c.heap.size c Ws:=by rw[<-v];exact((ay_ _ c).alloc (au_ _) _).alloc (by simp) _
  have am:Ws.heap[c.heap.size]?=some (.cells #[.func (.yield (C.w.heap.size+3+1)) #[] #[]] 132 (0,0)):=by rw[<-v];exact(aA_ _ _ _ (by simp)).trans (aM _ _ rfl _)
  have aj:Rdy Ws:=P c _ M (ab.block _ (by omega)) (ab.block _ (by omega))
  refine(FQ (C.w.heap.size+3+1) C.bb C.sb s1 c (fun V=>∃t,GM C t V/\(Rdy V\/Don V)) (aA w.cb.1 rfl) (aD w.cb.1) w.live.ses.lt k0 k1 k2 k3 k4 (by omega)
   (fun g m s f a=>∃q D x,q.length=m+1/\q[m]?=some f/\20*((C.s.time-1)/20)+q.length=C.s.time/\j1 C.fp C.sb C.mb C.mo C.ks C.tape C.s ((c.heap.size+1)::c.heap.size::C.all) Ws F n (20*((C.s.time-1)/20)) D x q (some ⟨g,0,none⟩) s a)
   (fun f a V=>c.heap.size<a.heap.size/\(∃U,pD C [] ([c.heap.size,a.heap.size+1,a.heap.size+1+1],U) f V)/\V.heap[c.heap.size]?=some (.cells #[.func (.yield (C.w.heap.size+3+1)) #[] #[]] 132 (0,0))/\Rdy V)
   (fun f a V=>c.heap.size<a.heap.size/\(∃U,GM C ([c.heap.size,a.heap.size+1,a.heap.size+1+1],U) V)/\Don V)
   (fun f a b V=>c.heap.size<a.heap.size/\(∃U,pD C [b] ([c.heap.size,a.heap.size+1,a.heap.size+1+1],U) f V)/\V.heap[c.heap.size]?=some (.cells #[.func (.yield (C.w.heap.size+3+1)) #[] #[]] 132 (0,0))/\Rdy V/\V.heap[b]?=some (.cells f.cells 108 (0,0))/\a.heap.size+1+1<b)
   ?_ (fun g m s f a hS=>?_) (fun f a b V r Q=>?_) (fun f a V r Z=>?_) (fun f a V Q=>?_) (fun f a b V Q=>?_) (fun f a V Z=>?_)).mono ?_
  ·rw[v,S];refine(ND hg ai I.live C.s.time (by omega) (au_ _) hn).mono ?_
   rintro e a ⟨q,y,d,rfl,o,D,x,p⟩;have ap:0<q.length:=by omega
   rcases p.own.2 with ⟨r1,r2⟩|⟨g,s,ar,r1,_⟩
   ·omega
   ·cases r1;obtain⟨m,ad⟩:∃m,q.length=m+1:=⟨q.length-1,by omega⟩
    exact⟨g,m,d,q[m]'(by omega),by rw[ad],q,D,x,ad,aH_ _,o,p⟩
  ·obtain⟨q,D,x,q1,N,q3,z⟩:=hS;have ao:=(hg.sta H).1.time
   have l:∀j u,j<5->([.int .i64 f.t,.slice f.x1 f.n1 f.c1,.slice f.x2 f.n2 f.c2,.slice f.x3 f.n3 f.c3,.int .i64 f.q]:List Value)[j]?=some u->a.cell? ⟨g,m*5+j,none⟩=some u:=fun j u hj hu=>by
    have:=z.own.cells (g:=g) rfl (m*5+j) u (by rw[IU q m j f N hj];exact hu)
    rwa [nQ] at this
   have X:g<a.heap.size:=(z.live.loc g (by simp[sJ,Value.ownBlock])).2.1
   refine⟨by omega,X,l 0 _ (by omega) rfl,l 1 _ (by omega) rfl,l 2 _ (by omega) rfl,l 3 _ (by omega) rfl,l 4 _ (by omega) rfl,fun R1=>?_⟩
   have B:=z.live.drop (L':=(c.heap.size+1)::c.heap.size::C.all) fun b i=>aL_ _ i
   have ah:=I.fs z.fs B z.ext z.le;have A:=((ah.alloc (.cells #[.slice (some ⟨g,0,none⟩) (m+1) s] 183)).alloc (.deferred (some []))).alloc (.loop R1);have K:But [] a (((a.alloc (.cells #[.slice (some ⟨g,0,none⟩) (m+1) s] 183)).alloc (.deferred (some []))).alloc (.loop R1)):=((But.alloc a _ []).trans (But.alloc _ _ [])).trans (But.alloc _ _ []);simp only[World.size_alloc] at A;generalize ((a.alloc (.cells #[.slice (some ⟨g,0,none⟩) (m+1) s] 183)).alloc (.deferred (some []))).alloc (.loop R1)=V at A K ⊢
   have au:Ws.heap.size<=a.heap.size:=z.fs.size;have an:c.heap.size+2=Ws.heap.size:=by rw[<-v];simp
   have L:∀b∈(c.heap.size+1)::c.heap.size::C.all,V.heap[b]?=Ws.heap[b]?:=fun b i=>(K.blk b (B.loc b i).2.1 (by simp)).trans (I.live.blk z.fs i)
   obtain⟨τ,Y,aa⟩:=z.all m (by omega)
   have al:q[m]'(by omega)=f:=by rw[aH_ (by omega)] at N;exact Option.some.inj N
   rw[al] at aa;have af:=(hg.sta Y).2.1;have aq:C.s.time/20<x:=B.hn;refine⟨by omega,⟨V,D,x,τ,A.more (A.live.drop fun b i=>?_) (fun b i=>by simp[i]),aa.but B K (fun b i=>by cases i),by unfold MCtx.st;rw[af];exact Y,by omega,by omega,fun b i=>⟨rfl,?_⟩⟩,?_,?_⟩
   ·simp only[by_,aY_,aG_] at i ⊢
    rcases i with rfl|rfl|rfl|i
    ·simp
    ·simp
    ·simp
    ·simp[i]
   ·simp only[aG_,aQ_,or_false] at i;rcases i with rfl|rfl|rfl<;>omega
   ·rw[L _ (by simp)];exact am
   ·exact P Ws _ aj (L _ (by simp[E _ (av_ rfl)])) (L _ (by simp[E _ (as_ rfl)]))
  ·obtain⟨G,⟨U,o⟩,p,h3,h4,h5⟩:=Q;have T:=o.lt (b:=a.heap.size+1+1) (by simp)
   exact⟨G,⟨_,o.putD (d:=a.heap.size+1+1) (by simp) _⟩,by rw[World.putObj_heap_other (by omega)];exact p,P V _ h3 (World.putObj_heap_other (by omega)) (World.putObj_heap_other (by omega)),by rw[World.putObj_heap_other (by omega)];exact h4,h5⟩
  ·obtain⟨G,⟨U,o⟩,p⟩:=Z
   have T:C.w.heap.size+3+1<a.heap.size+1+1:=by
    obtain⟨D,x,k,fd,τ,q1,N,q3,O⟩:=o;exact(O _ (by simp)).2
   exact⟨G,⟨_,o.putD (d:=a.heap.size+1+1) (by simp) _⟩,J V _ p (World.putObj_heap_other (by omega)) (World.putObj_heap_other (by omega))⟩
  ·obtain⟨G,⟨U,o⟩,p,h3⟩:=Q;have T:=o.lt (b:=a.heap.size+1+1) (by simp)
   have hy:=o.lt (b:=c.heap.size) (by simp)
   refine⟨⟨G,⟨U,o.alloc _⟩,by rw[aA_ _ _ _ hy.1];exact p,P V _ h3 (aA_ _ _ _ (by omega)) (aA_ _ _ _ (by omega)),aM _ _ rfl _,T.1⟩,T.1⟩
  ·obtain⟨G,⟨U,o⟩,p,h3,h4,h5⟩:=Q;refine⟨h4,aA p rfl,aD p,?_⟩;refine(hY ([c.heap.size,a.heap.size+1,a.heap.size+1+1],V) f V o.drop h3).mono ?_;rintro e V' (⟨_,hf,_⟩|⟨rfl,Z,hD⟩)
   ·exact hf.elim
   ·obtain⟨D,x,k,fd,τ,q1,N,q3,O⟩:=Z;exact⟨rfl,⟨(O _ (by simp)).1,(O _ (by simp)).1⟩,G,⟨V,D,x,k,fd,τ,q1,N,q3,O⟩,hD⟩
  ·obtain⟨G,⟨U,o⟩,p⟩:=Z
   have T:C.w.heap.size+3+1<a.heap.size+1:=by
    obtain⟨D,x,k,fd,τ,q1,N,q3,O⟩:=o;exact(O _ (by simp)).2
   exact⟨_,o.putD (d:=a.heap.size+1) (by simp) _,as_ (J V _ p (World.putObj_heap_other (by omega)) (World.putObj_heap_other (by omega)))⟩
  ·rintro e W' ⟨rfl,h⟩;obtain⟨t,o,p⟩:=h;exact⟨⟨_,rfl⟩,t,o,p⟩
def p7(args:Array Value)(W:World):(callFunc 119 args).run prog W=.ok (.enter 119 args) W:=(enters_of Tryz.func119 (by kernel_rfl) rfl) args W
section
variable {fp:Nat->Value} {F:Nat->Prop} {w:World} {sb mb n:Nat} {mo:Obj} {ks:List aC} {tape:List Int} {s:bI} {L:List Nat}
def UV(hg:Good ks)(ah:tape.length<=17592186044416)(h:Live fp F w sb mb mo ks tape s n L)(N:Nat)(ak:N∈L)(U:w.heap[N]?=some (.cells #[.pointer (some ⟨sb,0,none⟩)] 39 (0,0))):
 Calls prog 64 #[.pointer (some ⟨sb,0,none⟩),.func (.func 119) #[] #[.pointer (some ⟨N,0,none⟩)],.func (.func 66) #[] #[]] w fun e w'=>∃b,e=.returned (.bool b)/\JF fp sb mb mo ks tape L (MO (cE ks tape) s) w b w':=by
 obtain⟨s0,ap,k0,k1,k2,k3,k4,_⟩:=h.ses.cells;have B:=h.ses.lt;have au:=h.count hg;obtain⟨C,l⟩:∃C:MCtx,C=⟨fp,sb,mb,mo,ks,tape,s,fun _=>true,N,.func (.func 66) #[] #[],w,L,bwd s⟩:=⟨_,rfl⟩
 have Y:Good C.ks:=by rw[l];exact hg
 have a:C.w=w:=by rw[l]
 have aj:C.s=s:=by rw[l]
 have E:C.st=cE ks tape:=by rw[l];rfl
 have ac:C.le=bwd C.s:=by rw[l]
 refine IQ (τ:=List Nat × World) w sb 119 66 #[.pointer (some ⟨N,0,none⟩)] #[] s0 (fun b w'=>JF fp sb mb mo ks tape L (MO (cE ks tape) s) w b w')
  (pD C []) (fun _ _ _=>False) (fun t m b W=>pD C [b] t m W/\W.heap[b]?=some (.cells m.cells 108 (0,0))/\C.w.heap.size+3+1<b) (GM C) B k0 k1 k2 k3 k4 p7 XF
  (fun t m b W r h=>?_) (fun t m W r h=>h) (fun t W r h=>?_) (fun t m W h=>?_) (fun t m b W h=>?_) (fun t W hE=>?_) (fun z j=>?_)
 ·obtain⟨f,S,G⟩:=h;rw[<-a];exact⟨f.put _,by rw[World.putObj_heap_other (by omega)];exact S,G⟩
 ·rw[<-a];exact h.put _
 ·have O:C.w.heap.size+3+1<W.heap.size:=by
   obtain⟨F,n,σ,f,_⟩:=h;exact f.lt
  rw[<-a];exact⟨⟨h.alloc _,aM _ _ rfl _,O⟩,O⟩
 ·obtain⟨⟨F,n,σ,f,S,G,h4,h5,h6⟩,h9,ao⟩:=h;have O:=f.lt;have M:=f.cf;have q:=f.co;obtain⟨s2,τ,Z,a2,Q,a4⟩:=f.ct;have u:=f.set S G h5 (by rw[ac];exact⟨by omega,by simp;omega⟩)
  have p:C.bt=w.heap.size+1:=by rw[<-a];rfl
  have o:C.bo=w.heap.size+1+1:=by rw[<-a];rfl
  have ar:C.bf=w.heap.size:=by rw[<-a];rfl
  rw[a] at O ao;rw[ar] at M;rw[o] at q;rw[p] at Z;have ai:C.fv=.func (.func 66) #[] #[]:=by rw[l]
  rw[ai] at M;refine⟨h9,M,⟨_,Z,by simp[SV.cells]⟩,⟨_,q⟩,by omega,by omega,by omega,?_⟩
  have aa:But ([C.bt]++[C.bo]) W ((dR W C.bt m).setCell ⟨C.bo,0,none⟩ (.bool true)):=(But.set5 W C.bt m).trans (But.set _ _ _);have A:∀x,w.heap.size+1+1<x->x<W.heap.size->((dR W C.bt m).setCell ⟨C.bo,0,none⟩ (.bool true)).heap[x]?=W.heap[x]?:=fun x P am=>aa.blk x am (by simp[p,o];omega)
  have af:W.heap.size<=((dR W C.bt m).setCell ⟨C.bo,0,none⟩ (.bool true)).heap.size:=aa.size;have ae:∀b∈t.1,b<W.heap.size:=fun b d=>(f.live.loc b (aL_ _ (aP_ _ d))).2.1
  rw[<-o,<-p];generalize (dR W C.bt m).setCell ⟨C.bo,0,none⟩ (.bool true)=V at u A af ⊢
  refine(vK m V).mono ?_;rintro e W' ⟨rfl,d⟩;refine⟨true,rfl,⟨by rw[d.block _ (by omega)];exact A _ (by omega) (by omega),by rw[d.block _ (by omega)];exact A _ (by omega) (by omega)⟩,fun _=>?_,fun hp=>by cases hp⟩
  refine⟨F,n,σ.time,true,σ,(u.but (But.below d []) fun b d=>by cases d).more ((u.live.but (But.below d []) fun b d=>(by cases d)).drop fun x P=>aL_ _ P) (fun x P=>aL_ _ P),G,as_ ⟨rfl,h4,G⟩,fun b v=>⟨?_,(h6 b v).2⟩⟩
  have P:=(h6 b v).2;rw[a] at P;rw[d.block _ (by have:=ae b v;omega),A b (by omega) (ae b v)]
  exact(h6 b v).1
 ·obtain⟨F,n,k,fd,τ,f,S,G,h6⟩:=hE;replace f:Mvg C C.all F n k fd W:=f.more (f.live.drop fun b d=>aL_ _ d) (fun _ h=>h)
  obtain⟨s2,ab,Z,a2,Q,a4⟩:=f.ct;obtain rfl:ab=τ:=by rw[S] at Q;cases Q;rfl
  have H:=(Y.sta Q).2.1;have q:=f.co;have O:=f.lt;have J:=f.live;have X:=f.fr.1;have K:=f.fr.2.2;have p:C.bt=w.heap.size+1:=by rw[<-a];rfl
  have o:C.bo=w.heap.size+1+1:=by rw[<-a];rfl
  rw[p] at Z;rw[o] at q;rw[a] at O;rw[l] at J X K;rw[E] at Q;rw[l] at a2;obtain⟨_,_,_,_,_,_,_,c,an,ag⟩:=J.ses.cells;refine⟨s2,fd,Z,q,⟨c,_,an,ag⟩,?_⟩;obtain⟨g1,g2⟩:=J.go a2 (by rw[H];exact Q) (by rw[H];exact a4)
  have ad:∀b∈[w.heap.size+3],b∈C.all:=fun b d=>by
   obtain rfl:=aD_.1 d;simp[MCtx.all,a]
  rw[E,aj] at G;rw[l] at ad;refine⟨F,n,ab,(g1.but (But.put _ (w.heap.size+3) _) ad).drop fun b d=>by simp[MCtx.all,d],G,(X.trans g2).but (But.put _ (w.heap.size+3) _) (fun b d=>?_) B⟩
  obtain rfl:=aD_.1 d;show w.heap.size<=w.heap.size+3
  omega
 ·have T:z.heap.size=w.heap.size+3:=by rw[j];simp
  have aq:∀b,F b->b<w.heap.size:=fun b d=>(h.ses.fix b d).1
  have y:∀g,Below w.heap.size w ((z.alloc (.deferred (some []))).alloc (.loop g)):=fun g=>by
   rw[j];exact(((((ay_ _ w).alloc (au_ _) _).alloc (by simp only[World.size_alloc];omega) _).alloc (by simp only[World.size_alloc];omega) _).alloc (by simp only[World.size_alloc];omega) _).alloc (by simp only[World.size_alloc];omega) _
  have al:∀g,kR fp F ((z.alloc (.deferred (some []))).alloc (.loop g)) s0.val s:=fun g=>ap.keep (fun b d=>(y g).block b (aq b d)) fun _ h=>h
  have I:∀g k,k<z.heap.size->((z.alloc (.deferred (some []))).alloc (.loop g)).heap[k]?=z.heap[k]?:=fun g k hk=>by rw[aA_ _ _ _ (by simp only[World.size_alloc];omega),aA_ _ _ _ hk]
  have D:C.bb=N:=by rw[l]
  rw[<-D];refine LB (C:=C) (F:=F) (n:=n) Y (by rw[l];exact ah) (by omega) z (by rw[a];exact T) (fun g=>?_)
  clear D
  ·have i:=((((h.alloc (.cells #[.func (.func 66) #[] #[]] 132)).alloc (.cells s0.cells 108)).alloc (.cells #[.bool false] 4)).alloc (.deferred (some []))).alloc (.loop g);simp only[World.size_alloc] at i;rw[<-j] at i;have K:∀b∈L,b<w.heap.size:=fun b d=>(h.loc b d).2.1
   have c1:z.heap[w.heap.size]?=some (.cells #[.func (.func 66) #[] #[]] 132 (0,0)):=by
    rw[j,aA_ _ _ _ (by simp only[World.size_alloc];omega),aA_ _ _ _ (by simp only[World.size_alloc];omega)];exact aM _ _ rfl _
   have c2:z.heap[w.heap.size+1]?=some (.cells s0.cells 108 (0,0)):=by
    rw[j,aA_ _ _ _ (by simp only[World.size_alloc];omega)];exact aM _ _ (by simp only[World.size_alloc]) _
   have c3:z.heap[w.heap.size+1+1]?=some (.cells #[.bool false] 4 (0,0)):=by
    rw[j];exact aM _ _ (by simp only[World.size_alloc]) _
   rw[l];exact⟨i,fun _ h=>h,by rw[I g _ (by simp only[MCtx.bf];omega)];exact c1,⟨by rw[(y g).block _ (aD U)];exact U,ak⟩,⟨s0,s,by rw[I g _ (by simp only[MCtx.bt];omega)];exact c2,al g,h.ses.now,h.hn⟩,by rw[I g _ (by simp only[MCtx.bo];omega)];exact c3,⟨au_ _,by simp⟩,FS.of_below (y g) B,B,K⟩
def QL(sb:Nat)(W:World):Calls prog 67 #[.pointer (some ⟨sb,0,none⟩)] W fun e b=>e=.returned (.func (.func 119) #[] #[.pointer (some ⟨W.heap.size,0,none⟩)])/\b=W.alloc (.cells #[.pointer (some ⟨sb,0,none⟩)] 39):=by
 have c:∀(a:Value) (w:World),(Instr.makeFunc (.func 119) #[] #[a]).run prog w=.ok (.func (.func 119) #[] #[a]) w:=fun _ _=>rfl
 go_enter Tryz.func67,Tryz.ntmps67;go_wp2_with fail;go_ret;exact⟨rfl,rfl⟩
def F2(sb:Nat)(w:World)(P:Bool->World->Prop)
 (c:Hid (Calls prog 64 #[.pointer (some ⟨sb,0,none⟩),.func (.func 119) #[] #[.pointer (some ⟨w.heap.size,0,none⟩)],.func (.func 66) #[] #[]] (w.alloc (.cells #[.pointer (some ⟨sb,0,none⟩)] 39)) fun e a=>∃b,e=.returned (.bool b)/\P b a)):
 Calls prog 30 #[.pointer (some ⟨sb,0,none⟩)] w fun e a=>∃b,e=.returned (.bool b)/\P b a:=by
 have f:=aB (QL sb w);go_enter Tryz.func30,Tryz.ntmps30;go_wp2_with fail;refine f.out.mono ?_;rintro e h ⟨rfl,rfl⟩;clear f;go_wp2_with fail;refine c.out.mono ?_;rintro e i ⟨b,rfl,d⟩;have g:=aB d;clear d c;go_wp2_with fail;go_ret;exact⟨b,rfl,g.out⟩
def P8(l:Good ks)(a:tape.length<=17592186044416)(h:Live fp F w sb mb mo ks tape s n L):
 Calls prog 30 #[.pointer (some ⟨sb,0,none⟩)] w fun e d=>∃b,e=.returned (.bool b)/\JF fp sb mb mo ks tape L (MO (cE ks tape) s) w b d:=by
 refine F2 sb w _ ((UV l a (h.alloc (.cells #[.pointer (some ⟨sb,0,none⟩)] 39)) w.heap.size (aS_ ..) (aM _ _ rfl _)).mono ?_);rintro e d ⟨b,rfl,G,m,g,i,j,k⟩;have c:Below w.heap.size w (w.alloc (.cells #[.pointer (some ⟨sb,0,none⟩)] 39)):=(ay_ _ w).alloc (au_ _) _;exact⟨b,rfl,G,m,g,i.drop fun b f=>aJ_ _ f,j,(FS.of_below c h.ses.lt).trans k⟩
end
end Go.Proofs.YtblbkfdhjfppkaaGreatDoor
