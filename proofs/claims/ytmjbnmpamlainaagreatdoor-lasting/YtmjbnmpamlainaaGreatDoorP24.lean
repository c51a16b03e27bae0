/- Contracts of the program: the latest state that is kept. -/
import Derived.Test.YtmjbnmpamlainaaGreatDoorP22
set_option linter.defProp false
set_option maxRecDepth 100000
set_option maxHeartbeats 4000000
namespace Go.Proofs.YtmjbnmpamlainaaGreatDoor
open Hs
open _root_.Go.Proofs.Tryz
open Go.RowKit
def zY(w:World)(sb g n E h j:Nat)(B:Bool)(t:Int)(a:SV)(F:sb<w.heap.size)(p:g<w.heap.size)(hn:n<=1000)
 (u:w.cell? ⟨sb,5,none⟩=some (.slice (some ⟨g,0,none⟩) n E))
 (y:w.cell? ⟨g,j*6+1,none⟩=some (.int .i64 a.t)) (r:w.cell? ⟨g,j*6+2,none⟩=some (.slice a.x1 a.n1 a.c1)) (z:w.cell? ⟨g,j*6+3,none⟩=some (.slice a.x2 a.n2 a.c2)) (A:w.cell? ⟨g,j*6+4,none⟩=some (.slice a.x3 a.n3 a.c3)) (o:w.cell? ⟨g,j*6+5,none⟩=some (.int .i64 a.q))
 (hj:(B=true/\h=j)\/(B=false/\h=j+1)) (aa:j<n)
 (N:Hid (Calls prog 53 #[.pointer (some ⟨sb,5,none⟩),.int .i64 t] (w.alloc (.cells #[.int .i64 0,.slice none 0 0,.slice none 0 0,.slice none 0 0,.int .i64 0] 49)) fun e w'=>e=.returned (.tuple #[.int .i64 h,.bool B])/\Below (w.heap.size+1) (w.alloc (.cells #[.int .i64 0,.slice none 0 0,.slice none 0 0,.slice none 0 0,.int .i64 0] 49)) w')):
 Calls prog 28 #[.pointer (some ⟨sb,5,none⟩),.int .i64 t] w fun e w'=>e=.returned (.tuple #[a.val,.bool true])/\Below w.heap.size w w':=by
 have X:=aB (cL_ u (cL_ y (cL_ r (cL_ z (cL_ A o)))));clear u y r z A o;go_enter func28,ntmps28;go_wp2_with fail;refine N.out.mono ?_;rintro e m ⟨rfl,D⟩;have l:Below w.heap.size w m:=((co_ w.heap.size w).alloc (cy_ _) _).trans (D.mono (by omega))
 have c:m.heap[w.heap.size]?=some (.cells #[.int .i64 0,.slice none 0 0,.slice none 0 0,.slice none 0 0,.int .i64 0] 49 (0,0)):=(D.block _ (by omega)).trans (aO _ _ rfl _)
 obtain⟨u,y,r,z,A,o⟩:=X.out;have k:∀(b i:Nat) (v:Value),b<w.heap.size->w.cell? ⟨b,i,none⟩=some v->m.cell? ⟨b,i,none⟩=some v:=fun b i v C hv=>(World.cell?_of_block (l.block b C)).trans hv
 have Y:=k _ _ _ F u;have U:=k _ _ _ p y;have L:=k _ _ _ p r;have M:=k _ _ _ p z;have d4:=k _ _ _ p A;have V:=k _ _ _ p o;have z0:=aA (i:=0) c rfl;have T:=aA (i:=1) c rfl;have P:=aA (i:=2) c rfl;have Z:=aA (i:=3) c rfl;have Q:=aA (i:=4) c rfl;have O:=aD (i:=0) c;have S:=aD (i:=1) c;have f2:=aD (i:=2) c;have f3:=aD (i:=3) c;have f4:=aD (i:=4) c;have lz:=aC c;have x:=aB (jW (W:=m) (s:=a) c (by simp) rfl)
 have q:=aB (mR a l (cy_ _));unfold eC at x q;have q1:(0:Int)<=(j:Int):=by omega
 have q2:(j:Int)<(n:Int):=by omega
 clear D l c k X u y r z A o N;rcases hj with ⟨rfl,rfl⟩|⟨rfl,rfl⟩
 ·go_wp2_with fail;have f:=x.out;have d:=q.out;clear x q z0 T P Z Q O S f2 f3 f4 U L M d4 Y V;generalize ((((m.setCell ⟨w.heap.size,0,none⟩ (.int .i64 a.t)).setCell ⟨w.heap.size,1,none⟩ (.slice a.x1 a.n1 a.c1)).setCell ⟨w.heap.size,2,none⟩ (.slice a.x2 a.n2 a.c2)).setCell ⟨w.heap.size,3,none⟩ (.slice a.x3 a.n3 a.c3)).setCell ⟨w.heap.size,4,none⟩ (.int .i64 a.q)=W3 at f d ⊢
  obtain⟨G,H,I,J,K⟩:=f;exact bodyPost_ret (v:=.tuple #[a.val,.bool true]) (by simp[results,results28,go_sem,G,H,I,J,K,SV.val]) rfl ⟨rfl,d⟩
 ·have q3:(((j+1:Nat):Int)==0)=false:=by simp;omega
  go_wp2_with fail;have f:=x.out;have d:=q.out;clear x q z0 T P Z Q O S f2 f3 f4 U L M d4 Y V;generalize ((((m.setCell ⟨w.heap.size,0,none⟩ (.int .i64 a.t)).setCell ⟨w.heap.size,1,none⟩ (.slice a.x1 a.n1 a.c1)).setCell ⟨w.heap.size,2,none⟩ (.slice a.x2 a.n2 a.c2)).setCell ⟨w.heap.size,3,none⟩ (.slice a.x3 a.n3 a.c3)).setCell ⟨w.heap.size,4,none⟩ (.int .i64 a.q)=W3 at f d ⊢
  obtain⟨G,H,I,J,K⟩:=f;exact bodyPost_ret (v:=.tuple #[a.val,.bool true]) (by simp[results,results28,go_sem,G,H,I,J,K,SV.val]) rfl ⟨rfl,d⟩
def aH_:(prog.info? 49).map (fun i=>(i.zero,i.size,i.bytes))=some (some (.agg #[Iv0 0,bF,bF,bF,Iv0 0]),5,88):=by kernel_rfl
def X1(w:aG)(b c d e a:aQ):∀j u,([b,c,d,e,a]:List Value)[j]?=some u->(w.alloc (.cells #[b,c,d,e,a] 49)).cell? ((⟨w.heap.size,0,none⟩:Addr).add j)=some u:=by
 intro j u f;exact World.news_of_block (cs:= #[b,c,d,e,a]) (aO _ _ rfl _) j u f
def aj_(v:SV):∀u∈([Iv0 v.t,.slice v.x1 v.n1 v.c1,.slice v.x2 v.n2 v.c2,.slice v.x3 v.n3 v.c3,Iv0 v.q]:List Value),u.oneCell'=true:=by
 intro u a;simp at a;rcases a with rfl|rfl|rfl|rfl|rfl<;>rfl
def tW(l:List SV):List Value:=l.flatMap fun v=>[Iv0 v.t,.slice v.x1 v.n1 v.c1,.slice v.x2 v.n2 v.c2,.slice v.x3 v.n3 v.c3,Iv0 v.q]
def XF(l:List SV)(v:SV):tW (l++[v])=tW l++[Iv0 v.t,.slice v.x1 v.n1 v.c1,.slice v.x2 v.n2 v.c2,.slice v.x3 v.n3 v.c3,Iv0 v.q]:=by simp[tW]
def MB(w:World)(sb a K0 base:Nat)(I:Nat->Nat->List SV->Option Addr->Nat->SV->Bool->World->Prop)(R:List SV->Option Addr->Nat->World->Prop)(ad:0<a)(Y:a<=1000)
 (HL:Hid (Calls prog 28 #[.pointer (some ⟨sb,5,none⟩),.int .i64 ((a-1:Nat):Int)] w fun e w'=>∃v,e=.returned (.tuple #[SV.val v,.bool true])/\I K0 w'.heap.size [] none 0 v true (w'.alloc (.cells v.cells 49))))
 (T:Hid (∀gk b f y d v ok W,I gk b f y d v ok W->W.heap[b]?=some (.cells v.cells 49 (0,0))/\W.ownsRow base 49 5 (.slice y f.length d) f.length (tW f)/\f.length<=1000/\base<=W.heap.size))
 (U:Hid (∀gk b f y d v W,I gk b f y d v true W->v.t<a->∃j,gk=j+1/\∀H m (K:World),K.ownsRow base 49 5 (.slice (some ⟨H,0,none⟩) (f.length+1) m) (f.length+1) (tW (f++[v]))->((W.alloc (.cells v.cells 49)).alloc (.cells v.cells 49)).grownBy K (Value.ownBlock (.slice y f.length d))->(Value.ownBlock (.slice y f.length d)=some H\/H=W.heap.size+2)->
   K.heap[b]?=some (.cells v.cells 49 (0,0))/\Calls prog 29 #[.pointer (some ⟨sb,0,none⟩),v.val] K fun e w'=>∃O ok,e=.returned (.tuple #[SV.val O,.bool ok])/\(∃c,w'.heap[b]?=some (.cells c 49 (0,0))/\c.size=5)/\I j b (f++[v]) (some ⟨H,0,none⟩) m O ok (eC w' b O)))
 (X:Hid (∀gk b f y d v W,I gk b f y d v true W->¬v.t<a->R f y d (W.alloc (.cells v.cells 49)))) (q:Hid (∀gk b f y d v W,I gk b f y d v false W->R f y d W)):
 Calls prog 37 #[.pointer (some ⟨sb,0,none⟩),.int .i64 a] w fun e w'=>∃f y d,e=.returned (.slice y f.length d)/\R f y d w':=by
 obtain⟨i0,hi,aa,ac,ab⟩:=info_parts aH_;have e0:((a:Nat):Int)-1=((a-1:Nat):Int):=by omega
 go_enter func37,ntmps37;go_wp2_with fail;refine HL.out.mono ?_;rintro e w1 ⟨v0,rfl,h1⟩;have H1:=aB h1;unfold SV.cells at H1;unfold SV.val;clear h1 HL;go_wp2_with fail;go_loopg [5,7] K0 (fun gk s5 s7 wr=>∃f y d v ok,s5=.slice y f.length d/\s7=.bool ok/\I gk w1.heap.size f y d v ok wr)
 case atStart=>exact⟨[],_,_,_,_,rfl,rfl,H1.out⟩
 case round=>
  obtain⟨f,y,d,v,ok,rfl,rfl,Q⟩:=hrel;cases ok
  ·have V:=aB (q.out _ _ _ _ _ _ _ Q);clear Q T U X q;go_wp2_with fail;go_ret;exact⟨f,y,d,rfl,V.out⟩
  ·obtain⟨g,x,ah,af⟩:=T.out _ _ _ _ _ _ _ _ Q;unfold SV.cells at g;have D:=aA (i:=0) g rfl;have F:=aA (i:=1) g rfl;have C:=aA (i:=2) g rfl;have E:=aA (i:=3) g rfl;have G:=aA (i:=4) g rfl;have Z:=aC g;have HT:=aB (nV v.t v.q v.x1 v.x2 v.x3 v.n1 v.n2 v.n3 v.c1 v.c2 v.c3 wr);have HO:=aB x;have r:=aB Q;clear x Q;go_wp2_with fail;refine HT.out.mono ?_;rintro e J ⟨rfl,rfl⟩;clear HT;by_cases hv:v.t<a
   ·obtain⟨j,rfl,hN⟩:=U.out _ _ _ _ _ _ _ r.out hv;have e1:(v.t:Int)<(a:Int):=by omega
    have s:=aB hN;unfold SV.cells at s;have A:(wr.alloc (.cells #[.int .i64 v.t,.slice v.x1 v.n1 v.c1,.slice v.x2 v.n2 v.c2,.slice v.x3 v.n3 v.c3,.int .i64 v.q] 49)).ownsRow base 49 5 (.slice y f.length d) f.length (tW f):=HO.out.alloc _;generalize z:wr.alloc (.cells #[.int .i64 v.t,.slice v.x1 v.n1 v.c1,.slice v.x2 v.n2 v.c2,.slice v.x3 v.n3 v.c3,.int .i64 v.q] 49)=J at A s ⊢
    have t:J.heap.size=wr.heap.size+1:=by rw[<-z];simp
    have k:J.heap[w1.heap.size]?=some (.cells #[.int .i64 v.t,.slice v.x1 v.n1 v.c1,.slice v.x2 v.n2 v.c2,.slice v.x3 v.n3 v.c3,.int .i64 v.q] 49 (0,0)):=by rw[<-z,cq_ _ _ _ Z];exact g
    have D:=aA (i:=0) k rfl;have F:=aA (i:=1) k rfl;have C:=aA (i:=2) k rfl;have E:=aA (i:=3) k rfl;have G:=aA (i:=4) k rfl;have S:=aC k;have M:=aB A;have L:=aB t;clear A g k z t HO r T U X q;go_wp2_with (at_builtin;refine wpList_append_lies _ (by rfl) _ _ 85 (by rfl) base 49 i0 _ 5 88 underlying85 hi aa ac ab rfl (by decide) (.slice y f.length d) f.length _ (by rfl) (M.out.alloc _) ⟨J.heap.size,0,none⟩ 1 1 [.int .i64 v.t,.slice v.x1 v.n1 v.c1,.slice v.x2 v.n2 v.c2,.slice v.x3 v.n3 v.c3,.int .i64 v.q] (by rfl) (by rfl) (X1 J _ _ _ _ _) (aj_ v) (by decide) (by unfold maxLen;omega) (by omega) (by simp;have:=L.out;omega) (J.heap.size+1) (by simp) ?_)
    intro H m K p n u ai;obtain⟨l,P⟩:=s.out H m K (by rw[XF];exact p) n (by have:=L.out;rcases u with h|h;exact cl_ h;exact ck_ (by omega))
    clear p n u s M D F C E G S;have D:=aA (i:=0) l rfl;have F:=aA (i:=1) l rfl;have C:=aA (i:=2) l rfl;have E:=aA (i:=3) l rfl;have G:=aA (i:=4) l rfl;have N:=aC l;have B:=aB P;unfold SV.val at B;clear l P;go_wp2_with fail;refine B.out.mono ?_;rintro e w6 ⟨O,ok,rfl,⟨c,o,ag⟩,h6⟩;have H6:=aB h6;unfold eC at H6;clear B D F C E G N h6;have D:=aA (i:=0) o (cr_ (by omega))
    have F:=aA (i:=1) o (cr_ (by omega))
    have C:=aA (i:=2) o (cr_ (by omega))
    have E:=aA (i:=3) o (cr_ (by omega))
    have G:=aA (i:=4) o (cr_ (by omega))
    have f0:=aD (i:=0) o;have f1:=aD (i:=1) o;have f2:=aD (i:=2) o;have f3:=aD (i:=3) o;have f4:=aD (i:=4) o;have ae:=aC o;clear o;go_wp2_with fail;go_roundg j
    case measure=>omega
    case rel=>exact⟨f++[v],_,_,O,ok,by simp,rfl,H6.out⟩
   ·have e1:¬(v.t:Int)<(a:Int):=by omega
    have V:=aB (X.out _ _ _ _ _ _ _ r.out hv);unfold SV.cells at V;clear T U X q HO r g D F C E G;go_wp2_with fail;go_ret;exact⟨f,y,d,rfl,V.out⟩
section
variable {fp:eQ} {F:bX} {w w':aG} {sb mb n:Nat} {mo:Obj} {st:Nat->Option bC} {s:bC}
def WV(h:kL fp F w sb mb mo st s n)(a:Nat)(E:a/20<n)(N:n<=1000):
 Calls prog 28 #[.pointer (some (aH sb 5)),Iv0 a] w fun e w'=>∃(v:SV) (τ:bC),e=aZ (.tuple #[v.val,.bool true])/\st (20*(a/20))=some τ/\jT fp F w' v.val τ/\Below w.heap.size w w':=by
 obtain⟨fv,tv,ov,X,j,Z,h2,L,Y,G,h6,h7⟩:=h.blk;have r:=h.lt;have Q:a/20<j.length:=by omega
 obtain⟨k0,τ,z,p⟩:=G (a/20) Q;obtain⟨v,l,V,W⟩:=p.sv;have c5:w.cell? (aH sb 5)=some X:=aA Z rfl;rcases L.2 with ⟨C,r2⟩|⟨g,u,aa,C,r2,T,r4,r5⟩
 ·omega
 ·subst C;have k:=NR (es:=j) (by rw[Y];exact L) fun i hi=>(G i hi).ok
  obtain⟨_,a0,O,P,H,J,I⟩:=k (a/20) Q;simp only[SV.val,Value.agg.injEq] at l;simp at l;obtain⟨A,K,D,M,B⟩:=l;rw[A] at O;rw[K] at P;rw[D] at H;rw[M] at J;rw[B] at I;have x:Below w.heap.size w (w.alloc (.cells #[Iv0 0,bF,bF,bF,Iv0 0] 49)):=(co_ _ w).alloc cL _;have U:=h.grow x dX fun _ h=>cl_ h
  have t:∀c m,bP_ n (a:Int) c m->m=decide (a%20=0)/\c=if a%20=0 then a/20 else a/20+1:=fun c m f=>by
   have l1:¬c<a/20:=fun q=>by have:=f.hi c (by omega) cL;omega
   have l2:¬a/20+1<c:=fun q=>by have:=f.lo (a/20+1) q;omega
   by_cases d:a%20=0
   ·have l3:¬a/20<c:=fun q=>by have:=f.lo (a/20) q;omega
    have:c=a/20:=by omega
    subst this;rw[if_pos d];exact⟨by rw[f.fnd.2 ⟨E,by omega⟩];simp[d],rfl⟩
   ·have l3:¬c=a/20:=fun q=>by have:=f.hi c (by omega) cL;omega
    rw[if_neg d];refine⟨?_,by omega⟩
    cases m with
    |false=>simp[d]
    |true=>have:=(f.fnd.1 rfl).2;omega
  refine(zY w sb g n u (if a%20=0 then a/20 else a/20+1) (a/20) (decide (a%20=0)) a v r (aC T) N c5 O P H J I ?_ E ((tC U a N).mono ?_)).mono ?_
  ·by_cases d:a%20=0
   ·exact cl_ ⟨by simp[d],if_pos d⟩
   ·exact ck_ ⟨by simp[d],if_neg d⟩
  ·rintro e w' ⟨c,m,rfl,o,f⟩;obtain⟨rfl,rfl⟩:=t _ _ f;refine⟨rfl,?_⟩;rw[World.size_alloc] at o;exact o
  ·rintro e w' ⟨rfl,o⟩;refine⟨v,τ,rfl,z,?_,o⟩
   have S:v.val=.agg #[Iv0 j[a/20].a,j[a/20].b,j[a/20].c,j[a/20].d,Iv0 j[a/20].e]:=by
    rw[A,K,D,M,B];rfl
   rw[S];exact p.keep (fun b y=>o.block b (h.fix b y).1) fun _ h=>h
end
section
variable {fp:eQ} {F G:bX} {w w':aG} {sb mb n n':Nat} {mo:Obj} {ks:List aE} {tape:List Int} {s:bC} {L:List Nat}
def Live.fresh(h:Live fp F w sb mb mo ks tape s n L)(a:Live fp F w' sb mb mo ks tape s n L)(f:w'.heap[sb]?=w.heap[sb]?){b:Nat}(k:w.heap.size<=b)(c:b<w'.heap.size):Live fp F w' sb mb mo ks tape s n (b::L):=by
 refine⟨a.ses,a.tab,a.pow,a.low,a.hn,fun x d=>?_⟩
 rcases cv_.1 d with rfl|d
 ·have j:=h.ses.lt;have i:=h.low;refine⟨by omega,c,fun g=>by have:=(h.ses.fix _ g).1;omega,fun e=>?_,by omega,by have:=aC h.ses.map.1;omega⟩
  rw[oS f] at e;have:=(h.row e).2.1;omega
 ·exact a.loc x d
def Live.freshL(h:Live fp F w sb mb mo ks tape s n L)(e:Live fp F w' sb mb mo ks tape s n L)(f:w'.heap[sb]?=w.heap[sb]?):∀(M:List Nat),(∀b∈M,w.heap.size<=b/\b<w'.heap.size)->Live fp F w' sb mb mo ks tape s n (M++L)
 |[],_=>e
 |b::M,d=>by
  have a:=Live.freshL h e f M fun x c=>d x (cx_ _ c)
  have g:=h.fresh e f (d b (cJ_ ..)).1 (d b (cJ_ ..)).2
  exact⟨a.ses,a.tab,a.pow,a.low,a.hn,fun x c=>by
   rcases cv_.1 c with rfl|c
   ·exact g.loc x (cJ_ ..)
   ·exact a.loc x c⟩
def rD(y:Option Addr)(k d:Nat):List Nat:=(Value.ownBlock (.slice y k d)).toList
structure be_(fp:eQ)(sb mb:Nat)(mo:Obj)(ks:List aE)(tape:List Int)(s:bC)(L:List Nat)(w:aG)(F0:bX)(n0 t0:Nat)(F:bX)(n:Nat)(vs:List SV)(y:Option Addr)(d:Nat)(W:aG):Prop where
 fs:FS sb w W
 ext:Ext F0 F w.heap.size
 le:n0<=n
 own:W.ownsRow w.heap.size 49 5 (.slice y vs.length d) vs.length (tW vs)
 live:Live fp F W sb mb mo ks tape s n (rD y vs.length d++L)
 all:∀i (h:i<vs.length),∃τ,bU ks tape (t0+i)=some τ/\jT fp F W vs[i].val τ
structure StI(fp:eQ)(sb mb:Nat)(mo:Obj)(ks:List aE)(tape:List Int)(s:bC)(L:List Nat)(w:aG)(F0:bX)(n0 t0 end_ K0:Nat)(gk b:Nat)(vs:List SV)(y:Option Addr)(d:Nat)(v:SV)(ok:Bool)(W:aG):Prop where
 ok:ok=true
 gk:gk+vs.length=K0
 le:t0+vs.length<=end_
 blk:W.heap[b]?=some (.cells v.cells 49 (0,0))
 hb:w.heap.size<=b/\b∉rD y vs.length d
 now:∃F n τ,be_ fp sb mb mo ks tape s (b::L) w F0 n0 t0 F n vs y d W/\bU ks tape (t0+vs.length)=some τ/\jT fp F W v.val τ/\τ.time/20<n
def PJ(Y:Good ks)(ap:tape.length<=17592186044416)(h:Live fp F w sb mb mo ks tape s n L)(a:Nat)(h0:0<a)(h1:a<=s.time)(hn:n<=1000):
 Calls prog 37 #[bH sb,Iv0 a] w fun e w'=>∃l y d,e=aZ (.slice y l.length d)/\20*((a-1)/20)+l.length=a/\∃E n',be_ fp sb mb mo ks tape s L w F n (20*((a-1)/20)) E n' l y d w':=by
 have al:=(Y.sta h.ses.now).1.time;have ac:=h.ses.now;have bb:=h.hn;have I:=h.ses.lt;refine(MB w sb a (a+1-20*((a-1)/20)) w.heap.size (StI fp sb mb mo ks tape s L w F n (20*((a-1)/20)) a (a+1-20*((a-1)/20))) (fun l y d W=>20*((a-1)/20)+l.length=a/\∃E n',be_ fp sb mb mo ks tape s L w F n (20*((a-1)/20)) E n' l y d W) h0 (by omega) ((WV h.ses (a-1) (by omega) hn).mono ?_) (fun gk b l y d v ok W r=>?_) (fun gk b l y d v W r hv=>?_) (fun gk b l y d v W r hv=>?_) (fun gk b l y d v W r=>?_)).mono ?_
 ·rintro e w1 ⟨v,A,rfl,o,u,hb⟩;have ab:Live fp F w1 sb mb mo ks tape s n L:=h.but (But.below hb []) pV;have K:Below w.heap.size w (w1.alloc (.cells v.cells 49)):=hb.alloc hb.size _;refine⟨v,rfl,rfl,by simp,by simp;omega,aO _ _ rfl _,⟨hb.size,by simp[rD,Value.ownBlock]⟩,F,n,A,⟨FS.of_below K I,Ext.refl _ _,cL,World.ownsRow_nil _ _ _ _,by simpa [rD,Value.ownBlock] using ab.alloc _,fun i X=>by simp at X⟩,by simpa using o,u.but ab (But.alloc _ _ []) pV,?_⟩
  have:=(Y.sta o).2.1;omega
 ·obtain⟨E,n',A,j,_⟩:=r.now;have:=r.le;exact⟨r.blk,j.own,by omega,j.fs.size⟩
 ·obtain⟨E,n',A,j,o,u,O⟩:=r.now
  have ao:v.t=20*((a-1)/20)+l.length:=by
   obtain⟨s2,e1,e2,_⟩:=u.sv;obtain rfl:=SV.val_inj e1;rw[e2];exact(Y.sta o).2.1
  have ah:=(Y.sta o).2.1;have bd:=r.gk;obtain⟨K,ad⟩:=r.hb;refine⟨gk-1,by omega,fun V aw H B f C=>?_⟩
  have au:=aC r.blk;have ay:((W.alloc (.cells v.cells 49)).alloc (.cells v.cells 49)).heap.size=W.heap.size+2:=by simp
  have az:=((j.live.alloc (.cells v.cells 49)).alloc (.cells v.cells 49)).drop (L':=rD y l.length d++b::L) fun x c=>cx_ _ (cx_ _ c)
  have aa:But [] W ((W.alloc (.cells v.cells 49)).alloc (.cells v.cells 49)):=(But.alloc W _ []).trans (But.alloc _ _ []);have Z:But (rD y l.length d) ((W.alloc (.cells v.cells 49)).alloc (.cells v.cells 49)) H:=⟨f.os,f.tape,f.output,f.size,fun k hk hm=>f.block k hk fun e=>hm (by simp[rD,<-e])⟩
  have p:But (rD y l.length d) W H:=by simpa using aa.trans Z
  have J:∀x∈rD y l.length d,x∈rD y l.length d++b::L:=fun x c=>cC_ _ c
  have ag:=j.live.but p J;have ae:H.heap[sb]?=W.heap[sb]?:=p.blk sb j.live.ses.lt fun hm=>(j.live.loc sb (J sb hm)).2.2.2.2.1 rfl
  have ar:V<H.heap.size:=by
   rcases B.2 with ⟨r1,_⟩|⟨g,bc,ax,r1,_,r3,_⟩
   ·cases r1
   ·cases r1;exact aC r3
  have q:Live fp E H sb mb mo ks tape s n' (V::b::L):=by
   rcases C with N|N
   ·exact ag.drop fun x c=>by
     rcases cv_.1 c with rfl|c
     ·exact cC_ _ (by simp[rD,N])
     ·exact cI_ _ c
   ·exact(j.live.fresh ag ae (by omega) ar).drop fun x c=>by
     rcases cv_.1 c with rfl|c
     ·exact cJ_ ..
     ·exact cx_ _ (cI_ _ c)
  have Q:V≠b:=by
   rcases C with N|N
   ·rintro rfl;exact ad (by simp[rD,N])
   ·omega
  have av:w.heap.size<=V:=by
   rcases C with N|N
   ·exact(j.own.lt _ N).1
   ·have:=j.fs.size;omega
  have ai:H.heap[b]?=some (.cells v.cells 49 (0,0)):=by rw[p.blk b au ad];exact r.blk
  have S:jT fp E H v.val A:=u.but j.live p J
  have U:∀i (h:i<l.length),∃A,bU ks tape (20*((a-1)/20)+i)=some A/\jT fp E H l[i].val A:=fun i X=>by
   obtain⟨D,q1,q2⟩:=j.all i X;exact⟨D,q1,q2.but j.live p J⟩
  have P:FS sb w H:=j.fs.but p (fun x c=>by
   simp only[rD,Option.mem_toList] at c;exact(j.own.lt x c).1) I
  refine⟨ai,(xY Y q ap v A S (by rw[ah];exact o) O).mono ?_⟩
  rintro e w6 ⟨v',ok,rfl,G,m,k1,k2,k3,k4,k5,k6⟩
  have am:ok=true:=by
   cases ok with
   |true=>rfl
   |false=>
    obtain⟨x,aj,ak⟩:=DR ac (t:=20*((a-1)/20)+l.length) (by omega)
    rw[o] at aj;cases aj;exact absurd ak (k6 rfl)
  subst am;obtain⟨_,aq,a1,a2,a3,a4⟩:=k5 rfl;have af:w6.heap[b]?=some (.cells v.cells 49 (0,0)):=by rw[q.blk k3 (by simp)];exact ai
  have an:w6.heap[V]?=H.heap[V]?:=q.blk k3 (by simp)
  have z:But [b] w6 (eC w6 b v'):=But.set5 _ _ _;have M:∀x∈[b],x∈(V::b::L):=fun x c=>by rw[cs_.1 c];simp
  refine⟨v',true,rfl,⟨_,af,by simp[SV.cells]⟩,rfl,by simp;omega,by simp;omega,rT af rfl,⟨K,by simp[rD,Value.ownBlock];exact fun e=>Q e.symm⟩,G,m,aq,⟨?_,⟨fun x c=>k2.sub x (j.ext.sub x c),fun x c=>?_⟩,cw_ j.le k1,?_,?_,?_⟩,?_,a3.but k4 z M,a4⟩
  ·exact(P.trans k3).but z (fun x c=>by rw[cs_.1 c];exact K) I
  ·rcases k2.new x c with c|c
   ·exact j.ext.new x c
   ·exact ck_ (by have:=P.size;omega)
  ·have:=aW (w1:=eC w6 b v') B fun k hk=>by
    simp[Value.ownBlock] at hk;subst hk;rw[dH _ _ _ _ Q];exact an
   simpa using this
  ·have:=k4.but z M;simpa [rD,Value.ownBlock] using this
  ·intro i X;rcases cR_ i l.length with T|T
   ·obtain⟨D,q1,q2⟩:=U i T;refine⟨D,q1,?_⟩;rw[dH_ T];exact(q.stR k3 k2 q2).but k4 z M
   ·obtain rfl:i=l.length:=by simp at X;omega
    refine⟨A,o,?_⟩;simp only[dD_ cL,Nat.sub_self,dL_];exact(q.stR k3 k2 S).but k4 z M
  ·rw[show 20*((a-1)/20)+(l++[v]).length=A.time+1 by simp;omega];exact a1
 ·obtain⟨E,n',A,j,o,u,O⟩:=r.now
  have ao:v.t=20*((a-1)/20)+l.length:=by
   obtain⟨s2,e1,e2,_⟩:=u.sv;obtain rfl:=SV.val_inj e1;rw[e2];exact(Y.sta o).2.1
  have ba:=r.le;have p:But [] W (W.alloc (.cells v.cells 49)):=But.alloc W _ [];refine⟨by omega,E,n',j.fs.but p pV I,j.ext,j.le,j.own.alloc _,(j.live.alloc _).drop fun x c=>?_,fun i X=>?_⟩
  ·rcases cu_.1 c with c|c
   ·exact cx_ _ (cC_ _ c)
   ·exact cx_ _ (cI_ _ (cx_ _ c))
  ·obtain⟨D,q1,q2⟩:=j.all i X;exact⟨D,q1,q2.but j.live p pV⟩
 ·have:=r.ok;cases this
 ·rintro e w' ⟨l,y,d,rfl,h1,h2⟩;exact⟨l,y,d,rfl,h1,h2⟩
end
attribute [local go_sem] Oper.semAt_some
def OK(x:Option Addr)(n c:Nat)(W:aG):Calls prog 38 #[.slice x n c] W fun e b=>e=aZ (.func (.func 66) #[] #[bH W.heap.size])/\b=W.alloc (.cells #[.slice x n c] 85):=by
 have d:∀(a:aQ) (w:aG),(Instr.makeFunc (.func 66) #[] #[a]).run prog w=.ok (.func (.func 66) #[] #[a]) w:=fun _ _=>rfl
 go_in
 go_wp2
 go_ret;exact⟨rfl,rfl⟩
def bG_(args:Array Value)(W:aG):(callFunc 66 args).run prog W=.ok (.enter 66 args) W:=(enters_of func66 (by kernel_rfl) rfl) args W
def LB:∀(l:List SV) (i j:Nat) (v:SV),l[i]?=some v->j<5->(tW l)[i*5+j]?=([Iv0 v.t,.slice v.x1 v.n1 v.c1,.slice v.x2 v.n2 v.c2,.slice v.x3 v.n3 v.c3,Iv0 v.q]:List Value)[j]?
 |[],_,_,_,h,_=>by simp at h
 |x::l,0,j,v,h,a=>by
  simp at h;subst h;simp only[tW,List.flatMap_cons,Nat.zero_mul,c8_];rw[cX_ (by simp;omega)]
 |x::l,i+1,j,v,h,a=>by
  have:=LB l i j v (by simpa using h) a
  rw[<-this];simp only[tW,List.flatMap_cons];rw[cN_ (by simp;omega)]
  congr 1
  simp;omega
section
variable {C:MCtx} {M:List Nat} {t:List Nat × World} {s':SV} {W:aG}
end
def bF_(args:Array Value)(W:aG):(callFunc 36 args).run prog W=.ok (.enter 36 args) W:=(enters_of func36 (by kernel_rfl) rfl) args W
section
variable {fp:eQ} {F:bX} {w:aG} {sb mb n:Nat} {mo:Obj} {ks:List aE} {tape:List Int} {s:bC} {L:List Nat}
def SQ(sb:Nat)(W:aG):Calls prog 17 #[bH sb] W fun e b=>e=aZ (.func (.func 36) #[] #[bH W.heap.size])/\b=W.alloc (.cells #[bH sb] 23):=by
 have c:∀(a:aQ) (w:aG),(Instr.makeFunc (.func 36) #[] #[a]).run prog w=.ok (.func (.func 36) #[] #[a]) w:=fun _ _=>rfl
 go_in
 go_wp2
 go_ret;exact⟨rfl,rfl⟩
end
end Go.Proofs.YtmjbnmpamlainaaGreatDoor
