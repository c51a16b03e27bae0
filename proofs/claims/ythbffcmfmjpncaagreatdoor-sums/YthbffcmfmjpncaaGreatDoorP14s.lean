/- Sums: an Int as an expression, and which operation is meant. -/
import Derived.Test.YthbffcmfmjpncaaGreatDoorB05s
import Derived.Test.YthbffcmfmjpncaaGreatDoorP13s
set_option linter.defProp false
set_option maxRecDepth 100000
set_option maxHeartbeats 4000000
namespace Go.Proofs.YthbffcmfmjpncaaGreatDoor
open Hs
open _root_.Go.Proofs.Tryz
open Go.RowKit
variable{d lo:Nat}
def zF(n:Int)(c: -9223372036854775808<=n)(b:n<=9223372036854775807)(w:World)(d:mD w):
 Calls prog 20 #[.int .i64 n] w λe f=>e=.returned (.string (bs (cT n)))/\Below w.heap.size w f:=by
 refine(strconv_Itoa n c b w d).mono ?_;rintro e h ⟨rfl,g,i,a⟩;exact⟨by rw[qW n c b];rfl,zK a⟩
def RX(c:Int)(j: -9223372036854775808<=c)(g:c<=9223372036854775807):
 ∃k:Nat,k<5/\∀w,Calls prog 16 #[.int .i64 c,.int .i64 5] w λe b=>e=.returned (.int .i64 k)/\b=w:=by
 by_cases l:c<0
 ·have d:wrap64 (c+1)=c+1:=by unfold wrap64;omega
  have n:wrap64 (-(c+1))= -(c+1):=by unfold wrap64;omega
  obtain⟨m,a⟩:∃m:Nat, -(c+1)=(m:Int):=⟨(-(c+1)).toNat,o_⟩
  have f:(-(c+1)).tmod 5=((m%5:Nat):Int):=by rw[a];rfl
  refine⟨m%5,Nat.mod_lt _ o_,λw=>?_⟩
  go_enter func16,ntmps16;go_wp2_with fail;refine bodyPost_ret (v:=.int .i64 ((m%5:Nat):Int)) ?_ rfl ⟨rfl,rfl⟩;have i:(c+1).tmod 5= -((m%5:Nat):Int):=by rw[show c+1= -(m:Int) by omega,Int.neg_tmod];rfl
  simp[results,results16,go_sem]
 ·obtain⟨m,rfl⟩:∃m:Nat,c=(m:Int):=⟨c.toNat,o_⟩
  refine⟨m%5,Nat.mod_lt _ o_,λw=>?_⟩
  go_enter func16,ntmps16;go_wp2_with fail;refine bodyPost_ret (v:=.int .i64 ((m%5:Nat):Int)) (by simp[results,results16,go_sem]) rfl ⟨rfl,rfl⟩
def vP(n:Int)(o: -9223372036854775808<=n)(m:n<=9223372036854775807)(w:World)(b:mD w):
 Calls prog 19 #[.int .i64 n] w λe l=>e=.returned (.string (bs (Hs.litL n)))/\Below w.heap.size w l:=by
 by_cases g:n= -9223372036854775808
 ·subst g;go_enter func19,ntmps19;go_wp2_with fail;go_ret;exact⟨k_,F9 _ _⟩
 ·by_cases p:n<0
  ·have s:wrap64 (-n)= -n:=by unfold wrap64;omega
   have i:cT (-n)=cX n.natAbs:=by
    unfold cT cX;rw[if_neg o_,show (-n).natAbs=n.natAbs by omega];rfl
   have j:Hs.litL n=[40,45]++(cX n.natAbs++[41]):=by unfold Hs.litL;rw[if_neg g,if_pos p]
   have d:=aB (zF (-n) o_ o_ w b)
   rw[i] at d;rw[j];have q:=lT n.natAbs;generalize cX n.natAbs=c at*;have r:(bs c).size=c.length:=gI c;clear b i j;go_enter func19,ntmps19;go_wp2_with fail;refine d.out.mono ?_;rintro e k ⟨rfl,a⟩;have f:=aB a;clear a;go_wp2_with fail;go_ret;refine⟨?_,f.out⟩;show Ending.returned (.string (bs [40,45]++bs c++bs [41]))=_
   rw[iK,iK,I6];rfl
  ·have d:=aB (zF n o m w b);clear b;go_enter func19,ntmps19;go_wp2_with fail;refine d.out.mono ?_;rintro e k ⟨rfl,a⟩;have f:=aB a;clear a;go_wp2_with fail;go_ret;refine⟨?_,f.out⟩;unfold Hs.litL cT;rw[if_neg g,if_neg o_,if_neg o_];rfl
def YO:Obj:=.cells #[.string ⟨#[43]⟩,.string ⟨#[45]⟩,.string ⟨#[42]⟩,.string ⟨#[47]⟩,.string ⟨#[37]⟩] 46
def QY(w:World)(x y c:Int)(k L:Nat)(op:UInt8)(f t P:List UInt8)(S:Nat->World->Prop)
 (Z:(2<k/\y=0/\L=3/\P=[])\/(L=0/\∃V, -9223372036854775808<=V/\V<=9223372036854775807/\P=cT V/\((k=0/\V=wrap64 (x+y))\/(k=1/\V=wrap64 (x-y))\/(k=2/\V=wrap64 (x*y))\/(k=3/\y= -1/\V=wrap64 (-x))\/(k=4/\y= -1/\V=0)\/(k=3/\y≠0/\y≠ -1/\V=wrap64 (x.tdiv y))\/(k=4/\y≠0/\y≠ -1/\V=x.tmod y))))
 (hk:k<5) (aa:f.length<=50) (ad:t.length<=50)
 (HP:Hid (∀W,Calls prog 16 #[.int .i64 c,.int .i64 5] W λe d=>e=.returned (.int .i64 k)/\d=W))
 (X:Hid (Calls prog 17 #[.string ⟨#[102,117,110,99,32,109,97,105,110,40,41,32,123,32,125]⟩,.slice none 0 0] (w.alloc YO) λe d=>∃sb,e=.returned (.tuple #[.pointer (some ⟨sb,0,none⟩),.int .i64 0,.int .i64 0])/\S sb d))
 (HD:Hid (∀sb W,S sb W->S sb W.drew))
 (B:Hid (∀sb W,S sb W->W.cell? ⟨w.heap.size,k,none⟩=some (.string (bs [op]))))
 (HX:Hid (∀sb W,S sb W->Calls prog 19 #[.int .i64 x] W λe d=>e=.returned (.string (bs f))/\S sb d))
 (U:Hid (∀sb W,S sb W->Calls prog 19 #[.int .i64 y] W λe d=>e=.returned (.string (bs t))/\S sb d))
 (HE:Hid (∀sb W,S sb W->Calls prog 18 #[.pointer (some ⟨sb,0,none⟩),.string (bs f++bs [op]++bs t)] W λe d=>e=.returned (.tuple #[.string (bs P),.int .i64 L,.int .i64 0,.int .i64 0])/\S sb d))
 (I:Hid (∀V sb W,S sb W-> -9223372036854775808<=V->V<=9223372036854775807->Calls prog 20 #[.int .i64 V] W λe d=>e=.returned (.string (bs (cT V)))/\S sb d))
 (F:Hid (∀sb W,S sb W->Below w.heap.size w W)):
 Calls prog 5 #[.int .i64 x,.int .i64 y,.int .i64 c] w λe d=>e=.returned (.bool true)/\Below w.heap.size w d:=by
 have r:=aB Z;clear Z;have N:(bs f).size=f.length:=gI f;have J:(bs t).size=t.length:=gI t;have O:(bs [op]).size=1:=gI [op];have G:¬9223372036854775807<f.length+1:=o_
 have M:¬9223372036854775807<f.length+1+t.length:=o_
 have ac:(0:Int)<=(k:Int):=o_
 have ab:(k:Int)<5:=o_
 go_enter func5,ntmps5;go_wp2_with fail;refine(HP.out _).mono ?_;rintro e w1 ⟨rfl,rfl⟩;clear HP;go_wp2_with fail;refine X.out.mono ?_;rintro e w2 ⟨sb,rfl,H⟩;have m:=HD.out _ _ H;have Y:=aB m;have T:=B.out _ _ m;clear H m X;go_wp2_with fail;refine wp_region_held_drew (S:=λW=>W.cell? ⟨w.heap.size,k,none⟩=some (.string (bs [op]))) k_ T (λa=>?_)
 (refine wpAnyH_take (i:=0) (v:=?_) rfl k_ k_ k_ (λ_ _ _ h=>h) (F7 ⟨r_,?_⟩) a ?_;rotate_left;(intro w b;(try dsimp only at b);go_simp<;>with_reducible rfl))
 (refine wpAnyH_take (i:=1) (v:=?_) rfl k_ k_ k_ (λ_ _ _ h=>h) (F7 ⟨r_,?_⟩) a ?_;rotate_left;(intro w b;(try dsimp only at b);go_simp<;>with_reducible rfl))
 (refine wpAnyH_take (i:=3) (v:=?_) rfl k_ k_ k_ (λ_ _ _ h=>h) (F7 ⟨r_,?_⟩) a ?_;rotate_left;(intro w b;(try dsimp only at b);go_simp<;>with_reducible rfl))
 (refine wpAnyH_take (i:=7) (v:=?_) rfl k_ k_ k_ (λ_ _ _ h=>h) (F7 ⟨r_,?_⟩) a ?_;rotate_left;(intro w b;(try dsimp only at b);go_simp<;>with_reducible rfl))
 (refine wpAnyH_take (i:=4) (v:=?_) rfl k_ k_ k_ (λ_ _ _ h=>h) (F7 ⟨r_,?_⟩) a ?_;rotate_left;(intro w b;(try dsimp only at b);go_simp<;>with_reducible rfl))
 (refine wpAnyH_take (i:=5) (v:=?_) rfl k_ k_ k_ (λ_ _ _ h=>h) (F7 ⟨r_,?_⟩) a ?_;rotate_left;(intro w b;(try dsimp only at b);go_simp<;>with_reducible rfl))
 refine wpAnyH_ready (rs:=[2]) k_ s_ ?_
 refine AllReadyH.cons rfl (λK g=>?_) AllReadyH.nil
 go_simp;go_at_call 19
 refine(HX.out _ _ Y.out).mono ?_;rintro e w3 ⟨rfl,p⟩;have Hw3:=aB p;have C:=B.out _ _ p;clear p;go_wp2_with fail;refine g.out _ _ C (λa=>?_)
 clear g K;(refine wpAnyH_take (i:=6) (v:=?_) rfl k_ k_ k_ (λ_ _ _ h=>h) (F7 ⟨r_,?_⟩) a ?_;rotate_left;(intro w b;(try dsimp only at b);go_simp<;>with_reducible rfl))
 refine wpAnyH_ready (rs:=[8]) k_ s_ ?_
 refine AllReadyH.cons rfl (λK g=>?_) AllReadyH.nil
 go_simp;go_at_call 19
 refine(U.out _ _ Hw3.out).mono ?_;rintro e w4 ⟨rfl,n⟩;have Hw4:=aB n;have D:=B.out _ _ n;clear n;go_wp2_with fail;refine g.out _ _ D (λa=>?_)
 clear g K;(refine wpAnyH_take (i:=9) (v:=?_) rfl k_ k_ k_ (λ_ _ _ h=>h) (F7 ⟨r_,?_⟩) a ?_;rotate_left;(intro w b;(try dsimp only at b);go_simp<;>with_reducible rfl))
 refine wpAnyH_ready (rs:=[10]) k_ s_ ?_
 refine AllReadyH.cons rfl (λK g=>?_) AllReadyH.nil
 go_simp;go_at_call 18
 refine(HE.out _ _ Hw4.out).mono ?_;rintro e w5 ⟨rfl,s⟩;have Hw5:=aB s;have E:=B.out _ _ s;clear s;go_wp2_with fail;refine g.out _ _ E (λa=>?_)
 clear g K;(refine wpAnyH_take (i:=11) (v:=?_) rfl k_ k_ k_ (λ_ _ _ h=>h) (F7 ⟨r_,?_⟩) a ?_;rotate_left;(intro w b;(try dsimp only at b);go_simp<;>with_reducible rfl))
 (refine wpAnyH_take (i:=12) (v:=?_) rfl k_ k_ k_ (λ_ _ _ h=>h) (F7 ⟨r_,?_⟩) a ?_;rotate_left;(intro w b;(try dsimp only at b);go_simp<;>with_reducible rfl))
 (refine wpAnyH_take (i:=13) (v:=?_) rfl k_ k_ k_ (λ_ _ _ h=>h) (F7 ⟨r_,?_⟩) a ?_;rotate_left;(intro w b;(try dsimp only at b);go_simp<;>with_reducible rfl))
 (refine wpAnyH_take (i:=14) (v:=?_) rfl k_ k_ k_ (λ_ _ _ h=>h) (F7 ⟨r_,?_⟩) a ?_;rotate_left;(intro w b;(try dsimp only at b);go_simp<;>with_reducible rfl))
 (refine wpAnyH_take (i:=15) (v:=?_) rfl k_ k_ k_ (λ_ _ _ h=>h) (F7 ⟨r_,?_⟩) a ?_;rotate_left;(intro w b;(try dsimp only at b);go_simp<;>with_reducible rfl))
 (refine wpAnyH_take (i:=16) (v:=?_) rfl k_ k_ k_ (λ_ _ _ h=>h) (F7 ⟨r_,?_⟩) a ?_;rotate_left;(intro w b;(try dsimp only at b);go_simp<;>with_reducible rfl))
 (refine wpAnyH_take (i:=17) (v:=?_) rfl k_ k_ k_ (λ_ _ _ h=>h) (F7 ⟨r_,?_⟩) a ?_;rotate_left;(intro w b;(try dsimp only at b);go_simp<;>with_reducible rfl))
 (refine wpAnyH_take (i:=18) (v:=?_) rfl k_ k_ k_ (λ_ _ _ h=>h) (F7 ⟨r_,?_⟩) a ?_;rotate_left;(intro w b;(try dsimp only at b);go_simp<;>with_reducible rfl))
 (refine wpAnyH_take (i:=19) (v:=?_) rfl k_ k_ k_ (λ_ _ _ h=>h) (F7 ⟨r_,?_⟩) a ?_;rotate_left;(intro w b;(try dsimp only at b);go_simp<;>with_reducible rfl))
 refine wpAnyH_done k_ ?_ _
 clear HX U HE B HD Y Hw3 Hw4 T C D E G M;clear N J O;rcases r.out with ⟨h1,rfl,rfl,rfl⟩|⟨rfl,V,z,A,rfl,hV⟩
 ·clear I r;have H:(2:Int)<(k:Int):=o_
  have h3:(bs []).toList.isEmpty=true:=by rw[bT];rfl
  go_wp2_with fail;refine bodyPost_ret (v:=.bool true) (by simp[results,results5,go_sem]) rfl ⟨rfl,F.out _ _ Hw5.out⟩
 ·have q:=aB (I.out V _ _ Hw5.out z A);clear I r Hw5 z A;rcases hV with ⟨rfl,rfl⟩|⟨rfl,rfl⟩|⟨rfl,rfl⟩|⟨rfl,rfl,rfl⟩|⟨rfl,rfl,rfl⟩|⟨rfl,l,o,rfl⟩|⟨rfl,l,o,rfl⟩
  rotate_left 5
  ·have e0:(y==0)=false:=by simpa using l
   have e1:(y== -1)=false:=by simpa using o
   go_wp2_with fail;refine q.out.mono ?_;rintro e Q ⟨rfl,j⟩;have u:=aB (F.out _ _ j);clear j;go_wp2_with fail;refine bodyPost_ret (v:=.bool true) (by simp[results,results5,go_sem]) rfl ⟨rfl,u.out⟩
  ·have e0:(y==0)=false:=by simpa using l
   have e1:(y== -1)=false:=by simpa using o
   go_wp2_with fail;refine q.out.mono ?_;rintro e Q ⟨rfl,j⟩;have u:=aB (F.out _ _ j);clear j;go_wp2_with fail;refine bodyPost_ret (v:=.bool true) (by simp[results,results5,go_sem]) rfl ⟨rfl,u.out⟩
  all_goals
   go_wp2_with fail;refine q.out.mono ?_;rintro e Q ⟨rfl,j⟩;have u:=aB (F.out _ _ j);clear j;go_wp2_with fail;refine bodyPost_ret (v:=.bool true) (by simp[results,results5,go_sem]) rfl ⟨rfl,u.out⟩
def YD:Nat->aC->Prop
 |0,_=>False
 |d+1,a=>(a.op=[48]\/a.op=[45,120]\/(bF a.op=3\/bF a.op=4))/\∀k∈a.y_,YD d k
def A0:Nat->Value->Prop
 |0,_=>False
 |d+1,v=>(∃l k:Nat,v=.iface 307 (.agg #[.int .i64 l,.int .i64 k]))\/(∃(l:Nat) (x:ByteArray) (v1:Value),v=.iface 280 (.agg #[.int .i64 l,.string x,v1])/\A0 d v1)\/∃(l:Nat) (x:ByteArray) (v1 v2:Value),v=.iface 282 (.agg #[.int .i64 l,.string x,v1,v2])/\A0 d v1/\A0 d v2
def A0.form:∀{d:Nat} {v:Value},A0 d v->∃T a,v=.iface T (.agg a)
 |0,_,h=>h.elim
 |_+1,_,h=>by
  rcases h with ⟨l,k,rfl⟩|⟨l,x,b,rfl,_⟩|⟨l,x,b,c,rfl,_⟩
  ·exact⟨_,_,rfl⟩
  ·exact⟨_,_,rfl⟩
  ·exact⟨_,_,rfl⟩
def PN.ar:∀(d:Nat) {F:Nat->Prop} {w:World} {v:Value} {a:aC},PN F w v a->YD d a->A0 d v
 |0,_,_,_,_,_,h=>h.elim
 |d+1,F,w,v,a,H,h=>by
  obtain⟨T,K,I,rfl,u,n⟩:=H.parts;obtain⟨m,q⟩:=h
  have g:∀x:List UInt8,a.op=x->x≠[48]->x≠[45,120]->bF x=9->False:=λx e D C B=>by
   rcases m with m|m|m|m
   ·exact D (by rw[<-e];exact m)
   ·exact C (by rw[<-e];exact m)
   ·rw[e,B] at m;cases m
   ·rw[e,B] at m;cases m
  rcases u with ⟨rfl,k,rfl,f,_,b,rfl⟩|⟨rfl,rfl,f,b,rfl⟩|⟨rfl,rfl,f,b,rfl⟩|⟨rfl,r,rfl,f,rfl⟩|⟨rfl,r,rfl,f,rfl⟩|⟨rfl,rfl,f,b,rfl⟩|⟨rfl,l,i,s,j,y,rfl,f,b,rfl⟩|⟨rfl,o,i,j,rfl,E,f,b,rfl⟩|⟨rfl,l,i,s,j,y,rfl,f,b,rfl⟩|⟨rfl,i,t,j,rfl,f,b,rfl⟩|⟨rfl,r,i,l,j,rfl,f,b,rfl⟩|⟨rfl,i,A,j,z,rfl,f,p,b,rfl⟩|⟨rfl,i,A,J,j,z,L,rfl,f,p,G,b,rfl⟩|⟨rfl,i,A,j,z,rfl,f,p,b,rfl⟩|⟨rfl,l,rfl,f,b,rfl⟩|⟨rfl,i,j,rfl,f,b,rfl⟩|⟨rfl,i,j,rfl,f,b,rfl⟩|⟨rfl,r,c,rfl,f,_⟩
  ·exact F7 ⟨_,k,rfl⟩
  ·exact(g _ f d_ d_ d_).elim
  ·exact(g _ f d_ d_ d_).elim
  ·exact(g _ f d_ d_ d_).elim
  ·exact(g _ f d_ d_ d_).elim
  ·exact(g _ f d_ d_ d_).elim
  ·exact(g _ f d_ d_ d_).elim
  ·exact F5 (F7 ⟨_,_,i,rfl,PN.ar d (n ⟨i,[j],true⟩ s_).one' (q j (by rw[b];simp))⟩)
  ·exact F5 (F5 ⟨_,_,i,s,rfl,PN.ar d (n ⟨i,[j],true⟩ s_).one' (q j (by rw[b];simp)),PN.ar d (n ⟨s,[y],true⟩ s_).one' (q y (by rw[b];simp))⟩)
  ·exact(g _ f d_ d_ d_).elim
  ·exact(g _ f d_ d_ d_).elim
  ·exact(g _ f d_ d_ d_).elim
  ·exact(g _ f d_ d_ d_).elim
  ·exact(g _ f d_ d_ d_).elim
  ·exact(g _ f d_ d_ d_).elim
  ·exact(g _ f d_ d_ d_).elim
  ·exact(g _ f d_ d_ d_).elim
  ·exact(g _ f d_ d_ d_).elim
def OZ(cb:Nat)(v:Value):Prop:=∀w,Calls prog 111 #[.pointer (some ⟨cb,0,none⟩),v] w λe w'=>e=.returned (.tuple #[])/\Below w.heap.size w w'
def UG(cb l k:Nat):OZ cb (.iface 307 (.agg #[.int .i64 l,.int .i64 k])):=by
 intro w;have d:=lK;have i:=mN;have n:=sJ;have m:=nX;have e:=mL;have o:=nZ;have f:=oV;have g:=kQ;have j:=oU;have c:=oA;have a:=nY;have b:=mM;go_enter func111,ntmps111;go_wp2_with fail;go_end0;exact⟨rfl,F9 _ _⟩
def XN(cb l:Nat)(x:ByteArray)(b:TypeId)(a:Array Value)(g:Hid (OZ cb (.iface b (.agg a)))):OZ cb (.iface 280 (.agg #[.int .i64 l,.string x,.iface b (.agg a)])):=by
 intro w;have k:=mI;have o:=nV;have t:=vF;have p:=oQ;have r:=nU;have q:=oS;have n:=qS;have m:=lI;have s:=qR;have j:=oT;have f:=oR;go_enter func111,ntmps111;go_wp2_with fail;refine(g.out _).mono ?_;rintro e i ⟨rfl,c⟩;have d:=aB c;clear c;go_wp2_with fail;go_end0;exact⟨rfl,((F9 _ _).alloc (F6 _) _).trans (d.out.mono s_)⟩
def UH(cb l:Nat)(x:ByteArray)(g f:TypeId)(c a:Array Value)(o:Hid (OZ cb (.iface g (.agg c))))(r:Hid (OZ cb (.iface f (.agg a)))):OZ cb (.iface 282 (.agg #[.int .i64 l,.string x,.iface g (.agg c),.iface f (.agg a)])):=by
 intro w;have t:=lL;have y:=mQ;have G:=sM;have z:=oB;have B:=mO;have A:=oD;have v:=oX;have u:=kR;have E:=oW;have s:=oE;have n:=oC;have p:=mP;go_enter func111,ntmps111;go_wp2_with fail;refine(o.out _).mono ?_;rintro e k ⟨rfl,i⟩;have b:k.heap[w.heap.size]?=some (.cells #[.int .i64 l,.string x,.iface g (.agg c),.iface f (.agg a)] 282 (0,0)):=(i.block _ s_).trans (aU _ _ rfl _)
 have D:k.cell? ⟨w.heap.size,3,none⟩=some (.iface f (.agg a)):=aA b rfl;have C:=aD b;have m:=aB i;clear i b;go_wp2_with fail;refine(r.out _).mono ?_;rintro e F ⟨rfl,d⟩;have j:=aB d;clear d;go_wp2_with fail;go_end0;have q:=m.out.size;exact⟨rfl,(((F9 _ _).alloc (F6 _) _).trans (m.out.mono s_)).trans (j.out.mono (by simp at q;omega))⟩
def A0.at:∀{d:Nat} {v:Value},A0 d v->∀cb,OZ cb v
 |0,_,h=>h.elim
 |_+1,_,h=>by
  intro cb;rcases h with ⟨l,k,rfl⟩|⟨l,x,g,rfl,b⟩|⟨l,x,g,j,rfl,b,f⟩
  ·exact UG cb l k
  ·obtain⟨e,a,rfl⟩:=b.form;exact XN cb l x e a (b.at cb)
  ·obtain⟨e,a,rfl⟩:=b.form;obtain⟨i,c,rfl⟩:=f.form;exact UH cb l x e i a c (b.at cb) (f.at cb)
def GI{v:Value}(h:A0 d v)(x:Option Addr)(n c:Nat)(w:World):
 Calls prog 73 #[v,.slice x n c] w λe f=>e=.returned (.tuple #[])/\Below w.heap.size w f:=by
 obtain⟨T,l,rfl⟩:=h.form;have H:=aB λi=>h.at i
 have j:∀(w:World) (a:Addr) (m:Mode),(store a (.func (.func 110) #[] #[]) m).run prog w=stored prog w a (.func (.func 110) #[] #[]) m:=λw a m=>run_store prog w a _ m rfl
 clear h;go_enter func73,ntmps73;go_wp2_with fail;refine(H.out _ _).mono ?_;rintro e k ⟨rfl,b⟩;have g:=aB b;clear b;go_wp2_with fail;go_end0;exact⟨rfl,((F9 _ _).alloc (F6 _) _).trans (g.out.mono s_)⟩
section
variable {fp:Nat->Value} {F:Nat->Prop} {b_:Nat} {w:World} {sb gf cap:Nat} {t0 tv u_ s0:Value} {v_:List FVal} {w_:List aF} {f0 f:aF} {tape:List Int} {out:List (List UInt8)}
def D3(fp:Nat->Value)(F0:Nat->Prop)(b_ sb:Nat)(t0 s0:Value)(own0:List Nat)(w0:World)(tab:List dN)(Pm:bO->Prop)(m:bO)(W:World):Prop:=
 ∃F gf cap tv u_ v_,Ext F0 F w0.heap.size/\dI fp F b_ W sb gf cap t0 tv u_ s0 v_ m/\jG fp F W tab/\Kept own0 w0 W/\(∀x∈aI sb gf u_ v_,x∈own0\/w0.heap.size<=x)/\Pm m
def xO{u:List dN}{m:bO}{k:Nat}{r:bO × Nat}(Pm:bO->Prop)(HQ:∀m,Pm m->m.f_.length<=16/\∀a y,m.f_=a++[y]->y.next<y.fn.code.length/\y.fn.code.length<=1000000)
 (HN:∀a y f i d p,Pm ⟨a++[y],d,p⟩->y.fetch=some (i,f)->(bU u i a f d p).2=0->Pm (bU u i a f d p).1)
 (HI:∀(F:Nat->Prop) (w:World) (B n:Nat) (H c:Value) (g:List FVal) (a:List aF) (y f:aF) (d:List Int) (p:List (List UInt8)) (i:aJ) (v:Value),Pm ⟨a++[y],d,p⟩->y.fetch=some (i,f)->dI fp F b_ w sb B n t0 H c s0 g ⟨a++[f],d,p⟩->jG fp F w u->b_<=w.heap.size->iX fp F w v i->
   ∃t z K b,v=.iface t z/\Disp t K/\A9 t z b/\b=i.isBegin/\Calls prog K #[z,.pointer (some ⟨sb,0,none⟩)] w (C0 fp F b_ sb t0 s0 (aI sb B c g) w (bU u i a f d p)))
 (h:dI fp F b_ w sb gf cap t0 tv u_ s0 v_ m) (hT:jG fp F w u) (aa:b_<=w.heap.size)
 (hA:Pm m) (I:eQ u k m=some r):
 Calls prog 105 #[.pointer (some ⟨sb,0,none⟩)] w (C0 fp F b_ sb t0 s0 (aI sb gf u_ v_) w r):=by
 generalize af:aI sb gf u_ v_=s
 refine(UT w sb (λk W=>∃m,D3 fp F b_ sb t0 s0 s w u Pm m W/\eQ u k m=some r)
  (λW=>r.2=0/\Done fp F b_ sb t0 s0 s w r.1 W) (λq W=>q=r.2/\r.2≠0/\Done fp F b_ sb t0 s0 s w r.1 W)
  (λj fa fj W=>∃E B n H c g a y d p,fa=B/\fj=a.length*6/\(Ext F E w.heap.size/\dI fp E b_ W sb B n t0 H c s0 g ⟨a++[y],d,p⟩/\jG fp E W u/\Kept s w W/\(∀x∈aI sb B c g,x∈s\/w.heap.size<=x))/\Pm ⟨a++[y],d,p⟩/\eQ u (j+1) ⟨a++[y],d,p⟩=some r)
  (λj t z K b W=>∃E B n H c g a y f i d p,(Ext F E w.heap.size/\dI fp E b_ W sb B n t0 H c s0 g ⟨a++[f],d,p⟩/\jG fp E W u/\Kept s w W/\(∀x∈aI sb B c g,x∈s\/w.heap.size<=x))/\Pm ⟨a++[y],d,p⟩/\eQ u (j+1) ⟨a++[y],d,p⟩=some r/\y.fetch=some (i,f)/\b=i.isBegin/\
    Calls prog K #[z,.pointer (some ⟨sb,0,none⟩)] W (C0 fp E b_ sb t0 s0 (aI sb B c g) W (bU u i a f d p)))
  k ⟨m,⟨F,gf,cap,tv,u_,v_,Ext.refl _ _,h,hT,Kept.refl _ _,λx D=>F7 (by rw[<-af];exact D),hA⟩,I⟩ (λk W hL=>?_) (λj fa fj W hM=>?_) (λj fa fj W hM=>?_) (λj t z K b W hN=>?_)).mono ?_
 ·obtain⟨m,⟨E,B,n,H,c,g,V,J,g3,M,U,P⟩,I⟩:=hL;have hc:=J.count;have hd:=(HQ _ P).1;refine⟨_,_,_,aA J.blk rfl,aD J.blk,o_,λh0=>?_,λh0=>?_⟩
  ·have hm:m.f_=[]:=I4 o_
   cases k with
   |zero=>rw[eQ] at I;cases I
   |succ j=>
    rw[eQ,hm] at I;simp only[List.getLast?_nil] at I;cases I;exact⟨rfl,Nat.one_ne_zero,M,E,B,n,H,c,g,V,J,U⟩
  ·obtain⟨b,f,e⟩:=pN (l:=m.f_) (λe=>h0 (by rw[hc,e];rfl))
   obtain⟨fr,t,o⟩:=m;simp only at e;subst e;cases k with
   |zero=>rw[eQ] at I;cases I
   |succ j=>exact⟨j,rfl,B,b.length*6,E,B,n,H,c,g,b,f,t,o,rfl,rfl,⟨V,J,g3,M,U⟩,P,I⟩
 ·obtain⟨E,B,n,H,c,g,b,f,t,o,rfl,rfl,⟨V,J,g3,M,U⟩,P,I⟩:=hM;have hc:=J.count;have hd:=(HQ _ P).1;have Y:=J.blk;rw[hc,F8,L2] at Y;simp at hd;refine(pZ sb fa b.length n W (aA Y rfl) o_).mono ?_
  rintro e N ⟨he,q,rfl⟩;have hS:=bV.drewN W q;exact⟨he,E,fa,n,H,c,g,b,f,t,o,rfl,rfl,⟨V,J.grow hS.below (λ_ h=>h) (λ_ h=>F7 h),g3.keep (λb _=>by rw[hS.heap]) (λ_ h=>h),M.trans (Kept.of_below (own:=[]) hS.below) (λx D=>by simp at D),U⟩,P,I⟩
 ·obtain⟨E,B,n,H,c,g,b,y,t,o,rfl,rfl,⟨V,J,g3,M,U⟩,P,I⟩:=hM;obtain⟨ac,aj⟩:=(HQ _ P).2 b y rfl;have hf:=vT ac;generalize y.fn.code[y.next]'ac=i at hf
  refine(J.fetched hf o_).mono ?_
  rintro e N ⟨v,A,he,q1,q2,q3,q4⟩;have ad:jG fp E N u:=g3.keep (λx D=>q3.block x (J.apart x D).1 (J.apart x D).2) λ_ h=>h
  have L:Kept s w N:=M.trans q3 U;obtain⟨t',z,K,bb,e1,e2,e3,e4,e5⟩:=HI E N fa n H c A b y _ t o i v P hf q2 ad (G6 aa L.size) q1;exact⟨t',z,K,bb,by rw[he,e1],e2,e3,E,fa,n,H,c,A,b,y,_,i,t,o,⟨V,q2,ad,L,λx D=>U x (by rw[<-q4];exact D)⟩,P,I,hf,e4,e5⟩
 ·obtain⟨E,B,n,H,c,g,a,y,f,i,tp,o,⟨V,J,g3,M,U⟩,P,I,hf,hb,hc⟩:=hN;obtain⟨s1,s2,s3⟩:=UU I hf;refine hc.mono ?_;rintro e N ⟨he,ae,G,X,Q,ab,C,A,d1,d2,d3⟩;have L:Kept s w N:=M.trans ae U
  have S:∀x∈aI sb X C A,x∈s\/w.heap.size<=x:=λx D=>by
   rcases d3 x D with h1|h1
   ·exact U x h1
   ·exact F5 (G6 M.size h1)
  have ag:jG fp G N u:=g3.keep (λx D=>ae.block x (J.apart x D).1 (J.apart x D).2) d1.sub
  have O:∀T,Below N.heap.size N (N.alloc T):=λT=>(F9 _ N).alloc (F6 _) T
  rcases he with ⟨Z,rfl⟩|⟨Z,rfl⟩
  ·refine F7 ⟨rfl,λah T=>?_,λai T=>?_⟩
   ·have hr:=s2 Z (by rw[<-hb];exact ah)
    rw[hr];exact⟨Z,L.trans (Kept.of_below (own:=[]) (O T)) (λx D=>by simp at D),G,X,Q,ab,C,A,V.trans d1 M.size,d2.grow (O T) (λ_ h=>h) (λ_ h=>F7 h),S⟩
   ·refine⟨_,⟨G,X,Q,ab,C,A,V.trans d1 M.size,d2.grow (O T) (λ_ h=>h) (λ_ h=>F7 h),ag.keep (λx D=>(O T).block x (d2.apart x D).1) (λ_ h=>h),L.trans (Kept.of_below (own:=[]) (O T)) (λx D=>by simp at D),S,HN _ _ _ _ _ _ P hf Z⟩,s3 Z (by rw[<-hb];exact ai)⟩
  ·refine F5 ⟨_,rfl,?_⟩;have hr:=s1 Z;rw[hr];exact⟨rfl,Z,L,G,X,Q,ab,C,A,V.trans d1 M.size,d2,S⟩
 ·rintro e N (⟨rfl,h1,h2⟩|⟨q,rfl,rfl,h1,h2⟩)
  ·exact⟨F7 ⟨h1,rfl⟩,h2⟩
  ·exact⟨F5 ⟨h1,rfl⟩,h2⟩
def ZA{m:bO}{a:Nat}{r:bO × Nat}(h:dI fp F b_ w sb gf cap (.int .i64 a) tv u_ s0 v_ m)(X:Calls prog 105 #[.pointer (some ⟨sb,0,none⟩)] (w.alloc (.cells #[.int .i64 0] 38)) (C0 fp F b_ sb (.int .i64 a) s0 (aI sb gf u_ v_) (w.alloc (.cells #[.int .i64 0] 38)) r))(S:a<=1000000)(N:r.2<=1000):
 Calls prog 68 #[.pointer (some ⟨sb,0,none⟩)] w λe B=>e=.returned (.tuple #[])/\Done fp F b_ sb (.int .i64 a) (.int .i64 (cI a r.2)) (aI sb gf u_ v_) w r.1 B:=by
 have P:Below w.heap.size w (w.alloc (.cells #[.int .i64 0] 38)):=(F9 _ w).alloc (F6 _) _;have l:Kept (aI sb gf u_ v_) w (w.alloc (.cells #[.int .i64 0] 38)):=Kept.of_below P;have t:(w.alloc (.cells #[.int .i64 0] 38)).heap[w.heap.size]?=some (.cells #[.int .i64 0] 38 (0,0)):=aU _ _ rfl _;have y:w.heap.size∉aI sb gf u_ v_:=λq=>by have:=h.lt _ q;omega
 have hS:=yK 105 ⟨sb,0,none⟩ w (λk W=>k=r.2/\Done fp F b_ sb (.int .i64 a) s0 (aI sb gf u_ v_) (w.alloc (.cells #[.int .i64 0] 38)) r.1 W) ZN (X.mono λe B u=>by
  obtain⟨he,u⟩:=u;refine⟨r.2,he,⟨rfl,u⟩,?_⟩;rw[u.1.block _ s_ y];exact t)
 generalize Q:w.alloc (.cells #[.int .i64 0] 38)=V at*
 have Y:∀W x,Done fp F b_ sb (.int .i64 a) s0 (aI sb gf u_ v_) V r.1 W->Done fp F b_ sb (.int .i64 a) s0 (aI sb gf u_ v_) w r.1 (W.setCell ⟨w.heap.size,0,none⟩ x):=λW x u=>by
  obtain⟨o,G,g,f,j,c,d,A,i,s⟩:=u;have D:w.heap.size<V.heap.size:=by rw[<-Q];simp
  have L:¬F w.heap.size:=λhF=>by have:=(h.apart _ hF).1;omega
  have I:w.heap.size∉aI sb g c d:=λq=>by
   rcases s _ q with z|z
   ·exact y z
   ·omega
  have E:∀b,G b->b≠w.heap.size:=λb K e=>by
   subst e;rcases A.new _ K with z|z
   ·exact L z
   ·omega
  have n:∀k,k≠w.heap.size->(W.setCell ⟨w.heap.size,0,none⟩ x).heap[k]?=W.heap[k]?:=λk n=>G0 _ _ _ _ n
  have p:∀k∈aI sb g c d,(W.setCell ⟨w.heap.size,0,none⟩ x).heap[k]?=W.heap[k]?:=λk q=>n k λe=>I (by rw[<-e];exact q)
  have H:∀b,G b->(W.setCell ⟨w.heap.size,0,none⟩ x).heap[b]?=W.heap[b]?:=λb K=>n b (E b K)
  refine⟨⟨o.os.trans l.os,o.tape.trans l.tape,o.output.trans l.output,G6 l.size (by simpa using o.size),λk z U=>?_⟩,G,g,f,j,c,d,A.le (M6 D),⟨by rw[p sb (by simp[aI])];exact i.blk,bB i.row λk e=>?_,i.frs.keep H (λ_ h=>h) λv hv k J=>p k ?_,i.tape.keep H (λ_ h=>h),bB i.out λk e=>p k (by simp[aI,e]),i.nodup,λk n=>by simpa using i.lt k n,λk n=>by simpa using i.apart k n⟩,λk q=>(s k q).imp_right (G6 (M6 D))⟩
  ·rw[n k o_,o.block k o_ U,l.block k z U]
  ·cases e;exact p g (by simp[aI])
  ·have q:k∈bJ d:=M2.2 ⟨v,hv,J⟩;simp[aI,q]
 refine(TK w sb a (λk W=>k=r.2/\Done fp F b_ sb (.int .i64 a) s0 (aI sb gf u_ v_) w r.1 W) (λB=>Done fp F b_ sb (.int .i64 a) (.int .i64 (cI a r.2)) (aI sb gf u_ v_) w r.1 B) S (hS.mono ?_) (λk W C=>?_) (λk W C O=>?_) (λW C O=>?_))
 ·rintro e B ⟨k,w1,rfl,⟨rfl,u⟩,rfl⟩;exact⟨r.2,N,rfl,rfl,Y _ _ u⟩
 ·obtain⟨_,_,G,g,f,j,c,d,_,i,_⟩:=C;exact⟨⟨_,aA i.blk rfl⟩,aE i.blk,aD i.blk,aA i.blk rfl⟩
 ·obtain⟨rfl,o,G,g,f,j,c,d,A,i,s⟩:=C;obtain⟨M,T⟩:=i.setStop (.int .i64 r.2);have e:cI a r.2=r.2:=if_neg O;rw[e];exact⟨o.trans T s,G,g,f,j,c,d,A,M,s⟩
 ·obtain⟨hz,o,G,g,f,j,c,d,A,i,s⟩:=C;obtain⟨M,T⟩:=i.setStop (.int .i64 0);obtain⟨Z,q4⟩:=M.setStop (.int .i64 9);have e:cI a r.2=9:=if_pos ⟨hz.symm,O⟩;rw[e];exact⟨(o.trans T s).trans q4 s,G,g,f,j,c,d,A,Z,s⟩
end
section
variable {fp:Nat->Value} {fb:Nat->Nat} {fs:List aC} {cb lo:Nat} {F:Nat->Prop} {e_:List (List UInt8)} {d:Nat}
def AE(v:Value)(l:List aC)(b:List (Option aJ))(w:World)(h:CP fp fb (fs.map (·.x_)) cb F w b e_)(Q:PKid (Btw lo cb) w v l)(J:Hs.StsOk (gB fs d) e_ l)(E:∀a∈l,AN a)(N:l.length<=1000000)(z:e_.length<=90001)(U:b.length+(cB (bP fs d) e_ l b.length).length<=1000000)(IH:l≠[]->ZV fp fb fs cb lo d):
 Calls prog 149 #[.pointer (some ⟨cb,0,none⟩),v] w λe x=>e=.returned (.tuple #[])/\YC fp fb (fs.map (·.x_)) cb F w (b++(cB (bP fs d) e_ l b.length).map some) (dB e_ l) x:=by
 rcases Q.get with ⟨rfl,rfl⟩|⟨g,B,rfl,K,H,I,S⟩
 ·refine(yL w cb).mono ?_;rintro e x ⟨rfl,rfl⟩;exact⟨rfl,F,λ_ h=>h,by simpa [cB,dB] using h,FB.refl _⟩
 ·refine(wL w cb g l.length B (λj W=>j<=l.length/\YC fp fb (fs.map (·.x_)) cb F w (b++(cB (bP fs d) e_ (l.take j) b.length).map some) (dB e_ (l.take j)) W) N ⟨K5 _,F,λ_ h=>h,by simpa [cB,dB] using h,FB.refl _⟩ (λj W L k=>?_)).mono ?_
  ·obtain⟨_,G,P,y,f⟩:=L;obtain⟨u,O,n⟩:=S j k;obtain⟨T,M,rfl⟩:=n.form;have m:l.take (j+1)=l.take j++[l[j]]:=H8 k
   have i:Hs.StsOk (gB fs d) e_ (l.take j++(l[j]::l.drop (j+1))):=by
    have e:l.take j++(l[j]::l.drop (j+1))=l:=by
     rw[L9];exact L0 _ _
    rw[e];exact J
   obtain⟨o,q,_⟩:=StsOk.split i;have s:cB (bP fs d) e_ (l.take (j+1)) b.length=cB (bP fs d) e_ (l.take j) b.length++(bP fs d (dB e_ (l.take j)) l[j] (b.length+(cB (bP fs d) e_ (l.take j) b.length).length)).1:=by rw[m,pD _ _ o,VB]
   have r:(cB (bP fs d) e_ (l.take (j+1)) b.length).length<=(cB (bP fs d) e_ l b.length).length:=by
    have C:Hs.StsOk (gB fs d) e_ (l.take (j+1)++l.drop (j+1)):=by rw[L0];exact J
    have:=pD (l.drop (j+1)) b.length (StsOk.split C).1;rw[L0] at this;rw[this,F8];omega
   have t:(b++(cB (bP fs d) e_ (l.take j) b.length).map some).length=b.length+(cB (bP fs d) e_ (l.take j) b.length).length:=s_
   have A:dB e_ (l.take (j+1))=(bP fs d (dB e_ (l.take j)) l[j] (b.length+(cB (bP fs d) e_ (l.take j) b.length).length)).2:=by
    rw[m,pH,stC_seen _ q];rfl
   refine⟨G3 H f.bel.size,T,.agg M,by rw[f.bel.cell (p:=⟨g,j,none⟩) K.2];exact O,(IH (λe=>by rw[e] at k;simp at k) G _ _ l[j] _ W y (n.below f.bel) q (E _ (H9 k)) (vJ o z) ?_).mono ?_⟩
   ·rw[t];rw[s,F8] at r;omega
   ·rintro e x ⟨D,c⟩;refine⟨D,k,?_⟩;rw[t] at c;rw[s,A,K4,<-I6];exact(c.then f).more P
  ·rintro e x ⟨D,_,c⟩;rw[J5 (F6 _)] at c;exact⟨D,c⟩
end
section
variable {fp:Nat->Value} {fb:Nat->Nat} {fs:List aC} {cb lo d:Nat} {F:Nat->Prop}
def ZS{w:World}(h:CQ fp fb (fs.map (·.x_)) cb F w)(f:aC)(v:Value)(hv:wZ (Btw lo cb) w v f)(af:jW fs d f)(Y:∀k∈f.y_,AN k)(aa:f.y_.length<=90000)(hS:(∃b∈f.y_,b.y_≠[])->ZV fp fb fs cb lo d):
 Calls prog 102 #[.pointer (some ⟨cb,0,none⟩),v] w λe r=>∃cv,e=.returned cv/\∃G q,(∀k,F k->G k)/\CP fp fb (fs.map (·.x_)) cb G r ((eY fs d f).code.map some) q/\r.cell? ⟨cb,1,none⟩=some cv/\Below cb w r/\∀k,F k->r.heap[k]?=w.heap[k]?:=by
 obtain⟨⟨fv,an,av,n,X⟩,u⟩:=h;obtain⟨pv,bv,ps,b,rfl,m,V,ao,ac⟩:=hv;obtain⟨px,pc,rfl⟩:=V.slice;obtain⟨bx,bc,rfl⟩:=ac.sliceC;obtain⟨⟨g,s,O,ag,_⟩,E⟩:=af
 obtain⟨rfl,ae⟩:g=ps/\s=b:=by
  rw[m] at O;have:=L5 O rfl;simp at this;exact⟨this.1.symm,this.2.symm⟩
 subst ae;rw[DO fs d m] at E ⊢
 simp only[F8,G1,G4] at E;rw[m] at aa;simp only[F8,G1,G4] at aa;have Z:=aD n;obtain⟨t,z⟩:=E_ ((w.setCell ⟨cb,1,none⟩ (.slice none 0 0)).setCell ⟨cb,2,none⟩ (.pointer none));have J:Below cb w t:=by rw[z];exact((F9 cb w).setCell (F6 _) _).setCell (F6 _) _
 have Q:t.heap.size=w.heap.size:=by rw[z];simp
 have U:∀k,k≠cb->t.heap[k]?=w.heap[k]?:=λk m=>by rw[z,G0 _ _ _ _ m,G0 _ _ _ _ m]
 have P:∀k,F k->t.heap[k]?=w.heap[k]?:=λk m=>U k (u k m).2
 have y:t.heap[cb]?=some (.cells #[fv,.slice none 0 0,.pointer none] 193 (0,0)):=by
  rw[z,aO (aO n)];rfl
 have H:CP fp fb (fs.map (·.x_)) cb F t [] []:=by
  refine⟨⟨fv,_,_,y,⟨[],World.ownsRow_nil _ _ _ _,rfl,λi o ho=>by simp at ho⟩,rfl,X.keep P (λ_ h=>h) o_⟩,λk m=>⟨by rw[Q];exact(u k m).1,(u k m).2,?_⟩⟩
  rw[iQ y];simp[Value.ownBlock]
 obtain⟨T,ab⟩:=H.new (.cells #[.int .i64 f.l_,.string (bs f.x_),.slice px g.length pc,.slice bx s.y_.length bc] 159);rw[Q] at T
 refine(UF w cb f.l_ (bs f.x_) px bx g.length pc s.y_.length bc (λcv r=>∃G q,(∀k,F k->G k)/\CP fp fb (fs.map (·.x_)) cb G r ((cB (bP fs d) (g.map λa=>a.x_).reverse s.y_ 0++[aJ.push (aL 0),aJ.give]).map some) q/\r.cell? ⟨cb,1,none⟩=some cv/\Below cb w r/\∀k,F k->r.heap[k]?=w.heap[k]?)
  (λj W=>∃G,(∀k,F k->G k)/\CP fp fb (fs.map (·.x_)) cb G W [] ((g.take j).map λa=>a.x_).reverse/\Loc cb t w.heap.size (.cells #[.int .i64 f.l_,.string (bs f.x_),.slice px g.length pc,.slice bx s.y_.length bc] 159) W)
  (λW=>∃G q,(∀k,F k->G k)/\gE fp fb (fs.map (·.x_)) cb G t ((cB (bP fs d) (g.map λa=>a.x_).reverse s.y_ 0).map some) q W)
  (λW=>∃G q,(∀k,F k->G k)/\gE fp fb (fs.map (·.x_)) cb G t ((cB (bP fs d) (g.map λa=>a.x_).reverse s.y_ 0).map some++[some (aJ.push (aL 0))]) q W)
  (λW=>∃G q,(∀k,F k->G k)/\gE fp fb (fs.map (·.x_)) cb G t ((cB (bP fs d) (g.map λa=>a.x_).reverse s.y_ 0).map some++[some (aJ.push (aL 0))]++[some aJ.give]) q W)
  Z o_ ⟨_,aA n rfl⟩ ⟨_,aA n rfl⟩ (aE n) (aE n) ?_ (λj W D hj=>?_) (λW D=>?_) (λW D=>?_) (λW D=>?_) (λW D=>?_))
 ·show ∃G,_
  rw[<-z];exact⟨F,λ_ h=>h,ab,T⟩
 ·obtain⟨G,C,B,K⟩:=D;rcases V.get with ⟨_,S⟩|⟨pg,am,al,M,ar,au,I⟩
  ·rw[S] at hj;simp at hj
  cases al;obtain⟨ak,aj⟩:=I j hj;have A:Below cb w W:=J.trans K.fb.bel;refine⟨pg,_,_,rfl,G3 (Nat.lt_trans M.2 Z) A.size,(A.cell (p:=⟨pg,j*2,none⟩) M.2).trans ak,(A.cell (p:=⟨pg,j*2+1,none⟩) M.2).trans aj,?_⟩;obtain⟨ai,N⟩:=B.new (.cells #[.int .i64 g[j].l_,.string (bs g[j].x_)] 155);refine(YM g[j].x_ N t_).mono ?_
  rintro e r ⟨L,q1,q2⟩;refine⟨L,λk=>G k\/k=(W.alloc (.cells #[.int .i64 g[j].l_,.string (bs g[j].x_)] 155)).heap.size,λk m=>F7 (C k m),?_,K.step (ai.fb.trans q2)⟩
  have e9:((g.take (j+1)).map (·.x_)).reverse=g[j].x_::((g.take j).map (·.x_)).reverse:=by
   rw[H8 hj,K4,List.reverse_append];rfl
  rw[e9];exact q1
 ·obtain⟨G,C,B,K⟩:=D;rw[J5 (F6 _)] at B;have A:Below cb w W:=J.trans K.fb.bel;refine⟨aA K.blk rfl,aD K.blk,?_⟩;refine(AE (IH:=λad=>hS ⟨s,by rw[m];simp,ad⟩) _ s.y_ [] W B (ac.below A) ag (λa ha=>(Y s (by rw[m];simp)).kid ha) (Y s (by rw[m];simp)).len t_ t_).mono ?_
  rintro e r ⟨L,G2,ah,l⟩;exact⟨L,G2,_,λk m=>ah k (C k m),by simpa using l.then K.fb⟩
 ·obtain⟨G,q,C,l⟩:=D;refine(emits (i:=.push (aL 0)) l ⟨_,rfl,PV.num _ _ _ o_ o_,by rw[nN];omega⟩ t_).mono ?_
  rintro e r ⟨L,h2⟩;exact⟨L,G,q,C,h2⟩
 ·obtain⟨G,q,C,l⟩:=D;refine(emits (i:=.give) l rfl t_).mono ?_
  rintro e r ⟨L,h2⟩;exact⟨L,G,q,C,h2⟩
 ·obtain⟨G,q,C,l⟩:=D;obtain⟨aq,ap,aw,g1,⟨xs,g2,g3⟩,g4,g5⟩:=l.1.blk;obtain⟨x,c,rfl⟩:=dV g2;refine⟨l.1.lt,x,_,c,aA g1 rfl,G,q,C,?_,aA g1 rfl,J.trans l.2.bel,λk m=>?_⟩
  ·have:=l.1;simpa using this
  ·rw[H.fixed l.2 k m,P k m]
end
def OI{fs:List aC}(v:Value)(w:World)(h:FSl (Btw lo w.heap.size) w v fs)(an:fs.length<=90000)(aa:∀f∈fs,jW fs d f)(ae:∀f∈fs,∀k∈f.y_,AN k)(s:∀f∈fs,f.y_.length<=90000)(hm:[109,97,105,110]∈fs.map (·.x_))(M:∀fp fb cb,(∀k,k<fs.length->fp k=.pointer (some ⟨fb k,0,none⟩))->(∃f∈fs,∃b∈f.y_,b.y_≠[])->ZV fp fb fs cb lo d):
 Calls prog 66 #[v] w λe r=>∃fp F,e=.returned (fp (dJ fs [109,97,105,110]))/\jG fp F r (cZ fs d)/\Below w.heap.size w r/\∀k,F k->k<r.heap.size:=by
 have z:fs≠[]:=λe=>by rw[e] at hm;simp at hm
 rcases h.cells with ⟨_,e⟩|⟨I,af,rfl,am,A,ai,hc⟩
 ·exact absurd e z
 refine(GH w I fs.length af (λv r=>∃fp F,v=fp (dJ fs [109,97,105,110])/\jG fp F r (cZ fs d)/\Below w.heap.size w r/\∀k,F k->k<r.heap.size) (CI1 w fs) (CI2 w fs d) o_ (CI1.zero w fs) (λj W H t=>?_) (λW H=>CI2.zero z H) (λj W H t=>?_) (λW H=>?_)).mono ?_
 ·obtain⟨x,c,K,h0,L,X,V,E,D,J⟩:=H;obtain⟨pv,bv,ps,b,Z,e1,e2,e3,m,B,N,C⟩:=hc j t;obtain⟨px,pc,rfl⟩:=B.slice;obtain⟨bx,bc,rfl⟩:=C.sliceC;have a:∀o u,w.cell? ⟨I,o,none⟩=some u->W.cell? ⟨I,o,none⟩=some u:=λo u hu=>by rw[J.cell (p:=⟨I,o,none⟩) A];exact hu
  exact⟨aD L,G3 A J.size,_,_,_,_,_,_,_,_,_,_,_,_,_,a _ _ Z,a _ _ e1,a _ _ e2,a _ _ e3,L,V,λW3 g4 aj w4 a1 a2 a3 a4 a5=>CI1.next t X E D J (aD L) V a1 a2 a3 a4 a5⟩
 ·obtain⟨K,F,L,X,V,E,D,J⟩:=H;obtain⟨pv,bv,ps,b,Z,e1,e2,e3,m,B,N,C⟩:=hc j t;have ah:wZ (Btw lo w.heap.size) w (.agg #[.int .i64 fs[j].l_,.string (bs fs[j].x_),pv,bv]) fs[j]:=⟨pv,bv,ps,b,rfl,m,B,N,C⟩;obtain⟨px,pc,rfl⟩:=B.slice;obtain⟨bx,bc,rfl⟩:=C.sliceC;have a:∀o u,w.cell? ⟨I,o,none⟩=some u->W.cell? ⟨I,o,none⟩=some u:=λo u hu=>by rw[D.cell (p:=⟨I,o,none⟩) A];exact hu
  have ad:=E;obtain⟨⟨fv,cv,sp,q1,q2⟩,q3⟩:=E;have n:j<(fs.map (·.x_)).length:=by simpa using t
  rcases q2 with ⟨e,_⟩|⟨g,c,rfl,k1,k2,k3,k4⟩
  ·rw[e] at n;simp at n
  obtain⟨m1,m2,m3,x,m4⟩:=k4 j n;rw[m2] at m1;have S:(fs.map (·.x_)).length=fs.length:=s_
  refine⟨aD q1,G3 A D.size,_,_,_,_,_,_,_,_,g,c,lZ K j,a _ _ Z,a _ _ e1,a _ _ e2,a _ _ e3,by rw[<-S];exact aA q1 rfl,k3,m1,λW' hS=>?_⟩
  have l:Below W.heap.size W W':=((F9 _ _).alloc (F6 _) _).trans (hS.below.mono s_)
  have Q:CQ (zN K) (lZ K) (fs.map (·.x_)) w.heap.size F W':=by
   obtain⟨⟨fv,cv,sp,z1,z2⟩,z3⟩:=ad;exact⟨⟨fv,cv,sp,by rw[l.block _ (aD z1)];exact z1,z2.keep (λk q=>l.block k (z3 k q).1) (λ_ h=>h) l.size⟩,λk q=>⟨G3 (z3 k q).1 l.size,(z3 k q).2⟩⟩
  have ak:=aD q1;refine(ZS (lo:=lo) (d:=d) (hS:=λ⟨b,hb,z⟩=>M _ _ _ (λk _=>rfl) ⟨fs[j],H9 t,b,hb,z⟩) Q fs[j] _ (ah.keep (λk q=>(D.trans (l.mono o_)).block k q.2) λ_ h=>h) (aa _ (H9 t)) (ae _ (H9 t)) (s _ (H9 t))).mono ?_
  rintro e r ⟨ac,Y,G,sn,ag,y,P,U,hF⟩;have O:0<(eY fs d fs[j]).code.length:=by rw[DO fs d m];simp
  have al:=y;obtain⟨ao,ab,ap,y1,⟨xs,y2,y3⟩,y4,y5⟩:=y.blk
  obtain rfl:ab=ac:=by
   have:=aA y1 (i:=1) rfl;rw[P] at this;exact(Option.some.inj this).symm
  obtain⟨x',c',rfl⟩:=dV y2;have T:∀k,F k->r.heap[k]?=W.heap[k]?:=λk q=>by rw[hF k q,l.block k (q3 k q).1]
  rcases y5 with ⟨e,_⟩|⟨g2,c2,rfl,l1,l2,l3,l4⟩
  ·rw[e] at n;simp at n
  obtain⟨n1,n2,n3,x2,n4⟩:=l4 j n;rw[n2] at n1;refine⟨x',_,c',Y,y.lt,⟨g2,c2,by rw[<-S];exact aA y1 rfl,l3,n1⟩,G3 k3 (G6 l.size U.size),?_,aD n4,⟨_,aA n4 rfl⟩,aE n4,?_⟩
  ·rw[World.cell?_of_block (T g k1)];exact m1
  ·exact CI2.next t L X D J ag y P ((l.mono o_).trans U) T O
 ·obtain⟨K,F,L,X,V,E,D,J⟩:=H;refine(GJ [109,97,105,110] E hm (by simpa using (by omega:fs.length<=1000000))).mono ?_
  rintro e r ⟨Y,rfl⟩;rw[JW] at Y;refine⟨_,Y,zN K,F,rfl,λk f hf=>?_,D,λk q=>(E.2 k q).1⟩
  have s:k<fs.length:=by
   rcases J8 k fs.length with h|h
   ·exact h
   ·rw[J0 (by simpa [cZ] using h)] at hf;cases hf
  have:f=eY fs d fs[k]:=by simpa [cZ,s] using hf.symm
  rw[this];exact J k s s
 ·rintro e r ⟨v,rfl,fp,F,rfl,h⟩;exact⟨fp,F,rfl,h⟩
def SR{fs:List aC}{l:List Int}{r:bO × Nat}(v tv:Value)(w:World)(h:FSl (Btw lo w.heap.size) w v fs)(ba:fs.length<=90000)(av:∀f∈fs,jW fs d f)(bd:∀f∈fs,∀k∈f.y_,AN k)(bf:∀f∈fs,f.y_.length<=90000)(hm:fA fs (dJ fs [109,97,105,110])=some 0)
 (ht:EG w tv l) (bg:l.length<=17592186044416) (hr:r.2<=1000) (ai:∀fp fb cb,(∀k,k<fs.length->fp k=.pointer (some ⟨fb k,0,none⟩))->(∃f∈fs,∃b∈f.y_,b.y_≠[])->ZV fp fb fs cb lo d)
 (hX:∀(fp:Nat->Value) (F:Nat->Prop) (b_ sb t L:Nat) (tv j s0:Value) (u:List FVal) (W:World),dI fp F b_ W sb t L (.int .i64 ((0:Nat):Int)) tv j s0 u (fH fs d l)->jG fp F W (cZ fs d)->b_<=W.heap.size->Calls prog 105 #[.pointer (some ⟨sb,0,none⟩)] W (C0 fp F b_ sb (.int .i64 ((0:Nat):Int)) s0 (aI sb t j u) W r)):
 Calls prog 36 #[v,tv] w λe H=>∃v',e=.returned v'/\Below w.heap.size w H/\∃fp G,(∀b,G b->b<H.heap.size)/\jG fp G H (cZ fs d)/\LC fp G H v' ⟨0,r.1,cI 0 r.2⟩:=by
 have V:dJ fs [109,97,105,110]<fs.length:=by
  unfold fA at hm;rcases J8 (dJ fs [109,97,105,110]) fs.length with h|h
  ·exact h
  ·rw[J0 h] at hm;cases hm
 have al:[109,97,105,110]∈fs.map (·.x_):=by
  have:=O4 (p:=λf:aC=>f.x_==[109,97,105,110]) (xs:=fs) (w:=V)
  exact List.mem_map.2 ⟨_,H9 V,eq_of_beq this⟩
 obtain⟨x0,c0,rfl⟩:∃x c,v=.slice x fs.length c:=by
  rcases h with ⟨rfl,rfl⟩|⟨g,L,bl,us,rfl,_⟩
  ·exact⟨none,0,rfl⟩
  ·exact⟨_,_,rfl⟩
 obtain⟨x1,n1,c1,rfl⟩:∃x n c,tv=.slice x n c:=by
  rcases ht with ⟨_,rfl⟩|⟨g,o,c,rfl,_⟩
  ·exact⟨_,_,_,rfl⟩
  ·exact⟨_,_,_,rfl⟩
 generalize ac:(cZ fs d)[dJ fs [109,97,105,110]]?.getD ⟨[],[]⟩=f0
 have U:(cZ fs d)[dJ fs [109,97,105,110]]?=some f0:=by
  rw[H7 (by simpa [cZ] using V)] at ac ⊢
  simpa using ac
 have be:fH fs d l=⟨[⟨f0,0,0,[],[],[]⟩],l,[]⟩:=by rw[<-ac];rfl
 obtain⟨q,O⟩:=E_ (w.alloc (.cells #[.int .i64 0,.slice none 0 0,.slice none 0 0,.slice none 0 0,.int .i64 0] 72));have ae:Below w.heap.size w q:=by rw[O];exact(F9 _ _).alloc (F6 _) _
 have bm:q.heap.size=w.heap.size+1:=by rw[O];simp
 have af:q.heap[w.heap.size]?=some (.cells #[.int .i64 0,.slice none 0 0,.slice none 0 0,.slice none 0 0,.int .i64 0] 72 (0,0)):=by rw[O];exact aU _ _ rfl _
 have au:FSl (Btw lo q.heap.size) q (.slice x0 fs.length c0) fs:=h.grow (λb z=>ae.block b z.2) λb z=>⟨z.1,by have:=z.2;omega⟩
 refine(LY w x0 fs.length c0 x1 n1 c1 (λv' H=>Below w.heap.size w H/\∃fp G,(∀b,G b->b<H.heap.size)/\jG fp G H (cZ fs d)/\LC fp G H v' ⟨0,r.1,cI 0 r.2⟩)
  (λp W=>∃fp F,p=fp (dJ fs [109,97,105,110])/\jG fp F W (cZ fs d)/\Below q.heap.size q W/\∀k,F k->k<W.heap.size)
  (λp t P W=>∃fp F,p=fp (dJ fs [109,97,105,110])/\jG fp F W (cZ fs d)/\Below q.heap.size q W/\(∀k,F k->k<W.heap.size/\k≠t)/\q.heap.size<=t/\t<W.heap.size/\W.heap[t]?=some (.cells #[p,.int .i64 0,.int .i64 0,.pointer none,.slice none 0 0,.slice none 0 0] 136 (0,0))/\vY F W P l/\∀k,F k->k≠w.heap.size)
  (λb W=>∃fp F t L P j u,Below q.heap.size q W/\q.heap.size<=b/\dI fp F q.heap.size W b t L (.int .i64 ((0:Nat):Int)) P j (.int .i64 (cI 0 r.2)) u r.1/\jG fp F W (cZ fs d)/\(∀k∈aI b t j u,q.heap.size<=k)/\∀k,F k->k≠w.heap.size)
  ?_ (λp W hq=>?_) (λp t x n c W hq=>?_) (λb W hq=>?_))
 ·show Calls _ _ _ _ _
  rw[<-O];refine(OI (lo:=lo) (d:=d) _ q au ba av bd bf al ai).mono ?_;rintro e H ⟨fp,F,he,hT,z,N⟩;obtain⟨p,ap⟩:=(hT _ _ U).ptr;exact⟨p,by rw[he,ap],fp,F,ap.symm,hT,z,N⟩
 ·obtain⟨fp,F,ab,hT,z,N⟩:=hq;have bb:W.heap[w.heap.size]?=some (.cells #[.int .i64 0,.slice none 0 0,.slice none 0 0,.slice none 0 0,.int .i64 0] 72 (0,0)):=by rw[z.block _ o_];exact af
  have bc:=hT.off bb;generalize D:W.alloc (.cells #[.pointer p,.int .i64 0,.int .i64 0,.pointer none,.slice none 0 0,.slice none 0 0] 136)=y;have C:Below W.heap.size W y:=by rw[<-D];exact(F9 _ _).alloc (F6 _) _
  have aw:y.heap.size=W.heap.size+1:=by rw[<-D];simp
  have ad:y.heap[W.heap.size]?=some (.cells #[.pointer p,.int .i64 0,.int .i64 0,.pointer none,.slice none 0 0,.slice none 0 0] 136 (0,0)):=by rw[<-D];exact aU _ _ rfl _
  have aj:Below w.heap.size w y:=ae.trans ((z.mono o_).trans (C.mono (by have:=z.size;omega)))
  have bh:EG y (.slice x1 n1 c1) l:=by
   rcases ht with ht|⟨g,o,c,e,hg,hc⟩
   ·exact F7 ht
   ·exact F5 ⟨g,o,c,e,G3 hg aj.size,λi hi=>⟨(aj.cell (p:=⟨g,o+i,none⟩) hg).trans (hc i hi).1,(hc i hi).2⟩⟩
  obtain⟨x,n,c,e,bk⟩:=AR y _ l bh bg;rw[e];refine bk.mono ?_;rintro e H ⟨x',n',c',he,Q,X⟩;have an:Below W.heap.size W H:=C.trans (Q.mono o_)
  refine⟨x',n',c',he,fp,λk=>(F k/\k≠w.heap.size)\/(y.heap.size<=k/\k<H.heap.size),ab,bc.keep (λk A=>an.block k (N k A.1)) λ_ h=>F7 h,z.trans (an.mono z.size),λk A=>?_,z.size,by have:=Q.size;omega,by rw[Q.block _ o_];exact ad,X.keep (λ_ _=>rfl) λ_ h=>F5 h,λk A=>by
   rcases A with B|B
   ·exact B.2
   ·have:=z.size;omega⟩
  have:=Q.size;rcases A with B|B
  ·have:=N k B.1;omega
  ·omega
 ·obtain⟨fp,F,ab,hT,z,N,az,bj,ay,X,bi⟩:=hq;generalize D:W.alloc (.cells #[.int .i64 0,.slice (some ⟨t,0,none⟩) 1 1,.slice x n c,.slice none 0 0,.int .i64 0] 72)=y;have C:Below W.heap.size W y:=by rw[<-D];exact(F9 _ _).alloc (F6 _) _
  have aw:y.heap.size=W.heap.size+1:=by rw[<-D];simp
  have ad:y.heap[W.heap.size]?=some (.cells #[.int .i64 0,.slice (some ⟨t,0,none⟩) 1 1,.slice x n c,.slice none 0 0,.int .i64 0] 72 (0,0)):=by rw[<-D];exact aU _ _ rfl _
  have aa:jG fp F y (cZ fs d):=hT.keep (λk A=>C.block k (N k A).1) λ_ h=>h
  have E:aI W.heap.size t (.slice none 0 0) [⟨.pointer p,.int .i64 0,.int .i64 0,.pointer none,.slice none 0 0,.slice none 0 0⟩]=[W.heap.size,t]:=rfl;have S:nP F q.heap.size y (.slice none 0 0) []:=⟨⟨[],World.ownsRow_nil _ _ _ _,fO.nil _ _⟩,λa ha=>by simp at ha⟩
  have K:dI fp F q.heap.size y W.heap.size t 1 (.int .i64 ((0:Nat):Int)) (.slice x n c) (.slice none 0 0) (.int .i64 0) [⟨.pointer p,.int .i64 0,.int .i64 0,.pointer none,.slice none 0 0,.slice none 0 0⟩] ⟨[⟨f0,0,0,[],[],[]⟩],l,[]⟩:=by
   refine⟨ad,⟨rfl,F5 ⟨t,1,_,rfl,az,by rw[C.block _ bj];exact ay,F6 _,by unfold maxLen;omega,rfl,rfl⟩⟩,⟨⟨?_,rfl,rfl,rfl,S,S⟩,trivial⟩,X.keep (λk A=>C.block k (N k A).1) λ_ h=>h,World.ownsRow_nil _ _ _ _,?_,?_,λk A=>?_⟩
   ·show UI fp F y (.pointer p) f0
    rw[ab];exact aa _ _ U
   ·rw[E];simp;omega
   ·rw[E];simp;omega
   ·rw[E];have:=N k A;simp;omega
  have s:Below q.heap.size q y:=z.trans (C.mono z.size);have Y:Below y.heap.size y (y.alloc (.cells #[.int .i64 0] 38)):=(F9 _ _).alloc (F6 _) _;refine(ZA K (hX fp F _ _ _ _ _ _ _ _ _ (by rw[be];exact K.grow Y (λ_ h=>h) (λ_ h=>F7 h)) (aa.keep (λk A=>Y.block k (K.apart k A).1) λ_ h=>h) (G6 s.size Y.size)) o_ hr).mono ?_
  rintro e H ⟨he,Z,G,ar,ak,aq,I,T,d1,d2,d3⟩;rw[E] at d3 Z
  have ao:∀x∈aI W.heap.size ar I T,q.heap.size<=x:=λx hx=>by
   have:=z.size;rcases d3 x hx with B|B
   ·simp at B;omega
   ·omega
  have ax:∀k∈[W.heap.size,t],q.heap.size<=k:=λk A=>by have:=z.size;simp at A;omega
  refine⟨he,fp,G,ar,ak,aq,I,T,s.trans (Z.below s.size ax),z.size,d2,?_,ao,λk A=>?_⟩
  ·refine aa.keep (λk A=>Z.block k (G3 (N k A).1 C.size) λhm=>?_) d1.sub
   have:=N k A;simp at hm;omega
  ·rcases d1.new k A with B|B
   ·exact bi k B
   ·have:=s.size;omega
 ·obtain⟨fp,F,t,L,P,j,u,g1,g2,g5,gT,g6,g7⟩:=hq;have am:=g5.blk;refine⟨_,_,_,_,_,am,⟨_,_,_,rfl⟩,?_,MO g5.out,by rw[g1.block _ o_];exact af,o_,λy J ah=>?_⟩
  ·rcases g5.tape with ⟨_,x,c,e⟩|⟨g,o,c,e,_⟩<;>exact⟨_,_,_,e⟩
  ·have s:Below w.heap.size w W:=ae.trans (g1.mono o_)
   have hS:=g5.kept (G:=λk=>F k\/(k∈aI b t j u/\k≠b)) (λ_ h=>F7 h) (λk m hn=>F5 ⟨m,hn⟩)
   have M:∀k,(F k\/(k∈aI b t j u/\k≠b))->k≠w.heap.size/\k<W.heap.size:=λk m=>by
    rcases m with B|⟨B,_⟩
    ·exact⟨g7 k B,(g5.apart k B).1⟩
    ·have:=g6 k B;exact⟨o_,g5.lt k B⟩
   have ag:∀k,(F k\/(k∈aI b t j u/\k≠b))->y.heap[k]?=W.heap[k]?:=λk m=>J.block k (M k m).2 (by simpa using (M k m).1)
   refine⟨⟨J.os.trans s.os,J.tape.trans s.tape,J.output.trans s.output,by rw[ah];exact s.size,λk m=>?_⟩,fp,λk=>F k\/(k∈aI b t j u/\k≠b),λk m=>by rw[ah];exact(M k m).2,gT.keep (λk m=>ag k (F7 m)) λ_ h=>F7 h,hS.keep ag λ_ h=>h⟩
   rw[J.block k (G3 m s.size) t_,s.block k m]
def D8:dN:=⟨[109,97,105,110],[.push (aL 0),.give]⟩
def mA:bO:=⟨[]++[⟨D8,0,0,[],[],[]⟩],[],[]⟩
def mB:bO:=⟨[]++[⟨D8,1,0,[],[],[aL 0]⟩],[],[]⟩
def P0(m:bO):Prop:=m=mA\/m=mB\/m=⟨[],[],[]⟩
def P0.snoc{a:List aF}{i:aF}{b:List Int}{c:List (List UInt8)}(h:P0 ⟨a++[i],b,c⟩):a=[]/\b=[]/\c=[]/\(i=⟨D8,0,0,[],[],[]⟩\/i=⟨D8,1,0,[],[],[aL 0]⟩):=by
 rcases h with h|h|h
 ·simp only[mA,bO.mk.injEq] at h;obtain⟨f,d,g⟩:=h;obtain⟨rfl,e⟩:=L5 f rfl;exact⟨rfl,d,g,F7 (by simpa using e)⟩
 ·simp only[mB,bO.mk.injEq] at h;obtain⟨f,d,g⟩:=h;obtain⟨rfl,e⟩:=L5 f rfl;exact⟨rfl,d,g,F5 (by simpa using e)⟩
 ·simp at h
def YF(fp:Nat->Value)(F:Nat->Prop)(b_ sb n d:Nat)(s p a r:Value)(c:List FVal)(W:World)(h:dI fp F b_ W sb n d s p a r c (fH fM 2001 []))(y:jG fp F W (cZ fM 2001))(l:b_<=W.heap.size):
 Calls prog 105 #[.pointer (some ⟨sb,0,none⟩)] W (C0 fp F b_ sb s r (aI sb n a c) W (⟨[],[],[]⟩,1)):=by
 have E:fH fM 2001 []=mA:=zD;refine xO P0 (λm g=>?_) (λb x f i k q g j I=>?_) (λF w n d p a c b x f k q i v g j A y l z=>?_) h y l (F7 E) (sZ 0)
 ·refine⟨by rcases g with rfl|rfl|rfl<;>decide,λb x e=>?_⟩
  obtain⟨H,t,o⟩:=m;simp only at e;subst e;obtain⟨_,_,_,rfl|rfl⟩:=g.snoc<;>decide
 ·obtain⟨rfl,rfl,rfl,rfl|rfl⟩:=g.snoc
  ·cases j;exact F5 (F7 rfl)
  ·cases j;exact F5 (F5 rfl)
 ·obtain⟨rfl,rfl,rfl,rfl|rfl⟩:=g.snoc
  ·cases j;obtain⟨u,rfl,C,B⟩:=z;refine⟨_,_,_,false,rfl,EA,F5 ⟨YR,rfl⟩,rfl,(MI fp F b_ w sb n d s p a r c [] _ [] [] u _ A C B s_ s_ l).mono ?_⟩
   rintro e G ⟨rfl,D⟩;exact⟨F7 ⟨rfl,rfl⟩,D⟩
  ·cases j;obtain rfl:v=_:=z;exact⟨_,_,_,false,rfl,TV,F5 ⟨YS,rfl⟩,rfl,ZB _ A s_ l s_ ⟨[],_,rfl⟩ s_⟩
def MA(W:World)(v:Value)(w:FSl (Btw lo W.heap.size) W v fM)(p:EG W (.slice none 0 0) []):
 Calls prog 36 #[v,.slice none 0 0] W λe j=>∃o,e=.returned o/\Below W.heap.size W j/\∃fp G,(∀b,G b->b<j.heap.size)/\jG fp G j (cZ fM 2001)/\LC fp G j o ⟨0,⟨[],[],[]⟩,cI 0 1⟩:=by
 refine SR (d:=2001) (r:=(⟨[],[],[]⟩,1)) v _ W w d_ TF ?_ d_ JN p d_ d_ (λ_ _ _ _ a=>?_) (λfp F c x u m s i t n W=>YF fp F c x u m _ s i t n W)
 ·intro f g k l e;simp only[fM,G5] at g;subst g;obtain rfl:k=aK [98,108,111,99,107] 1 [] []:=by simpa [aK] using l
  cases e with
  |zero=>trivial
  |succ e=>exact⟨λh=>absurd h d_,d_,λk l=>by cases l⟩
 ·obtain⟨f,g,b,q,a⟩:=a;simp only[fM,G5] at g;subst g;obtain rfl:b=aK [98,108,111,99,107] 1 [] []:=by simpa [aK] using q
  exact absurd rfl a
end Go.Proofs.YthbffcmfmjpncaaGreatDoor
