/- Contracts of the program: operands with operations between them. -/
import Derived.Test.YthbffcmfmjpncaaGreatDoorP04s
set_option linter.defProp false
set_option maxRecDepth 100000
set_option maxHeartbeats 4000000
namespace Go.Proofs.YthbffcmfmjpncaaGreatDoor
open Hs
open _root_.Go.Proofs.Tryz
open Go.RowKit
variable{acc fs l:List aC}{ts:List aR}{b_ cb k lo q:Nat}{F:Nat->Prop}{v:Value}{w w':World}{a:aC}{t:aR}{c:aW}
def A8(C:Ctx)(L:Nat->bH aC)(w:World)(r:bH aC)(lv tb l:Nat)(k:Nat)(v:Value)(wr:World):Prop:=
 Fr C.pb w wr/\∃q a,PAt C wr q/\r=aY L C.ts lv k a q/\PN (Btw w.heap.size wr.heap.size) wr v a/\YB wr tb l
def YT{L:Nat->bH aC}{c:Nat}(d:c≠2)(h:((aN ts q).sort==112 && bF (aN ts q).x_==c)=true):
 aY L ts c (k+1) a q=bE (L (q+1)) (λb e=>aY L ts c k (aK (aN ts q).x_ (aN ts q).l_ [] [a,b]) e):=by
 rw[aY,if_pos h];cases L (q+1) with
 |error l=>rfl
 |ok f=>simp only[if_neg d];rfl
def WN{L:Nat->bH aC}{b:Nat}(h:((aN ts q).sort==112 && bF (aN ts q).x_==b)=false):
 aY L ts b (k+1) a q=.ok (a,q):=by
 rw[aY,if_neg (by rw[h];simp)]
def TZ(C:Ctx)(L:Nat->bH aC)(F:Nat)(bk:∀S w,Sem.run prog (callFunc F S) w=.ok (.enter F S) w)(HF:PReads C F L)(j:Nat)(M:j≠2)(h9:j≠9)(d:List (List UInt8))(D:∀x,x∈d↔bF x=j)(ai:d.length<=100)(w:World)(p:Nat)(h:PAt C w p)(g au:Nat)(hg:g<w.heap.size)(al:g≠C.pb)(hc:∀i (hi:i<d.length),w.cell? ⟨g,i,none⟩=some (.string (bs d[i])))
 (H:bE (L p) (aY L C.ts j (C.ts.length+1))≠.error 0):
 Calls prog 158 #[.pointer (some ⟨C.pb,0,none⟩),.func (.func F) #[.pointer (some ⟨C.pb,0,none⟩)] #[],.slice (some ⟨g,0,none⟩) d.length au] w (CG C w (bE (L p) (aY L C.ts j (C.ts.length+1)))):=by
 have Q:∀x∈d,x≠[]:=λx hx e=>by rw[D,e] at hx;exact h9 (hx.symm.trans rfl)
 have av:=aB (λW q (hf:Fr C.pb w W) (hq:PAt C W q)=>CY C W q d g au (G3 hg hf.size) al ai Q (λi hi=>(uW (hf.block g hg al)).trans (hc i hi)) hq)
 have bg:=aB (λW q (hq:PAt C W q)=>vO (hq.tsk.tk q hq.lt) j h9 d D)
 have ab:=aB (kG C w p h);have U:L p≠.error 0:=λe=>H (by rw[e];rfl)
 have P:=aB (λw1 (hb:Below w.heap.size w w1)=>HF w1 p (h.below hb) U)
 have ax:=aB HF;have bh:=h.pb_lt;obtain⟨r,hr⟩:=E_ (bE (L p) (aY L C.ts j (C.ts.length+1)));rw[<-hr] at H ⊢
 have HR:=aB hr;have ao:=aB H;clear h HF H hr U Q hc D;generalize (aN C.ts p).l_=pl at*;cases t:L p with
 |error l=>
  have G:Hid (r=.error l):=by show _=_;rw[HR.out,t];rfl
  rw[t] at P;clear t HR;go_enter func158,ntmps158;go_wp2_with fail;refine ab.out.mono ?_;rintro e w1 ⟨rfl,E⟩;have u:=aB E;clear E;go_wp2_with fail;refine(P.out w1 u.out).mono ?_;rintro e w2 ⟨s,rfl⟩;have bd:=aB ((Fr.below u.out).trans s);clear s;go_wp2_with fail;exact⟨rfl,Out.err G.out bd.out⟩
 |ok aq=>
  obtain⟨a0,q0⟩:=aq;have G:Hid (r=aY L C.ts j (C.ts.length+1) a0 q0):=by show _=_;rw[HR.out,t];rfl
  rw[t] at P;clear t HR;go_enter func158,ntmps158;go_wp2_with fail;refine ab.out.mono ?_;rintro e w1 ⟨rfl,E⟩;have u:=aB E;clear E;go_wp2_with fail;refine(P.out w1 u.out).mono ?_;rintro e w2 ⟨s,am,v2,rfl,ag⟩;have bc:=u.out.size;have bj:=s.size
  have HI:Hid (A8 C L w r j w2.heap.size pl (C.ts.length+1) v2 (w2.alloc (.cells #[.int .i64 pl] 153))):=
   ⟨((Fr.below u.out).trans s).alloc _,q0,a0,am.alloc _,G.out,ag.grow (λk _ M=>G7 _ _ _ M) bc s_,YB.new _ _⟩
  obtain⟨T2,bp,rfl⟩:=ag.form;clear s am ag G P ab;go_wp2_with fail;go_loopg [8,9] (C.ts.length+1) (λk v o wr=>A8 C L w r j w2.heap.size pl k v wr)
  case atStart=>exact HI.out
  case round=>
   obtain⟨J,q,a,X,B,Z,T⟩:=hrel;obtain⟨T3,br,rfl⟩:=Z.form
   obtain⟨k,rfl⟩:∃k,gk=k+1:=by
    cases gk with
    |zero=>exact absurd B ao.out
    |succ k=>exact⟨k,rfl⟩
   have HA:=aB (av.out wr q J X);have HO:=aB (bg.out wr q X);have ap:(aN C.ts q).sort=112->bF (aN C.ts q).x_=j->(aN C.ts q).x_≠[]:=λ_ e1 e2=>h9 (by rw[<-e1,e2];rfl)
   have ah:=aB ap;have af:=aB J;have aa:=aB Z;have ak:=aB T;have bi:=J.size;clear J X Z T HI ap;generalize lO C.ts q d=oo at*;generalize an:(if oo=[] then q else q+1)=qo at*
   have N:=aB an;clear an;cases f:((aN C.ts q).sort==112 && bF (aN C.ts q).x_==j)
   ·have G:Hid (r=.ok (a,q)):=by show _=_;rw[B];exact WN f
    obtain rfl:oo=[]:=by rw[HO.out,f];rfl
    obtain rfl:q=qo:=N.out;clear f B HO N ah;simp only[bs] at HA;go_wp2_with fail;refine HA.out.mono ?_;rintro e w4 ⟨rfl,y,c⟩;have m:=aB c;have z:=aB y;clear c y;go_wp2_with fail;go_ret;exact Out.ok G.out (af.out.trans m.out) z.out (aa.out.grow (λk h1 M=>m.out.block k M o_) (F6 _) m.out.size)
   ·obtain⟨rE,K⟩:=E_ (L (q+1));have I:Hid (r=bE rE (λb q2=>aY L C.ts j k (aK (aN C.ts q).x_ (aN C.ts q).l_ [] [a,b]) q2)):=by show _=_;rw[B,YT M f,K]
    have Y:oo=(aN C.ts q).x_:=by rw[HO.out,f];rfl
    have n:(aN C.ts q).sort=112/\bF (aN C.ts q).x_=j:=by simpa using f
    have V:oo≠[]:=by rw[Y];exact ah.out n.1 n.2
    have bb:Hid (bF (aN C.ts q).x_≠9):=by show _≠_;rw[n.2];exact h9
    obtain rfl:q+1=qo:=by rw[<-N.out,if_neg V]
    have aj:L (q+1)≠.error 0:=λe=>ao.out (by rw[I.out,K,e];rfl)
    have bo:(bs oo).toList.isEmpty=false:=by
     rw[bT];cases oo with
     |nil=>exact absurd rfl V
     |cons x l=>rfl
    have be:=aB K;have bf:=aB Y;clear f B K HO N ah n Y;go_wp2_with fail;refine HA.out.mono ?_;rintro e w4 ⟨rfl,y,c⟩;have P:=aB (ax.out w4.drew (q+1) y.drew aj);rw[<-be.out] at P;have az:=aB (aa.out.grow (λk h1 M=>c.block k M o_) (F6 _) c.size)
    have z:=aB (c.keepB ak.out o_)
    have m:=aB (af.out.trans c);have c0:=aA z.out (i:=0) rfl;have bq:=aD z.out;have bm:=c.size;clear c y aa ak af HA aj V;cases rE with
    |error l=>
     have G:Hid (r=.error l):=I.out;go_wp2_with fail;go_region_law (refine thrown .nilIface ?_ ?_;(focus go_simp;refine P.out.mono ?_;rintro e w5 ⟨A,rfl⟩;exact I8 rfl (Out.err G.out (m.out.drew.trans A)));intro O)
     all_goals exact O.out.elim
    |ok iq=>
     obtain⟨i,q5⟩:=iq;have G:Hid (r=aY L C.ts j k (aK (aN C.ts q).x_ (aN C.ts q).l_ [] [a,i]) q5):=I.out;clear I;go_wp2_with fail;go_region_law (go_simp;refine P.out.mono ?_;rintro e w5 ⟨A,ar,v5,rfl,ac⟩;obtain⟨T5,bn,rfl⟩:=ac.form;have ay:=aB ac;have ad:=aB A;have aw:=aB ar;have ae:=aB (((Fr.refl C.pb w4).drew.trans A).keepB z.out o_);have d0:=aA ae.out (i:=0) rfl;have bl:=aD ae.out;clear A ar ac)
     all_goals
      go_wp2_with fail;go_roundg k
      case measure=>omega
      case rel=>
       have ba:=ad.out.size
       exact⟨m.out.drew.trans ad.out,q5,_,aw.out,G.out,PN.mk (F5 (F5 (F5 (F5 (F5 (F5 (F5 (F5 (F7 ⟨rfl,pl,_,_,a,i,by rw[bf.out];rfl,bb.out,rfl,rfl⟩))))))))) (λp hp=>by
        simp only[G9,I0,or_false] at hp;rcases hp with rfl|rfl
        ·exact Prt.ok.node (az.out.grow (λk h1 M=>ad.out.block k M o_) (F6 _) ba)
        ·exact Prt.ok.node (ay.out.grow (λ_ _ _=>rfl) (by have:=m.out.size;exact this) (F6 _))),ae.out⟩
def nL(C:Ctx)(L:Nat->bH aC)(F:Nat)(o:∀b w,Sem.run prog (callFunc F b) w=.ok (.enter F b) w)(t:PReads C F L)(c:Nat)(d:c≠2)(A:c≠9)(a:List (List UInt8))(f:∀x,x∈a↔bF x=c)(g:a.length<=100)(w:World)(p:Nat)(h:PAt C w p)(n:Nat)(m:n=a.length)(r:Array Value)(k:r=(a.map λx=>Value.string (bs x)).toArray)
 (j:bE (L p) (aY L C.ts c (C.ts.length+1))≠.error 0):
 Calls prog 158 #[.pointer (some ⟨C.pb,0,none⟩),.func (.func F) #[.pointer (some ⟨C.pb,0,none⟩)] #[],.slice (some ⟨w.heap.size,0,none⟩) n n] (w.alloc (.cells r 9)) (CG C w (bE (L p) (aY L C.ts c (C.ts.length+1)))):=by
 subst m;have s:=h.pb_lt;refine(TZ C L F o t c d A a f g _ p (h.alloc _) w.heap.size a.length s_ o_ ?_ j).mono λe D ⟨u,d⟩=>⟨((Fr.refl _ _).alloc _).trans u,?_⟩
 ·intro i z;refine aA (aU _ _ rfl _) ?_;rw[k];simp[z]
 ·cases q:bE (L p) (aY L C.ts c (C.ts.length+1)) with
  |error l=>rw[q] at d;exact d
  |ok E=>
   rw[q] at d;obtain⟨y,v,B,m⟩:=d;exact⟨y,v,B,m.grow (λ_ _ _=>rfl) s_ (F6 _)⟩
def PX(c:Fn)(a b:Array Value)(w:World):(Instr.makeFunc c a b).run prog w=.ok (.func c a b) w:=rfl
def IU(C:Ctx)(L:Nat->bH aC)(n:PReads C 253 L):PReads C 245 (λp=>bE (L p) (aY L C.ts 4 (C.ts.length+1))):=by
 intro w p h f;have s:=aB (nL C L 253 (λ_ _=>rfl) n 4 d_ d_ [[42],[47],[37]] E0 d_ w p h 3 rfl #[.string ⟨#[42]⟩,.string ⟨#[47]⟩,.string ⟨#[37]⟩] rfl f)
 have i:=PX;show Calls _ _ _ _ (CG C w (bE (L p) (aY L C.ts 4 (C.ts.length+1))))
 generalize bE (L p) (aY L C.ts 4 (C.ts.length+1))=r at*;clear h f n;go_enter func245,ntmps245;go_wp2_with fail;refine s.out.mono ?_;rintro e t ⟨b,j⟩;cases r with
 |error l=>
  obtain rfl:e=cH 4 l:=j;have c:=aB b;clear b i;go_wp2_with fail;exact⟨rfl,Out.err rfl c.out⟩
 |ok o=>
  obtain⟨a,q⟩:=o;obtain⟨d,u,rfl,g⟩:=j;have c:=aB b;have m:=aB d;have k:=aB g;clear b d g i;go_wp2_with fail;go_ret;exact Out.ok rfl c.out m.out k.out
def YG(C:Ctx)(L:Nat->bH aC)(n:PReads C 245 L):PReads C 237 (λp=>bE (L p) (aY L C.ts 3 (C.ts.length+1))):=by
 intro w p h f;have s:=aB (nL C L 245 (λ_ _=>rfl) n 3 d_ d_ [[43],[45]] E1 d_ w p h 2 rfl #[.string ⟨#[43]⟩,.string ⟨#[45]⟩] rfl f)
 have i:=PX;show Calls _ _ _ _ (CG C w (bE (L p) (aY L C.ts 3 (C.ts.length+1))))
 generalize bE (L p) (aY L C.ts 3 (C.ts.length+1))=r at*;clear h f n;go_enter func237,ntmps237;go_wp2_with fail;refine s.out.mono ?_;rintro e t ⟨b,j⟩;cases r with
 |error l=>
  obtain rfl:e=cH 4 l:=j;have c:=aB b;clear b i;go_wp2_with fail;exact⟨rfl,Out.err rfl c.out⟩
 |ok o=>
  obtain⟨a,q⟩:=o;obtain⟨d,u,rfl,g⟩:=j;have c:=aB b;have m:=aB d;have k:=aB g;clear b d g i;go_wp2_with fail;go_ret;exact Out.ok rfl c.out m.out k.out
def ZT(C:Ctx)(L:Nat->bH aC)(n:PReads C 206 L):PReads C 159 (λp=>bE (L p) (aY L C.ts 1 (C.ts.length+1))):=by
 intro w p h f;have s:=aB (nL C L 206 (λ_ _=>rfl) n 1 d_ d_ [[38,38]] E4 d_ w p h 1 rfl #[.string ⟨#[38,38]⟩] rfl f)
 have i:=PX;show Calls _ _ _ _ (CG C w (bE (L p) (aY L C.ts 1 (C.ts.length+1))))
 generalize bE (L p) (aY L C.ts 1 (C.ts.length+1))=r at*;clear h f n;go_enter func159,ntmps159;go_wp2_with fail;refine s.out.mono ?_;rintro e t ⟨b,j⟩;cases r with
 |error l=>
  obtain rfl:e=cH 4 l:=j;have c:=aB b;clear b i;go_wp2_with fail;exact⟨rfl,Out.err rfl c.out⟩
 |ok o=>
  obtain⟨a,q⟩:=o;obtain⟨d,u,rfl,g⟩:=j;have c:=aB b;have m:=aB d;have k:=aB g;clear b d g i;go_wp2_with fail;go_ret;exact Out.ok rfl c.out m.out k.out
def XB(C:Ctx)(L:Nat->bH aC)(n:PReads C 159 L):PReads C 108 (λp=>bE (L p) (aY L C.ts 0 (C.ts.length+1))):=by
 intro w p h f;have s:=aB (nL C L 159 (λ_ _=>rfl) n 0 d_ d_ [[124,124]] E5 d_ w p h 1 rfl #[.string ⟨#[124,124]⟩] rfl f)
 have i:=PX;show Calls _ _ _ _ (CG C w (bE (L p) (aY L C.ts 0 (C.ts.length+1))))
 generalize bE (L p) (aY L C.ts 0 (C.ts.length+1))=r at*;clear h f n;go_enter func108,ntmps108;go_wp2_with fail;refine s.out.mono ?_;rintro e t ⟨b,j⟩;cases r with
 |error l=>
  obtain rfl:e=cH 4 l:=j;have c:=aB b;clear b i;go_wp2_with fail;exact⟨rfl,Out.err rfl c.out⟩
 |ok o=>
  obtain⟨a,q⟩:=o;obtain⟨d,u,rfl,g⟩:=j;have c:=aB b;have m:=aB d;have k:=aB g;clear b d g i;go_wp2_with fail;go_ret;exact Out.ok rfl c.out m.out k.out
def FA(C:Ctx)(L:Nat->bH aC)(v:PReads C 237 L):PReads C 206 (λp=>bE (L p) (aY L C.ts 2 (C.ts.length+1))):=by
 intro w p h J;have N:=aB (kG C w p h);have I:L p≠.error 0:=λe=>J (by show bE _ _=_;rw[e];rfl)
 have G:=aB (λW (hb:Below w.heap.size w W)=>v W p (h.below hb) I)
 have af:=aB v;have ap:=h.pb_lt;obtain⟨r,hr⟩:=E_ (bE (L p) (aY L C.ts 2 (C.ts.length+1)));have H:r≠.error 0:=hr▸J;show Calls _ _ _ _ (CG C w (bE (L p) (aY L C.ts 2 (C.ts.length+1))))
 rw[<-hr];have HR:=aB hr;have ak:=aB H;clear h v J hr I H;generalize (aN C.ts p).l_=X at*;cases o:L p with
 |error l=>
  have v:Hid (r=.error l):=by show _=_;rw[HR.out,o];rfl
  rw[o] at G;clear o HR;go_enter func206,ntmps206;go_wp2_with fail;refine N.out.mono ?_;rintro e W ⟨rfl,y⟩;have f:=aB y;clear y;go_wp2_with fail;refine(G.out W f.out).mono ?_;rintro e w2 ⟨m,rfl⟩;have am:=aB ((Fr.below f.out).trans m);clear m;go_wp2_with fail;exact⟨rfl,Out.err v.out am.out⟩
 |ok aq=>
  obtain⟨a,q⟩:=aq;have aa:r=aY L C.ts 2 (C.ts.length+1) a q:=by rw[HR.out,o];rfl
  rw[o] at G;clear o HR;have B:=aB aa;clear aa;go_enter func206,ntmps206;go_wp2_with fail;refine N.out.mono ?_;rintro e W ⟨rfl,y⟩;have f:=aB y;clear y;go_wp2_with fail;refine(G.out W f.out).mono ?_;rintro e w2 ⟨m,E,v2,rfl,V⟩;have al:=f.out.size;have ar:=m.size;have M:=aB (V.grow (lo':=w.heap.size) (w':=w2.alloc (.cells #[.int .i64 X] 153)) (hi':=w2.heap.size+1) (λk _ Q=>G7 _ _ _ Q) al s_)
  have U:=aB (((Fr.below f.out).trans m).alloc (.cells #[.int .i64 X] 153));have Z:=aB (YB.new w2 X);have aj:=aB (E.alloc (.cells #[.int .i64 X] 153));obtain⟨T3,ay,rfl⟩:=V.form;have HO:=aB (vO (E.tsk.tk q E.lt) 2 d_ [[61,61],[33,61],[60],[60,61]] E3)
  clear m E V G N f;generalize j:lO C.ts q [[61,61],[33,61],[60],[60,61]]=O at*;have HM:=aB (DF C _ q aj.out [[61,61],[33,61],[60],[60,61]] d_ (by intro x hx;simp at hx;rcases hx with rfl|rfl|rfl|rfl<;>simp) O j (w2.heap.size+1) s_ 4 rfl #[.string ⟨#[61,61]⟩,.string ⟨#[33,61]⟩,.string ⟨#[60]⟩,.string ⟨#[60,61]⟩] rfl)
  generalize ab:(if O=[] then q else q+1)=qo at*
  have D:=aB ab;clear ab j;cases d:((aN C.ts q).sort==112 && bF (aN C.ts q).x_==2)
  ·have v:Hid (r=.ok (a,q)):=by show _=_;rw[B.out];exact WN d
   obtain rfl:O=[]:=by rw[HO.out,d];rfl
   obtain rfl:q=qo:=D.out;clear d B HO D;simp only[bs] at HM;go_wp2_with fail;refine HM.out.mono ?_;rintro e w4 ⟨rfl,s,c⟩;have n:=aB c;have t:=aB s;have S:=c.size;simp at S;clear c s;go_wp2_with fail;go_ret;exact Out.ok v.out (U.out.trans n.out) t.out (M.out.grow (λk h1 Q=>n.out.block k (by simpa using Q) o_) (F6 _) o_)
  ·obtain⟨rE,A⟩:=E_ (L (q+1))
   have z:Hid (r=bL (λb=>aK (aN C.ts q).x_ (aN C.ts q).l_ [] [a,b]) rE):=by
    show _=_
    rw[B.out,aY,if_pos d,A];cases L (q+1)<;>rfl
   have j:O=(aN C.ts q).x_:=by rw[HO.out,d];rfl
   have g:(aN C.ts q).sort=112/\bF (aN C.ts q).x_=2:=by simpa using d
   have K:O≠[]:=by
    intro e;rw[<-j,e] at g;exact absurd g.2 d_
   have ai:Hid (bF (aN C.ts q).x_≠9):=by show _≠_;rw[g.2];decide
   obtain rfl:q+1=qo:=by rw[<-D.out,if_neg K]
   have Y:L (q+1)≠.error 0:=λe=>ak.out (by rw[z.out,A,e];rfl)
   have aw:(bs O).toList.isEmpty=false:=by
    rw[bT];cases O with
    |nil=>exact absurd rfl K
    |cons x l=>rfl
   have an:=aB A;have ao:=aB j;clear d B A HO D g j;go_wp2_with fail;refine HM.out.mono ?_;rintro e w4 ⟨rfl,s,c⟩;have G:=aB (af.out w4.drew (q+1) s.drew Y);rw[<-an.out] at G;have S:=c.size;simp at S;have ah:=aB (M.out.grow (lo':=w.heap.size) (hi':=w4.heap.size) (λk h1 Q=>c.block k (by simpa using Q) o_) (F6 _) o_)
   have t:=aB (c.keepB Z.out o_)
   have n:=aB (U.out.trans c);have c0:=aA t.out (i:=0) rfl;have ax:=aD t.out;clear c s M Z U HM Y K;cases rE with
   |error l=>
    have v:Hid (r=.error l):=z.out;go_wp2_with fail;go_region_law (refine thrown .nilIface ?_ ?_;(focus go_simp;go_at_call 237;refine G.out.mono ?_;rintro e w5 ⟨u,rfl⟩;exact I8 rfl (Out.err v.out (n.out.drew.trans u)));intro F)
    all_goals exact F.out.elim
   |ok iq=>
    obtain⟨i,q5⟩:=iq;have v:Hid (r=.ok (aK (aN C.ts q).x_ (aN C.ts q).l_ [] [a,i],q5)):=z.out;clear z;go_wp2_with fail;go_region_law (go_simp;go_at_call 237;refine G.out.mono ?_;rintro e w5 ⟨u,ad,v5,rfl,P⟩;obtain⟨T5,av,rfl⟩:=P.form;have ag:=aB P;have T:=aB u;have ae:=aB ad;have ac:=aB (((Fr.refl C.pb w4).drew.trans u).keepB t.out o_);have d0:=aA ac.out (i:=0) rfl;have au:=aD ac.out;clear u ad P)
    all_goals (go_wp2_with fail;go_ret)
    all_goals exact Out.ok v.out (n.out.drew.trans T.out) ae.out (PN.mk (F5 (F5 (F5 (F5 (F5 (F5 (F5 (F5 (F7 ⟨rfl,X,_,_,a,i,by rw[ao.out];rfl,ai.out,rfl,rfl⟩))))))))) (λp hp=>by
     simp only[G9,I0,or_false] at hp;rcases hp with rfl|rfl
     ·exact Prt.ok.node (ah.out.grow (λk h1 Q=>T.out.block k Q o_) (F6 _) T.out.size)
     ·exact Prt.ok.node (ag.out.grow (λ_ _ _=>rfl) (by have:=n.out.size;exact this) (F6 _))))
def uJ(C:Ctx):∀f,PReads C 108 (dP C.ts f)
 |0=>λ_ _ _ a=>absurd rfl a
 |f+1=>λw p h a=>XB C (fC (dP C.ts f) C.ts 4) (ZT C (fC (dP C.ts f) C.ts 3) (FA C (fC (dP C.ts f) C.ts 2) (YG C (fC (dP C.ts f) C.ts 1) (IU C (fC (dP C.ts f) C.ts 0) (QN C (dP C.ts f) (uJ C f) (C.ts.length+1)))))) w p h a
def EK{b c:Type}(ts:List aR)(x:List UInt8)(f:b->c)(r:bH b):aM ts x (bL f r)=bL f (aM ts x r):=by
 cases r with
 |error l=>rfl
 |ok d=>
  obtain⟨a,q⟩:=d;unfold aM bL;simp only;split<;>rfl
def JM(C:Ctx)(E:Nat->bH aC)(F:PReads C 108 E):PReads C 220 (λp=>aM C.ts [59] (E p)):=by
 intro w p h o;have s:E p≠.error 0:=λe=>o (by show aM _ _ _=_;rw[e];rfl)
 have A:=aB (F w p h s);have G:=h.pb_lt;show Calls _ _ _ _ (CG C w (aM C.ts [59] (E p)))
 obtain⟨r,z⟩:=E_ (aM C.ts [59] (E p));rw[<-z];generalize E p=I at*;have t:=aB z;clear h F o s z;cases I with
 |error l=>
  have u:Hid (r=.error l):=t.out;go_enter func220,ntmps220;go_wp2_with fail;refine A.out.mono ?_;rintro e B ⟨c,rfl⟩;have i:=aB c;clear c;go_wp2_with fail;exact⟨rfl,Out.err u.out i.out⟩
 |ok K=>
  obtain⟨a,q⟩:=K;go_enter func220,ntmps220;go_wp2_with fail;refine A.out.mono ?_;rintro e B ⟨c,n,P,rfl,j⟩;obtain⟨N,M,rfl⟩:=j.form;have f:=aB (eR C B q ⟨#[59]⟩ n);have D:(⟨#[59]⟩:ByteArray).data.toList=[59]:=rfl;rw[D] at f;have i:=aB c;have y:=aB j;have L:=c.size;clear n c j A D;cases b:aQ C.ts q [59]
  ·have u:Hid (r=.error (aN C.ts q).l_):=by show _=_;rw[t.out];exact vD b
   rw[b] at f;clear b t;go_wp2_with fail;refine f.out.mono ?_;rintro e J ⟨d,m⟩;obtain rfl:e=cH 4 (aN C.ts q).l_:=m;have g:=aB (i.out.trans d);clear d;go_wp2_with fail;exact⟨rfl,Out.err u.out g.out⟩
  ·have u:Hid (r=.ok (a,q+1)):=by show _=_;rw[t.out];exact lW b
   rw[b] at f;clear b t;go_wp2_with fail;refine f.out.mono ?_;rintro e J ⟨d,m⟩;obtain⟨rfl,v⟩:=m;have g:=aB d;have x:=aB v;clear d v;go_wp2_with fail;go_ret;exact Out.ok u.out (i.out.trans g.out) x.out (y.out.grow (λk O H=>g.out.block k H o_) (F6 _) g.out.size)
def nS(C:Ctx)(w:World)(q:Nat)(l:List aC)(t:aR)(v:Value)(wc:World):Prop:=
 ∃cb sv,v=.pointer (some ⟨cb,0,none⟩)/\cb≠C.pb/\Fr C.pb w wc/\PAt C wc q/\wc.heap[cb]?=some (.cells #[.int .i64 t.l_,.string (bs t.x_),sv] 271 (0,0))/\PKid (Btw w.heap.size wc.heap.size) wc sv l
def nS.late{C:Ctx}{b a:World}{c:Value}(e:Fr C.pb w b)(g:Fr C.pb b a)(d:PAt C a q)(f:PKid (Btw b.drew.heap.size a.heap.size) a c l):
 nS C w q l t (.pointer (some ⟨a.heap.size,0,none⟩)) (a.alloc (.cells #[.int .i64 t.l_,.string (bs t.x_),c] 271)):=by
 have h:=d.pb_lt;refine⟨a.heap.size,c,rfl,o_,(e.trans g).alloc _,d.alloc _,aU _ _ rfl _,f.grow (λk _ i=>G7 _ _ _ i) ?_ s_⟩
 exact e.size
def nS.early{C:Ctx}{d f:World}{h:Value}{g:Array Value}{o:Obj}(n:Fr C.pb w d)(z:Fr C.pb d f)(v:PAt C f q)(p:C.pb<d.heap.size)(y:C.g<d.heap.size)(s:PKid (Btw (d.alloc o).drew.heap.size f.heap.size) f h l)(r:f.heap[d.heap.size]?=some (.cells g 271 (0,0)))(j:g.size=3):
 nS C w q l t (.pointer (some ⟨d.heap.size,0,none⟩)) (((f.setCell ⟨d.heap.size,0,none⟩ (.int .i64 t.l_)).setCell ⟨d.heap.size,1,none⟩ (.string (bs t.x_))).setCell ⟨d.heap.size,2,none⟩ h):=by
 have e:=n.size;have m:∀(W:World) (i:Nat) (u:Value),(W.setCell ⟨d.heap.size,i,none⟩ u).heap.size=W.heap.size:=λW i u=>by simp[World.setCell]
 refine⟨d.heap.size,h,rfl,o_,(((n.trans z).setCell (F5 e) _).setCell (F5 e) _).setCell (F5 e) _,((v.other o_ o_).other o_ o_).other o_ o_,?_,?_⟩
 ·rw[aO (aO (aO r))];congr 1
  match g,j with
  |⟨[a,b,c]⟩,_=>rfl
 ·refine s.grow (λk B A=>?_) ?_ ?_
  ·have x:d.heap.size<k:=by have:(d.alloc o).drew.heap.size=d.heap.size+1:=s_
                            omega
   rw[G0 _ _ _ _ (by show k≠d.heap.size;omega),G0 _ _ _ _ (by show k≠d.heap.size;omega),G0 _ _ _ _ (by show k≠d.heap.size;omega)]
  ·have:(d.alloc o).drew.heap.size=d.heap.size+1:=s_
   omega
  ·rw[m,m,m];exact F6 _
def QI(C:Ctx)(E:Nat->bH aC)(w w0:World)(r0:bH (List aC))(nb:Nat)(t:aR)(k:Nat)(v:Value)(wr:World):Prop:=
 Fr C.pb w wr/\∃q acc,PAt C wr q/\r0=eJ E C.ts k q acc/\acc.length+k<=4000/\PLst w0.heap.size wr v acc/\wr.heap[nb]?=some (.cells #[.int .i64 t.l_,.string (bs t.x_)] 155 (0,0))/\w0.heap.size<=wr.heap.size
def MC(C:Ctx)(E:Nat->bH aC)(HE:PReads C 108 E):PReads C 222 (eI E C.ts):=by
 obtain⟨i0,hi,da,dm,dg⟩:=info_parts zG;intro w p h bk;have ao:=aB (kF C w p h);have cr:=aB HE;have dh:=aB (JM C E HE);have dx:=h.pb_lt;have eg:=h.g_lt;have dq:=h.len;obtain⟨r,hr⟩:=E_ (eI E C.ts p);rw[<-hr] at bk ⊢
 rw[eI] at hr;have s:=aB hr;have bt:=aB bk;clear h HE bk hr;generalize cs:aN C.ts p=t at*;have cx:=aB cs;clear cs;cases hs:(t.sort==110)
 ·rw[hs] at ao;have Q:Hid (r=.error t.l_):=by show _=_;rw[s.out,hs];show Hs.bad _ _=_;unfold Hs.bad;rw[cx.out]
  clear hs s;go_enter func222,ntmps222;go_wp2_with fail;refine ao.out.mono ?_;rintro e w7 ⟨ag,bn⟩;obtain rfl:e=cH 4 t.l_:=bn;have af:=aB ag;clear ag;go_wp2_with fail;exact⟨rfl,Out.err Q.out af.out⟩
 rw[hs] at ao
 have aj:Hid (r=if aQ C.ts (p+1) [40] then
  bL (λl=>aK [100,111] t.l_ t.x_ [aK [99,97,108,108] t.l_ t.x_ l]) (aM C.ts [59] (dZ E C.ts (p+1) [40] [41]))
  else
   bE (aM C.ts [61] (eJ E C.ts (C.ts.length+1) (p+1) [])) λbq q=>
    bL (λv=>aK [115,101,116] t.l_ t.x_ (bq++[v])) (aM C.ts [59] (E q))):=by
  show _=_
  rw[s.out,hs];simp only[EK];rfl
 clear s hs;go_enter func222,ntmps222;go_wp2_with fail;refine ao.out.mono ?_;rintro e w7 ⟨ag,bn⟩;obtain⟨rfl,bb⟩:=bn;have af:=aB (ag.alloc (.cells #[.int .i64 t.l_,.string (bs t.x_)] 155));have aa:=aB (cM C (w7.alloc (.cells #[.int .i64 t.l_,.string (bs t.x_)] 155)) (p+1) ⟨#[40]⟩ (bb.alloc _));have cm:(⟨#[40]⟩:ByteArray).data.toList=[40]:=rfl;rw[cm] at aa;have bv:Hid ((w7.alloc (.cells #[.int .i64 t.l_,.string (bs t.x_)] 155)).heap[w7.heap.size]?=some (.cells #[.int .i64 t.l_,.string (bs t.x_)] 155 (0,0))):=aU _ _ rfl _;have L:w7.heap.size≠C.pb:=by have:=bb.pb_lt;omega
 have dr:=ag.size;clear ag bb ao cm;cases i5:aQ C.ts (p+1) [40];rotate_left
 ·rw[i5] at aa;obtain⟨r1,bm⟩:=E_ (gH E C.ts (p+1+1) [41]);have z:Hid (r=bL (λl=>aK [100,111] t.l_ t.x_ [aK [99,97,108,108] t.l_ t.x_ l]) (aM C.ts [59] (aM C.ts [41] r1))):=by show _=_;rw[aj.out,i5,bm];unfold dZ;rw[i5];rfl
  have ch:=aB bm;clear i5 aj bm;go_wp2_with fail;refine aa.out.mono ?_;rintro e w8 ⟨rfl,B,U⟩;have K:=aB (U.keepB bv.out L);have au:=aB (af.out.trans U);have HV:=aB (λW (hW:PAt C W (p+1+1))=>rG C E cr.out W (p+1+1) ⟨#[41]⟩ hW r1 _ ch rfl (λe=>bt.out (by rw[z.out,e];rfl)))
  have cg:(⟨#[41]⟩:ByteArray).data.toList=[41]:=rfl;rw[cg] at HV;have Z:=aB B;have c0:=aA K.out (i:=0) rfl;have c1:=aA K.out (i:=1) rfl;have cz:=aD K.out;have ds:=au.out.size;clear B U aa cg;cases hV:aM C.ts [41] r1 with
  |error l=>
   rw[hV] at HV;have Q:Hid (r=.error l):=by show _=_;rw[z.out,hV];rfl
   clear hV;go_wp2_with fail;go_region_law (refine thrown (.slice none 0 0) ?_ ?_;(focus go_simp;go_at_call 240;refine(HV.out _ ?_).mono ?_;(focus first|exact Z.out.drew|exact(Z.out.alloc _).drew);rintro e w9 ⟨y,rfl⟩;first|exact I8 rfl (Out.err Q.out (au.out.drew.trans y))|exact I8 rfl (Out.err Q.out ((au.out.alloc _).drew.trans y)));intro O)
   all_goals exact O.out.elim
  |ok lq=>
   obtain⟨l,q⟩:=lq;rw[hV] at HV;have P:Hid (r=bL (λl=>aK [100,111] t.l_ t.x_ [aK [99,97,108,108] t.l_ t.x_ l]) (aM C.ts [59] (.ok (l,q)))):=by show _=_;rw[z.out,hV]
   clear hV z ch;have u:=Z.out.pb_lt;have ak:=Z.out.g_lt;go_wp2_with fail;go_cut [4] (λv wc=>nS C w q l t v wc)
   case first=>
    go_region_law (go_simp;go_at_call 240;refine(HV.out _ ?_).mono ?_;(focus first|exact Z.out.drew|exact(Z.out.alloc _).drew);rintro e w9 ⟨y,ar,v,rfl,hk⟩;obtain⟨x,c,rfl⟩:=hk.slice;have HK:=aB hk;have ae:=aB ar;(first|(have cv:=y;have A:=aB (((Fr.refl C.pb w8).alloc (.cells #[.int .i64 0,.string ⟨#[]⟩,.slice none 0 0] 271)).drew.trans y);have V:=aB (y.keepB (b:=w8.heap.size) (o:=.cells #[.int .i64 0,.string ⟨#[]⟩,.slice none 0 0] 271 (0,0)) (aU w8 _ rfl _) o_);have z0:=aA V.out (i:=0) rfl;have z1:=aA V.out (i:=1) rfl;have z2:=aA V.out (i:=2) rfl;have y0:=aE (i:=0) V.out;have y1:=aE (i:=1) V.out;have y2:=aE (i:=2) V.out;have ea:=aD V.out;clear cv)|have A:=aB ((Fr.refl C.pb w8).drew.trans y));have ap:=aB (A.out.keepB K.out L);have d0:=aA ap.out (i:=0) rfl;have d1:=aA ap.out (i:=1) rfl;have dn:=aD ap.out;clear y ar hk)
    all_goals
     go_wp2_with fail;go_meet
     case rel=>first|exact nS.late au.out A.out ae.out HK.out|exact nS.early au.out A.out ae.out u ak HK.out V.out rfl
   case rest=>
    obtain⟨cb,sv,rfl,dk,f,X,bi,al⟩:=hcut;obtain⟨x,c,rfl⟩:=al.slice;have j:=aB (eR C wc q ⟨#[59]⟩ X);have ed:(⟨#[59]⟩:ByteArray).data.toList=[59]:=rfl;rw[ed] at j;have I:=aB f;have cq:=aB bi;have cn:=aB al;have cd:=f.size;clear f X bi al ed HV c0 c1 K cz Z;cases d:aQ C.ts q [59]
    ·have Q:Hid (r=.error (aN C.ts q).l_):=by show _=_;rw[P.out,vD d];rfl
     rw[d] at j;clear d P;go_wp2_with fail;refine j.out.mono ?_;rintro e df ⟨H,ba⟩;obtain rfl:e=cH 4 (aN C.ts q).l_:=ba;have T:=aB (I.out.trans H);clear H;go_wp2_with fail;exact⟨rfl,Out.err Q.out T.out⟩
    ·have Q:Hid (r=.ok (aK [100,111] t.l_ t.x_ [aK [99,97,108,108] t.l_ t.x_ l],q+1)):=by show _=_;rw[P.out,lW d];rfl
     rw[d] at j;clear d P;go_wp2_with fail;refine j.out.mono ?_;rintro e df ⟨H,ba⟩;obtain⟨rfl,bg⟩:=ba;have T:=aB H;have ck:=aB bg;have ad:=aB (H.keepB cq.out dk);have m0:=aA ad.out (i:=0) rfl;have m1:=aA ad.out (i:=1) rfl;have m2:=aA ad.out (i:=2) rfl;have dt:=aD ad.out;clear H bg;go_wp2_with fail;go_ret;exact Out.ok Q.out (I.out.trans T.out) ck.out (PN.mk (F5 (F5 (F5 (F5 (F5 (F5 (F5 (F5 (F5 (F5 (F5 (F5 (F5 (F5 (F5 (F5 (F5 (⟨rfl,_,aK [99,97,108,108] t.l_ t.x_ l,rfl,rfl,rfl,rfl,rfl,rfl,rfl⟩)))))))))))))))))) (λp hp=>by obtain rfl:=G5.1 hp;exact Prt.ok.list (cn.out.grow (λk h1 h2=>T.out.block k h2 o_) (F6 _) T.out.size)))
 rw[i5] at aa;obtain⟨r0,bu⟩:=E_ (eJ E C.ts (C.ts.length+1) (p+1) []);have z:Hid (r=bE (aM C.ts [61] r0) λbq q=>bL (λv=>aK [115,101,116] t.l_ t.x_ (bq++[v])) (aM C.ts [59] (E q))):=by show _=_;rw[aj.out,i5,bu];rfl
 have cc:=aB bu;have bj:Hid (r0≠.error 0):=λe=>bt.out (by rw[z.out,e];rfl)
 clear i5 aj bu;go_wp2_with fail;refine aa.out.mono ?_;rintro e w8 ⟨rfl,B,U⟩;have u:=B.pb_lt;have ak:=B.g_lt;have K:=aB (U.keepB bv.out L);have dw:=aD K.out;have de:w.heap.size<=w8.heap.size:=(af.out.trans U).size;have HI:Hid (QI C E w w8 r0 w7.heap.size t (C.ts.length+1) (.slice none 0 0) w8):=⟨af.out.trans U,p+1,[],B,cc.out,t_,PLst.nil _ _,K.out,F6 _⟩
 clear B U aa bv K af;go_wp2_with fail;go_loopg [5] (C.ts.length+1) (λk v wr=>QI C E w w8 r0 w7.heap.size t k v wr)
 case atStart=>exact HI.out
 case round=>
  obtain⟨bp,q4,M,cf,ay,dz,bw,bh,du⟩:=hrel;obtain⟨x4,c4,rfl⟩:=bw.slice;have ab:=aB (cM C wr q4 ⟨#[91]⟩ cf);have ed:(⟨#[91]⟩:ByteArray).data.toList=[91]:=rfl;rw[ed] at ab;have co:=aB bp;have bc:=aB bw;have ac:=aB bh;have ec:=bp.size
  obtain⟨k,rfl⟩:∃k,gk=k+1:=by
   cases gk with
   |zero=>exact absurd ay bj.out
   |succ k=>exact⟨k,rfl⟩
  clear bp cf bw bh HI cc ed;cases d:aQ C.ts q4 [91]
  ·have s:Hid (r0=.ok (M,q4)):=by show _=_;rw[ay,eJ,d];rfl
   rw[d] at ab;clear d ay;go_wp2_with fail;refine ab.out.mono ?_;rintro e w5 ⟨rfl,az,D⟩;have j:=aB (eR C w5 q4 ⟨#[61]⟩ az);have ed:(⟨#[61]⟩:ByteArray).data.toList=[61]:=rfl;rw[ed] at j;have ai:=aB (co.out.trans D);have ah:=aB (bc.out.keep D u);have S:=aB (D.keepB ac.out L);have db:=D.size;clear az D ab bc ed ac;cases d:aQ C.ts q4 [61]
   ·have Q:Hid (r=.error (aN C.ts q4).l_):=by show _=_;rw[z.out,s.out,vD d];rfl
    rw[d] at j;clear d z s;go_wp2_with fail;refine j.out.mono ?_;rintro e w6 ⟨m,bo⟩;obtain rfl:e=cH 4 (aN C.ts q4).l_:=bo;have N:=aB (ai.out.trans m);clear m;go_wp2_with fail;exact⟨rfl,Out.err Q.out N.out⟩
   ·obtain⟨rE,J⟩:=E_ (aM C.ts [59] (E (q4+1)));have P:Hid (r=bL (λv=>aK [115,101,116] t.l_ t.x_ (M++[v])) rE):=by show _=_;rw[z.out,s.out,lW d,J];rfl
    have am:aM C.ts [59] (E (q4+1))≠.error 0:=λe=>bt.out (by rw[P.out,J,e];rfl)
    rw[d] at j;have bx:=aB J;clear d z s J;go_wp2_with fail;refine j.out.mono ?_;rintro e w6 ⟨m,bo⟩;obtain⟨rfl,aw⟩:=bo;have HX:=aB (dh.out w6.drew (q4+1) aw.drew am);simp only[<-bx.out] at HX;have N:=aB (ai.out.trans m);have dd:=aB (ah.out.keep m u);have G:=aB (m.keepB S.out L);have cy:=m.size;have m0:=aA G.out (i:=0) rfl;have m1:=aA G.out (i:=1) rfl;have eb:=aD G.out;clear aw m j ah S am;cases rE with
    |error l=>
     have Q:Hid (r=.error l):=P.out;go_wp2_with fail;go_region_law (refine thrown .nilIface ?_ ?_;(focus go_simp;go_at_call 220;refine HX.out.mono ?_;rintro e w9 ⟨y,rfl⟩;exact I8 rfl (Out.err Q.out (N.out.drew.trans y)));intro O)
     all_goals exact O.out.elim
    |ok aq=>
     obtain⟨a,q⟩:=aq;have Q:Hid (r=.ok (aK [115,101,116] t.l_ t.x_ (M++[a]),q)):=P.out;clear P;go_wp2_with fail;go_region_law (go_simp;go_at_call 220;refine HX.out.mono ?_;rintro e w9 ⟨y,ar,v9,rfl,ca⟩;obtain⟨T9,ee,rfl⟩:=ca.form;have A:=aB ((Fr.refl C.pb w6).drew.trans y);have ap:=aB ca;have ae:=aB ar;have Y:=aB (A.out.keepB G.out L);have d0:=aA Y.out (i:=0) rfl;have d1:=aA Y.out (i:=1) rfl;have dn:=aD Y.out;clear y ar ca)
     all_goals (go_wp2_with fail;go_ret)
     all_goals exact Out.ok Q.out (N.out.trans A.out) ae.out (PN.mk (F5 (F5 (F5 (F5 (F5 (F5 (F5 (F5 (F5 (F5 (F7 (⟨rfl,_,_,M,a,rfl,rfl,rfl,rfl⟩)))))))))))) (λp hp=>by
      simp only[G9,I0,or_false] at hp;have dl:=A.out.size;rcases hp with rfl|rfl
      ·exact Prt.ok.list ((dd.out.keep A.out u).kid.grow (λ_ _ _=>rfl) o_ (F6 _))
      ·exact Prt.ok.node (ap.out.grow (λ_ _ _=>rfl) (by show _<=w6.heap.size;omega) (F6 _))))
  ·obtain⟨rE,J⟩:=E_ (E (q4+1))
   have s:Hid (r0=bE (aM C.ts [93] rE) λi q=>eJ E C.ts k q (M++[i])):=by
    show _=_
    rw[ay,eJ,d,J,if_pos rfl];cases aM C.ts [93] (E (q4+1))<;>rfl
   have am:E (q4+1)≠.error 0:=λe=>bj.out (by rw[s.out,J,e];rfl)
   have bx:=aB J;rw[d] at ab;clear d ay J;go_wp2_with fail;refine ab.out.mono ?_;rintro e w5 ⟨rfl,az,D⟩;have HX:=aB (cr.out w5 (q4+1) az am);simp only[<-bx.out] at HX;have ai:=aB (co.out.trans D);have ah:=aB (bc.out.keep D u);have S:=aB (D.keepB ac.out L);have db:=D.size;clear az D ab bc am ac;cases rE with
   |error l=>
    have Q:Hid (r=.error l):=by show _=_;rw[z.out,s.out];rfl
    go_wp2_with fail;refine HX.out.mono ?_;rintro e w6 ⟨m,rfl⟩;have N:=aB (ai.out.trans m);clear m HX;go_wp2_with fail;exact⟨rfl,Out.err Q.out N.out⟩
   |ok dj=>
    obtain⟨a6,q6⟩:=dj;go_wp2_with fail;refine HX.out.mono ?_;rintro e w6 ⟨m,aw,v6,rfl,br⟩;obtain⟨T6,cw,rfl⟩:=br.form;obtain⟨vs,F,ax,bf,cl⟩:=ah.out.keep m u
    have ct:∀g,(Value.slice x4 M.length c4).ownBlock=some g->g<w5.heap.size:=by
     obtain⟨dy,F',bz,_⟩:=ah.out;exact cK bz
    have ce:=aB ct;have N:=aB (ai.out.trans m);have ci:=aB aw;have cj:=aB br;have G:=aB (m.keepB S.out L);have HALL:=aB (I8 bf cl);have cy:=m.size;have bd:∀k,(Value.slice x4 M.length c4).ownBlock=some k->w8.heap.size<=k:=bR ax;clear aw m br HX ah ai bf cl ct S;go_wp2_with (at_builtin;refine wpList_append_lies _ r_ _ _ 157 r_ w8.heap.size 92 i0 _ 1 16 underlying157 hi da dm dg rfl d_ _ _ _ r_ (ax.alloc _) ⟨w6.heap.size,0,none⟩ 1 1 [.iface T6 (.agg cw)] r_ r_ (qI _ _) (sV _ _) d_ (by unfold maxLen;omega) o_ t_ (w6.heap.size+1) s_ ?_)
    intro g7 dv w9 an n be ef;have dc:=aB (PLst.snoc (lo:=w5.heap.size) HALL.out.1 HALL.out.2 cj.out o_ ce.out (λk hk=>G7 _ _ _ hk) s_ an n (be.imp_right (λe=>by omega)))
    have ae:=aB ((ci.out.alloc _).grown (b_:=w8.heap.size) n bd u ak);have A:=aB ((N.out.alloc _).grown n (λk hk=>G6 de (bd k hk)))
    have Y:Hid (w9.heap[w7.heap.size]?=some (.cells #[.int .i64 t.l_,.string (bs t.x_)] 155 (0,0))):=by
     show _=_
     rw[n.block _ t_ (λe=>by have:=bd _ e.symm;omega),G7 _ _ _ o_]
     exact G.out
    have dl:w8.heap.size<=w9.heap.size:=by have:=n.size;simp at this;omega
    have j:=aB (eR C w9 q6 ⟨#[93]⟩ ae.out);have ed:(⟨#[93]⟩:ByteArray).data.toList=[93]:=rfl;rw[ed] at j;clear ax an n be cj ci N HALL ce bd G ed;cases d:aQ C.ts q6 [93]
    ·have Q:Hid (r=.error (aN C.ts q6).l_):=by show _=_;rw[z.out,s.out,vD d];rfl
     rw[d] at j;clear d z s;go_wp2_with fail;refine j.out.mono ?_;rintro e di ⟨f,av⟩;obtain rfl:e=cH 4 (aN C.ts q6).l_:=av;have I:=aB (A.out.trans f);clear f;go_wp2_with fail;exact⟨rfl,Out.err Q.out I.out⟩
    ·have aj:Hid (r0=eJ E C.ts k (q6+1) (M++[a6])):=by show _=_;rw[s.out,lW d];rfl
     rw[d] at j;clear d s;go_wp2_with fail;refine j.out.mono ?_;rintro e di ⟨f,av⟩;obtain⟨rfl,X⟩:=av;have I:=aB (A.out.trans f);have cu:=aB (dc.out.keep f u);have bl:=aB (f.keepB Y.out L);have cp:=aB X;have cd:=f.size;clear f X;go_wp2_with fail;go_roundg k
     case measure=>omega
     case rel=>exact⟨I.out,q6+1,M++[a6],cp.out,aj.out,t_,by simpa using cu.out,bl.out,o_⟩
def CH(lo:Nat)(w':World)(v:Value)(b:aC):Prop:=b.op=[98,108,111,99,107]/\PKid (Btw lo w'.heap.size) w' v b.y_
def D2(C:Ctx)(w:World)(r:bH aC)(e:Ending)(w':World):Prop:=Out C w r (CH w.heap.size) e w'
def BReads(C:Ctx)(F:Nat)(X:Nat->bH aC):Prop:=∀w p,PAt C w p->X p≠.error 0->Calls prog F #[.pointer (some ⟨C.pb,0,none⟩)] w (D2 C w (X p))
def tE(B:Nat->bH aC)(ts:List aR)(q:Nat):bH (Option aC):=if aQ ts q [101,108,115,101] then bL some (B (q+1)) else .ok (none,q)
def XY(lo:Nat)(w':World)(v:Value):Option aC->Prop
 |none=>v=.slice none 0 0
 |some b=>CH lo w' v b
def CH.slice{b:aC}(h:CH lo w v b):∃x n c,v=.slice x n c:=by
 obtain⟨x,c,e⟩:=h.2.slice;exact⟨x,_,c,e⟩
def XY.slice{o:Option aC}(h:XY lo w v o):∃x n c,v=.slice x n c:=by
 cases o with
 |none=>exact⟨none,0,0,h⟩
 |some b=>exact CH.slice h
def CH.grow{lo':Nat}{b:aC}(h:CH lo w v b)(a:∀k,lo<=k->k<w.heap.size->w'.heap[k]?=w.heap[k]?)(d:lo'<=lo)(c:w.heap.size<=w'.heap.size):CH lo' w' v b:=⟨h.1,h.2.grow a d c⟩
def YZ(E B:Nat->bH aC)(ts:List aR)(p:Nat):
 rS E B ts p=bE (E (p+1)) λc q=>bE (B q) λb a=>bL (λo=>aK [105,102] (aN ts p).l_ [] (c::b::o.toList)) (tE B ts a):=by
 unfold rS;cases E (p+1) with
 |error l=>rfl
 |ok e=>
  obtain⟨c,q⟩:=e;show bE (B q) _=bE (B q) _
  cases B q with
  |error l=>rfl
  |ok d=>
   obtain⟨b,a⟩:=d;show (if _ then _ else _)=bL _ (tE B ts a)
   unfold tE;split
   ·cases B (a+1)<;>rfl
   ·rfl
def XC(C:Ctx)(B:Nat->bH aC)(L:BReads C 125 B)(w:World)(q:Nat)(h:PAt C w q)(r:bH (Option aC))(M:r=tE B C.ts q)(s:r≠.error 0):
 Calls prog 221 #[.pointer (some ⟨C.pb,0,none⟩)] w (Out C w r (XY w.heap.size)):=by
 have p:=aB (cM C w q ⟨#[101,108,115,101]⟩ h);have N:(⟨#[101,108,115,101]⟩:ByteArray).data.toList=[101,108,115,101]:=rfl;rw[N] at p;have A:=aB L;have y:=aB M;have E:=aB s;clear h L M s N;cases a:aQ C.ts q [101,108,115,101]
 ·have v:Hid (r=.ok (none,q)):=by show _=_;rw[y.out];unfold tE;rw[a];rfl
  rw[a] at p;clear a y;go_enter func221,ntmps221;go_wp2_with fail;refine p.out.mono ?_;rintro e K ⟨rfl,f,d⟩;have G:=aB f;have i:=aB d;clear f d;go_wp2_with fail;go_ret;exact Out.ok v.out i.out G.out rfl
 ·obtain⟨z,j⟩:=E_ (B (q+1));have k:Hid (r=bL some z):=by show _=_;rw[y.out,j];unfold tE;rw[a];rfl
  have u:B (q+1)≠.error 0:=λe=>E.out (by rw[k.out,j,e];rfl)
  have D:=aB j;rw[a] at p;clear a y j;go_enter func221,ntmps221;go_wp2_with fail;refine p.out.mono ?_;rintro e K ⟨rfl,f,d⟩;have J:=aB (A.out K (q+1) f u);rw[<-D.out] at J;have i:=aB d;have F:=d.size;clear f d u p;cases z with
  |error l=>
   have v:Hid (r=.error l):=k.out;go_wp2_with fail;refine J.out.mono ?_;rintro e P ⟨g,rfl⟩;have m:=aB (i.out.trans g);clear g;go_wp2_with fail;exact⟨rfl,Out.err v.out m.out⟩
  |ok O=>
   obtain⟨b,Q⟩:=O;have v:Hid (r=.ok (some b,Q)):=k.out;go_wp2_with fail;refine J.out.mono ?_;rintro e P ⟨g,t,S,rfl,o⟩;have m:=aB (i.out.trans g);have I:=aB t;have H:=aB o;obtain⟨x,n,c,rfl⟩:=o.slice;clear g t o;go_wp2_with fail;go_ret;exact Out.ok v.out m.out I.out (show CH _ _ _ _ from H.out.grow (λ_ _ _=>rfl) F (F6 _))
def VD(C:Ctx)(E B:Nat->bH aC)(HE:PReads C 108 E)(HB:BReads C 125 B):PReads C 181 (iO E B C.ts):=by
 intro w p h bd;have br:=aB (kG C w p h);have cb:=aB HE;have bk:=aB HB;have bj:=aB (JM C E HE);have cg:=aB (MC C E HE);have H:=aB h;have co:=h.pb_lt;have cv:=h.g_lt;obtain⟨r,hr⟩:=E_ (iO E B C.ts p);rw[<-hr] at bd ⊢
 rw[iO] at hr;have j:=aB hr;have ab:=aB bd;clear h HE HB bd hr;generalize bv:(aN C.ts p).l_=pl at*;have al:=aB bv;clear bv;go_enter func181,ntmps181;go_wp2_with fail;refine br.out.mono ?_;rintro e w1 ⟨rfl,aw⟩;have m:=aB ((Fr.below (pb:=C.pb) aw).alloc (.cells #[.int .i64 pl] 153));have J:=aB ((H.out.below aw).alloc (.cells #[.int .i64 pl] 153));have n:=aB (YB.new w1 pl);have z:w1.heap.size≠C.pb:=by have:=aw.size;omega
 have cs:=aw.size;clear aw br;have M:=aB (cM C (w1.alloc (.cells #[.int .i64 pl] 153)) p ⟨#[118,97,114]⟩ J.out);have ed:(⟨#[118,97,114]⟩:ByteArray).data.toList=[118,97,114]:=rfl;rw[ed] at M;clear ed;cases d:aQ C.ts p [118,97,114];rotate_left
 ·have HRt:Hid (r=pY E C.ts p):=by show _=_;rw[j.out,d];rfl
  rw[d] at M;clear d j;go_wp2_with fail;refine M.out.mono ?_;rintro e W1 ⟨rfl,A,O⟩;have HFt:=aB (m.out.trans O);have HBt:=aB (O.keepB n.out z);clear O M m J n;have aj:=aB (kF C W1 (p+1) A);clear A;obtain⟨t,ht⟩:=E_ (aN C.ts (p+1));rw[<-ht] at aj;have bh:=aB ht;clear ht;cases hs:(t.sort==110)
  ·have S:Hid (r=.error t.l_):=by show _=_;rw[HRt.out];unfold pY;rw[<-bh.out,hs];show Hs.bad _ _=_;unfold Hs.bad;rw[<-bh.out]
   rw[hs] at aj;clear hs HRt;go_wp2_with fail;refine aj.out.mono ?_;rintro e w2 ⟨f,bm⟩;obtain rfl:e=cH 4 t.l_:=bm;have L:=aB (HFt.out.trans f);clear f;go_wp2_with fail;exact⟨rfl,Out.err S.out L.out⟩
  have P:Hid (r=if aQ C.ts (p+2) [61] then bL (λv=>aK [118,97,114] pl [] [aK [116,97,114,103,101,116] t.l_ t.x_ [],v]) (aM C.ts [59] (E (p+3))) else Hs.bad C.ts (p+2)):=by
   show _=_
   rw[HRt.out];unfold pY;rw[<-bh.out,hs,EK,al.out];rfl
  rw[hs] at aj;clear hs HRt;go_wp2_with fail;refine aj.out.mono ?_;rintro e w2 ⟨f,bm⟩;obtain⟨rfl,y⟩:=bm;have L:=aB ((HFt.out.trans f).alloc (.cells #[.int .i64 t.l_,.string (bs t.x_)] 155));have ak:=aB (eR C (w2.alloc (.cells #[.int .i64 t.l_,.string (bs t.x_)] 155)) (p+2) ⟨#[61]⟩ (y.alloc _));have bu:(⟨#[61]⟩:ByteArray).data.toList=[61]:=rfl;rw[bu] at ak;have bz:Hid ((w2.alloc (.cells #[.int .i64 t.l_,.string (bs t.x_)] 155)).heap[w2.heap.size]?=some (.cells #[.int .i64 t.l_,.string (bs t.x_)] 155 (0,0))):=aU _ _ rfl _;have bt:w2.heap.size≠C.pb:=by have:=y.pb_lt;omega
  have Q:=aB ((f.alloc (.cells #[.int .i64 t.l_,.string (bs t.x_)] 155)).keepB HBt.out z);clear f y aj bu;cases d:aQ C.ts (p+2) [61]
  ·have S:Hid (r=.error (aN C.ts (p+2)).l_):=by show _=_;rw[P.out,d];rfl
   rw[d] at ak;clear d P;go_wp2_with fail;refine ak.out.mono ?_;rintro e w3 ⟨W,bg⟩;obtain rfl:e=cH 4 (aN C.ts (p+2)).l_:=bg;have ac:=aB (L.out.trans W);clear W;go_wp2_with fail;exact⟨rfl,Out.err S.out ac.out⟩
  obtain⟨X,s⟩:=E_ (aM C.ts [59] (E (p+3)));have u:Hid (r=bL (λv=>aK [118,97,114] pl [] [aK [116,97,114,103,101,116] t.l_ t.x_ [],v]) X):=by show _=_;rw[P.out,d,s];rfl
  have V:aM C.ts [59] (E (p+3))≠.error 0:=λe=>ab.out (by rw[u.out,s,e];rfl)
  have av:=aB s;rw[d] at ak;clear d P s;go_wp2_with fail;refine ak.out.mono ?_;rintro e w3 ⟨W,bg⟩;obtain⟨rfl,an⟩:=bg;have Y:=aB (bj.out w3.drew (p+3) an.drew V);simp only[<-av.out] at Y;have ac:=aB (L.out.trans W);have bi:=aB (W.keepB Q.out z);have ai:=aB (W.keepB bz.out bt);have c0:=aA bi.out (i:=0) rfl;have ao:=aD bi.out;have m0:=aA ai.out (i:=0) rfl;have m1:=aA ai.out (i:=1) rfl;have ct:=aD ai.out;have am:=ac.out.size;clear W an ak Q bz V;cases X with
  |error l=>
   have S:Hid (r=.error l):=u.out;go_wp2_with fail;go_region_law (refine thrown .nilIface ?_ ?_;(focus go_simp;go_at_call 220;refine Y.out.mono ?_;rintro e w4 ⟨g,rfl⟩;exact I8 rfl (Out.err S.out (ac.out.drew.trans g)));intro x)
   all_goals exact x.out.elim
  |ok aq=>
   obtain⟨a,q⟩:=aq;have S:Hid (r=.ok (aK [118,97,114] pl [] [aK [116,97,114,103,101,116] t.l_ t.x_ [],a],q)):=u.out;clear u;go_wp2_with fail;go_region_law (go_simp;go_at_call 220;refine Y.out.mono ?_;rintro e w4 ⟨g,U,v4,rfl,Z⟩;obtain⟨T4,bw,rfl⟩:=Z.form;have K:=aB ((Fr.refl C.pb w3).drew.trans g);have ae:=aB Z;have af:=aB U;have ap:=aB (K.out.keepB ai.out bt);have T:=aB (K.out.keepB bi.out z);have d0:=aA ap.out (i:=0) rfl;have d1:=aA ap.out (i:=1) rfl;have cu:=aD ap.out;have d2:=aA T.out (i:=0) rfl;have ax:=aD T.out;clear g U Z)
   all_goals (go_wp2_with fail;go_ret)
   all_goals exact Out.ok S.out (ac.out.trans K.out) af.out (PN.mk (F5 (F5 (F5 (F5 (F5 (F5 (F5 (F5 (F5 (F7 (⟨rfl,_,aK [116,97,114,103,101,116] t.l_ t.x_ [],a,rfl,rfl,rfl,rfl⟩))))))))))) (λp hp=>by obtain rfl:=G5.1 hp;exact Prt.ok.node (ae.out.grow (λ_ _ _=>rfl) am (F6 _))))
 have HRn:Hid (r=if aQ C.ts p [105,102] then rS E B C.ts p else if aQ C.ts p [119,104,105,108,101] then jB E B C.ts p else if aQ C.ts p [114,101,116,117,114,110] then fX E C.ts p else if aQ C.ts p [112,114,105,110,116] then gQ E C.ts p else eI E C.ts p):=by show _=_;rw[j.out,d];rfl
 rw[d] at M;clear d j;have j:=HRn;clear HRn;go_wp2_with fail;refine M.out.mono ?_;rintro e V1 ⟨rfl,G,N⟩;have D:=aB (m.out.trans N);have I:=aB (N.keepB n.out z);have F:=aB G;clear N G M m n J;have m:=D;have n:=I;have J:=F;clear D I F;have M:=aB (cM C V1 p ⟨#[105,102]⟩ J.out);have ed:(⟨#[105,102]⟩:ByteArray).data.toList=[105,102]:=rfl;rw[ed] at M;clear ed;cases d:aQ C.ts p [105,102];rotate_left
 ·have HRt:Hid (r=rS E B C.ts p):=by show _=_;rw[j.out,d];rfl
  rw[d] at M;clear d j;go_wp2_with fail;refine M.out.mono ?_;rintro e W1 ⟨rfl,A,O⟩;have HFt:=aB (m.out.trans O);have HBt:=aB (O.keepB n.out z);clear O M m J n;obtain⟨X,s⟩:=E_ (E (p+1));have P:Hid (r=bE X λc q=>bE (B q) λb q2=>bL (λo=>aK [105,102] pl [] (c::b::o.toList)) (tE B C.ts q2)):=by show _=_;rw[HRt.out,s,YZ,al.out]
  have V:E (p+1)≠.error 0:=λe=>ab.out (by rw[P.out,s,e];rfl)
  have Y:=aB (cb.out W1 (p+1) A V);rw[<-s] at Y;clear A V s HRt;cases X with
  |error l=>
   have S:Hid (r=.error l):=P.out;go_wp2_with fail;refine Y.out.mono ?_;rintro e w2 ⟨f,rfl⟩;have L:=aB (HFt.out.trans f);clear f;go_wp2_with fail;exact⟨rfl,Out.err S.out L.out⟩
  |ok cq=>
   obtain⟨c,q⟩:=cq;go_wp2_with fail;refine Y.out.mono ?_;rintro e w2 ⟨f,y,v2,rfl,ag⟩;obtain⟨T2,cn,rfl⟩:=ag.form;have L:=aB (HFt.out.trans f);have Q:=aB (f.keepB HBt.out z);have be:=HFt.out.size;have cf:=f.size;have az:=aB (ag.grow (lo':=w.heap.size) (λ_ _ _=>rfl) be (F6 _))
   clear f ag Y;obtain⟨rB,aa⟩:=E_ (B q);have u:Hid (r=bE rB λb q2=>bL (λo=>aK [105,102] pl [] (c::b::o.toList)) (tE B C.ts q2)):=by show _=_;rw[P.out,aa];rfl
   have au:B q≠.error 0:=λe=>ab.out (by rw[u.out,aa,e];rfl)
   have HY:=aB (bk.out w2 q y au);rw[<-aa] at HY;clear y au aa P;cases rB with
   |error l=>
    have S:Hid (r=.error l):=u.out;go_wp2_with fail;refine HY.out.mono ?_;rintro e w4 ⟨g,rfl⟩;have K:=aB (L.out.trans g);clear g;go_wp2_with fail;exact⟨rfl,Out.err S.out K.out⟩
   |ok bq=>
    obtain⟨b,q3⟩:=bq;obtain⟨rO,bf⟩:=E_ (tE B C.ts q3);have ay:Hid (r=bL (λo=>aK [105,102] pl [] (c::b::o.toList)) rO):=by show _=_;rw[u.out,bf];rfl
    have cl:=aB bf;have cm:Hid (rO≠.error 0):=λe=>ab.out (by rw[ay.out,e];rfl)
    clear u bf;go_wp2_with fail;refine HY.out.mono ?_;rintro e w4 ⟨g,U,v4,rfl,ah⟩;obtain⟨x4,n4,c4,rfl⟩:=ah.slice;have K:=aB (L.out.trans g);have cr:=g.size;have bb:=aB (ah.grow (lo':=w.heap.size) (λ_ _ _=>rfl) o_ (F6 _))
    have ae:=aB (az.out.grow (lo':=w.heap.size) (hi':=w4.heap.size) (λk h1 h2=>g.block k h2 o_) (F6 _) g.size)
    have T:=aB (g.keepB Q.out z);have HZ:=aB (XC C B bk.out w4.drew q3 U.drew rO cl.out cm.out);have c0:=aA T.out (i:=0) rfl;have ao:=aD T.out;clear g U ah HY Q az;cases rO with
    |error l=>
     have S:Hid (r=.error l):=ay.out;go_wp2_with fail;go_region_law (refine thrown (.slice none 0 0) ?_ ?_;(focus go_simp;go_at_call 221;refine HZ.out.mono ?_;rintro e w5 ⟨ba,rfl⟩;exact I8 rfl (Out.err S.out (K.out.drew.trans ba)));intro x)
     all_goals exact x.out.elim
    |ok oq=>
     obtain⟨o,q5⟩:=oq;have S:Hid (r=.ok (aK [105,102] pl [] (c::b::o.toList),q5)):=ay.out;clear ay;go_wp2_with fail;go_region_law (go_simp;go_at_call 221;refine HZ.out.mono ?_;rintro e w5 ⟨ba,cd,v5,rfl,bl⟩;obtain⟨x5,n5,c5,rfl⟩:=bl.slice;have ad:=aB ((Fr.refl C.pb w4).drew.trans ba);have bx:=aB bl;have ca:=aB cd;have ce:=aB (ad.out.keepB T.out z);have d2:=aA ce.out (i:=0) rfl;have ax:=aD ce.out;clear ba cd bl)
     all_goals (go_wp2_with fail;go_ret)
     all_goals
      have cp:=ad.out.size;have bn:=ae.out.grow (lo':=w.heap.size) (hi':=w5.heap.size) (λk h1 h2=>ad.out.block k h2 o_) (F6 _) ad.out.size
      have bc:=bb.out.grow (lo':=w.heap.size) (λk h1 h2=>ad.out.block k h2 o_) (F6 _) ad.out.size
      cases o with
      |none=>
       have h5:Value.slice x5 n5 c5=.slice none 0 0:=bx.out;rw[h5]
       exact Out.ok S.out (K.out.trans ad.out) ca.out (PN.mk (F5 (F5 (F5 (F5 (F5 (F5 (F5 (F5 (F5 (F5 (F5 (F7 (⟨rfl,_,_,c,b,rfl,rfl,bc.1,rfl,rfl⟩))))))))))))) (λp hp=>by
        simp only[G9,I0,or_false] at hp;rcases hp with rfl|rfl
        ·exact Prt.ok.node bn
        ·exact Prt.ok.list bc.2))
      |some b2=>
       have h5:CH w4.drew.heap.size w5 (.slice x5 n5 c5) b2:=bx.out
       exact Out.ok S.out (K.out.trans ad.out) ca.out (PN.mk (F5 (F5 (F5 (F5 (F5 (F5 (F5 (F5 (F5 (F5 (F5 (F5 (F7 (⟨rfl,_,_,_,c,b,b2,rfl,rfl,bc.1,h5.1,rfl,rfl⟩)))))))))))))) (λp hp=>by
        simp only[G9,I0,or_false] at hp;rcases hp with rfl|rfl|rfl
        ·exact Prt.ok.node bn
        ·exact Prt.ok.list bc.2
        ·exact Prt.ok.list (h5.2.grow (λ_ _ _=>rfl) (by show _<=w4.heap.size;omega) (F6 _))))
 have HRn:Hid (r=if aQ C.ts p [119,104,105,108,101] then jB E B C.ts p else if aQ C.ts p [114,101,116,117,114,110] then fX E C.ts p else if aQ C.ts p [112,114,105,110,116] then gQ E C.ts p else eI E C.ts p):=by show _=_;rw[j.out,d];rfl
 rw[d] at M;clear d j;have j:=HRn;clear HRn;go_wp2_with fail;refine M.out.mono ?_;rintro e V2 ⟨rfl,G,N⟩;have D:=aB (m.out.trans N);have I:=aB (N.keepB n.out z);have F:=aB G;clear N G M m n J;have m:=D;have n:=I;have J:=F;clear D I F;have M:=aB (cM C V2 p ⟨#[119,104,105,108,101]⟩ J.out);have ed:(⟨#[119,104,105,108,101]⟩:ByteArray).data.toList=[119,104,105,108,101]:=rfl;rw[ed] at M;clear ed;cases d:aQ C.ts p [119,104,105,108,101];rotate_left
 ·have HRt:Hid (r=jB E B C.ts p):=by show _=_;rw[j.out,d];rfl
  rw[d] at M;clear d j;go_wp2_with fail;refine M.out.mono ?_;rintro e W1 ⟨rfl,A,O⟩;have HFt:=aB (m.out.trans O);have HBt:=aB (O.keepB n.out z);clear O M m J n;obtain⟨X,s⟩:=E_ (E (p+1));have P:Hid (r=bE X λc q=>bL (λb=>aK [119,104,105,108,101] pl [] [c,b]) (B q)):=by show _=_;rw[HRt.out,s];unfold jB;rw[al.out]
  have V:E (p+1)≠.error 0:=λe=>ab.out (by rw[P.out,s,e];rfl)
  have Y:=aB (cb.out W1 (p+1) A V);rw[<-s] at Y;clear A V s HRt;cases X with
  |error l=>
   have S:Hid (r=.error l):=P.out;go_wp2_with fail;refine Y.out.mono ?_;rintro e w2 ⟨f,rfl⟩;have L:=aB (HFt.out.trans f);clear f;go_wp2_with fail;exact⟨rfl,Out.err S.out L.out⟩
  |ok cq=>
   obtain⟨c,q⟩:=cq;go_wp2_with fail;refine Y.out.mono ?_;rintro e w2 ⟨f,y,v2,rfl,ag⟩;obtain⟨T2,cn,rfl⟩:=ag.form;have L:=aB (HFt.out.trans f);have Q:=aB (f.keepB HBt.out z);have be:=HFt.out.size;have cf:=f.size;have az:=aB (ag.grow (lo':=w.heap.size) (λ_ _ _=>rfl) be (F6 _))
   clear f ag Y;obtain⟨rB,aa⟩:=E_ (B q);have u:Hid (r=bL (λb=>aK [119,104,105,108,101] pl [] [c,b]) rB):=by show _=_;rw[P.out,aa];rfl
   have au:B q≠.error 0:=λe=>ab.out (by rw[u.out,aa,e];rfl)
   have HY:=aB (bk.out w2.drew q y.drew au);rw[<-aa] at HY;have c0:=aA Q.out (i:=0) rfl;have ao:=aD Q.out;clear y au aa P;cases rB with
   |error l=>
    have S:Hid (r=.error l):=u.out;go_wp2_with fail;go_region_law (refine thrown (.slice none 0 0) ?_ ?_;(focus go_simp;go_at_call 125;refine HY.out.mono ?_;rintro e w4 ⟨g,rfl⟩;exact I8 rfl (Out.err S.out (L.out.drew.trans g)));intro x)
    all_goals exact x.out.elim
   |ok bq=>
    obtain⟨b,q3⟩:=bq;have S:Hid (r=.ok (aK [119,104,105,108,101] pl [] [c,b],q3)):=u.out;clear u;go_wp2_with fail;go_region_law (go_simp;go_at_call 125;refine HY.out.mono ?_;rintro e w4 ⟨g,U,v4,rfl,ah⟩;obtain⟨x4,n4,c4,rfl⟩:=ah.slice;have K:=aB ((Fr.refl C.pb w2).drew.trans g);have bb:=aB ah;have af:=aB U;have T:=aB (K.out.keepB Q.out z);have d2:=aA T.out (i:=0) rfl;have ax:=aD T.out;clear g U ah)
    all_goals (go_wp2_with fail;go_ret)
    all_goals exact Out.ok S.out (L.out.trans K.out) af.out (PN.mk (F5 (F5 (F5 (F5 (F5 (F5 (F5 (F5 (F5 (F5 (F5 (F5 (F5 (F7 (⟨rfl,_,_,c,b,rfl,rfl,bb.out.1,rfl,rfl⟩))))))))))))))) (λp hp=>by
     simp only[G9,I0,or_false] at hp;rcases hp with rfl|rfl
     ·exact Prt.ok.node (az.out.grow (λk h1 h2=>K.out.block k h2 o_) (F6 _) K.out.size)
     ·exact Prt.ok.list (bb.out.2.grow (λ_ _ _=>rfl) (by show _<=w2.heap.size;omega) (F6 _))))
 have HRn:Hid (r=if aQ C.ts p [114,101,116,117,114,110] then fX E C.ts p else if aQ C.ts p [112,114,105,110,116] then gQ E C.ts p else eI E C.ts p):=by show _=_;rw[j.out,d];rfl
 rw[d] at M;clear d j;have j:=HRn;clear HRn;go_wp2_with fail;refine M.out.mono ?_;rintro e V3 ⟨rfl,G,N⟩;have D:=aB (m.out.trans N);have I:=aB (N.keepB n.out z);have F:=aB G;clear N G M m n J;have m:=D;have n:=I;have J:=F;clear D I F;have M:=aB (cM C V3 p ⟨#[114,101,116,117,114,110]⟩ J.out);have ed:(⟨#[114,101,116,117,114,110]⟩:ByteArray).data.toList=[114,101,116,117,114,110]:=rfl;rw[ed] at M;clear ed;cases d:aQ C.ts p [114,101,116,117,114,110];rotate_left
 ·have HRt:Hid (r=fX E C.ts p):=by show _=_;rw[j.out,d];rfl
  rw[d] at M;clear d j;go_wp2_with fail;refine M.out.mono ?_;rintro e W1 ⟨rfl,A,O⟩;have HFt:=aB (m.out.trans O);have HBt:=aB (O.keepB n.out z);clear O M m J n;have ar:=aB (cM C W1 (p+1) ⟨#[59]⟩ A);have bo:(⟨#[59]⟩:ByteArray).data.toList=[59]:=rfl;rw[bo] at ar;clear A bo;cases d:aQ C.ts (p+1) [59];rotate_left
  ·have S:Hid (r=.ok (aK [114,101,116,117,114,110] pl [] [],p+2)):=by show _=_;rw[HRt.out];unfold fX;rw[d,al.out];rfl
   rw[d] at ar;clear d HRt;go_wp2_with fail;refine ar.out.mono ?_;rintro e w2 ⟨rfl,y,f⟩;have L:=aB (HFt.out.trans f);have Q:=aB (f.keepB HBt.out z);have ch:=aB y;have c0:=aA Q.out (i:=0) rfl;have ao:=aD Q.out;clear f y;go_wp2_with fail;go_ret;exact Out.ok S.out L.out ch.out (PN.mk (F5 (F5 (F5 (F5 (F5 (F5 (F5 (F5 (F5 (F5 (F5 (F5 (F5 (F5 (F7 (⟨rfl,pl,rfl,rfl,rfl,rfl⟩)))))))))))))))) (λp hp=>by cases hp))
  have P:Hid (r=bL (λv=>aK [114,101,116,117,114,110] pl [] [v]) (aM C.ts [59] (E (p+1)))):=by show _=_;rw[HRt.out];unfold fX;rw[d,EK,al.out];rfl
  rw[d] at ar;clear d HRt;go_wp2_with fail;refine ar.out.mono ?_;rintro e w2 ⟨rfl,y,f⟩;have L:=aB (HFt.out.trans f);have Q:=aB (f.keepB HBt.out z);clear f;obtain⟨X,s⟩:=E_ (aM C.ts [59] (E (p+1)));have u:Hid (r=bL (λv=>aK [114,101,116,117,114,110] pl [] [v]) X):=by show _=_;rw[P.out,s]
  have V:aM C.ts [59] (E (p+1))≠.error 0:=λe=>ab.out (by rw[u.out,s,e];rfl)
  have av:=aB s;have Y:=aB (bj.out w2.drew (p+1) y.drew V);simp only[<-av.out] at Y;have c0:=aA Q.out (i:=0) rfl;have ao:=aD Q.out;have am:=L.out.size;clear y V s P;cases X with
  |error l=>
   have S:Hid (r=.error l):=u.out;go_wp2_with fail;go_region_law (refine thrown .nilIface ?_ ?_;(focus go_simp;go_at_call 220;refine Y.out.mono ?_;rintro e w4 ⟨g,rfl⟩;exact I8 rfl (Out.err S.out (L.out.drew.trans g)));intro x)
   all_goals exact x.out.elim
  |ok aq=>
   obtain⟨a,q⟩:=aq;have S:Hid (r=.ok (aK [114,101,116,117,114,110] pl [] [a],q)):=u.out;clear u;go_wp2_with fail;go_region_law (go_simp;go_at_call 220;refine Y.out.mono ?_;rintro e w4 ⟨g,U,v4,rfl,Z⟩;obtain⟨T4,bw,rfl⟩:=Z.form;have K:=aB ((Fr.refl C.pb w2).drew.trans g);have ae:=aB Z;have af:=aB U;have T:=aB (K.out.keepB Q.out z);have d2:=aA T.out (i:=0) rfl;have ax:=aD T.out;clear g U Z)
   all_goals (go_wp2_with fail;go_ret)
   all_goals exact Out.ok S.out (L.out.trans K.out) af.out (PN.mk (F5 (F5 (F5 (F5 (F5 (F5 (F5 (F5 (F5 (F5 (F5 (F5 (F5 (F5 (F5 (F7 (⟨rfl,_,a,rfl,rfl,rfl,rfl⟩))))))))))))))))) (λp hp=>by obtain rfl:=G5.1 hp;exact Prt.ok.node (ae.out.grow (λ_ _ _=>rfl) am (F6 _))))
 have HRn:Hid (r=if aQ C.ts p [112,114,105,110,116] then gQ E C.ts p else eI E C.ts p):=by show _=_;rw[j.out,d];rfl
 rw[d] at M;clear d j;have j:=HRn;clear HRn;go_wp2_with fail;refine M.out.mono ?_;rintro e V4 ⟨rfl,G,N⟩;have D:=aB (m.out.trans N);have I:=aB (N.keepB n.out z);have F:=aB G;clear N G M m n J;have m:=D;have n:=I;have J:=F;clear D I F;have M:=aB (cM C V4 p ⟨#[112,114,105,110,116]⟩ J.out);have ed:(⟨#[112,114,105,110,116]⟩:ByteArray).data.toList=[112,114,105,110,116]:=rfl;rw[ed] at M;clear ed;cases d:aQ C.ts p [112,114,105,110,116];rotate_left
 ·have HRt:Hid (r=gQ E C.ts p):=by show _=_;rw[j.out,d];rfl
  rw[d] at M;clear d j;go_wp2_with fail;refine M.out.mono ?_;rintro e W1 ⟨rfl,A,O⟩;have HFt:=aB (m.out.trans O);have HBt:=aB (O.keepB n.out z);clear O M m J n;obtain⟨X,s⟩:=E_ (aM C.ts [59] (E (p+1)));have u:Hid (r=bL (λv=>aK [112,114,105,110,116] pl [] [v]) X):=by show _=_;rw[HRt.out,s];unfold gQ;rw[EK,al.out]
  have V:aM C.ts [59] (E (p+1))≠.error 0:=λe=>ab.out (by rw[u.out,s,e];rfl)
  have av:=aB s;have Y:=aB (bj.out W1.drew (p+1) A.drew V);simp only[<-av.out] at Y;have c0:=aA HBt.out (i:=0) rfl;have ao:=aD HBt.out;have am:=HFt.out.size;clear A V s HRt;cases X with
  |error l=>
   have S:Hid (r=.error l):=u.out;go_wp2_with fail;go_region_law (refine thrown .nilIface ?_ ?_;(focus go_simp;go_at_call 220;refine Y.out.mono ?_;rintro e w4 ⟨g,rfl⟩;exact I8 rfl (Out.err S.out (HFt.out.drew.trans g)));intro x)
   all_goals exact x.out.elim
  |ok aq=>
   obtain⟨a,q⟩:=aq;have S:Hid (r=.ok (aK [112,114,105,110,116] pl [] [a],q)):=u.out;clear u;go_wp2_with fail;go_region_law (go_simp;go_at_call 220;refine Y.out.mono ?_;rintro e w4 ⟨g,U,v4,rfl,Z⟩;obtain⟨T4,bw,rfl⟩:=Z.form;have K:=aB ((Fr.refl C.pb W1).drew.trans g);have ae:=aB Z;have af:=aB U;have T:=aB (K.out.keepB HBt.out z);have d2:=aA T.out (i:=0) rfl;have ax:=aD T.out;clear g U Z)
   all_goals (go_wp2_with fail;go_ret)
   all_goals exact Out.ok S.out (HFt.out.trans K.out) af.out (PN.mk (F5 (F5 (F5 (F5 (F5 (F5 (F5 (F5 (F5 (F5 (F5 (F5 (F5 (F5 (F5 (F5 (F7 (⟨rfl,_,a,rfl,rfl,rfl,rfl⟩)))))))))))))))))) (λp hp=>by obtain rfl:=G5.1 hp;exact Prt.ok.node (ae.out.grow (λ_ _ _=>rfl) am (F6 _))))
 have HRn:Hid (r=eI E C.ts p):=by show _=_;rw[j.out,d];rfl
 rw[d] at M;clear d j;have j:=HRn;clear HRn;go_wp2_with fail;refine M.out.mono ?_;rintro e V5 ⟨rfl,G,N⟩;have D:=aB (m.out.trans N);have I:=aB (N.keepB n.out z);have F:=aB G;clear N G M m n J;have m:=D;have n:=I;have J:=F;clear D I F;have Y:=aB (cg.out V5 p J.out (by rw[<-j.out];exact ab.out))
 rw[<-j.out] at Y;have ci:=m.out.size;clear j;go_wp2_with fail;refine Y.out.mono ?_;rintro e w3 ⟨W,cc⟩;cases r with
 |error l=>
  obtain rfl:e=cH 4 l:=cc;have ac:=aB (m.out.trans W);clear W;go_wp2_with fail;exact⟨rfl,Out.err rfl ac.out⟩
 |ok aq=>
  obtain⟨a,q⟩:=aq;obtain⟨an,v3,rfl,bp⟩:=cc;have ac:=aB (m.out.trans W);have cj:=aB an;have ck:=aB bp;clear W an bp;go_wp2_with fail;go_ret;exact Out.ok rfl ac.out cj.out (ck.out.grow (λ_ _ _=>rfl) ci (F6 _))
def XZ(C:Ctx)(S:Nat->bH aC)(w:World)(r0:bH (List aC))(k:Nat)(v:Value)(wr:World):Prop:=
 Fr C.pb w wr/\∃q acc,PAt C wr q/\r0=dC S C.ts k q acc/\acc.length+k<=4000/\PLst w.heap.size wr v acc
def OS(C:Ctx)(S:Nat->bH aC)(HS:PReads C 181 S):
 BReads C 125 (λp=>if aQ C.ts p [123] then bL (aK [98,108,111,99,107] (aN C.ts p).l_ []) (aM C.ts [125] (dC S C.ts (C.ts.length+1) (p+1) [])) else Hs.bad C.ts p):=by
 obtain⟨i0,hi,al,av,ao⟩:=info_parts zG;intro w p h W;have j:=aB (eR C w p ⟨#[123]⟩ h);have ed:(⟨#[123]⟩:ByteArray).data.toList=[123]:=rfl;rw[ed] at j;have aw:=aB HS;have az:=h.len;have z:=h.pb_lt;have ay:=h.g_lt;show Calls _ _ _ _ (D2 C w (if aQ C.ts p [123] then bL (aK [98,108,111,99,107] (aN C.ts p).l_ []) (aM C.ts [125] (dC S C.ts (C.ts.length+1) (p+1) [])) else Hs.bad C.ts p))
 obtain⟨r,hr⟩:=E_ ((if aQ C.ts p [123] then bL (aK [98,108,111,99,107] (aN C.ts p).l_ []) (aM C.ts [125] (dC S C.ts (C.ts.length+1) (p+1) [])) else Hs.bad C.ts p))
 have J:r≠.error 0:=hr▸W;rw[<-hr];have HR:=aB hr;have ap:=aB J;clear h HS W hr J ed;cases a:aQ C.ts p [123]
 ·have HL:Hid (r=.error (aN C.ts p).l_):=by show _=_;rw[HR.out,a];rfl
  rw[a] at j;clear a HR;go_enter func125,ntmps125;go_wp2_with fail;refine j.out.mono ?_;rintro e w1 ⟨y,K⟩;obtain rfl:e=cH 4 (aN C.ts p).l_:=K;have ak:=aB y;clear y;go_wp2_with fail;exact⟨rfl,Out.err HL.out ak.out⟩
 obtain⟨E,P⟩:=E_ (dC S C.ts (C.ts.length+1) (p+1) []);have M:Hid (r=bL (aK [98,108,111,99,107] (aN C.ts p).l_ []) (aM C.ts [125] E)):=by show _=_;rw[HR.out,a,P];rfl
 have I:Hid (E≠.error 0):=λe=>ap.out (by rw[M.out,e];rfl)
 have X:=aB P;rw[a] at j;clear a HR P;go_enter func125,ntmps125;go_wp2_with fail;refine j.out.mono ?_;rintro e w1 ⟨y,K⟩;obtain⟨rfl,ag⟩:=K;have HI:Hid (XZ C S w E (C.ts.length+1) (.slice none 0 0) w1):=⟨y,p+1,[],ag,X.out,t_,PLst.nil _ _⟩
 clear y ag j X;go_wp2_with fail;go_loopg [3] (C.ts.length+1) (λk v wr=>XZ C S w E k v wr)
 case atStart=>exact HI.out
 case round=>
  obtain⟨L,U,m,Z,u,bd,Q⟩:=hrel;obtain⟨x4,c4,rfl⟩:=Q.slice;have f:=aB (cM C wr U ⟨#[125]⟩ Z);have ed:(⟨#[125]⟩:ByteArray).data.toList=[125]:=rfl;rw[ed] at f;have af:=aB L;have N:=aB Q;have bf:=L.size
  obtain⟨k,rfl⟩:∃k,gk=k+1:=by
   cases gk with
   |zero=>exact absurd u I.out
   |succ k=>exact⟨k,rfl⟩
  clear L Z Q HI ed;cases a:aQ C.ts U [125];rotate_left
  ·have HL:Hid (r=.ok (aK [98,108,111,99,107] (aN C.ts p).l_ [] m,U+1)):=by show _=_;rw[M.out,u,dC,if_pos a,lW a];rfl
   rw[a] at f;clear a u;go_wp2_with fail;refine f.out.mono ?_;rintro e w5 ⟨rfl,x,c⟩;have aq:=aB x;have s:=aB (af.out.trans c);have o:=aB (N.out.keep c z);clear x c;go_wp2_with fail;go_ret;exact Out.ok HL.out s.out aq.out ⟨rfl,o.out.kid⟩
  ·obtain⟨rE,B⟩:=E_ (S U)
   have A:Hid (E=bE rE λi q=>dC S C.ts k q (m++[i])):=by
    show _=_
    rw[u,dC,if_neg (by rw[a];simp),B]
    cases S U<;>rfl
   have aa:S U≠.error 0:=λe=>I.out (by rw[A.out,B,e];rfl)
   have ax:=aB B;rw[a] at f;clear a u B;go_wp2_with fail;refine f.out.mono ?_;rintro e w5 ⟨rfl,x,c⟩;have HX:=aB (aw.out w5 U x aa);simp only[<-ax.out] at HX;have s:=aB (af.out.trans c);have o:=aB (N.out.keep c z);have be:=c.size;clear x c f N aa;cases rE with
   |error l=>
    have HL:Hid (r=.error l):=by show _=_;rw[M.out,A.out];rfl
    go_wp2_with fail;refine HX.out.mono ?_;rintro e w6 ⟨d,rfl⟩;have D:=aB (s.out.trans d);clear d HX;go_wp2_with fail;exact⟨rfl,Out.err HL.out D.out⟩
   |ok ar=>
    obtain⟨a6,q6⟩:=ar;have au:Hid (E=dC S C.ts k q6 (m++[a6])):=A.out;clear A;go_wp2_with fail;refine HX.out.mono ?_;rintro e w6 ⟨d,ae,v6,rfl,O⟩;obtain⟨T6,aj,rfl⟩:=O.form;obtain⟨vs,F,t,H,ad⟩:=o.out.keep d z
    have ah:∀g,(Value.slice x4 m.length c4).ownBlock=some g->g<w5.heap.size:=by
     obtain⟨bc,F',V,_⟩:=o.out;exact cK V
    have Y:=aB ah;have D:=aB (s.out.trans d);have ab:=aB ae;have ac:=aB O;have HALL:=aB (I8 H ad);have bb:=d.size;have T:∀k,(Value.slice x4 m.length c4).ownBlock=some k->w.heap.size<=k:=bR t;clear ae d O HX o s H ad ah;go_wp2_with (at_builtin;refine wpList_append_lies _ r_ _ _ 157 r_ w.heap.size 92 i0 _ 1 16 underlying157 hi al av ao rfl d_ _ _ _ r_ (t.alloc _) ⟨w6.heap.size,0,none⟩ 1 1 [.iface T6 (.agg aj)] r_ r_ (qI _ _) (sV _ _) d_ (by unfold maxLen;omega) o_ t_ (w6.heap.size+1) s_ ?_)
    intro g7 ba w9 n b G bg;have am:=aB (PLst.snoc (lo:=w5.heap.size) HALL.out.1 HALL.out.2 ac.out o_ Y.out (λk hk=>G7 _ _ _ hk) s_ n b (G.imp_right (λe=>by omega)))
    have ai:=aB ((ab.out.alloc _).grown (b_:=w.heap.size) b T z ay);have an:=aB ((D.out.alloc _).grown b T);clear t n b G ac ab D HALL Y T;go_wp2_with fail;go_roundg k
    case measure=>omega
    case rel=>exact⟨an.out,q6,m++[a6],ai.out,au.out,t_,by simpa using am.out⟩
def ED(C:Ctx)(f:Nat):∀g,BReads C 125 (iL (dP C.ts f) C.ts g)
 |0=>λ_ _ _ a=>absurd rfl a
 |g+1=>λw p h a=>OS C (iO (dP C.ts f) (iL (dP C.ts f) C.ts g) C.ts) (VD C _ _ (uJ C f) (ED C f g)) w p h a
def WT:(prog.info? 155).map (λi=>(i.zero,i.size,i.bytes))=some (some (.agg #[.int .i64 0,.string (bs [])]),2,24):=k_
def UK:List aC->List Value
 |[]=>[]
 |a::l=>.int .i64 a.l_::.string (bs a.x_)::UK l
def XU(l:List aC)(a:aC):UK (l++[a])=UK l++[.int .i64 a.l_,.string (bs a.x_)]:=by
 induction l with
 |nil=>rfl
 |cons x l b=>simp[UK,b]
def PNm(F:Nat->Prop)(w:World)(v:Value)(l:List aC):Prop:=
 (∀a∈l,a.op=[112,97,114,97,109])/\((v=.slice none 0 0/\l=[])\/
 ∃g cap cur,v=.slice (some ⟨g,0,none⟩) l.length cap/\F g/\w.heap[g]?=some (.cells cur 155 (0,0))/\l.length<=cap/\cur.toList.take (l.length*2)=UK l)
def PNm.keep{G:Nat->Prop}(h:PNm F w v l)(f:∀b,F b->w'.heap[b]?=w.heap[b]?)(m:∀b,F b->G b):PNm G w' v l:=by
 obtain⟨e,h|⟨g,c,a,j,d,k,i⟩⟩:=h
 ·exact⟨e,F7 h⟩
 ·exact⟨e,F5 ⟨g,c,a,j,m g d,by rw[f g d];exact k,i⟩⟩
def PNm.slice(h:PNm F w v l):∃x c,v=.slice x l.length c:=by
 obtain⟨_,⟨a,d⟩|⟨g,e,b,a,_⟩⟩:=h
 ·exact⟨none,0,by rw[a,d];rfl⟩
 ·exact⟨_,_,a⟩
def PNl(b_:Nat)(w:World)(v:Value)(acc:List aC):Prop:=(∀a∈acc,a.op=[112,97,114,97,109])/\w.ownsRow b_ 155 2 v acc.length (UK acc)
def PNl.nil(b_:Nat)(w:World):PNl b_ w (.slice none 0 0) []:=⟨λ_ h=>(by cases h),World.ownsRow_nil _ _ _ _⟩
def PNl.slice(h:PNl b_ w v acc):∃x c,v=.slice x acc.length c:=by
 rcases h.2.2 with ⟨a,d⟩|⟨g,b,e,a,_⟩
 ·exact⟨none,0,by rw[a,d]⟩
 ·exact⟨_,b,a⟩
def PNl.keep{pb:Nat}{w1:World}(h:PNl b_ w v acc)(b:Fr pb w w1)(c:pb<b_):PNl b_ w1 v acc:=by
 refine⟨h.1,bB h.2 λk a=>?_⟩
 have:=bR h.2 k a;exact b.block k (cK h.2 k a) o_
def PNl.nm(h:PNl b_ w v acc):PNm (Btw b_ w.heap.size) w v acc:=by
 rcases h.2.2 with ⟨c,a⟩|⟨g,d,b,c,a,e,f,k,j,i⟩
 ·exact⟨h.1,F7 ⟨c,I4 a⟩⟩
 ·exact⟨h.1,F5 ⟨g,d,b,c,⟨a,aD e⟩,e,f,i⟩⟩
def DC(w:World)(a b:Value):∀j u,([a,b]:List Value)[j]?=some u->(w.alloc (.cells #[a,b] 155)).cell? ((⟨w.heap.size,0,none⟩:Addr).add j)=some u:=by
 intro j u c;match j,c with
 |0,c=>simp at c;subst c;simp[Addr.add,go_sem]
 |1,c=>simp at c;subst c;simp[Addr.add,go_sem]
 |j+2,c=>simp at c
def JE(l:Int)(b:ByteArray):∀u∈([.int .i64 l,.string b]:List Value),u.oneCell'=true:=by
 intro u a;simp at a;rcases a with rfl|rfl<;>rfl
def XS(C:Ctx)(w:World)(r0:bH (List aC))(k:Nat)(v:Value)(wr:World):Prop:=
 Fr C.pb w wr/\∃q acc,PAt C wr q/\r0=(if aQ C.ts q [44] then cP C.ts k (q+1) acc else .ok (acc,q))/\acc.length+k<=4000/\PNl w.heap.size wr v acc
def pnode(t:aR):aC:=aK [112,97,114,97,109] t.l_ t.x_ []
def PP{p:Nat}(h:((aN ts p).sort==110)=true):cP ts (k+1) p acc=if aQ ts (p+1) [44] then cP ts k (p+1+1) (acc++[pnode (aN ts p)]) else .ok (acc++[pnode (aN ts p)],p+1):=by
 rw[cP,if_pos h];rfl
def VW{p:Nat}(h:((aN ts p).sort==110)=false):cP ts (k+1) p acc=.error (aN ts p).l_:=by
 rw[cP,if_neg (by rw[h];simp)];rfl
def PNs(lo:Nat)(w':World)(v:Value)(l:List aC):Prop:=PNm (Btw lo w'.heap.size) w' v l
def MM(C:Ctx)(w:World)(p:Nat)(h:PAt C w p)(r:bH (List aC))(hr:r=if aQ C.ts p [40] then gL C.ts (p+1) else Hs.bad C.ts p)(ae:r≠.error 0):
 Calls prog 124 #[.pointer (some ⟨C.pb,0,none⟩)] w (Out C w r (PNs w.heap.size)):=by
 obtain⟨i0,hi,ai,ar,ao⟩:=info_parts WT;have d:=aB (eR C w p ⟨#[40]⟩ h);have L:(⟨#[40]⟩:ByteArray).data.toList=[40]:=rfl;rw[L] at d;have be:=h.len;have x:=h.pb_lt;have av:=h.g_lt;have HR:=aB hr;have bc:=aB ae;clear h hr ae L;cases b:aQ C.ts p [40]
 ·have K:Hid (r=.error (aN C.ts p).l_):=by show _=_;rw[HR.out,b];rfl
  rw[b] at d;clear b HR;go_enter func124,ntmps124;go_wp2_with fail;refine d.out.mono ?_;rintro e w1 ⟨Q,Y⟩;obtain rfl:e=cH 4 (aN C.ts p).l_:=Y;have D:=aB Q;clear Q;go_wp2_with fail;exact⟨rfl,Out.err K.out D.out⟩
 have V:Hid (r=aM C.ts [41] (if aQ C.ts (p+1) [41] then .ok ([],p+1) else cP C.ts (C.ts.length+1) (p+1) [])):=by show _=_;rw[HR.out,b];rfl
 rw[b] at d;clear b HR;go_enter func124,ntmps124;go_wp2_with fail;refine d.out.mono ?_;rintro e w1 ⟨Q,Y⟩;obtain⟨rfl,ap⟩:=Y;have HA:=aB (cM C w1 (p+1) ⟨#[41]⟩ ap);have L:(⟨#[41]⟩:ByteArray).data.toList=[41]:=rfl;rw[L] at HA;have D:=aB Q;clear Q ap d L;cases b:aQ C.ts (p+1) [41];rotate_left
 ·have K:Hid (r=.ok ([],p+1+1)):=by show _=_;rw[V.out,if_pos b,lW b]
  rw[b] at HA;clear b V;go_wp2_with fail;refine HA.out.mono ?_;rintro e w2 ⟨rfl,J,G⟩;have O:=aB (D.out.trans G);have ay:=aB J;clear G J;go_wp2_with fail;go_ret;exact Out.ok K.out O.out ay.out ⟨λ_ h=>(by cases h),F7 ⟨rfl,rfl⟩⟩
 obtain⟨S,ab⟩:=E_ (cP C.ts (C.ts.length+1) (p+1) []);have m:Hid (r=aM C.ts [41] S):=by show _=_;rw[V.out,if_neg (by rw[b];simp),ab]
 have aq:Hid (S≠.error 0):=λe=>bc.out (by rw[m.out,e];rfl)
 have T:=aB ab;rw[b] at HA;clear b V ab;go_wp2_with fail;refine HA.out.mono ?_;rintro e w2 ⟨rfl,J,G⟩;have f:=aB (kF C w2 (p+1) J);have O:=aB (D.out.trans G);clear G J HA D;cases y:((aN C.ts (p+1)).sort==110)
 ·have K:Hid (r=.error (aN C.ts (p+1)).l_):=by show _=_;rw[m.out,T.out,VW y];rfl
  rw[y] at f;clear y T m;go_wp2_with fail;refine f.out.mono ?_;rintro e w3 ⟨E,Z⟩;obtain rfl:e=cH 4 (aN C.ts (p+1)).l_:=Z;have P:=aB (O.out.trans E);clear E;go_wp2_with fail;exact⟨rfl,Out.err K.out P.out⟩
 have am:Hid (S=if aQ C.ts (p+1+1) [44] then cP C.ts C.ts.length (p+1+1+1) [pnode (aN C.ts (p+1))] else .ok ([pnode (aN C.ts (p+1))],p+1+1)):=by show _=_;rw[T.out,PP y];rfl
 rw[y] at f;clear y T;generalize aN C.ts (p+1)=t at*;go_wp2_with fail;refine f.out.mono ?_;rintro e w3 ⟨E,Z⟩;obtain⟨rfl,af⟩:=Z;have P:=aB (O.out.trans E);have ak:=aB af;have bf:=P.out.size;clear E af f O;go_wp2_with (at_builtin;refine wpList_append_lies _ r_ _ _ 156 r_ w.heap.size 155 i0 _ 2 24 underlying156 hi ai ar ao rfl d_ (.slice none 0 0) 0 [] r_ (World.ownsRow_nil _ _ _ _) ⟨w3.heap.size,0,none⟩ 1 1 [.int .i64 t.l_,.string (bs t.x_)] r_ r_ (DC _ _ _) (JE _ _) d_ (by unfold maxLen;omega) o_ t_ (w3.heap.size+1) s_ ?_)
 intro g4 an w4 B l aj bk;have al:=aB ((ak.out.alloc _).grown (b_:=w.heap.size) l (λk hk=>by cases hk) x av)
 have I:=aB ((P.out.alloc _).grown l (λk hk=>by cases hk))
 have HI:Hid (XS C w S C.ts.length (.slice (some ⟨g4,0,none⟩) 1 an) w4):=⟨I.out,p+1+1,[pnode t],al.out,am.out,t_,by intro a ha;rw[G5.1 ha];rfl,B⟩
 clear B l aj am ak P al I;go_wp2_with fail;go_loopg [3] C.ts.length (λk v wr=>XS C w S k v wr)
 case atStart=>exact HI.out
 case round=>
  obtain⟨aa,i,o,ag,X,bh,ac⟩:=hrel;obtain⟨x4,c4,rfl⟩:=ac.slice;have s:=aB (cM C wr i ⟨#[44]⟩ ag);have L:(⟨#[44]⟩:ByteArray).data.toList=[44]:=rfl;rw[L] at s;have I:=aB aa;have W:=aB ac;have bj:=aa.size;clear aa ag ac HI L;cases b:aQ C.ts i [44]
  ·have g:Hid (S=.ok (o,i)):=by show _=_;rw[X,b];rfl
   rw[b] at s;clear b X;go_wp2_with fail;refine s.out.mono ?_;rintro e w5 ⟨rfl,N,q⟩;have d:=aB (eR C w5 i ⟨#[41]⟩ N);have L:(⟨#[41]⟩:ByteArray).data.toList=[41]:=rfl;rw[L] at d;have A:=aB (I.out.trans q);have z:=aB (W.out.keep q x);clear N q s W L;cases b:aQ C.ts i [41]
   ·have K:Hid (r=.error (aN C.ts i).l_):=by show _=_;rw[m.out,g.out];exact vD b
    rw[b] at d;clear b g m;go_wp2_with fail;refine d.out.mono ?_;rintro e w6 ⟨c,u⟩;obtain rfl:e=cH 4 (aN C.ts i).l_:=u;have n:=aB (A.out.trans c);clear c;go_wp2_with fail;exact⟨rfl,Out.err K.out n.out⟩
   ·have K:Hid (r=.ok (o,i+1)):=by show _=_;rw[m.out,g.out];exact lW b
    rw[b] at d;clear b g m;go_wp2_with fail;refine d.out.mono ?_;rintro e w6 ⟨c,u⟩;obtain⟨rfl,H⟩:=u;have n:=aB (A.out.trans c);have U:=aB H;have az:=aB (z.out.keep c x);clear c H z;go_wp2_with fail;go_ret;exact Out.ok K.out n.out U.out az.out.nm
  ·have g:Hid (S=cP C.ts gk (i+1) o):=by show _=_;rw[X,b];rfl
   rw[b] at s;clear b X
   obtain⟨k,rfl⟩:∃k,gk=k+1:=by
    cases gk with
    |zero=>exact absurd g.out aq.out
    |succ k=>exact⟨k,rfl⟩
   go_wp2_with fail;refine s.out.mono ?_;rintro e w5 ⟨rfl,N,q⟩;have f:=aB (kF C w5 (i+1) N);have A:=aB (I.out.trans q);have z:=aB (W.out.keep q x);clear N q s W;cases y:((aN C.ts (i+1)).sort==110)
   ·have K:Hid (r=.error (aN C.ts (i+1)).l_):=by show _=_;rw[m.out,g.out,VW y];rfl
    rw[y] at f;clear y g m;go_wp2_with fail;refine f.out.mono ?_;rintro e w6 ⟨c,u⟩;obtain rfl:e=cH 4 (aN C.ts (i+1)).l_:=u;have n:=aB (A.out.trans c);clear c;go_wp2_with fail;exact⟨rfl,Out.err K.out n.out⟩
   ·have bd:Hid (S=if aQ C.ts (i+1+1) [44] then cP C.ts k (i+1+1+1) (o++[pnode (aN C.ts (i+1))]) else .ok (o++[pnode (aN C.ts (i+1))],i+1+1)):=by show _=_;rw[g.out,PP y]
    rw[y] at f;clear y g;generalize aN C.ts (i+1)=t5 at*;go_wp2_with fail;refine f.out.mono ?_;rintro e w6 ⟨c,u⟩;obtain⟨rfl,H⟩:=u;have n:=aB (A.out.trans c);have U:=aB H;have M:=(z.out.keep c x).2;have ah:=aB z.out.1;have bg:=n.out.size;have ad:∀k,(Value.slice x4 o.length c4).ownBlock=some k->w.heap.size<=k:=bR M;clear c H f A z;go_wp2_with (at_builtin;refine wpList_append_lies _ r_ _ _ 156 r_ w.heap.size 155 i0 _ 2 24 underlying156 hi ai ar ao rfl d_ _ _ _ r_ (M.alloc _) ⟨w6.heap.size,0,none⟩ 1 1 [.int .i64 t5.l_,.string (bs t5.x_)] r_ r_ (DC _ _ _) (JE _ _) d_ (by unfold maxLen;omega) o_ t_ (w6.heap.size+1) s_ ?_)
    intro g7 au w7 F j aw bi;have ax:=aB ((U.out.alloc _).grown (b_:=w.heap.size) j ad x av);have ba:=aB ((n.out.alloc _).grown j ad)
    have bb:Hid (PNl w.heap.size w7 (.slice (some ⟨g7,0,none⟩) (o.length+1) au) (o++[pnode t5])):=by
     refine⟨λa ha=>?_,?_⟩
     ·rcases G8.1 ha with h|h
      ·exact ah.out a h
      ·rw[G5.1 h];rfl
     ·rw[XU,F8];exact F
    clear M F j aw U n ad ah;go_wp2_with fail;go_roundg k
    case measure=>omega
    case rel=>exact⟨ba.out,i+1+1,_,ax.out,bd.out,t_,bb.out⟩
def wZ(F:Nat->Prop)(w:World)(v:Value)(f:aC):Prop:=
 ∃pv bv ps b,v=.agg #[.int .i64 f.l_,.string (bs f.x_),pv,bv]/\f.y_=ps++[b]/\PNm F w pv ps/\b.op=[98,108,111,99,107]/\PKid F w bv b.y_
def wZ.keep{G:Nat->Prop}{f:aC}(h:wZ F w v f)(a:∀b,F b->w'.heap[b]?=w.heap[b]?)(c:∀b,F b->G b):wZ G w' v f:=by
 obtain⟨m,i,d,b,j,e,l,g,k⟩:=h;exact⟨m,i,d,b,j,e,l.keep a c,g,k.keep a c⟩
def D5(lo:Nat)(w:World)(v:Value)(f:aC):Prop:=wZ (Btw lo w.heap.size) w v f
def WX(C:Ctx)(B:Nat->bH aC)(HB:BReads C 125 B)(w:World)(p:Nat)(h:PAt C w p)(r:bH aC)(hr:r=jT B C.ts p)(ah:r≠.error 0):
 Calls prog 81 #[.pointer (some ⟨C.pb,0,none⟩)] w (Out C w r (D5 w.heap.size)):=by
 obtain⟨rb,bf⟩:=E_ (w.heap.size);have z:=aB (eR C (w.alloc (.cells #[.int .i64 0,.string ⟨#[]⟩,.slice none 0 0,.slice none 0 0] 159)) p ⟨#[102,117,110,99]⟩ (h.alloc _));have ed:(⟨#[102,117,110,99]⟩:ByteArray).data.toList=[102,117,110,99]:=rfl;rw[ed] at z;have ac:Hid (Fr C.pb w (w.alloc (.cells #[.int .i64 0,.string ⟨#[]⟩,.slice none 0 0,.slice none 0 0] 159))):=(Fr.refl _ _).alloc _;have U:Hid ((w.alloc (.cells #[.int .i64 0,.string ⟨#[]⟩,.slice none 0 0,.slice none 0 0] 159)).heap[w.heap.size]?=some (.cells #[.int .i64 0,.string ⟨#[]⟩,.slice none 0 0,.slice none 0 0] 159 (0,0))):=aU _ _ rfl _;have be:=aB HB;have bj:=h.len;have bk:=h.pb_lt;have bt:=h.g_lt;have HR:=aB hr;have am:=aB ah;have J:w.heap.size≠C.pb:=o_
 clear h hr ah ed HB bf rb;cases x:aQ C.ts p [102,117,110,99]
 ·have S:Hid (r=.error (aN C.ts p).l_):=by show _=_;rw[HR.out];unfold jT;rw[x];rfl
  rw[x] at z;clear x HR;go_enter func81,ntmps81;go_wp2_with fail;refine z.out.mono ?_;rintro e w1 ⟨D,X⟩;obtain rfl:e=cH 4 (aN C.ts p).l_:=X;have G:=aB (ac.out.trans D);clear D;go_wp2_with fail;exact⟨rfl,Out.err S.out G.out⟩
 obtain⟨t,ht⟩:=E_ (aN C.ts (p+1))
 have P:Hid (r=if t.sort==110 then (if aQ C.ts (p+2) [40] then
       bE (gL C.ts (p+3)) λl q=>bL (λb=>aK [102,117,110,99] t.l_ t.x_ (l++[b])) (B q)
  else Hs.bad C.ts (p+2)) else Hs.bad C.ts (p+1)):=by show _=_;rw[HR.out];unfold jT;rw[x,ht];rfl
 have HT:=aB ht;rw[x] at z;clear x HR ht;go_enter func81,ntmps81;go_wp2_with fail;refine z.out.mono ?_;rintro e w1 ⟨D,X⟩;obtain⟨rfl,ao⟩:=X;have y:=aB (kF C w1 (p+1) ao);rw[<-HT.out] at y;have G:=aB (ac.out.trans D);have H:=aB (D.keepB U.out J);clear D ao z ac U;cases hs:(t.sort==110)
 ·have S:Hid (r=.error t.l_):=by show _=_;rw[P.out,hs];show Hs.bad _ _=_;unfold Hs.bad;rw[<-HT.out]
  rw[hs] at y;clear hs P;go_wp2_with fail;refine y.out.mono ?_;rintro e V ⟨s,af⟩;obtain rfl:e=cH 4 t.l_:=af;have L:=aB (G.out.trans s);clear s;go_wp2_with fail;exact⟨rfl,Out.err S.out L.out⟩
 obtain⟨rP,ab⟩:=E_ ((if aQ C.ts (p+1+1) [40] then gL C.ts (p+1+1+1) else Hs.bad C.ts (p+1+1)))
 have N:Hid (r=bE rP λl q=>bL (λb=>aK [102,117,110,99] t.l_ t.x_ (l++[b])) (B q)):=by
  show _=_
  rw[P.out,hs,ab,if_pos rfl];by_cases T:aQ C.ts (p+1+1) [40]=true
  ·rw[if_pos T,if_pos T]
  ·rw[if_neg T,if_neg T];rfl
 have al:=aB ab;have av:Hid (rP≠.error 0):=λe=>am.out (by rw[N.out,e];rfl)
 rw[hs] at y;clear hs P ab;go_wp2_with fail;refine y.out.mono ?_;rintro e V ⟨s,af⟩;obtain⟨rfl,ad⟩:=af;have L:=aB ((G.out.trans s).alloc (.cells #[.int .i64 t.l_,.string (bs t.x_)] 155));have c:=aB ((s.alloc (.cells #[.int .i64 t.l_,.string (bs t.x_)] 155)).keepB H.out J);have m:Hid ((V.alloc (.cells #[.int .i64 t.l_,.string (bs t.x_)] 155)).heap[V.heap.size]?=some (.cells #[.int .i64 t.l_,.string (bs t.x_)] 155 (0,0))):=aU _ _ rfl _;have aa:V.heap.size≠C.pb:=by have:=ad.pb_lt;omega
 have bp:w.heap.size<V.heap.size:=G3 (aD H.out) s.size;have ag:=aB (MM C (V.alloc (.cells #[.int .i64 t.l_,.string (bs t.x_)] 155)).drew (p+1+1) (ad.alloc _).drew rP al.out av.out);clear s ad y G H al;go_wp2_with fail;generalize hW:V.alloc (.cells #[.int .i64 t.l_,.string (bs t.x_)] 155)=W at*;have bo:W.heap.size=V.heap.size+1:=by rw[<-hW];simp
 clear hW;have c0:=aA m.out (i:=0) rfl;have c1:=aA m.out (i:=1) rfl;have bm:=aD m.out;cases rP with
 |error l=>
  have S:Hid (r=.error l):=N.out;have ba:=aA c.out (i:=0) rfl;have bc:=aA c.out (i:=1) rfl;have bg:=aA c.out (i:=2) rfl;have az:=aA c.out (i:=3) rfl;have ar:=aE (i:=0) c.out;have ay:=aE (i:=1) c.out;have bi:=aE (i:=2) c.out;have ax:=aE (i:=3) c.out;have ap:=aD c.out;go_region_law (first|(refine thrown (.slice none 0 0) ?_ ?_;(focus go_simp;go_at_call 124;refine ag.out.mono ?_;rintro e w3 ⟨o,rfl⟩;exact I8 rfl (Out.err S.out (L.out.drew.trans o)));intro g)|(refine thrown (.slice none 0 0) g.out.elim ?_;intro ak))
  all_goals exact g.out.elim
 |ok lq=>
  obtain⟨l,q⟩:=lq;obtain⟨rB,M⟩:=E_ (B q);have Q:Hid (r=bL (λb=>aK [102,117,110,99] t.l_ t.x_ (l++[b])) rB):=by show _=_;rw[N.out,M];rfl
  have an:B q≠.error 0:=λe=>am.out (by rw[Q.out,M,e];rfl)
  have Z:=aB (λW (hW:PAt C W q)=>be.out W q hW an)
  rw[<-M] at Z;clear M an N;cases rB with
  |error l2=>
   have S:Hid (r=.error l2):=Q.out;go_region_law (first|(go_simp;go_at_call 124;refine ag.out.mono ?_;rintro e w3 ⟨o,E,v3,rfl,A⟩;obtain⟨x3,c3,rfl⟩:=A.slice;have n:=aB ((Fr.refl C.pb W).drew.trans o);have Y:=aB E;have f:=aB (n.out.keepB m.out aa);have d0:=aA f.out (i:=0) rfl;have d1:=aA f.out (i:=1) rfl;have au:=aD f.out;have a:=aB (n.out.keepB c.out J);have ba:=aA a.out (i:=0) rfl;have bc:=aA a.out (i:=1) rfl;have bg:=aA a.out (i:=2) rfl;have az:=aA a.out (i:=3) rfl;have ar:=aE (i:=0) a.out;have ay:=aE (i:=1) a.out;have bi:=aE (i:=2) a.out;have ax:=aE (i:=3) a.out;have ap:=aD a.out;clear o E A)|(refine thrown (.slice none 0 0) ?_ ?_;(focus go_simp;go_at_call 125;refine(Z.out _ Y.out).mono ?_;rintro e w4 ⟨O,rfl⟩;exact I8 rfl (Out.err S.out ((L.out.trans n.out).trans O)));intro g))
   all_goals exact g.out.elim
  |ok bq=>
   obtain⟨b,q4⟩:=bq;have S:Hid (r=.ok (aK [102,117,110,99] t.l_ t.x_ (l++[b]),q4)):=Q.out;clear Q;go_region_law (first|(go_simp;go_at_call 124;refine ag.out.mono ?_;rintro e w3 ⟨o,E,v3,rfl,A⟩;obtain⟨x3,c3,rfl⟩:=A.slice;have n:=aB ((Fr.refl C.pb W).drew.trans o);have Y:=aB E;have bd:=aB A;have f:=aB (n.out.keepB m.out aa);have a:=aB (n.out.keepB c.out J);have d0:=aA f.out (i:=0) rfl;have d1:=aA f.out (i:=1) rfl;have au:=aD f.out;clear o E A)|(go_simp;go_at_call 125;refine(Z.out _ Y.out).mono ?_;rintro e w4 ⟨O,aj,v4,rfl,ae⟩;obtain⟨x4,n4,c4,rfl⟩:=ae.slice;have K:=aB O;have aw:=aB aj;have aq:=aB ae;have F:=aB (K.out.keepB f.out aa);have d:=aB (K.out.keepB a.out J);have e0:=aA F.out (i:=0) rfl;have e1:=aA F.out (i:=1) rfl;have br:=aD F.out;have z0:=aA d.out (i:=0) rfl;have z1:=aA d.out (i:=1) rfl;have z2:=aA d.out (i:=2) rfl;have z3:=aA d.out (i:=3) rfl;have y0:=aE (i:=0) d.out;have y1:=aE (i:=1) d.out;have y2:=aE (i:=2) d.out;have y3:=aE (i:=3) d.out;have bn:=aD d.out;clear O aj ae))
   all_goals go_wp2_with fail
   all_goals
    refine bodyPost_ret (v:=.agg #[.int .i64 t.l_,.string (bs t.x_),.slice x3 l.length c3,.slice x4 n4 c4]) (by simp[results,results81,go_sem,z0,z1,z2,z3]) rfl ?_
    have bl:=n.out.size;have bb:=K.out.size;have j:∀(W:World) (i:Nat) (u:Value),(W.setCell ⟨w.heap.size,i,none⟩ u).heap.size=W.heap.size:=λW i u=>by simp[World.setCell]
    have ai:∀k,w.heap.size<k->((((w4.setCell ⟨w.heap.size,0,none⟩ (.int .i64 t.l_)).setCell ⟨w.heap.size,1,none⟩ (.string (bs t.x_))).setCell ⟨w.heap.size,2,none⟩ (.slice x3 l.length c3)).setCell ⟨w.heap.size,3,none⟩ (.slice x4 n4 c4)).heap[k]?=w4.heap[k]?:=λk I=>by
     rw[G0 _ _ _ _ (by show k≠w.heap.size;omega),G0 _ _ _ _ (by show k≠w.heap.size;omega),G0 _ _ _ _ (by show k≠w.heap.size;omega),G0 _ _ _ _ (by show k≠w.heap.size;omega)]
    refine Out.ok S.out (((((L.out.trans (n.out.trans K.out)).setCell (F5 (F6 _)) _).setCell (F5 (F6 _)) _).setCell (F5 (F6 _)) _).setCell (F5 (F6 _)) _) ((((aw.out.other o_ o_).other o_ o_).other o_ o_).other o_ o_) ⟨_,_,l,b,rfl,rfl,?_,aq.out.1,?_⟩
    ·refine PNm.keep bd.out (λk I=>?_) λk I=>⟨?_,?_⟩
     ·have h1:=I.1;have bh:W.heap.size<=k:=h1;rw[ai k o_,K.out.block k I.2 o_]
     ·have bh:W.heap.size<=k:=I.1;omega
     ·rw[j,j,j,j];exact G3 I.2 bb
    ·refine PKid.keep aq.out.2 (λk I=>ai k (by have:=I.1;omega)) λk I=>⟨?_,?_⟩
     ·have:=I.1;omega
     ·rw[j,j,j,j];exact I.2
def WU:(prog.info? 159).map (λi=>(i.zero,i.size,i.bytes))=some (some (.agg #[.int .i64 0,.string (bs []),.slice none 0 0,.slice none 0 0]),4,72):=k_
def uV:Value->List Value
 |.agg a=>a.toList
 |v=>[v]
def gW:List Value->List Value
 |[]=>[]
 |v::l=>uV v++gW l
def NV(l:List Value)(v:Value):gW (l++[v])=gW l++uV v:=by
 induction l with
 |nil=>simp[gW]
 |cons x l a=>simp[gW,a]
def FSl(F:Nat->Prop)(w:World)(v:Value)(fs:List aC):Prop:=
 (v=.slice none 0 0/\fs=[])\/
 ∃g cap cur us,v=.slice (some ⟨g,0,none⟩) fs.length cap/\F g/\w.heap[g]?=some (.cells cur 159 (0,0))/\fs.length<=cap/\cur.toList.take (fs.length*4)=gW us/\fB (wZ F w) us fs
def PFl(b_:Nat)(w:World)(v:Value)(acc:List aC):Prop:=
 ∃us F,w.ownsRow b_ 159 4 v acc.length (gW us)/\fB (wZ F w) us acc/\∀b,F b->b_<=b/\b<w.heap.size/\v.ownBlock≠some b
def PFl.nil(b_:Nat)(w:World):PFl b_ w (.slice none 0 0) []:=⟨[],λ_=>False,World.ownsRow_nil _ _ _ _,trivial,λ_ h=>h.elim⟩
def PFl.slice(h:PFl b_ w v acc):∃x c,v=.slice x acc.length c:=by
 obtain⟨i,F,f,_⟩:=h;rcases f.2 with ⟨a,d⟩|⟨g,b,e,a,_⟩
 ·exact⟨none,0,by rw[a,d]⟩
 ·exact⟨_,b,a⟩
def PFl.keep{pb:Nat}{w1:World}(h:PFl b_ w v acc)(c:Fr pb w w1)(j:pb<b_):PFl b_ w1 v acc:=by
 obtain⟨g,F,d,i,e⟩:=h;refine⟨g,F,bB d λk f=>?_,i.mono λ_ _ h=>h.keep (λb a=>?_) (λ_ h=>h),λb a=>?_⟩
 ·have:=bR d k f;exact c.block k (cK d k f) o_
 ·have:=e b a;have:=c.size;exact⟨o_,o_,(e b a).2.2⟩
 ·have:=e b a;exact c.block b this.2.1 o_
def PFl.snoc{s o:World}{p:Value}{g m:Nat}{r:List Value}(u:fB (wZ F w) r acc)(A:∀b,F b->b_<=b/\b<w.heap.size/\v.ownBlock≠some b)
 (z:wZ (Btw lo w.heap.size) w p a) (B:b_<=lo) (n:∀k,v.ownBlock=some k->k<lo) (q:∀k,k<w.heap.size->s.heap[k]?=w.heap[k]?) (y:w.heap.size<=s.heap.size)
 (l:o.ownsRow b_ 159 4 (.slice (some ⟨g,0,none⟩) (acc.length+1) m) (acc.length+1) (gW r++uV p))
 (i:s.grownBy o v.ownBlock) (j:v.ownBlock=some g\/w.heap.size<=g):PFl b_ o (.slice (some ⟨g,0,none⟩) (acc.length+1) m) (acc++[a]):=by
 have t:∀b,(F b\/Btw lo w.heap.size b)->b_<=b/\b<w.heap.size/\v.ownBlock≠some b:=by
  rintro b (c|c)
  ·exact A b c
  ·exact⟨by have:=c.1;omega,c.2,λe=>by have:=n b e;have:=c.1;omega⟩
 have d:∀b,(F b\/Btw lo w.heap.size b)->o.heap[b]?=w.heap[b]?:=λb c=>by
  have f:=t b c;rw[i.block b o_ (λe=>f.2.2 e.symm),q b f.2.1]
 refine⟨r++[p],λb=>F b\/Btw lo w.heap.size b,?_,?_,?_⟩
 ·rw[F8,NV];exact l
 ·exact fB.snoc (u.mono λ_ _ h=>h.keep (λb c=>d b (F7 c)) (λ_=>F7)) (z.keep (λb c=>d b (F5 c)) (λ_=>F5))
 ·intro b c;have f:=t b c;have:=i.size;refine⟨f.1,o_,λe=>?_⟩
  have x:g=b:=Option.some.inj e;rcases j with j|j
  ·exact f.2.2 (by rw[j,x])
  ·omega
def PFl.fsl(h:PFl b_ w v acc):FSl (Btw b_ w.heap.size) w v acc:=by
 obtain⟨o,F,n,k,j⟩:=h;rcases n.2 with ⟨a,e⟩|⟨g,c,d,a,e,f,l,q,p,m⟩
 ·exact F7 ⟨a,I4 e⟩
 ·exact F5 ⟨g,c,d,o,a,⟨e,aD f⟩,f,l,m,k.mono λ_ _ h=>h.keep (λ_ _=>rfl) λb i=>⟨(j b i).1,(j b i).2.1⟩⟩
def RZ(a c d:Int)(b:ByteArray)(w:World):(Instr.field 150 (.agg #[.int .i64 a,.string b,.int .i64 c,.int .i64 d]) 0).run prog w=.ok (.int .i64 a) w:=k_
def CV(h:mT t):(psort t.sort=4↔t.sort=101):=by
 unfold psort;rcases h with h|⟨h,_⟩|h|⟨h,_⟩|h|h<;>simp[h]
def SL(w:World)(a b c d:Value):∀j u,([a,b,c,d]:List Value)[j]?=some u->(w.alloc (.cells #[a,b,c,d] 159)).cell? ((⟨w.heap.size,0,none⟩:Addr).add j)=some u:=by
 intro j u e;match j,e with
 |0,e=>simp at e;subst e;simp[Addr.add,go_sem]
 |1,e=>simp at e;subst e;simp[Addr.add,go_sem]
 |2,e=>simp at e;subst e;simp[Addr.add,go_sem]
 |3,e=>simp at e;subst e;simp[Addr.add,go_sem]
 |j+4,e=>simp at e
def VZ(l:Int)(b:ByteArray)(x y:Option Addr)(n m c d:Nat):∀u∈([.int .i64 l,.string b,.slice x n c,.slice y m d]:List Value),u.oneCell'=true:=by
 intro u a;simp at a;rcases a with rfl|rfl|rfl|rfl<;>rfl
def XR(C:Ctx)(X:Nat->bH aC)(w:World)(r:bH (List aC))(k:Nat)(v:Value)(wr:World):Prop:=
 Fr C.pb w wr/\∃q acc,PAt C wr q/\r=eL X C.ts k q acc/\acc.length+k<=4000/\PFl w.heap.size wr v acc
def A5(lo:Nat)(w':World)(v:Value)(l:List aC):Prop:=FSl (Btw lo w'.heap.size) w' v l
def RU(C:Ctx)(X:Nat->bH aC)(HX:∀w p,PAt C w p->X p≠.error 0->Calls prog 81 #[.pointer (some ⟨C.pb,0,none⟩)] w (Out C w (X p) (D5 w.heap.size)))(w:World)(p:Nat)(h:PAt C w p)(r:bH (List aC))(hr:r=eL X C.ts (C.ts.length+1) p [])(Q:r≠.error 0):
 Calls prog 43 #[.pointer (some ⟨C.pb,0,none⟩)] w (Out C w r (A5 w.heap.size)):=by
 obtain⟨i0,hi,ak,aq,an⟩:=info_parts WU;have av:=h.len;have n:=h.pb_lt;have au:=h.g_lt;have HI:Hid (XR C X w r (C.ts.length+1) (.slice none 0 0) w):=⟨Fr.refl _ _,p,[],h,hr,t_,PFl.nil _ _⟩
 have ac:=aB Q;have ap:=aB HX;have bc:=RZ;clear h hr Q HX;go_enter func43,ntmps43;go_wp2_with fail;go_loopg [3] (C.ts.length+1) (λk v wr=>XR C X w r k v wr)
 case atStart=>exact HI.out
 case round=>
  obtain⟨G,E,d,f,y,az,L⟩:=hrel;obtain⟨x4,c4,rfl⟩:=L.slice;have u:=aB (jE C wr E f);simp only[lN] at u;have ad:=CV (f.tsk.tk E f.lt);have I:=aB G;have H:=aB L;have U:=aB f;have be:=G.size
  obtain⟨k,rfl⟩:∃k,gk=k+1:=by
   cases gk with
   |zero=>exact absurd y ac.out
   |succ k=>exact⟨k,rfl⟩
  rw[eL] at y;clear G f L HI;have o:=aB y;have A:=aB ad;clear y ad;generalize aN C.ts E=t at*;generalize psort t.sort=ps at*;generalize pval t=pv at*;by_cases P:t.sort=101
  ·have HL:Hid (r=.ok (d,E)):=by show _=_;rw[o.out,P];rfl
   obtain rfl:ps=4:=A.out.2 P;clear P o A;go_wp2_with fail;refine u.out.mono ?_;rintro e w5 ⟨rfl,b⟩;have N:=aB b;clear b;go_wp2_with fail;go_ret;exact Out.ok HL.out (I.out.trans (Fr.below N.out)) (U.out.below N.out) (H.out.keep (Fr.below N.out) n).fsl
  ·have bd:((ps:Int) != 4)=true:=by simp;intro e;exact P (A.out.1 o_)
   obtain⟨rE,s⟩:=E_ (X E)
   have z:Hid (r=bE rE λi q=>eL X C.ts k q (d++[i])):=by
    show _=_
    rw[o.out,if_neg (by simpa using P),s]
    cases X E<;>rfl
   have T:X E≠.error 0:=λe=>ac.out (by rw[z.out,s,e];rfl)
   have ar:=aB s;clear P o A s;go_wp2_with fail;refine u.out.mono ?_;rintro e w5 ⟨rfl,b⟩;have HY:=aB (ap.out w5 E (U.out.below b) T);simp only[<-ar.out] at HY;have K:=aB (I.out.trans (Fr.below b));have J:=aB (H.out.keep (Fr.below b) n);have bb:=b.size;clear b u H T I;cases rE with
   |error l=>
    have HL:Hid (r=.error l):=z.out;go_wp2_with fail;refine HY.out.mono ?_;rintro e w6 ⟨c,rfl⟩;have x:=aB (K.out.trans c);clear c;go_wp2_with fail;exact⟨rfl,Out.err HL.out x.out⟩
   |ok ao=>
    obtain⟨a6,q6⟩:=ao;have ah:Hid (r=eL X C.ts k q6 (d++[a6])):=z.out;clear z;go_wp2_with fail;refine HY.out.mono ?_;rintro e w6 ⟨c,Z,v6,rfl,ab⟩;have W:=aB ab;obtain⟨bf,ba,aj,b6,ai, -,af, -,aa⟩:=ab;obtain⟨x7,c7,rfl⟩:=af.slice;obtain⟨x8,c8,rfl⟩:=aa.slice;subst ai;obtain⟨us,F,m,D,Y⟩:=J.out.keep c n
    have ae:∀g,(Value.slice x4 d.length c4).ownBlock=some g->g<w5.heap.size:=by
     obtain⟨ay,F',O,_⟩:=J.out;exact cK O
    have S:=aB ae;have x:=aB (K.out.trans c);have V:=aB Z;have HALL:=aB (I8 D Y);have ax:=c.size;have M:∀k,(Value.slice x4 d.length c4).ownBlock=some k->w.heap.size<=k:=bR m;clear Z c af aa HY J K D Y ae;go_wp2_with (at_builtin;refine wpList_append_lies _ r_ _ _ 59 r_ w.heap.size 159 i0 _ 4 72 underlying59 hi ak aq an rfl d_ _ _ _ r_ (m.alloc _) ⟨w6.heap.size,0,none⟩ 1 1 [.int .i64 a6.l_,.string (bs a6.x_),.slice x7 aj.length c7,.slice x8 b6.y_.length c8] r_ r_ (SL _ _ _ _ _) (VZ _ _ _ _ _ _ _ _) d_ (by unfold maxLen;omega) o_ t_ (w6.heap.size+1) s_ ?_)
    intro g7 aw w9 j a B bg;have al:=aB (PFl.snoc (lo:=w5.heap.size) HALL.out.1 HALL.out.2 W.out o_ S.out (λk hk=>G7 _ _ _ hk) s_ j a (B.imp_right (λe=>by omega)))
    have ag:=aB ((V.out.alloc _).grown (b_:=w.heap.size) a M n au);have am:=aB ((x.out.alloc _).grown a M);clear m j a B W V x HALL S M;go_wp2_with fail;go_roundg k
    case measure=>omega
    case rel=>exact⟨am.out,q6,d++[a6],ag.out,ah.out,t_,by simpa using al.out⟩
def IT(C:Ctx)(w:World)(h:PAt C w 0)(a:jS C.ts≠.error 0):
 Calls prog 43 #[.pointer (some ⟨C.pb,0,none⟩)] w (Out C w (jS C.ts) (A5 w.heap.size)):=
 RU C _ (λw p h b=>WX C _ (ED C (C.ts.length+1) (C.ts.length+1)) w p h _ rfl b) w 0 h _ rfl a
def pM(l:Nat)(w:World):
 Calls prog 126 #[.agg #[.int .i64 l]] w λe a=>e=.returned (.int .i64 l)/\Below w.heap.size w a:=by
 go_enter func126,ntmps126;go_wp2_with fail;go_ret;exact⟨rfl,(F9 _ _).alloc (F6 _) _⟩
def Says(n:Int)(l:List (List UInt8))(x:List UInt8):Prop:=decide (0<=n)=l.contains x
def NR(l:List (List UInt8))(x:List UInt8)(g f:Nat)(w:World)(A:l.length<=100000)(_hlc:l.length<=f)(r:∀i (h:i<l.length),w.cell? ⟨g,i,none⟩=some (.string (bs l[i]))):
 Calls prog 223 #[.slice (some ⟨g,0,none⟩) l.length f,.string (bs x)] w λe s=>(∃n:Int,e=.returned (.int .i64 n)/\Says n l x)/\s=w:=by
 have B:(bs x).toList=x:=bT x;have t:=aB r;clear r;go_enter func223,ntmps223;go_wp2_with fail;go_loop [5,8] (λ_ i=>∃k:Nat,k<=l.length/\i=.int .i64 k/\Hid (∀y∈l.take k,y≠x)) (λ_ i=>l.length-(intOf i).toNat)
 case atStart=>exact⟨0,K5 _,rfl,λy j=>by simp at j⟩
 case round=>
  obtain⟨k,v,rfl,m⟩:=hrel;by_cases b:k<l.length
  ·have p:=t.out k b;have a:l[k]∈l:=H9 b
   have q:Hid (∀y∈l.take (k+1),y∈l.take k\/y=l[k]):=λy j=>by
    rw[H8 b] at j;rcases G8.1 j with h|h
    ·exact F7 h
    ·exact F5 (G5.1 h)
   have o:=aB a;clear a;generalize l[k]=y at*;have j:(bs y).toList=y:=bT y;cases c:(x==y)
   ·have d:Hid (∀z∈l.take (k+1),z≠x):=λz u=>by
     rcases q.out z u with h|h
     ·exact m.out z h
     ·rw[h];intro e;rw[e] at c;simp at c
    clear m q o;go_wp2_with fail;go_round
    case rel=>exact⟨k+1,o_,by go_num,d⟩
    case measure=>simp[intOf];omega
   ·have d:Hid (l.contains x=true):=by
     show _=_
     have e:x=y:=by simpa using c
     rw[e];simpa using o.out
    clear m q o;go_wp2_with fail;go_ret;exact⟨⟨k,rfl,by unfold Says;rw[d.out];simp⟩,rfl⟩
  ·have d:Hid (l.contains x=false):=by
    show _=_
    rw[Bool.eq_false_iff];intro h;have:=m.out x (by rw[J5 o_];simpa using h)
    exact this rfl
   clear m;go_wp2_with fail;go_ret;exact⟨⟨-1,rfl,by unfold Says;rw[d.out];decide⟩,rfl⟩
def NS(x:List UInt8)(w:World):
 Calls prog 223 #[.slice none 0 0,.string (bs x)] w λe a=>(∃n:Int,e=.returned (.int .i64 n)/\Says n [] x)/\a=w:=by
 go_enter func223,ntmps223;go_wp2_with fail;go_loop [5,8] (λ_ i=>i=.int .i64 0) (λ_ _=>0)
 case atStart=>rfl
 case round=>
  subst hrel;go_wp2_with fail;go_ret;exact⟨⟨-1,rfl,rfl⟩,rfl⟩
def tJ(l:List (List UInt8))(x:List UInt8)(v:Value)(b_:Nat)(w:World)(q:l.length<=100000)(a:w.ownsRow b_ 9 1 v l.length (fQ l)):
 Calls prog 182 #[v,.string (bs x)] w λe b=>e=.returned (.bool (l.contains x))/\b=w:=by
 have d:Hid (Calls prog 223 #[v,.string (bs x)] w λe b=>(∃n:Int,e=.returned (.int .i64 n)/\Says n l x)/\b=w):=by
  rcases a.2 with ⟨rfl,j⟩|⟨g,c,o,rfl,y,s,k,z,A,m⟩
  ·obtain rfl:l=[]:=I4 j;exact NS x w
  ·refine NR l x g c w q k λi t=>aA s ?_
   have e:(fQ l)[i]?=some (.string (bs l[i])):=by simp[fQ,t]
   rw[<-m,I9,if_pos o_] at e
   simpa using e
 clear a;go_enter func182,ntmps182;go_wp2_with fail;refine d.out.mono ?_;rintro e u ⟨⟨n,rfl,f⟩,p⟩;obtain rfl:=p.symm;clear d;have r:=aB f;clear f;go_wp2_with fail;go_ret;exact⟨gJ r.out,rfl⟩
def iR(fs:List aC)(x:List UInt8):Option Nat:=
 if x==[108,101,110] then some 1 else if x==[114,101,97,100] then some 0 else (dL fs x).map λf=>f.y_.length-1
def DU:∀{a:List Value} {fs:List aC} (k:Nat) (d:k<fs.length),fB (wZ F w) a fs->
 ∃c g i b,(gW a)[k*4]?=some (.int .i64 fs[k].l_)/\(gW a)[k*4+1]?=some (.string (bs fs[k].x_))/\(gW a)[k*4+1+1]?=some c/\(gW a)[k*4+1+1+1]?=some g/\fs[k].y_=i++[b]/\PNm F w c i/\b.op=[98,108,111,99,107]/\PKid F w g b.y_
 |[],[],k,d,_=>absurd d (Nat.not_lt_zero _)
 |_::a,f::fs,0,_,⟨⟨c,g,i,b,o,q,v,s,t⟩,_⟩=>by
  subst o;exact⟨c,g,i,b,rfl,rfl,rfl,rfl,q,v,s,t⟩
 |_::a,f::fs,k+1,d,⟨⟨c,g,i,b,o,_⟩,h⟩=>by
  subst o;obtain⟨l,m,n,r,x,u,y,z,p⟩:=DU k (by simpa using d) h
  have e:∀j,(gW (Value.agg #[.int .i64 f.l_,.string (bs f.x_),c,g]::a))[(k+1)*4+j]?=(gW a)[k*4+j]?:=λj=>by
   rw[gW,I3 (by simp[uV];omega)]
   congr 1;simp[uV];omega
  exact⟨l,m,n,r,(e 0).trans x,(e 1).trans u,(e 2).trans y,(e 3).trans z,p⟩
 |[],_::_,_,_,h=>h.elim
 |_::_,[],_,d,_=>absurd d (Nat.not_lt_zero _)
def KY(F:Nat->Prop)(w:World)(g:Nat)(fs:List aC):Prop:=
 ∀k (hk:k<fs.length),∃pv bv ps b,w.cell? ⟨g,k*4,none⟩=some (.int .i64 fs[k].l_)/\w.cell? ⟨g,k*4+1,none⟩=some (.string (bs fs[k].x_))/\w.cell? ⟨g,k*4+1+1,none⟩=some pv/\w.cell? ⟨g,k*4+1+1+1,none⟩=some bv/\fs[k].y_=ps++[b]/\PNm F w pv ps/\b.op=[98,108,111,99,107]/\PKid F w bv b.y_
def FSl.cells(h:FSl F w v fs):(v=.slice none 0 0/\fs=[])\/∃g a,v=.slice (some ⟨g,0,none⟩) fs.length a/\F g/\g<w.heap.size/\fs.length<=a/\KY F w g fs:=by
 rcases h with h|⟨g,a,s,x,p,i,d,o,q,t⟩
 ·exact F7 h
 ·refine F5 ⟨g,a,p,i,aD d,o,λk m=>?_⟩
  obtain⟨l,C,n,b,y,r,z,B,f⟩:=DU k m t
  have e:∀j u,j<fs.length*4->(gW x)[j]?=some u->w.cell? ⟨g,j,none⟩=some u:=λj u A c=>by
   refine aA d ?_;rw[<-q,I9,if_pos A] at c;simpa using c
  exact⟨l,C,n,b,e _ _ o_ y,e _ _ o_ r,e _ _ o_ z,e _ _ o_ B,f⟩
def ZC{x:List UInt8}(e:k<fs.length)(c:∀f∈fs.take k,f.x_≠x)(b:fs[k].x_=x):dL fs x=some fs[k]:=by
 unfold dL;have a:fs=fs.take k++fs[k]::fs.drop (k+1):=by rw[L9,L0]
 generalize g:fs[k]=f at*;rw[a,List.find?_append,M9.2 (by intro z d;simpa using c z d)]
 simp[b]
def XA{x:List UInt8}(a:∀f∈fs,f.x_≠x):dL fs x=none:=by
 unfold dL;exact M9.2 (by intro z b;simpa using a z b)
def SB(fs:List aC)(F:Nat->Prop)(x:List UInt8)(g t:Nat)(w:World)(hl:fs.length<=100000)(D:∀f∈fs,f.y_.length<=90000)(_hlc:fs.length<=t)(J:g<w.heap.size)(P:KY F w g fs)(G:(x==[108,101,110])=false)(E:(x==[114,101,97,100])=false):
 Calls prog 82 #[.slice (some ⟨g,0,none⟩) fs.length t,.string (bs x)] w λe S=>e=.returned (.tuple #[.int .i64 ((iR fs x).getD 0:Nat),.bool (iR fs x).isSome])/\Below w.heap.size w S:=by
 have hx:(bs x).toList=x:=bT x;have V:=aB P;have H:=aB D;have Q:Hid (iR fs x=(dL fs x).map λf=>f.y_.length-1):=by show _=_;unfold iR;rw[G,E];rfl
 clear P D;go_enter func82,ntmps82;go_wp2_with fail;go_loopg [7,15] fs.length (λgk _ i wr=>∃k:Nat,k+gk=fs.length/\i=.int .i64 k/\Below w.heap.size w wr/\Hid (∀f∈fs.take k,f.x_≠x))
 case atStart=>exact⟨0,o_,rfl,F9 _ _,λy A=>by simp at A⟩
 case round=>
  obtain⟨k,hk,rfl,n,r⟩:=hrel;have Y:g<wr.heap.size:=G3 J n.size;by_cases c:k<fs.length
  ·obtain⟨j,rfl⟩:∃j,gk=j+1:=⟨gk-1,o_⟩
   obtain⟨pv,bv,K,b,O,L,M,N,a,C,U,B⟩:=V.out k c;obtain⟨px,pc,rfl⟩:=C.slice;obtain⟨bx,bc,rfl⟩:=B.slice;have d:∀o u,w.cell? ⟨g,o,none⟩=some u->wr.cell? ⟨g,o,none⟩=some u:=λo u h=>(n.cell (p:=⟨g,o,none⟩) J).trans h
   have d0:=d _ _ O;have d1:=d _ _ L;have d2:=d _ _ M;have d3:=d _ _ N;have l:fs[k]∈fs:=H9 c
   have I:Hid (∀y∈fs.take (k+1),y∈fs.take k\/y=fs[k]):=λy A=>by
    rw[H8 c] at A;rcases G8.1 A with h|h
    ·exact F7 h
    ·exact F5 (G5.1 h)
   have m:Hid (fs[k].x_=x->dL fs x=some fs[k]):=λe=>ZC c r.out e
   have T:K.length+1=fs[k].y_.length:=by rw[a];simp
   have Z:=H.out _ l;have q:=aB n;clear O L M N C B d a l n;generalize fs[k]=f at*;have A:(bs f.x_).toList=f.x_:=bT _;cases v:(f.x_==x)
   ·have s:Hid (∀z∈fs.take (k+1),z.x_≠x):=λz W=>by
     rcases I.out z W with h|h
     ·exact r.out z h
     ·rw[h];simpa using v
    clear r I m;go_wp2_with fail;go_roundg j
    case measure=>omega
    case rel=>exact⟨k+1,o_,by go_num,q.out.alloc q.out.size _,s⟩
   ·have s:Hid (iR fs x=some K.length):=by
     show _=_
     rw[Q.out,m.out (by simpa using v)]
     simp;omega
    clear r I m;go_wp2_with fail;go_ret2
    rw[s.out];exact⟨rfl,q.out.alloc q.out.size _⟩
  ·have s:Hid (iR fs x=none):=by
    show _=_
    rw[Q.out,XA (λf X=>r.out f (by rw[J5 o_];exact X))]
    rfl
   have q:=aB n;clear r n;go_wp2_with fail;go_ret2
   rw[s.out];exact⟨rfl,q.out⟩
def SD(x:List UInt8)(w:World)(b:(x==[108,101,110])=false)(a:(x==[114,101,97,100])=false):
 Calls prog 82 #[.slice none 0 0,.string (bs x)] w λe c=>e=.returned (.tuple #[.int .i64 ((iR [] x).getD 0:Nat),.bool (iR [] x).isSome])/\Below w.heap.size w c:=by
 have f:(bs x).toList=x:=bT x;have d:Hid (iR [] x=none):=by show _=_;unfold iR;rw[b,a];rfl
 go_enter func82,ntmps82;go_wp2_with fail;go_loop [7,15] (λ_ i=>i=.int .i64 0) (λ_ _=>0)
 case atStart=>rfl
 case round=>
  subst hrel;go_wp2_with fail;go_ret2
  rw[d.out];exact⟨rfl,F9 _ _⟩
def yZ(v:Value)(x:List UInt8)(w:World)(n:Nat)(fs:List aC)(c:(x=[108,101,110]/\n=1)\/(x=[114,101,97,100]/\n=0)):
 Calls prog 82 #[v,.string (bs x)] w λe b=>e=.returned (.tuple #[.int .i64 ((iR fs x).getD 0:Nat),.bool (iR fs x).isSome])/\Below w.heap.size w b:=by
 rcases c with ⟨rfl,rfl⟩|⟨rfl,rfl⟩
 ·have a:Hid (iR fs [108,101,110]=some 1):=rfl;simp only[bs];go_enter func82,ntmps82;go_wp2_with fail;go_ret2
  rw[a.out];exact⟨rfl,F9 _ _⟩
 ·have a:Hid (iR fs [114,101,97,100]=some 0):=rfl;simp only[bs];go_enter func82,ntmps82;go_wp2_with fail;go_ret2
  rw[a.out];exact⟨rfl,F9 _ _⟩
def zA(fs:List aC)(F:Nat->Prop)(v:Value)(x:List UInt8)(w:World)(l:fs.length<=100000)(i:∀f∈fs,f.y_.length<=90000)(h:FSl F w v fs):
 Calls prog 82 #[v,.string (bs x)] w λe j=>e=.returned (.tuple #[.int .i64 ((iR fs x).getD 0:Nat),.bool (iR fs x).isSome])/\Below w.heap.size w j:=by
 by_cases c:x=[108,101,110]
 ·exact yZ v x w 1 fs (F7 ⟨c,rfl⟩)
 by_cases b:x=[114,101,97,100]
 ·exact yZ v x w 0 fs (F5 ⟨b,rfl⟩)
 rcases h.cells with ⟨rfl,rfl⟩|⟨g,d,rfl,n,k,a,m⟩
 ·exact SD x w (by simpa using c) (by simpa using b)
 ·exact SB fs F x g d w l i a k m (by simpa using c) (by simpa using b)
abbrev FV(pv:Value):Value:=.func (.func 82) #[pv] #[]
def FVl(F:Nat->Prop)(w:World)(fv:Value)(fs:List aC):Prop:=∃pv,fv=FV pv/\FSl F w pv fs
structure CK(cb lo:Nat)(fs:List aC)(fv:Value)(w:World)(e_:List (List UInt8)):Prop where
 blk:∃sv,w.heap[cb]?=some (.cells #[fv,sv] 165 (0,0))/\w.ownsRow (cb+1) 9 1 sv e_.length (fQ e_)
 fun_:FVl (Btw lo cb) w fv fs
def FSl.keep(h:FSl F w v fs)(d:∀b,F b->w'.heap[b]?=w.heap[b]?):FSl F w' v fs:=by
 rcases h with h|⟨g,c,a,i,k,e,m,j,l,f⟩
 ·exact F7 h
 ·exact F5 ⟨g,c,a,i,k,e,by rw[d g e];exact m,j,l,f.mono λ_ _ h=>h.keep d λ_ h=>h⟩
def FVl.keep(h:FVl F w v fs)(a:∀b,F b->w'.heap[b]?=w.heap[b]?):FVl F w' v fs:=by
 obtain⟨e,d,c⟩:=h;exact⟨e,d,c.keep a⟩
def CK.lt{b:Value}{e_:List (List UInt8)}(h:CK cb lo fs b w e_):cb<w.heap.size:=by
 obtain⟨_,a,_⟩:=h.blk;exact aD a
def CK.grow{f:Value}{e_:List (List UInt8)}(h:CK cb lo fs f w e_)(c:Below w.heap.size w w'):CK cb lo fs f w' e_:=by
 obtain⟨g,e,d⟩:=h.blk;have b:=aD e;exact⟨⟨g,by rw[c.block _ b];exact e,bB d λk a=>c.block k (cK d k a)⟩,h.fun_.keep λk a=>c.block k (by have:=a.2;omega)⟩
def gP{b:Nat}{a v1:Value}(h:w.heap[b]?=some (.cells #[a,v1] 165 (0,0))):
 b<w.heap.size/\w.cell? ⟨b,0,none⟩=some a/\w.cell? ⟨b,1,none⟩=some v1/\w.frozen? ⟨b,1,none⟩=false:=
 ⟨aD h,aA h rfl,aA h rfl,aE h⟩
def jR(cb:Nat)(w:World):Option Nat:=
 match w.heap[cb]? with
 |some (.cells cs _ _)=>(cs[1]?.getD undef).ownBlock
 |_=>none
def mS(h:w'.heap[cb]?=w.heap[cb]?):jR cb w'=jR cb w:=by unfold jR;rw[h]
def kT{a v1:Value}(h:w.heap[cb]?=some (.cells #[a,v1] 165 (0,0))):jR cb w=v1.ownBlock:=by unfold jR;rw[h];rfl
structure FB(cb:Nat)(w w':World):Prop where
 bel:Below cb w w'
 blk:∀k,k<w.heap.size->k≠cb->jR cb w≠some k->w'.heap[k]?=w.heap[k]?
 row:∀k,jR cb w'=some k->jR cb w=some k\/w.heap.size<=k
def FB.trans{a b c:World}(h:FB cb a b)(k:FB cb b c):FB cb a c:=by
 refine⟨h.bel.trans k.bel,λi d g f=>?_,λi d=>?_⟩
 ·have j:=h.bel.size;rw[k.blk i o_ g (λe=>?_),h.blk i d g f]
  rcases h.row i e with e|e
  ·exact f e
  ·omega
 ·have j:=h.bel.size;rcases k.row i d with e|e
  ·exact h.row i e
  ·exact F5 o_
def FB.of_below(h:Below w.heap.size w w')(b:cb<w.heap.size):FB cb w w':=
 ⟨h.mono o_,λk a _ _=>h.block k a,λk a=>F7 (by rw[<-mS (h.block cb b)];exact a)⟩
def FB.refl(w:World):FB cb w w:=⟨F9 _ _,λ_ _ _ _=>rfl,λ_ h=>F7 h⟩
def cL(cb lo:Nat)(fs:List aC)(fv:Value)(w:World)(c:aW)(e:Ending)(w':World):Prop:=
 FB cb w w'/\((∃s,c=⟨s,0,0⟩/\e=.returned (.tuple #[])/\CK cb lo fs fv w' s)\/(c.kind≠0/\e=cH c.kind c.l_))
def Stk(a b:aW):Prop:=a.kind≠0->b.kind=a.kind/\b.l_=a.l_
def Stk.refl(a:aW):Stk a a:=λ_=>⟨rfl,rfl⟩
def Stk.trans{a b:aW}(h:Stk a b)(k:Stk b c):Stk a c:=λd=>by
 obtain⟨e,i⟩:=h d;obtain⟨f,g⟩:=k (by rw[e];exact d)
 exact⟨f.trans e,g.trans i⟩
def Stk.found(s:aW)(l k:Nat):Stk s (s.found l k):=λh=>by unfold aW.found;rw[if_neg h];exact⟨rfl,rfl⟩
def Stk.declares(s:aW)(n:aC):Stk s (Hs.declaresL s n):=by
 unfold Hs.declaresL;split
 ·exact Stk.found _ _ _
 ·exact Stk.refl _
def Stk.look(fs:List aC)(a_:Bool)(s:aW)(n:aC):Stk s (eH fs a_ s n):=by
 unfold eH eC;repeat' split
 all_goals first|exact Stk.found _ _ _|exact Stk.refl _
def Stk.fold{f:aW->aC->aW}(h:∀s k,Stk s (f s k)):∀(l:List aC) (s:aW),Stk s (l.foldl f s)
 |[],s=>Stk.refl s
 |k::l,s=>(h s k).trans (Stk.fold h l (f s k))
def Stk.e_(s:aW)(x:List (List UInt8)):Stk s { s with e_:=x }:=λ_=>⟨rfl,rfl⟩
def Stk.walk(fs:List aC)(a_:Bool):∀(d:Nat) (n:aC) (s:aW),Stk s (aV fs a_ d n s)
 |0,_,s=>Stk.refl s
 |d+1,n,s=>by
  rw[aV];split
  ·split
   ·exact((Stk.declares s _).trans (Stk.walk fs a_ d _ _)).trans (Stk.e_ _ _)
   ·exact Stk.refl s
  ·have h:Stk s (n.y_.foldl (λs k=>aV fs a_ d k s) (eH fs a_ s n)):=(Stk.look fs a_ s n).trans (Stk.fold (λs k=>Stk.walk fs a_ d k s) _ _)
   simp only;split
   ·exact h.trans (Stk.e_ _ _)
   ·exact h
def cL.fault{g:Value}{c1:aW}(f:FB cb w w')(a:c1.kind≠0)(e:Stk c1 c):cL cb lo fs g w c (cH c1.kind c1.l_) w':=by
 obtain⟨b,d⟩:=e a;exact⟨f,F5 ⟨by rw[b];exact a,by rw[b,d]⟩⟩
def cL.done{a:Value}{s:List (List UInt8)}(d:FB cb w w')(e:c=⟨s,0,0⟩)(b:CK cb lo fs a w' s):cL cb lo fs a w c (.returned (.tuple #[])) w':=⟨d,F7 ⟨s,e,rfl,b⟩⟩
def mX{B:Nat}{a:World}(h:Below B a w)(n:Nat):Below B a (w.drewN n):=⟨h.os,h.tape,h.output,h.size,h.block⟩
def YE(cb lo:Nat)(fs:List aC)(u:Value)(w:World)(e_:List (List UInt8))(h:CK cb lo fs u w e_)(F:e_.length<=100000)(l:Nat)(x:List UInt8):
 Calls prog 161 #[.pointer (some ⟨cb,0,none⟩),.agg #[.int .i64 l,.string (bs x)]] w (cL cb lo fs u w (if e_.contains x then ⟨e_,0,0⟩ else aW.found ⟨e_,0,0⟩ l 6)):=by
 have m:=h.grow ((F9 _ _).alloc (F6 _) (.cells #[.int .i64 l,.string (bs x)] 155));obtain⟨E,f,a⟩:=m.blk;have i:=h.lt;obtain⟨v,I,B,z⟩:=gP f
 obtain⟨p,r,rfl⟩:∃p r,E=.slice p e_.length r:=by
  rcases a.2 with ⟨rfl,y⟩|⟨g,A,D,rfl,_⟩
  ·exact⟨none,0,by rw[y]⟩
  ·exact⟨_,_,rfl⟩
 have s:=aB (λn=>tJ e_ x (.slice p e_.length r) (cb+1) ((w.alloc (.cells #[.int .i64 l,.string (bs x)] 155)).drewN n) F (bB a λ_ _=>rfl))
 have H:=aB m;have t:Hid (Below w.heap.size w (w.alloc (.cells #[.int .i64 l,.string (bs x)] 155))):=(F9 _ _).alloc (F6 _) _;clear f a h m z;generalize j:(if e_.contains x then (⟨e_,0,0⟩:aW) else aW.found ⟨e_,0,0⟩ l 6)=c
 have d:=aB j;clear j;generalize e_.contains x=b at*;cases b
 ·have o:c=⟨e_,6,l⟩:=d.out.symm;subst o;clear d;go_enter func161,ntmps161;go_wp2_with fail;go_quiet ((go_at_call 182;exact Calls.quiet_of_same (s.out _)))
  go_wp2_with fail;refine(pM l _).mono ?_;rintro e J ⟨rfl,k⟩;have q:=aB k;clear k;go_wp2_with (go_at_call 83;refine(eV 6 l _).mono ?_;rintro e G ⟨rfl,C⟩;obtain rfl:=C.symm)
  exact⟨rfl,cL.fault (c1:=⟨e_,6,l⟩) (FB.of_below ((mX t.out _).trans (q.out.mono s_)) i) s_ (Stk.refl _)⟩
 ·have o:c=⟨e_,0,0⟩:=d.out.symm;subst o;clear d;go_enter func161,ntmps161;go_wp2_with fail;go_quiet ((go_at_call 182;exact Calls.quiet_of_same (s.out _)))
  go_wp2_with fail;go_end0;exact cL.done (FB.of_below (mX t.out _) i) rfl (H.out.grow (mX (F9 _ _) _))
def pJ(cb lo:Nat)(fs:List aC)(u:Value)(w:World)(e_:List (List UInt8))(h:CK cb lo fs u w e_)(I:e_.length<=100000)(l:Nat)(x:List UInt8):
 Calls prog 127 #[.pointer (some ⟨cb,0,none⟩),.agg #[.int .i64 l,.string (bs x)]] w (cL cb lo fs u w (if fE x || e_.contains x then aW.found ⟨e_,0,0⟩ l 6 else ⟨e_,0,0⟩)):=by
 have k:=h.grow ((F9 _ _).alloc (F6 _) (.cells #[.int .i64 l,.string (bs x)] 155));obtain⟨G,f,d⟩:=k.blk;have i:=h.lt;obtain⟨v,K,D,A⟩:=gP f
 obtain⟨o,q,rfl⟩:∃o q,G=.slice o e_.length q:=by
  rcases d.2 with ⟨rfl,z⟩|⟨g,C,F,rfl,_⟩
  ·exact⟨none,0,by rw[z]⟩
  ·exact⟨_,_,rfl⟩
 have s:=aB (λn=>tJ e_ x (.slice o e_.length q) (cb+1) ((w.alloc (.cells #[.int .i64 l,.string (bs x)] 155)).drewN n) I (bB d λ_ _=>rfl))
 have H:=aB k;have t:Hid (Below w.heap.size w (w.alloc (.cells #[.int .i64 l,.string (bs x)] 155))):=(F9 _ _).alloc (F6 _) _;have L:(bs x).toList=x:=bT x;clear f d h k A;have B:Hid (fE x=(x==[108,101,110] || x==[114,101,97,100])):=rfl
 generalize j:(if fE x || e_.contains x then aW.found ⟨e_,0,0⟩ l 6 else (⟨e_,0,0⟩:aW))=c
 have a:=aB j;clear j;rw[B.out] at a;generalize e_.contains x=b at*;cases k:(x==[108,101,110])<;>cases y:(x==[114,101,97,100])<;>cases b
 all_goals
  rw[k,y] at a
  first
   |(have r:c=⟨e_,0,0⟩:=a.out.symm
     subst r;clear a;go_enter func127,ntmps127;go_wp2_with fail;go_quiet ((go_at_call 182;exact Calls.quiet_of_same (s.out _)))
     go_wp2_with fail;go_end0;exact cL.done (FB.of_below (mX t.out _) i) rfl (H.out.grow (mX (F9 _ _) _)))
   |(have r:c=⟨e_,6,l⟩:=a.out.symm
     subst r;clear a;go_enter func127,ntmps127;go_wp2_with fail;go_quiet ((go_at_call 182;exact Calls.quiet_of_same (s.out _)))
     go_wp2_with fail;refine(pM l _).mono ?_;rintro e M ⟨rfl,m⟩;have p:=aB m;clear m;go_wp2_with (go_at_call 83;refine(eV 6 l _).mono ?_;rintro e J ⟨rfl,E⟩;obtain rfl:=E.symm)
     exact⟨rfl,cL.fault (c1:=⟨e_,6,l⟩) (FB.of_below ((mX t.out _).trans (p.out.mono s_)) i) s_ (Stk.refl _)⟩)
end Go.Proofs.YthbffcmfmjpncaaGreatDoor
