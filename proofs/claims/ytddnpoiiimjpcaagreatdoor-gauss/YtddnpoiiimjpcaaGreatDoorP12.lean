/- Contracts of the program: operands with operations between them. -/
import Derived.Test.YtddnpoiiimjpcaaGreatDoorP11
set_option linter.defProp false
set_option maxRecDepth 100000
set_option maxHeartbeats 4000000
namespace Go.Proofs.YtddnpoiiimjpcaaGreatDoor
open Hs
open _root_.Go.Proofs.Tryz
open Go.RowKit
def S5(C:Ctx)(L:Nat->bX aC)(w:aH)(r:bX aC)(lv tb l:Nat)(k:Nat)(v:aQ)(wr:aH):Prop:=
 Fr C.pb w wr/\∃q a,PAt C wr q/\r=bF L C.ts lv k a q/\PN (Btw w.heap.size wr.heap.size) wr v a/\J7 wr tb l
def M9{L:Nat->bX aC}{ts:List aX}{c k q:Nat}{a:aC}(d:c≠2)(h:((aR ts q).sort==112 && cB (aR ts q).text==c)=true):
 bF L ts c (k+1) a q=bR (L (q+1)) (fun b e=>bF L ts c k (aS (aR ts q).text (aR ts q).line [] [a,b]) e):=by
 rw[bF,if_pos h];cases L (q+1) with
 |error l=>rfl
 |ok f=>simp only[if_neg d];rfl
def E0{L:Nat->bX aC}{ts:List aX}{b k q:Nat}{a:aC}(h:((aR ts q).sort==112 && cB (aR ts q).text==b)=false):
 bF L ts b (k+1) a q=.ok (a,q):=by
 rw[bF,if_neg (by rw[h];simp)]
def YT(C:Ctx)(L:Nat->bX aC)(F:Nat)(bk:∀S w,Sem.run prog (callFunc F S) w=.ok (.enter F S) w)(HF:PReads C F L)(j:Nat)(M:j≠2)(h9:j≠9)(d:List (List UInt8))(D:∀x,x∈d↔cB x=j)(ai:d.length<=100)(w:World)(p:Nat)(h:PAt C w p)(g au:Nat)(hg:g<w.heap.size)(al:g≠C.pb)(hc:∀i (hi:i<d.length),w.cell? ⟨g,i,none⟩=some (.string (bs d[i])))
 (H:bR (L p) (bF L C.ts j (C.ts.length+1))≠.error 0):
 Calls prog 123 #[.pointer (some ⟨C.pb,0,none⟩),.func (.func F) #[.pointer (some ⟨C.pb,0,none⟩)] #[],.slice (some ⟨g,0,none⟩) d.length au] w (EY C w (bR (L p) (bF L C.ts j (C.ts.length+1)))):=by
 have Q:∀x∈d,x≠[]:=fun x hx e=>by rw[D,e] at hx;exact h9 (hx.symm.trans rfl)
 have av:=aB (fun W q (hf:Fr C.pb w W) (hq:PAt C W q)=>FP C W q d g au (Y7 hg hf.size) al ai Q (fun i hi=>(wF (hf.block g hg al)).trans (hc i hi)) hq)
 have bg:=aB (fun W q (hq:PAt C W q)=>wW (hq.tsk.tk q hq.lt) j h9 d D)
 have ab:=aB (mI C w p h);have U:L p≠.error 0:=fun e=>H (by rw[e];rfl)
 have P:=aB (fun w1 (hb:Below w.heap.size w w1)=>HF w1 p (h.below hb) U)
 have ax:=aB HF;have bh:=h.pb_lt;obtain⟨r,hr⟩:∃r,r=bR (L p) (bF L C.ts j (C.ts.length+1)):=⟨_,rfl⟩;rw[<-hr] at H ⊢
 have HR:=aB hr;have ao:=aB H;clear h HF H hr U Q hc D;generalize (aR C.ts p).line=pl at*;cases t:L p with
 |error l=>
  have G:Hid (r=.error l):=by show _=_;rw[HR.out,t];rfl
  rw[t] at P;clear t HR;go_enter func123,ntmps123;go_wp2_with fail;refine ab.out.mono ?_;rintro e w1 ⟨rfl,E⟩;have u:=aB E;clear E;go_wp2_with fail;refine(P.out w1 u.out).mono ?_;rintro e w2 ⟨s,rfl⟩;have bd:=aB ((Fr.below u.out).trans s);clear s;go_wp2_with fail;exact⟨rfl,Out.err G.out bd.out⟩
 |ok aq=>
  obtain⟨a0,q0⟩:=aq;have G:Hid (r=bF L C.ts j (C.ts.length+1) a0 q0):=by show _=_;rw[HR.out,t];rfl
  rw[t] at P;clear t HR;go_enter func123,ntmps123;go_wp2_with fail;refine ab.out.mono ?_;rintro e w1 ⟨rfl,E⟩;have u:=aB E;clear E;go_wp2_with fail;refine(P.out w1 u.out).mono ?_;rintro e w2 ⟨s,am,v2,rfl,ag⟩;have bc:=u.out.size;have bj:=s.size
  have HI:Hid (S5 C L w r j w2.heap.size pl (C.ts.length+1) v2 (w2.alloc (.cells #[.int .i64 pl] 177))):=
   ⟨((Fr.below u.out).trans s).alloc _,q0,a0,am.alloc _,G.out,ag.grow (fun k _ M=>Z3 _ _ _ M) bc (by simp),J7.new _ _⟩
  obtain⟨T2,bp,rfl⟩:=ag.form;clear s am ag G P ab;go_wp2_with fail;go_loopg [8,9] (C.ts.length+1) (fun k v o wr=>S5 C L w r j w2.heap.size pl k v wr)
  case atStart=>exact HI.out
  case round=>
   obtain⟨J,q,a,X,B,Z,T⟩:=hrel;obtain⟨T3,br,rfl⟩:=Z.form
   obtain⟨k,rfl⟩:∃k,gk=k+1:=by
    cases gk with
    |zero=>exact absurd B ao.out
    |succ k=>exact⟨k,rfl⟩
   have HA:=aB (av.out wr q J X);have HO:=aB (bg.out wr q X);have ap:(aR C.ts q).sort=112->cB (aR C.ts q).text=j->(aR C.ts q).text≠[]:=fun _ e1 e2=>h9 (by rw[<-e1,e2];rfl)
   have ah:=aB ap;have af:=aB J;have aa:=aB Z;have ak:=aB T;have bi:=J.size;clear J X Z T HI ap;generalize nH C.ts q d=oo at*;generalize an:(if oo=[] then q else q+1)=qo at*
   have N:=aB an;clear an;cases f:((aR C.ts q).sort==112 && cB (aR C.ts q).text==j)
   ·have G:Hid (r=.ok (a,q)):=by show _=_;rw[B];exact E0 f
    obtain rfl:oo=[]:=by rw[HO.out,f];rfl
    obtain rfl:q=qo:=N.out;clear f B HO N ah;simp only[bs] at HA;go_wp2_with fail;refine HA.out.mono ?_;rintro e w4 ⟨rfl,y,c⟩;have m:=aB c;have z:=aB y;clear c y;go_wp2_with fail;go_ret;exact Out.ok G.out (af.out.trans m.out) z.out (aa.out.grow (fun k h1 M=>m.out.block k M (by omega)) (Z7 _) m.out.size)
   ·obtain⟨rE,K⟩:∃rE,rE=L (q+1):=⟨_,rfl⟩;have I:Hid (r=bR rE (fun b q2=>bF L C.ts j k (aS (aR C.ts q).text (aR C.ts q).line [] [a,b]) q2)):=by show _=_;rw[B,M9 M f,K]
    have Y:oo=(aR C.ts q).text:=by rw[HO.out,f];rfl
    have n:(aR C.ts q).sort=112/\cB (aR C.ts q).text=j:=by simpa using f
    have V:oo≠[]:=by rw[Y];exact ah.out n.1 n.2
    have bb:Hid (cB (aR C.ts q).text≠9):=by show _≠_;rw[n.2];exact h9
    obtain rfl:q+1=qo:=by rw[<-N.out,if_neg V]
    have aj:L (q+1)≠.error 0:=fun e=>ao.out (by rw[I.out,K,e];rfl)
    have bo:(bs oo).toList.isEmpty=false:=by
     rw[cF];cases oo with
     |nil=>exact absurd rfl V
     |cons x l=>rfl
    have be:=aB K;have bf:=aB Y;clear f B K HO N ah n Y;go_wp2_with fail;refine HA.out.mono ?_;rintro e w4 ⟨rfl,y,c⟩;have P:=aB (ax.out w4.drew (q+1) y.drew aj);rw[<-be.out] at P;have az:=aB (aa.out.grow (fun k h1 M=>c.block k M (by omega)) (Z7 _) c.size)
    have z:=aB (c.keepB ak.out (by omega))
    have m:=aB (af.out.trans c);have c0:=aA z.out (i:=0) rfl;have bq:=aD z.out;have bm:=c.size;clear c y aa ak af HA aj V;cases rE with
    |error l=>
     have G:Hid (r=.error l):=I.out;go_wp2_with fail;go_region_law (refine thrown .nilIface ?_ ?_;(focus go_simp;refine P.out.mono ?_;rintro e w5 ⟨A,rfl⟩;exact j6 rfl (Out.err G.out (m.out.drew.trans A)));intro O)
     all_goals exact O.out.elim
    |ok iq=>
     obtain⟨i,q5⟩:=iq;have G:Hid (r=bF L C.ts j k (aS (aR C.ts q).text (aR C.ts q).line [] [a,i]) q5):=I.out;clear I;go_wp2_with fail;go_region_law (go_simp;refine P.out.mono ?_;rintro e w5 ⟨A,ar,v5,rfl,ac⟩;obtain⟨T5,bn,rfl⟩:=ac.form;have ay:=aB ac;have ad:=aB A;have aw:=aB ar;have ae:=aB (((Fr.refl C.pb w4).drew.trans A).keepB z.out (by omega));have d0:=aA ae.out (i:=0) rfl;have bl:=aD ae.out;clear A ar ac)
     all_goals
      go_wp2_with fail;go_roundg k
      case measure=>omega
      case rel=>
       have ba:=ad.out.size
       exact⟨m.out.drew.trans ad.out,q5,_,aw.out,G.out,PN.mk (Y3 (Y3 (Y3 (Y3 (Y3 (Y3 (Y3 (Y3 (Y4 ⟨rfl,pl,_,_,a,i,by rw[bf.out];rfl,bb.out,rfl,rfl⟩))))))))) (fun p hp=>by
        simp only[Z6,e7,or_false] at hp;rcases hp with rfl|rfl
        ·exact Prt.ok.node (az.out.grow (fun k h1 M=>ad.out.block k M (by omega)) (Z7 _) ba)
        ·exact Prt.ok.node (ay.out.grow (fun _ _ _=>rfl) (by have:=m.out.size;exact this) (Z7 _))),ae.out⟩
def oQ(C:Ctx)(L:Nat->bX aC)(F:Nat)(o:∀b w,Sem.run prog (callFunc F b) w=.ok (.enter F b) w)(s:PReads C F L)(c:Nat)(d:c≠2)(z:c≠9)(a:cO)(f:∀x,x∈a↔cB x=c)(g:a.length<=100)(w:aH)(p:Nat)(h:PAt C w p)(n:Nat)(m:n=a.length)(cs:Array Value)(k:cs=(a.map fun x=>Value.string (bs x)).toArray)
 (j:bR (L p) (bF L C.ts c (C.ts.length+1))≠.error 0):
 Calls prog 123 #[bO C.pb,.func (.func F) #[bO C.pb] #[],.slice (some (aL w.heap.size 0)) n n] (w.alloc (.cells cs 9)) (EY C w (bR (L p) (bF L C.ts c (C.ts.length+1)))):=by
 subst m;have r:=h.pb_lt;refine(YT C L F o s c d z a f g _ p (h.alloc _) w.heap.size a.length (by simp) (by omega) ?_ j).mono fun e B ⟨t,d⟩=>⟨((Fr.refl _ _).alloc _).trans t,?_⟩
 ·intro i y;refine aA (aU _ _ rfl _) ?_;rw[k];simp[y]
 ·cases q:bR (L p) (bF L C.ts c (C.ts.length+1)) with
  |error l=>rw[q] at d;exact d
  |ok D=>
   rw[q] at d;obtain⟨u,v,A,m⟩:=d;exact⟨u,v,A,m.grow (fun _ _ _=>rfl) (by simp) dH⟩
def UF(c:Fn)(a b:Array Value)(w:aH):(Instr.makeFunc c a b).run prog w=.ok (.func c a b) w:=rfl
def MB(C:Ctx)(L:Nat->bX aC)(n:PReads C 225 L):PReads C 218 (fun p=>bR (L p) (bF L C.ts 4 (C.ts.length+1))):=by
 intro w p h f;have s:=aB (oQ C L 225 (fun _ _=>rfl) n 4 (by decide) (by decide) [[42],[47],[37]] X3 (by decide) w p h 3 rfl #[.string ⟨#[42]⟩,.string ⟨#[47]⟩,.string ⟨#[37]⟩] rfl f)
 have i:=UF;show Calls _ _ _ _ (EY C w (bR (L p) (bF L C.ts 4 (C.ts.length+1))))
 generalize bR (L p) (bF L C.ts 4 (C.ts.length+1))=r at*;clear h f n;go_in
 go_wp2_with fail;refine s.mono ?_;rintro e t ⟨b,j⟩;cases r with
 |error l=>
  obtain rfl:e=dF 4 l:=j;have c:=aB b;clear b i;go_wp2_with fail;exact⟨rfl,Out.err rfl c⟩
 |ok o=>
  obtain⟨a,q⟩:=o;obtain⟨d,u,rfl,g⟩:=j;have c:=aB b;have m:=aB d;have k:=aB g;clear b d g i;go_wp2
  go_ret;exact Out.ok rfl c m k
def K4(C:Ctx)(L:Nat->bX aC)(n:PReads C 218 L):PReads C 200 (fun p=>bR (L p) (bF L C.ts 3 (C.ts.length+1))):=by
 intro w p h f;have s:=aB (oQ C L 218 (fun _ _=>rfl) n 3 (by decide) (by decide) [[43],[45]] X4 (by decide) w p h 2 rfl #[.string ⟨#[43]⟩,.string ⟨#[45]⟩] rfl f)
 have i:=UF;show Calls _ _ _ _ (EY C w (bR (L p) (bF L C.ts 3 (C.ts.length+1))))
 generalize bR (L p) (bF L C.ts 3 (C.ts.length+1))=r at*;clear h f n;go_in
 go_wp2_with fail;refine s.mono ?_;rintro e t ⟨b,j⟩;cases r with
 |error l=>
  obtain rfl:e=dF 4 l:=j;have c:=aB b;clear b i;go_wp2_with fail;exact⟨rfl,Out.err rfl c⟩
 |ok o=>
  obtain⟨a,q⟩:=o;obtain⟨d,u,rfl,g⟩:=j;have c:=aB b;have m:=aB d;have k:=aB g;clear b d g i;go_wp2
  go_ret;exact Out.ok rfl c m k
def Q7(C:Ctx)(L:Nat->bX aC)(n:PReads C 169 L):PReads C 124 (fun p=>bR (L p) (bF L C.ts 1 (C.ts.length+1))):=by
 intro w p h f;have s:=aB (oQ C L 169 (fun _ _=>rfl) n 1 (by decide) (by decide) [[38,38]] X6 (by decide) w p h 1 rfl #[.string ⟨#[38,38]⟩] rfl f)
 have i:=UF;show Calls _ _ _ _ (EY C w (bR (L p) (bF L C.ts 1 (C.ts.length+1))))
 generalize bR (L p) (bF L C.ts 1 (C.ts.length+1))=r at*;clear h f n;go_in
 go_wp2_with fail;refine s.mono ?_;rintro e t ⟨b,j⟩;cases r with
 |error l=>
  obtain rfl:e=dF 4 l:=j;have c:=aB b;clear b i;go_wp2_with fail;exact⟨rfl,Out.err rfl c⟩
 |ok o=>
  obtain⟨a,q⟩:=o;obtain⟨d,u,rfl,g⟩:=j;have c:=aB b;have m:=aB d;have k:=aB g;clear b d g i;go_wp2
  go_ret;exact Out.ok rfl c m k
def F8(C:Ctx)(L:Nat->bX aC)(n:PReads C 124 L):PReads C 88 (fun p=>bR (L p) (bF L C.ts 0 (C.ts.length+1))):=by
 intro w p h f;have s:=aB (oQ C L 124 (fun _ _=>rfl) n 0 (by decide) (by decide) [[124,124]] X7 (by decide) w p h 1 rfl #[.string ⟨#[124,124]⟩] rfl f)
 have i:=UF;show Calls _ _ _ _ (EY C w (bR (L p) (bF L C.ts 0 (C.ts.length+1))))
 generalize bR (L p) (bF L C.ts 0 (C.ts.length+1))=r at*;clear h f n;go_in
 go_wp2_with fail;refine s.mono ?_;rintro e t ⟨b,j⟩;cases r with
 |error l=>
  obtain rfl:e=dF 4 l:=j;have c:=aB b;clear b i;go_wp2_with fail;exact⟨rfl,Out.err rfl c⟩
 |ok o=>
  obtain⟨a,q⟩:=o;obtain⟨d,u,rfl,g⟩:=j;have c:=aB b;have m:=aB d;have k:=aB g;clear b d g i;go_wp2
  go_ret;exact Out.ok rfl c m k
def IQ(C:Ctx)(L:Nat->bX aC)(v:PReads C 200 L):PReads C 169 (fun p=>bR (L p) (bF L C.ts 2 (C.ts.length+1))):=by
 intro w p h J;have N:=aB (mI C w p h);have I:L p≠.error 0:=fun e=>J (by show bR _ _=_;rw[e];rfl)
 have G:=aB (fun W (hb:Below w.heap.size w W)=>v W p (h.below hb) I)
 have af:=aB v;have ap:=h.pb_lt;obtain⟨r,hr⟩:∃r,r=bR (L p) (bF L C.ts 2 (C.ts.length+1)):=⟨_,rfl⟩;have H:r≠.error 0:=hr▸J;show Calls _ _ _ _ (EY C w (bR (L p) (bF L C.ts 2 (C.ts.length+1))))
 rw[<-hr];have HR:=aB hr;have ak:=aB H;clear h v J hr I H;generalize (aR C.ts p).line=X at*;cases o:L p with
 |error l=>
  have v:Hid (r=.error l):=by show _=_;rw[HR.out,o];rfl
  rw[o] at G;clear o HR;go_enter func169,ntmps169;go_wp2_with fail;refine N.out.mono ?_;rintro e W ⟨rfl,y⟩;have f:=aB y;clear y;go_wp2_with fail;refine(G.out W f.out).mono ?_;rintro e w2 ⟨m,rfl⟩;have am:=aB ((Fr.below f.out).trans m);clear m;go_wp2_with fail;exact⟨rfl,Out.err v.out am.out⟩
 |ok aq=>
  obtain⟨a,q⟩:=aq;have aa:r=bF L C.ts 2 (C.ts.length+1) a q:=by rw[HR.out,o];rfl
  rw[o] at G;clear o HR;have B:=aB aa;clear aa;go_enter func169,ntmps169;go_wp2_with fail;refine N.out.mono ?_;rintro e W ⟨rfl,y⟩;have f:=aB y;clear y;go_wp2_with fail;refine(G.out W f.out).mono ?_;rintro e w2 ⟨m,E,v2,rfl,V⟩;have al:=f.out.size;have ar:=m.size;have M:=aB (V.grow (lo':=w.heap.size) (w':=w2.alloc (.cells #[.int .i64 X] 177)) (hi':=w2.heap.size+1) (fun k _ Q=>Z3 _ _ _ Q) al (by simp))
  have U:=aB (((Fr.below f.out).trans m).alloc (.cells #[.int .i64 X] 177));have Z:=aB (J7.new w2 X);have aj:=aB (E.alloc (.cells #[.int .i64 X] 177));obtain⟨T3,ay,rfl⟩:=V.form;have HO:=aB (wW (E.tsk.tk q E.lt) 2 (by decide) [[61,61],[33,61],[60],[60,61]] X5)
  clear m E V G N f;generalize j:nH C.ts q [[61,61],[33,61],[60],[60,61]]=O at*;have HM:=aB (FW C _ q aj.out [[61,61],[33,61],[60],[60,61]] (by decide) (by intro x hx;simp at hx;rcases hx with rfl|rfl|rfl|rfl<;>simp) O j (w2.heap.size+1) (by simp) 4 rfl #[.string ⟨#[61,61]⟩,.string ⟨#[33,61]⟩,.string ⟨#[60]⟩,.string ⟨#[60,61]⟩] rfl)
  generalize ab:(if O=[] then q else q+1)=qo at*
  have D:=aB ab;clear ab j;cases d:((aR C.ts q).sort==112 && cB (aR C.ts q).text==2)
  ·have v:Hid (r=.ok (a,q)):=by show _=_;rw[B.out];exact E0 d
   obtain rfl:O=[]:=by rw[HO.out,d];rfl
   obtain rfl:q=qo:=D.out;clear d B HO D;simp only[bs] at HM;go_wp2_with fail;refine HM.out.mono ?_;rintro e w4 ⟨rfl,s,c⟩;have n:=aB c;have t:=aB s;have S:=c.size;simp at S;clear c s;go_wp2_with fail;go_ret;exact Out.ok v.out (U.out.trans n.out) t.out (M.out.grow (fun k h1 Q=>n.out.block k (by simpa using Q) (by omega)) (Z7 _) (by omega))
  ·obtain⟨rE,A⟩:∃rE,rE=L (q+1):=⟨_,rfl⟩
   have z:Hid (r=bZ (fun b=>aS (aR C.ts q).text (aR C.ts q).line [] [a,b]) rE):=by
    show _=_
    rw[B.out,bF,if_pos d,A];cases L (q+1)<;>rfl
   have j:O=(aR C.ts q).text:=by rw[HO.out,d];rfl
   have g:(aR C.ts q).sort=112/\cB (aR C.ts q).text=2:=by simpa using d
   have K:O≠[]:=by
    intro e;rw[<-j,e] at g;exact absurd g.2 (by decide)
   have ai:Hid (cB (aR C.ts q).text≠9):=by show _≠_;rw[g.2];decide
   obtain rfl:q+1=qo:=by rw[<-D.out,if_neg K]
   have Y:L (q+1)≠.error 0:=fun e=>ak.out (by rw[z.out,A,e];rfl)
   have aw:(bs O).toList.isEmpty=false:=by
    rw[cF];cases O with
    |nil=>exact absurd rfl K
    |cons x l=>rfl
   have an:=aB A;have ao:=aB j;clear d B A HO D g j;go_wp2_with fail;refine HM.out.mono ?_;rintro e w4 ⟨rfl,s,c⟩;have G:=aB (af.out w4.drew (q+1) s.drew Y);rw[<-an.out] at G;have S:=c.size;simp at S;have ah:=aB (M.out.grow (lo':=w.heap.size) (hi':=w4.heap.size) (fun k h1 Q=>c.block k (by simpa using Q) (by omega)) (Z7 _) (by omega))
   have t:=aB (c.keepB Z.out (by omega))
   have n:=aB (U.out.trans c);have c0:=aA t.out (i:=0) rfl;have ax:=aD t.out;clear c s M Z U HM Y K;cases rE with
   |error l=>
    have v:Hid (r=.error l):=z.out;go_wp2_with fail;go_region_law (refine thrown .nilIface ?_ ?_;(focus go_simp;go_at_call 200;refine G.out.mono ?_;rintro e w5 ⟨u,rfl⟩;exact j6 rfl (Out.err v.out (n.out.drew.trans u)));intro F)
    all_goals exact F.out.elim
   |ok iq=>
    obtain⟨i,q5⟩:=iq;have v:Hid (r=.ok (aS (aR C.ts q).text (aR C.ts q).line [] [a,i],q5)):=z.out;clear z;go_wp2_with fail;go_region_law (go_simp;go_at_call 200;refine G.out.mono ?_;rintro e w5 ⟨u,ad,v5,rfl,P⟩;obtain⟨T5,av,rfl⟩:=P.form;have ag:=aB P;have T:=aB u;have ae:=aB ad;have ac:=aB (((Fr.refl C.pb w4).drew.trans u).keepB t.out (by omega));have d0:=aA ac.out (i:=0) rfl;have au:=aD ac.out;clear u ad P)
    all_goals (go_wp2_with fail;go_ret)
    all_goals exact Out.ok v.out (n.out.drew.trans T.out) ae.out (PN.mk (Y3 (Y3 (Y3 (Y3 (Y3 (Y3 (Y3 (Y3 (Y4 ⟨rfl,X,_,_,a,i,by rw[ao.out];rfl,ai.out,rfl,rfl⟩))))))))) (fun p hp=>by
     simp only[Z6,e7,or_false] at hp;rcases hp with rfl|rfl
     ·exact Prt.ok.node (ah.out.grow (fun k h1 Q=>T.out.block k Q (by omega)) (Z7 _) T.out.size)
     ·exact Prt.ok.node (ag.out.grow (fun _ _ _=>rfl) (by have:=n.out.size;exact this) (Z7 _))))
def GK(C:Ctx):∀f,PReads C 88 (fK C.ts f)
 |0=>fun _ _ _ a=>absurd rfl a
 |f+1=>fun w p h a=>F8 C (fX (fK C.ts f) C.ts 4) (Q7 C (fX (fK C.ts f) C.ts 3) (IQ C (fX (fK C.ts f) C.ts 2) (K4 C (fX (fK C.ts f) C.ts 1) (MB C (fX (fK C.ts f) C.ts 0) (UY C (fK C.ts f) (GK C f) (C.ts.length+1)))))) w p h a
def GT{b c:Type}(ts:List aX)(x:cE)(f:b->c)(r:bX b):aM ts x (bZ f r)=bZ f (aM ts x r):=by
 cases r with
 |error l=>rfl
 |ok d=>
  obtain⟨a,q⟩:=d;unfold aM bZ;simp only;split<;>rfl
def ND(C:Ctx)(E:Nat->bX aC)(F:PReads C 88 E):PReads C 209 (fun p=>aM C.ts [59] (E p)):=by
 intro w p h o;have s:E p≠.error 0:=fun e=>o (by show aM _ _ _=_;rw[e];rfl)
 have A:=aB (F w p h s);have G:=h.pb_lt;show Calls _ _ _ _ (EY C w (aM C.ts [59] (E p)))
 obtain⟨r,z⟩:∃r,r=aM C.ts [59] (E p):=⟨_,rfl⟩;rw[<-z];generalize E p=I at*;have t:=aB z;clear h F o s z;cases I with
 |error l=>
  have u:Hid (r=.error l):=t;go_in
  go_wp2_with fail;refine A.mono ?_;rintro e B ⟨c,rfl⟩;have i:=aB c;clear c;go_wp2_with fail;exact⟨rfl,Out.err u i⟩
 |ok K=>
  obtain⟨a,q⟩:=K;go_in
  go_wp2_with fail;refine A.mono ?_;rintro e B ⟨c,n,P,rfl,j⟩;obtain⟨N,M,rfl⟩:=j.form;have f:=aB (gB C B q ⟨#[59]⟩ n);have D:(⟨#[59]⟩:ByteArray).data.toList=[59]:=rfl;rw[D] at f;have i:=aB c;have y:=aB j;have L:=c.size;clear n c j A D;cases b:aV C.ts q [59]
  ·have u:Hid (r=.error (aR C.ts q).line):=by show _=_;rw[t.out];exact wK b
   rw[b] at f;clear b t;go_wp2_with fail;refine f.mono ?_;rintro e J ⟨d,m⟩;obtain rfl:e=dF 4 (aR C.ts q).line:=m;have g:=aB (i.trans d);clear d;go_wp2_with fail;exact⟨rfl,Out.err u g⟩
  ·have u:Hid (r=.ok (a,q+1)):=by show _=_;rw[t.out];exact nK b
   rw[b] at f;clear b t;go_wp2_with fail;refine f.mono ?_;rintro e J ⟨d,m⟩;obtain⟨rfl,v⟩:=m;have g:=aB d;have x:=aB v;clear d v;go_wp2
   go_ret;exact Out.ok u (i.trans g) x (y.grow (fun k O H=>g.block k H (by omega)) dH g.size)
def oT(C:Ctx)(w:aH)(q:Nat)(l:List aC)(t:aX)(v:aQ)(wc:aH):Prop:=
 ∃cb sv,v=bO cb/\cb≠C.pb/\Fr C.pb w wc/\PAt C wc q/\wc.heap[cb]?=some (.cells #[Iv0 t.line,.string (bs t.text),sv] 224 (0,0))/\PKid (Btw w.heap.size wc.heap.size) wc sv l
def oT.late{C:Ctx}{w b a:aH}{q:Nat}{l:List aC}{t:aX}{c:aQ}(e:Fr C.pb w b)(g:Fr C.pb b a)(d:PAt C a q)(f:PKid (Btw b.drew.heap.size a.heap.size) a c l):
 oT C w q l t (bO a.heap.size) (a.alloc (.cells #[Iv0 t.line,.string (bs t.text),c] 224)):=by
 have h:=d.pb_lt;refine⟨a.heap.size,c,rfl,by omega,(e.trans g).alloc _,d.alloc _,aU _ _ rfl _,f.grow (fun k _ i=>Z3 _ _ _ i) ?_ (by simp)⟩
 exact e.size
def oT.early{C:Ctx}{w d f:aH}{q:Nat}{l:List aC}{t:aX}{g:aQ}{cs:Array Value}{o:Obj}(m:Fr C.pb w d)(y:Fr C.pb d f)(s:PAt C f q)(n:C.pb<d.heap.size)(x:C.g<d.heap.size)(r:PKid (Btw (d.alloc o).drew.heap.size f.heap.size) f g l)(p:f.heap[d.heap.size]?=some (.cells cs 224 (0,0)))(h:cs.size=3):
 oT C w q l t (bO d.heap.size) (((f.setCell (aL d.heap.size 0) (Iv0 t.line)).setCell (aL d.heap.size 1) (.string (bs t.text))).setCell (aL d.heap.size 2) g):=by
 have e:=m.size;have j:∀(W:aH) (i:Nat) (u:aQ),(W.setCell (aL d.heap.size i) u).heap.size=W.heap.size:=fun W i u=>by simp[World.setCell]
 refine⟨d.heap.size,g,rfl,by omega,(((m.trans y).setCell (Y3 e) _).setCell (Y3 e) _).setCell (Y3 e) _,((s.other (by omega) (by omega)).other (by omega) (by omega)).other (by omega) (by omega),?_,?_⟩
 ·rw[aT (aT (aT p))];congr 1
  match cs,h with
  |⟨[a,b,c]⟩,_=>rfl
 ·refine r.grow (fun k A z=>?_) ?_ ?_
  ·have v:d.heap.size<k:=by have:(d.alloc o).drew.heap.size=d.heap.size+1:=by simp
                            omega
   rw[Y6 _ _ _ _ (by show k≠d.heap.size;omega),Y6 _ _ _ _ (by show k≠d.heap.size;omega),Y6 _ _ _ _ (by show k≠d.heap.size;omega)]
  ·have:(d.alloc o).drew.heap.size=d.heap.size+1:=by simp
   omega
  ·rw[j,j,j];exact Z7 _
def UR(C:Ctx)(E:Nat->bX aC)(w w0:aH)(r0:bX (List aC))(nb:Nat)(t:aX)(k:Nat)(v:aQ)(wr:aH):Prop:=
 Fr C.pb w wr/\∃q acc,PAt C wr q/\r0=eX E C.ts k q acc/\acc.length+k<=4000/\PLst w0.heap.size wr v acc/\wr.heap[nb]?=some (.cells #[Iv0 t.line,.string (bs t.text)] 179 (0,0))/\w0.heap.size<=wr.heap.size
def QM(C:Ctx)(E:Nat->bX aC)(HE:PReads C 88 E):PReads C 211 (eW E C.ts):=by
 obtain⟨i0,hi,da,dm,dg⟩:=info_parts BO;intro w p h bk;have ao:=aB (mH C w p h);have cr:=aB HE;have dh:=aB (ND C E HE);have dx:=h.pb_lt;have eg:=h.g_lt;have dq:=h.len;obtain⟨r,hr⟩:∃r,r=eW E C.ts p:=⟨_,rfl⟩;rw[<-hr] at bk ⊢
 rw[eW] at hr;have s:=aB hr;have bt:=aB bk;clear h HE bk hr;generalize cs:aR C.ts p=t at*;have cx:=aB cs;clear cs;cases hs:(t.sort==110)
 ·rw[hs] at ao;have Q:Hid (r=.error t.line):=by show _=_;rw[s.out,hs];show Hs.bad _ _=_;unfold Hs.bad;rw[cx.out]
  clear hs s;go_enter func211,ntmps211;go_wp2_with fail;refine ao.out.mono ?_;rintro e w7 ⟨ag,bn⟩;obtain rfl:e=dF 4 t.line:=bn;have af:=aB ag;clear ag;go_wp2_with fail;exact⟨rfl,Out.err Q.out af.out⟩
 rw[hs] at ao
 have aj:Hid (r=if aV C.ts (p+1) [40] then
  bZ (fun l=>aS [100,111] t.line t.text [aS [99,97,108,108] t.line t.text l]) (aM C.ts [59] (eR E C.ts (p+1) [40] [41]))
  else
   bR (aM C.ts [61] (eX E C.ts (C.ts.length+1) (p+1) [])) fun bq q=>
    bZ (fun v=>aS [115,101,116] t.line t.text (bq++[v])) (aM C.ts [59] (E q))):=by
  show _=_
  rw[s.out,hs];simp only[GT];rfl
 clear s hs;go_enter func211,ntmps211;go_wp2_with fail;refine ao.out.mono ?_;rintro e w7 ⟨ag,bn⟩;obtain⟨rfl,bb⟩:=bn;have af:=aB (ag.alloc (.cells #[.int .i64 t.line,.string (bs t.text)] 179));have aa:=aB (dJ C (w7.alloc (.cells #[.int .i64 t.line,.string (bs t.text)] 179)) (p+1) ⟨#[40]⟩ (bb.alloc _));have cm:(⟨#[40]⟩:ByteArray).data.toList=[40]:=rfl;rw[cm] at aa;have bv:Hid ((w7.alloc (.cells #[.int .i64 t.line,.string (bs t.text)] 179)).heap[w7.heap.size]?=some (.cells #[.int .i64 t.line,.string (bs t.text)] 179 (0,0))):=aU _ _ rfl _;have L:w7.heap.size≠C.pb:=by have:=bb.pb_lt;omega
 have dr:=ag.size;clear ag bb ao cm;cases i5:aV C.ts (p+1) [40];rotate_left
 ·rw[i5] at aa;obtain⟨r1,bm⟩:∃r1,r1=iB E C.ts (p+1+1) [41]:=⟨_,rfl⟩;have z:Hid (r=bZ (fun l=>aS [100,111] t.line t.text [aS [99,97,108,108] t.line t.text l]) (aM C.ts [59] (aM C.ts [41] r1))):=by show _=_;rw[aj.out,i5,bm];unfold eR;rw[i5];rfl
  have ch:=aB bm;clear i5 aj bm;go_wp2_with fail;refine aa.out.mono ?_;rintro e w8 ⟨rfl,B,U⟩;have K:=aB (U.keepB bv.out L);have au:=aB (af.out.trans U);have HV:=aB (fun W (hW:PAt C W (p+1+1))=>sL C E cr.out W (p+1+1) ⟨#[41]⟩ hW r1 _ ch rfl (fun e=>bt.out (by rw[z.out,e];rfl)))
  have cg:(⟨#[41]⟩:ByteArray).data.toList=[41]:=rfl;rw[cg] at HV;have Z:=aB B;have c0:=aA K.out (i:=0) rfl;have c1:=aA K.out (i:=1) rfl;have cz:=aD K.out;have ds:=au.out.size;clear B U aa cg;cases hV:aM C.ts [41] r1 with
  |error l=>
   rw[hV] at HV;have Q:Hid (r=.error l):=by show _=_;rw[z.out,hV];rfl
   clear hV;go_wp2_with fail;go_region_law (refine thrown (.slice none 0 0) ?_ ?_;(focus go_simp;go_at_call 221;refine(HV.out _ ?_).mono ?_;(focus first|exact Z.out.drew|exact(Z.out.alloc _).drew);rintro e w9 ⟨y,rfl⟩;first|exact j6 rfl (Out.err Q.out (au.out.drew.trans y))|exact j6 rfl (Out.err Q.out ((au.out.alloc _).drew.trans y)));intro O)
   all_goals exact O.out.elim
  |ok lq=>
   obtain⟨l,q⟩:=lq;rw[hV] at HV;have P:Hid (r=bZ (fun l=>aS [100,111] t.line t.text [aS [99,97,108,108] t.line t.text l]) (aM C.ts [59] (.ok (l,q)))):=by show _=_;rw[z.out,hV]
   clear hV z ch;have u:=Z.out.pb_lt;have ak:=Z.out.g_lt;go_wp2_with fail;go_cut [4] (fun v wc=>oT C w q l t v wc)
   case first=>
    go_region_law (go_simp;go_at_call 221;refine(HV.out _ ?_).mono ?_;(focus first|exact Z.out.drew|exact(Z.out.alloc _).drew);rintro e w9 ⟨y,ar,v,rfl,hk⟩;obtain⟨x,c,rfl⟩:=hk.slice;have HK:=aB hk;have ae:=aB ar;(first|(have cv:=y;have A:=aB (((Fr.refl C.pb w8).alloc (.cells #[.int .i64 0,.string ⟨#[]⟩,.slice none 0 0] 224)).drew.trans y);have V:=aB (y.keepB (b:=w8.heap.size) (o:=.cells #[.int .i64 0,.string ⟨#[]⟩,.slice none 0 0] 224 (0,0)) (aU w8 _ rfl _) (by omega));have z0:=aA V.out (i:=0) rfl;have z1:=aA V.out (i:=1) rfl;have z2:=aA V.out (i:=2) rfl;have y0:=aE (i:=0) V.out;have y1:=aE (i:=1) V.out;have y2:=aE (i:=2) V.out;have ea:=aD V.out;clear cv)|have A:=aB ((Fr.refl C.pb w8).drew.trans y));have ap:=aB (A.out.keepB K.out L);have d0:=aA ap.out (i:=0) rfl;have d1:=aA ap.out (i:=1) rfl;have dn:=aD ap.out;clear y ar hk)
    all_goals
     go_wp2_with fail;go_meet
     case rel=>first|exact oT.late au.out A.out ae.out HK.out|exact oT.early au.out A.out ae.out u ak HK.out V.out rfl
   case rest=>
    obtain⟨cb,sv,rfl,dk,f,X,bi,al⟩:=hcut;obtain⟨x,c,rfl⟩:=al.slice;have j:=aB (gB C wc q ⟨#[59]⟩ X);have ed:(⟨#[59]⟩:ByteArray).data.toList=[59]:=rfl;rw[ed] at j;have I:=aB f;have cq:=aB bi;have cn:=aB al;have cd:=f.size;clear f X bi al ed HV c0 c1 K cz Z;cases d:aV C.ts q [59]
    ·have Q:Hid (r=.error (aR C.ts q).line):=by show _=_;rw[P.out,wK d];rfl
     rw[d] at j;clear d P;go_wp2_with fail;refine j.out.mono ?_;rintro e df ⟨H,ba⟩;obtain rfl:e=dF 4 (aR C.ts q).line:=ba;have T:=aB (I.out.trans H);clear H;go_wp2_with fail;exact⟨rfl,Out.err Q.out T.out⟩
    ·have Q:Hid (r=.ok (aS [100,111] t.line t.text [aS [99,97,108,108] t.line t.text l],q+1)):=by show _=_;rw[P.out,nK d];rfl
     rw[d] at j;clear d P;go_wp2_with fail;refine j.out.mono ?_;rintro e df ⟨H,ba⟩;obtain⟨rfl,bg⟩:=ba;have T:=aB H;have ck:=aB bg;have ad:=aB (H.keepB cq.out dk);have m0:=aA ad.out (i:=0) rfl;have m1:=aA ad.out (i:=1) rfl;have m2:=aA ad.out (i:=2) rfl;have dt:=aD ad.out;clear H bg;go_wp2_with fail;go_ret;exact Out.ok Q.out (I.out.trans T.out) ck.out (PN.mk (Y3 (Y3 (Y3 (Y3 (Y3 (Y3 (Y3 (Y3 (Y3 (Y3 (Y3 (Y3 (Y3 (Y3 (Y3 (Y3 (Y3 (⟨rfl,_,aS [99,97,108,108] t.line t.text l,rfl,rfl,rfl,rfl,rfl,rfl,rfl⟩)))))))))))))))))) (fun p hp=>by obtain rfl:=Z1.1 hp;exact Prt.ok.list (cn.out.grow (fun k h1 h2=>T.out.block k h2 (by omega)) (Z7 _) T.out.size)))
 rw[i5] at aa;obtain⟨r0,bu⟩:∃r0,r0=eX E C.ts (C.ts.length+1) (p+1) []:=⟨_,rfl⟩;have z:Hid (r=bR (aM C.ts [61] r0) fun bq q=>bZ (fun v=>aS [115,101,116] t.line t.text (bq++[v])) (aM C.ts [59] (E q))):=by show _=_;rw[aj.out,i5,bu];rfl
 have cc:=aB bu;have bj:Hid (r0≠.error 0):=fun e=>bt.out (by rw[z.out,e];rfl)
 clear i5 aj bu;go_wp2_with fail;refine aa.out.mono ?_;rintro e w8 ⟨rfl,B,U⟩;have u:=B.pb_lt;have ak:=B.g_lt;have K:=aB (U.keepB bv.out L);have dw:=aD K.out;have de:w.heap.size<=w8.heap.size:=(af.out.trans U).size;have HI:Hid (UR C E w w8 r0 w7.heap.size t (C.ts.length+1) (.slice none 0 0) w8):=⟨af.out.trans U,p+1,[],B,cc.out,by simp;omega,PLst.nil _ _,K.out,Z7 _⟩
 clear B U aa bv K af;go_wp2_with fail;go_loopg [5] (C.ts.length+1) (fun k v wr=>UR C E w w8 r0 w7.heap.size t k v wr)
 case atStart=>exact HI.out
 case round=>
  obtain⟨bp,q4,M,cf,ay,dz,bw,bh,du⟩:=hrel;obtain⟨x4,c4,rfl⟩:=bw.slice;have ab:=aB (dJ C wr q4 ⟨#[91]⟩ cf);have ed:(⟨#[91]⟩:ByteArray).data.toList=[91]:=rfl;rw[ed] at ab;have co:=aB bp;have bc:=aB bw;have ac:=aB bh;have ec:=bp.size
  obtain⟨k,rfl⟩:∃k,gk=k+1:=by
   cases gk with
   |zero=>exact absurd ay bj.out
   |succ k=>exact⟨k,rfl⟩
  clear bp cf bw bh HI cc ed;cases d:aV C.ts q4 [91]
  ·have s:Hid (r0=.ok (M,q4)):=by show _=_;rw[ay,eX,d];rfl
   rw[d] at ab;clear d ay;go_wp2_with fail;refine ab.out.mono ?_;rintro e w5 ⟨rfl,az,D⟩;have j:=aB (gB C w5 q4 ⟨#[61]⟩ az);have ed:(⟨#[61]⟩:ByteArray).data.toList=[61]:=rfl;rw[ed] at j;have ai:=aB (co.out.trans D);have ah:=aB (bc.out.keep D u);have S:=aB (D.keepB ac.out L);have db:=D.size;clear az D ab bc ed ac;cases d:aV C.ts q4 [61]
   ·have Q:Hid (r=.error (aR C.ts q4).line):=by show _=_;rw[z.out,s.out,wK d];rfl
    rw[d] at j;clear d z s;go_wp2_with fail;refine j.out.mono ?_;rintro e w6 ⟨m,bo⟩;obtain rfl:e=dF 4 (aR C.ts q4).line:=bo;have N:=aB (ai.out.trans m);clear m;go_wp2_with fail;exact⟨rfl,Out.err Q.out N.out⟩
   ·obtain⟨rE,J⟩:∃rE,rE=aM C.ts [59] (E (q4+1)):=⟨_,rfl⟩;have P:Hid (r=bZ (fun v=>aS [115,101,116] t.line t.text (M++[v])) rE):=by show _=_;rw[z.out,s.out,nK d,J];rfl
    have am:aM C.ts [59] (E (q4+1))≠.error 0:=fun e=>bt.out (by rw[P.out,J,e];rfl)
    rw[d] at j;have bx:=aB J;clear d z s J;go_wp2_with fail;refine j.out.mono ?_;rintro e w6 ⟨m,bo⟩;obtain⟨rfl,aw⟩:=bo;have HX:=aB (dh.out w6.drew (q4+1) aw.drew am);simp only[<-bx.out] at HX;have N:=aB (ai.out.trans m);have dd:=aB (ah.out.keep m u);have G:=aB (m.keepB S.out L);have cy:=m.size;have m0:=aA G.out (i:=0) rfl;have m1:=aA G.out (i:=1) rfl;have eb:=aD G.out;clear aw m j ah S am;cases rE with
    |error l=>
     have Q:Hid (r=.error l):=P.out;go_wp2_with fail;go_region_law (refine thrown .nilIface ?_ ?_;(focus go_simp;go_at_call 209;refine HX.out.mono ?_;rintro e w9 ⟨y,rfl⟩;exact j6 rfl (Out.err Q.out (N.out.drew.trans y)));intro O)
     all_goals exact O.out.elim
    |ok aq=>
     obtain⟨a,q⟩:=aq;have Q:Hid (r=.ok (aS [115,101,116] t.line t.text (M++[a]),q)):=P.out;clear P;go_wp2_with fail;go_region_law (go_simp;go_at_call 209;refine HX.out.mono ?_;rintro e w9 ⟨y,ar,v9,rfl,ca⟩;obtain⟨T9,ee,rfl⟩:=ca.form;have A:=aB ((Fr.refl C.pb w6).drew.trans y);have ap:=aB ca;have ae:=aB ar;have Y:=aB (A.out.keepB G.out L);have d0:=aA Y.out (i:=0) rfl;have d1:=aA Y.out (i:=1) rfl;have dn:=aD Y.out;clear y ar ca)
     all_goals (go_wp2_with fail;go_ret)
     all_goals exact Out.ok Q.out (N.out.trans A.out) ae.out (PN.mk (Y3 (Y3 (Y3 (Y3 (Y3 (Y3 (Y3 (Y3 (Y3 (Y3 (Y4 (⟨rfl,_,_,M,a,rfl,rfl,rfl,rfl⟩)))))))))))) (fun p hp=>by
      simp only[Z6,e7,or_false] at hp;have dl:=A.out.size;rcases hp with rfl|rfl
      ·exact Prt.ok.list ((dd.out.keep A.out u).kid.grow (fun _ _ _=>rfl) (by omega) (Z7 _))
      ·exact Prt.ok.node (ap.out.grow (fun _ _ _=>rfl) (by show _<=w6.heap.size;omega) (Z7 _))))
  ·obtain⟨rE,J⟩:∃rE,rE=E (q4+1):=⟨_,rfl⟩
   have s:Hid (r0=bR (aM C.ts [93] rE) fun i q=>eX E C.ts k q (M++[i])):=by
    show _=_
    rw[ay,eX,d,J,if_pos rfl];cases aM C.ts [93] (E (q4+1))<;>rfl
   have am:E (q4+1)≠.error 0:=fun e=>bj.out (by rw[s.out,J,e];rfl)
   have bx:=aB J;rw[d] at ab;clear d ay J;go_wp2_with fail;refine ab.out.mono ?_;rintro e w5 ⟨rfl,az,D⟩;have HX:=aB (cr.out w5 (q4+1) az am);simp only[<-bx.out] at HX;have ai:=aB (co.out.trans D);have ah:=aB (bc.out.keep D u);have S:=aB (D.keepB ac.out L);have db:=D.size;clear az D ab bc am ac;cases rE with
   |error l=>
    have Q:Hid (r=.error l):=by show _=_;rw[z.out,s.out];rfl
    go_wp2_with fail;refine HX.out.mono ?_;rintro e w6 ⟨m,rfl⟩;have N:=aB (ai.out.trans m);clear m HX;go_wp2_with fail;exact⟨rfl,Out.err Q.out N.out⟩
   |ok dj=>
    obtain⟨a6,q6⟩:=dj;go_wp2_with fail;refine HX.out.mono ?_;rintro e w6 ⟨m,aw,v6,rfl,br⟩;obtain⟨T6,cw,rfl⟩:=br.form;obtain⟨vs,F,ax,bf,cl⟩:=ah.out.keep m u
    have ct:∀g,(Value.slice x4 M.length c4).ownBlock=some g->g<w5.heap.size:=by
     obtain⟨dy,F',bz,_⟩:=ah.out;exact cP bz
    have ce:=aB ct;have N:=aB (ai.out.trans m);have ci:=aB aw;have cj:=aB br;have G:=aB (m.keepB S.out L);have HALL:=aB (j6 bf cl);have cy:=m.size;have bd:∀k,(Value.slice x4 M.length c4).ownBlock=some k->w8.heap.size<=k:=cM ax;clear aw m br HX ah ai bf cl ct S;go_wp2_with (at_builtin;refine wpList_append_lies _ (by rfl) _ _ 181 (by rfl) w8.heap.size 74 i0 _ 1 16 underlying181 hi da dm dg rfl (by decide) _ _ _ (by rfl) (ax.alloc _) ⟨w6.heap.size,0,none⟩ 1 1 [.iface T6 (.agg cw)] (by rfl) (by rfl) (qZ _ _) (uB _ _) (by decide) (by unfold maxLen;omega) (by omega) (by simp;omega) (w6.heap.size+1) (by simp) ?_)
    intro g7 dv w9 an n be ef;have dc:=aB (PLst.snoc (lo:=w5.heap.size) HALL.out.1 HALL.out.2 cj.out (by omega) ce.out (fun k hk=>Z3 _ _ _ hk) (by simp) an n (be.imp_right (fun e=>by omega)))
    have ae:=aB ((ci.out.alloc _).grown (base:=w8.heap.size) n bd u ak);have A:=aB ((N.out.alloc _).grown n (fun k hk=>Z4 de (bd k hk)))
    have Y:Hid (w9.heap[w7.heap.size]?=some (.cells #[.int .i64 t.line,.string (bs t.text)] 179 (0,0))):=by
     show _=_
     rw[n.block _ (by simp;omega) (fun e=>by have:=bd _ e.symm;omega),Z3 _ _ _ (by omega)]
     exact G.out
    have dl:w8.heap.size<=w9.heap.size:=by have:=n.size;simp at this;omega
    have j:=aB (gB C w9 q6 ⟨#[93]⟩ ae.out);have ed:(⟨#[93]⟩:ByteArray).data.toList=[93]:=rfl;rw[ed] at j;clear ax an n be cj ci N HALL ce bd G ed;cases d:aV C.ts q6 [93]
    ·have Q:Hid (r=.error (aR C.ts q6).line):=by show _=_;rw[z.out,s.out,wK d];rfl
     rw[d] at j;clear d z s;go_wp2_with fail;refine j.out.mono ?_;rintro e di ⟨f,av⟩;obtain rfl:e=dF 4 (aR C.ts q6).line:=av;have I:=aB (A.out.trans f);clear f;go_wp2_with fail;exact⟨rfl,Out.err Q.out I.out⟩
    ·have aj:Hid (r0=eX E C.ts k (q6+1) (M++[a6])):=by show _=_;rw[s.out,nK d];rfl
     rw[d] at j;clear d s;go_wp2_with fail;refine j.out.mono ?_;rintro e di ⟨f,av⟩;obtain⟨rfl,X⟩:=av;have I:=aB (A.out.trans f);have cu:=aB (dc.out.keep f u);have bl:=aB (f.keepB Y.out L);have cp:=aB X;have cd:=f.size;clear f X;go_wp2_with fail;go_roundg k
     case measure=>omega
     case rel=>exact⟨I.out,q6+1,M++[a6],cp.out,aj.out,by simp;omega,by simpa using cu.out,bl.out,by omega⟩
end Go.Proofs.YtddnpoiiimjpcaaGreatDoor
