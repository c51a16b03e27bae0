/- Contracts of the program: operands with operations between them. -/
import Derived.Test.YtlflgmdcghfngaaGreatDoorP06
set_option linter.defProp false
set_option maxRecDepth 100000
set_option maxHeartbeats 4000000
namespace Go.Proofs.YtlflgmdcghfngaaGreatDoor
open Hs
open _root_.Go.Proofs.Tryz
open Go.RowKit
variable{acc fs l:List aE}{ts:List bC}{b b_ cb k lo q:Nat}{a w w':aG}{v:aQ}{t:bC}{c:bD}{F:bY}
def cJ_(C:Ctx)(L:Nat->cD aE)(w:aG)(r:cD aE)(lv tb l:Nat)(k:Nat)(v:aQ)(wr:aG):Prop:=
 Fr C.pb w wr/\∃q a,PAt C wr q/\r=bJ L C.ts lv k a q/\PN (Btw w.heap.size wr.heap.size) wr v a/\PlB wr tb l
def bR_{L:Nat->cD aE}{c:Nat}{a:aE}(d:c≠2)(h:((aT ts q).sort==112 && cK (aT ts q).x_==c)=true):
 bJ L ts c (k+1) a q=bX (L (q+1)) (λb e=>bJ L ts c k (aV (aT ts q).x_ (aT ts q).l_ [] [a,b]) e):=by
 rw[bJ,if_pos h];cases L (q+1) with
 |error l=>rfl
 |ok f=>simp only[if_neg d];rfl
def au_{L:Nat->cD aE}{a:aE}(h:((aT ts q).sort==112 && cK (aT ts q).x_==b)=false):
 bJ L ts b (k+1) a q=.ok (a,q):=by
 rw[bJ,if_neg (by rw[h];simp)]
def X6(C:Ctx)(L:Nat->cD aE)(F:Nat)(bk:∀S w,Sem.run prog (callFunc F S) w=.ok (.enter F S) w)(HF:PReads C F L)(j:Nat)(M:j≠2)(h9:j≠9)(d:List (List UInt8))(D:∀x,x∈d↔cK x=j)(ai:d.length<=100)(w:World)(p:Nat)(h:PAt C w p)(g au:Nat)(hg:g<w.heap.size)(al:g≠C.pb)(hc:∀i (hi:i<d.length),w.cell? ⟨g,i,none⟩=some (.string (bs d[i])))
 (H:bX (L p) (bJ L C.ts j (C.ts.length+1))≠.error 0):
 Calls prog 111 #[.pointer (some ⟨C.pb,0,none⟩),.func (.func F) #[.pointer (some ⟨C.pb,0,none⟩)] #[],.slice (some ⟨g,0,none⟩) d.length au] w (KU C w (bX (L p) (bJ L C.ts j (C.ts.length+1)))):=by
 have Q:∀x∈d,x≠[]:=λx hx e=>by rw[D,e] at hx;exact h9 (hx.symm.trans rfl)
 have av:=aB (λW q (hf:Fr C.pb w W) (hq:PAt C W q)=>LQ C W q d g au (ej hg hf.size) al ai Q (λi hi=>(zU (hf.block g hg al)).trans (hc i hi)) hq)
 have bg:=aB (λW q (hq:PAt C W q)=>AP (hq.tsk.tk q hq.lt) j h9 d D)
 have ab:=aB (nV C w p h);have U:L p≠.error 0:=λe=>H (by rw[e];rfl)
 have P:=aB (λw1 (hb:Below w.heap.size w w1)=>HF w1 p (h.below hb) U)
 have ax:=aB HF;have bh:=h.pb_lt;obtain⟨r,hr⟩:=E_ (bX (L p) (bJ L C.ts j (C.ts.length+1)));rw[<-hr] at H ⊢
 have HR:=aB hr;have ao:=aB H;clear h HF H hr U Q hc D;generalize (aT C.ts p).l_=pl at*;cases t:L p with
 |error l=>
  have G:Hid (r=.error l):=by show _=_;rw[HR.out,t];rfl
  rw[t] at P;clear t HR;go_enter func111,ntmps111;go_wp2_with fail;refine ab.out.mono ?_;rintro e w1 ⟨rfl,E⟩;have u:=aB E;clear E;go_wp2_with fail;refine(P.out w1 u.out).mono ?_;rintro e w2 ⟨s,rfl⟩;have bd:=aB ((Fr.below u.out).trans s);clear s;go_wp2_with fail;exact⟨rfl,Out.err G.out bd.out⟩
 |ok aq=>
  obtain⟨a0,q0⟩:=aq;have G:Hid (r=bJ L C.ts j (C.ts.length+1) a0 q0):=by show _=_;rw[HR.out,t];rfl
  rw[t] at P;clear t HR;go_enter func111,ntmps111;go_wp2_with fail;refine ab.out.mono ?_;rintro e w1 ⟨rfl,E⟩;have u:=aB E;clear E;go_wp2_with fail;refine(P.out w1 u.out).mono ?_;rintro e w2 ⟨s,am,v2,rfl,ag⟩;have bc:=u.out.size;have bj:=s.size
  have HI:Hid (cJ_ C L w r j w2.heap.size pl (C.ts.length+1) v2 (w2.alloc (.cells #[.int .i64 pl] 163))):=
   ⟨((Fr.below u.out).trans s).alloc _,q0,a0,am.alloc _,G.out,ag.grow (λk _ M=>ek _ _ _ M) bc s_,PlB.new _ _⟩
  obtain⟨T2,bp,rfl⟩:=ag.form;clear s am ag G P ab;go_wp2_with fail;go_loopg [8,9] (C.ts.length+1) (λk v o wr=>cJ_ C L w r j w2.heap.size pl k v wr)
  case atStart=>exact HI.out
  case round=>
   obtain⟨J,q,a,X,B,Z,T⟩:=hrel;obtain⟨T3,br,rfl⟩:=Z.form
   obtain⟨k,rfl⟩:∃k,gk=k+1:=by
    cases gk with
    |zero=>exact absurd B ao.out
    |succ k=>exact⟨k,rfl⟩
   have HA:=aB (av.out wr q J X);have HO:=aB (bg.out wr q X);have ap:(aT C.ts q).sort=112->cK (aT C.ts q).x_=j->(aT C.ts q).x_≠[]:=λ_ e1 e2=>h9 (by rw[<-e1,e2];rfl)
   have ah:=aB ap;have af:=aB J;have aa:=aB Z;have ak:=aB T;have bi:=J.size;clear J X Z T HI ap;generalize oZ C.ts q d=oo at*;generalize an:(if oo=[] then q else q+1)=qo at*
   have N:=aB an;clear an;cases f:((aT C.ts q).sort==112 && cK (aT C.ts q).x_==j)
   ·have G:Hid (r=.ok (a,q)):=by show _=_;rw[B];exact au_ f
    obtain rfl:oo=[]:=by rw[HO.out,f];rfl
    obtain rfl:q=qo:=N.out;clear f B HO N ah;simp only[bs] at HA;go_wp2_with fail;refine HA.out.mono ?_;rintro e w4 ⟨rfl,y,c⟩;have m:=aB c;have z:=aB y;clear c y;go_wp2_with fail;go_ret;exact Out.ok G.out (af.out.trans m.out) z.out (aa.out.grow (λk h1 M=>m.out.block k M o_) (en _) m.out.size)
   ·obtain⟨rE,K⟩:=E_ (L (q+1));have I:Hid (r=bX rE (λb q2=>bJ L C.ts j k (aV (aT C.ts q).x_ (aT C.ts q).l_ [] [a,b]) q2)):=by show _=_;rw[B,bR_ M f,K]
    have Y:oo=(aT C.ts q).x_:=by rw[HO.out,f];rfl
    have n:(aT C.ts q).sort=112/\cK (aT C.ts q).x_=j:=by simpa using f
    have V:oo≠[]:=by rw[Y];exact ah.out n.1 n.2
    have bb:Hid (cK (aT C.ts q).x_≠9):=by show _≠_;rw[n.2];exact h9
    obtain rfl:q+1=qo:=by rw[<-N.out,if_neg V]
    have aj:L (q+1)≠.error 0:=λe=>ao.out (by rw[I.out,K,e];rfl)
    have bo:(bs oo).toList.isEmpty=false:=by
     rw[cI];cases oo with
     |nil=>exact absurd rfl V
     |cons x l=>rfl
    have be:=aB K;have bf:=aB Y;clear f B K HO N ah n Y;go_wp2_with fail;refine HA.out.mono ?_;rintro e w4 ⟨rfl,y,c⟩;have P:=aB (ax.out w4.drew (q+1) y.drew aj);rw[<-be.out] at P;have az:=aB (aa.out.grow (λk h1 M=>c.block k M o_) (en _) c.size)
    have z:=aB (c.keepB ak.out o_)
    have m:=aB (af.out.trans c);have c0:=aA z.out (i:=0) rfl;have bq:=aC z.out;have bm:=c.size;clear c y aa ak af HA aj V;cases rE with
    |error l=>
     have G:Hid (r=.error l):=I.out;go_wp2_with fail;go_region_law (refine thrown .nilIface ?_ ?_;(focus go_simp;refine P.out.mono ?_;rintro e w5 ⟨A,rfl⟩;exact ff rfl (Out.err G.out (m.out.drew.trans A)));intro O)
     all_goals exact O.out.elim
    |ok iq=>
     obtain⟨i,q5⟩:=iq;have G:Hid (r=bJ L C.ts j k (aV (aT C.ts q).x_ (aT C.ts q).l_ [] [a,i]) q5):=I.out;clear I;go_wp2_with fail;go_region_law (go_simp;refine P.out.mono ?_;rintro e w5 ⟨A,ar,v5,rfl,ac⟩;obtain⟨T5,bn,rfl⟩:=ac.form;have ay:=aB ac;have ad:=aB A;have aw:=aB ar;have ae:=aB (((Fr.refl C.pb w4).drew.trans A).keepB z.out o_);have d0:=aA ae.out (i:=0) rfl;have bl:=aC ae.out;clear A ar ac)
     all_goals
      go_wp2_with fail;go_roundg k
      case measure=>omega
      case rel=>
       have ba:=ad.out.size
       exact⟨m.out.drew.trans ad.out,q5,_,aw.out,G.out,PN.mk (d6 (d6 (d6 (d6 (d6 (d6 (d6 (d6 (d7 ⟨rfl,pl,_,_,a,i,by rw[bf.out];rfl,bb.out,rfl,rfl⟩))))))))) (λp hp=>by
        simp only[eo,fi,or_false] at hp;rcases hp with rfl|rfl
        ·exact Prt.ok.node (az.out.grow (λk h1 M=>ad.out.block k M o_) (en _) ba)
        ·exact Prt.ok.node (ay.out.grow (λ_ _ _=>rfl) (by have:=m.out.size;exact this) (en _))),ae.out⟩
def qT(C:Ctx)(L:Nat->cD aE)(F:Nat)(o:∀b w,Sem.run prog (callFunc F b) w=.ok (.enter F b) w)(s:PReads C F L)(c:Nat)(d:c≠2)(z:c≠9)(a:cN)(f:∀x,x∈a↔cK x=c)(g:a.length<=100)(w:aG)(p:Nat)(h:PAt C w p)(n:Nat)(m:n=a.length)(cs:Array Value)(k:cs=(a.map λx=>Value.string (bs x)).toArray)
 (j:bX (L p) (bJ L C.ts c (C.ts.length+1))≠.error 0):
 Calls prog 111 #[aZ C.pb,.func (.func F) #[aZ C.pb] #[],.slice (some (aH w.heap.size 0)) n n] (w.alloc (.cells cs 9)) (KU C w (bX (L p) (bJ L C.ts c (C.ts.length+1)))):=by
 subst m;have r:=h.pb_lt;refine(X6 C L F o s c d z a f g _ p (h.alloc _) w.heap.size a.length s_ o_ ?_ j).mono λe B ⟨t,d⟩=>⟨((Fr.refl _ _).alloc _).trans t,?_⟩
 ·intro i y;refine aA (aN _ _ rfl _) ?_;rw[k];simp[y]
 ·cases q:bX (L p) (bJ L C.ts c (C.ts.length+1)) with
  |error l=>rw[q] at d;exact d
  |ok D=>
   rw[q] at d;obtain⟨u,v,A,m⟩:=d;exact⟨u,v,A,m.grow (λ_ _ _=>rfl) s_ cL⟩
def F5(fn:Fn)(a b:Array Value)(w:aG):(Instr.makeFunc fn a b).run prog w=.ok (.func fn a b) w:=rfl
def SD(C:Ctx)(L:Nat->cD aE)(n:PReads C 218 L):PReads C 209 (λp=>bX (L p) (bJ L C.ts 4 (C.ts.length+1))):=by
 intro w p h f;have s:=aB (qT C L 218 (λ_ _=>rfl) n 4 d_ d_ [[42],[47],[37]] dn_ d_ w p h 3 rfl #[.string ⟨#[42]⟩,.string ⟨#[47]⟩,.string ⟨#[37]⟩] rfl f)
 have i:=F5;show Calls _ _ _ _ (KU C w (bX (L p) (bJ L C.ts 4 (C.ts.length+1))))
 generalize bX (L p) (bJ L C.ts 4 (C.ts.length+1))=r at*;clear h f n;go_in
 go_wp2_with fail;refine s.mono ?_;rintro e t ⟨b,j⟩;cases r with
 |error l=>
  obtain rfl:e=cU 4 l:=j;have c:=aB b;clear b i;go_wp2_with fail;exact⟨rfl,Out.err rfl c⟩
 |ok o=>
  obtain⟨a,q⟩:=o;obtain⟨d,u,rfl,g⟩:=j;have c:=aB b;have m:=aB d;have k:=aB g;clear b d g i;go_wp2
  go_ret;exact Out.ok rfl c m k
def bn_(C:Ctx)(L:Nat->cD aE)(n:PReads C 209 L):PReads C 187 (λp=>bX (L p) (bJ L C.ts 3 (C.ts.length+1))):=by
 intro w p h f;have s:=aB (qT C L 209 (λ_ _=>rfl) n 3 d_ d_ [[43],[45]] do_ d_ w p h 2 rfl #[.string ⟨#[43]⟩,.string ⟨#[45]⟩] rfl f)
 have i:=F5;show Calls _ _ _ _ (KU C w (bX (L p) (bJ L C.ts 3 (C.ts.length+1))))
 generalize bX (L p) (bJ L C.ts 3 (C.ts.length+1))=r at*;clear h f n;go_in
 go_wp2_with fail;refine s.mono ?_;rintro e t ⟨b,j⟩;cases r with
 |error l=>
  obtain rfl:e=cU 4 l:=j;have c:=aB b;clear b i;go_wp2_with fail;exact⟨rfl,Out.err rfl c⟩
 |ok o=>
  obtain⟨a,q⟩:=o;obtain⟨d,u,rfl,g⟩:=j;have c:=aB b;have m:=aB d;have k:=aB g;clear b d g i;go_wp2
  go_ret;exact Out.ok rfl c m k
def cv_(C:Ctx)(L:Nat->cD aE)(n:PReads C 154 L):PReads C 112 (λp=>bX (L p) (bJ L C.ts 1 (C.ts.length+1))):=by
 intro w p h f;have s:=aB (qT C L 154 (λ_ _=>rfl) n 1 d_ d_ [[38,38]] dq_ d_ w p h 1 rfl #[.string ⟨#[38,38]⟩] rfl f)
 have i:=F5;show Calls _ _ _ _ (KU C w (bX (L p) (bJ L C.ts 1 (C.ts.length+1))))
 generalize bX (L p) (bJ L C.ts 1 (C.ts.length+1))=r at*;clear h f n;go_in
 go_wp2_with fail;refine s.mono ?_;rintro e t ⟨b,j⟩;cases r with
 |error l=>
  obtain rfl:e=cU 4 l:=j;have c:=aB b;clear b i;go_wp2_with fail;exact⟨rfl,Out.err rfl c⟩
 |ok o=>
  obtain⟨a,q⟩:=o;obtain⟨d,u,rfl,g⟩:=j;have c:=aB b;have m:=aB d;have k:=aB g;clear b d g i;go_wp2
  go_ret;exact Out.ok rfl c m k
def aK_(C:Ctx)(L:Nat->cD aE)(n:PReads C 112 L):PReads C 80 (λp=>bX (L p) (bJ L C.ts 0 (C.ts.length+1))):=by
 intro w p h f;have s:=aB (qT C L 112 (λ_ _=>rfl) n 0 d_ d_ [[124,124]] dr_ d_ w p h 1 rfl #[.string ⟨#[124,124]⟩] rfl f)
 have i:=F5;show Calls _ _ _ _ (KU C w (bX (L p) (bJ L C.ts 0 (C.ts.length+1))))
 generalize bX (L p) (bJ L C.ts 0 (C.ts.length+1))=r at*;clear h f n;go_in
 go_wp2_with fail;refine s.mono ?_;rintro e t ⟨b,j⟩;cases r with
 |error l=>
  obtain rfl:e=cU 4 l:=j;have c:=aB b;clear b i;go_wp2_with fail;exact⟨rfl,Out.err rfl c⟩
 |ok o=>
  obtain⟨a,q⟩:=o;obtain⟨d,u,rfl,g⟩:=j;have c:=aB b;have m:=aB d;have k:=aB g;clear b d g i;go_wp2
  go_ret;exact Out.ok rfl c m k
def NZ(C:Ctx)(L:Nat->cD aE)(v:PReads C 187 L):PReads C 154 (λp=>bX (L p) (bJ L C.ts 2 (C.ts.length+1))):=by
 intro w p h J;have N:=aB (nV C w p h);have I:L p≠.error 0:=λe=>J (by show bX _ _=_;rw[e];rfl)
 have G:=aB (λW (hb:Below w.heap.size w W)=>v W p (h.below hb) I)
 have af:=aB v;have ap:=h.pb_lt;obtain⟨r,hr⟩:=E_ (bX (L p) (bJ L C.ts 2 (C.ts.length+1)));have H:r≠.error 0:=hr▸J;show Calls _ _ _ _ (KU C w (bX (L p) (bJ L C.ts 2 (C.ts.length+1))))
 rw[<-hr];have HR:=aB hr;have ak:=aB H;clear h v J hr I H;generalize (aT C.ts p).l_=X at*;cases o:L p with
 |error l=>
  have v:Hid (r=.error l):=by show _=_;rw[HR.out,o];rfl
  rw[o] at G;clear o HR;go_enter func154,ntmps154;go_wp2_with fail;refine N.out.mono ?_;rintro e W ⟨rfl,y⟩;have f:=aB y;clear y;go_wp2_with fail;refine(G.out W f.out).mono ?_;rintro e w2 ⟨m,rfl⟩;have am:=aB ((Fr.below f.out).trans m);clear m;go_wp2_with fail;exact⟨rfl,Out.err v.out am.out⟩
 |ok aq=>
  obtain⟨a,q⟩:=aq;have aa:r=bJ L C.ts 2 (C.ts.length+1) a q:=by rw[HR.out,o];rfl
  rw[o] at G;clear o HR;have B:=aB aa;clear aa;go_enter func154,ntmps154;go_wp2_with fail;refine N.out.mono ?_;rintro e W ⟨rfl,y⟩;have f:=aB y;clear y;go_wp2_with fail;refine(G.out W f.out).mono ?_;rintro e w2 ⟨m,E,v2,rfl,V⟩;have al:=f.out.size;have ar:=m.size;have M:=aB (V.grow (lo':=w.heap.size) (w':=w2.alloc (.cells #[.int .i64 X] 163)) (hi':=w2.heap.size+1) (λk _ Q=>ek _ _ _ Q) al s_)
  have U:=aB (((Fr.below f.out).trans m).alloc (.cells #[.int .i64 X] 163));have Z:=aB (PlB.new w2 X);have aj:=aB (E.alloc (.cells #[.int .i64 X] 163));obtain⟨T3,ay,rfl⟩:=V.form;have HO:=aB (AP (E.tsk.tk q E.lt) 2 d_ [[61,61],[33,61],[60],[60,61]] dp_)
  clear m E V G N f;generalize j:oZ C.ts q [[61,61],[33,61],[60],[60,61]]=O at*;have HM:=aB (LU C _ q aj.out [[61,61],[33,61],[60],[60,61]] d_ (by intro x hx;simp at hx;rcases hx with rfl|rfl|rfl|rfl<;>simp) O j (w2.heap.size+1) s_ 4 rfl #[.string ⟨#[61,61]⟩,.string ⟨#[33,61]⟩,.string ⟨#[60]⟩,.string ⟨#[60,61]⟩] rfl)
  generalize ab:(if O=[] then q else q+1)=qo at*
  have D:=aB ab;clear ab j;cases d:((aT C.ts q).sort==112 && cK (aT C.ts q).x_==2)
  ·have v:Hid (r=.ok (a,q)):=by show _=_;rw[B.out];exact au_ d
   obtain rfl:O=[]:=by rw[HO.out,d];rfl
   obtain rfl:q=qo:=D.out;clear d B HO D;simp only[bs] at HM;go_wp2_with fail;refine HM.out.mono ?_;rintro e w4 ⟨rfl,s,c⟩;have n:=aB c;have t:=aB s;have S:=c.size;simp at S;clear c s;go_wp2_with fail;go_ret;exact Out.ok v.out (U.out.trans n.out) t.out (M.out.grow (λk h1 Q=>n.out.block k (by simpa using Q) o_) (en _) o_)
  ·obtain⟨rE,A⟩:=E_ (L (q+1))
   have z:Hid (r=cG (λb=>aV (aT C.ts q).x_ (aT C.ts q).l_ [] [a,b]) rE):=by
    show _=_
    rw[B.out,bJ,if_pos d,A];cases L (q+1)<;>rfl
   have j:O=(aT C.ts q).x_:=by rw[HO.out,d];rfl
   have g:(aT C.ts q).sort=112/\cK (aT C.ts q).x_=2:=by simpa using d
   have K:O≠[]:=by
    intro e;rw[<-j,e] at g;exact absurd g.2 d_
   have ai:Hid (cK (aT C.ts q).x_≠9):=by show _≠_;rw[g.2];decide
   obtain rfl:q+1=qo:=by rw[<-D.out,if_neg K]
   have Y:L (q+1)≠.error 0:=λe=>ak.out (by rw[z.out,A,e];rfl)
   have aw:(bs O).toList.isEmpty=false:=by
    rw[cI];cases O with
    |nil=>exact absurd rfl K
    |cons x l=>rfl
   have an:=aB A;have ao:=aB j;clear d B A HO D g j;go_wp2_with fail;refine HM.out.mono ?_;rintro e w4 ⟨rfl,s,c⟩;have G:=aB (af.out w4.drew (q+1) s.drew Y);rw[<-an.out] at G;have S:=c.size;simp at S;have ah:=aB (M.out.grow (lo':=w.heap.size) (hi':=w4.heap.size) (λk h1 Q=>c.block k (by simpa using Q) o_) (en _) o_)
   have t:=aB (c.keepB Z.out o_)
   have n:=aB (U.out.trans c);have c0:=aA t.out (i:=0) rfl;have ax:=aC t.out;clear c s M Z U HM Y K;cases rE with
   |error l=>
    have v:Hid (r=.error l):=z.out;go_wp2_with fail;go_region_law (refine thrown .nilIface ?_ ?_;(focus go_simp;go_at_call 187;refine G.out.mono ?_;rintro e w5 ⟨u,rfl⟩;exact ff rfl (Out.err v.out (n.out.drew.trans u)));intro F)
    all_goals exact F.out.elim
   |ok iq=>
    obtain⟨i,q5⟩:=iq;have v:Hid (r=.ok (aV (aT C.ts q).x_ (aT C.ts q).l_ [] [a,i],q5)):=z.out;clear z;go_wp2_with fail;go_region_law (go_simp;go_at_call 187;refine G.out.mono ?_;rintro e w5 ⟨u,ad,v5,rfl,P⟩;obtain⟨T5,av,rfl⟩:=P.form;have ag:=aB P;have T:=aB u;have ae:=aB ad;have ac:=aB (((Fr.refl C.pb w4).drew.trans u).keepB t.out o_);have d0:=aA ac.out (i:=0) rfl;have au:=aC ac.out;clear u ad P)
    all_goals (go_wp2_with fail;go_ret)
    all_goals exact Out.ok v.out (n.out.drew.trans T.out) ae.out (PN.mk (d6 (d6 (d6 (d6 (d6 (d6 (d6 (d6 (d7 ⟨rfl,X,_,_,a,i,by rw[ao.out];rfl,ai.out,rfl,rfl⟩))))))))) (λp hp=>by
     simp only[eo,fi,or_false] at hp;rcases hp with rfl|rfl
     ·exact Prt.ok.node (ah.out.grow (λk h1 Q=>T.out.block k Q o_) (en _) T.out.size)
     ·exact Prt.ok.node (ag.out.grow (λ_ _ _=>rfl) (by have:=n.out.size;exact this) (en _))))
def zH(C:Ctx):∀f,PReads C 80 (eM C.ts f)
 |0=>λ_ _ _ a=>absurd rfl a
 |f+1=>λw p h a=>aK_ C (gH (eM C.ts f) C.ts 4) (cv_ C (gH (eM C.ts f) C.ts 3) (NZ C (gH (eM C.ts f) C.ts 2) (bn_ C (gH (eM C.ts f) C.ts 1) (SD C (gH (eM C.ts f) C.ts 0) (J3 C (eM C.ts f) (zH C f) (C.ts.length+1)))))) w p h a
def MZ{b c:Type}(ts:List bC)(x:cC)(f:b->c)(r:cD b):aS ts x (cG f r)=cG f (aS ts x r):=by
 cases r with
 |error l=>rfl
 |ok d=>
  obtain⟨a,q⟩:=d;unfold aS cG;simp only;split<;>rfl
def TG(C:Ctx)(E:Nat->cD aE)(F:PReads C 80 E):PReads C 196 (λp=>aS C.ts [59] (E p)):=by
 intro w p h o;have s:E p≠.error 0:=λe=>o (by show aS _ _ _=_;rw[e];rfl)
 have A:=aB (F w p h s);have G:=h.pb_lt;show Calls _ _ _ _ (KU C w (aS C.ts [59] (E p)))
 obtain⟨r,z⟩:=E_ (aS C.ts [59] (E p));rw[<-z];generalize E p=I at*;have t:=aB z;clear h F o s z;cases I with
 |error l=>
  have u:Hid (r=.error l):=t;go_in
  go_wp2_with fail;refine A.mono ?_;rintro e B ⟨c,rfl⟩;have g:=aB c;clear c;go_wp2_with fail;exact⟨rfl,Out.err u g⟩
 |ok K=>
  obtain⟨a,q⟩:=K;go_in
  go_wp2_with fail;refine A.mono ?_;rintro e B ⟨c,n,P,rfl,i⟩;obtain⟨N,M,rfl⟩:=i.form;have d:=aB (gM C B q ⟨#[59]⟩ n);have D:(⟨#[59]⟩:ByteArray).data.toList=[59]:=rfl;rw[D] at d;have g:=aB c;have y:=aB i;have L:=c.size;clear n c i A D;cases b:bF C.ts q [59]
  ·have u:Hid (r=.error (aT C.ts q).l_):=by show _=_;rw[t.out];exact AC b
   rw[b] at d;clear b t;go_wp2_with fail;refine d.mono ?_;rintro e J ⟨f,j⟩;obtain rfl:e=cU 4 (aT C.ts q).l_:=j;go_wp2_with fail;exact⟨rfl,Out.err u (g.trans f)⟩
  ·have u:Hid (r=.ok (a,q+1)):=by show _=_;rw[t.out];exact pK b
   rw[b] at d;clear b t;go_wp2_with fail;refine d.mono ?_;rintro e J ⟨f,j⟩;obtain⟨rfl,v⟩:=j;have m:=aB f;have x:=aB v;clear f v;go_wp2
   go_ret;exact Out.ok u (g.trans m) x (y.grow (λk O H=>m.block k H o_) cL m.size)
def qZ(C:Ctx)(w:aG)(q:Nat)(l:List aE)(t:bC)(v:aQ)(wc:aG):Prop:=
 ∃cb sv,v=aZ cb/\cb≠C.pb/\Fr C.pb w wc/\PAt C wc q/\wc.heap[cb]?=some (.cells #[I_ t.l_,.string (bs t.x_),sv] 214 (0,0))/\PKid (Btw w.heap.size wc.heap.size) wc sv l
def qZ.late{C:Ctx}{b:aG}{c:aQ}(e:Fr C.pb w b)(g:Fr C.pb b a)(d:PAt C a q)(f:PKid (Btw b.drew.heap.size a.heap.size) a c l):
 qZ C w q l t (aZ a.heap.size) (a.alloc (.cells #[I_ t.l_,.string (bs t.x_),c] 214)):=by
 have h:=d.pb_lt;refine⟨a.heap.size,c,rfl,o_,(e.trans g).alloc _,d.alloc _,aN _ _ rfl _,f.grow (λk _ i=>ek _ _ _ i) ?_ s_⟩
 exact e.size
def qZ.early{C:Ctx}{d f:aG}{g:aQ}{cs:Array Value}{o:Obj}(m:Fr C.pb w d)(y:Fr C.pb d f)(s:PAt C f q)(n:C.pb<d.heap.size)(x:C.g<d.heap.size)(r:PKid (Btw (d.alloc o).drew.heap.size f.heap.size) f g l)(p:f.heap[d.heap.size]?=some (.cells cs 214 (0,0)))(h:cs.size=3):
 qZ C w q l t (aZ d.heap.size) (((f.setCell (aH d.heap.size 0) (I_ t.l_)).setCell (aH d.heap.size 1) (.string (bs t.x_))).setCell (aH d.heap.size 2) g):=by
 have e:=m.size;have j:∀(W:aG) (i:Nat) (u:aQ),(W.setCell (aH d.heap.size i) u).heap.size=W.heap.size:=λW i u=>by simp[World.setCell]
 refine⟨d.heap.size,g,rfl,o_,(((m.trans y).setCell (d6 e) _).setCell (d6 e) _).setCell (d6 e) _,((s.other o_ o_).other o_ o_).other o_ o_,?_,?_⟩
 ·rw[aK (aK (aK p))];congr 1
  match cs,h with
  |⟨[a,b,c]⟩,_=>rfl
 ·refine r.grow (λk A z=>?_) ?_ ?_
  ·have v:d.heap.size<k:=by have:(d.alloc o).drew.heap.size=d.heap.size+1:=s_
                            omega
   rw[ei _ _ _ _ (by show k≠d.heap.size;omega),ei _ _ _ _ (by show k≠d.heap.size;omega),ei _ _ _ _ (by show k≠d.heap.size;omega)]
  ·have:(d.alloc o).drew.heap.size=d.heap.size+1:=s_
   omega
  ·rw[j,j,j];exact en _
def I3(C:Ctx)(E:Nat->cD aE)(w w0:aG)(r0:cD (List aE))(nb:Nat)(t:bC)(k:Nat)(v:aQ)(wr:aG):Prop:=
 Fr C.pb w wr/\∃q acc,PAt C wr q/\r0=fH E C.ts k q acc/\acc.length+k<=4000/\PLst w0.heap.size wr v acc/\wr.heap[nb]?=some (.cells #[I_ t.l_,.string (bs t.x_)] 165 (0,0))/\w0.heap.size<=wr.heap.size
def XB(C:Ctx)(E:Nat->cD aE)(HE:PReads C 80 E):PReads C 198 (gY E C.ts):=by
 obtain⟨i0,hi,da,dm,dg⟩:=info_parts FX;intro w p h bk;have ao:=aB (nU C w p h);have cr:=aB HE;have dh:=aB (TG C E HE);have dx:=h.pb_lt;have eg:=h.g_lt;have dq:=h.len;obtain⟨r,hr⟩:=E_ (gY E C.ts p);rw[<-hr] at bk ⊢
 rw[gY] at hr;have n:=aB hr;have bt:=aB bk;clear h HE bk hr;generalize cs:aT C.ts p=t at*;have cx:=aB cs;clear cs;cases hs:(t.sort==110)
 ·rw[hs] at ao;have N:Hid (r=.error t.l_):=by show _=_;rw[n.out,hs];show Hs.bad _ _=_;unfold Hs.bad;rw[cx.out]
  clear hs n;go_enter func198,ntmps198;go_wp2_with fail;refine ao.out.mono ?_;rintro e w7 ⟨af,bn⟩;obtain rfl:e=cU 4 t.l_:=bn;have ae:=aB af;clear af;go_wp2_with fail;exact⟨rfl,Out.err N.out ae.out⟩
 rw[hs] at ao
 have ai:Hid (r=if bF C.ts (p+1) [40] then
  cG (λl=>aV [100,111] t.l_ t.x_ [aV [99,97,108,108] t.l_ t.x_ l]) (aS C.ts [59] (eZ E C.ts (p+1) [40] [41]))
  else
   bX (aS C.ts [61] (fH E C.ts (C.ts.length+1) (p+1) [])) λbq q=>
    cG (λv=>aV [115,101,116] t.l_ t.x_ (bq++[v])) (aS C.ts [59] (E q))):=by
  show _=_
  rw[n.out,hs];simp only[MZ];rfl
 clear n hs;go_enter func198,ntmps198;go_wp2_with fail;refine ao.out.mono ?_;rintro e w7 ⟨af,bn⟩;obtain⟨rfl,bb⟩:=bn;have ae:=aB (af.alloc (.cells #[.int .i64 t.l_,.string (bs t.x_)] 165));have X:=aB (dO C (w7.alloc (.cells #[.int .i64 t.l_,.string (bs t.x_)] 165)) (p+1) ⟨#[40]⟩ (bb.alloc _));have cm:(⟨#[40]⟩:ByteArray).data.toList=[40]:=rfl;rw[cm] at X;have bv:Hid ((w7.alloc (.cells #[.int .i64 t.l_,.string (bs t.x_)] 165)).heap[w7.heap.size]?=some (.cells #[.int .i64 t.l_,.string (bs t.x_)] 165 (0,0))):=aN _ _ rfl _;have J:w7.heap.size≠C.pb:=by have:=bb.pb_lt;omega
 have dr:=af.size;clear af bb ao cm;cases i5:bF C.ts (p+1) [40];rotate_left
 ·rw[i5] at X;obtain⟨r1,bm⟩:=E_ (iR E C.ts (p+1+1) [41]);have z:Hid (r=cG (λl=>aV [100,111] t.l_ t.x_ [aV [99,97,108,108] t.l_ t.x_ l]) (aS C.ts [59] (aS C.ts [41] r1))):=by show _=_;rw[ai.out,i5,bm];unfold eZ;rw[i5];rfl
  have ch:=aB bm;clear i5 ai bm;go_wp2_with fail;refine X.out.mono ?_;rintro e w8 ⟨rfl,B,Q⟩;have I:=aB (Q.keepB bv.out J);have au:=aB (ae.out.trans Q);have HV:=aB (λW (hW:PAt C W (p+1+1))=>vH C E cr.out W (p+1+1) ⟨#[41]⟩ hW r1 _ ch rfl (λe=>bt.out (by rw[z.out,e];rfl)))
  have cg:(⟨#[41]⟩:ByteArray).data.toList=[41]:=rfl;rw[cg] at HV;have V:=aB B;have c0:=aA I.out (i:=0) rfl;have c1:=aA I.out (i:=1) rfl;have cz:=aC I.out;have ds:=au.out.size;clear B Q X cg;cases hV:aS C.ts [41] r1 with
  |error l=>
   rw[hV] at HV;have N:Hid (r=.error l):=by show _=_;rw[z.out,hV];rfl
   clear hV;go_wp2_with fail;go_region_law (refine thrown (.slice none 0 0) ?_ ?_;(focus go_simp;go_at_call 212;refine(HV.out _ ?_).mono ?_;(focus first|exact V.out.drew|exact(V.out.alloc _).drew);rintro e w9 ⟨y,rfl⟩;first|exact ff rfl (Out.err N.out (au.out.drew.trans y))|exact ff rfl (Out.err N.out ((au.out.alloc _).drew.trans y)));intro L)
   all_goals exact L.out.elim
  |ok lq=>
   obtain⟨l,q⟩:=lq;rw[hV] at HV;have M:Hid (r=cG (λl=>aV [100,111] t.l_ t.x_ [aV [99,97,108,108] t.l_ t.x_ l]) (aS C.ts [59] (.ok (l,q)))):=by show _=_;rw[z.out,hV]
   clear hV z ch;have u:=V.out.pb_lt;have aj:=V.out.g_lt;go_wp2_with fail;go_cut [4] (λv wc=>qZ C w q l t v wc)
   case first=>
    go_region_law (go_simp;go_at_call 212;refine(HV.out _ ?_).mono ?_;(focus first|exact V.out.drew|exact(V.out.alloc _).drew);rintro e w9 ⟨y,ar,v,rfl,hk⟩;obtain⟨x,c,rfl⟩:=hk.slice;have HK:=aB hk;have ad:=aB ar;(first|(have cv:=y;have A:=aB (((Fr.refl C.pb w8).alloc (.cells #[.int .i64 0,.string ⟨#[]⟩,.slice none 0 0] 214)).drew.trans y);have S:=aB (y.keepB (b:=w8.heap.size) (o:=.cells #[.int .i64 0,.string ⟨#[]⟩,.slice none 0 0] 214 (0,0)) (aN w8 _ rfl _) o_);have z0:=aA S.out (i:=0) rfl;have z1:=aA S.out (i:=1) rfl;have z2:=aA S.out (i:=2) rfl;have y0:=aD (i:=0) S.out;have y1:=aD (i:=1) S.out;have y2:=aD (i:=2) S.out;have ea:=aC S.out;clear cv)|have A:=aB ((Fr.refl C.pb w8).drew.trans y));have ap:=aB (A.out.keepB I.out J);have d0:=aA ap.out (i:=0) rfl;have d1:=aA ap.out (i:=1) rfl;have dn:=aC ap.out;clear y ar hk)
    all_goals
     go_wp2_with fail;go_meet
     case rel=>first|exact qZ.late au.out A.out ad.out HK.out|exact qZ.early au.out A.out ad.out u aj HK.out S.out rfl
   case rest=>
    obtain⟨cb,sv,rfl,dk,j,T,bi,ak⟩:=hcut;obtain⟨x,c,rfl⟩:=ak.slice;have f:=aB (gM C wc q ⟨#[59]⟩ T);have ed:(⟨#[59]⟩:ByteArray).data.toList=[59]:=rfl;rw[ed] at f;have ab:=aB j;have cq:=aB bi;have cn:=aB ak;have cd:=j.size;clear j T bi ak ed HV c0 c1 I cz V;cases d:bF C.ts q [59]
    ·have N:Hid (r=.error (aT C.ts q).l_):=by show _=_;rw[M.out,AC d];rfl
     rw[d] at f;clear d M;go_wp2_with fail;refine f.out.mono ?_;rintro e df ⟨O,ba⟩;obtain rfl:e=cU 4 (aT C.ts q).l_:=ba;go_wp2_with fail;exact⟨rfl,Out.err N.out (ab.out.trans O)⟩
    ·have N:Hid (r=.ok (aV [100,111] t.l_ t.x_ [aV [99,97,108,108] t.l_ t.x_ l],q+1)):=by show _=_;rw[M.out,pK d];rfl
     rw[d] at f;clear d M;go_wp2_with fail;refine f.out.mono ?_;rintro e df ⟨O,ba⟩;obtain⟨rfl,bg⟩:=ba;have al:=aB O;have ck:=aB bg;have ac:=aB (O.keepB cq.out dk);have m0:=aA ac.out (i:=0) rfl;have m1:=aA ac.out (i:=1) rfl;have m2:=aA ac.out (i:=2) rfl;have dt:=aC ac.out;clear O bg;go_wp2_with fail;go_ret;exact Out.ok N.out (ab.out.trans al.out) ck.out (PN.mk (d6 (d6 (d6 (d6 (d6 (d6 (d6 (d6 (d6 (d6 (d6 (d6 (d6 (d6 (d6 (d6 (d6 (⟨rfl,_,aV [99,97,108,108] t.l_ t.x_ l,rfl,rfl,rfl,rfl,rfl,rfl,rfl⟩)))))))))))))))))) (λp hp=>by obtain rfl:=ew.1 hp;exact Prt.ok.list (cn.out.grow (λk h1 h2=>al.out.block k h2 o_) (en _) al.out.size)))
 rw[i5] at X;obtain⟨r0,bu⟩:=E_ (fH E C.ts (C.ts.length+1) (p+1) []);have z:Hid (r=bX (aS C.ts [61] r0) λbq q=>cG (λv=>aV [115,101,116] t.l_ t.x_ (bq++[v])) (aS C.ts [59] (E q))):=by show _=_;rw[ai.out,i5,bu];rfl
 have cc:=aB bu;have bj:Hid (r0≠.error 0):=λe=>bt.out (by rw[z.out,e];rfl)
 clear i5 ai bu;go_wp2_with fail;refine X.out.mono ?_;rintro e w8 ⟨rfl,B,Q⟩;have u:=B.pb_lt;have aj:=B.g_lt;have I:=aB (Q.keepB bv.out J);have dw:=aC I.out;have de:w.heap.size<=w8.heap.size:=(ae.out.trans Q).size;have HI:Hid (I3 C E w w8 r0 w7.heap.size t (C.ts.length+1) (.slice none 0 0) w8):=⟨ae.out.trans Q,p+1,[],B,cc.out,t_,PLst.nil _ _,I.out,en _⟩
 clear B Q X bv I ae;go_wp2_with fail;go_loopg [5] (C.ts.length+1) (λk v wr=>I3 C E w w8 r0 w7.heap.size t k v wr)
 case atStart=>exact HI.out
 case round=>
  obtain⟨bp,q4,K,cf,ay,dz,bw,bh,du⟩:=hrel;obtain⟨x4,c4,rfl⟩:=bw.slice;have Y:=aB (dO C wr q4 ⟨#[91]⟩ cf);have ed:(⟨#[91]⟩:ByteArray).data.toList=[91]:=rfl;rw[ed] at Y;have co:=aB bp;have bc:=aB bw;have aa:=aB bh;have ec:=bp.size
  obtain⟨k,rfl⟩:∃k,gk=k+1:=by
   cases gk with
   |zero=>exact absurd ay bj.out
   |succ k=>exact⟨k,rfl⟩
  clear bp cf bw bh HI cc ed;cases d:bF C.ts q4 [91]
  ·have n:Hid (r0=.ok (K,q4)):=by show _=_;rw[ay,fH,d];rfl
   rw[d] at Y;clear d ay;go_wp2_with fail;refine Y.out.mono ?_;rintro e w5 ⟨rfl,az,D⟩;have f:=aB (gM C w5 q4 ⟨#[61]⟩ az);have ed:(⟨#[61]⟩:ByteArray).data.toList=[61]:=rfl;rw[ed] at f;have ah:=aB (co.out.trans D);have ag:=aB (bc.out.keep D u);have P:=aB (D.keepB aa.out J);have db:=D.size;clear az D Y bc ed aa;cases d:bF C.ts q4 [61]
   ·have N:Hid (r=.error (aT C.ts q4).l_):=by show _=_;rw[z.out,n.out,AC d];rfl
    rw[d] at f;clear d z n;go_wp2_with fail;refine f.out.mono ?_;rintro e w6 ⟨s,bo⟩;obtain rfl:e=cU 4 (aT C.ts q4).l_:=bo;go_wp2_with fail;exact⟨rfl,Out.err N.out (ah.out.trans s)⟩
   ·obtain⟨rE,H⟩:=E_ (aS C.ts [59] (E (q4+1)));have M:Hid (r=cG (λv=>aV [115,101,116] t.l_ t.x_ (K++[v])) rE):=by show _=_;rw[z.out,n.out,pK d,H];rfl
    have am:aS C.ts [59] (E (q4+1))≠.error 0:=λe=>bt.out (by rw[M.out,H,e];rfl)
    rw[d] at f;have bx:=aB H;clear d z n H;go_wp2_with fail;refine f.out.mono ?_;rintro e w6 ⟨s,bo⟩;obtain⟨rfl,aw⟩:=bo;have HX:=aB (dh.out w6.drew (q4+1) aw.drew am);simp only[<-bx.out] at HX;have Z:=aB (ah.out.trans s);have dd:=aB (ag.out.keep s u);have G:=aB (s.keepB P.out J);have cy:=s.size;have m0:=aA G.out (i:=0) rfl;have m1:=aA G.out (i:=1) rfl;have eb:=aC G.out;clear aw s f ag P am;cases rE with
    |error l=>
     have N:Hid (r=.error l):=M.out;go_wp2_with fail;go_region_law (refine thrown .nilIface ?_ ?_;(focus go_simp;go_at_call 196;refine HX.out.mono ?_;rintro e w9 ⟨y,rfl⟩;exact ff rfl (Out.err N.out (Z.out.drew.trans y)));intro L)
     all_goals exact L.out.elim
    |ok aq=>
     obtain⟨a,q⟩:=aq;have N:Hid (r=.ok (aV [115,101,116] t.l_ t.x_ (K++[a]),q)):=M.out;clear M;go_wp2_with fail;go_region_law (go_simp;go_at_call 196;refine HX.out.mono ?_;rintro e w9 ⟨y,ar,v9,rfl,ca⟩;obtain⟨T9,ee,rfl⟩:=ca.form;have A:=aB ((Fr.refl C.pb w6).drew.trans y);have ap:=aB ca;have ad:=aB ar;have U:=aB (A.out.keepB G.out J);have d0:=aA U.out (i:=0) rfl;have d1:=aA U.out (i:=1) rfl;have dn:=aC U.out;clear y ar ca)
     all_goals (go_wp2_with fail;go_ret)
     all_goals exact Out.ok N.out (Z.out.trans A.out) ad.out (PN.mk (d6 (d6 (d6 (d6 (d6 (d6 (d6 (d6 (d6 (d6 (d7 (⟨rfl,_,_,K,a,rfl,rfl,rfl,rfl⟩)))))))))))) (λp hp=>by
      simp only[eo,fi,or_false] at hp;have dl:=A.out.size;rcases hp with rfl|rfl
      ·exact Prt.ok.list ((dd.out.keep A.out u).kid.grow (λ_ _ _=>rfl) o_ (en _))
      ·exact Prt.ok.node (ap.out.grow (λ_ _ _=>rfl) (by show _<=w6.heap.size;omega) (en _))))
  ·obtain⟨rE,H⟩:=E_ (E (q4+1))
   have n:Hid (r0=bX (aS C.ts [93] rE) λi q=>fH E C.ts k q (K++[i])):=by
    show _=_
    rw[ay,fH,d,H,if_pos rfl];cases aS C.ts [93] (E (q4+1))<;>rfl
   have am:E (q4+1)≠.error 0:=λe=>bj.out (by rw[n.out,H,e];rfl)
   have bx:=aB H;rw[d] at Y;clear d ay H;go_wp2_with fail;refine Y.out.mono ?_;rintro e w5 ⟨rfl,az,D⟩;have HX:=aB (cr.out w5 (q4+1) az am);simp only[<-bx.out] at HX;have ah:=aB (co.out.trans D);have ag:=aB (bc.out.keep D u);have P:=aB (D.keepB aa.out J);have db:=D.size;clear az D Y bc am aa;cases rE with
   |error l=>
    have N:Hid (r=.error l):=by show _=_;rw[z.out,n.out];rfl
    go_wp2_with fail;refine HX.out.mono ?_;rintro e w6 ⟨s,rfl⟩;have Z:=aB (ah.out.trans s);clear s HX;go_wp2_with fail;exact⟨rfl,Out.err N.out Z.out⟩
   |ok dj=>
    obtain⟨a6,q6⟩:=dj;go_wp2_with fail;refine HX.out.mono ?_;rintro e w6 ⟨s,aw,v6,rfl,br⟩;obtain⟨T6,cw,rfl⟩:=br.form;obtain⟨vs,F,ax,bf,cl⟩:=ag.out.keep s u
    have ct:∀g,(Value.slice x4 K.length c4).ownBlock=some g->g<w5.heap.size:=by
     obtain⟨dy,F',bz,_⟩:=ag.out;exact cQ bz
    have ce:=aB ct;have Z:=aB (ah.out.trans s);have ci:=aB aw;have cj:=aB br;have G:=aB (s.keepB P.out J);have HALL:=aB (ff bf cl);have cy:=s.size;have bd:∀k,(Value.slice x4 K.length c4).ownBlock=some k->w8.heap.size<=k:=cT ax;clear aw s br HX ag ah bf cl ct P;go_wp2_with (at_builtin;refine wpList_append_lies _ r_ _ _ 167 r_ w8.heap.size 67 i0 _ 1 16 underlying167 hi da dm dg rfl d_ _ _ _ r_ (ax.alloc _) ⟨w6.heap.size,0,none⟩ 1 1 [.iface T6 (.agg cw)] r_ r_ (tX _ _) (xF _ _) d_ (by unfold maxLen;omega) o_ t_ (w6.heap.size+1) s_ ?_)
    intro g7 dv w9 an m be ef;have dc:=aB (PLst.snoc (lo:=w5.heap.size) HALL.out.1 HALL.out.2 cj.out o_ ce.out (λk hk=>ek _ _ _ hk) s_ an m (be.imp_right (λe=>by omega)))
    have ad:=aB ((ci.out.alloc _).grown (b_:=w8.heap.size) m bd u aj);have A:=aB ((Z.out.alloc _).grown m (λk hk=>em de (bd k hk)))
    have U:Hid (w9.heap[w7.heap.size]?=some (.cells #[.int .i64 t.l_,.string (bs t.x_)] 165 (0,0))):=by
     show _=_
     rw[m.block _ t_ (λe=>by have:=bd _ e.symm;omega),ek _ _ _ o_]
     exact G.out
    have dl:w8.heap.size<=w9.heap.size:=by have:=m.size;simp at this;omega
    have f:=aB (gM C w9 q6 ⟨#[93]⟩ ad.out);have ed:(⟨#[93]⟩:ByteArray).data.toList=[93]:=rfl;rw[ed] at f;clear ax an m be cj ci Z HALL ce bd G ed;cases d:bF C.ts q6 [93]
    ·have N:Hid (r=.error (aT C.ts q6).l_):=by show _=_;rw[z.out,n.out,AC d];rfl
     rw[d] at f;clear d z n;go_wp2_with fail;refine f.out.mono ?_;rintro e di ⟨j,av⟩;obtain rfl:e=cU 4 (aT C.ts q6).l_:=av;go_wp2_with fail;exact⟨rfl,Out.err N.out (A.out.trans j)⟩
    ·have ai:Hid (r0=fH E C.ts k (q6+1) (K++[a6])):=by show _=_;rw[n.out,pK d];rfl
     rw[d] at f;clear d n;go_wp2_with fail;refine f.out.mono ?_;rintro e di ⟨j,av⟩;obtain⟨rfl,T⟩:=av;have ab:=aB (A.out.trans j);have cu:=aB (dc.out.keep j u);have bl:=aB (j.keepB U.out J);have cp:=aB T;have cd:=j.size;clear j T;go_wp2_with fail;go_roundg k
     case measure=>omega
     case rel=>exact⟨ab.out,q6+1,K++[a6],cp.out,ai.out,t_,by simpa using cu.out,bl.out,o_⟩
def KW(lo:Nat)(w':aG)(v:aQ)(b:aE):Prop:=b.op=[98,108,111,99,107]/\PKid (Btw lo w'.heap.size) w' v b.y_
def dg_(C:Ctx)(w:aG)(r:cD aE)(e:Ending)(w':aG):Prop:=Out C w r (KW w.heap.size) e w'
def BReads(C:Ctx)(F:Nat)(X:Nat->cD aE):Prop:=∀w p,PAt C w p->X p≠.error 0->Calls prog F #[aZ C.pb] w (dg_ C w (X p))
def xM(B:Nat->cD aE)(ts:List bC)(q:Nat):cD (Option aE):=if bF ts q [101,108,115,101] then cG some (B (q+1)) else .ok (none,q)
def be_(lo:Nat)(w':aG)(v:aQ):Option aE->Prop
 |none=>v=bG
 |some b=>KW lo w' v b
def KW.slice{b:aE}(h:KW lo w v b):∃x n c,v=.slice x n c:=by
 obtain⟨x,c,e⟩:=h.2.slice;exact⟨x,_,c,e⟩
def be_.slice{o:Option aE}(h:be_ lo w v o):∃x n c,v=.slice x n c:=by
 cases o with
 |none=>exact⟨none,0,0,h⟩
 |some b=>exact KW.slice h
def KW.grow{lo':Nat}{b:aE}(h:KW lo w v b)(a:∀k,lo<=k->k<w.heap.size->w'.heap[k]?=w.heap[k]?)(d:lo'<=lo)(c:w.heap.size<=w'.heap.size):KW lo' w' v b:=⟨h.1,h.2.grow a d c⟩
def b4_(E B:Nat->cD aE)(ts:List bC)(p:Nat):
 zF E B ts p=bX (E (p+1)) λc q=>bX (B q) λb a=>cG (λo=>aV [105,102] (aT ts p).l_ [] (c::b::o.toList)) (xM B ts a):=by
 unfold zF;cases E (p+1) with
 |error l=>rfl
 |ok e=>
  obtain⟨c,q⟩:=e;show bX (B q) _=bX (B q) _
  cases B q with
  |error l=>rfl
  |ok d=>
   obtain⟨b,a⟩:=d;show (if _ then _ else _)=cG _ (xM B ts a)
   unfold xM;split
   ·cases B (a+1)<;>rfl
   ·rfl
def aL_(C:Ctx)(B:Nat->cD aE)(L:BReads C 127 B)(w:aG)(q:Nat)(h:PAt C w q)(r:cD (Option aE))(M:r=xM B C.ts q)(p:r≠.error 0):
 Calls prog 197 #[aZ C.pb] w (Out C w r (be_ w.heap.size)):=by
 have o:=aB (dO C w q ⟨#[101,108,115,101]⟩ h);have N:(⟨#[101,108,115,101]⟩:ByteArray).data.toList=[101,108,115,101]:=rfl;rw[N] at o;have y:=aB L;have u:=aB M;have A:=aB p;clear h L M p N;cases a:bF C.ts q [101,108,115,101]
 ·have G:Hid (r=.ok (none,q)):=by show _=_;rw[u.out];unfold xM;rw[a];rfl
  rw[a] at o;clear a u;go_in
  go_wp2_with fail;refine o.mono ?_;rintro e K ⟨rfl,f,d⟩;have F:=aB f;have i:=aB d;clear f d;go_wp2
  go_ret;exact Out.ok G i F rfl
 ·obtain⟨v,j⟩:=E_ (B (q+1));have k:Hid (r=cG some v):=by show _=_;rw[u.out,j];unfold xM;rw[a];rfl
  have t:B (q+1)≠.error 0:=λe=>A (by rw[k.out,j,e];rfl)
  have z:=aB j;rw[a] at o;clear a u j;go_in
  go_wp2_with fail;refine o.mono ?_;rintro e K ⟨rfl,f,d⟩;have J:=aB (y K (q+1) f t);rw[<-z.out] at J;have i:=aB d;have D:=d.size;clear f d t o;cases v with
  |error l=>
   go_wp2_with fail;refine J.mono ?_;rintro e P ⟨g,rfl⟩;go_wp2_with fail;exact⟨rfl,Out.err k (i.trans g)⟩
  |ok O=>
   obtain⟨b,Q⟩:=O;have G:Hid (r=.ok (some b,Q)):=k;go_wp2_with fail;refine J.mono ?_;rintro e P ⟨g,s,S,rfl,m⟩;have E:=aB (i.trans g);have I:=aB s;have H:=aB m;obtain⟨x,n,c,rfl⟩:=m.slice;clear g s m;go_wp2
   go_ret;exact Out.ok G E I (show KW _ _ _ _ from H.grow (λ_ _ _=>rfl) D cL)
def l8(C:Ctx)(E B:Nat->cD aE)(HE:PReads C 80 E)(HB:BReads C 127 B):PReads C 171 (jU E B C.ts):=by
 intro w p h bb;have bo:=aB (nV C w p h);have bz:=aB HE;have bi:=aB HB;have bh:=aB (TG C E HE);have ce:=aB (XB C E HE);have H:=aB h;have cm:=h.pb_lt;have ct:=h.g_lt;obtain⟨r,hr⟩:=E_ (jU E B C.ts p);rw[<-hr] at bb ⊢
 rw[jU] at hr;have j:=aB hr;have Z:=aB bb;clear h HE HB bb hr;generalize bt:(aT C.ts p).l_=X at*;have aj:=aB bt;clear bt;go_in
 go_wp2_with fail;refine bo.mono ?_;rintro e w1 ⟨rfl,au⟩;have u:=aB ((Fr.below (pb:=C.pb) au).alloc (.cells #[I_ X] 163));have M:=aB ((H.below au).alloc (.cells #[I_ X] 163));have D:=aB (PlB.new w1 X);have y:w1.heap.size≠C.pb:=by have:=au.size;omega
 have cp:=au.size;clear au bo;have F:=aB (dO C (w1.alloc (.cells #[I_ X] 163)) p ⟨#[118,97,114]⟩ M);rw[show (⟨#[118,97,114]⟩:ByteArray).data.toList=[118,97,114] from rfl] at F
 cases d:bF C.ts p [118,97,114];rotate_left
 ·have HRt:=aB (j.trans (if_pos d));rw[d] at F;clear d j;go_wp2_with fail;refine F.mono ?_;rintro e W1 ⟨rfl,z,I⟩;have HFt:=aB (u.trans I);have HBt:=aB (I.keepB D y);clear I F u M D;have ah:=aB (nU C W1 (p+1) z);clear z;obtain⟨t,ht⟩:=E_ (aT C.ts (p+1));rw[<-ht] at ah;have bf:=aB ht;clear ht;cases hs:(t.sort==110)
  ·have S:Hid (r=.error t.l_):=by show _=_;rw[HRt.out];unfold tQ;rw[<-bf.out,hs];show Hs.bad _ _=_;unfold Hs.bad;rw[<-bf.out]
   rw[hs] at ah;clear hs HRt;go_wp2_with fail;refine ah.mono ?_;rintro e w2 ⟨g,bk⟩;obtain rfl:e=cU 4 t.l_:=bk;go_wp2_with fail;exact⟨rfl,Out.err S (HFt.trans g)⟩
  have K:Hid (r=if bF C.ts (p+2) [61] then cG (λv=>aV [118,97,114] X [] [aV [116,97,114,103,101,116] t.l_ t.x_ [],v]) (aS C.ts [59] (E (p+3))) else Hs.bad C.ts (p+2)):=by
   show _=_
   rw[HRt.out];unfold tQ;rw[<-bf.out,hs,MZ,aj.out];rfl
  rw[hs] at ah;clear hs HRt;go_wp2_with fail;refine ah.mono ?_;rintro e w2 ⟨g,bk⟩;obtain⟨rfl,x⟩:=bk;have Q:=aB ((HFt.trans g).alloc (.cells #[I_ t.l_,.string (bs t.x_)] 165));have ai:=aB (gM C (w2.alloc (.cells #[I_ t.l_,.string (bs t.x_)] 165)) (p+2) ⟨#[61]⟩ (x.alloc _));have br:(⟨#[61]⟩:ByteArray).data.toList=[61]:=rfl;rw[br] at ai;have bw:Hid ((w2.alloc (.cells #[I_ t.l_,.string (bs t.x_)] 165)).heap[w2.heap.size]?=some (.cells #[I_ t.l_,.string (bs t.x_)] 165 (0,0))):=aN _ _ rfl _;have bp:w2.heap.size≠C.pb:=by have:=x.pb_lt;omega
  have L:=aB ((g.alloc (.cells #[I_ t.l_,.string (bs t.x_)] 165)).keepB HBt y);clear g x ah br;cases d:bF C.ts (p+2) [61]
  ·have S:Hid (r=.error (aT C.ts (p+2)).l_):=by show _=_;rw[K.out,d];rfl
   rw[d] at ai;clear d K;go_wp2_with fail;refine ai.mono ?_;rintro e w3 ⟨V,be⟩;obtain rfl:e=cU 4 (aT C.ts (p+2)).l_:=be;go_wp2_with fail;exact⟨rfl,Out.err S (Q.trans V)⟩
  obtain⟨T,m⟩:=E_ (aS C.ts [59] (E (p+3)));have n:Hid (r=cG (λv=>aV [118,97,114] X [] [aV [116,97,114,103,101,116] t.l_ t.x_ [],v]) T):=by show _=_;rw[K.out,d,m];rfl
  have P:aS C.ts [59] (E (p+3))≠.error 0:=λe=>Z (by rw[n.out,m,e];rfl)
  have ar:=aB m;rw[d] at ai;clear d K m;go_wp2_with fail;refine ai.mono ?_;rintro e w3 ⟨V,be⟩;obtain⟨rfl,al⟩:=be;have U:=aB (bh w3.drew (p+3) al.drew P);simp only[<-ar.out] at U;have ad:=aB (Q.trans V);have bg:=aB (V.keepB L y);have ag:=aB (V.keepB bw bp);have c0:=aA bg (i:=0) rfl;have am:=aC bg;have m0:=aA ag (i:=0) rfl;have m1:=aA ag (i:=1) rfl;have cr:=aC ag;have ak:=ad.size;clear V al ai L bw P;cases T with
  |error l=>
   have S:Hid (r=.error l):=n;go_wp2_with fail;go_region_law (refine thrown .nilIface ?_ ?_;(focus go_simp;go_at_call 196;refine U.mono ?_;rintro e w4 ⟨f,rfl⟩;exact ff rfl (Out.err S (ad.drew.trans f)));intro s)
   all_goals exact s.out.elim
  |ok aq=>
   obtain⟨a,q⟩:=aq;have S:Hid (r=.ok (aV [118,97,114] X [] [aV [116,97,114,103,101,116] t.l_ t.x_ [],a],q)):=n;clear n;go_wp2_with fail;go_region_law (go_simp;go_at_call 196;refine U.mono ?_;rintro e w4 ⟨f,O,v4,rfl,W⟩;obtain⟨T4,bu,rfl⟩:=W.form;have J:=aB ((Fr.refl C.pb w3).drew.trans f);have ab:=aB W;have ac:=aB O;have an:=aB (J.keepB ag bp);have N:=aB (J.keepB bg y);have d0:=aA an (i:=0) rfl;have d1:=aA an (i:=1) rfl;have cs:=aC an;have d2:=aA N (i:=0) rfl;have av:=aC N;clear f O W)
   all_goals (go_wp2_with fail;go_ret)
   all_goals exact Out.ok S (ad.trans J) ac (PN.mk (d6 (d6 (d6 (d6 (d6 (d6 (d6 (d6 (d6 (d7 (⟨rfl,_,aV [116,97,114,103,101,116] t.l_ t.x_ [],a,rfl,rfl,rfl,rfl⟩))))))))))) (λp hp=>by obtain rfl:=ew.1 hp;exact Prt.ok.node (ab.grow (λ_ _ _=>rfl) ak cL)))
 replace j:=aB (j.trans (if_neg (by simp[d])))
 rw[d] at F;clear d;go_wp2_with fail;refine F.mono ?_;rintro e V1 ⟨rfl,A,G⟩;replace u:=aB (u.trans G)
 replace D:=aB (G.keepB D y)
 replace M:=aB A
 clear G A F;have F:=aB (dO C V1 p ⟨#[105,102]⟩ M);rw[show (⟨#[105,102]⟩:ByteArray).data.toList=[105,102] from rfl] at F
 cases d:bF C.ts p [105,102];rotate_left
 ·have HRt:=aB (j.trans (if_pos d));rw[d] at F;clear d j;go_wp2_with fail;refine F.mono ?_;rintro e W1 ⟨rfl,z,I⟩;have HFt:=aB (u.trans I);have HBt:=aB (I.keepB D y);clear I F u M D;obtain⟨T,m⟩:=E_ (E (p+1));have K:Hid (r=bX T λc q=>bX (B q) λb q2=>cG (λo=>aV [105,102] X [] (c::b::o.toList)) (xM B C.ts q2)):=by show _=_;rw[HRt.out,m,b4_,aj.out]
  have P:E (p+1)≠.error 0:=λe=>Z (by rw[K.out,m,e];rfl)
  have U:=aB (bz W1 (p+1) z P);rw[<-m] at U;clear z P m HRt;cases T with
  |error l=>
   go_wp2_with fail;refine U.mono ?_;rintro e w2 ⟨g,rfl⟩;go_wp2_with fail;exact⟨rfl,Out.err K (HFt.trans g)⟩
  |ok cq=>
   obtain⟨c,q⟩:=cq;go_wp2_with fail;refine U.mono ?_;rintro e w2 ⟨g,x,v2,rfl,ae⟩;obtain⟨T2,cl,rfl⟩:=ae.form;have Q:=aB (HFt.trans g);have L:=aB (g.keepB HBt y);have bc:=HFt.size;have cd:=g.size;have ax:=aB (ae.grow (lo':=w.heap.size) (λ_ _ _=>rfl) bc cL)
   clear g ae U;obtain⟨rB,Y⟩:=E_ (B q);have n:Hid (r=bX rB λb q2=>cG (λo=>aV [105,102] X [] (c::b::o.toList)) (xM B C.ts q2)):=by show _=_;rw[K.out,Y];rfl
   have ap:B q≠.error 0:=λe=>Z (by rw[n.out,Y,e];rfl)
   have HY:=aB (bi w2 q x ap);rw[<-Y] at HY;clear x ap Y K;cases rB with
   |error l=>
    go_wp2_with fail;refine HY.mono ?_;rintro e w4 ⟨f,rfl⟩;go_wp2_with fail;exact⟨rfl,Out.err n (Q.trans f)⟩
   |ok bq=>
    obtain⟨b,q3⟩:=bq;obtain⟨rO,bd⟩:=E_ (xM B C.ts q3);have aw:Hid (r=cG (λo=>aV [105,102] X [] (c::b::o.toList)) rO):=by show _=_;rw[n.out,bd];rfl
    have cj:=aB bd;have ck:Hid (rO≠.error 0):=λe=>Z (by rw[aw.out,e];rfl)
    clear n bd;go_wp2_with fail;refine HY.mono ?_;rintro e w4 ⟨f,O,v4,rfl,af⟩;obtain⟨x4,n4,c4,rfl⟩:=af.slice;have J:=aB (Q.trans f);have co:=f.size;have az:=aB (af.grow (lo':=w.heap.size) (λ_ _ _=>rfl) o_ cL)
    have ab:=aB (ax.grow (lo':=w.heap.size) (hi':=w4.heap.size) (λk h1 h2=>f.block k h2 o_) cL f.size)
    have N:=aB (f.keepB L y);have HZ:=aB (aL_ C B bi w4.drew q3 O.drew rO cj ck);have c0:=aA N (i:=0) rfl;have am:=aC N;clear f O af HY L ax;cases rO with
    |error l=>
     have S:Hid (r=.error l):=aw;go_wp2_with fail;go_region_law (refine thrown (bG) ?_ ?_;(focus go_simp;go_at_call 197;refine HZ.mono ?_;rintro e w5 ⟨ay,rfl⟩;exact ff rfl (Out.err S (J.drew.trans ay)));intro s)
     all_goals exact s.out.elim
    |ok oq=>
     obtain⟨o,q5⟩:=oq;have S:Hid (r=.ok (aV [105,102] X [] (c::b::o.toList),q5)):=aw;clear aw;go_wp2_with fail;go_region_law (go_simp;go_at_call 197;refine HZ.mono ?_;rintro e w5 ⟨ay,cb,v5,rfl,bj⟩;obtain⟨x5,n5,c5,rfl⟩:=bj.slice;have aa:=aB ((Fr.refl C.pb w4).drew.trans ay);have bv:=aB bj;have bx:=aB cb;have cc:=aB (aa.keepB N y);have d2:=aA cc (i:=0) rfl;have av:=aC cc;clear ay cb bj)
     all_goals (go_wp2_with fail;go_ret)
     all_goals
      have cn:=aa.size;have bl:=ab.grow (lo':=w.heap.size) (hi':=w5.heap.size) (λk h1 h2=>aa.block k h2 o_) cL aa.size
      have ba:=az.grow (lo':=w.heap.size) (λk h1 h2=>aa.block k h2 o_) cL aa.size
      cases o with
      |none=>
       have h5:Value.slice x5 n5 c5=bG:=bv;rw[h5]
       exact Out.ok S (J.trans aa) bx (PN.mk (d6 (d6 (d6 (d6 (d6 (d6 (d6 (d6 (d6 (d6 (d6 (d7 (⟨rfl,_,_,c,b,rfl,rfl,ba.1,rfl,rfl⟩))))))))))))) (λp hp=>by
        simp only[eo,fi,or_false] at hp;rcases hp with rfl|rfl
        ·exact Prt.ok.node bl
        ·exact Prt.ok.list ba.2))
      |some b2=>
       have h5:KW w4.drew.heap.size w5 (.slice x5 n5 c5) b2:=bv
       exact Out.ok S (J.trans aa) bx (PN.mk (d6 (d6 (d6 (d6 (d6 (d6 (d6 (d6 (d6 (d6 (d6 (d6 (d7 (⟨rfl,_,_,_,c,b,b2,rfl,rfl,ba.1,h5.1,rfl,rfl⟩)))))))))))))) (λp hp=>by
        simp only[eo,fi,or_false] at hp;rcases hp with rfl|rfl|rfl
        ·exact Prt.ok.node bl
        ·exact Prt.ok.list ba.2
        ·exact Prt.ok.list (h5.2.grow (λ_ _ _=>rfl) (by show _<=w4.heap.size;omega) cL)))
 replace j:=aB (j.trans (if_neg (by simp[d])))
 rw[d] at F;clear d;go_wp2_with fail;refine F.mono ?_;rintro e V2 ⟨rfl,A,G⟩;replace u:=aB (u.trans G)
 replace D:=aB (G.keepB D y)
 replace M:=aB A
 clear G A F;have F:=aB (dO C V2 p ⟨#[119,104,105,108,101]⟩ M);rw[show (⟨#[119,104,105,108,101]⟩:ByteArray).data.toList=[119,104,105,108,101] from rfl] at F
 cases d:bF C.ts p [119,104,105,108,101];rotate_left
 ·have HRt:=aB (j.trans (if_pos d));rw[d] at F;clear d j;go_wp2_with fail;refine F.mono ?_;rintro e W1 ⟨rfl,z,I⟩;have HFt:=aB (u.trans I);have HBt:=aB (I.keepB D y);clear I F u M D;obtain⟨T,m⟩:=E_ (E (p+1));have K:Hid (r=bX T λc q=>cG (λb=>aV [119,104,105,108,101] X [] [c,b]) (B q)):=by show _=_;rw[HRt.out,m];unfold pS;rw[aj.out]
  have P:E (p+1)≠.error 0:=λe=>Z (by rw[K.out,m,e];rfl)
  have U:=aB (bz W1 (p+1) z P);rw[<-m] at U;clear z P m HRt;cases T with
  |error l=>
   go_wp2_with fail;refine U.mono ?_;rintro e w2 ⟨g,rfl⟩;go_wp2_with fail;exact⟨rfl,Out.err K (HFt.trans g)⟩
  |ok cq=>
   obtain⟨c,q⟩:=cq;go_wp2_with fail;refine U.mono ?_;rintro e w2 ⟨g,x,v2,rfl,ae⟩;obtain⟨T2,cl,rfl⟩:=ae.form;have Q:=aB (HFt.trans g);have L:=aB (g.keepB HBt y);have bc:=HFt.size;have cd:=g.size;have ax:=aB (ae.grow (lo':=w.heap.size) (λ_ _ _=>rfl) bc cL)
   clear g ae U;obtain⟨rB,Y⟩:=E_ (B q);have n:Hid (r=cG (λb=>aV [119,104,105,108,101] X [] [c,b]) rB):=by show _=_;rw[K.out,Y];rfl
   have ap:B q≠.error 0:=λe=>Z (by rw[n.out,Y,e];rfl)
   have HY:=aB (bi w2.drew q x.drew ap);rw[<-Y] at HY;have c0:=aA L (i:=0) rfl;have am:=aC L;clear x ap Y K;cases rB with
   |error l=>
    have S:Hid (r=.error l):=n;go_wp2_with fail;go_region_law (refine thrown (bG) ?_ ?_;(focus go_simp;go_at_call 127;refine HY.mono ?_;rintro e w4 ⟨f,rfl⟩;exact ff rfl (Out.err S (Q.drew.trans f)));intro s)
    all_goals exact s.out.elim
   |ok bq=>
    obtain⟨b,q3⟩:=bq;have S:Hid (r=.ok (aV [119,104,105,108,101] X [] [c,b],q3)):=n;clear n;go_wp2_with fail;go_region_law (go_simp;go_at_call 127;refine HY.mono ?_;rintro e w4 ⟨f,O,v4,rfl,af⟩;obtain⟨x4,n4,c4,rfl⟩:=af.slice;have J:=aB ((Fr.refl C.pb w2).drew.trans f);have az:=aB af;have ac:=aB O;have N:=aB (J.keepB L y);have d2:=aA N (i:=0) rfl;have av:=aC N;clear f O af)
    all_goals (go_wp2_with fail;go_ret)
    all_goals exact Out.ok S (Q.trans J) ac (PN.mk (d6 (d6 (d6 (d6 (d6 (d6 (d6 (d6 (d6 (d6 (d6 (d6 (d6 (d7 (⟨rfl,_,_,c,b,rfl,rfl,az.1,rfl,rfl⟩))))))))))))))) (λp hp=>by
     simp only[eo,fi,or_false] at hp;rcases hp with rfl|rfl
     ·exact Prt.ok.node (ax.grow (λk h1 h2=>J.block k h2 o_) cL J.size)
     ·exact Prt.ok.list (az.2.grow (λ_ _ _=>rfl) (by show _<=w2.heap.size;omega) cL)))
 replace j:=aB (j.trans (if_neg (by simp[d])))
 rw[d] at F;clear d;go_wp2_with fail;refine F.mono ?_;rintro e V3 ⟨rfl,A,G⟩;replace u:=aB (u.trans G)
 replace D:=aB (G.keepB D y)
 replace M:=aB A
 clear G A F;have F:=aB (dO C V3 p ⟨#[114,101,116,117,114,110]⟩ M);rw[show (⟨#[114,101,116,117,114,110]⟩:ByteArray).data.toList=[114,101,116,117,114,110] from rfl] at F
 cases d:bF C.ts p [114,101,116,117,114,110];rotate_left
 ·have HRt:=aB (j.trans (if_pos d));rw[d] at F;clear d j;go_wp2_with fail;refine F.mono ?_;rintro e W1 ⟨rfl,z,I⟩;have HFt:=aB (u.trans I);have HBt:=aB (I.keepB D y);clear I F u M D;have ao:=aB (dO C W1 (p+1) ⟨#[59]⟩ z);have bm:(⟨#[59]⟩:ByteArray).data.toList=[59]:=rfl;rw[bm] at ao;clear z bm;cases d:bF C.ts (p+1) [59];rotate_left
  ·have S:Hid (r=.ok (aV [114,101,116,117,114,110] X [] [],p+2)):=by show _=_;rw[HRt.out];unfold mK;rw[d,aj.out];rfl
   rw[d] at ao;clear d HRt;go_wp2_with fail;refine ao.mono ?_;rintro e w2 ⟨rfl,x,g⟩;have Q:=aB (HFt.trans g);have L:=aB (g.keepB HBt y);have cf:=aB x;have c0:=aA L (i:=0) rfl;have am:=aC L;clear g x;go_wp2
   go_ret;exact Out.ok S Q cf (PN.mk (d6 (d6 (d6 (d6 (d6 (d6 (d6 (d6 (d6 (d6 (d6 (d6 (d6 (d6 (d7 (⟨rfl,X,rfl,rfl,rfl,rfl⟩)))))))))))))))) (λp hp=>by cases hp))
  have K:Hid (r=cG (λv=>aV [114,101,116,117,114,110] X [] [v]) (aS C.ts [59] (E (p+1)))):=by show _=_;rw[HRt.out];unfold mK;rw[d,MZ,aj.out];rfl
  rw[d] at ao;clear d HRt;go_wp2_with fail;refine ao.mono ?_;rintro e w2 ⟨rfl,x,g⟩;have Q:=aB (HFt.trans g);have L:=aB (g.keepB HBt y);clear g;obtain⟨T,m⟩:=E_ (aS C.ts [59] (E (p+1)));have n:Hid (r=cG (λv=>aV [114,101,116,117,114,110] X [] [v]) T):=by show _=_;rw[K.out,m]
  have P:aS C.ts [59] (E (p+1))≠.error 0:=λe=>Z (by rw[n.out,m,e];rfl)
  have ar:=aB m;have U:=aB (bh w2.drew (p+1) x.drew P);simp only[<-ar.out] at U;have c0:=aA L (i:=0) rfl;have am:=aC L;have ak:=Q.size;clear x P m K;cases T with
  |error l=>
   have S:Hid (r=.error l):=n;go_wp2_with fail;go_region_law (refine thrown .nilIface ?_ ?_;(focus go_simp;go_at_call 196;refine U.mono ?_;rintro e w4 ⟨f,rfl⟩;exact ff rfl (Out.err S (Q.drew.trans f)));intro s)
   all_goals exact s.out.elim
  |ok aq=>
   obtain⟨a,q⟩:=aq;have S:Hid (r=.ok (aV [114,101,116,117,114,110] X [] [a],q)):=n;clear n;go_wp2_with fail;go_region_law (go_simp;go_at_call 196;refine U.mono ?_;rintro e w4 ⟨f,O,v4,rfl,W⟩;obtain⟨T4,bu,rfl⟩:=W.form;have J:=aB ((Fr.refl C.pb w2).drew.trans f);have ab:=aB W;have ac:=aB O;have N:=aB (J.keepB L y);have d2:=aA N (i:=0) rfl;have av:=aC N;clear f O W)
   all_goals (go_wp2_with fail;go_ret)
   all_goals exact Out.ok S (Q.trans J) ac (PN.mk (d6 (d6 (d6 (d6 (d6 (d6 (d6 (d6 (d6 (d6 (d6 (d6 (d6 (d6 (d6 (d7 (⟨rfl,_,a,rfl,rfl,rfl,rfl⟩))))))))))))))))) (λp hp=>by obtain rfl:=ew.1 hp;exact Prt.ok.node (ab.grow (λ_ _ _=>rfl) ak cL)))
 replace j:=aB (j.trans (if_neg (by simp[d])))
 rw[d] at F;clear d;go_wp2_with fail;refine F.mono ?_;rintro e V4 ⟨rfl,A,G⟩;replace u:=aB (u.trans G)
 replace D:=aB (G.keepB D y)
 replace M:=aB A
 clear G A F;have F:=aB (dO C V4 p ⟨#[112,114,105,110,116]⟩ M);rw[show (⟨#[112,114,105,110,116]⟩:ByteArray).data.toList=[112,114,105,110,116] from rfl] at F
 cases d:bF C.ts p [112,114,105,110,116];rotate_left
 ·have HRt:=aB (j.trans (if_pos d));rw[d] at F;clear d j;go_wp2_with fail;refine F.mono ?_;rintro e W1 ⟨rfl,z,I⟩;have HFt:=aB (u.trans I);have HBt:=aB (I.keepB D y);clear I F u M D;obtain⟨T,m⟩:=E_ (aS C.ts [59] (E (p+1)));have n:Hid (r=cG (λv=>aV [112,114,105,110,116] X [] [v]) T):=by show _=_;rw[HRt.out,m];unfold pX;rw[MZ,aj.out]
  have P:aS C.ts [59] (E (p+1))≠.error 0:=λe=>Z (by rw[n.out,m,e];rfl)
  have ar:=aB m;have U:=aB (bh W1.drew (p+1) z.drew P);simp only[<-ar.out] at U;have c0:=aA HBt (i:=0) rfl;have am:=aC HBt;have ak:=HFt.size;clear z P m HRt;cases T with
  |error l=>
   have S:Hid (r=.error l):=n;go_wp2_with fail;go_region_law (refine thrown .nilIface ?_ ?_;(focus go_simp;go_at_call 196;refine U.mono ?_;rintro e w4 ⟨f,rfl⟩;exact ff rfl (Out.err S (HFt.drew.trans f)));intro s)
   all_goals exact s.out.elim
  |ok aq=>
   obtain⟨a,q⟩:=aq;have S:Hid (r=.ok (aV [112,114,105,110,116] X [] [a],q)):=n;clear n;go_wp2_with fail;go_region_law (go_simp;go_at_call 196;refine U.mono ?_;rintro e w4 ⟨f,O,v4,rfl,W⟩;obtain⟨T4,bu,rfl⟩:=W.form;have J:=aB ((Fr.refl C.pb W1).drew.trans f);have ab:=aB W;have ac:=aB O;have N:=aB (J.keepB HBt y);have d2:=aA N (i:=0) rfl;have av:=aC N;clear f O W)
   all_goals (go_wp2_with fail;go_ret)
   all_goals exact Out.ok S (HFt.trans J) ac (PN.mk (d6 (d6 (d6 (d6 (d6 (d6 (d6 (d6 (d6 (d6 (d6 (d6 (d6 (d6 (d6 (d6 (d7 (⟨rfl,_,a,rfl,rfl,rfl,rfl⟩)))))))))))))))))) (λp hp=>by obtain rfl:=ew.1 hp;exact Prt.ok.node (ab.grow (λ_ _ _=>rfl) ak cL)))
 have HRn:Hid (r=gY E C.ts p):=by show _=_;rw[j.out,d];rfl
 rw[d] at F;clear d j;have j:=HRn;clear HRn;go_wp2_with fail;refine F.mono ?_;rintro e V5 ⟨rfl,A,G⟩;replace u:=aB (u.trans G)
 replace D:=aB (G.keepB D y)
 replace M:=aB A
 clear G A F;have U:=aB (ce V5 p M (by rw[<-j.out];exact Z))
 rw[<-j.out] at U;have cg:=u.size;clear j;go_wp2_with fail;refine U.mono ?_;rintro e w3 ⟨V,ca⟩;cases r with
 |error l=>
  obtain rfl:e=cU 4 l:=ca;have ad:=aB (u.trans V);clear V;go_wp2_with fail;exact⟨rfl,Out.err rfl ad⟩
 |ok aq=>
  obtain⟨a,q⟩:=aq;obtain⟨al,v3,rfl,bn⟩:=ca;have ad:=aB (u.trans V);have ch:=aB al;have ci:=aB bn;clear V al bn;go_wp2
  go_ret;exact Out.ok rfl ad ch (ci.grow (λ_ _ _=>rfl) cg cL)
def bg_(C:Ctx)(S:Nat->cD aE)(w:aG)(r0:cD (List aE))(k:Nat)(v:aQ)(wr:aG):Prop:=
 Fr C.pb w wr/\∃q acc,PAt C wr q/\r0=dU S C.ts k q acc/\acc.length+k<=4000/\PLst w.heap.size wr v acc
def C3(C:Ctx)(S:Nat->cD aE)(HS:PReads C 171 S):
 BReads C 127 (λp=>if bF C.ts p [123] then cG (aV [98,108,111,99,107] (aT C.ts p).l_ []) (aS C.ts [125] (dU S C.ts (C.ts.length+1) (p+1) [])) else Hs.bad C.ts p):=by
 obtain⟨i0,hi,al,av,ao⟩:=info_parts FX;intro w p h W;have j:=aB (gM C w p ⟨#[123]⟩ h);have ed:(⟨#[123]⟩:ByteArray).data.toList=[123]:=rfl;rw[ed] at j;have aw:=aB HS;have az:=h.len;have z:=h.pb_lt;have ay:=h.g_lt;show Calls _ _ _ _ (dg_ C w (if bF C.ts p [123] then cG (aV [98,108,111,99,107] (aT C.ts p).l_ []) (aS C.ts [125] (dU S C.ts (C.ts.length+1) (p+1) [])) else Hs.bad C.ts p))
 obtain⟨r,hr⟩:=E_ ((if bF C.ts p [123] then cG (aV [98,108,111,99,107] (aT C.ts p).l_ []) (aS C.ts [125] (dU S C.ts (C.ts.length+1) (p+1) [])) else Hs.bad C.ts p))
 have J:r≠.error 0:=hr▸W;rw[<-hr];have HR:=aB hr;have ap:=aB J;clear h HS W hr J ed;cases a:bF C.ts p [123]
 ·have HL:Hid (r=.error (aT C.ts p).l_):=by show _=_;rw[HR.out,a];rfl
  rw[a] at j;clear a HR;go_enter func127,ntmps127;go_wp2_with fail;refine j.out.mono ?_;rintro e w1 ⟨y,K⟩;obtain rfl:e=cU 4 (aT C.ts p).l_:=K;have ak:=aB y;clear y;go_wp2_with fail;exact⟨rfl,Out.err HL.out ak.out⟩
 obtain⟨E,P⟩:=E_ (dU S C.ts (C.ts.length+1) (p+1) []);have M:Hid (r=cG (aV [98,108,111,99,107] (aT C.ts p).l_ []) (aS C.ts [125] E)):=by show _=_;rw[HR.out,a,P];rfl
 have I:Hid (E≠.error 0):=λe=>ap.out (by rw[M.out,e];rfl)
 have X:=aB P;rw[a] at j;clear a HR P;go_enter func127,ntmps127;go_wp2_with fail;refine j.out.mono ?_;rintro e w1 ⟨y,K⟩;obtain⟨rfl,ag⟩:=K;have HI:Hid (bg_ C S w E (C.ts.length+1) (.slice none 0 0) w1):=⟨y,p+1,[],ag,X.out,t_,PLst.nil _ _⟩
 clear y ag j X;go_wp2_with fail;go_loopg [3] (C.ts.length+1) (λk v wr=>bg_ C S w E k v wr)
 case atStart=>exact HI.out
 case round=>
  obtain⟨L,U,m,Z,u,bd,Q⟩:=hrel;obtain⟨x4,c4,rfl⟩:=Q.slice;have f:=aB (dO C wr U ⟨#[125]⟩ Z);have ed:(⟨#[125]⟩:ByteArray).data.toList=[125]:=rfl;rw[ed] at f;have af:=aB L;have N:=aB Q;have bf:=L.size
  obtain⟨k,rfl⟩:∃k,gk=k+1:=by
   cases gk with
   |zero=>exact absurd u I.out
   |succ k=>exact⟨k,rfl⟩
  clear L Z Q HI ed;cases a:bF C.ts U [125];rotate_left
  ·have HL:Hid (r=.ok (aV [98,108,111,99,107] (aT C.ts p).l_ [] m,U+1)):=by show _=_;rw[M.out,u,dU,if_pos a,pK a];rfl
   rw[a] at f;clear a u;go_wp2_with fail;refine f.out.mono ?_;rintro e w5 ⟨rfl,x,c⟩;have aq:=aB x;have s:=aB (af.out.trans c);have o:=aB (N.out.keep c z);clear x c;go_wp2_with fail;go_ret;exact Out.ok HL.out s.out aq.out ⟨rfl,o.out.kid⟩
  ·obtain⟨rE,B⟩:=E_ (S U)
   have A:Hid (E=bX rE λi q=>dU S C.ts k q (m++[i])):=by
    show _=_
    rw[u,dU,if_neg (by rw[a];simp),B]
    cases S U<;>rfl
   have aa:S U≠.error 0:=λe=>I.out (by rw[A.out,B,e];rfl)
   have ax:=aB B;rw[a] at f;clear a u B;go_wp2_with fail;refine f.out.mono ?_;rintro e w5 ⟨rfl,x,c⟩;have HX:=aB (aw.out w5 U x aa);simp only[<-ax.out] at HX;have s:=aB (af.out.trans c);have o:=aB (N.out.keep c z);have be:=c.size;clear x c f N aa;cases rE with
   |error l=>
    have HL:Hid (r=.error l):=by show _=_;rw[M.out,A.out];rfl
    go_wp2_with fail;refine HX.out.mono ?_;rintro e w6 ⟨d,rfl⟩;have D:=aB (s.out.trans d);clear d HX;go_wp2_with fail;exact⟨rfl,Out.err HL.out D.out⟩
   |ok ar=>
    obtain⟨a6,q6⟩:=ar;have au:Hid (E=dU S C.ts k q6 (m++[a6])):=A.out;clear A;go_wp2_with fail;refine HX.out.mono ?_;rintro e w6 ⟨d,ae,v6,rfl,O⟩;obtain⟨T6,aj,rfl⟩:=O.form;obtain⟨vs,F,t,H,ad⟩:=o.out.keep d z
    have ah:∀g,(Value.slice x4 m.length c4).ownBlock=some g->g<w5.heap.size:=by
     obtain⟨bc,F',V,_⟩:=o.out;exact cQ V
    have Y:=aB ah;have D:=aB (s.out.trans d);have ab:=aB ae;have ac:=aB O;have HALL:=aB (ff H ad);have bb:=d.size;have T:∀k,(Value.slice x4 m.length c4).ownBlock=some k->w.heap.size<=k:=cT t;clear ae d O HX o s H ad ah;go_wp2_with (at_builtin;refine wpList_append_lies _ r_ _ _ 167 r_ w.heap.size 67 i0 _ 1 16 underlying167 hi al av ao rfl d_ _ _ _ r_ (t.alloc _) ⟨w6.heap.size,0,none⟩ 1 1 [.iface T6 (.agg aj)] r_ r_ (tX _ _) (xF _ _) d_ (by unfold maxLen;omega) o_ t_ (w6.heap.size+1) s_ ?_)
    intro g7 ba w9 n b G bg;have am:=aB (PLst.snoc (lo:=w5.heap.size) HALL.out.1 HALL.out.2 ac.out o_ Y.out (λk hk=>ek _ _ _ hk) s_ n b (G.imp_right (λe=>by omega)))
    have ai:=aB ((ab.out.alloc _).grown (b_:=w.heap.size) b T z ay);have an:=aB ((D.out.alloc _).grown b T);clear t n b G ac ab D HALL Y T;go_wp2_with fail;go_roundg k
    case measure=>omega
    case rel=>exact⟨an.out,q6,m++[a6],ai.out,au.out,t_,by simpa using am.out⟩
def MP(C:Ctx)(f:Nat):∀g,BReads C 127 (jO (eM C.ts f) C.ts g)
 |0=>λ_ _ _ a=>absurd rfl a
 |g+1=>λw p h a=>C3 C (jU (eM C.ts f) (jO (eM C.ts f) C.ts g) C.ts) (l8 C _ _ (zH C f) (MP C f g)) w p h a
def aE_:(prog.info? 165).map (λi=>(i.zero,i.size,i.bytes))=some (some (.agg #[I_ 0,.string (bs [])]),2,24):=k_
def Z6:List aE->List Value
 |[]=>[]
 |a::l=>I_ a.l_::.string (bs a.x_)::Z6 l
def a8_(l:List aE)(a:aE):Z6 (l++[a])=Z6 l++[I_ a.l_,.string (bs a.x_)]:=by
 induction l with
 |nil=>rfl
 |cons x l b=>simp[Z6,b]
def PNm(F:bY)(w:aG)(v:aQ)(l:List aE):Prop:=
 (∀a∈l,a.op=[112,97,114,97,109])/\((v=bG/\l=[])\/
 ∃g cap cur,v=.slice (some (aH g 0)) l.length cap/\F g/\w.heap[g]?=some (.cells cur 165 (0,0))/\l.length<=cap/\cur.toList.take (l.length*2)=Z6 l)
def PNm.keep{G:bY}(h:PNm F w v l)(f:∀b,F b->w'.heap[b]?=w.heap[b]?)(m:∀b,F b->G b):PNm G w' v l:=by
 obtain⟨e,h|⟨g,c,a,j,d,k,i⟩⟩:=h
 ·exact⟨e,d7 h⟩
 ·exact⟨e,d6 ⟨g,c,a,j,m g d,by rw[f g d];exact k,i⟩⟩
def PNm.slice(h:PNm F w v l):∃x c,v=.slice x l.length c:=by
 obtain⟨_,⟨a,d⟩|⟨g,e,b,a,_⟩⟩:=h
 ·exact⟨none,0,by rw[a,d];rfl⟩
 ·exact⟨_,_,a⟩
def PNl(b_:Nat)(w:aG)(v:aQ)(acc:List aE):Prop:=(∀a∈acc,a.op=[112,97,114,97,109])/\w.ownsRow b_ 165 2 v acc.length (Z6 acc)
def PNl.slice(h:PNl b_ w v acc):∃x c,v=.slice x acc.length c:=by
 rcases h.2.2 with ⟨a,d⟩|⟨g,b,e,a,_⟩
 ·exact⟨none,0,by rw[a,d]⟩
 ·exact⟨_,b,a⟩
def PNl.keep{pb:Nat}{w1:aG}(h:PNl b_ w v acc)(b:Fr pb w w1)(c:pb<b_):PNl b_ w1 v acc:=by
 refine⟨h.1,aY h.2 λk a=>?_⟩
 have:=cT h.2 k a;exact b.block k (cQ h.2 k a) o_
def PNl.nm(h:PNl b_ w v acc):PNm (Btw b_ w.heap.size) w v acc:=by
 rcases h.2.2 with ⟨c,a⟩|⟨g,d,b,c,a,e,f,k,j,i⟩
 ·exact⟨h.1,d7 ⟨c,gg a⟩⟩
 ·exact⟨h.1,d6 ⟨g,d,b,c,⟨a,aC e⟩,e,f,i⟩⟩
def LS(w:aG)(a b:aQ):∀j u,([a,b]:List Value)[j]?=some u->(w.alloc (.cells #[a,b] 165)).cell? ((⟨w.heap.size,0,none⟩:Addr).add j)=some u:=by
 intro j u c;match j,c with
 |0,c=>simp at c;subst c;simp[Addr.add,go_sem]
 |1,c=>simp at c;subst c;simp[Addr.add,go_sem]
 |j+2,c=>simp at c
def SP(l:Int)(b:ByteArray):∀u∈([I_ l,.string b]:List Value),u.oneCell'=true:=by
 intro u a;simp at a;rcases a with rfl|rfl<;>rfl
def a6_(C:Ctx)(w:aG)(r0:cD (List aE))(k:Nat)(v:aQ)(wr:aG):Prop:=
 Fr C.pb w wr/\∃q acc,PAt C wr q/\r0=(if bF C.ts q [44] then dD C.ts k (q+1) acc else .ok (acc,q))/\acc.length+k<=4000/\PNl w.heap.size wr v acc
def pnode(t:bC):aE:=aV [112,97,114,97,109] t.l_ t.x_ []
def E6{p:Nat}(h:((aT ts p).sort==110)=true):dD ts (k+1) p acc=if bF ts (p+1) [44] then dD ts k (p+1+1) (acc++[pnode (aT ts p)]) else .ok (acc++[pnode (aT ts p)],p+1):=by
 rw[dD,if_pos h];rfl
def z7{p:Nat}(h:((aT ts p).sort==110)=false):dD ts (k+1) p acc=.error (aT ts p).l_:=by
 rw[dD,if_neg (by rw[h];simp)];rfl
def PNs(lo:Nat)(w':aG)(v:aQ)(l:List aE):Prop:=PNm (Btw lo w'.heap.size) w' v l
def XS(C:Ctx)(w:aG)(p:Nat)(h:PAt C w p)(r:cD (List aE))(hr:r=if bF C.ts p [40] then iN C.ts (p+1) else Hs.bad C.ts p)(ae:r≠.error 0):
 Calls prog 126 #[aZ C.pb] w (Out C w r (PNs w.heap.size)):=by
 obtain⟨i0,hi,ai,ar,ao⟩:=info_parts aE_;have c:=aB (gM C w p ⟨#[40]⟩ h);have K:(⟨#[40]⟩:ByteArray).data.toList=[40]:=rfl;rw[K] at c;have be:=h.len;have u:=h.pb_lt;have av:=h.g_lt;have HR:=aB hr;have bc:=aB ae;clear h hr ae K;cases b:bF C.ts p [40]
 ·have I:Hid (r=.error (aT C.ts p).l_):=by show _=_;rw[HR.out,b];rfl
  rw[b] at c;clear b HR;go_in
  go_wp2_with fail;refine c.mono ?_;rintro e w1 ⟨O,X⟩;obtain rfl:e=cU 4 (aT C.ts p).l_:=X;have B:=aB O;clear O;go_wp2_with fail;exact⟨rfl,Out.err I B⟩
 have U:Hid (r=aS C.ts [41] (if bF C.ts (p+1) [41] then .ok ([],p+1) else dD C.ts (C.ts.length+1) (p+1) [])):=by show _=_;rw[HR.out,b];rfl
 rw[b] at c;clear b HR;go_in
 go_wp2_with fail;refine c.mono ?_;rintro e w1 ⟨O,X⟩;obtain⟨rfl,ap⟩:=X;have HA:=aB (dO C w1 (p+1) ⟨#[41]⟩ ap);have K:(⟨#[41]⟩:ByteArray).data.toList=[41]:=rfl;rw[K] at HA;have B:=aB O;clear O ap c K;cases b:bF C.ts (p+1) [41];rotate_left
 ·have I:Hid (r=.ok ([],p+1+1)):=by show _=_;rw[U.out,if_pos b,pK b]
  rw[b] at HA;clear b U;go_wp2_with fail;refine HA.mono ?_;rintro e w2 ⟨rfl,H,E⟩;have N:=aB (B.trans E);have ay:=aB H;clear E H;go_wp2
  go_ret;exact Out.ok I N ay ⟨λ_ h=>(by cases h),d7 ⟨rfl,rfl⟩⟩
 obtain⟨P,aa⟩:=E_ (dD C.ts (C.ts.length+1) (p+1) []);have m:Hid (r=aS C.ts [41] P):=by show _=_;rw[U.out,if_neg (by rw[b];simp),aa]
 have aq:Hid (P≠.error 0):=λe=>bc (by rw[m.out,e];rfl)
 have Q:=aB aa;rw[b] at HA;clear b U aa;go_wp2_with fail;refine HA.mono ?_;rintro e w2 ⟨rfl,H,E⟩;have d:=aB (nU C w2 (p+1) H);have N:=aB (B.trans E);clear E H HA B;cases x:((aT C.ts (p+1)).sort==110)
 ·have I:Hid (r=.error (aT C.ts (p+1)).l_):=by show _=_;rw[m.out,Q.out,z7 x];rfl
  rw[x] at d;clear x Q m;go_wp2_with fail;refine d.mono ?_;rintro e w3 ⟨S,Y⟩;obtain rfl:e=cU 4 (aT C.ts (p+1)).l_:=Y;go_wp2_with fail;exact⟨rfl,Out.err I (N.trans S)⟩
 have am:Hid (P=if bF C.ts (p+1+1) [44] then dD C.ts C.ts.length (p+1+1+1) [pnode (aT C.ts (p+1))] else .ok ([pnode (aT C.ts (p+1))],p+1+1)):=by show _=_;rw[Q.out,E6 x];rfl
 rw[x] at d;clear x Q;generalize aT C.ts (p+1)=t at*;go_wp2_with fail;refine d.mono ?_;rintro e w3 ⟨S,Y⟩;obtain⟨rfl,af⟩:=Y;have ad:=aB (N.trans S);have ak:=aB af;have bf:=ad.size;clear S af d N;go_wp2_with (at_builtin;refine wpList_append_lies _ r_ _ _ 166 r_ w.heap.size 165 i0 _ 2 24 underlying166 hi ai ar ao rfl d_ (bG) 0 [] r_ (World.ownsRow_nil _ _ _ _) (aH w3.heap.size 0) 1 1 [I_ t.l_,.string (bs t.x_)] r_ r_ (LS _ _ _) (SP _ _) d_ (by unfold maxLen;omega) o_ t_ (w3.heap.size+1) s_ ?_)
 intro g4 an w4 A l aj bk;have al:=aB ((ak.alloc _).grown (b_:=w.heap.size) l (λk hk=>by cases hk) u av)
 have G:=aB ((ad.alloc _).grown l (λk hk=>by cases hk))
 have HI:Hid (a6_ C w P C.ts.length (.slice (some (aH g4 0)) 1 an) w4):=⟨G,p+1+1,[pnode t],al,am,t_,by intro a ha;rw[ew.1 ha];rfl,A⟩
 clear A l aj am ak ad al G;go_wp2_with fail;go_loopg [3] C.ts.length (λk v wr=>a6_ C w P k v wr)
 case atStart=>exact HI
 case round=>
  obtain⟨Z,i,n,ag,W,bh,ab⟩:=hrel;obtain⟨x4,c4,rfl⟩:=ab.slice;have q:=aB (dO C wr i ⟨#[44]⟩ ag);have K:(⟨#[44]⟩:ByteArray).data.toList=[44]:=rfl;rw[K] at q;have G:=aB Z;have V:=aB ab;have bj:=Z.size;clear Z ag ab HI K;cases b:bF C.ts i [44]
  ·have g:Hid (P=.ok (n,i)):=by show _=_;rw[W,b];rfl
   rw[b] at q;clear b W;go_wp2_with fail;refine q.mono ?_;rintro e w5 ⟨rfl,M,o⟩;have c:=aB (gM C w5 i ⟨#[41]⟩ M);have K:(⟨#[41]⟩:ByteArray).data.toList=[41]:=rfl;rw[K] at c;have z:=aB (G.trans o);have y:=aB (V.keep o u);clear M o q V K;cases b:bF C.ts i [41]
   ·have I:Hid (r=.error (aT C.ts i).l_):=by show _=_;rw[m.out,g.out];exact AC b
    rw[b] at c;clear b g m;go_wp2_with fail;refine c.mono ?_;rintro e w6 ⟨f,s⟩;obtain rfl:e=cU 4 (aT C.ts i).l_:=s;go_wp2_with fail;exact⟨rfl,Out.err I (z.trans f)⟩
   ·have I:Hid (r=.ok (n,i+1)):=by show _=_;rw[m.out,g.out];exact pK b
    rw[b] at c;clear b g m;go_wp2_with fail;refine c.mono ?_;rintro e w6 ⟨f,s⟩;obtain⟨rfl,F⟩:=s;have J:=aB (z.trans f);have T:=aB F;have az:=aB (y.keep f u);clear f F y;go_wp2
    go_ret;exact Out.ok I J T az.nm
  ·have g:Hid (P=dD C.ts gk (i+1) n):=by show _=_;rw[W,b];rfl
   rw[b] at q;clear b W
   obtain⟨k,rfl⟩:∃k,gk=k+1:=by
    cases gk with
    |zero=>exact absurd g aq
    |succ k=>exact⟨k,rfl⟩
   go_wp2_with fail;refine q.mono ?_;rintro e w5 ⟨rfl,M,o⟩;have d:=aB (nU C w5 (i+1) M);have z:=aB (G.trans o);have y:=aB (V.keep o u);clear M o q V;cases x:((aT C.ts (i+1)).sort==110)
   ·have I:Hid (r=.error (aT C.ts (i+1)).l_):=by show _=_;rw[m.out,g.out,z7 x];rfl
    rw[x] at d;clear x g m;go_wp2_with fail;refine d.mono ?_;rintro e w6 ⟨f,s⟩;obtain rfl:e=cU 4 (aT C.ts (i+1)).l_:=s;go_wp2_with fail;exact⟨rfl,Out.err I (z.trans f)⟩
   ·have bd:Hid (P=if bF C.ts (i+1+1) [44] then dD C.ts k (i+1+1+1) (n++[pnode (aT C.ts (i+1))]) else .ok (n++[pnode (aT C.ts (i+1))],i+1+1)):=by show _=_;rw[g.out,E6 x]
    rw[x] at d;clear x g;generalize aT C.ts (i+1)=t5 at*;go_wp2_with fail;refine d.mono ?_;rintro e w6 ⟨f,s⟩;obtain⟨rfl,F⟩:=s;have J:=aB (z.trans f);have T:=aB F;have L:=(y.keep f u).2;have ah:=aB y.1;have bg:=J.size;have ac:∀k,(Value.slice x4 n.length c4).ownBlock=some k->w.heap.size<=k:=cT L;clear f F d z y;go_wp2_with (at_builtin;refine wpList_append_lies _ r_ _ _ 166 r_ w.heap.size 165 i0 _ 2 24 underlying166 hi ai ar ao rfl d_ _ _ _ r_ (L.alloc _) (aH w6.heap.size 0) 1 1 [I_ t5.l_,.string (bs t5.x_)] r_ r_ (LS _ _ _) (SP _ _) d_ (by unfold maxLen;omega) o_ t_ (w6.heap.size+1) s_ ?_)
    intro g7 au w7 D j aw bi;have ax:=aB ((T.alloc _).grown (b_:=w.heap.size) j ac u av);have ba:=aB ((J.alloc _).grown j ac)
    have bb:Hid (PNl w.heap.size w7 (.slice (some (aH g7 0)) (n.length+1) au) (n++[pnode t5])):=by
     refine⟨λa ha=>?_,?_⟩
     ·rcases eu.1 ha with h|h
      ·exact ah a h
      ·rw[ew.1 h];rfl
     ·rw[a8_,el];exact D
    clear L D j aw T J ac ah;go_wp2
    go_roundg k
    case measure=>omega
    case rel=>exact⟨ba,i+1+1,_,ax,bd,t_,bb⟩
def DD(F:bY)(w:aG)(v:aQ)(f:aE):Prop:=
 ∃pv bv ps b,v=.agg #[I_ f.l_,.string (bs f.x_),pv,bv]/\f.y_=ps++[b]/\PNm F w pv ps/\b.op=[98,108,111,99,107]/\PKid F w bv b.y_
def DD.keep{G:bY}{f:aE}(h:DD F w v f)(a:∀b,F b->w'.heap[b]?=w.heap[b]?)(c:∀b,F b->G b):DD G w' v f:=by
 obtain⟨m,i,d,b,j,e,l,g,k⟩:=h;exact⟨m,i,d,b,j,e,l.keep a c,g,k.keep a c⟩
def dj_(lo:Nat)(w:aG)(v:aQ)(f:aE):Prop:=DD (Btw lo w.heap.size) w v f
def aI_(C:Ctx)(B:Nat->cD aE)(HB:BReads C 127 B)(w:aG)(p:Nat)(h:PAt C w p)(r:cD aE)(hr:r=kR B C.ts p)(ah:r≠.error 0):
 Calls prog 92 #[aZ C.pb] w (Out C w r (dj_ w.heap.size)):=by
 obtain⟨rb,bf⟩:=E_ (w.heap.size);have z:=aB (gM C (w.alloc (.cells #[I_ 0,.string ⟨#[]⟩,bG,bG] 169)) p ⟨#[102,117,110,99]⟩ (h.alloc _));have ed:(⟨#[102,117,110,99]⟩:ByteArray).data.toList=[102,117,110,99]:=rfl;rw[ed] at z;have ab:Hid (Fr C.pb w (w.alloc (.cells #[I_ 0,.string ⟨#[]⟩,bG,bG] 169))):=(Fr.refl _ _).alloc _;have S:Hid ((w.alloc (.cells #[I_ 0,.string ⟨#[]⟩,bG,bG] 169)).heap[w.heap.size]?=some (.cells #[I_ 0,.string ⟨#[]⟩,bG,bG] 169 (0,0))):=aN _ _ rfl _;have be:=aB HB;have bj:=h.len;have bk:=h.pb_lt;have bt:=h.g_lt;have HR:=aB hr;have am:=aB ah;have H:w.heap.size≠C.pb:=o_
 clear h hr ah ed HB bf rb;cases s:bF C.ts p [102,117,110,99]
 ·have P:Hid (r=.error (aT C.ts p).l_):=by show _=_;rw[HR.out];unfold kR;rw[s];rfl
  rw[s] at z;clear s HR;go_in
  go_wp2_with fail;refine z.mono ?_;rintro e w1 ⟨J,U⟩;obtain rfl:e=cU 4 (aT C.ts p).l_:=U;go_wp2_with fail;exact⟨rfl,Out.err P (ab.trans J)⟩
 obtain⟨t,ht⟩:=E_ (aT C.ts (p+1))
 have N:Hid (r=if t.sort==110 then (if bF C.ts (p+2) [40] then
       bX (iN C.ts (p+3)) λl q=>cG (λb=>aV [102,117,110,99] t.l_ t.x_ (l++[b])) (B q)
  else Hs.bad C.ts (p+2)) else Hs.bad C.ts (p+1)):=by show _=_;rw[HR.out];unfold kR;rw[s,ht];rfl
 have HT:=aB ht;rw[s] at z;clear s HR ht;go_in
 go_wp2_with fail;refine z.mono ?_;rintro e w1 ⟨J,U⟩;obtain⟨rfl,ao⟩:=U;have x:=aB (nU C w1 (p+1) ao);rw[<-HT.out] at x;have V:=aB (ab.trans J);have F:=aB (J.keepB S H);clear J ao z ab S;cases hs:(t.sort==110)
 ·have P:Hid (r=.error t.l_):=by show _=_;rw[N.out,hs];show Hs.bad _ _=_;unfold Hs.bad;rw[<-HT.out]
  rw[hs] at x;clear hs N;go_wp2_with fail;refine x.mono ?_;rintro e T ⟨y,af⟩;obtain rfl:e=cU 4 t.l_:=af;go_wp2_with fail;exact⟨rfl,Out.err P (V.trans y)⟩
 obtain⟨rP,aa⟩:=E_ ((if bF C.ts (p+1+1) [40] then iN C.ts (p+1+1+1) else Hs.bad C.ts (p+1+1)))
 have L:Hid (r=bX rP λl q=>cG (λb=>aV [102,117,110,99] t.l_ t.x_ (l++[b])) (B q)):=by
  show _=_
  rw[N.out,hs,aa,if_pos rfl];by_cases Q:bF C.ts (p+1+1) [40]=true
  ·rw[if_pos Q,if_pos Q]
  ·rw[if_neg Q,if_neg Q];rfl
 have al:=aB aa;have av:Hid (rP≠.error 0):=λe=>am (by rw[L.out,e];rfl)
 rw[hs] at x;clear hs N aa;go_wp2_with fail;refine x.mono ?_;rintro e T ⟨y,af⟩;obtain⟨rfl,ac⟩:=af;have ae:=aB ((V.trans y).alloc (.cells #[I_ t.l_,.string (bs t.x_)] 165));have c:=aB ((y.alloc (.cells #[I_ t.l_,.string (bs t.x_)] 165)).keepB F H);have m:Hid ((T.alloc (.cells #[I_ t.l_,.string (bs t.x_)] 165)).heap[T.heap.size]?=some (.cells #[I_ t.l_,.string (bs t.x_)] 165 (0,0))):=aN _ _ rfl _;have Z:T.heap.size≠C.pb:=by have:=ac.pb_lt;omega
 have bp:w.heap.size<T.heap.size:=ej (aC F) y.size;have ag:=aB (XS C (T.alloc (.cells #[I_ t.l_,.string (bs t.x_)] 165)).drew (p+1+1) (ac.alloc _).drew rP al av);clear y ac x V F al;go_wp2_with fail;generalize hW:T.alloc (.cells #[I_ t.l_,.string (bs t.x_)] 165)=W at*;have bo:W.heap.size=T.heap.size+1:=by rw[<-hW];simp
 clear hW;have c0:=aA m (i:=0) rfl;have c1:=aA m (i:=1) rfl;have bm:=aC m;cases rP with
 |error l=>
  have P:Hid (r=.error l):=L;have ba:=aA c (i:=0) rfl;have bc:=aA c (i:=1) rfl;have bg:=aA c (i:=2) rfl;have az:=aA c (i:=3) rfl;have ar:=aD (i:=0) c;have ay:=aD (i:=1) c;have bi:=aD (i:=2) c;have ax:=aD (i:=3) c;have ap:=aC c;go_region_law (first|(refine thrown (bG) ?_ ?_;(focus go_simp;go_at_call 126;refine ag.mono ?_;rintro e w3 ⟨o,rfl⟩;exact ff rfl (Out.err P (ae.drew.trans o)));intro g)|(refine thrown (bG) g.out.elim ?_;intro ak))
  all_goals exact g.out.elim
 |ok lq=>
  obtain⟨l,q⟩:=lq;obtain⟨rB,K⟩:=E_ (B q);have O:Hid (r=cG (λb=>aV [102,117,110,99] t.l_ t.x_ (l++[b])) rB):=by show _=_;rw[L.out,K];rfl
  have an:B q≠.error 0:=λe=>am (by rw[O.out,K,e];rfl)
  have Y:=aB (λW (hW:PAt C W q)=>be W q hW an)
  rw[<-K] at Y;clear K an L;cases rB with
  |error l2=>
   have P:Hid (r=.error l2):=O;go_region_law (first|(go_simp;go_at_call 126;refine ag.mono ?_;rintro e w3 ⟨o,D,v3,rfl,A⟩;obtain⟨x3,c3,rfl⟩:=A.slice;have n:=aB ((Fr.refl C.pb W).drew.trans o);have X:=aB D;have f:=aB (n.keepB m Z);have d0:=aA f (i:=0) rfl;have d1:=aA f (i:=1) rfl;have au:=aC f;have a:=aB (n.keepB c H);have ba:=aA a (i:=0) rfl;have bc:=aA a (i:=1) rfl;have bg:=aA a (i:=2) rfl;have az:=aA a (i:=3) rfl;have ar:=aD (i:=0) a;have ay:=aD (i:=1) a;have bi:=aD (i:=2) a;have ax:=aD (i:=3) a;have ap:=aC a;clear o D A)|(refine thrown (bG) ?_ ?_;(focus go_simp;go_at_call 127;refine(Y _ X).mono ?_;rintro e w4 ⟨M,rfl⟩;exact ff rfl (Out.err P ((ae.trans n).trans M)));intro g))
   all_goals exact g.out.elim
  |ok bq=>
   obtain⟨b,q4⟩:=bq;have P:Hid (r=.ok (aV [102,117,110,99] t.l_ t.x_ (l++[b]),q4)):=O;clear O;go_region_law (first|(go_simp;go_at_call 126;refine ag.mono ?_;rintro e w3 ⟨o,D,v3,rfl,A⟩;obtain⟨x3,c3,rfl⟩:=A.slice;have n:=aB ((Fr.refl C.pb W).drew.trans o);have X:=aB D;have bd:=aB A;have f:=aB (n.keepB m Z);have a:=aB (n.keepB c H);have d0:=aA f (i:=0) rfl;have d1:=aA f (i:=1) rfl;have au:=aC f;clear o D A)|(go_simp;go_at_call 127;refine(Y _ X).mono ?_;rintro e w4 ⟨M,aj,v4,rfl,ad⟩;obtain⟨x4,n4,c4,rfl⟩:=ad.slice;have I:=aB M;have aw:=aB aj;have aq:=aB ad;have E:=aB (I.keepB f Z);have d:=aB (I.keepB a H);have e0:=aA E (i:=0) rfl;have e1:=aA E (i:=1) rfl;have br:=aC E;have z0:=aA d (i:=0) rfl;have z1:=aA d (i:=1) rfl;have z2:=aA d (i:=2) rfl;have z3:=aA d (i:=3) rfl;have y0:=aD (i:=0) d;have y1:=aD (i:=1) d;have y2:=aD (i:=2) d;have y3:=aD (i:=3) d;have bn:=aC d;clear M aj ad))
   all_goals go_wp2_with fail
   all_goals
    refine bodyPost_ret (v:=.agg #[I_ t.l_,.string (bs t.x_),.slice x3 l.length c3,.slice x4 n4 c4]) (by simp[results,results92,go_sem,z0,z1,z2,z3]) rfl ?_
    have bl:=n.size;have bb:=I.size;have j:∀(W:aG) (i:Nat) (u:aQ),(W.setCell (aH w.heap.size i) u).heap.size=W.heap.size:=λW i u=>by simp[World.setCell]
    have ai:∀k,w.heap.size<k->((((w4.setCell (aH w.heap.size 0) (I_ t.l_)).setCell (aH w.heap.size 1) (.string (bs t.x_))).setCell (aH w.heap.size 2) (.slice x3 l.length c3)).setCell (aH w.heap.size 3) (.slice x4 n4 c4)).heap[k]?=w4.heap[k]?:=λk G=>by
     rw[ei _ _ _ _ (by show k≠w.heap.size;omega),ei _ _ _ _ (by show k≠w.heap.size;omega),ei _ _ _ _ (by show k≠w.heap.size;omega),ei _ _ _ _ (by show k≠w.heap.size;omega)]
    refine Out.ok P (((((ae.trans (n.trans I)).setCell (d6 cL) _).setCell (d6 cL) _).setCell (d6 cL) _).setCell (d6 cL) _) ((((aw.other o_ o_).other o_ o_).other o_ o_).other o_ o_) ⟨_,_,l,b,rfl,rfl,?_,aq.1,?_⟩
    ·refine PNm.keep bd (λk G=>?_) λk G=>⟨?_,?_⟩
     ·have h1:=G.1;have bh:W.heap.size<=k:=h1;rw[ai k o_,I.out.block k G.2 o_]
     ·have bh:W.heap.size<=k:=G.1;omega
     ·rw[j,j,j,j];exact ej G.2 bb
    ·refine PKid.keep aq.2 (λk G=>ai k (by have:=G.1;omega)) λk G=>⟨?_,?_⟩
     ·have:=G.1;omega
     ·rw[j,j,j,j];exact G.2
def aG_:(prog.info? 169).map (λi=>(i.zero,i.size,i.bytes))=some (some (.agg #[I_ 0,.string (bs []),bG,bG]),4,72):=k_
def zT:Value->List Value
 |.agg a=>a.toList
 |v=>[v]
def kL:List Value->List Value
 |[]=>[]
 |v::l=>zT v++kL l
def ZM(l:List Value)(v:aQ):kL (l++[v])=kL l++zT v:=by
 induction l with
 |nil=>simp[kL]
 |cons x l a=>simp[kL,a]
def FSl(F:bY)(w:aG)(v:aQ)(fs:List aE):Prop:=
 (v=bG/\fs=[])\/
 ∃g cap cur us,v=.slice (some (aH g 0)) fs.length cap/\F g/\w.heap[g]?=some (.cells cur 169 (0,0))/\fs.length<=cap/\cur.toList.take (fs.length*4)=kL us/\kV (DD F w) us fs
def PFl(b_:Nat)(w:aG)(v:aQ)(acc:List aE):Prop:=
 ∃us F,w.ownsRow b_ 169 4 v acc.length (kL us)/\kV (DD F w) us acc/\∀b,F b->b_<=b/\b<w.heap.size/\v.ownBlock≠some b
def PFl.nil(b_:Nat)(w:aG):PFl b_ w (bG) []:=⟨[],λ_=>False,World.ownsRow_nil _ _ _ _,trivial,λ_ h=>h.elim⟩
def PFl.slice(h:PFl b_ w v acc):∃x c,v=.slice x acc.length c:=by
 obtain⟨i,F,f,_⟩:=h;rcases f.2 with ⟨a,d⟩|⟨g,b,e,a,_⟩
 ·exact⟨none,0,by rw[a,d]⟩
 ·exact⟨_,b,a⟩
def PFl.keep{pb:Nat}{w1:aG}(h:PFl b_ w v acc)(c:Fr pb w w1)(j:pb<b_):PFl b_ w1 v acc:=by
 obtain⟨g,F,d,i,e⟩:=h;refine⟨g,F,aY d λk f=>?_,i.mono λ_ _ h=>h.keep (λb a=>?_) dP,λb a=>?_⟩
 ·have:=cT d k f;exact c.block k (cQ d k f) o_
 ·have:=e b a;have:=c.size;exact⟨o_,o_,(e b a).2.2⟩
 ·have:=e b a;exact c.block b this.2.1 o_
def PFl.snoc{r o:aG}{p:aQ}{a:aE}{g m:Nat}{us:List Value}(t:kV (DD F w) us acc)(z:∀b,F b->b_<=b/\b<w.heap.size/\v.ownBlock≠some b)
 (y:DD (Btw lo w.heap.size) w p a) (A:b_<=lo) (n:∀k,v.ownBlock=some k->k<lo) (q:∀k,k<w.heap.size->r.heap[k]?=w.heap[k]?) (x:w.heap.size<=r.heap.size)
 (l:o.ownsRow b_ 169 4 (.slice (some (aH g 0)) (acc.length+1) m) (acc.length+1) (kL us++zT p))
 (i:r.grownBy o v.ownBlock) (j:v.ownBlock=some g\/w.heap.size<=g):PFl b_ o (.slice (some (aH g 0)) (acc.length+1) m) (acc++[a]):=by
 have s:∀b,(F b\/Btw lo w.heap.size b)->b_<=b/\b<w.heap.size/\v.ownBlock≠some b:=by
  rintro b (c|c)
  ·exact z b c
  ·exact⟨by have:=c.1;omega,c.2,λe=>by have:=n b e;have:=c.1;omega⟩
 have d:∀b,(F b\/Btw lo w.heap.size b)->o.heap[b]?=w.heap[b]?:=λb c=>by
  have f:=s b c;rw[i.block b o_ (λe=>f.2.2 e.symm),q b f.2.1]
 refine⟨us++[p],λb=>F b\/Btw lo w.heap.size b,?_,?_,?_⟩
 ·rw[el,ZM];exact l
 ·exact kV.snoc (t.mono λ_ _ h=>h.keep (λb c=>d b (d7 c)) (λ_=>d7)) (y.keep (λb c=>d b (d6 c)) (λ_=>d6))
 ·intro b c;have f:=s b c;have:=i.size;refine⟨f.1,o_,λe=>?_⟩
  have u:g=b:=Option.some.inj e;rcases j with j|j
  ·exact f.2.2 (by rw[j,u])
  ·omega
def PFl.fsl(h:PFl b_ w v acc):FSl (Btw b_ w.heap.size) w v acc:=by
 obtain⟨o,F,n,k,j⟩:=h;rcases n.2 with ⟨a,e⟩|⟨g,c,d,a,e,f,l,q,p,m⟩
 ·exact d7 ⟨a,gg e⟩
 ·exact d6 ⟨g,c,d,o,a,⟨e,aC f⟩,f,l,m,k.mono λ_ _ h=>h.keep (λ_ _=>rfl) λb i=>⟨(j b i).1,(j b i).2.1⟩⟩
def N3(a c d:Int)(b:ByteArray)(w:aG):(Instr.field 160 (.agg #[I_ a,.string b,I_ c,I_ d]) 0).run prog w=.ok (I_ a) w:=k_
def LN(h:pY t):(psort t.sort=4↔t.sort=101):=by
 unfold psort;rcases h with h|⟨h,_⟩|h|⟨h,_⟩|h|h<;>simp[h]
def O8(w:aG)(a b c d:aQ):∀j u,([a,b,c,d]:List Value)[j]?=some u->(w.alloc (.cells #[a,b,c,d] 169)).cell? ((⟨w.heap.size,0,none⟩:Addr).add j)=some u:=by
 intro j u e;match j,e with
 |0,e=>simp at e;subst e;simp[Addr.add,go_sem]
 |1,e=>simp at e;subst e;simp[Addr.add,go_sem]
 |2,e=>simp at e;subst e;simp[Addr.add,go_sem]
 |3,e=>simp at e;subst e;simp[Addr.add,go_sem]
 |j+4,e=>simp at e
def ad_(l:Int)(b:ByteArray)(x y:Option Addr)(n m c d:Nat):∀u∈([I_ l,.string b,.slice x n c,.slice y m d]:List Value),u.oneCell'=true:=by
 intro u a;simp at a;rcases a with rfl|rfl|rfl|rfl<;>rfl
def a5_(C:Ctx)(X:Nat->cD aE)(w:aG)(r:cD (List aE))(k:Nat)(v:aQ)(wr:aG):Prop:=
 Fr C.pb w wr/\∃q acc,PAt C wr q/\r=fI X C.ts k q acc/\acc.length+k<=4000/\PFl w.heap.size wr v acc
def cG_(lo:Nat)(w':aG)(v:aQ)(l:List aE):Prop:=FSl (Btw lo w'.heap.size) w' v l
def N0(C:Ctx)(X:Nat->cD aE)(HX:∀w p,PAt C w p->X p≠.error 0->Calls prog 92 #[.pointer (some ⟨C.pb,0,none⟩)] w (Out C w (X p) (dj_ w.heap.size)))(w:World)(p:Nat)(h:PAt C w p)(r:cD (List aE))(hr:r=fI X C.ts (C.ts.length+1) p [])(P:r≠.error 0):
 Calls prog 57 #[.pointer (some ⟨C.pb,0,none⟩)] w (Out C w r (cG_ w.heap.size)):=by
 obtain⟨i0,hi,ak,aq,an⟩:=info_parts aG_;have av:=h.len;have n:=h.pb_lt;have au:=h.g_lt;have HI:Hid (a5_ C X w r (C.ts.length+1) (.slice none 0 0) w):=⟨Fr.refl _ _,p,[],h,hr,t_,PFl.nil _ _⟩
 have ab:=aB P;have ap:=aB HX;have bc:=N3;clear h hr P HX;go_enter func57,ntmps57;go_wp2_with fail;go_loopg [3] (C.ts.length+1) (λk v wr=>a5_ C X w r k v wr)
 case atStart=>exact HI.out
 case round=>
  obtain⟨E,D,c,f,x,az,K⟩:=hrel;obtain⟨x4,c4,rfl⟩:=K.slice;have u:=aB (mL C wr D f);simp only[oX] at u;have ad:=LN (f.tsk.tk D f.lt);have H:=aB E;have G:=aB K;have T:=aB f;have be:=E.size
  obtain⟨k,rfl⟩:∃k,gk=k+1:=by
   cases gk with
   |zero=>exact absurd x ab.out
   |succ k=>exact⟨k,rfl⟩
  rw[fI] at x;clear E f K HI;have o:=aB x;have z:=aB ad;clear x ad;generalize aT C.ts D=t at*;generalize psort t.sort=ps at*;generalize pval t=pv at*;by_cases O:t.sort=101
  ·have HL:Hid (r=.ok (c,D)):=by show _=_;rw[o.out,O];rfl
   obtain rfl:ps=4:=z.out.2 O;clear O o z;go_wp2_with fail;refine u.out.mono ?_;rintro e w5 ⟨rfl,b⟩;have M:=aB b;clear b;go_wp2_with fail;go_ret;exact Out.ok HL.out (H.out.trans (Fr.below M.out)) (T.out.below M.out) (G.out.keep (Fr.below M.out) n).fsl
  ·have bd:((ps:Int) != 4)=true:=by simp;intro e;exact O (z.out.1 o_)
   obtain⟨rE,s⟩:=E_ (X D)
   have y:Hid (r=bX rE λi q=>fI X C.ts k q (c++[i])):=by
    show _=_
    rw[o.out,if_neg (by simpa using O),s]
    cases X D<;>rfl
   have S:X D≠.error 0:=λe=>ab.out (by rw[y.out,s,e];rfl)
   have ar:=aB s;clear O o z s;go_wp2_with fail;refine u.out.mono ?_;rintro e w5 ⟨rfl,b⟩;have HY:=aB (ap.out w5 D (T.out.below b) S);simp only[<-ar.out] at HY;have J:=aB (H.out.trans (Fr.below b));have I:=aB (G.out.keep (Fr.below b) n);have bb:=b.size;clear b u G S H;cases rE with
   |error l=>
    go_wp2_with fail;refine HY.out.mono ?_;rintro e w6 ⟨d,rfl⟩;go_wp2_with fail;exact⟨rfl,Out.err y.out (J.out.trans d)⟩
   |ok ao=>
    obtain⟨a6,q6⟩:=ao;have ah:Hid (r=fI X C.ts k q6 (c++[a6])):=y.out;clear y;go_wp2_with fail;refine HY.out.mono ?_;rintro e w6 ⟨d,Y,v6,rfl,aa⟩;have V:=aB aa;obtain⟨bf,ba,aj,b6,ai, -,af, -,Z⟩:=aa;obtain⟨x7,c7,rfl⟩:=af.slice;obtain⟨x8,c8,rfl⟩:=Z.slice;subst ai;obtain⟨us,F,m,B,W⟩:=I.out.keep d n
    have ae:∀g,(Value.slice x4 c.length c4).ownBlock=some g->g<w5.heap.size:=by
     obtain⟨ay,F',N,_⟩:=I.out;exact cQ N
    have Q:=aB ae;have ac:=aB (J.out.trans d);have U:=aB Y;have HALL:=aB (ff B W);have ax:=d.size;have L:∀k,(Value.slice x4 c.length c4).ownBlock=some k->w.heap.size<=k:=cT m;clear Y d af Z HY I J B W ae;go_wp2_with (at_builtin;refine wpList_append_lies _ r_ _ _ 76 r_ w.heap.size 169 i0 _ 4 72 underlying76 hi ak aq an rfl d_ _ _ _ r_ (m.alloc _) ⟨w6.heap.size,0,none⟩ 1 1 [.int .i64 a6.l_,.string (bs a6.x_),.slice x7 aj.length c7,.slice x8 b6.y_.length c8] r_ r_ (O8 _ _ _ _ _) (ad_ _ _ _ _ _ _ _ _) d_ (by unfold maxLen;omega) o_ t_ (w6.heap.size+1) s_ ?_)
    intro g7 aw w9 j a A bg;have al:=aB (PFl.snoc (lo:=w5.heap.size) HALL.out.1 HALL.out.2 V.out o_ Q.out (λk hk=>ek _ _ _ hk) s_ j a (A.imp_right (λe=>by omega)))
    have ag:=aB ((U.out.alloc _).grown (b_:=w.heap.size) a L n au);have am:=aB ((ac.out.alloc _).grown a L);clear m j a A V U ac HALL Q L;go_wp2_with fail;go_roundg k
    case measure=>omega
    case rel=>exact⟨am.out,q6,c++[a6],ag.out,ah.out,t_,by simpa using al.out⟩
def SB(C:Ctx)(w:aG)(h:PAt C w 0)(a:nA C.ts≠.error 0):
 Calls prog 57 #[aZ C.pb] w (Out C w (nA C.ts) (cG_ w.heap.size)):=
 N0 C _ (λw p h b=>aI_ C _ (MP C (C.ts.length+1) (C.ts.length+1)) w p h _ rfl b) w 0 h _ rfl a
def sV(l:Nat)(w:aG):
 Calls prog 128 #[.agg #[I_ l]] w λe a=>e=aX (I_ l)/\Below w.heap.size w a:=by
 go_in
 go_wp2
 go_ret;exact⟨rfl,(eh _ _).alloc cL _⟩
def Says(n:Int)(l:cN)(x:cC):Prop:=decide (0<=n)=l.contains x
def ZE(l:List (List UInt8))(x:List UInt8)(g f:Nat)(w:World)(A:l.length<=100000)(_hlc:l.length<=f)(r:∀i (h:i<l.length),w.cell? ⟨g,i,none⟩=some (.string (bs l[i]))):
 Calls prog 188 #[.slice (some ⟨g,0,none⟩) l.length f,.string (bs x)] w λe s=>(∃n:Int,e=.returned (.int .i64 n)/\Says n l x)/\s=w:=by
 have B:(bs x).toList=x:=cI x;have t:=aB r;clear r;go_enter func188,ntmps188;go_wp2_with fail;go_loop [5,8] (λ_ i=>∃k:Nat,k<=l.length/\i=.int .i64 k/\Hid (∀y∈l.take k,y≠x)) (λ_ i=>l.length-(intOf i).toNat)
 case atStart=>exact⟨0,ft _,rfl,λy j=>by simp at j⟩
 case round=>
  obtain⟨k,v,rfl,m⟩:=hrel;by_cases b:k<l.length
  ·have p:=t.out k b;have a:l[k]∈l:=fo b
   have q:Hid (∀y∈l.take (k+1),y∈l.take k\/y=l[k]):=λy j=>by
    rw[gu b] at j;rcases eu.1 j with h|h
    ·exact d7 h
    ·exact d6 (ew.1 h)
   have o:=aB a;clear a;generalize l[k]=y at*;have j:(bs y).toList=y:=cI y;cases c:(x==y)
   ·have d:Hid (∀z∈l.take (k+1),z≠x):=λz u=>by
     rcases q.out z u with h|h
     ·exact m.out z h
     ·rw[h];intro e;rw[e] at c;simp at c
    clear m q o;go_wp2_with fail;go_round
    case rel=>exact⟨k+1,o_,by go_num,d⟩
    case measure=>simp[intOf];omega
   ·have d:Hid (l.contains x=true):=by
     show _=_
     have e:x=y:=by simpa using c
     rw[e];simpa using o.out
    clear m q o;go_wp2_with fail;go_ret;exact⟨⟨k,rfl,by unfold Says;rw[d.out];simp⟩,rfl⟩
  ·have d:Hid (l.contains x=false):=by
    show _=_
    rw[Bool.eq_false_iff];intro h;have:=m.out x (by rw[gv o_];simpa using h)
    exact this rfl
   clear m;go_wp2_with fail;go_ret;exact⟨⟨-1,rfl,by unfold Says;rw[d.out];decide⟩,rfl⟩
def ZF(x:cC)(w:aG):
 Calls prog 188 #[bG,.string (bs x)] w λe a=>(∃n:Int,e=aX (I_ n)/\Says n [] x)/\a=w:=by
 go_in
 go_wp2_with fail;go_loop [5,8] (λ_ i=>i=I_ 0) (λ_ _=>0)
 case atStart=>rfl
 case round=>
  subst hrel;go_wp2
  go_ret;exact⟨⟨-1,rfl,rfl⟩,rfl⟩
def xP(l:cN)(x:cC)(v:aQ)(b_:Nat)(w:aG)(p:l.length<=100000)(a:w.ownsRow b_ 9 1 v l.length (lF l)):
 Calls prog 155 #[v,.string (bs x)] w λe b=>e=aX (.bool (l.contains x))/\b=w:=by
 have d:Hid (Calls prog 188 #[v,.string (bs x)] w λe b=>(∃n:Int,e=aX (I_ n)/\Says n l x)/\b=w):=by
  rcases a.2 with ⟨rfl,h⟩|⟨g,c,m,rfl,u,r,j,y,z,k⟩
  ·obtain rfl:l=[]:=gg h;exact ZF x w
  ·refine ZE l x g c w p j λi s=>aA r ?_
   have e:(lF l)[i]?=some (.string (bs l[i])):=by simp[lF,s]
   rw[<-k,ga,if_pos o_] at e
   simpa using e
 clear a;go_in
 go_wp2_with fail;refine d.mono ?_;rintro e t ⟨⟨n,rfl,f⟩,o⟩;obtain rfl:=o.symm;clear d;have q:=aB f;clear f;go_wp2
 go_ret;exact⟨jW q,rfl⟩
def lT(fs:List aE)(x:cC):Option Nat:=
 if x==[108,101,110] then some 1 else if x==[114,101,97,100] then some 0 else (dT fs x).map λf=>f.y_.length-1
def MJ:∀{us:List Value} {fs:List aE} (k:Nat) (c:k<fs.length),kV (DD F w) us fs->
 ∃a d g b,(kL us)[k*4]?=some (I_ fs[k].l_)/\(kL us)[k*4+1]?=some (.string (bs fs[k].x_))/\(kL us)[k*4+1+1]?=some a/\(kL us)[k*4+1+1+1]?=some d/\fs[k].y_=g++[b]/\PNm F w a g/\b.op=[98,108,111,99,107]/\PKid F w d b.y_
 |[],[],k,c,_=>absurd c (Nat.not_lt_zero _)
 |_::us,f::fs,0,_,⟨⟨a,d,g,b,n,p,u,r,s⟩,_⟩=>by
  subst n;exact⟨a,d,g,b,rfl,rfl,rfl,rfl,p,u,r,s⟩
 |_::us,f::fs,k+1,c,⟨⟨a,d,g,b,n,_⟩,h⟩=>by
  subst n;obtain⟨i,l,m,q,v,t,x,y,o⟩:=MJ k (by simpa using c) h
  have e:∀j,(kL (Value.agg #[I_ f.l_,.string (bs f.x_),a,d]::us))[(k+1)*4+j]?=(kL us)[k*4+j]?:=λj=>by
   rw[kL,gl (by simp[zT];omega)]
   congr 1;simp[zT];omega
  exact⟨i,l,m,q,(e 0).trans v,(e 1).trans t,(e 2).trans x,(e 3).trans y,o⟩
 |[],_::_,_,_,h=>h.elim
 |_::_,[],_,c,_=>absurd c (Nat.not_lt_zero _)
def VU(F:bY)(w:aG)(g:Nat)(fs:List aE):Prop:=
 ∀k (hk:k<fs.length),∃pv bv ps b,w.cell? (aH g (k*4))=some (I_ fs[k].l_)/\w.cell? (aH g (k*4+1))=some (.string (bs fs[k].x_))/\w.cell? (aH g (k*4+1+1))=some pv/\w.cell? (aH g (k*4+1+1+1))=some bv/\fs[k].y_=ps++[b]/\PNm F w pv ps/\b.op=[98,108,111,99,107]/\PKid F w bv b.y_
def FSl.cells(h:FSl F w v fs):(v=bG/\fs=[])\/∃g a,v=.slice (some (aH g 0)) fs.length a/\F g/\g<w.heap.size/\fs.length<=a/\VU F w g fs:=by
 rcases h with h|⟨g,a,s,x,p,i,d,o,q,t⟩
 ·exact d7 h
 ·refine d6 ⟨g,a,p,i,aC d,o,λk m=>?_⟩
  obtain⟨l,C,n,b,y,r,z,B,f⟩:=MJ k m t
  have e:∀j u,j<fs.length*4->(kL x)[j]?=some u->w.cell? (aH g j)=some u:=λj u A c=>by
   refine aA d ?_;rw[<-q,ga,if_pos A] at c;simpa using c
  exact⟨l,C,n,b,e _ _ o_ y,e _ _ o_ r,e _ _ o_ z,e _ _ o_ B,f⟩
def b8_{x:cC}(e:k<fs.length)(c:∀f∈fs.take k,f.x_≠x)(b:fs[k].x_=x):dT fs x=some fs[k]:=by
 unfold dT;have a:fs=fs.take k++fs[k]::fs.drop (k+1):=by rw[jp,g9]
 generalize g:fs[k]=f at*;rw[a,List.find?_append,jn.2 (by intro z d;simpa using c z d)]
 simp[b]
def aJ_{x:cC}(a:∀f∈fs,f.x_≠x):dT fs x=none:=by
 unfold dT;exact jn.2 (by intro z b;simpa using a z b)
def N5(fs:List aE)(F:bY)(x:cC)(g t:Nat)(w:aG)(hl:fs.length<=100000)(D:∀f∈fs,f.y_.length<=90000)(_hlc:fs.length<=t)(J:g<w.heap.size)(P:VU F w g fs)(G:(x==[108,101,110])=false)(E:(x==[114,101,97,100])=false):
 Calls prog 93 #[.slice (some (aH g 0)) fs.length t,.string (bs x)] w λe S=>e=aX (.tuple #[I_ ((lT fs x).getD 0:Nat),.bool (lT fs x).isSome])/\Below w.heap.size w S:=by
 have hx:(bs x).toList=x:=cI x;have V:=aB P;have H:=aB D;have Q:Hid (lT fs x=(dT fs x).map λf=>f.y_.length-1):=by show _=_;unfold lT;rw[G,E];rfl
 clear P D;go_in
 go_wp2_with fail;go_loopg [7,15] fs.length (λgk _ i wr=>∃k:Nat,k+gk=fs.length/\i=I_ k/\Below w.heap.size w wr/\Hid (∀f∈fs.take k,f.x_≠x))
 case atStart=>exact⟨0,o_,rfl,eh _ _,λy A=>by simp at A⟩
 case round=>
  obtain⟨k,hk,rfl,n,r⟩:=hrel;have Y:g<wr.heap.size:=ej J n.size;by_cases c:k<fs.length
  ·obtain⟨j,rfl⟩:∃j,gk=j+1:=⟨gk-1,o_⟩
   obtain⟨pv,bv,K,b,O,L,M,N,a,C,U,B⟩:=V k c;obtain⟨px,pc,rfl⟩:=C.slice;obtain⟨bx,bc,rfl⟩:=B.slice;have d:∀o u,w.cell? (aH g o)=some u->wr.cell? (aH g o)=some u:=λo u h=>(n.cell (p:=(aH g o)) J).trans h
   have d0:=d _ _ O;have d1:=d _ _ L;have d2:=d _ _ M;have d3:=d _ _ N;have l:fs[k]∈fs:=fo c
   have I:Hid (∀y∈fs.take (k+1),y∈fs.take k\/y=fs[k]):=λy A=>by
    rw[gu c] at A;rcases eu.1 A with h|h
    ·exact d7 h
    ·exact d6 (ew.1 h)
   have m:Hid (fs[k].x_=x->dT fs x=some fs[k]):=λe=>b8_ c r.out e
   have T:K.length+1=fs[k].y_.length:=by rw[a];simp
   have Z:=H _ l;have q:=aB n;clear O L M N C B d a l n;generalize fs[k]=f at*;have A:(bs f.x_).toList=f.x_:=cI _;cases v:(f.x_==x)
   ·have s:Hid (∀z∈fs.take (k+1),z.x_≠x):=λz W=>by
     rcases I z W with h|h
     ·exact r.out z h
     ·rw[h];simpa using v
    clear r I m;go_wp2
    go_roundg j
    case measure=>omega
    case rel=>exact⟨k+1,o_,by go_num,q.alloc q.size _,s⟩
   ·have s:Hid (lT fs x=some K.length):=by
     show _=_
     rw[Q.out,m.out (by simpa using v)]
     simp;omega
    clear r I m;go_wp2
    go_ret2
    rw[s.out];exact⟨rfl,q.alloc q.size _⟩
  ·have s:Hid (lT fs x=none):=by
    show _=_
    rw[Q.out,aJ_ (λf X=>r.out f (by rw[gv o_];exact X))]
    rfl
   have q:=aB n;clear r n;go_wp2
   go_ret2
   rw[s.out];exact⟨rfl,q⟩
def N6(x:cC)(w:aG)(b:(x==[108,101,110])=false)(a:(x==[114,101,97,100])=false):
 Calls prog 93 #[bG,.string (bs x)] w λe c=>e=aX (.tuple #[I_ ((lT [] x).getD 0:Nat),.bool (lT [] x).isSome])/\Below w.heap.size w c:=by
 have f:(bs x).toList=x:=cI x;have d:Hid (lT [] x=none):=by show _=_;unfold lT;rw[b,a];rfl
 go_in
 go_wp2_with fail;go_loop [7,15] (λ_ i=>i=I_ 0) (λ_ _=>0)
 case atStart=>rfl
 case round=>
  subst hrel;go_wp2
  go_ret2
  rw[d.out];exact⟨rfl,eh _ _⟩
def FO(v:aQ)(x:cC)(w:aG)(n:Nat)(fs:List aE)(c:(x=[108,101,110]/\n=1)\/(x=[114,101,97,100]/\n=0)):
 Calls prog 93 #[v,.string (bs x)] w λe b=>e=aX (.tuple #[I_ ((lT fs x).getD 0:Nat),.bool (lT fs x).isSome])/\Below w.heap.size w b:=by
 rcases c with ⟨rfl,rfl⟩|⟨rfl,rfl⟩
 ·have a:Hid (lT fs [108,101,110]=some 1):=rfl;simp only[bs];go_in
  go_wp2
  go_ret2
  rw[a.out];exact⟨rfl,eh _ _⟩
 ·have a:Hid (lT fs [114,101,97,100]=some 0):=rfl;simp only[bs];go_in
  go_wp2
  go_ret2
  rw[a.out];exact⟨rfl,eh _ _⟩
def FP(fs:List aE)(F:bY)(v:aQ)(x:cC)(w:aG)(l:fs.length<=100000)(i:∀f∈fs,f.y_.length<=90000)(h:FSl F w v fs):
 Calls prog 93 #[v,.string (bs x)] w λe j=>e=aX (.tuple #[I_ ((lT fs x).getD 0:Nat),.bool (lT fs x).isSome])/\Below w.heap.size w j:=by
 by_cases c:x=[108,101,110]
 ·exact FO v x w 1 fs (d7 ⟨c,rfl⟩)
 by_cases b:x=[114,101,97,100]
 ·exact FO v x w 0 fs (d6 ⟨b,rfl⟩)
 rcases h.cells with ⟨rfl,rfl⟩|⟨g,d,rfl,n,k,a,m⟩
 ·exact N6 x w (by simpa using c) (by simpa using b)
 ·exact N5 fs F x g d w l i a k m (by simpa using c) (by simpa using b)
abbrev FV(pv:aQ):Value:=.func (.func 93) #[pv] #[]
abbrev FVlen:Value:=.func (.func 82) #[] #[]
def FVl(F:bY)(w:aG)(fv:aQ)(fs:List aE):Prop:=(∃pv,fv=FV pv/\FSl F w pv fs)\/(fv=FVlen/\fs=[])
def gA:Value->Bool
 |.func (.func k) _ _=>k==82
 |_=>false
structure CK(cb tp lo:Nat)(fs:List aE)(fv:aQ)(w:aG)(e_:cN):Prop where
 blk:∃sv,w.heap[cb]?=some (.cells #[fv,sv] 150 (0,0))/\w.ownsRow tp 9 1 sv e_.length (lF e_)/\sv.ownBlock≠some cb/\tp<=cb
 fun_:FVl (Btw lo tp) w fv fs
def FSl.keep(h:FSl F w v fs)(d:∀b,F b->w'.heap[b]?=w.heap[b]?):FSl F w' v fs:=by
 rcases h with h|⟨g,c,a,i,k,e,m,j,l,f⟩
 ·exact d7 h
 ·exact d6 ⟨g,c,a,i,k,e,by rw[d g e];exact m,j,l,f.mono λ_ _ h=>h.keep d dP⟩
def FVl.keep(h:FVl F w v fs)(a:∀b,F b->w'.heap[b]?=w.heap[b]?):FVl F w' v fs:=by
 rcases h with ⟨e,d,c⟩|h
 ·exact d7 ⟨e,d,c.keep a⟩
 ·exact d6 h
def CK.lt{a:Nat}{d:aQ}{e_:cN}(h:CK cb a lo fs d w e_):cb<w.heap.size/\a<=cb:=by
 obtain⟨_,c,_,_,b⟩:=h.blk;exact⟨aC c,b⟩
def CK.grow{f:Nat}{g:aQ}{e_:cN}(h:CK cb f lo fs g w e_)(c:Below w.heap.size w w'):CK cb f lo fs g w' e_:=by
 obtain⟨i,e,d,j⟩:=h.blk;have b:=aC e;exact⟨⟨i,by rw[c.block _ b];exact e,aY d λk a=>c.block k (cQ d k a),j⟩,h.fun_.keep λk a=>c.block k (by have:=a.2;omega)⟩
def kD{a v1:aQ}(h:w.heap[b]?=some (.cells #[a,v1] 150 (0,0))):
 b<w.heap.size/\w.cell? (aH b 0)=some a/\w.cell? (aH b 1)=some v1/\w.frozen? (aH b 1)=false:=
 ⟨aC h,aA h rfl,aA h rfl,aD h⟩
def lS(cb:Nat)(w:aG):Option Nat:=
 match w.heap[cb]? with
 |some (.cells cs _ _)=>(cs[1]?.getD undef).ownBlock
 |_=>none
def pW(h:w'.heap[cb]?=w.heap[cb]?):lS cb w'=lS cb w:=by unfold lS;rw[h]
def oE{a v1:aQ}(h:w.heap[cb]?=some (.cells #[a,v1] 150 (0,0))):lS cb w=v1.ownBlock:=by unfold lS;rw[h];rfl
structure FB(cb tp:Nat)(w w':aG):Prop where
 bel:Below tp w w'
 blk:∀k,k<w.heap.size->k≠cb->lS cb w≠some k->w'.heap[k]?=w.heap[k]?
 row:∀k,lS cb w'=some k->lS cb w=some k\/w.heap.size<=k
def FB.trans{d:Nat}{b c:aG}(h:FB cb d a b)(k:FB cb d b c):FB cb d a c:=by
 refine⟨h.bel.trans k.bel,λi f j g=>?_,λi f=>?_⟩
 ·have l:=h.bel.size;rw[k.blk i o_ j (λe=>?_),h.blk i f j g]
  rcases h.row i e with e|e
  ·exact g e
  ·omega
 ·have l:=h.bel.size;rcases k.row i f with e|e
  ·exact h.row i e
  ·exact d6 o_
def FB.of_below(h:Below w.heap.size w w')(c:cb<w.heap.size/\b<=cb):FB cb b w w':=
 ⟨h.mono o_,λk a _ _=>h.block k a,λk a=>d7 (by rw[<-pW (h.block cb c.1)];exact a)⟩
def FB.refl{a:Nat}(w:aG):FB cb a w w:=⟨eh _ _,λ_ _ _ _=>rfl,λ_ h=>d7 h⟩
def dI(cb tp lo:Nat)(fs:List aE)(fv:aQ)(w:aG)(c:bD)(e:Ending)(w':aG):Prop:=
 FB cb tp w w'/\((∃s,c=⟨s,0,0⟩/\e=aX (.tuple #[])/\CK cb tp lo fs fv w' s)\/(c.kind≠0/\e=cU c.kind c.l_))
def Stk(a b:bD):Prop:=a.kind≠0->b.kind=a.kind/\b.l_=a.l_
def Stk.refl(a:bD):Stk a a:=λ_=>⟨rfl,rfl⟩
def Stk.trans{a b:bD}(h:Stk a b)(k:Stk b c):Stk a c:=λd=>by
 obtain⟨e,i⟩:=h d;obtain⟨f,g⟩:=k (by rw[e];exact d)
 exact⟨f.trans e,g.trans i⟩
def Stk.found(s:bD)(l k:Nat):Stk s (s.found l k):=λh=>by unfold bD.found;rw[if_neg h];exact⟨rfl,rfl⟩
def Stk.declares(s:bD)(n:aE):Stk s (Hs.declaresL s n):=by
 unfold Hs.declaresL;split
 ·exact Stk.found _ _ _
 ·exact Stk.refl _
def Stk.look(fs:List aE)(a_:Bool)(s:bD)(n:aE):Stk s (cM fs a_ s n):=by
 unfold cM eP;repeat' split
 all_goals first|exact Stk.found _ _ _|exact Stk.refl _
def Stk.fold{f:bD->aE->bD}(h:∀s k,Stk s (f s k)):∀(l:List aE) (s:bD),Stk s (l.foldl f s)
 |[],s=>Stk.refl s
 |k::l,s=>(h s k).trans (Stk.fold h l (f s k))
def Stk.e_(s:bD)(x:cN):Stk s { s with e_:=x }:=λ_=>⟨rfl,rfl⟩
def Stk.walk(fs:List aE)(a_:Bool):∀(d:Nat) (n:aE) (s:bD),Stk s (aP fs a_ d n s)
 |0,_,s=>Stk.refl s
 |d+1,n,s=>by
  rw[aP];split
  ·split
   ·exact((Stk.declares s _).trans (Stk.walk fs a_ d _ _)).trans (Stk.e_ _ _)
   ·exact Stk.refl s
  ·have h:Stk s (n.y_.foldl (λs k=>aP fs a_ d k s) (cM fs a_ s n)):=(Stk.look fs a_ s n).trans (Stk.fold (λs k=>Stk.walk fs a_ d k s) _ _)
   simp only;split
   ·exact h.trans (Stk.e_ _ _)
   ·exact h
def dI.fault{d:Nat}{h:aQ}{c1:bD}(g:FB cb d w w')(a:c1.kind≠0)(f:Stk c1 c):dI cb d lo fs h w c (cU c1.kind c1.l_) w':=by
 obtain⟨b,e⟩:=f a;exact⟨g,d6 ⟨by rw[b];exact a,by rw[b,e]⟩⟩
def dI.done{a:Nat}{b:aQ}{s:cN}(e:FB cb a w w')(f:c=⟨s,0,0⟩)(d:CK cb a lo fs b w' s):dI cb a lo fs b w c (aX (.tuple #[])) w':=⟨e,d7 ⟨s,f,rfl,d⟩⟩
def lM{B:Nat}(h:Below B a w)(n:Nat):Below B a (w.drewN n):=⟨h.os,h.tape,h.output,h.size,h.block⟩
def bi_(cb p lo:Nat)(fs:List aE)(v:aQ)(w:aG)(e_:cN)(h:CK cb p lo fs v w e_)(G:e_.length<=100000)(l:Nat)(x:cC):
 Calls prog 114 #[aZ cb,.agg #[I_ l,.string (bs x)]] w (dI cb p lo fs v w (if e_.contains x then ⟨e_,0,0⟩ else bD.found ⟨e_,0,0⟩ l 6)):=by
 have m:=h.grow ((eh _ _).alloc cL (.cells #[I_ l,.string (bs x)] 165));obtain⟨F,f,a,_⟩:=m.blk;have i:=h.lt;obtain⟨y,J,C,A⟩:=kD f
 obtain⟨q,s,rfl⟩:∃q s,F=.slice q e_.length s:=by
  rcases a.2 with ⟨rfl,z⟩|⟨g,B,E,rfl,_⟩
  ·exact⟨none,0,by rw[z]⟩
  ·exact⟨_,_,rfl⟩
 have t:=aB (λn=>xP e_ x (.slice q e_.length s) p ((w.alloc (.cells #[I_ l,.string (bs x)] 165)).drewN n) G (aY a λ_ _=>rfl))
 have H:=aB m;have u:Hid (Below w.heap.size w (w.alloc (.cells #[I_ l,.string (bs x)] 165))):=(eh _ _).alloc cL _;clear f a h m A;generalize j:(if e_.contains x then (⟨e_,0,0⟩:bD) else bD.found ⟨e_,0,0⟩ l 6)=c
 have d:=aB j;clear j;generalize e_.contains x=b at*;cases b
 ·have o:c=⟨e_,6,l⟩:=d.symm;subst o;clear d;go_in
  go_wp2_with fail;go_quiet ((go_at_call 155;exact Calls.quiet_of_same (t _)))
  go_wp2_with fail;refine(sV l _).mono ?_;rintro e K ⟨rfl,k⟩;have r:=aB k;clear k;go_wp2_with (go_at_call 94;refine(gW 6 l _).mono ?_;rintro e I ⟨rfl,D⟩;obtain rfl:=D.symm)
  exact⟨rfl,dI.fault (c1:=⟨e_,6,l⟩) (FB.of_below ((lM u _).trans (r.mono s_)) i) s_ (Stk.refl _)⟩
 ·have o:c=⟨e_,0,0⟩:=d.symm;subst o;clear d;go_in
  go_wp2_with fail;go_quiet ((go_at_call 155;exact Calls.quiet_of_same (t _)))
  go_wp2
  go_end0;exact dI.done (FB.of_below (lM u _) i) rfl (H.grow (lM (eh _ _) _))
def sT(cb o lo:Nat)(fs:List aE)(v:aQ)(w:aG)(e_:cN)(h:CK cb o lo fs v w e_)(J:e_.length<=100000)(l:Nat)(x:cC):
 Calls prog 129 #[aZ cb,.agg #[I_ l,.string (bs x)]] w (dI cb o lo fs v w (if gI x || e_.contains x then bD.found ⟨e_,0,0⟩ l 6 else ⟨e_,0,0⟩)):=by
 have k:=h.grow ((eh _ _).alloc cL (.cells #[I_ l,.string (bs x)] 165));obtain⟨I,f,d,_⟩:=k.blk;have i:=h.lt;obtain⟨y,L,E,B⟩:=kD f
 obtain⟨p,r,rfl⟩:∃p r,I=.slice p e_.length r:=by
  rcases d.2 with ⟨rfl,A⟩|⟨g,D,G,rfl,_⟩
  ·exact⟨none,0,by rw[A]⟩
  ·exact⟨_,_,rfl⟩
 have t:=aB (λn=>xP e_ x (.slice p e_.length r) o ((w.alloc (.cells #[I_ l,.string (bs x)] 165)).drewN n) J (aY d λ_ _=>rfl))
 have H:=aB k;have u:Hid (Below w.heap.size w (w.alloc (.cells #[I_ l,.string (bs x)] 165))):=(eh _ _).alloc cL _;have M:(bs x).toList=x:=cI x;clear f d h k B;have C:Hid (gI x=(x==[108,101,110] || x==[114,101,97,100])):=rfl
 generalize j:(if gI x || e_.contains x then bD.found ⟨e_,0,0⟩ l 6 else (⟨e_,0,0⟩:bD))=c
 have a:=aB j;clear j;rw[C.out] at a;generalize e_.contains x=b at*;cases k:(x==[108,101,110])<;>cases z:(x==[114,101,97,100])<;>cases b
 all_goals
  rw[k,z] at a
  first
   |(have s:c=⟨e_,0,0⟩:=a.symm
     subst s;clear a;go_in
     go_wp2_with fail;go_quiet ((go_at_call 155;exact Calls.quiet_of_same (t _)))
     go_wp2
     go_end0;exact dI.done (FB.of_below (lM u _) i) rfl (H.grow (lM (eh _ _) _)))
   |(have s:c=⟨e_,6,l⟩:=a.symm
     subst s;clear a;go_in
     go_wp2_with fail;go_quiet ((go_at_call 155;exact Calls.quiet_of_same (t _)))
     go_wp2_with fail;refine(sV l _).mono ?_;rintro e N ⟨rfl,m⟩;have q:=aB m;clear m;go_wp2_with (go_at_call 94;refine(gW 6 l _).mono ?_;rintro e K ⟨rfl,F⟩;obtain rfl:=F.symm)
     exact⟨rfl,dI.fault (c1:=⟨e_,6,l⟩) (FB.of_below ((lM u _).trans (q.mono s_)) i) s_ (Stk.refl _)⟩)
end Go.Proofs.YtlflgmdcghfngaaGreatDoor
