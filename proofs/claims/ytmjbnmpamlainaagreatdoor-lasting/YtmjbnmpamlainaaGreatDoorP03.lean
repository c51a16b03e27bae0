/- Contracts of the program: operands with operations between them. -/
import Derived.Test.YtmjbnmpamlainaaGreatDoorP02
set_option linter.defProp false
set_option maxRecDepth 100000
set_option maxHeartbeats 4000000
namespace Go.Proofs.YtmjbnmpamlainaaGreatDoor
open Hs
open _root_.Go.Proofs.Tryz
open Go.RowKit
def bs_(C:Ctx)(L:Nat->cB aE)(w:aG)(r:cB aE)(lv tb l:Nat)(k:Nat)(v:aQ)(wr:aG):Prop:=
 Fr C.pb w wr/\∃q a,PAt C wr q/\r=bJ L C.ts lv k a q/\PN (Btw w.heap.size wr.heap.size) wr v a/\v7 wr tb l
def aA_{L:Nat->cB aE}{ts:List bB}{c k q:Nat}{a:aE}(d:c≠2)(h:((aT ts q).sort==112 && cJ (aT ts q).text==c)=true):
 bJ L ts c (k+1) a q=bW (L (q+1)) (fun b e=>bJ L ts c k (aU (aT ts q).text (aT ts q).line [] [a,b]) e):=by
 rw[bJ,if_pos h];cases L (q+1) with
 |error l=>rfl
 |ok f=>simp only[if_neg d];rfl
def Y4{L:Nat->cB aE}{ts:List bB}{b k q:Nat}{a:aE}(h:((aT ts q).sort==112 && cJ (aT ts q).text==b)=false):
 bJ L ts b (k+1) a q=.ok (a,q):=by
 rw[bJ,if_neg (by rw[h];simp)]
def O1(C:Ctx)(L:Nat->cB aE)(F:Nat)(bk:∀S w,Sem.run prog (callFunc F S) w=.ok (.enter F S) w)(HF:PReads C F L)(j:Nat)(M:j≠2)(h9:j≠9)(d:List (List UInt8))(D:∀x,x∈d↔cJ x=j)(ai:d.length<=100)(w:World)(p:Nat)(h:PAt C w p)(g au:Nat)(hg:g<w.heap.size)(al:g≠C.pb)(hc:∀i (hi:i<d.length),w.cell? ⟨g,i,none⟩=some (.string (bs d[i])))
 (H:bW (L p) (bJ L C.ts j (C.ts.length+1))≠.error 0):
 Calls prog 89 #[.pointer (some ⟨C.pb,0,none⟩),.func (.func F) #[.pointer (some ⟨C.pb,0,none⟩)] #[],.slice (some ⟨g,0,none⟩) d.length au] w (JT C w (bW (L p) (bJ L C.ts j (C.ts.length+1)))):=by
 have Q:∀x∈d,x≠[]:=fun x hx e=>by rw[D,e] at hx;exact h9 (hx.symm.trans rfl)
 have av:=aB (fun W q (hf:Fr C.pb w W) (hq:PAt C W q)=>KO C W q d g au (cn_ hg hf.size) al ai Q (fun i hi=>(zB (hf.block g hg al)).trans (hc i hi)) hq)
 have bg:=aB (fun W q (hq:PAt C W q)=>zU (hq.tsk.tk q hq.lt) j h9 d D)
 have ab:=aB (nQ C w p h);have U:L p≠.error 0:=fun e=>H (by rw[e];rfl)
 have P:=aB (fun w1 (hb:Below w.heap.size w w1)=>HF w1 p (h.below hb) U)
 have ax:=aB HF;have bh:=h.pb_lt;obtain⟨r,hr⟩:∃r,r=bW (L p) (bJ L C.ts j (C.ts.length+1)):=⟨_,rfl⟩;rw[<-hr] at H ⊢
 have HR:=aB hr;have ao:=aB H;clear h HF H hr U Q hc D;generalize (aT C.ts p).line=pl at*;cases t:L p with
 |error l=>
  have G:Hid (r=.error l):=by show _=_;rw[HR.out,t];rfl
  rw[t] at P;clear t HR;go_enter func89,ntmps89;go_wp2_with fail;refine ab.out.mono ?_;rintro e w1 ⟨rfl,E⟩;have u:=aB E;clear E;go_wp2_with fail;refine(P.out w1 u.out).mono ?_;rintro e w2 ⟨s,rfl⟩;have bd:=aB ((Fr.below u.out).trans s);clear s;go_wp2_with fail;exact⟨rfl,Out.err G.out bd.out⟩
 |ok aq=>
  obtain⟨a0,q0⟩:=aq;have G:Hid (r=bJ L C.ts j (C.ts.length+1) a0 q0):=by show _=_;rw[HR.out,t];rfl
  rw[t] at P;clear t HR;go_enter func89,ntmps89;go_wp2_with fail;refine ab.out.mono ?_;rintro e w1 ⟨rfl,E⟩;have u:=aB E;clear E;go_wp2_with fail;refine(P.out w1 u.out).mono ?_;rintro e w2 ⟨s,am,v2,rfl,ag⟩;have bc:=u.out.size;have bj:=s.size
  have HI:Hid (bs_ C L w r j w2.heap.size pl (C.ts.length+1) v2 (w2.alloc (.cells #[.int .i64 pl] 153))):=
   ⟨((Fr.below u.out).trans s).alloc _,q0,a0,am.alloc _,G.out,ag.grow (fun k _ M=>cq_ _ _ _ M) bc (by simp),v7.new _ _⟩
  obtain⟨T2,bp,rfl⟩:=ag.form;clear s am ag G P ab;go_wp2_with fail;go_loopg [8,9] (C.ts.length+1) (fun k v o wr=>bs_ C L w r j w2.heap.size pl k v wr)
  case atStart=>exact HI.out
  case round=>
   obtain⟨J,q,a,X,B,Z,T⟩:=hrel;obtain⟨T3,br,rfl⟩:=Z.form
   obtain⟨k,rfl⟩:∃k,gk=k+1:=by
    cases gk with
    |zero=>exact absurd B ao.out
    |succ k=>exact⟨k,rfl⟩
   have HA:=aB (av.out wr q J X);have HO:=aB (bg.out wr q X);have ap:(aT C.ts q).sort=112->cJ (aT C.ts q).text=j->(aT C.ts q).text≠[]:=fun _ e1 e2=>h9 (by rw[<-e1,e2];rfl)
   have ah:=aB ap;have af:=aB J;have aa:=aB Z;have ak:=aB T;have bi:=J.size;clear J X Z T HI ap;generalize oV C.ts q d=oo at*;generalize an:(if oo=[] then q else q+1)=qo at*
   have N:=aB an;clear an;cases f:((aT C.ts q).sort==112 && cJ (aT C.ts q).text==j)
   ·have G:Hid (r=.ok (a,q)):=by show _=_;rw[B];exact Y4 f
    obtain rfl:oo=[]:=by rw[HO.out,f];rfl
    obtain rfl:q=qo:=N.out;clear f B HO N ah;simp only[bs] at HA;go_wp2_with fail;refine HA.out.mono ?_;rintro e w4 ⟨rfl,y,c⟩;have m:=aB c;have z:=aB y;clear c y;go_wp2_with fail;go_ret;exact Out.ok G.out (af.out.trans m.out) z.out (aa.out.grow (fun k h1 M=>m.out.block k M (by omega)) (cy_ _) m.out.size)
   ·obtain⟨rE,K⟩:∃rE,rE=L (q+1):=⟨_,rfl⟩;have I:Hid (r=bW rE (fun b q2=>bJ L C.ts j k (aU (aT C.ts q).text (aT C.ts q).line [] [a,b]) q2)):=by show _=_;rw[B,aA_ M f,K]
    have Y:oo=(aT C.ts q).text:=by rw[HO.out,f];rfl
    have n:(aT C.ts q).sort=112/\cJ (aT C.ts q).text=j:=by simpa using f
    have V:oo≠[]:=by rw[Y];exact ah.out n.1 n.2
    have bb:Hid (cJ (aT C.ts q).text≠9):=by show _≠_;rw[n.2];exact h9
    obtain rfl:q+1=qo:=by rw[<-N.out,if_neg V]
    have aj:L (q+1)≠.error 0:=fun e=>ao.out (by rw[I.out,K,e];rfl)
    have bo:(bs oo).toList.isEmpty=false:=by
     rw[cE];cases oo with
     |nil=>exact absurd rfl V
     |cons x l=>rfl
    have be:=aB K;have bf:=aB Y;clear f B K HO N ah n Y;go_wp2_with fail;refine HA.out.mono ?_;rintro e w4 ⟨rfl,y,c⟩;have P:=aB (ax.out w4.drew (q+1) y.drew aj);rw[<-be.out] at P;have az:=aB (aa.out.grow (fun k h1 M=>c.block k M (by omega)) (cy_ _) c.size)
    have z:=aB (c.keepB ak.out (by omega))
    have m:=aB (af.out.trans c);have c0:=aA z.out (i:=0) rfl;have bq:=aC z.out;have bm:=c.size;clear c y aa ak af HA aj V;cases rE with
    |error l=>
     have G:Hid (r=.error l):=I.out;go_wp2_with fail;go_region_law (refine thrown .nilIface ?_ ?_;(focus go_simp;refine P.out.mono ?_;rintro e w5 ⟨A,rfl⟩;exact cL_ rfl (Out.err G.out (m.out.drew.trans A)));intro O)
     all_goals exact O.out.elim
    |ok iq=>
     obtain⟨i,q5⟩:=iq;have G:Hid (r=bJ L C.ts j k (aU (aT C.ts q).text (aT C.ts q).line [] [a,i]) q5):=I.out;clear I;go_wp2_with fail;go_region_law (go_simp;refine P.out.mono ?_;rintro e w5 ⟨A,ar,v5,rfl,ac⟩;obtain⟨T5,bn,rfl⟩:=ac.form;have ay:=aB ac;have ad:=aB A;have aw:=aB ar;have ae:=aB (((Fr.refl C.pb w4).drew.trans A).keepB z.out (by omega));have d0:=aA ae.out (i:=0) rfl;have bl:=aC ae.out;clear A ar ac)
     all_goals
      go_wp2_with fail;go_roundg k
      case measure=>omega
      case rel=>
       have ba:=ad.out.size
       exact⟨m.out.drew.trans ad.out,q5,_,aw.out,G.out,PN.mk (ck_ (ck_ (ck_ (ck_ (ck_ (ck_ (ck_ (ck_ (cl_ ⟨rfl,pl,_,_,a,i,by rw[bf.out];rfl,bb.out,rfl,rfl⟩))))))))) (fun p hp=>by
        simp only[cv_,cD_,or_false] at hp;rcases hp with rfl|rfl
        ·exact Prt.ok.node (az.out.grow (fun k h1 M=>ad.out.block k M (by omega)) (cy_ _) ba)
        ·exact Prt.ok.node (ay.out.grow (fun _ _ _=>rfl) (by have:=m.out.size;exact this) (cy_ _))),ae.out⟩
def qJ(C:Ctx)(L:Nat->cB aE)(F:Nat)(o:∀b w,Sem.run prog (callFunc F b) w=.ok (.enter F b) w)(s:PReads C F L)(c:Nat)(d:c≠2)(z:c≠9)(a:cN)(f:∀x,x∈a↔cJ x=c)(g:a.length<=100)(w:aG)(p:Nat)(h:PAt C w p)(n:Nat)(m:n=a.length)(cs:Array Value)(k:cs=(a.map fun x=>Value.string (bs x)).toArray)
 (j:bW (L p) (bJ L C.ts c (C.ts.length+1))≠.error 0):
 Calls prog 89 #[bH C.pb,.func (.func F) #[bH C.pb] #[],.slice (some (aH w.heap.size 0)) n n] (w.alloc (.cells cs 9)) (JT C w (bW (L p) (bJ L C.ts c (C.ts.length+1)))):=by
 subst m;have r:=h.pb_lt;refine(O1 C L F o s c d z a f g _ p (h.alloc _) w.heap.size a.length (by simp) (by omega) ?_ j).mono fun e B ⟨t,d⟩=>⟨((Fr.refl _ _).alloc _).trans t,?_⟩
 ·intro i y;refine aA (aO _ _ rfl _) ?_;rw[k];simp[y]
 ·cases q:bW (L p) (bJ L C.ts c (C.ts.length+1)) with
  |error l=>rw[q] at d;exact d
  |ok D=>
   rw[q] at d;obtain⟨u,v,A,m⟩:=d;exact⟨u,v,A,m.grow (fun _ _ _=>rfl) (by simp) cL⟩
def ZD(fn:Fn)(a b:Array Value)(w:aG):(Instr.makeFunc fn a b).run prog w=.ok (.func fn a b) w:=rfl
def QH(C:Ctx)(L:Nat->cB aE)(n:PReads C 199 L):PReads C 187 (fun p=>bW (L p) (bJ L C.ts 4 (C.ts.length+1))):=by
 intro w p h f;have s:=aB (qJ C L 199 (fun _ _=>rfl) n 4 (by decide) (by decide) [[42],[47],[37]] b4_ (by decide) w p h 3 rfl #[.string ⟨#[42]⟩,.string ⟨#[47]⟩,.string ⟨#[37]⟩] rfl f)
 have i:=ZD;show Calls _ _ _ _ (JT C w (bW (L p) (bJ L C.ts 4 (C.ts.length+1))))
 generalize bW (L p) (bJ L C.ts 4 (C.ts.length+1))=r at*;clear h f n;go_in
 go_wp2_with fail;refine s.mono ?_;rintro e t ⟨b,j⟩;cases r with
 |error l=>
  obtain rfl:e=cT 4 l:=j;have c:=aB b;clear b i;go_wp2_with fail;exact⟨rfl,Out.err rfl c⟩
 |ok o=>
  obtain⟨a,q⟩:=o;obtain⟨d,u,rfl,g⟩:=j;have c:=aB b;have m:=aB d;have k:=aB g;clear b d g i;go_wp2
  go_ret;exact Out.ok rfl c m k
def y8(C:Ctx)(L:Nat->cB aE)(n:PReads C 187 L):PReads C 160 (fun p=>bW (L p) (bJ L C.ts 3 (C.ts.length+1))):=by
 intro w p h f;have s:=aB (qJ C L 187 (fun _ _=>rfl) n 3 (by decide) (by decide) [[43],[45]] b5_ (by decide) w p h 2 rfl #[.string ⟨#[43]⟩,.string ⟨#[45]⟩] rfl f)
 have i:=ZD;show Calls _ _ _ _ (JT C w (bW (L p) (bJ L C.ts 3 (C.ts.length+1))))
 generalize bW (L p) (bJ L C.ts 3 (C.ts.length+1))=r at*;clear h f n;go_in
 go_wp2_with fail;refine s.mono ?_;rintro e t ⟨b,j⟩;cases r with
 |error l=>
  obtain rfl:e=cT 4 l:=j;have c:=aB b;clear b i;go_wp2_with fail;exact⟨rfl,Out.err rfl c⟩
 |ok o=>
  obtain⟨a,q⟩:=o;obtain⟨d,u,rfl,g⟩:=j;have c:=aB b;have m:=aB d;have k:=aB g;clear b d g i;go_wp2
  go_ret;exact Out.ok rfl c m k
def bd_(C:Ctx)(L:Nat->cB aE)(n:PReads C 125 L):PReads C 90 (fun p=>bW (L p) (bJ L C.ts 1 (C.ts.length+1))):=by
 intro w p h f;have s:=aB (qJ C L 125 (fun _ _=>rfl) n 1 (by decide) (by decide) [[38,38]] b7_ (by decide) w p h 1 rfl #[.string ⟨#[38,38]⟩] rfl f)
 have i:=ZD;show Calls _ _ _ _ (JT C w (bW (L p) (bJ L C.ts 1 (C.ts.length+1))))
 generalize bW (L p) (bJ L C.ts 1 (C.ts.length+1))=r at*;clear h f n;go_in
 go_wp2_with fail;refine s.mono ?_;rintro e t ⟨b,j⟩;cases r with
 |error l=>
  obtain rfl:e=cT 4 l:=j;have c:=aB b;clear b i;go_wp2_with fail;exact⟨rfl,Out.err rfl c⟩
 |ok o=>
  obtain⟨a,q⟩:=o;obtain⟨d,u,rfl,g⟩:=j;have c:=aB b;have m:=aB d;have k:=aB g;clear b d g i;go_wp2
  go_ret;exact Out.ok rfl c m k
def b9(C:Ctx)(L:Nat->cB aE)(n:PReads C 90 L):PReads C 55 (fun p=>bW (L p) (bJ L C.ts 0 (C.ts.length+1))):=by
 intro w p h f;have s:=aB (qJ C L 90 (fun _ _=>rfl) n 0 (by decide) (by decide) [[124,124]] b8_ (by decide) w p h 1 rfl #[.string ⟨#[124,124]⟩] rfl f)
 have i:=ZD;show Calls _ _ _ _ (JT C w (bW (L p) (bJ L C.ts 0 (C.ts.length+1))))
 generalize bW (L p) (bJ L C.ts 0 (C.ts.length+1))=r at*;clear h f n;go_in
 go_wp2_with fail;refine s.mono ?_;rintro e t ⟨b,j⟩;cases r with
 |error l=>
  obtain rfl:e=cT 4 l:=j;have c:=aB b;clear b i;go_wp2_with fail;exact⟨rfl,Out.err rfl c⟩
 |ok o=>
  obtain⟨a,q⟩:=o;obtain⟨d,u,rfl,g⟩:=j;have c:=aB b;have m:=aB d;have k:=aB g;clear b d g i;go_wp2
  go_ret;exact Out.ok rfl c m k
def MM(C:Ctx)(L:Nat->cB aE)(v:PReads C 160 L):PReads C 125 (fun p=>bW (L p) (bJ L C.ts 2 (C.ts.length+1))):=by
 intro w p h J;have N:=aB (nQ C w p h);have I:L p≠.error 0:=fun e=>J (by show bW _ _=_;rw[e];rfl)
 have G:=aB (fun W (hb:Below w.heap.size w W)=>v W p (h.below hb) I)
 have af:=aB v;have ap:=h.pb_lt;obtain⟨r,hr⟩:∃r,r=bW (L p) (bJ L C.ts 2 (C.ts.length+1)):=⟨_,rfl⟩;have H:r≠.error 0:=hr▸J;show Calls _ _ _ _ (JT C w (bW (L p) (bJ L C.ts 2 (C.ts.length+1))))
 rw[<-hr];have HR:=aB hr;have ak:=aB H;clear h v J hr I H;generalize (aT C.ts p).line=X at*;cases o:L p with
 |error l=>
  have v:Hid (r=.error l):=by show _=_;rw[HR.out,o];rfl
  rw[o] at G;clear o HR;go_enter func125,ntmps125;go_wp2_with fail;refine N.out.mono ?_;rintro e W ⟨rfl,y⟩;have f:=aB y;clear y;go_wp2_with fail;refine(G.out W f.out).mono ?_;rintro e w2 ⟨m,rfl⟩;have am:=aB ((Fr.below f.out).trans m);clear m;go_wp2_with fail;exact⟨rfl,Out.err v.out am.out⟩
 |ok aq=>
  obtain⟨a,q⟩:=aq;have aa:r=bJ L C.ts 2 (C.ts.length+1) a q:=by rw[HR.out,o];rfl
  rw[o] at G;clear o HR;have B:=aB aa;clear aa;go_enter func125,ntmps125;go_wp2_with fail;refine N.out.mono ?_;rintro e W ⟨rfl,y⟩;have f:=aB y;clear y;go_wp2_with fail;refine(G.out W f.out).mono ?_;rintro e w2 ⟨m,E,v2,rfl,V⟩;have al:=f.out.size;have ar:=m.size;have M:=aB (V.grow (lo':=w.heap.size) (w':=w2.alloc (.cells #[.int .i64 X] 153)) (hi':=w2.heap.size+1) (fun k _ Q=>cq_ _ _ _ Q) al (by simp))
  have U:=aB (((Fr.below f.out).trans m).alloc (.cells #[.int .i64 X] 153));have Z:=aB (v7.new w2 X);have aj:=aB (E.alloc (.cells #[.int .i64 X] 153));obtain⟨T3,ay,rfl⟩:=V.form;have HO:=aB (zU (E.tsk.tk q E.lt) 2 (by decide) [[61,61],[33,61],[60],[60,61]] b6_)
  clear m E V G N f;generalize j:oV C.ts q [[61,61],[33,61],[60],[60,61]]=O at*;have HM:=aB (KS C _ q aj.out [[61,61],[33,61],[60],[60,61]] (by decide) (by intro x hx;simp at hx;rcases hx with rfl|rfl|rfl|rfl<;>simp) O j (w2.heap.size+1) (by simp) 4 rfl #[.string ⟨#[61,61]⟩,.string ⟨#[33,61]⟩,.string ⟨#[60]⟩,.string ⟨#[60,61]⟩] rfl)
  generalize ab:(if O=[] then q else q+1)=qo at*
  have D:=aB ab;clear ab j;cases d:((aT C.ts q).sort==112 && cJ (aT C.ts q).text==2)
  ·have v:Hid (r=.ok (a,q)):=by show _=_;rw[B.out];exact Y4 d
   obtain rfl:O=[]:=by rw[HO.out,d];rfl
   obtain rfl:q=qo:=D.out;clear d B HO D;simp only[bs] at HM;go_wp2_with fail;refine HM.out.mono ?_;rintro e w4 ⟨rfl,s,c⟩;have n:=aB c;have t:=aB s;have S:=c.size;simp at S;clear c s;go_wp2_with fail;go_ret;exact Out.ok v.out (U.out.trans n.out) t.out (M.out.grow (fun k h1 Q=>n.out.block k (by simpa using Q) (by omega)) (cy_ _) (by omega))
  ·obtain⟨rE,A⟩:∃rE,rE=L (q+1):=⟨_,rfl⟩
   have z:Hid (r=cF (fun b=>aU (aT C.ts q).text (aT C.ts q).line [] [a,b]) rE):=by
    show _=_
    rw[B.out,bJ,if_pos d,A];cases L (q+1)<;>rfl
   have j:O=(aT C.ts q).text:=by rw[HO.out,d];rfl
   have g:(aT C.ts q).sort=112/\cJ (aT C.ts q).text=2:=by simpa using d
   have K:O≠[]:=by
    intro e;rw[<-j,e] at g;exact absurd g.2 (by decide)
   have ai:Hid (cJ (aT C.ts q).text≠9):=by show _≠_;rw[g.2];decide
   obtain rfl:q+1=qo:=by rw[<-D.out,if_neg K]
   have Y:L (q+1)≠.error 0:=fun e=>ak.out (by rw[z.out,A,e];rfl)
   have aw:(bs O).toList.isEmpty=false:=by
    rw[cE];cases O with
    |nil=>exact absurd rfl K
    |cons x l=>rfl
   have an:=aB A;have ao:=aB j;clear d B A HO D g j;go_wp2_with fail;refine HM.out.mono ?_;rintro e w4 ⟨rfl,s,c⟩;have G:=aB (af.out w4.drew (q+1) s.drew Y);rw[<-an.out] at G;have S:=c.size;simp at S;have ah:=aB (M.out.grow (lo':=w.heap.size) (hi':=w4.heap.size) (fun k h1 Q=>c.block k (by simpa using Q) (by omega)) (cy_ _) (by omega))
   have t:=aB (c.keepB Z.out (by omega))
   have n:=aB (U.out.trans c);have c0:=aA t.out (i:=0) rfl;have ax:=aC t.out;clear c s M Z U HM Y K;cases rE with
   |error l=>
    have v:Hid (r=.error l):=z.out;go_wp2_with fail;go_region_law (refine thrown .nilIface ?_ ?_;(focus go_simp;go_at_call 160;refine G.out.mono ?_;rintro e w5 ⟨u,rfl⟩;exact cL_ rfl (Out.err v.out (n.out.drew.trans u)));intro F)
    all_goals exact F.out.elim
   |ok iq=>
    obtain⟨i,q5⟩:=iq;have v:Hid (r=.ok (aU (aT C.ts q).text (aT C.ts q).line [] [a,i],q5)):=z.out;clear z;go_wp2_with fail;go_region_law (go_simp;go_at_call 160;refine G.out.mono ?_;rintro e w5 ⟨u,ad,v5,rfl,P⟩;obtain⟨T5,av,rfl⟩:=P.form;have ag:=aB P;have T:=aB u;have ae:=aB ad;have ac:=aB (((Fr.refl C.pb w4).drew.trans u).keepB t.out (by omega));have d0:=aA ac.out (i:=0) rfl;have au:=aC ac.out;clear u ad P)
    all_goals (go_wp2_with fail;go_ret)
    all_goals exact Out.ok v.out (n.out.drew.trans T.out) ae.out (PN.mk (ck_ (ck_ (ck_ (ck_ (ck_ (ck_ (ck_ (ck_ (cl_ ⟨rfl,X,_,_,a,i,by rw[ao.out];rfl,ai.out,rfl,rfl⟩))))))))) (fun p hp=>by
     simp only[cv_,cD_,or_false] at hp;rcases hp with rfl|rfl
     ·exact Prt.ok.node (ah.out.grow (fun k h1 Q=>T.out.block k Q (by omega)) (cy_ _) T.out.size)
     ·exact Prt.ok.node (ag.out.grow (fun _ _ _=>rfl) (by have:=n.out.size;exact this) (cy_ _))))
def yP(C:Ctx):∀f,PReads C 55 (eL C.ts f)
 |0=>fun _ _ _ a=>absurd rfl a
 |f+1=>fun w p h a=>b9 C (gI (eL C.ts f) C.ts 4) (bd_ C (gI (eL C.ts f) C.ts 3) (MM C (gI (eL C.ts f) C.ts 2) (y8 C (gI (eL C.ts f) C.ts 1) (QH C (gI (eL C.ts f) C.ts 0) (ZZ C (eL C.ts f) (yP C f) (C.ts.length+1)))))) w p h a
def LO{b c:Type}(ts:List bB)(x:cD)(f:b->c)(r:cB b):aS ts x (cF f r)=cF f (aS ts x r):=by
 cases r with
 |error l=>rfl
 |ok d=>
  obtain⟨a,q⟩:=d;unfold aS cF;simp only;split<;>rfl
def RK(C:Ctx)(E:Nat->cB aE)(F:PReads C 55 E):PReads C 181 (fun p=>aS C.ts [59] (E p)):=by
 intro w p h o;have s:E p≠.error 0:=fun e=>o (by show aS _ _ _=_;rw[e];rfl)
 have A:=aB (F w p h s);have G:=h.pb_lt;show Calls _ _ _ _ (JT C w (aS C.ts [59] (E p)))
 obtain⟨r,z⟩:∃r,r=aS C.ts [59] (E p):=⟨_,rfl⟩;rw[<-z];generalize E p=I at*;have t:=aB z;clear h F o s z;cases I with
 |error l=>
  have u:Hid (r=.error l):=t;go_in
  go_wp2_with fail;refine A.mono ?_;rintro e B ⟨c,rfl⟩;have i:=aB c;clear c;go_wp2_with fail;exact⟨rfl,Out.err u i⟩
 |ok K=>
  obtain⟨a,q⟩:=K;go_in
  go_wp2_with fail;refine A.mono ?_;rintro e B ⟨c,n,P,rfl,j⟩;obtain⟨N,M,rfl⟩:=j.form;have f:=aB (gN C B q ⟨#[59]⟩ n);have D:(⟨#[59]⟩:ByteArray).data.toList=[59]:=rfl;rw[D] at f;have i:=aB c;have y:=aB j;have L:=c.size;clear n c j A D;cases b:aY C.ts q [59]
  ·have u:Hid (r=.error (aT C.ts q).line):=by show _=_;rw[t.out];exact zH b
   rw[b] at f;clear b t;go_wp2_with fail;refine f.mono ?_;rintro e J ⟨d,m⟩;obtain rfl:e=cT 4 (aT C.ts q).line:=m;have g:=aB (i.trans d);clear d;go_wp2_with fail;exact⟨rfl,Out.err u g⟩
  ·have u:Hid (r=.ok (a,q+1)):=by show _=_;rw[t.out];exact pD b
   rw[b] at f;clear b t;go_wp2_with fail;refine f.mono ?_;rintro e J ⟨d,m⟩;obtain⟨rfl,v⟩:=m;have g:=aB d;have x:=aB v;clear d v;go_wp2
   go_ret;exact Out.ok u (i.trans g) x (y.grow (fun k O H=>g.block k H (by omega)) cL g.size)
def qO(C:Ctx)(w:aG)(q:Nat)(l:List aE)(t:bB)(v:aQ)(wc:aG):Prop:=
 ∃cb sv,v=bH cb/\cb≠C.pb/\Fr C.pb w wc/\PAt C wc q/\wc.heap[cb]?=some (.cells #[Iv0 t.line,.string (bs t.text),sv] 192 (0,0))/\PKid (Btw w.heap.size wc.heap.size) wc sv l
def qO.late{C:Ctx}{w b a:aG}{q:Nat}{l:List aE}{t:bB}{c:aQ}(e:Fr C.pb w b)(g:Fr C.pb b a)(d:PAt C a q)(f:PKid (Btw b.drew.heap.size a.heap.size) a c l):
 qO C w q l t (bH a.heap.size) (a.alloc (.cells #[Iv0 t.line,.string (bs t.text),c] 192)):=by
 have h:=d.pb_lt;refine⟨a.heap.size,c,rfl,by omega,(e.trans g).alloc _,d.alloc _,aO _ _ rfl _,f.grow (fun k _ i=>cq_ _ _ _ i) ?_ (by simp)⟩
 exact e.size
def qO.early{C:Ctx}{w d f:aG}{q:Nat}{l:List aE}{t:bB}{g:aQ}{cs:Array Value}{o:Obj}(m:Fr C.pb w d)(y:Fr C.pb d f)(s:PAt C f q)(n:C.pb<d.heap.size)(x:C.g<d.heap.size)(r:PKid (Btw (d.alloc o).drew.heap.size f.heap.size) f g l)(p:f.heap[d.heap.size]?=some (.cells cs 192 (0,0)))(h:cs.size=3):
 qO C w q l t (bH d.heap.size) (((f.setCell (aH d.heap.size 0) (Iv0 t.line)).setCell (aH d.heap.size 1) (.string (bs t.text))).setCell (aH d.heap.size 2) g):=by
 have e:=m.size;have j:∀(W:aG) (i:Nat) (u:aQ),(W.setCell (aH d.heap.size i) u).heap.size=W.heap.size:=fun W i u=>by simp[World.setCell]
 refine⟨d.heap.size,g,rfl,by omega,(((m.trans y).setCell (ck_ e) _).setCell (ck_ e) _).setCell (ck_ e) _,((s.other (by omega) (by omega)).other (by omega) (by omega)).other (by omega) (by omega),?_,?_⟩
 ·rw[aK (aK (aK p))];congr 1
  match cs,h with
  |⟨[a,b,c]⟩,_=>rfl
 ·refine r.grow (fun k A z=>?_) ?_ ?_
  ·have v:d.heap.size<k:=by have:(d.alloc o).drew.heap.size=d.heap.size+1:=by simp
                            omega
   rw[cm_ _ _ _ _ (by show k≠d.heap.size;omega),cm_ _ _ _ _ (by show k≠d.heap.size;omega),cm_ _ _ _ _ (by show k≠d.heap.size;omega)]
  ·have:(d.alloc o).drew.heap.size=d.heap.size+1:=by simp
   omega
  ·rw[j,j,j];exact cy_ _
def ZQ(C:Ctx)(E:Nat->cB aE)(w w0:aG)(r0:cB (List aE))(nb:Nat)(t:bB)(k:Nat)(v:aQ)(wr:aG):Prop:=
 Fr C.pb w wr/\∃q acc,PAt C wr q/\r0=fH E C.ts k q acc/\acc.length+k<=4000/\PLst w0.heap.size wr v acc/\wr.heap[nb]?=some (.cells #[Iv0 t.line,.string (bs t.text)] 155 (0,0))/\w0.heap.size<=wr.heap.size
def UZ(C:Ctx)(E:Nat->cB aE)(HE:PReads C 55 E):PReads C 183 (fG E C.ts):=by
 obtain⟨i0,hi,da,dm,dg⟩:=info_parts EW;intro w p h bk;have ao:=aB (nP C w p h);have cr:=aB HE;have dh:=aB (RK C E HE);have dx:=h.pb_lt;have eg:=h.g_lt;have dq:=h.len;obtain⟨r,hr⟩:∃r,r=fG E C.ts p:=⟨_,rfl⟩;rw[<-hr] at bk ⊢
 rw[fG] at hr;have s:=aB hr;have bt:=aB bk;clear h HE bk hr;generalize cs:aT C.ts p=t at*;have cx:=aB cs;clear cs;cases hs:(t.sort==110)
 ·rw[hs] at ao;have Q:Hid (r=.error t.line):=by show _=_;rw[s.out,hs];show Hs.bad _ _=_;unfold Hs.bad;rw[cx.out]
  clear hs s;go_enter func183,ntmps183;go_wp2_with fail;refine ao.out.mono ?_;rintro e w7 ⟨ag,bn⟩;obtain rfl:e=cT 4 t.line:=bn;have af:=aB ag;clear ag;go_wp2_with fail;exact⟨rfl,Out.err Q.out af.out⟩
 rw[hs] at ao
 have aj:Hid (r=if aY C.ts (p+1) [40] then
  cF (fun l=>aU [100,111] t.line t.text [aU [99,97,108,108] t.line t.text l]) (aS C.ts [59] (eY E C.ts (p+1) [40] [41]))
  else
   bW (aS C.ts [61] (fH E C.ts (C.ts.length+1) (p+1) [])) fun bq q=>
    cF (fun v=>aU [115,101,116] t.line t.text (bq++[v])) (aS C.ts [59] (E q))):=by
  show _=_
  rw[s.out,hs];simp only[LO];rfl
 clear s hs;go_enter func183,ntmps183;go_wp2_with fail;refine ao.out.mono ?_;rintro e w7 ⟨ag,bn⟩;obtain⟨rfl,bb⟩:=bn;have af:=aB (ag.alloc (.cells #[.int .i64 t.line,.string (bs t.text)] 155));have aa:=aB (dO C (w7.alloc (.cells #[.int .i64 t.line,.string (bs t.text)] 155)) (p+1) ⟨#[40]⟩ (bb.alloc _));have cm:(⟨#[40]⟩:ByteArray).data.toList=[40]:=rfl;rw[cm] at aa;have bv:Hid ((w7.alloc (.cells #[.int .i64 t.line,.string (bs t.text)] 155)).heap[w7.heap.size]?=some (.cells #[.int .i64 t.line,.string (bs t.text)] 155 (0,0))):=aO _ _ rfl _;have L:w7.heap.size≠C.pb:=by have:=bb.pb_lt;omega
 have dr:=ag.size;clear ag bb ao cm;cases i5:aY C.ts (p+1) [40];rotate_left
 ·rw[i5] at aa;obtain⟨r1,bm⟩:∃r1,r1=iP E C.ts (p+1+1) [41]:=⟨_,rfl⟩;have z:Hid (r=cF (fun l=>aU [100,111] t.line t.text [aU [99,97,108,108] t.line t.text l]) (aS C.ts [59] (aS C.ts [41] r1))):=by show _=_;rw[aj.out,i5,bm];unfold eY;rw[i5];rfl
  have ch:=aB bm;clear i5 aj bm;go_wp2_with fail;refine aa.out.mono ?_;rintro e w8 ⟨rfl,B,U⟩;have K:=aB (U.keepB bv.out L);have au:=aB (af.out.trans U);have HV:=aB (fun W (hW:PAt C W (p+1+1))=>uM C E cr.out W (p+1+1) ⟨#[41]⟩ hW r1 _ ch rfl (fun e=>bt.out (by rw[z.out,e];rfl)))
  have cg:(⟨#[41]⟩:ByteArray).data.toList=[41]:=rfl;rw[cg] at HV;have Z:=aB B;have c0:=aA K.out (i:=0) rfl;have c1:=aA K.out (i:=1) rfl;have cz:=aC K.out;have ds:=au.out.size;clear B U aa cg;cases hV:aS C.ts [41] r1 with
  |error l=>
   rw[hV] at HV;have Q:Hid (r=.error l):=by show _=_;rw[z.out,hV];rfl
   clear hV;go_wp2_with fail;go_region_law (refine thrown (.slice none 0 0) ?_ ?_;(focus go_simp;go_at_call 197;refine(HV.out _ ?_).mono ?_;(focus first|exact Z.out.drew|exact(Z.out.alloc _).drew);rintro e w9 ⟨y,rfl⟩;first|exact cL_ rfl (Out.err Q.out (au.out.drew.trans y))|exact cL_ rfl (Out.err Q.out ((au.out.alloc _).drew.trans y)));intro O)
   all_goals exact O.out.elim
  |ok lq=>
   obtain⟨l,q⟩:=lq;rw[hV] at HV;have P:Hid (r=cF (fun l=>aU [100,111] t.line t.text [aU [99,97,108,108] t.line t.text l]) (aS C.ts [59] (.ok (l,q)))):=by show _=_;rw[z.out,hV]
   clear hV z ch;have u:=Z.out.pb_lt;have ak:=Z.out.g_lt;go_wp2_with fail;go_cut [4] (fun v wc=>qO C w q l t v wc)
   case first=>
    go_region_law (go_simp;go_at_call 197;refine(HV.out _ ?_).mono ?_;(focus first|exact Z.out.drew|exact(Z.out.alloc _).drew);rintro e w9 ⟨y,ar,v,rfl,hk⟩;obtain⟨x,c,rfl⟩:=hk.slice;have HK:=aB hk;have ae:=aB ar;(first|(have cv:=y;have A:=aB (((Fr.refl C.pb w8).alloc (.cells #[.int .i64 0,.string ⟨#[]⟩,.slice none 0 0] 192)).drew.trans y);have V:=aB (y.keepB (b:=w8.heap.size) (o:=.cells #[.int .i64 0,.string ⟨#[]⟩,.slice none 0 0] 192 (0,0)) (aO w8 _ rfl _) (by omega));have z0:=aA V.out (i:=0) rfl;have z1:=aA V.out (i:=1) rfl;have z2:=aA V.out (i:=2) rfl;have y0:=aD (i:=0) V.out;have y1:=aD (i:=1) V.out;have y2:=aD (i:=2) V.out;have ea:=aC V.out;clear cv)|have A:=aB ((Fr.refl C.pb w8).drew.trans y));have ap:=aB (A.out.keepB K.out L);have d0:=aA ap.out (i:=0) rfl;have d1:=aA ap.out (i:=1) rfl;have dn:=aC ap.out;clear y ar hk)
    all_goals
     go_wp2_with fail;go_meet
     case rel=>first|exact qO.late au.out A.out ae.out HK.out|exact qO.early au.out A.out ae.out u ak HK.out V.out rfl
   case rest=>
    obtain⟨cb,sv,rfl,dk,f,X,bi,al⟩:=hcut;obtain⟨x,c,rfl⟩:=al.slice;have j:=aB (gN C wc q ⟨#[59]⟩ X);have ed:(⟨#[59]⟩:ByteArray).data.toList=[59]:=rfl;rw[ed] at j;have I:=aB f;have cq:=aB bi;have cn:=aB al;have cd:=f.size;clear f X bi al ed HV c0 c1 K cz Z;cases d:aY C.ts q [59]
    ·have Q:Hid (r=.error (aT C.ts q).line):=by show _=_;rw[P.out,zH d];rfl
     rw[d] at j;clear d P;go_wp2_with fail;refine j.out.mono ?_;rintro e df ⟨H,ba⟩;obtain rfl:e=cT 4 (aT C.ts q).line:=ba;have T:=aB (I.out.trans H);clear H;go_wp2_with fail;exact⟨rfl,Out.err Q.out T.out⟩
    ·have Q:Hid (r=.ok (aU [100,111] t.line t.text [aU [99,97,108,108] t.line t.text l],q+1)):=by show _=_;rw[P.out,pD d];rfl
     rw[d] at j;clear d P;go_wp2_with fail;refine j.out.mono ?_;rintro e df ⟨H,ba⟩;obtain⟨rfl,bg⟩:=ba;have T:=aB H;have ck:=aB bg;have ad:=aB (H.keepB cq.out dk);have m0:=aA ad.out (i:=0) rfl;have m1:=aA ad.out (i:=1) rfl;have m2:=aA ad.out (i:=2) rfl;have dt:=aC ad.out;clear H bg;go_wp2_with fail;go_ret;exact Out.ok Q.out (I.out.trans T.out) ck.out (PN.mk (ck_ (ck_ (ck_ (ck_ (ck_ (ck_ (ck_ (ck_ (ck_ (ck_ (ck_ (ck_ (ck_ (ck_ (ck_ (ck_ (ck_ (⟨rfl,_,aU [99,97,108,108] t.line t.text l,rfl,rfl,rfl,rfl,rfl,rfl,rfl⟩)))))))))))))))))) (fun p hp=>by obtain rfl:=cs_.1 hp;exact Prt.ok.list (cn.out.grow (fun k h1 h2=>T.out.block k h2 (by omega)) (cy_ _) T.out.size)))
 rw[i5] at aa;obtain⟨r0,bu⟩:∃r0,r0=fH E C.ts (C.ts.length+1) (p+1) []:=⟨_,rfl⟩;have z:Hid (r=bW (aS C.ts [61] r0) fun bq q=>cF (fun v=>aU [115,101,116] t.line t.text (bq++[v])) (aS C.ts [59] (E q))):=by show _=_;rw[aj.out,i5,bu];rfl
 have cc:=aB bu;have bj:Hid (r0≠.error 0):=fun e=>bt.out (by rw[z.out,e];rfl)
 clear i5 aj bu;go_wp2_with fail;refine aa.out.mono ?_;rintro e w8 ⟨rfl,B,U⟩;have u:=B.pb_lt;have ak:=B.g_lt;have K:=aB (U.keepB bv.out L);have dw:=aC K.out;have de:w.heap.size<=w8.heap.size:=(af.out.trans U).size;have HI:Hid (ZQ C E w w8 r0 w7.heap.size t (C.ts.length+1) (.slice none 0 0) w8):=⟨af.out.trans U,p+1,[],B,cc.out,by simp;omega,PLst.nil _ _,K.out,cy_ _⟩
 clear B U aa bv K af;go_wp2_with fail;go_loopg [5] (C.ts.length+1) (fun k v wr=>ZQ C E w w8 r0 w7.heap.size t k v wr)
 case atStart=>exact HI.out
 case round=>
  obtain⟨bp,q4,M,cf,ay,dz,bw,bh,du⟩:=hrel;obtain⟨x4,c4,rfl⟩:=bw.slice;have ab:=aB (dO C wr q4 ⟨#[91]⟩ cf);have ed:(⟨#[91]⟩:ByteArray).data.toList=[91]:=rfl;rw[ed] at ab;have co:=aB bp;have bc:=aB bw;have ac:=aB bh;have ec:=bp.size
  obtain⟨k,rfl⟩:∃k,gk=k+1:=by
   cases gk with
   |zero=>exact absurd ay bj.out
   |succ k=>exact⟨k,rfl⟩
  clear bp cf bw bh HI cc ed;cases d:aY C.ts q4 [91]
  ·have s:Hid (r0=.ok (M,q4)):=by show _=_;rw[ay,fH,d];rfl
   rw[d] at ab;clear d ay;go_wp2_with fail;refine ab.out.mono ?_;rintro e w5 ⟨rfl,az,D⟩;have j:=aB (gN C w5 q4 ⟨#[61]⟩ az);have ed:(⟨#[61]⟩:ByteArray).data.toList=[61]:=rfl;rw[ed] at j;have ai:=aB (co.out.trans D);have ah:=aB (bc.out.keep D u);have S:=aB (D.keepB ac.out L);have db:=D.size;clear az D ab bc ed ac;cases d:aY C.ts q4 [61]
   ·have Q:Hid (r=.error (aT C.ts q4).line):=by show _=_;rw[z.out,s.out,zH d];rfl
    rw[d] at j;clear d z s;go_wp2_with fail;refine j.out.mono ?_;rintro e w6 ⟨m,bo⟩;obtain rfl:e=cT 4 (aT C.ts q4).line:=bo;have N:=aB (ai.out.trans m);clear m;go_wp2_with fail;exact⟨rfl,Out.err Q.out N.out⟩
   ·obtain⟨rE,J⟩:∃rE,rE=aS C.ts [59] (E (q4+1)):=⟨_,rfl⟩;have P:Hid (r=cF (fun v=>aU [115,101,116] t.line t.text (M++[v])) rE):=by show _=_;rw[z.out,s.out,pD d,J];rfl
    have am:aS C.ts [59] (E (q4+1))≠.error 0:=fun e=>bt.out (by rw[P.out,J,e];rfl)
    rw[d] at j;have bx:=aB J;clear d z s J;go_wp2_with fail;refine j.out.mono ?_;rintro e w6 ⟨m,bo⟩;obtain⟨rfl,aw⟩:=bo;have HX:=aB (dh.out w6.drew (q4+1) aw.drew am);simp only[<-bx.out] at HX;have N:=aB (ai.out.trans m);have dd:=aB (ah.out.keep m u);have G:=aB (m.keepB S.out L);have cy:=m.size;have m0:=aA G.out (i:=0) rfl;have m1:=aA G.out (i:=1) rfl;have eb:=aC G.out;clear aw m j ah S am;cases rE with
    |error l=>
     have Q:Hid (r=.error l):=P.out;go_wp2_with fail;go_region_law (refine thrown .nilIface ?_ ?_;(focus go_simp;go_at_call 181;refine HX.out.mono ?_;rintro e w9 ⟨y,rfl⟩;exact cL_ rfl (Out.err Q.out (N.out.drew.trans y)));intro O)
     all_goals exact O.out.elim
    |ok aq=>
     obtain⟨a,q⟩:=aq;have Q:Hid (r=.ok (aU [115,101,116] t.line t.text (M++[a]),q)):=P.out;clear P;go_wp2_with fail;go_region_law (go_simp;go_at_call 181;refine HX.out.mono ?_;rintro e w9 ⟨y,ar,v9,rfl,ca⟩;obtain⟨T9,ee,rfl⟩:=ca.form;have A:=aB ((Fr.refl C.pb w6).drew.trans y);have ap:=aB ca;have ae:=aB ar;have Y:=aB (A.out.keepB G.out L);have d0:=aA Y.out (i:=0) rfl;have d1:=aA Y.out (i:=1) rfl;have dn:=aC Y.out;clear y ar ca)
     all_goals (go_wp2_with fail;go_ret)
     all_goals exact Out.ok Q.out (N.out.trans A.out) ae.out (PN.mk (ck_ (ck_ (ck_ (ck_ (ck_ (ck_ (ck_ (ck_ (ck_ (ck_ (cl_ (⟨rfl,_,_,M,a,rfl,rfl,rfl,rfl⟩)))))))))))) (fun p hp=>by
      simp only[cv_,cD_,or_false] at hp;have dl:=A.out.size;rcases hp with rfl|rfl
      ·exact Prt.ok.list ((dd.out.keep A.out u).kid.grow (fun _ _ _=>rfl) (by omega) (cy_ _))
      ·exact Prt.ok.node (ap.out.grow (fun _ _ _=>rfl) (by show _<=w6.heap.size;omega) (cy_ _))))
  ·obtain⟨rE,J⟩:∃rE,rE=E (q4+1):=⟨_,rfl⟩
   have s:Hid (r0=bW (aS C.ts [93] rE) fun i q=>fH E C.ts k q (M++[i])):=by
    show _=_
    rw[ay,fH,d,J,if_pos rfl];cases aS C.ts [93] (E (q4+1))<;>rfl
   have am:E (q4+1)≠.error 0:=fun e=>bj.out (by rw[s.out,J,e];rfl)
   have bx:=aB J;rw[d] at ab;clear d ay J;go_wp2_with fail;refine ab.out.mono ?_;rintro e w5 ⟨rfl,az,D⟩;have HX:=aB (cr.out w5 (q4+1) az am);simp only[<-bx.out] at HX;have ai:=aB (co.out.trans D);have ah:=aB (bc.out.keep D u);have S:=aB (D.keepB ac.out L);have db:=D.size;clear az D ab bc am ac;cases rE with
   |error l=>
    have Q:Hid (r=.error l):=by show _=_;rw[z.out,s.out];rfl
    go_wp2_with fail;refine HX.out.mono ?_;rintro e w6 ⟨m,rfl⟩;have N:=aB (ai.out.trans m);clear m HX;go_wp2_with fail;exact⟨rfl,Out.err Q.out N.out⟩
   |ok dj=>
    obtain⟨a6,q6⟩:=dj;go_wp2_with fail;refine HX.out.mono ?_;rintro e w6 ⟨m,aw,v6,rfl,br⟩;obtain⟨T6,cw,rfl⟩:=br.form;obtain⟨vs,F,ax,bf,cl⟩:=ah.out.keep m u
    have ct:∀g,(Value.slice x4 M.length c4).ownBlock=some g->g<w5.heap.size:=by
     obtain⟨dy,F',bz,_⟩:=ah.out;exact cP bz
    have ce:=aB ct;have N:=aB (ai.out.trans m);have ci:=aB aw;have cj:=aB br;have G:=aB (m.keepB S.out L);have HALL:=aB (cL_ bf cl);have cy:=m.size;have bd:∀k,(Value.slice x4 M.length c4).ownBlock=some k->w8.heap.size<=k:=cS ax;clear aw m br HX ah ai bf cl ct S;go_wp2_with (at_builtin;refine wpList_append_lies _ (by rfl) _ _ 157 (by rfl) w8.heap.size 59 i0 _ 1 16 underlying157 hi da dm dg rfl (by decide) _ _ _ (by rfl) (ax.alloc _) ⟨w6.heap.size,0,none⟩ 1 1 [.iface T6 (.agg cw)] (by rfl) (by rfl) (tG _ _) (wN _ _) (by decide) (by unfold maxLen;omega) (by omega) (by simp;omega) (w6.heap.size+1) (by simp) ?_)
    intro g7 dv w9 an n be ef;have dc:=aB (PLst.snoc (lo:=w5.heap.size) HALL.out.1 HALL.out.2 cj.out (by omega) ce.out (fun k hk=>cq_ _ _ _ hk) (by simp) an n (be.imp_right (fun e=>by omega)))
    have ae:=aB ((ci.out.alloc _).grown (base:=w8.heap.size) n bd u ak);have A:=aB ((N.out.alloc _).grown n (fun k hk=>cw_ de (bd k hk)))
    have Y:Hid (w9.heap[w7.heap.size]?=some (.cells #[.int .i64 t.line,.string (bs t.text)] 155 (0,0))):=by
     show _=_
     rw[n.block _ (by simp;omega) (fun e=>by have:=bd _ e.symm;omega),cq_ _ _ _ (by omega)]
     exact G.out
    have dl:w8.heap.size<=w9.heap.size:=by have:=n.size;simp at this;omega
    have j:=aB (gN C w9 q6 ⟨#[93]⟩ ae.out);have ed:(⟨#[93]⟩:ByteArray).data.toList=[93]:=rfl;rw[ed] at j;clear ax an n be cj ci N HALL ce bd G ed;cases d:aY C.ts q6 [93]
    ·have Q:Hid (r=.error (aT C.ts q6).line):=by show _=_;rw[z.out,s.out,zH d];rfl
     rw[d] at j;clear d z s;go_wp2_with fail;refine j.out.mono ?_;rintro e di ⟨f,av⟩;obtain rfl:e=cT 4 (aT C.ts q6).line:=av;have I:=aB (A.out.trans f);clear f;go_wp2_with fail;exact⟨rfl,Out.err Q.out I.out⟩
    ·have aj:Hid (r0=fH E C.ts k (q6+1) (M++[a6])):=by show _=_;rw[s.out,pD d];rfl
     rw[d] at j;clear d s;go_wp2_with fail;refine j.out.mono ?_;rintro e di ⟨f,av⟩;obtain⟨rfl,X⟩:=av;have I:=aB (A.out.trans f);have cu:=aB (dc.out.keep f u);have bl:=aB (f.keepB Y.out L);have cp:=aB X;have cd:=f.size;clear f X;go_wp2_with fail;go_roundg k
     case measure=>omega
     case rel=>exact⟨I.out,q6+1,M++[a6],cp.out,aj.out,by simp;omega,by simpa using cu.out,bl.out,by omega⟩
end Go.Proofs.YtmjbnmpamlainaaGreatDoor
