/- Contracts of the program: indices, signs. -/
import Derived.Test.YtddnpoiiimjpcaaGreatDoorP10
set_option linter.defProp false
set_option maxRecDepth 100000
set_option maxHeartbeats 4000000
namespace Go.Proofs.YtddnpoiiimjpcaaGreatDoor
open Hs
open _root_.Go.Proofs.Tryz
open Go.RowKit
abbrev J7(W:aH)(b l:Nat):Prop:=W.heap[b]?=some (.cells #[Iv0 l] 177 (0,0))
def J7.new(w:aH)(l:Nat):J7 (w.alloc (.cells #[Iv0 l] 177)) w.heap.size l:=aU _ _ rfl _
def KO(C:Ctx)(E:Nat->bX aC)(w:aH)(r:bX aC)(tb l:Nat)(k:Nat)(v:aQ)(wr:aH):Prop:=
 Fr C.pb w wr/\∃q a,PAt C wr q/\r=dC E C.ts k a q/\PN (Btw w.heap.size wr.heap.size) wr v a/\J7 wr tb l
def C0(C:Ctx)(E:Nat->bX aC)(HE:PReads C 88 E):PReads C 231 (fun p=>bR (eA E C.ts p) (dC E C.ts (C.ts.length+1))):=by
 intro w p h K;have Q:=aB (mI C w p h);have J:eA E C.ts p≠.error 0:=fun e=>K (by show bR _ _=_;rw[e];rfl)
 have t:=aB (fun w1 (hb:Below w.heap.size w w1)=>MD C E HE w1 p (h.below hb) J)
 have ax:=aB HE;have ba:=h.pb_lt;obtain⟨r,hr⟩:∃r,r=bR (eA E C.ts p) (dC E C.ts (C.ts.length+1)):=⟨_,rfl⟩;have I:r≠.error 0:=hr▸K;show Calls _ _ _ _ (EY C w (bR (eA E C.ts p) (dC E C.ts (C.ts.length+1))))
 rw[<-hr];have HR:=aB hr;have ag:=aB I;clear h HE K hr J I;generalize (aR C.ts p).line=pl at*;cases n:eA E C.ts p with
 |error l=>
  have s:Hid (r=.error l):=by show _=_;rw[HR.out,n];rfl
  rw[n] at t;clear n HR;go_in
  go_wp2_with fail;refine Q.mono ?_;rintro e w1 ⟨rfl,A⟩;have o:=aB A;clear A;go_wp2_with fail;refine(t w1 o).mono ?_;rintro e w2 ⟨m,rfl⟩;have az:=aB ((Fr.below o).trans m);clear m;go_wp2_with fail;exact⟨rfl,Out.err s az⟩
 |ok aq=>
  obtain⟨a0,q0⟩:=aq;have s:Hid (r=dC E C.ts (C.ts.length+1) a0 q0):=by show _=_;rw[HR.out,n];rfl
  rw[n] at t;clear n HR;go_in
  go_wp2_with fail;refine Q.mono ?_;rintro e w1 ⟨rfl,A⟩;have o:=aB A;clear A;go_wp2_with fail;refine(t w1 o).mono ?_;rintro e w2 ⟨m,af,v2,rfl,Z⟩;have aw:=o.size;have bd:=m.size
  have HI:Hid (KO C E w r w2.heap.size pl (C.ts.length+1) v2 (w2.alloc (.cells #[Iv0 pl] 177))):=
   ⟨((Fr.below o).trans m).alloc _,q0,a0,af.alloc _,s,Z.grow (fun k _ B=>Z3 _ _ _ B) aw (by simp),J7.new _ _⟩
  obtain⟨T2,bh,rfl⟩:=Z.form;clear m af Z s t Q;go_wp2_with fail;go_loopg [4] (C.ts.length+1) (fun k v wr=>KO C E w r w2.heap.size pl k v wr)
  case atStart=>exact HI
  case round=>
   obtain⟨L,q,a,aa,z,O,G⟩:=hrel;obtain⟨T3,bi,rfl⟩:=O.form
   obtain⟨k,rfl⟩:∃k,gk=k+1:=by
    cases gk with
    |zero=>exact absurd z ag
    |succ k=>exact⟨k,rfl⟩
   have HA:=aB (dJ C wr q ⟨#[91]⟩ aa);have ed:(⟨#[91]⟩:ByteArray).data.toList=[91]:=rfl;rw[ed] at HA;have Y:=aB L;have P:=aB O;have ac:=aB G;have bb:=L.size;clear L aa O G ed HI;cases b:aV C.ts q [91]
   ·have s:Hid (r=.ok (a,q)):=by show _=_;rw[z,dC,b];rfl
    rw[b] at HA;clear b z;go_wp2_with fail;refine HA.mono ?_;rintro e w4 ⟨rfl,u,c⟩;have f:=aB c;have x:=aB u;clear c u;go_wp2
    go_ret;exact Out.ok s (Y.trans f) x (P.grow (fun k h1 B=>f.block k B (by omega)) dH f.size)
   ·obtain⟨rE,M⟩:∃rE,rE=E (q+1):=⟨_,rfl⟩;have j:Hid (r=match aM C.ts [93] rE with|.error l=>.error l|.ok (i,q')=>dC E C.ts k (aS [105,110,100,101,120] (aR C.ts q).line [] [a,i]) q'):=by show _=_;rw[z,dC,b,M];rfl
    rw[b] at HA;have aj:=aB M;clear b z M;have ab:E (q+1)≠.error 0:=fun e=>ag (by rw[j.out,aj.out,e];rfl)
    go_wp2_with fail;refine HA.mono ?_;rintro e w4 ⟨rfl,u,c⟩;have HX:=aB (ax w4.drew (q+1) u.drew ab);rw[<-aj.out] at HX;have ao:=aB (P.grow (fun k h1 B=>c.block k B (by omega)) dH c.size)
    have x:=aB (c.keepB ac (by omega))
    have f:=aB (Y.trans c);have c0:=aA x (i:=0) rfl;have ay:=aD x;have bf:=c.size;clear c u P ac Y HA ab;cases rE with
    |error l=>
     have s:Hid (r=.error l):=j;go_wp2_with fail;go_region_law (refine thrown .nilIface ?_ ?_;(focus go_simp;go_at_call 88;refine HX.mono ?_;rintro e w5 ⟨y,rfl⟩;exact j6 rfl (Out.err s (f.drew.trans y)));intro D)
     all_goals exact D.out.elim
    |ok iq=>
     obtain⟨i,F⟩:=iq;have T:=aB (fun w5 (h:PAt C w5 F)=>gB C w5 F ⟨#[93]⟩ h)
     have ed:(⟨#[93]⟩:ByteArray).data.toList=[93]:=rfl;rw[ed] at T;clear ed;go_wp2_with fail;go_cut [4] (fun v wc=>Fr C.pb w wc/\PAt C wc F/\PN (Btw w.heap.size wc.heap.size) wc v (aS [105,110,100,101,120] (aR C.ts q).line [] [a,i])/\J7 wc w2.heap.size pl)
     case first=>
      go_region_law (go_simp;go_at_call 88;refine HX.mono ?_;rintro e w5 ⟨y,ai,v5,rfl,S⟩;obtain⟨T5,bg,rfl⟩:=S.form;have am:=aB S;have V:=aB y;have al:=aB ai;have W:=aB (((Fr.refl C.pb w4).drew.trans y).keepB x (by omega));have d0:=aA W (i:=0) rfl;have be:=aD W;clear y ai S)
      all_goals
       go_wp2_with fail;go_meet
       case rel=>
        have ap:=V.size
        exact⟨f.drew.trans V,al,PN.mk (Y3 (Y3 (Y3 (Y3 (Y3 (Y3 (Y4 ⟨rfl,pl,_,_,a,i,rfl,rfl,rfl,rfl⟩))))))) (fun p hp=>by
         simp only[Z6,e7,or_false] at hp;rcases hp with rfl|rfl
         ·exact Prt.ok.node (ao.grow (fun k h1 B=>V.block k B (by omega)) dH ap)
         ·exact Prt.ok.node (am.grow (fun _ _ _=>rfl) (by have:=f.size;exact this) dH)),W⟩
     case rest=>
      obtain⟨X,ae,U,H⟩:=hcut;obtain⟨T6,ak,rfl⟩:=U.form;have g:=aB (T _ ae);have ah:=aB X;have au:=aB U;have ar:=aB H;have bc:=X.size;clear X ae U H T HX c0 ay;cases b:aV C.ts F [93]
      ·have s:Hid (r=.error (aR C.ts F).line):=by show _=_;rw[j.out,wK b]
       rw[b] at g;clear b j;go_wp2_with fail;refine g.mono ?_;rintro e w7 ⟨d,N⟩;obtain rfl:e=dF 4 (aR C.ts F).line:=N;have av:=aB (ah.trans d);clear d;go_wp2_with fail;exact⟨rfl,Out.err s av⟩
      ·have s:Hid (r=dC E C.ts k (aS [105,110,100,101,120] (aR C.ts q).line [] [a,i]) (F+1)):=by show _=_;rw[j.out,nK b]
       rw[b] at g;clear b j;go_wp2_with fail;refine g.mono ?_;rintro e w7 ⟨d,N⟩;obtain⟨rfl,ad⟩:=N
       have an:Hid (KO C E w r w2.heap.size pl k (.iface T6 (.agg ak)) w7):=
        ⟨ah.trans d,F+1,_,ad,s,au.grow (fun k h1 B=>d.block k B (by omega)) dH d.size,d.keepB ar (by omega)⟩
       clear d ad;go_wp2
       go_roundg k
       case measure=>omega
       case rel=>exact an
def UL(t:cE):∀l:cO,l.find? (fun x=>t==x)=if t∈l then some t else none
 |[]=>by simp
 |y::l=>by
  rw[List.find?_cons];by_cases h:t=y
  ·subst h;simp
  ·rw[show (t==y)=false by simpa using h]
   simp only[UL t l,Z6,h,false_or]
def E1(t:cE)(h:iT.contains t=true):cB t=9:=by
 unfold iT at h;simp only[List.contains_eq_mem,Z6,e7,or_false,decide_eq_true_eq] at h;rcases h with rfl|rfl|rfl|rfl|rfl|rfl|rfl|rfl|rfl<;>decide
def wW{ts:List aX}{q:Nat}(h:nV (aR ts q))(k:Nat)(f:k≠9)(l:cO)(c:∀x,x∈l↔cB x=k):
 nH ts q l=if (aR ts q).sort==112 && cB (aR ts q).text==k then (aR ts q).text else []:=by
 unfold nH;by_cases b:(aR ts q).sort=112
 ·rw[show (fun x=>aV ts q x)=(fun x=>(aR ts q).text==x) by funext x;unfold aV;simp[b],UL]
  by_cases a:cB (aR ts q).text=k
  ·rw[if_pos ((c _).2 a)];simp[b,a]
  ·rw[if_neg (fun e=>a ((c _).1 e))];simp[a]
 ·rw[ad_.2]
  ·simp[b]
  ·intro x g e;unfold aV at e;simp only[j3,ae_,beq_iff_eq] at e;rcases h with h|⟨h,d⟩|h|⟨h,_⟩|h|h
   ·exact b h
   ·have:=E1 _ d;rw[e.2,(c x).1 g] at this;exact f this
   all_goals (rw[h] at e;rcases e.1 with e|e<;>omega)
def X7(x:cE):x∈([[124,124]]:cO)↔cB x=0:=by
 unfold cB;simp only[Z6,e7,or_false,beq_iff_eq,ae_];repeat' split
 all_goals simp_all
def X6(x:cE):x∈([[38,38]]:cO)↔cB x=1:=by
 unfold cB;simp only[Z6,e7,or_false,beq_iff_eq,ae_];repeat' split
 all_goals simp_all
def X5(x:cE):x∈([[61,61],[33,61],[60],[60,61]]:cO)↔cB x=2:=by
 unfold cB;simp only[Z6,e7,or_false,beq_iff_eq,ae_];repeat' split
 all_goals simp_all
def X4(x:cE):x∈([[43],[45]]:cO)↔cB x=3:=by
 constructor
 ·simp only[Z6,e7,or_false];rintro(rfl|rfl)<;>decide
 ·unfold cB;simp only[Z6,e7,or_false,beq_iff_eq,ae_];repeat' split
  all_goals simp_all
def X3(x:cE):x∈([[42],[47],[37]]:cO)↔cB x=4:=by
 constructor
 ·simp only[Z6,e7,or_false];rintro(rfl|rfl|rfl)<;>decide
 ·unfold cB;simp only[Z6,e7,or_false,beq_iff_eq,ae_];repeat' split
  all_goals simp_all
def MP(ts:List aX)(p:Nat):nH ts p [[45],[33]]=if aV ts p [45] then [45] else if aV ts p [33] then [33] else []:=by
 unfold nH;simp only[List.find?_cons,List.find?_nil];cases aV ts p [45]<;>cases aV ts p [33]<;>rfl
def FW(C:Ctx)(w:aH)(p:Nat)(h:PAt C w p)(l:cO)(q:l.length<=100)(a:∀x∈l,x≠[])(d:cE)(g:nH C.ts p l=d)(j:Nat)(f:j=w.heap.size)(n:Nat)(t:n=l.length)(cs:Array Value)(c:cs=(l.map fun x=>Value.string (bs x)).toArray):
 Calls prog 168 #[bO C.pb,.slice (some (aL j 0)) n n] (w.alloc (.cells cs 9)) fun e b=>e=bE (.string (bs d))/\PAt C b (if d=[] then p else p+1)/\Fr C.pb w b:=by
 subst g f t;have k:=h.pb_lt;refine(FP C _ p l w.heap.size l.length (by simp) (by omega) q a ?_ (h.alloc _)).mono fun e b ⟨o,m,r⟩=>⟨o,m,((Fr.refl _ _).alloc _).trans r⟩
 intro i s;refine aA (aU _ _ rfl _) ?_;rw[c];simp[s]
def PQ(C:Ctx)(E:Nat->bX aC)(HE:PReads C 88 E)(g:Nat)(ae:PReads C 225 (eO E C.ts g)):PReads C 225 (eO E C.ts (g+1)):=by
 intro w p h G;have ih:=aB ae;have aa:=aB (mI C w p h);have an:=h.pb_lt;have ap:=h.g_lt;have ak:=aB (C0 C E HE);obtain⟨r,hr⟩:∃r,r=eO E C.ts (g+1) p:=⟨_,rfl⟩;rw[<-hr] at G ⊢
 rw[eO] at hr;have U:=aB hr;have P:=aB G;have H:=aB h;clear h HE G hr ae;generalize O:(aR C.ts p).line=I at*;have n:=aB (MP C.ts p);generalize Y:nH C.ts p [[45],[33]]=oo at*;have B:=aB Y;clear Y;go_enter func225,ntmps225;go_wp2_with fail;refine aa.out.mono ?_;rintro e w1 ⟨rfl,F⟩;have X:=aB ((Fr.below (pb:=C.pb) F).alloc (.cells #[.int .i64 I] 177));have ag:=aB ((H.out.below F).alloc (.cells #[.int .i64 I] 177));have ad:=aB (J7.new w1 I);have ao:=F.size;clear F aa;have HM:=aB (FW C _ p ag.out [[45],[33]] (by decide) (by intro x hx;simp at hx;rcases hx with rfl|rfl<;>simp) oo B.out (w1.heap.size+1) (by simp) 2 rfl #[.string ⟨#[45]⟩,.string ⟨#[33]⟩] rfl)
 generalize ac:(if oo=[] then p else p+1)=qo at*
 have s:=aB ac;clear ac;go_wp2_with fail;refine HM.out.mono ?_;rintro e w2 ⟨rfl,ab,N⟩;have L:=aB ab;have m:=aB (X.out.trans N);have o:=aB (N.keepB ad.out (by omega))
 have J:=m.out.size;clear ab N X ag ad;by_cases f:aV C.ts p [45]=true
 ·obtain rfl:oo=[45]:=by rw[n.out,if_pos f]
  obtain rfl:qo=p+1:=s.out.symm;obtain⟨D,d⟩:∃D,D=eO E C.ts g (p+1):=⟨_,rfl⟩;have c:Hid (r=bZ (fun x=>aS [45,120] I [] [x]) D):=by show _=_;rw[U.out,if_pos f,d]
  have y:eO E C.ts g (p+1)≠.error 0:=fun e=>P.out (by rw[c.out,d,e];rfl)
  have z:=aB (ih.out w2.drew (p+1) L.out.drew y);rw[<-d] at z;clear y d U n B s HM f O;have c0:=aA o.out (i:=0) rfl;have al:=aD o.out;simp only[bs];cases D with
  |error l=>
   have Q:Hid (r=.error l):=c.out;go_wp2_with fail;go_region_law (refine thrown .nilIface ?_ ?_;(focus go_simp;go_at_call 225;refine z.out.mono ?_;rintro e w5 ⟨b,rfl⟩;exact j6 rfl (Out.err Q.out (m.out.drew.trans b)));intro j)
   all_goals exact j.out.elim
  |ok V=>
   obtain⟨a,q⟩:=V;have Q:Hid (r=.ok (aS [45,120] I [] [a],q)):=c.out;go_wp2_with fail;go_region_law (go_simp;go_at_call 225;refine z.out.mono ?_;rintro e w5 ⟨b,v,v5,rfl,k⟩;obtain⟨T5,am,rfl⟩:=k.form;have M:=aB k;have S:=aB b;have K:=aB v;have u:=aB (((Fr.refl C.pb w2).drew.trans b).keepB o.out (by omega));have d0:=aA u.out (i:=0) rfl;have ai:=aD u.out;clear b v k)
   all_goals (go_wp2_with fail;go_ret)
   all_goals exact Out.ok Q.out (m.out.drew.trans S.out) K.out (PN.mk (Y3 (Y3 (Y3 (Y3 (Y3 (Y3 (Y3 (Y4 ⟨rfl,45,_,a,rfl,Y4 rfl,rfl,rfl,rfl⟩)))))))) (fun p hp=>by obtain rfl:=Z1.1 hp;exact Prt.ok.node (M.out.grow (fun _ _ _=>rfl) J (Z7 _))))
 by_cases t:aV C.ts p [33]=true
 ·obtain rfl:oo=[33]:=by rw[n.out,if_neg f,if_pos t]
  obtain rfl:qo=p+1:=s.out.symm;obtain⟨D,d⟩:∃D,D=eO E C.ts g (p+1):=⟨_,rfl⟩;have c:Hid (r=bZ (fun x=>aS [33,120] I [] [x]) D):=by show _=_;rw[U.out,if_neg f,if_pos t,d]
  have y:eO E C.ts g (p+1)≠.error 0:=fun e=>P.out (by rw[c.out,d,e];rfl)
  have z:=aB (ih.out w2.drew (p+1) L.out.drew y);rw[<-d] at z;clear y d U n B s HM f t O;have c0:=aA o.out (i:=0) rfl;have al:=aD o.out;simp only[bs];cases D with
  |error l=>
   have Q:Hid (r=.error l):=c.out;go_wp2_with fail;go_region_law (refine thrown .nilIface ?_ ?_;(focus go_simp;go_at_call 225;refine z.out.mono ?_;rintro e w5 ⟨b,rfl⟩;exact j6 rfl (Out.err Q.out (m.out.drew.trans b)));intro j)
   all_goals exact j.out.elim
  |ok V=>
   obtain⟨a,q⟩:=V;have Q:Hid (r=.ok (aS [33,120] I [] [a],q)):=c.out;go_wp2_with fail;go_region_law (go_simp;go_at_call 225;refine z.out.mono ?_;rintro e w5 ⟨b,v,v5,rfl,k⟩;obtain⟨T5,am,rfl⟩:=k.form;have M:=aB k;have S:=aB b;have K:=aB v;have u:=aB (((Fr.refl C.pb w2).drew.trans b).keepB o.out (by omega));have d0:=aA u.out (i:=0) rfl;have ai:=aD u.out;clear b v k)
   all_goals (go_wp2_with fail;go_ret)
   all_goals exact Out.ok Q.out (m.out.drew.trans S.out) K.out (PN.mk (Y3 (Y3 (Y3 (Y3 (Y3 (Y3 (Y3 (Y4 ⟨rfl,33,_,a,rfl,Y3 rfl,rfl,rfl,rfl⟩)))))))) (fun p hp=>by obtain rfl:=Z1.1 hp;exact Prt.ok.node (M.out.grow (fun _ _ _=>rfl) J (Z7 _))))
 obtain rfl:oo=[]:=by rw[n.out,if_neg f,if_neg t]
 obtain rfl:p=qo:=s.out;have c:Hid (r=bR (eA E C.ts p) (dC E C.ts (C.ts.length+1))):=by show _=_;rw[U.out,if_neg f,if_neg t]
 have z:=aB (ak.out w2 p L.out (by show bR _ _≠_;rw[<-c.out];exact P.out))
 simp only[<-c.out] at z;clear U n B s HM f t O;simp only[bs];go_wp2_with fail;refine z.out.mono ?_;rintro e w3 ⟨A,af⟩;cases r with
 |error l=>
  obtain rfl:e=dF 4 l:=af;have T:=aB (m.out.trans A);clear A;go_wp2_with fail;exact⟨rfl,Out.err rfl T.out⟩
 |ok V=>
  obtain⟨a,q⟩:=V;obtain⟨W,v3,rfl,Z⟩:=af;have T:=aB (m.out.trans A);have ah:=aB W;have aj:=aB Z;clear A W Z;go_wp2_with fail;go_ret;exact Out.ok rfl T.out ah.out (aj.out.grow (fun _ _ _=>rfl) J (Z7 _))
def UY(C:Ctx)(E:Nat->bX aC)(c:PReads C 88 E)(g:Nat):PReads C 225 (eO E C.ts g):=by
 induction g with
 |zero=>exact fun w p _ a=>absurd rfl a
 |succ g b=>exact PQ C E c g b
end Go.Proofs.YtddnpoiiimjpcaaGreatDoor
