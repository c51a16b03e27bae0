/- Contracts of the program: signs; operands with operations between them. -/
import Derived.Test.YtblbkfdhjfppkaaGreatDoorP05
set_option linter.defProp false
set_option maxRecDepth 100000
set_option maxHeartbeats 4000000
namespace Go.Proofs.YtblbkfdhjfppkaaGreatDoor
open Hs
open _root_.Go.Proofs.Tryz
open Go.RowKit
def XA(t:List UInt8):∀l:List (List UInt8),l.find? (fun x=>t==x)=if t∈l then some t else none
 |[]=>by simp
 |y::l=>by
  rw[List.find?_cons];by_cases h:t=y
  ·subst h;simp
  ·rw[show (t==y)=false by simpa using h]
   simp only[XA t l,aG_,h,false_or]
def N1(t:List UInt8)(h:iO.contains t=true):bZ t=9:=by
 unfold iO at h;simp only[List.contains_eq_mem,aG_,aQ_,or_false,decide_eq_true_eq] at h;rcases h with rfl|rfl|rfl|rfl|rfl|rfl|rfl|rfl|rfl<;>decide
def xY{ts:List aX}{q:Nat}(h:oF (aP ts q))(k:Nat)(f:k≠9)(l:List (List UInt8))(c:∀x,x∈l↔bZ x=k):
 nN ts q l=if (aP ts q).sort==112 && bZ (aP ts q).text==k then (aP ts q).text else []:=by
 unfold nN;by_cases b:(aP ts q).sort=112
 ·rw[show (fun x=>aV ts q x)=(fun x=>(aP ts q).text==x) by funext x;unfold aV;simp[b],XA]
  by_cases a:bZ (aP ts q).text=k
  ·rw[if_pos ((c _).2 a)];simp[b,a]
  ·rw[if_neg (fun e=>a ((c _).1 e))];simp[a]
 ·rw[bI_.2]
  ·simp[b]
  ·intro x g e;unfold aV at e;simp only[aX_,bF_,beq_iff_eq] at e;rcases h with h|⟨h,d⟩|h|⟨h,_⟩|h|h
   ·exact b h
   ·have:=N1 _ d;rw[e.2,(c x).1 g] at this;exact f this
   all_goals (rw[h] at e;rcases e.1 with e|e<;>omega)
def al_(x:List UInt8):x∈([[124,124]]:List (List UInt8))↔bZ x=0:=by
 unfold bZ;simp only[aG_,aQ_,or_false,beq_iff_eq,bF_];repeat' split
 all_goals simp_all
def ak_(x:List UInt8):x∈([[38,38]]:List (List UInt8))↔bZ x=1:=by
 unfold bZ;simp only[aG_,aQ_,or_false,beq_iff_eq,bF_];repeat' split
 all_goals simp_all
def aj_(x:List UInt8):x∈([[61,61],[33,61],[60],[60,61]]:List (List UInt8))↔bZ x=2:=by
 unfold bZ;simp only[aG_,aQ_,or_false,beq_iff_eq,bF_];repeat' split
 all_goals simp_all
def ai_(x:List UInt8):x∈([[43],[45]]:List (List UInt8))↔bZ x=3:=by
 constructor
 ·simp only[aG_,aQ_,or_false];rintro(rfl|rfl)<;>decide
 ·unfold bZ;simp only[aG_,aQ_,or_false,beq_iff_eq,bF_];repeat' split
  all_goals simp_all
def ah_(x:List UInt8):x∈([[42],[47],[37]]:List (List UInt8))↔bZ x=4:=by
 constructor
 ·simp only[aG_,aQ_,or_false];rintro(rfl|rfl|rfl)<;>decide
 ·unfold bZ;simp only[aG_,aQ_,or_false,beq_iff_eq,bF_];repeat' split
  all_goals simp_all
def OO(ts:List aX)(p:Nat):nN ts p [[45],[33]]=if aV ts p [45] then [45] else if aV ts p [33] then [33] else []:=by
 unfold nN;simp only[List.find?_cons,List.find?_nil];cases aV ts p [45]<;>cases aV ts p [33]<;>rfl
def II(C:Ctx)(w:World)(p:Nat)(h:PAt C w p)(l:List (List UInt8))(q:l.length<=100)(a:∀x∈l,x≠[])(d:List UInt8)(g:nN C.ts p l=d)(j:Nat)(f:j=w.heap.size)(n:Nat)(t:n=l.length)(cs:Array Value)(c:cs=(l.map fun x=>Value.string (bs x)).toArray):
 Calls prog 284 #[.pointer (some ⟨C.pb,0,none⟩),.slice (some ⟨j,0,none⟩) n n] (w.alloc (.cells cs 9)) fun e b=>e=.returned (.string (bs d))/\PAt C b (if d=[] then p else p+1)/\Fr C.pb w b:=by
 subst g f t;have k:=h.pb_lt;refine(IC C _ p l w.heap.size l.length (by simp) (by omega) q a ?_ (h.alloc _)).mono fun e b ⟨o,m,r⟩=>⟨o,m,((Fr.refl _ _).alloc _).trans r⟩
 intro i s;refine aA (aM _ _ rfl _) ?_;rw[c];simp[s]
def RX(C:Ctx)(E:Nat->bU aC)(HE:PReads C 164 E)(g:Nat)(ae:PReads C 345 (eH E C.ts g)):PReads C 345 (eH E C.ts (g+1)):=by
 intro w p h G;have ih:=aB ae;have aa:=aB (mM C w p h);have an:=h.pb_lt;have ap:=h.g_lt;have ak:=aB (L1 C E HE);obtain⟨r,hr⟩:∃r,r=eH E C.ts (g+1) p:=⟨_,rfl⟩;rw[<-hr] at G ⊢
 rw[eH] at hr;have U:=aB hr;have P:=aB G;have H:=aB h;clear h HE G hr ae;generalize O:(aP C.ts p).line=I at*;have n:=aB (OO C.ts p);generalize Y:nN C.ts p [[45],[33]]=oo at*;have B:=aB Y;clear Y;go_enter func345,ntmps345;go_wp2_with fail;refine aa.out.mono ?_;rintro e w1 ⟨rfl,F⟩;have X:=aB ((Fr.below (pb:=C.pb) F).alloc (.cells #[.int .i64 I] 209));have ag:=aB ((H.out.below F).alloc (.cells #[.int .i64 I] 209));have ad:=aB (S1.new w1 I);have ao:=F.size;clear F aa;have HM:=aB (II C _ p ag.out [[45],[33]] (by decide) (by intro x hx;simp at hx;rcases hx with rfl|rfl<;>simp) oo B.out (w1.heap.size+1) (by simp) 2 rfl #[.string ⟨#[45]⟩,.string ⟨#[33]⟩] rfl)
 generalize ac:(if oo=[] then p else p+1)=qo at*
 have s:=aB ac;clear ac;go_wp2_with fail;refine HM.out.mono ?_;rintro e w2 ⟨rfl,ab,N⟩;have L:=aB ab;have m:=aB (X.out.trans N);have o:=aB (N.keepB ad.out (by omega))
 have J:=m.out.size;clear ab N X ag ad;by_cases f:aV C.ts p [45]=true
 ·obtain rfl:oo=[45]:=by rw[n.out,if_pos f]
  obtain rfl:qo=p+1:=s.out.symm;obtain⟨D,d⟩:∃D,D=eH E C.ts g (p+1):=⟨_,rfl⟩;have c:Hid (r=bX (fun x=>aR [45,120] I [] [x]) D):=by show _=_;rw[U.out,if_pos f,d]
  have y:eH E C.ts g (p+1)≠.error 0:=fun e=>P.out (by rw[c.out,d,e];rfl)
  have z:=aB (ih.out w2.drew (p+1) L.out.drew y);rw[<-d] at z;clear y d U n B s HM f O;have c0:=aA o.out (i:=0) rfl;have al:=aD o.out;simp only[bs];cases D with
  |error l=>
   have Q:Hid (r=.error l):=c.out;go_wp2_with fail;go_region_law (refine thrown .nilIface ?_ ?_;(focus go_simp;go_at_call 345;refine z.out.mono ?_;rintro e w5 ⟨b,rfl⟩;exact aW_ rfl (Out.err Q.out (m.out.drew.trans b)));intro j)
   all_goals exact j.out.elim
  |ok V=>
   obtain⟨a,q⟩:=V;have Q:Hid (r=.ok (aR [45,120] I [] [a],q)):=c.out;go_wp2_with fail;go_region_law (go_simp;go_at_call 345;refine z.out.mono ?_;rintro e w5 ⟨b,v,v5,rfl,k⟩;obtain⟨T5,am,rfl⟩:=k.form;have M:=aB k;have S:=aB b;have K:=aB v;have u:=aB (((Fr.refl C.pb w2).drew.trans b).keepB o.out (by omega));have d0:=aA u.out (i:=0) rfl;have ai:=aD u.out;clear b v k)
   all_goals (go_wp2_with fail;go_ret)
   all_goals exact Out.ok Q.out (m.out.drew.trans S.out) K.out (PN.mk (as_ (as_ (as_ (as_ (as_ (as_ (as_ (av_ ⟨rfl,45,_,a,rfl,av_ rfl,rfl,rfl,rfl⟩)))))))) (fun p hp=>by obtain rfl:=aD_.1 hp;exact Prt.ok.node (M.out.grow (fun _ _ _=>rfl) J (au_ _))))
 by_cases t:aV C.ts p [33]=true
 ·obtain rfl:oo=[33]:=by rw[n.out,if_neg f,if_pos t]
  obtain rfl:qo=p+1:=s.out.symm;obtain⟨D,d⟩:∃D,D=eH E C.ts g (p+1):=⟨_,rfl⟩;have c:Hid (r=bX (fun x=>aR [33,120] I [] [x]) D):=by show _=_;rw[U.out,if_neg f,if_pos t,d]
  have y:eH E C.ts g (p+1)≠.error 0:=fun e=>P.out (by rw[c.out,d,e];rfl)
  have z:=aB (ih.out w2.drew (p+1) L.out.drew y);rw[<-d] at z;clear y d U n B s HM f t O;have c0:=aA o.out (i:=0) rfl;have al:=aD o.out;simp only[bs];cases D with
  |error l=>
   have Q:Hid (r=.error l):=c.out;go_wp2_with fail;go_region_law (refine thrown .nilIface ?_ ?_;(focus go_simp;go_at_call 345;refine z.out.mono ?_;rintro e w5 ⟨b,rfl⟩;exact aW_ rfl (Out.err Q.out (m.out.drew.trans b)));intro j)
   all_goals exact j.out.elim
  |ok V=>
   obtain⟨a,q⟩:=V;have Q:Hid (r=.ok (aR [33,120] I [] [a],q)):=c.out;go_wp2_with fail;go_region_law (go_simp;go_at_call 345;refine z.out.mono ?_;rintro e w5 ⟨b,v,v5,rfl,k⟩;obtain⟨T5,am,rfl⟩:=k.form;have M:=aB k;have S:=aB b;have K:=aB v;have u:=aB (((Fr.refl C.pb w2).drew.trans b).keepB o.out (by omega));have d0:=aA u.out (i:=0) rfl;have ai:=aD u.out;clear b v k)
   all_goals (go_wp2_with fail;go_ret)
   all_goals exact Out.ok Q.out (m.out.drew.trans S.out) K.out (PN.mk (as_ (as_ (as_ (as_ (as_ (as_ (as_ (av_ ⟨rfl,33,_,a,rfl,as_ rfl,rfl,rfl,rfl⟩)))))))) (fun p hp=>by obtain rfl:=aD_.1 hp;exact Prt.ok.node (M.out.grow (fun _ _ _=>rfl) J (au_ _))))
 obtain rfl:oo=[]:=by rw[n.out,if_neg f,if_neg t]
 obtain rfl:p=qo:=s.out;have c:Hid (r=bR (dT E C.ts p) (cZ E C.ts (C.ts.length+1))):=by show _=_;rw[U.out,if_neg f,if_neg t]
 have z:=aB (ak.out w2 p L.out (by show bR _ _≠_;rw[<-c.out];exact P.out))
 simp only[<-c.out] at z;clear U n B s HM f t O;simp only[bs];go_wp2_with fail;refine z.out.mono ?_;rintro e w3 ⟨A,af⟩;cases r with
 |error l=>
  obtain rfl:e=cX 4 l:=af;have T:=aB (m.out.trans A);clear A;go_wp2_with fail;exact⟨rfl,Out.err rfl T.out⟩
 |ok V=>
  obtain⟨a,q⟩:=V;obtain⟨W,v3,rfl,Z⟩:=af;have T:=aB (m.out.trans A);have ah:=aB W;have aj:=aB Z;clear A W Z;go_wp2_with fail;go_ret;exact Out.ok rfl T.out ah.out (aj.out.grow (fun _ _ _=>rfl) J (au_ _))
def XQ(C:Ctx)(E:Nat->bU aC)(c:PReads C 164 E)(g:Nat):PReads C 345 (eH E C.ts g):=by
 induction g with
 |zero=>exact fun w p _ a=>absurd rfl a
 |succ g b=>exact RX C E c g b
def l6(C:Ctx)(L:Nat->bU aC)(w:World)(r:bU aC)(lv tb l:Nat)(k:Nat)(v:Value)(wr:World):Prop:=
 Fr C.pb w wr/\∃q a,PAt C wr q/\r=bE L C.ts lv k a q/\PN (Btw w.heap.size wr.heap.size) wr v a/\S1 wr tb l
def X3{L:Nat->bU aC}{ts:List aX}{c k q:Nat}{a:aC}(d:c≠2)(h:((aP ts q).sort==112 && bZ (aP ts q).text==c)=true):
 bE L ts c (k+1) a q=bR (L (q+1)) (fun b e=>bE L ts c k (aR (aP ts q).text (aP ts q).line [] [a,b]) e):=by
 rw[bE,if_pos h];cases L (q+1) with
 |error l=>rfl
 |ok f=>simp only[if_neg d];rfl
def N0{L:Nat->bU aC}{ts:List aX}{b k q:Nat}{a:aC}(h:((aP ts q).sort==112 && bZ (aP ts q).text==b)=false):
 bE L ts b (k+1) a q=.ok (a,q):=by
 rw[bE,if_neg (by rw[h];simp)]
def E0(C:Ctx)(L:Nat->bU aC)(F:Nat)(bj:∀args w,Sem.run prog (callFunc F args) w=.ok (.enter F args) w)(HF:PReads C F L)(j:Nat)(M:j≠2)(h9:j≠9)(d:List (List UInt8))(D:∀x,x∈d↔bZ x=j)(ah:d.length<=100)(w:World)(p:Nat)(h:PAt C w p)(g ar:Nat)(hg:g<w.heap.size)(ak:g≠C.pb)(hc:∀i (hi:i<d.length),w.cell? ⟨g,i,none⟩=some (.string (bs d[i])))
 (H:bR (L p) (bE L C.ts j (C.ts.length+1))≠.error 0):
 Calls prog 227 #[.pointer (some ⟨C.pb,0,none⟩),.func (.func F) #[.pointer (some ⟨C.pb,0,none⟩)] #[],.slice (some ⟨g,0,none⟩) d.length ar] w (GK C w (bR (L p) (bE L C.ts j (C.ts.length+1)))):=by
 have Q:∀x∈d,x≠[]:=fun x hx e=>by rw[D,e] at hx;exact h9 (hx.symm.trans rfl)
 have au:=aB (fun W q (hf:Fr C.pb w W) (hq:PAt C W q)=>IC C W q d g ar (az_ hg hf.size) ak ah Q (fun i hi=>(xE (hf.block g hg ak)).trans (hc i hi)) hq)
 have bf:=aB (fun W q (hq:PAt C W q)=>xY (hq.tsk.tk q hq.lt) j h9 d D)
 have aa:=aB (mM C w p h);have T:L p≠.error 0:=fun e=>H (by rw[e];rfl)
 have P:=aB (fun w1 (hb:Below w.heap.size w w1)=>HF w1 p (h.below hb) T)
 have aw:=aB HF;have bg:=h.pb_lt;obtain⟨r,hr⟩:∃r,r=bR (L p) (bE L C.ts j (C.ts.length+1)):=⟨_,rfl⟩;rw[<-hr] at H ⊢
 have HR:=aB hr;have an:=aB H;clear h HF H hr T Q hc D;generalize (aP C.ts p).line=pl at*;cases t:L p with
 |error l=>
  have G:Hid (r=.error l):=by show _=_;rw[HR.out,t];rfl
  rw[t] at P;clear t HR;go_enter func227,ntmps227;go_wp2_with fail;refine aa.out.mono ?_;rintro e w1 ⟨rfl,E⟩;have u:=aB E;clear E;go_wp2_with fail;refine(P.out w1 u.out).mono ?_;rintro e w2 ⟨s,rfl⟩;have bc:=aB ((Fr.below u.out).trans s);clear s;go_wp2_with fail;exact⟨rfl,Out.err G.out bc.out⟩
 |ok aq=>
  obtain⟨a0,q0⟩:=aq;have G:Hid (r=bE L C.ts j (C.ts.length+1) a0 q0):=by show _=_;rw[HR.out,t];rfl
  rw[t] at P;clear t HR;go_enter func227,ntmps227;go_wp2_with fail;refine aa.out.mono ?_;rintro e w1 ⟨rfl,E⟩;have u:=aB E;clear E;go_wp2_with fail;refine(P.out w1 u.out).mono ?_;rintro e w2 ⟨s,al,v2,rfl,af⟩;have bb:=u.out.size;have bi:=s.size
  have HI:Hid (l6 C L w r j w2.heap.size pl (C.ts.length+1) v2 (w2.alloc (.cells #[.int .i64 pl] 209))):=
   ⟨((Fr.below u.out).trans s).alloc _,q0,a0,al.alloc _,G.out,af.grow (fun k _ M=>aA_ _ _ _ M) bb (by simp),S1.new _ _⟩
  obtain⟨T2,bo,rfl⟩:=af.form;clear s al af G P aa;go_wp2_with fail;go_loopg [8,9] (C.ts.length+1) (fun k v o wr=>l6 C L w r j w2.heap.size pl k v wr)
  case atStart=>exact HI.out
  case round=>
   obtain⟨J,q,a,V,B,Y,S⟩:=hrel;obtain⟨T3,bq,rfl⟩:=Y.form
   obtain⟨k,rfl⟩:∃k,gk=k+1:=by
    cases gk with
    |zero=>exact absurd B an.out
    |succ k=>exact⟨k,rfl⟩
   have HA:=aB (au.out wr q J V);have HO:=aB (bf.out wr q V);have ao:(aP C.ts q).sort=112->bZ (aP C.ts q).text=j->(aP C.ts q).text≠[]:=fun _ e1 e2=>h9 (by rw[<-e1,e2];rfl)
   have ag:=aB ao;have ae:=aB J;have Z:=aB Y;have aj:=aB S;have bh:=J.size;clear J V Y S HI ao;generalize nN C.ts q d=oo at*;generalize am:(if oo=[] then q else q+1)=qo at*
   have N:=aB am;clear am;cases f:((aP C.ts q).sort==112 && bZ (aP C.ts q).text==j)
   ·have G:Hid (r=.ok (a,q)):=by show _=_;rw[B];exact N0 f
    obtain rfl:oo=[]:=by rw[HO.out,f];rfl
    obtain rfl:q=qo:=N.out;clear f B HO N ag;simp only[bs] at HA;go_wp2_with fail;refine HA.out.mono ?_;rintro e w4 ⟨rfl,y,c⟩;have m:=aB c;have z:=aB y;clear c y;go_wp2_with fail;go_ret;exact Out.ok G.out (ae.out.trans m.out) z.out (Z.out.grow (fun k h1 M=>m.out.block k M (by omega)) (au_ _) m.out.size)
   ·obtain⟨rE,K⟩:∃rE,rE=L (q+1):=⟨_,rfl⟩;have I:Hid (r=bR rE (fun b q2=>bE L C.ts j k (aR (aP C.ts q).text (aP C.ts q).line [] [a,b]) q2)):=by show _=_;rw[B,X3 M f,K]
    have X:oo=(aP C.ts q).text:=by rw[HO.out,f];rfl
    have n:(aP C.ts q).sort=112/\bZ (aP C.ts q).text=j:=by simpa using f
    have U:oo≠[]:=by rw[X];exact ag.out n.1 n.2
    have ba:Hid (bZ (aP C.ts q).text≠9):=by show _≠_;rw[n.2];exact h9
    obtain rfl:q+1=qo:=by rw[<-N.out,if_neg U]
    have ai:L (q+1)≠.error 0:=fun e=>an.out (by rw[I.out,K,e];rfl)
    have bn:(bs oo).toList.isEmpty=false:=by
     rw[cA];cases oo with
     |nil=>exact absurd rfl U
     |cons x l=>rfl
    have bd:=aB K;have be:=aB X;clear f B K HO N ag n X;go_wp2_with fail;refine HA.out.mono ?_;rintro e w4 ⟨rfl,y,c⟩;have P:=aB (aw.out w4.drew (q+1) y.drew ai);rw[<-bd.out] at P;have ay:=aB (Z.out.grow (fun k h1 M=>c.block k M (by omega)) (au_ _) c.size)
    have z:=aB (c.keepB aj.out (by omega))
    have m:=aB (ae.out.trans c);have c0:=aA z.out (i:=0) rfl;have bp:=aD z.out;have bl:=c.size;clear c y Z aj ae HA ai U;cases rE with
    |error l=>
     have G:Hid (r=.error l):=I.out;go_wp2_with fail;go_region_law (refine thrown .nilIface ?_ ?_;(focus go_simp;refine P.out.mono ?_;rintro e w5 ⟨A,rfl⟩;exact aW_ rfl (Out.err G.out (m.out.drew.trans A)));intro O)
     all_goals exact O.out.elim
    |ok iq=>
     obtain⟨i,q5⟩:=iq;have G:Hid (r=bE L C.ts j k (aR (aP C.ts q).text (aP C.ts q).line [] [a,i]) q5):=I.out;clear I;go_wp2_with fail;go_region_law (go_simp;refine P.out.mono ?_;rintro e w5 ⟨A,ap,v5,rfl,ab⟩;obtain⟨T5,bm,rfl⟩:=ab.form;have ax:=aB ab;have ac:=aB A;have av:=aB ap;have ad:=aB (((Fr.refl C.pb w4).drew.trans A).keepB z.out (by omega));have d0:=aA ad.out (i:=0) rfl;have bk:=aD ad.out;clear A ap ab)
     all_goals
      go_wp2_with fail;go_roundg k
      case measure=>omega
      case rel=>
       have az:=ac.out.size
       exact⟨m.out.drew.trans ac.out,q5,_,av.out,G.out,PN.mk (as_ (as_ (as_ (as_ (as_ (as_ (as_ (as_ (av_ ⟨rfl,pl,_,_,a,i,by rw[be.out];rfl,ba.out,rfl,rfl⟩))))))))) (fun p hp=>by
        simp only[aG_,aQ_,or_false] at hp;rcases hp with rfl|rfl
        ·exact Prt.ok.node (ay.out.grow (fun k h1 M=>ac.out.block k M (by omega)) (au_ _) az)
        ·exact Prt.ok.node (ax.out.grow (fun _ _ _=>rfl) (by have:=m.out.size;exact this) (au_ _))),ad.out⟩
def oX(C:Ctx)(L:Nat->bU aC)(F:Nat)(m:∀args w,Sem.run prog (callFunc F args) w=.ok (.enter F args) w)(r:PReads C F L)(b:Nat)(c:b≠2)(y:b≠9)(a:List (List UInt8))(d:∀x,x∈a↔bZ x=b)(f:a.length<=100)(w:World)(p:Nat)(h:PAt C w p)(n:Nat)(k:n=a.length)(cs:Array Value)(j:cs=(a.map fun x=>Value.string (bs x)).toArray)
 (g:bR (L p) (bE L C.ts b (C.ts.length+1))≠.error 0):
 Calls prog 227 #[.pointer (some ⟨C.pb,0,none⟩),.func (.func F) #[.pointer (some ⟨C.pb,0,none⟩)] #[],.slice (some ⟨w.heap.size,0,none⟩) n n] (w.alloc (.cells cs 9)) (GK C w (bR (L p) (bE L C.ts b (C.ts.length+1)))):=by
 subst k;have q:=h.pb_lt;refine(E0 C L F m r b c y a d f _ p (h.alloc _) w.heap.size a.length (by simp) (by omega) ?_ g).mono fun e A ⟨s,c⟩=>⟨((Fr.refl _ _).alloc _).trans s,?_⟩
 ·intro i u;refine aA (aM _ _ rfl _) ?_;rw[j];simp[u]
 ·cases o:bR (L p) (bE L C.ts b (C.ts.length+1)) with
  |error l=>rw[o] at c;exact c
  |ok B=>
   rw[o] at c;obtain⟨t,v,z,k⟩:=c;exact⟨t,v,z,k.grow (fun _ _ _=>rfl) (by simp) (au_ _)⟩
def WV(c:Fn)(a b:Array Value)(w:World):(Instr.makeFunc c a b).run prog w=.ok (.func c a b) w:=rfl
def OA(C:Ctx)(L:Nat->bU aC)(n:PReads C 345 L):PReads C 336 (fun p=>bR (L p) (bE L C.ts 4 (C.ts.length+1))):=by
 intro w p h f;have s:=aB (oX C L 345 (fun _ _=>rfl) n 4 (by decide) (by decide) [[42],[47],[37]] ah_ (by decide) w p h 3 rfl #[.string ⟨#[42]⟩,.string ⟨#[47]⟩,.string ⟨#[37]⟩] rfl f)
 have i:=WV;show Calls _ _ _ _ (GK C w (bR (L p) (bE L C.ts 4 (C.ts.length+1))))
 generalize bR (L p) (bE L C.ts 4 (C.ts.length+1))=r at*;clear h f n;go_enter func336,ntmps336;go_wp2_with fail;refine s.out.mono ?_;rintro e t ⟨b,j⟩;cases r with
 |error l=>
  obtain rfl:e=cX 4 l:=j;have c:=aB b;clear b i;go_wp2_with fail;exact⟨rfl,Out.err rfl c.out⟩
 |ok o=>
  obtain⟨a,q⟩:=o;obtain⟨d,u,rfl,g⟩:=j;have c:=aB b;have m:=aB d;have k:=aB g;clear b d g i;go_wp2_with fail;go_ret;exact Out.ok rfl c.out m.out k.out
def S7(C:Ctx)(L:Nat->bU aC)(n:PReads C 336 L):PReads C 323 (fun p=>bR (L p) (bE L C.ts 3 (C.ts.length+1))):=by
 intro w p h f;have s:=aB (oX C L 336 (fun _ _=>rfl) n 3 (by decide) (by decide) [[43],[45]] ai_ (by decide) w p h 2 rfl #[.string ⟨#[43]⟩,.string ⟨#[45]⟩] rfl f)
 have i:=WV;show Calls _ _ _ _ (GK C w (bR (L p) (bE L C.ts 3 (C.ts.length+1))))
 generalize bR (L p) (bE L C.ts 3 (C.ts.length+1))=r at*;clear h f n;go_enter func323,ntmps323;go_wp2_with fail;refine s.out.mono ?_;rintro e t ⟨b,j⟩;cases r with
 |error l=>
  obtain rfl:e=cX 4 l:=j;have c:=aB b;clear b i;go_wp2_with fail;exact⟨rfl,Out.err rfl c.out⟩
 |ok o=>
  obtain⟨a,q⟩:=o;obtain⟨d,u,rfl,g⟩:=j;have c:=aB b;have m:=aB d;have k:=aB g;clear b d g i;go_wp2_with fail;go_ret;exact Out.ok rfl c.out m.out k.out
def i8(C:Ctx)(L:Nat->bU aC)(n:PReads C 285 L):PReads C 228 (fun p=>bR (L p) (bE L C.ts 1 (C.ts.length+1))):=by
 intro w p h f;have s:=aB (oX C L 285 (fun _ _=>rfl) n 1 (by decide) (by decide) [[38,38]] ak_ (by decide) w p h 1 rfl #[.string ⟨#[38,38]⟩] rfl f)
 have i:=WV;show Calls _ _ _ _ (GK C w (bR (L p) (bE L C.ts 1 (C.ts.length+1))))
 generalize bR (L p) (bE L C.ts 1 (C.ts.length+1))=r at*;clear h f n;go_enter func228,ntmps228;go_wp2_with fail;refine s.out.mono ?_;rintro e t ⟨b,j⟩;cases r with
 |error l=>
  obtain rfl:e=cX 4 l:=j;have c:=aB b;clear b i;go_wp2_with fail;exact⟨rfl,Out.err rfl c.out⟩
 |ok o=>
  obtain⟨a,q⟩:=o;obtain⟨d,u,rfl,g⟩:=j;have c:=aB b;have m:=aB d;have k:=aB g;clear b d g i;go_wp2_with fail;go_ret;exact Out.ok rfl c.out m.out k.out
def O5(C:Ctx)(L:Nat->bU aC)(n:PReads C 228 L):PReads C 164 (fun p=>bR (L p) (bE L C.ts 0 (C.ts.length+1))):=by
 intro w p h f;have s:=aB (oX C L 228 (fun _ _=>rfl) n 0 (by decide) (by decide) [[124,124]] al_ (by decide) w p h 1 rfl #[.string ⟨#[124,124]⟩] rfl f)
 have i:=WV;show Calls _ _ _ _ (GK C w (bR (L p) (bE L C.ts 0 (C.ts.length+1))))
 generalize bR (L p) (bE L C.ts 0 (C.ts.length+1))=r at*;clear h f n;go_enter func164,ntmps164;go_wp2_with fail;refine s.out.mono ?_;rintro e t ⟨b,j⟩;cases r with
 |error l=>
  obtain rfl:e=cX 4 l:=j;have c:=aB b;clear b i;go_wp2_with fail;exact⟨rfl,Out.err rfl c.out⟩
 |ok o=>
  obtain⟨a,q⟩:=o;obtain⟨d,u,rfl,g⟩:=j;have c:=aB b;have m:=aB d;have k:=aB g;clear b d g i;go_wp2_with fail;go_ret;exact Out.ok rfl c.out m.out k.out
def KH(C:Ctx)(L:Nat->bU aC)(v:PReads C 323 L):PReads C 285 (fun p=>bR (L p) (bE L C.ts 2 (C.ts.length+1))):=by
 intro w p h J;have N:=aB (mM C w p h);have I:L p≠.error 0:=fun e=>J (by show bR _ _=_;rw[e];rfl)
 have G:=aB (fun W (hb:Below w.heap.size w W)=>v W p (h.below hb) I)
 have af:=aB v;have ap:=h.pb_lt;obtain⟨r,hr⟩:∃r,r=bR (L p) (bE L C.ts 2 (C.ts.length+1)):=⟨_,rfl⟩;have H:r≠.error 0:=hr▸J;show Calls _ _ _ _ (GK C w (bR (L p) (bE L C.ts 2 (C.ts.length+1))))
 rw[<-hr];have HR:=aB hr;have ak:=aB H;clear h v J hr I H;generalize (aP C.ts p).line=X at*;cases o:L p with
 |error l=>
  have v:Hid (r=.error l):=by show _=_;rw[HR.out,o];rfl
  rw[o] at G;clear o HR;go_enter func285,ntmps285;go_wp2_with fail;refine N.out.mono ?_;rintro e W ⟨rfl,y⟩;have f:=aB y;clear y;go_wp2_with fail;refine(G.out W f.out).mono ?_;rintro e w2 ⟨m,rfl⟩;have am:=aB ((Fr.below f.out).trans m);clear m;go_wp2_with fail;exact⟨rfl,Out.err v.out am.out⟩
 |ok aq=>
  obtain⟨a,q⟩:=aq;have aa:r=bE L C.ts 2 (C.ts.length+1) a q:=by rw[HR.out,o];rfl
  rw[o] at G;clear o HR;have B:=aB aa;clear aa;go_enter func285,ntmps285;go_wp2_with fail;refine N.out.mono ?_;rintro e W ⟨rfl,y⟩;have f:=aB y;clear y;go_wp2_with fail;refine(G.out W f.out).mono ?_;rintro e w2 ⟨m,E,v2,rfl,V⟩;have al:=f.out.size;have ar:=m.size;have M:=aB (V.grow (lo':=w.heap.size) (w':=w2.alloc (.cells #[.int .i64 X] 209)) (hi':=w2.heap.size+1) (fun k _ Q=>aA_ _ _ _ Q) al (by simp))
  have U:=aB (((Fr.below f.out).trans m).alloc (.cells #[.int .i64 X] 209));have Z:=aB (S1.new w2 X);have aj:=aB (E.alloc (.cells #[.int .i64 X] 209));obtain⟨T3,ay,rfl⟩:=V.form;have HO:=aB (xY (E.tsk.tk q E.lt) 2 (by decide) [[61,61],[33,61],[60],[60,61]] aj_)
  clear m E V G N f;generalize j:nN C.ts q [[61,61],[33,61],[60],[60,61]]=O at*;have HM:=aB (II C _ q aj.out [[61,61],[33,61],[60],[60,61]] (by decide) (by intro x hx;simp at hx;rcases hx with rfl|rfl|rfl|rfl<;>simp) O j (w2.heap.size+1) (by simp) 4 rfl #[.string ⟨#[61,61]⟩,.string ⟨#[33,61]⟩,.string ⟨#[60]⟩,.string ⟨#[60,61]⟩] rfl)
  generalize ab:(if O=[] then q else q+1)=qo at*
  have D:=aB ab;clear ab j;cases d:((aP C.ts q).sort==112 && bZ (aP C.ts q).text==2)
  ·have v:Hid (r=.ok (a,q)):=by show _=_;rw[B.out];exact N0 d
   obtain rfl:O=[]:=by rw[HO.out,d];rfl
   obtain rfl:q=qo:=D.out;clear d B HO D;simp only[bs] at HM;go_wp2_with fail;refine HM.out.mono ?_;rintro e w4 ⟨rfl,s,c⟩;have n:=aB c;have t:=aB s;have S:=c.size;simp at S;clear c s;go_wp2_with fail;go_ret;exact Out.ok v.out (U.out.trans n.out) t.out (M.out.grow (fun k h1 Q=>n.out.block k (by simpa using Q) (by omega)) (au_ _) (by omega))
  ·obtain⟨rE,A⟩:∃rE,rE=L (q+1):=⟨_,rfl⟩
   have z:Hid (r=bX (fun b=>aR (aP C.ts q).text (aP C.ts q).line [] [a,b]) rE):=by
    show _=_
    rw[B.out,bE,if_pos d,A];cases L (q+1)<;>rfl
   have j:O=(aP C.ts q).text:=by rw[HO.out,d];rfl
   have g:(aP C.ts q).sort=112/\bZ (aP C.ts q).text=2:=by simpa using d
   have K:O≠[]:=by
    intro e;rw[<-j,e] at g;exact absurd g.2 (by decide)
   have ai:Hid (bZ (aP C.ts q).text≠9):=by show _≠_;rw[g.2];decide
   obtain rfl:q+1=qo:=by rw[<-D.out,if_neg K]
   have Y:L (q+1)≠.error 0:=fun e=>ak.out (by rw[z.out,A,e];rfl)
   have aw:(bs O).toList.isEmpty=false:=by
    rw[cA];cases O with
    |nil=>exact absurd rfl K
    |cons x l=>rfl
   have an:=aB A;have ao:=aB j;clear d B A HO D g j;go_wp2_with fail;refine HM.out.mono ?_;rintro e w4 ⟨rfl,s,c⟩;have G:=aB (af.out w4.drew (q+1) s.drew Y);rw[<-an.out] at G;have S:=c.size;simp at S;have ah:=aB (M.out.grow (lo':=w.heap.size) (hi':=w4.heap.size) (fun k h1 Q=>c.block k (by simpa using Q) (by omega)) (au_ _) (by omega))
   have t:=aB (c.keepB Z.out (by omega))
   have n:=aB (U.out.trans c);have c0:=aA t.out (i:=0) rfl;have ax:=aD t.out;clear c s M Z U HM Y K;cases rE with
   |error l=>
    have v:Hid (r=.error l):=z.out;go_wp2_with fail;go_region_law (refine thrown .nilIface ?_ ?_;(focus go_simp;go_at_call 323;refine G.out.mono ?_;rintro e w5 ⟨u,rfl⟩;exact aW_ rfl (Out.err v.out (n.out.drew.trans u)));intro F)
    all_goals exact F.out.elim
   |ok iq=>
    obtain⟨i,q5⟩:=iq;have v:Hid (r=.ok (aR (aP C.ts q).text (aP C.ts q).line [] [a,i],q5)):=z.out;clear z;go_wp2_with fail;go_region_law (go_simp;go_at_call 323;refine G.out.mono ?_;rintro e w5 ⟨u,ad,v5,rfl,P⟩;obtain⟨T5,av,rfl⟩:=P.form;have ag:=aB P;have T:=aB u;have ae:=aB ad;have ac:=aB (((Fr.refl C.pb w4).drew.trans u).keepB t.out (by omega));have d0:=aA ac.out (i:=0) rfl;have au:=aD ac.out;clear u ad P)
    all_goals (go_wp2_with fail;go_ret)
    all_goals exact Out.ok v.out (n.out.drew.trans T.out) ae.out (PN.mk (as_ (as_ (as_ (as_ (as_ (as_ (as_ (as_ (av_ ⟨rfl,X,_,_,a,i,by rw[ao.out];rfl,ai.out,rfl,rfl⟩))))))))) (fun p hp=>by
     simp only[aG_,aQ_,or_false] at hp;rcases hp with rfl|rfl
     ·exact Prt.ok.node (ah.out.grow (fun k h1 Q=>T.out.block k Q (by omega)) (au_ _) T.out.size)
     ·exact Prt.ok.node (ag.out.grow (fun _ _ _=>rfl) (by have:=n.out.size;exact this) (au_ _))))
def JA(C:Ctx):∀f,PReads C 164 (fB C.ts f)
 |0=>fun _ _ _ a=>absurd rfl a
 |f+1=>fun w p h a=>O5 C (fK (fB C.ts f) C.ts 4) (i8 C (fK (fB C.ts f) C.ts 3) (KH C (fK (fB C.ts f) C.ts 2) (S7 C (fK (fB C.ts f) C.ts 1) (OA C (fK (fB C.ts f) C.ts 0) (XQ C (fB C.ts f) (JA C f) (C.ts.length+1)))))) w p h a
end Go.Proofs.YtblbkfdhjfppkaaGreatDoor
