/- Contracts of the program: signs; operands with operations between them. -/
import Derived.Test.YtblbkfdhjfppkaaGreatDoorP05
set_option linter.defProp false
set_option maxRecDepth 100000
set_option maxHeartbeats 4000000
namespace Go.Proofs.YtblbkfdhjfppkaaGreatDoor
open Hs
open _root_.Go.Proofs.Tryz(prog)
open Go.RowKit
def XA(t:List UInt8):∀l:List (List UInt8),l.find? (fun x=>t==x)=if t∈l then some t else none
 |[]=>by simp
 |y::l=>by
  rw[List.find?_cons];by_cases h:t=y
  ·subst h;simp
  ·rw[show (t==y)=false by simpa using h]
   simp only[XA t l,aG_,h,false_or]
def N1(t:List UInt8)(h:iO.contains t=true):bZ t=9:=by
 unfold iO at h;simp only[List.contains_eq_mem,aG_,aQ_,or_false,decide_eq_true_eq] at h;rcases h with rfl|rfl|rfl|rfl|rfl|rfl|rfl|rfl|rfl<;>decide
def xY{ts:List aX}{q:Nat}(h:oF (aP ts q))(k:Nat)(g:k≠9)(l:List (List UInt8))(c:∀x,x∈l↔bZ x=k):
 nN ts q l=if (aP ts q).sort==112 && bZ (aP ts q).text==k then (aP ts q).text else []:=by
 unfold nN;by_cases a:(aP ts q).sort=112
 ·rw[show (fun x=>aV ts q x)=(fun x=>(aP ts q).text==x) by funext x;unfold aV;simp[a],XA]
  by_cases b:bZ (aP ts q).text=k
  ·rw[if_pos ((c _).2 b)];simp[a,b]
  ·rw[if_neg (fun e=>b ((c _).1 e))];simp[b]
 ·rw[bI_.2]
  ·simp[a]
  ·intro x d e;unfold aV at e;simp only[aX_,bF_,beq_iff_eq] at e;rcases h with h|⟨h,f⟩|h|⟨h,_⟩|h|h
   ·exact a h
   ·have:=N1 _ f;rw[e.2,(c x).1 d] at this;exact g this
   all_goals (rw[h] at e;rcases e.1 with e|e<;>omega)
def al_(x:List UInt8):x∈([[124,124]]:List (List UInt8))↔bZ x=0:=by
 unfold bZ;simp only[aG_,aQ_,or_false,beq_iff_eq,bF_];repeat' split
 all_goals simp_all
def ak_(x:List UInt8):x∈([[38,38]]:List (List UInt8))↔bZ x=1:=by
 unfold bZ;simp only[aG_,aQ_,or_false,beq_iff_eq,bF_];repeat' split
 all_goals simp_all
def aj_(x:List UInt8):x∈([[61,61],[33,61],[60],[60,61]]:List (List UInt8))↔bZ x=2:=by
 unfold bZ;simp only[aG_,aQ_,or_false,beq_iff_eq,bF_];repeat' split
 all_goals simp_all
def ai_(x:List UInt8):x∈([[43],[45]]:List (List UInt8))↔bZ x=3:=by
 constructor
 ·simp only[aG_,aQ_,or_false];rintro(rfl|rfl)<;>decide
 ·unfold bZ;simp only[aG_,aQ_,or_false,beq_iff_eq,bF_];repeat' split
  all_goals simp_all
def ah_(x:List UInt8):x∈([[42],[47],[37]]:List (List UInt8))↔bZ x=4:=by
 constructor
 ·simp only[aG_,aQ_,or_false];rintro(rfl|rfl|rfl)<;>decide
 ·unfold bZ;simp only[aG_,aQ_,or_false,beq_iff_eq,bF_];repeat' split
  all_goals simp_all
def OO(ts:List aX)(p:Nat):nN ts p [[45],[33]]=if aV ts p [45] then [45] else if aV ts p [33] then [33] else []:=by
 unfold nN;simp only[List.find?_cons,List.find?_nil];cases aV ts p [45]<;>cases aV ts p [33]<;>rfl
def II(C:Ctx)(w:World)(p:Nat)(h:PAt C w p)(l:List (List UInt8))(m:l.length<=100)(d:∀x∈l,x≠[])(c:List UInt8)(f:nN C.ts p l=c)(j:Nat)(g:j=w.heap.size)(n:Nat)(k:n=l.length)(cs:Array Value)(a:cs=(l.map fun x=>Value.string (bs x)).toArray):
 Calls prog 284 #[.pointer (some ⟨C.pb,0,none⟩),.slice (some ⟨j,0,none⟩) n n] (w.alloc (.cells cs 9)) fun e b=>e=.returned (.string (bs c))/\PAt C b (if c=[] then p else p+1)/\Fr C.pb w b:=by
 subst f g k;have q:=h.pb_lt;refine(IC C _ p l w.heap.size l.length (by simp) (by omega) m d ?_ (h.alloc _)).mono fun e b ⟨t,o,s⟩=>⟨t,o,((Fr.refl _ _).alloc _).trans s⟩
 intro i r;refine aA (aM _ _ rfl _) ?_;rw[a];simp[r]
def RX(C:Ctx)(E:Nat->bU aC)(HE:PReads C 164 E)(g:Nat)(ad:PReads C 345 (eH E C.ts g)):PReads C 345 (eH E C.ts (g+1)):=by
 intro w p h G;have ih:=aB ad;have ae:=aB (mM C w p h);have ap:=h.pb_lt;have ar:=h.g_lt;have an:=aB (L1 C E HE);obtain⟨r,hr⟩:∃r,r=eH E C.ts (g+1) p:=⟨_,rfl⟩;rw[<-hr] at G ⊢
 rw[eH] at hr;have U:=aB hr;have M:=aB G;have H:=aB h;clear h HE G hr ad;generalize J:(aP C.ts p).line=I at*;have t:=aB (OO C.ts p);generalize ac:nN C.ts p [[45],[33]]=oo at*;have F:=aB ac;clear ac;go_enter Tryz.func345,Tryz.ntmps345;go_wp2_with fail;refine ae.out.mono ?_;rintro e w1 ⟨rfl,B⟩;have ah:=aB ((Fr.below (pb:=C.pb) B).alloc (.cells #[.int .i64 I] 209));have ab:=aB ((H.out.below B).alloc (.cells #[.int .i64 I] 209));have V:=aB (S1.new w1 I);have ao:=B.size;clear B ae;have HM:=aB (II C _ p ab.out [[45],[33]] (by decide) (by intro x hx;simp at hx;rcases hx with rfl|rfl<;>simp) oo F.out (w1.heap.size+1) (by simp) 2 rfl #[.string ⟨#[45]⟩,.string ⟨#[33]⟩] rfl)
 generalize Z:(if oo=[] then p else p+1)=qo at*
 have n:=aB Z;clear Z;go_wp2_with fail;refine HM.out.mono ?_;rintro e W ⟨rfl,af,Q⟩;have P:=aB af;have k:=aB (ah.out.trans Q);have s:=aB (Q.keepB V.out (by omega))
 have K:=k.out.size;clear af Q ah ab V;by_cases j:aV C.ts p [45]=true
 ·obtain rfl:oo=[45]:=by rw[t.out,if_pos j]
  obtain rfl:qo=p+1:=n.out.symm;obtain⟨A,d⟩:∃A,A=eH E C.ts g (p+1):=⟨_,rfl⟩;have c:Hid (r=bX (fun x=>aR [45,120] I [] [x]) A):=by show _=_;rw[U.out,if_pos j,d]
  have y:eH E C.ts g (p+1)≠.error 0:=fun e=>M.out (by rw[c.out,d,e];rfl)
  have z:=aB (ih.out W.drew (p+1) P.out.drew y);rw[<-d] at z;clear y d U t F n HM j J;have c0:=aA s.out (i:=0) rfl;have ai:=aD s.out;simp only[bs];cases A with
  |error l=>
   have S:Hid (r=.error l):=c.out;go_wp2_with fail;go_region_law (refine thrown .nilIface ?_ ?_;(focus go_simp;go_at_call 345;refine z.out.mono ?_;rintro e w5 ⟨b,rfl⟩;exact aW_ rfl (Out.err S.out (k.out.drew.trans b)));intro f)
   all_goals exact f.out.elim
  |ok Y=>
   obtain⟨a,q⟩:=Y;have S:Hid (r=.ok (aR [45,120] I [] [a],q)):=c.out;go_wp2_with fail;go_region_law (go_simp;go_at_call 345;refine z.out.mono ?_;rintro e w5 ⟨b,u,v5,rfl,m⟩;obtain⟨T5,al,rfl⟩:=m.form;have L:=aB m;have N:=aB b;have T:=aB u;have v:=aB (((Fr.refl C.pb W).drew.trans b).keepB s.out (by omega));have d0:=aA v.out (i:=0) rfl;have aj:=aD v.out;clear b u m)
   all_goals (go_wp2_with fail;go_ret)
   all_goals exact Out.ok S.out (k.out.drew.trans N.out) T.out (PN.mk (as_ (as_ (as_ (as_ (as_ (as_ (as_ (av_ ⟨rfl,45,_,a,rfl,av_ rfl,rfl,rfl,rfl⟩)))))))) (fun p hp=>by obtain rfl:=aD_.1 hp;exact Prt.ok.node (L.out.grow (fun _ _ _=>rfl) K (au_ _))))
 by_cases o:aV C.ts p [33]=true
 ·obtain rfl:oo=[33]:=by rw[t.out,if_neg j,if_pos o]
  obtain rfl:qo=p+1:=n.out.symm;obtain⟨A,d⟩:∃A,A=eH E C.ts g (p+1):=⟨_,rfl⟩;have c:Hid (r=bX (fun x=>aR [33,120] I [] [x]) A):=by show _=_;rw[U.out,if_neg j,if_pos o,d]
  have y:eH E C.ts g (p+1)≠.error 0:=fun e=>M.out (by rw[c.out,d,e];rfl)
  have z:=aB (ih.out W.drew (p+1) P.out.drew y);rw[<-d] at z;clear y d U t F n HM j o J;have c0:=aA s.out (i:=0) rfl;have ai:=aD s.out;simp only[bs];cases A with
  |error l=>
   have S:Hid (r=.error l):=c.out;go_wp2_with fail;go_region_law (refine thrown .nilIface ?_ ?_;(focus go_simp;go_at_call 345;refine z.out.mono ?_;rintro e w5 ⟨b,rfl⟩;exact aW_ rfl (Out.err S.out (k.out.drew.trans b)));intro f)
   all_goals exact f.out.elim
  |ok Y=>
   obtain⟨a,q⟩:=Y;have S:Hid (r=.ok (aR [33,120] I [] [a],q)):=c.out;go_wp2_with fail;go_region_law (go_simp;go_at_call 345;refine z.out.mono ?_;rintro e w5 ⟨b,u,v5,rfl,m⟩;obtain⟨T5,al,rfl⟩:=m.form;have L:=aB m;have N:=aB b;have T:=aB u;have v:=aB (((Fr.refl C.pb W).drew.trans b).keepB s.out (by omega));have d0:=aA v.out (i:=0) rfl;have aj:=aD v.out;clear b u m)
   all_goals (go_wp2_with fail;go_ret)
   all_goals exact Out.ok S.out (k.out.drew.trans N.out) T.out (PN.mk (as_ (as_ (as_ (as_ (as_ (as_ (as_ (av_ ⟨rfl,33,_,a,rfl,as_ rfl,rfl,rfl,rfl⟩)))))))) (fun p hp=>by obtain rfl:=aD_.1 hp;exact Prt.ok.node (L.out.grow (fun _ _ _=>rfl) K (au_ _))))
 obtain rfl:oo=[]:=by rw[t.out,if_neg j,if_neg o]
 obtain rfl:p=qo:=n.out;have c:Hid (r=bR (dT E C.ts p) (cZ E C.ts (C.ts.length+1))):=by show _=_;rw[U.out,if_neg j,if_neg o]
 have z:=aB (an.out W p P.out (by show bR _ _≠_;rw[<-c.out];exact M.out))
 simp only[<-c.out] at z;clear U t F n HM j o J;simp only[bs];go_wp2_with fail;refine z.out.mono ?_;rintro e w3 ⟨D,X⟩;cases r with
 |error l=>
  obtain rfl:e=cX 4 l:=X;have O:=aB (k.out.trans D);clear D;go_wp2_with fail;exact⟨rfl,Out.err rfl O.out⟩
 |ok Y=>
  obtain⟨a,q⟩:=Y;obtain⟨ag,v3,rfl,aa⟩:=X;have O:=aB (k.out.trans D);have ak:=aB ag;have am:=aB aa;clear D ag aa;go_wp2_with fail;go_ret;exact Out.ok rfl O.out ak.out (am.out.grow (fun _ _ _=>rfl) K (au_ _))
def XQ(C:Ctx)(E:Nat->bU aC)(b:PReads C 164 E)(g:Nat):PReads C 345 (eH E C.ts g):=by
 induction g with
 |zero=>exact fun w p _ a=>absurd rfl a
 |succ g c=>exact RX C E b g c
def l6(C:Ctx)(L:Nat->bU aC)(w:World)(r:bU aC)(lv tb l:Nat)(k:Nat)(v:Value)(wr:World):Prop:=
 Fr C.pb w wr/\∃q a,PAt C wr q/\r=bE L C.ts lv k a q/\PN (Btw w.heap.size wr.heap.size) wr v a/\S1 wr tb l
def X3{L:Nat->bU aC}{ts:List aX}{c k q:Nat}{a:aC}(d:c≠2)(h:((aP ts q).sort==112 && bZ (aP ts q).text==c)=true):
 bE L ts c (k+1) a q=bR (L (q+1)) (fun b e=>bE L ts c k (aR (aP ts q).text (aP ts q).line [] [a,b]) e):=by
 rw[bE,if_pos h];cases L (q+1) with
 |error l=>rfl
 |ok f=>simp only[if_neg d];rfl
def N0{L:Nat->bU aC}{ts:List aX}{b k q:Nat}{a:aC}(h:((aP ts q).sort==112 && bZ (aP ts q).text==b)=false):
 bE L ts b (k+1) a q=.ok (a,q):=by
 rw[bE,if_neg (by rw[h];simp)]
def E0(C:Ctx)(L:Nat->bU aC)(F:Nat)(bq:∀U w,Sem.run prog (callFunc F U) w=.ok (.enter F U) w)(HF:PReads C F L)(j:Nat)(I:j≠2)(h9:j≠9)(c:List (List UInt8))(z:∀x,x∈c↔bZ x=j)(au:c.length<=100)(w:World)(p:Nat)(h:PAt C w p)(g ak:Nat)(hg:g<w.heap.size)(an:g≠C.pb)(hc:∀i (hi:i<c.length),w.cell? ⟨g,i,none⟩=some (.string (bs c[i])))
 (H:bR (L p) (bE L C.ts j (C.ts.length+1))≠.error 0):
 Calls prog 227 #[.pointer (some ⟨C.pb,0,none⟩),.func (.func F) #[.pointer (some ⟨C.pb,0,none⟩)] #[],.slice (some ⟨g,0,none⟩) c.length ak] w (GK C w (bR (L p) (bE L C.ts j (C.ts.length+1)))):=by
 have T:∀x∈c,x≠[]:=fun x hx e=>by rw[z,e] at hx;exact h9 (hx.symm.trans rfl)
 have ay:=aB (fun W q (hf:Fr C.pb w W) (hq:PAt C W q)=>IC C W q c g ak (az_ hg hf.size) an au T (fun i hi=>(xE (hf.block g hg an)).trans (hc i hi)) hq)
 have ax:=aB (fun W q (hq:PAt C W q)=>xY (hq.tsk.tk q hq.lt) j h9 c z)
 have ae:=aB (mM C w p h);have S:L p≠.error 0:=fun e=>H (by rw[e];rfl)
 have N:=aB (fun w1 (hb:Below w.heap.size w w1)=>HF w1 p (h.below hb) S)
 have bd:=aB HF;have bn:=h.pb_lt;obtain⟨r,hr⟩:∃r,r=bR (L p) (bE L C.ts j (C.ts.length+1)):=⟨_,rfl⟩;rw[<-hr] at H ⊢
 have HR:=aB hr;have ao:=aB H;clear h HF H hr S T hc z;generalize (aP C.ts p).line=pl at*;cases u:L p with
 |error l=>
  have G:Hid (r=.error l):=by show _=_;rw[HR.out,u];rfl
  rw[u] at N;clear u HR;go_enter Tryz.func227,Tryz.ntmps227;go_wp2_with fail;refine ae.out.mono ?_;rintro e w1 ⟨rfl,D⟩;have s:=aB D;clear D;go_wp2_with fail;refine(N.out w1 s.out).mono ?_;rintro e w2 ⟨t,rfl⟩;have aw:=aB ((Fr.below s.out).trans t);clear t;go_wp2_with fail;exact⟨rfl,Out.err G.out aw.out⟩
 |ok aq=>
  obtain⟨a0,q0⟩:=aq;have G:Hid (r=bE L C.ts j (C.ts.length+1) a0 q0):=by show _=_;rw[HR.out,u];rfl
  rw[u] at N;clear u HR;go_enter Tryz.func227,Tryz.ntmps227;go_wp2_with fail;refine ae.out.mono ?_;rintro e w1 ⟨rfl,D⟩;have s:=aB D;clear D;go_wp2_with fail;refine(N.out w1 s.out).mono ?_;rintro e w2 ⟨t,ar,v2,rfl,ad⟩;have av:=s.out.size;have bi:=t.size
  have HI:Hid (l6 C L w r j w2.heap.size pl (C.ts.length+1) v2 (w2.alloc (.cells #[.int .i64 pl] 209))):=
   ⟨((Fr.below s.out).trans t).alloc _,q0,a0,ar.alloc _,G.out,ad.grow (fun k _ I=>aA_ _ _ _ I) av (by simp),S1.new _ _⟩
  obtain⟨T2,br,rfl⟩:=ad.form;clear t ar ad G N ae;go_wp2_with fail;go_loopg [8,9] (C.ts.length+1) (fun k v o wr=>l6 C L w r j w2.heap.size pl k v wr)
  case atStart=>exact HI.out
  case round=>
   obtain⟨P,q,a,ah,A,Z,Q⟩:=hrel;obtain⟨T3,bh,rfl⟩:=Z.form
   obtain⟨k,rfl⟩:∃k,gk=k+1:=by
    cases gk with
    |zero=>exact absurd A ao.out
    |succ k=>exact⟨k,rfl⟩
   have HA:=aB (ay.out wr q P ah);have HO:=aB (ax.out wr q ah);have aj:(aP C.ts q).sort=112->bZ (aP C.ts q).text=j->(aP C.ts q).text≠[]:=fun _ e1 e2=>h9 (by rw[<-e1,e2];rfl)
   have V:=aB aj;have ac:=aB P;have ag:=aB Z;have ap:=aB Q;have bj:=P.size;clear P ah Z Q HI aj;generalize nN C.ts q c=oo at*;generalize al:(if oo=[] then q else q+1)=qo at*
   have M:=aB al;clear al;cases m:((aP C.ts q).sort==112 && bZ (aP C.ts q).text==j)
   ·have G:Hid (r=.ok (a,q)):=by show _=_;rw[A];exact N0 m
    obtain rfl:oo=[]:=by rw[HO.out,m];rfl
    obtain rfl:q=qo:=M.out;clear m A HO M V;simp only[bs] at HA;go_wp2_with fail;refine HA.out.mono ?_;rintro e w4 ⟨rfl,B,d⟩;have f:=aB d;have y:=aB B;clear d B;go_wp2_with fail;go_ret;exact Out.ok G.out (ac.out.trans f.out) y.out (ag.out.grow (fun k h1 I=>f.out.block k I (by omega)) (au_ _) f.out.size)
   ·obtain⟨rE,O⟩:∃rE,rE=L (q+1):=⟨_,rfl⟩;have J:Hid (r=bR rE (fun b q2=>bE L C.ts j k (aR (aP C.ts q).text (aP C.ts q).line [] [a,b]) q2)):=by show _=_;rw[A,X3 I m,O]
    have aa:oo=(aP C.ts q).text:=by rw[HO.out,m];rfl
    have n:(aP C.ts q).sort=112/\bZ (aP C.ts q).text=j:=by simpa using m
    have X:oo≠[]:=by rw[aa];exact V.out n.1 n.2
    have bc:Hid (bZ (aP C.ts q).text≠9):=by show _≠_;rw[n.2];exact h9
    obtain rfl:q+1=qo:=by rw[<-M.out,if_neg X]
    have am:L (q+1)≠.error 0:=fun e=>ao.out (by rw[J.out,O,e];rfl)
    have bm:(bs oo).toList.isEmpty=false:=by
     rw[cA];cases oo with
     |nil=>exact absurd rfl X
     |cons x l=>rfl
    have be:=aB O;have bf:=aB aa;clear m A O HO M V n aa;go_wp2_with fail;refine HA.out.mono ?_;rintro e w4 ⟨rfl,B,d⟩;have N:=aB (bd.out w4.drew (q+1) B.drew am);rw[<-be.out] at N;have ba:=aB (ag.out.grow (fun k h1 I=>d.block k I (by omega)) (au_ _) d.size)
    have y:=aB (d.keepB ap.out (by omega))
    have f:=aB (ac.out.trans d);have c0:=aA y.out (i:=0) rfl;have bo:=aD y.out;have bk:=d.size;clear d B ag ap ac HA am X;cases rE with
    |error l=>
     have G:Hid (r=.error l):=J.out;go_wp2_with fail;go_region_law (refine thrown .nilIface ?_ ?_;(focus go_simp;refine N.out.mono ?_;rintro e w5 ⟨E,rfl⟩;exact aW_ rfl (Out.err G.out (f.out.drew.trans E)));intro K)
     all_goals exact K.out.elim
    |ok iq=>
     obtain⟨i,q5⟩:=iq;have G:Hid (r=bE L C.ts j k (aR (aP C.ts q).text (aP C.ts q).line [] [a,i]) q5):=J.out;clear J;go_wp2_with fail;go_region_law (go_simp;refine N.out.mono ?_;rintro e w5 ⟨E,ai,v5,rfl,af⟩;obtain⟨T5,bp,rfl⟩:=af.form;have az:=aB af;have ab:=aB E;have bg:=aB ai;have Y:=aB (((Fr.refl C.pb w4).drew.trans E).keepB y.out (by omega));have d0:=aA Y.out (i:=0) rfl;have bl:=aD Y.out;clear E ai af)
     all_goals
      go_wp2_with fail;go_roundg k
      case measure=>omega
      case rel=>
       have bb:=ab.out.size
       exact⟨f.out.drew.trans ab.out,q5,_,bg.out,G.out,PN.mk (as_ (as_ (as_ (as_ (as_ (as_ (as_ (as_ (av_ ⟨rfl,pl,_,_,a,i,by rw[bf.out];rfl,bc.out,rfl,rfl⟩))))))))) (fun p hp=>by
        simp only[aG_,aQ_,or_false] at hp;rcases hp with rfl|rfl
        ·exact Prt.ok.node (ba.out.grow (fun k h1 I=>ab.out.block k I (by omega)) (au_ _) bb)
        ·exact Prt.ok.node (az.out.grow (fun _ _ _=>rfl) (by have:=f.out.size;exact this) (au_ _))),Y.out⟩
def oX(C:Ctx)(L:Nat->bU aC)(F:Nat)(o:∀b w,Sem.run prog (callFunc F b) w=.ok (.enter F b) w)(r:PReads C F L)(c:Nat)(d:c≠2)(s:c≠9)(a:List (List UInt8))(f:∀x,x∈a↔bZ x=c)(g:a.length<=100)(w:World)(p:Nat)(h:PAt C w p)(n:Nat)(k:n=a.length)(cs:Array Value)(j:cs=(a.map fun x=>Value.string (bs x)).toArray)
 (m:bR (L p) (bE L C.ts c (C.ts.length+1))≠.error 0):
 Calls prog 227 #[.pointer (some ⟨C.pb,0,none⟩),.func (.func F) #[.pointer (some ⟨C.pb,0,none⟩)] #[],.slice (some ⟨w.heap.size,0,none⟩) n n] (w.alloc (.cells cs 9)) (GK C w (bR (L p) (bE L C.ts c (C.ts.length+1)))):=by
 subst k;have t:=h.pb_lt;refine(E0 C L F o r c d s a f g _ p (h.alloc _) w.heap.size a.length (by simp) (by omega) ?_ m).mono fun e B ⟨A,d⟩=>⟨((Fr.refl _ _).alloc _).trans A,?_⟩
 ·intro i y;refine aA (aM _ _ rfl _) ?_;rw[j];simp[y]
 ·cases q:bR (L p) (bE L C.ts c (C.ts.length+1)) with
  |error l=>rw[q] at d;exact d
  |ok D=>
   rw[q] at d;obtain⟨u,v,z,k⟩:=d;exact⟨u,v,z,k.grow (fun _ _ _=>rfl) (by simp) (au_ _)⟩
def WV(c:Fn)(a b:Array Value)(w:World):(Instr.makeFunc c a b).run prog w=.ok (.func c a b) w:=rfl
def OA(C:Ctx)(L:Nat->bU aC)(n:PReads C 345 L):PReads C 336 (fun p=>bR (L p) (bE L C.ts 4 (C.ts.length+1))):=by
 intro w p h f;have o:=aB (oX C L 345 (fun _ _=>rfl) n 4 (by decide) (by decide) [[42],[47],[37]] ah_ (by decide) w p h 3 rfl #[.string ⟨#[42]⟩,.string ⟨#[47]⟩,.string ⟨#[37]⟩] rfl f)
 have g:=WV;show Calls _ _ _ _ (GK C w (bR (L p) (bE L C.ts 4 (C.ts.length+1))))
 generalize bR (L p) (bE L C.ts 4 (C.ts.length+1))=r at*;clear h f n;go_enter Tryz.func336,Tryz.ntmps336;go_wp2_with fail;refine o.out.mono ?_;rintro e u ⟨b,j⟩;cases r with
 |error l=>
  obtain rfl:e=cX 4 l:=j;have c:=aB b;clear b g;go_wp2_with fail;exact⟨rfl,Out.err rfl c.out⟩
 |ok s=>
  obtain⟨a,q⟩:=s;obtain⟨i,t,rfl,d⟩:=j;have c:=aB b;have k:=aB i;have m:=aB d;clear b i d g;go_wp2_with fail;go_ret;exact Out.ok rfl c.out k.out m.out
def S7(C:Ctx)(L:Nat->bU aC)(n:PReads C 336 L):PReads C 323 (fun p=>bR (L p) (bE L C.ts 3 (C.ts.length+1))):=by
 intro w p h f;have o:=aB (oX C L 336 (fun _ _=>rfl) n 3 (by decide) (by decide) [[43],[45]] ai_ (by decide) w p h 2 rfl #[.string ⟨#[43]⟩,.string ⟨#[45]⟩] rfl f)
 have g:=WV;show Calls _ _ _ _ (GK C w (bR (L p) (bE L C.ts 3 (C.ts.length+1))))
 generalize bR (L p) (bE L C.ts 3 (C.ts.length+1))=r at*;clear h f n;go_enter Tryz.func323,Tryz.ntmps323;go_wp2_with fail;refine o.out.mono ?_;rintro e u ⟨b,j⟩;cases r with
 |error l=>
  obtain rfl:e=cX 4 l:=j;have c:=aB b;clear b g;go_wp2_with fail;exact⟨rfl,Out.err rfl c.out⟩
 |ok s=>
  obtain⟨a,q⟩:=s;obtain⟨i,t,rfl,d⟩:=j;have c:=aB b;have k:=aB i;have m:=aB d;clear b i d g;go_wp2_with fail;go_ret;exact Out.ok rfl c.out k.out m.out
def i8(C:Ctx)(L:Nat->bU aC)(n:PReads C 285 L):PReads C 228 (fun p=>bR (L p) (bE L C.ts 1 (C.ts.length+1))):=by
 intro w p h f;have o:=aB (oX C L 285 (fun _ _=>rfl) n 1 (by decide) (by decide) [[38,38]] ak_ (by decide) w p h 1 rfl #[.string ⟨#[38,38]⟩] rfl f)
 have g:=WV;show Calls _ _ _ _ (GK C w (bR (L p) (bE L C.ts 1 (C.ts.length+1))))
 generalize bR (L p) (bE L C.ts 1 (C.ts.length+1))=r at*;clear h f n;go_enter Tryz.func228,Tryz.ntmps228;go_wp2_with fail;refine o.out.mono ?_;rintro e u ⟨b,j⟩;cases r with
 |error l=>
  obtain rfl:e=cX 4 l:=j;have c:=aB b;clear b g;go_wp2_with fail;exact⟨rfl,Out.err rfl c.out⟩
 |ok s=>
  obtain⟨a,q⟩:=s;obtain⟨i,t,rfl,d⟩:=j;have c:=aB b;have k:=aB i;have m:=aB d;clear b i d g;go_wp2_with fail;go_ret;exact Out.ok rfl c.out k.out m.out
def O5(C:Ctx)(L:Nat->bU aC)(n:PReads C 228 L):PReads C 164 (fun p=>bR (L p) (bE L C.ts 0 (C.ts.length+1))):=by
 intro w p h f;have o:=aB (oX C L 228 (fun _ _=>rfl) n 0 (by decide) (by decide) [[124,124]] al_ (by decide) w p h 1 rfl #[.string ⟨#[124,124]⟩] rfl f)
 have g:=WV;show Calls _ _ _ _ (GK C w (bR (L p) (bE L C.ts 0 (C.ts.length+1))))
 generalize bR (L p) (bE L C.ts 0 (C.ts.length+1))=r at*;clear h f n;go_enter Tryz.func164,Tryz.ntmps164;go_wp2_with fail;refine o.out.mono ?_;rintro e u ⟨b,j⟩;cases r with
 |error l=>
  obtain rfl:e=cX 4 l:=j;have c:=aB b;clear b g;go_wp2_with fail;exact⟨rfl,Out.err rfl c.out⟩
 |ok s=>
  obtain⟨a,q⟩:=s;obtain⟨i,t,rfl,d⟩:=j;have c:=aB b;have k:=aB i;have m:=aB d;clear b i d g;go_wp2_with fail;go_ret;exact Out.ok rfl c.out k.out m.out
def KH(C:Ctx)(L:Nat->bU aC)(y:PReads C 323 L):PReads C 285 (fun p=>bR (L p) (bE L C.ts 2 (C.ts.length+1))):=by
 intro w p h J;have S:=aB (mM C w p h);have I:L p≠.error 0:=fun e=>J (by show bR _ _=_;rw[e];rfl)
 have D:=aB (fun W (hb:Below w.heap.size w W)=>y W p (h.below hb) I)
 have am:=aB y;have ax:=h.pb_lt;obtain⟨r,hr⟩:∃r,r=bR (L p) (bE L C.ts 2 (C.ts.length+1)):=⟨_,rfl⟩;have H:r≠.error 0:=hr▸J;show Calls _ _ _ _ (GK C w (bR (L p) (bE L C.ts 2 (C.ts.length+1))))
 rw[<-hr];have HR:=aB hr;have ak:=aB H;clear h y J hr I H;generalize (aP C.ts p).line=Y at*;cases o:L p with
 |error l=>
  have y:Hid (r=.error l):=by show _=_;rw[HR.out,o];rfl
  rw[o] at D;clear o HR;go_enter Tryz.func285,Tryz.ntmps285;go_wp2_with fail;refine S.out.mono ?_;rintro e W ⟨rfl,u⟩;have d:=aB u;clear u;go_wp2_with fail;refine(D.out W d.out).mono ?_;rintro e X ⟨n,rfl⟩;have ag:=aB ((Fr.below d.out).trans n);clear n;go_wp2_with fail;exact⟨rfl,Out.err y.out ag.out⟩
 |ok aq=>
  obtain⟨a,q⟩:=aq;have aa:r=bE L C.ts 2 (C.ts.length+1) a q:=by rw[HR.out,o];rfl
  rw[o] at D;clear o HR;have F:=aB aa;clear aa;go_enter Tryz.func285,Tryz.ntmps285;go_wp2_with fail;refine S.out.mono ?_;rintro e W ⟨rfl,u⟩;have d:=aB u;clear u;go_wp2_with fail;refine(D.out W d.out).mono ?_;rintro e X ⟨n,G,v2,rfl,Q⟩;have af:=d.out.size;have au:=n.size;have V:=aB (Q.grow (lo':=w.heap.size) (w':=X.alloc (.cells #[.int .i64 Y] 209)) (hi':=X.heap.size+1) (fun k _ K=>aA_ _ _ _ K) af (by simp))
  have P:=aB (((Fr.below d.out).trans n).alloc (.cells #[.int .i64 Y] 209));have ae:=aB (S1.new X Y);have ah:=aB (G.alloc (.cells #[.int .i64 Y] 209));obtain⟨T3,ar,rfl⟩:=Q.form;have HO:=aB (xY (G.tsk.tk q G.lt) 2 (by decide) [[61,61],[33,61],[60],[60,61]] aj_)
  clear n G Q D S d;generalize m:nN C.ts q [[61,61],[33,61],[60],[60,61]]=T at*;have HM:=aB (II C _ q ah.out [[61,61],[33,61],[60],[60,61]] (by decide) (by intro x hx;simp at hx;rcases hx with rfl|rfl|rfl|rfl<;>simp) T m (X.heap.size+1) (by simp) 4 rfl #[.string ⟨#[61,61]⟩,.string ⟨#[33,61]⟩,.string ⟨#[60]⟩,.string ⟨#[60,61]⟩] rfl)
  generalize ab:(if T=[] then q else q+1)=qo at*
  have B:=aB ab;clear ab m;cases f:((aP C.ts q).sort==112 && bZ (aP C.ts q).text==2)
  ·have y:Hid (r=.ok (a,q)):=by show _=_;rw[F.out];exact N0 f
   obtain rfl:T=[]:=by rw[HO.out,f];rfl
   obtain rfl:q=qo:=B.out;clear f F HO B;simp only[bs] at HM;go_wp2_with fail;refine HM.out.mono ?_;rintro e w4 ⟨rfl,t,c⟩;have j:=aB c;have s:=aB t;have M:=c.size;simp at M;clear c t;go_wp2_with fail;go_ret;exact Out.ok y.out (P.out.trans j.out) s.out (V.out.grow (fun k h1 K=>j.out.block k (by simpa using K) (by omega)) (au_ _) (by omega))
  ·obtain⟨rE,E⟩:∃rE,rE=L (q+1):=⟨_,rfl⟩
   have z:Hid (r=bX (fun b=>aR (aP C.ts q).text (aP C.ts q).line [] [a,b]) rE):=by
    show _=_
    rw[F.out,bE,if_pos f,E];cases L (q+1)<;>rfl
   have m:T=(aP C.ts q).text:=by rw[HO.out,f];rfl
   have g:(aP C.ts q).sort=112/\bZ (aP C.ts q).text=2:=by simpa using f
   have N:T≠[]:=by
    intro e;rw[<-m,e] at g;exact absurd g.2 (by decide)
   have al:Hid (bZ (aP C.ts q).text≠9):=by show _≠_;rw[g.2];decide
   obtain rfl:q+1=qo:=by rw[<-B.out,if_neg N]
   have ac:L (q+1)≠.error 0:=fun e=>ak.out (by rw[z.out,E,e];rfl)
   have aw:(bs T).toList.isEmpty=false:=by
    rw[cA];cases T with
    |nil=>exact absurd rfl N
    |cons x l=>rfl
   have an:=aB E;have ao:=aB m;clear f F E HO B g m;go_wp2_with fail;refine HM.out.mono ?_;rintro e w4 ⟨rfl,t,c⟩;have D:=aB (am.out w4.drew (q+1) t.drew ac);rw[<-an.out] at D;have M:=c.size;simp at M;have aj:=aB (V.out.grow (lo':=w.heap.size) (hi':=w4.heap.size) (fun k h1 K=>c.block k (by simpa using K) (by omega)) (au_ _) (by omega))
   have s:=aB (c.keepB ae.out (by omega))
   have j:=aB (P.out.trans c);have c0:=aA s.out (i:=0) rfl;have ay:=aD s.out;clear c t V ae P HM ac N;cases rE with
   |error l=>
    have y:Hid (r=.error l):=z.out;go_wp2_with fail;go_region_law (refine thrown .nilIface ?_ ?_;(focus go_simp;go_at_call 323;refine D.out.mono ?_;rintro e w5 ⟨v,rfl⟩;exact aW_ rfl (Out.err y.out (j.out.drew.trans v)));intro A)
    all_goals exact A.out.elim
   |ok iq=>
    obtain⟨i,q5⟩:=iq;have y:Hid (r=.ok (aR (aP C.ts q).text (aP C.ts q).line [] [a,i],q5)):=z.out;clear z;go_wp2_with fail;go_region_law (go_simp;go_at_call 323;refine D.out.mono ?_;rintro e w5 ⟨v,Z,v5,rfl,U⟩;obtain⟨T5,az,rfl⟩:=U.form;have ai:=aB U;have O:=aB v;have ap:=aB Z;have ad:=aB (((Fr.refl C.pb w4).drew.trans v).keepB s.out (by omega));have d0:=aA ad.out (i:=0) rfl;have av:=aD ad.out;clear v Z U)
    all_goals (go_wp2_with fail;go_ret)
    all_goals exact Out.ok y.out (j.out.drew.trans O.out) ap.out (PN.mk (as_ (as_ (as_ (as_ (as_ (as_ (as_ (as_ (av_ ⟨rfl,Y,_,_,a,i,by rw[ao.out];rfl,al.out,rfl,rfl⟩))))))))) (fun p hp=>by
     simp only[aG_,aQ_,or_false] at hp;rcases hp with rfl|rfl
     ·exact Prt.ok.node (aj.out.grow (fun k h1 K=>O.out.block k K (by omega)) (au_ _) O.out.size)
     ·exact Prt.ok.node (ai.out.grow (fun _ _ _=>rfl) (by have:=j.out.size;exact this) (au_ _))))
def JA(C:Ctx):∀f,PReads C 164 (fB C.ts f)
 |0=>fun _ _ _ a=>absurd rfl a
 |f+1=>fun w p h a=>O5 C (fK (fB C.ts f) C.ts 4) (i8 C (fK (fB C.ts f) C.ts 3) (KH C (fK (fB C.ts f) C.ts 2) (S7 C (fK (fB C.ts f) C.ts 1) (OA C (fK (fB C.ts f) C.ts 0) (XQ C (fB C.ts f) (JA C f) (C.ts.length+1)))))) w p h a
end Go.Proofs.YtblbkfdhjfppkaaGreatDoor
