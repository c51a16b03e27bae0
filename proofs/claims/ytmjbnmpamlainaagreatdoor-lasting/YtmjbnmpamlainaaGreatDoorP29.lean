/- Lasting, Between: the number of the last moment. -/
import Derived.Test.YtmjbnmpamlainaaGreatDoorP28
set_option linter.defProp false
set_option maxRecDepth 100000
set_option maxHeartbeats 4000000
namespace Go.Proofs.YtmjbnmpamlainaaGreatDoor
open Hs
open _root_.Go.Proofs.Tryz
open Go.RowKit
def K5(w:aG)(sb:Nat)(I R:Nat->World->Prop)(g:I 0 w)
 (u:Hid (∀n W,n<=500->I n W->Calls prog 7 #[bH sb,Iv0 ((n:Int)+1)] W fun e f=>∃b,e=aZ (.bool b)/\(b=true->n+1<=500/\I (n+1) f)/\(b=false->R n f))):
 Calls prog 6 #[bH sb] w fun e f=>∃n:Nat,e=aZ (Iv0 n)/\R n f:=by
 have l:=aB g;clear g;go_in
 go_wp2_with fail;go_loopg [3] 501 (fun gk v wr=>∃k,k+gk=501/\k<=500/\v=Iv0 (k:Nat)/\I k wr)
 case atStart=>exact⟨0,by omega,by omega,rfl,l⟩
 case round=>
  obtain⟨k,s,o,rfl,h⟩:=hrel;obtain⟨j,rfl⟩:∃j,gk=j+1:=⟨gk-1,by omega⟩
  have a:=aB (u k wr o h);have p:(k:Int)<=500:=by omega
  have m:(k:Int)+1<=9223372036854775807:=by omega
  clear h;go_wp2_with fail;refine a.mono ?_;rintro e x ⟨b,rfl,d,c⟩;cases b
  ·have t:=aB (c rfl);clear d c a;go_wp2
   go_ret;exact⟨k,rfl,t⟩
  ·obtain⟨r,i⟩:=d rfl;have q:=aB i;clear d c a i;go_wp2
   go_roundg j
   case measure=>omega
   case rel=>exact⟨k+1,by omega,r,by go_num,q⟩
def bo_(st:Nat->Option bC)(m:Nat):Prop:=(∃x,st m=some x)/\st (m+1)=none
def K6{fp:eQ}{F:bX}{w:aG}{sb l n:Nat}{j:Obj}{ks:List aE}{a:List Int}{s:bC}{L:List Nat}(v:Good ks)(r:a.length<=17592186044416)(h:Live fp F w sb l j ks a s n L):
 Calls prog 6 #[bH sb] w fun e o=>∃m:Nat,e=aZ (Iv0 m)/\bo_ (bU ks a) m/\∃G g i,Live fp G o sb l j ks a i g L/\FS sb w o:=by
 have D:∃x,bU ks a 0=some x:=by
  have d:=h.ses.now;rcases dI_ s.time with e|e
  ·exact⟨s,by rw[<-e];exact d⟩
  ·obtain⟨x,t,_⟩:=CC (s.time-1) 0 s (by rw[show 0+1+(s.time-1)=s.time by omega];exact d)
   exact⟨x,t⟩
 refine K5 w sb (fun k W=>(∃x,bU ks a k=some x)/\∃G g i,Live fp G W sb l j ks a i g L/\FS sb w W) (fun m W=>bo_ (bU ks a) m/\∃G g i,Live fp G W sb l j ks a i g L/\FS sb w W) ⟨D,F,n,s,h,FS.of_below (co_ _ _) h.ses.lt⟩ (fun k W K H=>?_)
 obtain⟨t,G,g,i,I,z⟩:=H;refine(QA v r I ((k:Int)+1)).mono ?_;rintro e o ⟨b,rfl,A,C,c,y,u,B⟩;refine⟨b,rfl,fun p=>?_,fun p=>?_⟩
 ·rcases u with ⟨_,E,f⟩|⟨q,_⟩
  ·have M:=(v.sta f).1.time;have J:c.time=k+1:=by omega
   exact⟨by omega,⟨c,by rw[<-J];exact f⟩,A,C,c,y,z.trans B⟩
  ·rw[p] at q;cases q
 ·rcases u with ⟨q,_⟩|⟨_,E,f⟩
  ·rw[p] at q;cases q
  ·rcases f with f|f
   ·omega
   ·exact⟨⟨t,by rw[show ((k:Int)+1).toNat=k+1 by omega] at f;exact f⟩,A,C,c,y,z.trans B⟩
attribute [local go_sem] Oper.semAt_some
structure uJ where
 k:Nat
 e:Nat
 ms:List Nat
 g:Nat
 n:Nat
 cap:Nat
 vs:Nat->SV
 w2:aG
def IZ(l U sb:Nat)(s:SV)(W:aG)(Z:World->Prop)(ak:W.cell? (aH U 0)=some (bH sb))(aq:U<W.heap.size)(ap:sb<W.heap.size)
 (k0:W.cell? (aH sb 0)=some (Iv0 s.t)) (k1:W.cell? (aH sb 1)=some (.slice s.x1 s.n1 s.c1)) (k2:W.cell? (aH sb 2)=some (.slice s.x2 s.n2 s.c2)) (k3:W.cell? (aH sb 3)=some (.slice s.x3 s.n3 s.c3)) (k4:W.cell? (aH sb 4)=some (Iv0 s.q))
 (I:Nat->Nat->List Nat->World->Prop) (S:uJ->Prop) (A B:uJ->Nat->World->Prop) (A1:uJ->Nat->Nat->World->Prop) (D E:uJ->World->Prop) (K0:Nat)
 (Y:Hid (I K0 s.t [] ((W.alloc (.cells #[.func (.yield l) #[] #[]] 84)).alloc (.cells s.cells 49))))
 (HI:Hid (∀k e p V,I k e p V->V.cell? (aH U 0)=some (bH sb)/\U<V.heap.size/\(e=0->p.Nodup/\(∀b∈p,V.heap[b]?=some (.deferred (some [])))/\Z (oE V p))/\
   (0<e->Calls prog 37 #[bH sb,Iv0 e] V fun r w2=>∃g n o vs,r=aZ (.slice (some (aH g 0)) (n+1) o)/\S ⟨k,e,p,g,n,o,vs,w2⟩)))
 (HS:Hid (∀x,S x->x.n+1<=1000000/\∀R0,A x x.n (((x.w2.alloc (.cells #[.slice (some (aH x.g 0)) (x.n+1) x.cap] 85)).alloc (.deferred (some []))).alloc (.loop R0))))
 (HA:Hid (∀x i V,A x i V->x.w2.heap.size+1+1<V.heap.size/\V.cell? (aH x.w2.heap.size 0)=some (.slice (some (aH x.g 0)) (x.n+1) x.cap)/\x.g<V.heap.size/\ElS V x.g i (x.vs i)/\A1 x i V.heap.size (V.alloc (.cells (x.vs i).cells 49))))
 (N:Hid (∀x i b V r,A1 x i b V->A1 x i b (V.putObj (x.w2.heap.size+1+1) (.loop r)))) (H:Hid (∀x i V r,B x i V->B x i (V.putObj (x.w2.heap.size+1+1) (.loop r)))) (L:Hid (∀x V r,D x V->D x (V.putObj (x.w2.heap.size+1+1) (.loop r)))) (M:Hid (∀x V r,E x V->E x (V.putObj (x.w2.heap.size+1+1) (.loop r))))
 (HY:Hid (∀x i b V,A1 x i b V->V.heap[b]?=some (.cells (x.vs i).cells 49 (0,0))/\V.cell? (aH W.heap.size 0)=some (.func (.yield l) #[] #[])/\W.heap.size<V.heap.size/\YieldAt Fence.wide 0 prog l #[(x.vs i).val] V fun e V'=>(V'.heap[x.w2.heap.size+1]?=V.heap[x.w2.heap.size+1]?/\V'.heap[x.w2.heap.size+1+1]?=V.heap[x.w2.heap.size+1+1]?)/\((e=aZ (.bool true)/\B x i V')\/(e=aZ (.bool false)/\E x V'))))
 (HB:Hid (∀x i V,B x (i+1) V->A x i V)) (G:Hid (∀x V,B x 0 V->D x V))
 (HD:Hid (∀x V,D x V->V.heap[x.w2.heap.size+1]?=some (.deferred (some []))->x.g<V.heap.size/\ElS V x.g 0 (x.vs 0)/\∃k',k'<x.k/\I k' (x.vs 0).t ((x.w2.heap.size+1)::x.ms) (V.alloc (.cells (x.vs 0).cells 49))))
 (HE:Hid (∀x V,E x V->V.heap[x.w2.heap.size+1]?=some (.deferred (some []))->((x.w2.heap.size+1)::x.ms).Nodup/\(∀b∈(x.w2.heap.size+1)::x.ms,V.heap[b]?=some (.deferred (some [])))/\Z (oE V ((x.w2.heap.size+1)::x.ms)))):
 Calls prog 36 #[.func (.yield l) #[] #[],bH U] W fun e w'=>e=aZ (.tuple #[])/\Z w':=by
 have HT:=aB fun (v:SV) (w:aG)=>nV v.t v.q v.x1 v.x2 v.x3 v.n1 v.n2 v.n3 v.c1 v.c2 v.c3 w
 have z:=aB (HT s);unfold SV.cells at Y;refine(callsIn_wide (n:=0)).1 (callsIn_of_wp_marks func36 rfl trivial ?_ rfl);simp only[ntmps36,dV_,ct_,cA_,Nat.reduceAdd,Nat.reduceSub,Array.replicate_succ,Array.replicate_zero,List.push_toArray,List.append_toArray,dk_,cP_];refine wpIn_wide.2 ?_;go_wp2_with fail;refine(z _).mono ?_;rintro e w1 ⟨rfl,rfl⟩;go_wp2_with fail;clear ak k0 k1 k2 k3 k4 z;refine wp_loop_ghost_k (fun k a V=>∃e p,I k e p V/\∃(u4 u5 u6 u7 u8 u9 u10 u11 u12 u13 u14 u15 u16 u17 u18 u19 u20 u21 u22 u23 u24 u25 u26 u27 u28:aQ),a={ tmps:= #[.func (.yield l) #[] #[],bH U,bH W.heap.size,Iv0 (e:Nat),u4,u5,u6,u7,u8,u9,u10,u11,u12,u13,u14,u15,u16,u17,u18,u19,u20,u21,u22,u23,u24,u25,u26,u27,u28],defers:=p.map mark }) K0 ⟨s.t,[],Y,_,_,_,_,_,_,_,_,_,_,_,_,_,_,_,_,_,_,_,_,_,_,_,_,_,rfl⟩ ?_
 rintro k a V ⟨e,p,hi,u4,u5,u6,u7,u8,u9,u10,u11,u12,u13,u14,u15,u16,u17,u18,u19,u20,u21,u22,u23,u24,u25,u26,u27,u28,rfl⟩ J K hJ hK;obtain⟨c0,l0,h0,X⟩:=HI _ _ _ _ hi;clear hi;by_cases he:e=0
 ·subst he;obtain⟨n1,n2,n3⟩:=h0 rfl;have HL:=aB fun tmps=>(qG (P:=prog) (fn:=f36) (tmps:=tmps) (R:=fun e w'=>e=aZ (.tuple #[])/\Z w') rfl p V n1 n2 ⟨rfl,n3⟩)
  clear h0 X n1 n2 n3;go_wp2_with fail;exact HL _
 ·have aj:=aB (X (by omega))
  have ao:(0:Int)<(e:Int):=by omega
  clear h0 X HI Y;go_wp2_with fail;refine aj.mono ?_;rintro r w2 ⟨g,n,o,vs,rfl,h2⟩;have ae:=aB (OK (some (aH g 0)) (n+1) o w2);clear aj;go_wp2_with fail;refine ae.mono ?_;rintro r w3 ⟨rfl,rfl⟩;clear ae;go_wp2_with fail;obtain⟨g1,m⟩:=HS _ h2;obtain⟨x,C⟩:∃x:uJ,x=⟨k,e,p,g,n,o,vs,w2⟩:=⟨_,rfl⟩;rw[<-C] at m;have xk:x.k=k:=by rw[C]
  have xe:x.e=e:=by rw[C]
  have an:x.ms=p:=by rw[C]
  have xg:x.g=g:=by rw[C]
  have xn:x.n=n:=by rw[C]
  have xc:x.cap=o:=by rw[C]
  have xw:x.w2=w2:=by rw[C]
  clear h2 HS C;subst xk xe an xg xn xc xw;generalize ag:x.w2.alloc (.cells #[.slice (some (aH x.g 0)) (x.n+1) x.cap] 85)=w3 at m ⊢
  have d:w3.heap.size=x.w2.heap.size+1:=by rw[<-ag];simp
  clear ag
  refine wpIn_wide.1 (uY (τ:=Nat) (P:=prog) (gf:=66) (lb:= #[bH x.w2.heap.size]) rfl bG_ (fun i y V=>y= #[Iv0 (i:Nat),SV.val (x.vs i)]/\A x i V) (fun i y V=>B x i V)
   (fun i y a' V=>∃b,y= #[Iv0 (i:Nat),SV.val (x.vs i)]/\a'={ tmps:= #[.func (.yield l) #[] #[],bH U,bH W.heap.size,Iv0 (x.e:Nat),.slice (some (aH x.g 0)) (x.n+1) x.cap,u5,bH b,u7,u8,u9,u10,u11,Iv0 (x.e:Nat),.bool true,bH sb,Iv0 (x.e:Nat),.slice (some (aH x.g 0)) (x.n+1) x.cap,.slice (some (aH x.g 0)) (x.n+1) x.cap,.func (.func 66) #[] #[bH x.w2.heap.size],Iv0 (i:Nat),SV.val (x.vs i),u21,u22,u23,u24,u25,u26,u27,u28],defers:=[] }/\A1 x i b V)
   (fun _ c _ V=>c=.ret/\E x V) (fun V=>D x V) ?hps ?hAx ?hB ?hBx ?hZ ?hassign ?hbody ?hseq ?hdone ?hstop)
  case hps=>rintro i y V ⟨rfl,_⟩;rfl
  case hAx=>rintro i y a' V r ⟨b,X,h2,h5⟩;rw[d];exact⟨b,X,h2,N _ _ _ _ _ h5⟩
  case hB=>intro i y V r h;rw[d];exact H _ _ _ _ h
  case hBx=>rintro _ c y V r ⟨rfl,h⟩;rw[d];exact⟨rfl,M _ _ _ h⟩
  case hZ=>intro V r h;rw[d];exact L _ _ _ h
  case hassign=>
   rintro i y V' K' ⟨rfl,h⟩ ah;obtain⟨q1, -, -, -,q2⟩:=HA _ _ _ h;have ai:=aB (ah _ _ (cq_ _ _ _ (by rw[d];omega)) (cq_ _ _ _ (by rw[d];omega)) ⟨_,rfl,rfl,q2⟩)
   unfold SV.val SV.cells at ai;clear ah q2 h;unfold SV.val;gi_wp2
   exact ai
  case hbody=>
   rintro i y a' V' ⟨b,rfl,rfl,h⟩ F;obtain⟨O,y2,y3,fn,tmps,f,t,hy,hR⟩:=HY _ _ _ _ h;have HR:=aB hR;unfold SV.val at hy;unfold SV.val;unfold SV.cells at O;have d0:=aA (i:=0) O rfl;have d1:=aA (i:=1) O rfl;have d2:=aA (i:=2) O rfl;have d3:=aA (i:=3) O rfl;have d4:=aA (i:=4) O rfl;have l1:=aC O;clear h hR O HA HY N H L M HE HD HB G m;gi_wp2
   refine⟨rfl,(show RoundIn (Fence.wide.inRound (x.w2.heap.size+1+1)) 0 prog l fn tmps f t V' _ from HR).mono ?_⟩
   rintro r V2 ⟨hq,⟨rfl,ab⟩|⟨rfl,ac⟩⟩
   ·have am:=aB ab;clear ab HR hy d0 d1 d2 d3 d4 y2;gi_wp2
    rw[d];exact⟨hq,am⟩
   ·have al:=aB ac;clear ac HR hy d0 d1 d2 d3 d4 y2;gi_wp2
    rw[d];exact⟨hq,rfl,al⟩
  case hseq=>
   intro R0 Rdy Don X h2 h3 h4 h5 hY;rw[d] at X h2 h3 h4 hY ⊢
   have T:=m R0;generalize (w3.alloc (.deferred (some []))).alloc (.loop R0)=V0 at T h5 ⊢
   obtain⟨q1,q2,q3,q4, -⟩:=HA _ _ _ T;refine callsIn_wide.2 ((YJ (x.w2.heap.size+1+1) x.w2.heap.size x.g (x.n+1) x.cap x.vs V0 (fun i V=>Rdy V/\((i=0->D x V)/\∀j,i=j+1->A x j V)) (fun V=>D x V/\Rdy V) (fun V=>∃c,(c=Code.ret/\E x V)/\Don c V) g1 q2 (by omega) ⟨h5,fun h=>by omega,fun j hj=>(show x.n=j by omega)▸T⟩ (fun i V hi u=>?_) (fun V u=>⟨u.2.1 rfl,u.1⟩)).mono ?_)
   ·have ad:=u.2.2 i rfl;obtain⟨q1,q2,q3,q4, -⟩:=HA _ _ _ ad;refine⟨q2,by omega,q3,q4,?_⟩
    obtain⟨fn,tmps,f,t,hy,hr⟩:=hY i _ V ⟨rfl,ad⟩ u.1;refine⟨fn,tmps,f,t,hy,hr.mono ?_⟩;rintro r V' (⟨rfl,hb,hr⟩|⟨rfl,c,⟨rfl,hE⟩,q⟩)
    ·refine cl_ ⟨rfl,hr,fun h=>?_,fun j hj=>?_⟩
     ·subst h;exact G _ _ hb
     ·subst hj;exact HB _ _ _ hb
    ·exact ck_ ⟨rfl,_,⟨rfl,hE⟩,q⟩
   ·rintro r V' ⟨rfl,⟨hd,hr⟩|⟨c,⟨rfl,hE⟩,q⟩⟩
    ·exact⟨⟨_,rfl⟩,cl_ ⟨hd,hr⟩⟩
    ·exact⟨⟨_,rfl⟩,ck_ ⟨0,_,#[],⟨rfl,hE⟩,q⟩⟩
  case hdone=>
   intro V' hd q F;rw[d] at q F ⊢
   obtain⟨p1,⟨e0,e1,e2,e3,e4⟩,k',p2,p3⟩:=HD _ _ hd q;simp only[Nat.zero_mul,c8_] at e0 e1 e2 e3 e4;have Q:=aB p3;have z:=aB (HT (x.vs 0));have af:=aB hJ;have aa:=aB p2;unfold SV.cells at Q;clear hd q p3 HD HE HA HY N H L M HB G m HT;dsimp only[Exit.inBlock,Exit.then]
   go_wp2_with fail;refine(z _).mono ?_;rintro r w4 ⟨rfl,rfl⟩;clear e0 e1 e2 e3 e4 z;go_wp2_with fail
   first
    |exact hK _ _ (Handed.intro k' aa (af _ _ _ ⟨_,_,Q,_,_,_,_,_,_,_,_,_,_,_,_,_,_,_,_,_,_,_,_,_,_,_,_,_,rfl⟩))
    |exact Handed.intro k' aa (af _ _ _ ⟨_,_,Q,_,_,_,_,_,_,_,_,_,_,_,_,_,_,_,_,_,_,_,_,_,_,_,_,_,rfl⟩)
  case hstop=>
   rintro _ c y V' ⟨rfl,hz⟩ q F;rw[d] at q F ⊢
   obtain⟨p1,p2,p3⟩:=HE _ _ hz q;have HL:=aB fun tmps=>(qG (P:=prog) (fn:=f36) (tmps:=tmps) (R:=fun e w'=>e=aZ (.tuple #[])/\Z w') rfl _ V' p1 p2 ⟨rfl,p3⟩)
   clear hz q HE HD HA HY N H L M HB G m p1 p2 p3;refine wpIn_wide.2 ?_;go_wp2_with fail;exact HL _
def bq_{τ:Type}(P:Program)(gf:Nat)(lb:Array Value)(w:aG)(A B:τ->SV->World->Prop)(E Z:τ->World->Prop):Prop:=
 ∀(R0:Loop) (Rdy:World->Prop) (Don:World->Prop),(∀W W',Rdy W->W'.heap[w.heap.size]?=W.heap[w.heap.size]?->W'.heap[w.heap.size+1]?=W.heap[w.heap.size+1]?->Rdy W')->(∀W,Rdy W->w.heap.size+1<W.heap.size)->(∀W W',Don W->W'.heap[w.heap.size]?=W.heap[w.heap.size]?->W'.heap[w.heap.size+1]?=W.heap[w.heap.size+1]?->Don W')->
  Rdy ((w.alloc (.deferred (some []))).alloc (.loop R0))->
  (∀t s W,A t s W->Rdy W->YieldAt Fence.wide 0 P (w.heap.size+1) #[s.val] W fun e W'=>(e=aZ (.bool true)/\B t s W'/\Rdy W')\/(e=aZ (.bool false)/\E t W'/\Don W'))->
  Calls P gf (#[.func (.yield (w.heap.size+1)) #[] #[]]++lb) ((w.alloc (.deferred (some []))).alloc (.loop R0)) fun e W'=>(∃v,e=aZ v)/\((∃t,Z t W'/\Rdy W')\/∃t,E t W'/\Don W')
structure ECx where
 fp:Nat->Value
 sb:Nat
 mb:Nat
 mo:Obj
 ks:List aE
 tape:List Int
 s:bC
 bb:Nat
 bd:Nat
 All:List Nat
 Q:Nat->List Nat->(Nat->Prop)->Nat->World->Prop
 X:List Nat->(Nat->Prop)->Nat->World->Prop
structure ECx.Ok(C:ECx):Prop where
 live:∀{k L F n W},C.Q k L F n W->Live C.fp F W C.sb C.mb C.mo C.ks C.tape C.s n L/\∀b∈C.All,b∈L
 cb:∀{k L F n W},C.Q k L F n W->W.heap[C.bb]?=some (.cells #[bH C.sb] 23 (0,0))
 but:∀{k L L' F n W W'},C.Q k L F n W->But L' W W'->(∀b∈L',b∈L/\C.bd<b)->C.Q k L F n W'
 more:∀{k L L' F n W},C.Q k L F n W->Live C.fp F W C.sb C.mb C.mo C.ks C.tape C.s n L'->(∀b∈C.All,b∈L')->C.Q k L' F n W
 fs:∀{k L F G n n' W W'},C.Q k L F n W->FS C.sb W W'->Live C.fp G W' C.sb C.mb C.mo C.ks C.tape C.s n' L->Ext F G W.heap.size->n<=n'->C.Q k L G n' W'
 xbut:∀{L L' F n W W'},C.X L F n W->But L' W W'->(∀b∈L',b∈L/\C.bd<b)->C.X L F n W'
 xmore:∀{L L' F n W},C.X L F n W->(∀b∈L',b∈L)->(∀b∈C.All,b∈L')->C.X L' F n W
structure Tg where
 L:List Nat
 F:Nat->Prop
 n:Nat
 U:aG
def ECx.S(C:ECx)(t:Tg)(W:aG):Prop:=(∀b∈t.L,W.heap[b]?=t.U.heap[b]?/\C.bd<b)/\∀b,t.F b->W.heap[b]?=t.U.heap[b]?
def ECx.A(C:ECx)(t:Tg)(s':SV)(W:aG):Prop:=∃σ,C.Q (σ.time+1) (t.L++C.All) t.F t.n W/\jT C.fp t.F W s'.val σ/\bU C.ks C.tape σ.time=some σ/\σ.time<C.s.time/\σ.time/20<t.n/\C.S t W
def ECx.B(C:ECx)(t:Tg)(s':SV)(W:aG):Prop:=C.Q s'.t (t.L++C.All) t.F t.n W/\C.S t W
def ECx.E(C:ECx)(t:Tg)(W:aG):Prop:=C.X (t.L++C.All) t.F t.n W/\C.S t W
def ECx.Z(C:ECx)(t:Tg)(W:aG):Prop:=C.Q 0 (t.L++C.All) t.F t.n W
def qI:∀(a:List Nat) (V:aG),But a V (oE V a)
 |[],V=>⟨rfl,rfl,rfl,cL,fun _ _ _=>rfl⟩
 |b::a,V=>by
  have:=(But.put V b (.deferred none)).trans (qI a _);exact this
def sR:∀(c:List Nat) (V:aG) (b:Nat),b∉c->(oE V c).heap[b]?=V.heap[b]?
 |[],_,_,_=>rfl
 |a::c,V,b,h=>by
  rw[cv_,not_or] at h;exact(sR c _ b h.2).trans (World.putObj_heap_other h.1)
structure EaI(C:ECx)(wb:Nat)(Rdy:World->Prop)(L:List Nat)(e:Nat)(ms:List Nat)(F:bX)(n:Nat)(V:aG):Prop where
 q:C.Q e L F n V
 mem:∀b∈ms++wb::C.All,b∈L
 nd:ms.Nodup
 mrk:∀b∈ms,V.heap[b]?=some (.deferred (some []))/\C.bd<b
 box:V.heap[wb]?=some (.cells #[.func (.yield C.bd) #[] #[]] 84 (0,0))
 rdy:Rdy V
def uJ.bl(x:uJ)(wb:Nat):List Nat:=x.g::x.w2.heap.size::(x.w2.heap.size+1)::(x.w2.heap.size+1+1)::(x.ms++[wb])
def uJ.t0(x:uJ):Nat:=20*((x.e-1)/20)
structure ZS(C:ECx)(wb:Nat)(Rdy:World->Prop)(x:uJ)(L:List Nat)(k:Nat)(F:bX)(n:Nat)(V:aG):Prop where
 i:EaI C wb Rdy L k x.ms F n V
 mem:∀b∈x.bl wb++C.All,b∈L
 ar:x.k=x.e/\x.e<=C.s.time/\x.t0+(x.n+1)=x.e
 sl:V.heap[x.w2.heap.size]?=some (.cells #[.slice (some (aH x.g 0)) (x.n+1) x.cap] 85 (0,0))
 st:∀i,i<=x.n->∃τ,bU C.ks C.tape (x.t0+i)=some τ/\jT C.fp F V (x.vs i).val τ/\ElS V x.g i (x.vs i)
 hn:(x.t0+x.n)/20<n
 lo:(∀b∈x.ms,b<x.w2.heap.size)/\wb<x.w2.heap.size/\C.bd<x.g/\x.g<x.w2.heap.size
section
variable {C:ECx} {wb:Nat} {Rdy:World->Prop} {x:uJ} {L L':List Nat} {k k':Nat} {F:bX} {n:Nat} {V V':aG}
def ZS.same(h:ZS C wb Rdy x L k F n V)(l:C.Q k' L' F n V')(g:∀b∈x.bl wb++C.All,b∈L')(f:∀b∈x.g::x.w2.heap.size::wb::x.ms,V'.heap[b]?=V.heap[b]?)(r:∀b,F b->V'.heap[b]?=V.heap[b]?)(o:Rdy V'):ZS C wb Rdy x L' k' F n V':=by
 refine⟨⟨l,fun b a=>g b ?_,h.i.nd,fun b a=>⟨by rw[f b (by simp[a])];exact(h.i.mrk b a).1,(h.i.mrk b a).2⟩,by rw[f wb (by simp)];exact h.i.box,o⟩,g,h.ar,by rw[f _ (by simp)];exact h.sl,fun i q=>?_,h.hn,h.lo⟩
 ·simp only[uJ.bl,cu_,cv_,cD_,or_false] at a ⊢
  rcases a with c|c|c
  ·exact cl_ (ck_ (ck_ (ck_ (ck_ (cl_ c)))))
  ·exact cl_ (ck_ (ck_ (ck_ (ck_ (ck_ c)))))
  ·exact ck_ c
 ·obtain⟨p,c,m,d⟩:=h.st i q;have e:∀j,V'.cell? (aH x.g j)=V.cell? ⟨x.g,j,none⟩:=fun j=>World.cell?_of_block (f x.g (by simp))
  exact⟨p,c,m.keep r dX,⟨by rw[e];exact d.c0,by rw[e];exact d.c1,by rw[e];exact d.c2,by rw[e];exact d.c3,by rw[e];exact d.c4⟩⟩
def ZS.lt(a:C.Ok)(h:ZS C wb Rdy x L k F n V){b:Nat}(c:b∈x.bl wb++C.All):b<V.heap.size:=((a.live h.i.q).1.loc b (h.mem b c)).2.1
def ZS.up(h:ZS C wb Rdy x L k F n V)(c:C.bd<wb){b:Nat}(a:b∈x.bl wb):C.bd<b:=by
 obtain⟨g,e,d,f⟩:=h.lo;simp only[uJ.bl,cu_,cv_,cD_,or_false] at a;rcases a with rfl|rfl|rfl|rfl|a|rfl
 ·exact d
 ·omega
 ·omega
 ·omega
 ·exact(h.i.mrk b a).2
 ·exact c
def ZS.putL(d:C.Ok)(h:ZS C wb Rdy x L k F n V)(f:C.bd<wb)(o:Obj)(g:Rdy (V.putObj (x.w2.heap.size+1+1) o)):ZS C wb Rdy x L k F n (V.putObj (x.w2.heap.size+1+1) o):=by
 have c:x.w2.heap.size+1+1∈x.bl wb:=by simp[uJ.bl]
 obtain⟨i,j,m,l⟩:=h.lo;refine h.same (d.but h.i.q (But.put _ _ _) fun b a=>by rw[cs_.1 a];exact⟨h.mem _ (cC_ _ c),h.up f c⟩) h.mem (fun b a=>World.putObj_heap_other ?_) (fun b a=>World.putObj_heap_other fun e=>?_) g
 ·simp only[cv_] at a;rcases a with rfl|rfl|rfl|a
  ·omega
  ·omega
  ·omega
  ·have:=i b a;omega
 ·exact((d.live h.i.q).1.loc _ (h.mem _ (cC_ _ c))).2.2.1 (e▸a)
end
def IU{C:ECx}(p:C.Ok)(hg:Good C.ks)(bq:C.tape.length<=17592186044416){F:bX}{n:Nat}(W0:aG)(aj:C.bd=W0.heap.size+1)(W:W0.heap.size∈C.All/\W0.heap.size+1∈C.All)
 (hM:∀R0,C.Q C.s.time C.All F n ((W0.alloc (.deferred (some []))).alloc (.loop R0))):
 bq_ prog 36 #[bH C.bb] W0 C.A C.B C.E C.Z:=by
 intro R0 Rdy Don hR ca bk bc hY;have K:=hM R0;have aq:((W0.alloc (.deferred (some []))).alloc (.loop R0)).heap.size=C.bd+1:=by rw[aj];simp
 generalize (W0.alloc (.deferred (some []))).alloc (.loop R0)=f at K bc aq ⊢
 obtain⟨U,cb⟩:=p.live K;have an:=U.ses.now;have bv:=(hg.sta an).1.time;obtain⟨s1,bn,k0,k1,k2,k3,k4,_⟩:=U.ses.cells
 have bb:s1.t=C.s.time:=by
  obtain⟨s2,e1,e2,_⟩:=bn.sv;obtain rfl:=SV.val_inj e1;exact e2
 have ba:=p.cb K;have A:∀{V P:aG},Rdy V->(∀b∈C.All,b<=C.bd->P.heap[b]?=V.heap[b]?)->Rdy P:=fun {V P} h O=>hR V P h (O _ W.1 (by omega)) (O _ W.2 (by omega))
 have ap:∀{V P:aG},Don V->(∀b∈C.All,b<=C.bd->P.heap[b]?=V.heap[b]?)->Don P:=fun {V P} h O=>bk V P h (O _ W.1 (by omega)) (O _ W.2 (by omega))
 have I:∀{V:aG} (b:Nat) (o:Obj),C.bd<b->∀c∈C.All,c<=C.bd->(V.putObj b o).heap[c]?=V.heap[c]?:=fun b o a c _ X=>World.putObj_heap_other (by omega)
 rw[<-aj] at hY ⊢
 refine(IZ C.bd C.bb C.sb s1 f (fun V=>(∃t,C.Z t V/\Rdy V)\/∃t,C.E t V/\Don V) (aA ba rfl) (aC ba) U.ses.lt k0 k1 k2 k3 k4
  (fun k e ms V=>k=e/\e<=C.s.time/\∃F n,EaI C f.heap.size Rdy (ms++f.heap.size::C.All) e ms F n V)
  (fun x=>∃V F n F' n' E,EaI C f.heap.size Rdy (x.ms++f.heap.size::C.All) x.e x.ms F n V/\x.k=x.e/\x.e<=C.s.time/\0<x.e/\E.length=x.n+1/\(∀i v,E[i]?=some v->x.vs i=v)/\x.t0+E.length=x.e/\be_ C.fp C.sb C.mb C.mo C.ks C.tape C.s (x.ms++f.heap.size::C.All) V F n x.t0 F' n' E (some (aH x.g 0)) x.cap x.w2)
  (fun x i V=>i<=x.n/\∃F n,ZS C f.heap.size Rdy x (x.bl f.heap.size++C.All) (x.t0+i+1) F n V)
  (fun x i V=>i<=x.n/\∃F n,ZS C f.heap.size Rdy x (x.bl f.heap.size++C.All) (x.t0+i) F n V)
  (fun x i b V=>i<=x.n/\V.heap[b]?=some (.cells (x.vs i).cells 49 (0,0))/\x.w2.heap.size+1+1<b/\∃F n,ZS C f.heap.size Rdy x (b::(x.bl f.heap.size++C.All)) (x.t0+i+1) F n V)
  (fun x V=>∃F n,ZS C f.heap.size Rdy x (x.bl f.heap.size++C.All) x.t0 F n V)
  (fun x V=>Don V/\x.ms.Nodup/\C.bd<x.w2.heap.size/\(∀b∈x.ms,V.heap[b]?=some (.deferred (some []))/\C.bd<b/\b<x.w2.heap.size)/\∃F n,C.X (x.bl f.heap.size++C.All) F n V)
  s1.t ?_ (fun k e ms V hI=>?_) (fun x S=>?_) (fun x i V J=>?_) (fun x i b V r J=>?_) (fun x i V r hB=>?_) (fun x V r hD=>?_) (fun x V r hE=>?_) (fun x i b V J=>?_) (fun x i V hB=>?_) (fun x V hB=>?_) (fun x V hD hd=>?_) (fun x V hE hd=>?_)).mono ?_
 ·generalize ae:(f.alloc (.cells #[.func (.yield C.bd) #[] #[]] 84)).alloc (.cells s1.cells 49)=Ws;have ag:But [] f Ws:=by rw[<-ae];exact(But.alloc f _ []).trans (But.alloc _ _ [])
  have bm:Ws.heap[f.heap.size]?=some (.cells #[.func (.yield C.bd) #[] #[]] 84 (0,0)):=by rw[<-ae];exact(cq_ _ _ _ (by simp)).trans (aO _ _ rfl _)
  have az:=(U.alloc (.cells #[.func (.yield C.bd) #[] #[]] 84)).alloc (.cells s1.cells 49);rw[ae] at az;rw[bb];refine⟨rfl,cL,F,n,p.more (p.but K ag pV) (az.drop fun b a=>cx_ _ a) (fun b a=>by simp[a]),fun b a=>a,List.nodup_nil,pV,bm,A bc fun b _ a=>ag.blk b (by omega) (by simp)⟩
 ·obtain⟨rfl,he,F,n,h⟩:=hI;obtain⟨G,J⟩:=p.live h.q;have X:=p.cb h.q;refine⟨aA X rfl,aC X,fun O=>?_,fun O=>?_⟩
  ·subst O;have s:=qI ms V;have bj:∀b∈ms,b∈ms++f.heap.size::C.All:=fun b a=>cC_ _ a
   refine⟨h.nd,fun b a=>(h.mrk b a).1,cl_ ⟨⟨[],F,n,V⟩,?_,A h.rdy fun b a M=>s.blk b (G.loc b (J b a)).2.1 fun K=>by have:=(h.mrk b K).2;omega⟩⟩
   have z:=p.but h.q s fun b a=>⟨bj b a,(h.mrk b a).2⟩
   exact p.more z ((p.live z).1.drop fun b a=>by simp at a;simp[a]) (fun b a=>by simpa using a)
  ·refine(PJ hg bq G k O he (by have:=G.count hg;omega)).mono ?_
   rintro r w2 ⟨E,y,d,rfl,q,F',n',h2⟩;have bu:0<E.length:=by omega
   rcases h2.own.2 with ⟨r1,r2⟩|⟨g,ce,bw,r1,_⟩
   ·omega
   ·cases r1;obtain⟨m,am⟩:∃m,E.length=m+1:=⟨E.length-1,by omega⟩
    exact⟨g,m,d,fun i=>(E[i]?).getD mF,by rw[am],V,F,n,F',n',E,h,rfl,he,O,am,fun i v Q=>by simp[Q],q,h2⟩
 ·obtain⟨V,F,n,F',n',E,h,bf,bi,bx,br,bg,al,z⟩:=S;have aa:=z.live.drop (L':=x.ms++f.heap.size::C.All) fun b a=>cI_ _ a
  have bl:=p.fs h.q z.fs aa z.ext z.le;obtain⟨G,J⟩:=p.live h.q;have bt:∀b∈x.ms++f.heap.size::C.All,x.w2.heap[b]?=V.heap[b]?:=fun b a=>G.blk z.fs a
  have Y:=z.live.loc x.g (by simp[rD,Value.ownBlock])
  have bz:V.heap.size<=x.g:=(z.own.lt x.g (by simp[Value.ownBlock])).1
  have cg:f.heap.size<V.heap.size:=(G.loc f.heap.size (by simp)).2.1
  have cf:=z.fs.size
  have w:∀i v j u,E[i]?=some v->j<5->([Iv0 v.t,.slice v.x1 v.n1 v.c1,.slice v.x2 v.n2 v.c2,.slice v.x3 v.n3 v.c3,Iv0 v.q]:List Value)[j]?=some u->x.w2.cell? (aH x.g (i*5+j))=some u:=fun i v j u Q hj hu=>by
   have:=z.own.cells (g:=x.g) rfl (i*5+j) u (by rw[LB E i j v Q hj];exact hu)
   rwa [oZ] at this
  refine⟨by unfold uJ.t0 at al;omega,fun R1=>⟨cy_ _,F',n',?_⟩⟩
  have cd:=((aa.alloc (.cells #[.slice (some (aH x.g 0)) (x.n+1) x.cap] 85)).alloc (.deferred (some []))).alloc (.loop R1);have ad:=((z.live.alloc (.cells #[.slice (some (aH x.g 0)) (x.n+1) x.cap] 85)).alloc (.deferred (some []))).alloc (.loop R1);have s:But [] x.w2 (((x.w2.alloc (.cells #[.slice (some (aH x.g 0)) (x.n+1) x.cap] 85)).alloc (.deferred (some []))).alloc (.loop R1)):=((But.alloc x.w2 _ []).trans (But.alloc _ _ [])).trans (But.alloc _ _ [])
  have ao:(((x.w2.alloc (.cells #[.slice (some (aH x.g 0)) (x.n+1) x.cap] 85)).alloc (.deferred (some []))).alloc (.loop R1)).heap[x.w2.heap.size]?=some (.cells #[.slice (some (aH x.g 0)) (x.n+1) x.cap] 85 (0,0)):=by
   rw[cq_ _ _ _ (by simp only[World.size_alloc];omega),cq_ _ _ _ (by simp only[World.size_alloc];omega)];exact aO _ _ rfl _
  simp only[World.size_alloc] at ad;generalize ((x.w2.alloc (.cells #[.slice (some (aH x.g 0)) (x.n+1) x.cap] 85)).alloc (.deferred (some []))).alloc (.loop R1)=V2 at ad s ao ⊢
  have ai:∀b,b<x.w2.heap.size->V2.heap[b]?=x.w2.heap[b]?:=fun b a=>s.blk b a (by simp)
  have ak:∀b∈x.ms++f.heap.size::C.All,b<x.w2.heap.size:=fun b a=>(aa.loc b a).2.1
  have ac:∀b∈x.ms++f.heap.size::C.All,V2.heap[b]?=V.heap[b]?:=fun b a=>(ai b (ak b a)).trans (bt b a)
  have au:∀b∈x.bl f.heap.size++C.All,b∈(x.w2.heap.size+1+1)::(x.w2.heap.size+1)::x.w2.heap.size::(rD (some (aH x.g 0)) E.length x.cap++(x.ms++f.heap.size::C.All)):=fun b a=>by
   simp only[uJ.bl,rD,Value.ownBlock,Option.toList,cu_,cv_,cD_,or_false] at a ⊢
   rcases a with (h|h|h|h|h|h)|h<;>simp[h]
  have ay:=ad.drop au;have ax:x.t0+(x.n+1)=x.e:=by rw[<-br];exact al
  have bp:C.Q x.e (x.bl f.heap.size++C.All) F' n' V2:=p.more (p.but bl s pV) ay (fun b a=>cI_ _ a)
  have bo:C.bd<x.g:=by omega
  refine⟨⟨(by rw[show x.t0+x.n+1=x.e by omega];exact bp),fun b a=>?_,h.nd,fun b a=>⟨by rw[ac b (cC_ _ a)];exact(h.mrk b a).1,(h.mrk b a).2⟩,by rw[ac _ (by simp)];exact h.box,A h.rdy fun b a _=>ac b (by simp[a])⟩,fun _ h=>h,⟨bf,bi,ax⟩,ao,fun i L=>?_,?_,fun b a=>ak b (cC_ _ a),by omega,bo,Y.2.1⟩
  ·simp only[uJ.bl,cu_,cv_,cD_,or_false] at a ⊢
   rcases a with q|q|q<;>simp[q]
  ·obtain⟨τ,a1,a2⟩:=z.all i (by omega)
   have Q:=cz_ (l:=E) (i:=i) (by omega)
   rw[bg i _ Q];have X:∀j,V2.cell? (aH x.g j)=x.w2.cell? ⟨x.g,j,none⟩:=fun j=>World.cell?_of_block (ai x.g Y.2.1)
   exact⟨τ,a1,a2.but z.live s pV,⟨by rw[X];exact w i _ 0 _ Q (by omega) rfl,by rw[X];exact w i _ 1 _ Q (by omega) rfl,by rw[X];exact w i _ 2 _ Q (by omega) rfl,by rw[X];exact w i _ 3 _ Q (by omega) rfl,by rw[X];exact w i _ 4 _ Q (by omega) rfl⟩⟩
  ·have:=ay.hn;omega
 ·obtain⟨L,F,n,h⟩:=J;obtain⟨τ,a1,a2,a3⟩:=h.st i L;obtain⟨G,J⟩:=p.live h.i.q;have ah:=h.lt p (b:=x.w2.heap.size+1+1) (by simp[uJ.bl])
  refine⟨ah,aA h.sl rfl,h.lt p (by simp[uJ.bl]),a3,L,aO _ _ rfl _,ah,F,n,?_⟩
  refine h.same (p.more (p.but h.i.q (But.alloc _ _ []) pV) (G.alloc _) fun b a=>by simp[a]) (fun b a=>cx_ _ a) (fun b a=>cq_ _ _ _ (h.lt p ?_)) (fun b a=>cq_ _ _ _ (G.ses.fix b a).1) (A h.i.rdy fun b a _=>cq_ _ _ _ (G.loc b (J b a)).2.1)
  simp only[uJ.bl,cu_,cv_,cD_,or_false] at a ⊢
  rcases a with q|q|q|q<;>simp[q]
 ·obtain⟨L,af,ar,F,n,h⟩:=J;have B:=h.up (by omega) (b:=x.w2.heap.size+1+1) (by simp[uJ.bl])
  exact⟨L,by rw[World.putObj_heap_other (by omega)];exact af,ar,F,n,h.putL p (by omega) _ (A h.i.rdy (I _ _ B))⟩
 ·obtain⟨L,F,n,h⟩:=hB;have B:=h.up (by omega) (b:=x.w2.heap.size+1+1) (by simp[uJ.bl])
  exact⟨L,F,n,h.putL p (by omega) _ (A h.i.rdy (I _ _ B))⟩
 ·obtain⟨F,n,h⟩:=hD;have B:=h.up (by omega) (b:=x.w2.heap.size+1+1) (by simp[uJ.bl])
  exact⟨F,n,h.putL p (by omega) _ (A h.i.rdy (I _ _ B))⟩
 ·obtain⟨q,h2,h3,h4,F,n,h5⟩:=hE;exact⟨ap q (I _ _ (by omega)),h2,h3,fun b a=>⟨by rw[World.putObj_heap_other (by have:=(h4 b a).2.2;omega)];exact(h4 b a).1,(h4 b a).2⟩,F,n,p.xbut h5 (But.put _ _ _) fun b a=>by rw[cs_.1 a];exact⟨by simp[uJ.bl],by omega⟩⟩
 ·obtain⟨L,af,ar,F,n,h⟩:=J;obtain⟨τ,a1,a2,a3⟩:=h.st i L;have D:=(hg.sta a1).2.1;obtain⟨G,J⟩:=p.live h.i.q
  have N:(x.vs i).t=x.t0+i:=by
   obtain⟨s2,e1,e2,_⟩:=a2.sv;obtain rfl:=SV.val_inj e1;rw[e2,D]
  have be:=h.ar;have cc:=h.hn;have bh:C.A ⟨x.bl f.heap.size,F,n,V⟩ (x.vs i) V:=⟨τ,by rw[D];exact p.more h.i.q (G.drop fun b a=>cx_ _ a) (fun b a=>cI_ _ a),a2,by rw[D];exact a1,by rw[D];omega,by rw[D];show (x.t0+i)/20<n;omega,fun b a=>⟨rfl,h.up (by omega) a⟩,fun _ _=>rfl⟩
  refine⟨af,aA h.i.box rfl,aC h.i.box,?_⟩;obtain⟨fn,aw,T,av,hy,hr⟩:=hY _ _ V bh h.i.rdy;refine⟨fn,aw,T,av,hy,hr.mono ?_⟩
  have bd:∀b∈x.g::x.w2.heap.size::f.heap.size::x.ms,b∈x.bl f.heap.size:=fun b a=>by
   simp only[uJ.bl,cu_,cv_,cD_,or_false] at a ⊢
   rcases a with q|q|q|q<;>simp[q]
  rintro e P (⟨rfl,⟨hB,S⟩,Z⟩|⟨rfl,⟨hE,S⟩,Z⟩)
  ·refine⟨⟨(S.1 _ (by simp[uJ.bl])).1,(S.1 _ (by simp[uJ.bl])).1⟩,cl_ ⟨rfl,L,F,n,h.same (by rw[<-N];exact hB) dX (fun b a=>(S.1 b (bd b a)).1) S.2 Z⟩⟩
  ·refine⟨⟨(S.1 _ (by simp[uJ.bl])).1,(S.1 _ (by simp[uJ.bl])).1⟩,ck_ ⟨rfl,Z,h.i.nd,by have:=h.lo;omega,fun b a=>⟨by rw[(S.1 b (bd b (by simp[a]))).1];exact(h.i.mrk b a).1,(h.i.mrk b a).2,h.lo.1 b a⟩,F,n,hE⟩⟩
 ·obtain⟨L,F,n,h⟩:=hB;exact⟨by omega,F,n,h⟩
 ·obtain⟨L,F,n,h⟩:=hB;exact⟨F,n,h⟩
 ·obtain⟨F,n,h⟩:=hD;obtain⟨τ,a1,a2,a3⟩:=h.st 0 (cU_ _)
  have N:(x.vs 0).t=x.t0:=by
   obtain⟨s2,e1,e2,_⟩:=a2.sv;obtain rfl:=SV.val_inj e1;rw[e2,(hg.sta a1).2.1];rfl
  have be:=h.ar;obtain⟨G,J⟩:=p.live h.i.q;have s:But [] V (V.alloc (.cells (x.vs 0).cells 49)):=But.alloc _ _ []
  have H:∀b∈((x.w2.heap.size+1)::x.ms)++f.heap.size::C.All,b∈x.bl f.heap.size++C.All:=fun b a=>by
   simp only[uJ.bl,cu_,cv_,cD_,or_false] at a ⊢
   rcases a with (q|q)|q|q<;>simp[q]
  have ab:∀b∈((x.w2.heap.size+1)::x.ms)++f.heap.size::C.All,b<V.heap.size:=fun b a=>h.lt p (H b a)
  refine⟨h.lt p (by simp[uJ.bl]),a3,x.t0,by omega,N.symm,by rw[N];omega,F,n,?_,fun _ h=>h,?_,fun b a=>?_,?_,A h.i.rdy fun b a _=>s.blk b (G.loc b (J b a)).2.1 (by simp)⟩
  ·rw[N];have z:=p.but h.i.q s pV;exact p.more z ((p.live z).1.drop H) fun b a=>by simp[a]
  ·refine cB_.2 ⟨fun K=>?_,h.i.nd⟩
   have:=h.lo.1 _ K;omega
  ·rcases cv_.1 a with rfl|M
   ·exact⟨by rw[cq_ _ _ _ (ab _ (by simp))];exact hd,by have:=h.lo;omega⟩
   ·exact⟨by rw[cq_ _ _ _ (ab _ (by simp[M]))];exact(h.i.mrk b M).1,(h.i.mrk b M).2⟩
  ·rw[cq_ _ _ _ (ab _ (by simp))];exact h.i.box
 ·obtain⟨q,h2,h3,h4,F,n,h5⟩:=hE;have s:=qI ((x.w2.heap.size+1)::x.ms) V
  have B:∀b∈(x.w2.heap.size+1)::x.ms,C.bd<b:=fun b a=>by
   rcases cv_.1 a with rfl|a
   ·omega
   ·exact(h4 b a).2.1
  have H:∀b∈(x.w2.heap.size+1)::x.ms,b∈x.bl f.heap.size++C.All:=fun b a=>by
   simp only[uJ.bl,cu_,cv_,cD_,or_false] at a ⊢
   rcases a with q|q<;>simp[q]
  refine⟨cB_.2 ⟨fun K=>by have:=(h4 _ K).2.2;omega,h2⟩,fun b a=>?_,ck_ ⟨⟨[],F,n,oE V ((x.w2.heap.size+1)::x.ms)⟩,⟨p.xmore (p.xbut h5 s fun b a=>⟨H b a,B b a⟩) (fun b a=>cI_ _ (by simpa using a)) (fun b a=>by simpa using a),pV,fun _ _=>rfl⟩,?_⟩⟩
  ·rcases cv_.1 a with rfl|a
   ·exact hd
   ·exact(h4 b a).1
  ·exact ap q fun b _ M=>sR _ _ _ fun K=>by have:=B b K;omega
 ·rintro e W' ⟨rfl,h⟩;exact⟨⟨_,rfl⟩,h⟩
end Go.Proofs.YtmjbnmpamlainaaGreatDoor
