/- A range over a function whose rounds the function itself knows: the law, where no fence stands. -/
import Derived.Test.YtblbkfdhjfppkaaGreatDoorB07
import Derived.Test.YtblbkfdhjfppkaaGreatDoorP02
set_option maxRecDepth 100000
set_option maxHeartbeats 4000000
namespace Go.Proofs.YtblbkfdhjfppkaaGreatDoor
open Hs
open Tryz(prog)
open Go.RowKit
def SP{τ:Type}(t:τ)(D:Nat)(B:τ->Array Value->World->Prop)(Bx:Code->Array Value->World->Prop)(x:Array Value)(W:World):Exit->Act->World->Prop
 |.normal,_,W'=>(W'.heap[D]?=W.heap[D]?/\W'.heap[D+1]?=W.heap[D+1]?)/\B t x W'
 |.ret,_,W'=>(W'.heap[D]?=W.heap[D]?/\W'.heap[D+1]?=W.heap[D+1]?)/\Bx .ret x W'
 |.exit id,_,W'=>(W'.heap[D]?=W.heap[D]?/\W'.heap[D+1]?=W.heap[D+1]?)/\Bx (.exit id) x W'
 |_,_,_=>False
theorem SQ{τ:Type}{P:Program}{g:Operand}{ps:Array Tmp}{assign body:Code}{Q:Exit->Act->World->Prop}{a:Act}{w:World}{gf:Nat}{lb:Array Value}
 (hg:a.eval g=.func (.func gf) #[] lb) (eg:∀args w,(callFunc gf args).run P w=.ok (.enter gf args) w)
 (A B:τ->Array Value->World->Prop) (Ax:τ->Array Value->Act->World->Prop) (Bx:Code->Array Value->World->Prop) (Z:World->Prop) (hps:∀t x W,A t x W->x.size=ps.size)
 (hAx:∀t x a' W r,Ax t x a' W->Ax t x a' (W.putObj (w.heap.size+1) (.loop r))) (hB:∀t x W r,B t x W->B t x (W.putObj (w.heap.size+1) (.loop r))) (hBx:∀c x W r,Bx c x W->Bx c x (W.putObj (w.heap.size+1) (.loop r))) (hZ:∀W r,Z W->Z (W.putObj (w.heap.size+1) (.loop r)))
 (hassign:∀t x W (K:Act->World->Prop),A t x W->(∀a' W',W'.heap[w.heap.size]?=W.heap[w.heap.size]?->W'.heap[w.heap.size+1]?=W.heap[w.heap.size+1]?->Ax t x a' W'->K a' W')->
   assign.wpIn (Fence.wide.inRound (w.heap.size+1)) 0 P (Exit.then K (fun _ _ _=>False)) { tmps:=(ps.zip x).foldl (fun t (p,v)=>t.setIfInBounds p v) a.tmps,defers:=[] } W)
 (hbody:∀t x a' W,Ax t x a' W->w.heap.size+1<W.heap.size->body.wpIn (Fence.wide.inRound (w.heap.size+1)) 0 P (SP t w.heap.size B Bx x W) a' W)
 (hseq:∀(R0:Loop) (Rdy:World->Prop) (Don:Code->World->Prop),(∀W W',Rdy W->W'.heap[w.heap.size]?=W.heap[w.heap.size]?->W'.heap[w.heap.size+1]?=W.heap[w.heap.size+1]?->Rdy W')->(∀W,Rdy W->w.heap.size+1<W.heap.size)->(∀c W W',Don c W->W'.heap[w.heap.size]?=W.heap[w.heap.size]?->W'.heap[w.heap.size+1]?=W.heap[w.heap.size+1]?->Don c W')->(∀c W,Don c W->w.heap.size+1<W.heap.size)->
   Rdy ((w.alloc (.deferred (some []))).alloc (.loop R0))->
   (∀t x W,A t x W->Rdy W->YieldAt Fence.wide 0 P (w.heap.size+1) x W fun e W'=>(e=.returned (.bool true)/\B t x W'/\Rdy W')\/(e=.returned (.bool false)/\∃c,Bx c x W'/\Don c W'))->
   CallsIn Fence.wide 0 P gf (#[.func (.yield (w.heap.size+1)) #[] #[]]++lb) ((w.alloc (.deferred (some []))).alloc (.loop R0)) fun e W'=>(∃v,e=.returned v)/\((Z W'/\Rdy W')\/∃c x,Bx c x W'/\Don c W'))
 (hdone:∀W,Z W->W.heap[w.heap.size]?=some (.deferred (some []))->w.heap.size+1<W.heap.size->Q .normal { a with defers:={ target:=.collected w.heap.size,args:= #[] }::a.defers } W)
 (hstop:∀c x W,Bx c x W->W.heap[w.heap.size]?=some (.deferred (some []))->w.heap.size+1<W.heap.size->c.wpIn Fence.wide 0 P Q { a with defers:={ target:=.collected w.heap.size,args:= #[] }::a.defers } W):
 (Code.rangeFunc g ps assign body).wpIn Fence.wide 0 P Q a w:=by
 refine wpIn_rangeFunc ?_;intro fn hfn;obtain⟨rec,hrec⟩:∃rec:LoopState->Option Code->Loop,rec=fun st pe=>{ state:=st,pending:=pe,fn,tmps:=a.tmps,params:=ps,assign,body,defers:=w.heap.size }:=⟨_,rfl⟩
 obtain⟨W1,hW1⟩:∃W1,(w.alloc (.deferred (some []))).alloc (.loop (rec .ready none))=W1:=⟨_,rfl⟩
 have hL1:W1.heap[w.heap.size+1]?=some (.loop (rec .ready none)):=by
  rw[<-hW1];have:=World.alloc_heap_new (w.alloc (.deferred (some []))) (.loop (rec .ready none));rwa [World.size_alloc] at this
 have hK1:W1.heap[w.heap.size]?=some (.deferred (some [])):=by
  rw[<-hW1];exact(o9 _ _ _ (by simp)).trans (World.alloc_heap_new w _)
 refine⟨w.heap.size+1,[{ target:=.collected w.heap.size,args:= #[] }],W1,{ target:=.fn (.func gf) lb,args:= #[.func (.yield (w.heap.size+1)) #[] #[]] },W1,gf,
  #[.func (.yield (w.heap.size+1)) #[] #[]]++lb,W1,?_,?_,fun _ _=>trivial,?_,fun h=>by simp[Fence.wide] at h,?_⟩
 ·rw[<-hW1,hrec];exact run_enterLoop_outer _ _ _ _ _
 ·simp only[resolve,hg];simp[go_sem]
 ·simp[invoke,go_sem,eg]
 ·have hs:=hseq (rec .ready none) (fun W=>W.heap[w.heap.size+1]?=some (.loop (rec .ready none))/\W.heap[w.heap.size]?=some (.deferred (some [])))
   (fun c W=>W.heap[w.heap.size+1]?=some (.loop (rec .done (some c)))/\W.heap[w.heap.size]?=some (.deferred (some [])))
   (fun W W' h e1 e2=>⟨by rw[e2];exact h.1,by rw[e1];exact h.2⟩) (fun W h=>(ao_.1 h.1).1) (fun c W W' h e1 e2=>⟨by rw[e2];exact h.1,by rw[e1];exact h.2⟩) (fun c W h=>(ao_.1 h.1).1)
  rw[hW1] at hs;refine(hs ⟨hL1,hK1⟩ ?_).mono ?_
  ·rintro t x W hax ⟨hl,hk⟩;have hy:=run_yield (P:=P) (args:=x) hl (by rw[hrec];exact hps t x W hax)
   rw[hrec] at hy;refine⟨fn,_,assign,body,hy,roundIn_of_wpIn hfn (hassign t x W _ hax ?_)⟩;clear hy;intro a' Wa e1 e2 hax';rw[<-e2] at hl;rw[<-e1] at hk;have hlt:w.heap.size+1<Wa.heap.size:=(ao_.1 hl).1;refine⟨_,run_beginRound hl (by rw[hrec]),?_⟩
   have hl2:(Wa.putObj (w.heap.size+1) (.loop { rec .ready none with state:=.busy })).heap[w.heap.size+1]?=some (.loop { rec .ready none with state:=.busy }):=World.putObj_heap_same hlt
   have hk2:(Wa.putObj (w.heap.size+1) (.loop { rec .ready none with state:=.busy })).heap[w.heap.size]?=some (.deferred (some [])):=(World.putObj_heap_other (by omega)).trans hk
   refine wpIn_mono (hbody t x a' _ (hAx _ _ _ _ _ hax') (ao_.1 hl2).1) ?_
   have fin:∀(jump:Option Code) (W3:World),W3.heap[w.heap.size]?=some (.deferred (some []))->W3.heap[w.heap.size+1]?=some (.loop { rec .ready none with state:=.busy })->
    (Instr.endRound (w.heap.size+1) jump).run P W3=.ok (.bool jump.isNone) (W3.putObj (w.heap.size+1) (.loop (rec (if jump.isNone then .ready else .done) jump)))/\
    (W3.putObj (w.heap.size+1) (.loop (rec (if jump.isNone then .ready else .done) jump))).heap[w.heap.size+1]?=some (.loop (rec (if jump.isNone then .ready else .done) jump))/\
    (W3.putObj (w.heap.size+1) (.loop (rec (if jump.isNone then .ready else .done) jump))).heap[w.heap.size]?=some (.deferred (some [])):=fun jump W3 hk3 hl3=>by
    have:=run_endRound (P:=P) jump hl3;rw[hrec] at this ⊢
    exact⟨this,World.putObj_heap_same (ao_.1 hl3).1,(World.putObj_heap_other (by omega)).trans hk3⟩
   rintro e a3 W3 hp;cases e with
   |normal=>
    obtain⟨⟨q1,q2⟩,hi3⟩:=hp;obtain⟨hr,hl4,hk4⟩:=fin none W3 (q1.trans hk2) (q2.trans hl2);exact⟨_,_,hr,.inl ⟨rfl,hB _ _ _ _ hi3,hl4,hk4⟩⟩
   |ret=>
    obtain⟨⟨q1,q2⟩,hi3⟩:=hp;obtain⟨hr,hl4,hk4⟩:=fin (some .ret) W3 (q1.trans hk2) (q2.trans hl2);exact⟨_,_,hr,.inr ⟨rfl,.ret,hBx _ _ _ _ hi3,hl4,hk4⟩⟩
   |exit id=>
    obtain⟨⟨q1,q2⟩,hi3⟩:=hp;obtain⟨hr,hl4,hk4⟩:=fin (some (.exit id)) W3 (q1.trans hk2) (q2.trans hl2);exact⟨_,_,hr,.inr ⟨rfl,.exit id,hBx _ _ _ _ hi3,hl4,hk4⟩⟩
   |goto t=>exact hp.elim
   |panic ch=>exact hp.elim
   |outgrown=>exact hp.elim
  ·rintro e W2 ⟨⟨v,rfl⟩,(⟨hz,hl,hk⟩|⟨c,x,hi,hl,hk⟩)⟩
   ·have hlt:=(ao_.1 hl).1;exact⟨none,_,by have:=run_endLoop (P:=P) hl (by rw[hrec];simp);rw[hrec] at this;exact this,hdone _ (hZ _ _ hz) ((World.putObj_heap_other (by omega)).trans hk) (by simpa using hlt)⟩
   ·have hlt:=(ao_.1 hl).1;exact⟨some c,_,by have:=run_endLoop (P:=P) hl (by rw[hrec];simp);rw[hrec] at this;exact this,hstop _ x _ (hBx _ _ _ _ hi) ((World.putObj_heap_other (by omega)).trans hk) (by simpa using hlt)⟩
structure SV where
 t:Nat
 x1:Option Addr
 x2:Option Addr
 x3:Option Addr
 n1:Nat
 n2:Nat
 n3:Nat
 c1:Nat
 c2:Nat
 c3:Nat
 q:Nat
def SV.cells(s:SV):Array Value:= #[.int .i64 s.t,.slice s.x1 s.n1 s.c1,.slice s.x2 s.n2 s.c2,.slice s.x3 s.n3 s.c3,.int .i64 s.q]
def SV.val(s:SV):Value:=.agg #[.int .i64 s.t,.slice s.x1 s.n1 s.c1,.slice s.x2 s.n2 s.c2,.slice s.x3 s.n3 s.c3,.int .i64 s.q]
def fA(W:World)(b:Nat)(s:SV):World:=((((W.setCell ⟨b,0,none⟩ (.int .i64 s.t)).setCell ⟨b,1,none⟩ (.slice s.x1 s.n1 s.c1)).setCell ⟨b,2,none⟩ (.slice s.x2 s.n2 s.c2)).setCell ⟨b,3,none⟩ (.slice s.x3 s.n3 s.c3)).setCell ⟨b,4,none⟩ (.int .i64 s.q)
theorem wA{W:World}{b:Nat}{s:SV}{c:Array Value}{T:TypeId}{z:Nat × Nat}(h:W.heap[b]?=some (.cells c T z)):(fA W b s).heap[b]?=some (.cells (((((c.setIfInBounds 0 (.int .i64 s.t)).setIfInBounds 1 (.slice s.x1 s.n1 s.c1)).setIfInBounds 2 (.slice s.x2 s.n2 s.c2)).setIfInBounds 3 (.slice s.x3 s.n3 s.c3)).setIfInBounds 4 (.int .i64 s.q)) T z):=
 aS (aS (aS (aS (aS h))))
theorem BU{W:World}{b:Nat}{s:SV}{c:Array Value}{T:TypeId}{z:Nat × Nat}(h:W.heap[b]?=some (.cells c T z))(hc:c.size=5):(fA W b s).heap[b]?=some (.cells s.cells T z):=by
 rw[wA h];obtain⟨l⟩:=c;match l,hc with
 |[a0,a1,a2,a3,a4],_=>rfl
theorem oI{W V:World}{b:Nat}{s:SV}{c:Array Value}{T:TypeId}(h:W.heap[b]?=some (.cells c T (0,0)))(hc:5<=c.size)(hV:V.heap[b]?=(fA W b s).heap[b]?):V.cell? ⟨b,0,none⟩=some (.int .i64 s.t)/\V.cell? ⟨b,1,none⟩=some (.slice s.x1 s.n1 s.c1)/\V.cell? ⟨b,2,none⟩=some (.slice s.x2 s.n2 s.c2)/\V.cell? ⟨b,3,none⟩=some (.slice s.x3 s.n3 s.c3)/\V.cell? ⟨b,4,none⟩=some (.int .i64 s.q):=by
 have h0:=hV.trans (wA (s:=s) h);obtain⟨l⟩:=c;rcases l with _|⟨a0,_|⟨a1,_|⟨a2,_|⟨a3,_|⟨a4,r⟩⟩⟩⟩⟩
 case cons.cons.cons.cons.cons=>
  simp only[List.setIfInBounds_toArray,List.set_cons_zero,a6_] at h0;exact⟨aA h0 (by simp),aA h0 (by simp),aA h0 (by simp),aA h0 (by simp),aA h0 (by simp)⟩
 all_goals simp at hc
theorem dY(W:World)(b:Nat)(s:SV)(k:Nat)(h:k≠b):(fA W b s).heap[k]?=W.heap[k]?:=by
 unfold fA;rw[m7 _ _ _ _ h,m7 _ _ _ _ h,m7 _ _ _ _ h,m7 _ _ _ _ h,m7 _ _ _ _ h]
theorem iG(W:World)(b:Nat)(s:SV):(fA W b s).heap.size=W.heap.size/\(fA W b s).os=W.os/\(fA W b s).tape=W.tape/\(fA W b s).output=W.output:=by
 have one:∀(W:World) (p:Addr) (u:Value),(W.setCell p u).os=W.os/\(W.setCell p u).tape=W.tape/\(W.setCell p u).output=W.output/\(W.setCell p u).heap.size=W.heap.size:=fun W p u=>⟨rfl,rfl,rfl,by simp⟩
 unfold fA;simp[one]
theorem OW(l bb sb:Nat)(s:SV)(W:World)(L:Nat->Nat->SV->Bool->World->Prop)(B:Nat->Nat->SV->World->Prop)(Z:World->Prop)
 (hbb:W.cell? ⟨bb,0,none⟩=some (.pointer (some ⟨sb,0,none⟩))) (hlb:bb<W.heap.size) (hls:sb<W.heap.size)
 (k0:W.cell? ⟨sb,0,none⟩=some (.int .i64 s.t)) (k1:W.cell? ⟨sb,1,none⟩=some (.slice s.x1 s.n1 s.c1)) (k2:W.cell? ⟨sb,2,none⟩=some (.slice s.x2 s.n2 s.c2)) (k3:W.cell? ⟨sb,3,none⟩=some (.slice s.x3 s.n3 s.c3)) (k4:W.cell? ⟨sb,4,none⟩=some (.int .i64 s.q)) (K0:Nat)
 (HNA:Hid (Calls prog 111 #[.pointer (some ⟨sb,0,none⟩),s.val] W.drew fun e w'=>∃s' ok,e=.returned (.tuple #[SV.val s',.bool ok])/\L K0 w'.heap.size s' ok (w'.alloc (.cells s'.cells 108))))
 (HNB:Hid (∀c,c.size=5->Calls prog 111 #[.pointer (some ⟨sb,0,none⟩),s.val] (W.drew.alloc (.cells c 108)) fun e w'=>∃s' ok,e=.returned (.tuple #[SV.val s',.bool ok])/\w'.heap[W.heap.size]?=some (.cells c 108 (0,0))/\L K0 W.heap.size s' ok (fA w' W.heap.size s')))
 (HL:Hid (∀gk b s' wr,L gk b s' true wr->wr.heap[b]?=some (.cells s'.cells 108 (0,0))/\YieldAt Fence.wide 0 prog l #[s'.val] wr fun e W'=>(e=.returned (.bool true)/\B gk b s' W')\/(e=.returned (.bool false)/\Z W')))
 (HZ:Hid (∀gk b s' wr,L gk b s' false wr->Z wr))
 (HB:Hid (∀gk b s' wr,B gk b s' wr->wr.cell? ⟨bb,0,none⟩=some (.pointer (some ⟨sb,0,none⟩))/\wr.heap[b]?=some (.cells s'.cells 108 (0,0))/\∃j,gk=j+1/\Calls prog 111 #[.pointer (some ⟨sb,0,none⟩),s'.val] wr fun e w'=>∃s'' ok,e=.returned (.tuple #[SV.val s'',.bool ok])/\(∃c,w'.heap[b]?=some (.cells c 108 (0,0))/\c.size=5)/\L j b s'' ok (fA w' b s''))):
 Calls prog 118 #[.func (.yield l) #[] #[],.pointer (some ⟨bb,0,none⟩)] W fun e w'=>e=.returned (.tuple #[])/\Z w':=by
 unfold SV.val SV.cells at HNA;unfold SV.val fA at HNB;go_enter Tryz.func118,Tryz.ntmps118;go_upto_region 0 with fail
 go_cut [3,4] from 5 (fun s3 s4 w=>∃b s' ok,s3=.pointer (some ⟨b,0,none⟩)/\s4=.bool ok/\L K0 b s' ok w)
 case first=>
  go_region_law (go_simp;go_at_call 111;first|(refine(HNB.out _ rfl).mono ?_;rintro e w1 ⟨s',ok,rfl,h3,h1⟩;have d0:=aA (i:=0) h3 rfl;have d1:=aA (i:=1) h3 rfl;have d2:=aA (i:=2) h3 rfl;have d3:=aA (i:=3) h3 rfl;have d4:=aA (i:=4) h3 rfl;have f0:=aE (i:=0) h3;have f1:=aE (i:=1) h3;have f2:=aE (i:=2) h3;have f3:=aE (i:=3) h3;have f4:=aE (i:=4) h3;clear h3)|(refine HNA.out.mono ?_;rintro e w1 ⟨s',ok,rfl,h1⟩))
  all_goals (try clear d0 d1 d2 d3 d4 f0 f1 f2 f3 f4)
  all_goals (have H1:=aB h1;clear h1 k0 k1 k2 k3 k4 hbb HNA HNB hlb hls)
  all_goals (go_simp;go_step;go_meet)
  all_goals exact⟨_,_,_,rfl,rfl,H1.out⟩
 case rest=>
  obtain⟨b,s1,ok1,rfl,rfl,h1⟩:=hcut;have H1:=aB h1;clear h1 HNA HNB;go_wp2_with fail;go_loopg [4] K0 (fun gk s4 wr=>∃s' ok,s4=.bool ok/\L gk b s' ok wr)
  case atStart=>exact⟨_,_,rfl,H1.out⟩
  case round=>
   obtain⟨s',ok,rfl,hl⟩:=hrel;cases ok
   ·have HZ0:=aB (HZ.out _ _ _ _ hl);clear hl;go_wp2_with fail;go_end0;exact⟨rfl,HZ0.out⟩
   ·obtain⟨hblk,fn,tmps,assign,body,hy,hR⟩:=HL.out _ _ _ _ hl;have HR:=aB hR;unfold SV.cells at hblk;have d0:=aA (i:=0) hblk rfl;have d1:=aA (i:=1) hblk rfl;have d2:=aA (i:=2) hblk rfl;have d3:=aA (i:=3) hblk rfl;have d4:=aA (i:=4) hblk rfl;have hlt:=aD hblk;unfold SV.val at hy;clear hl hR hblk;refine(wpIn_wide (n:=0)).1 ?_;gi_wp2
    refine⟨rfl,HR.out.mono ?_⟩;rintro e W3 (⟨rfl,hb3⟩|⟨rfl,hz3⟩)
    ·obtain⟨e1,e2,j,rfl,hn⟩:=HB.out _ _ _ _ hb3;have HNN:=aB hn;unfold SV.cells at e2;unfold SV.val at HNN;clear hb3 hn hy HR d0 d1 d2 d3 d4 hlt;have d0:=aA (i:=0) e2 rfl;have d1:=aA (i:=1) e2 rfl;have d2:=aA (i:=2) e2 rfl;have d3:=aA (i:=3) e2 rfl;have d4:=aA (i:=4) e2 rfl;have hlt:=aD e2;clear e2;gi_wp2
     refine⟨trivial,rfl,(callsIn_wide.2 HNN.out).mono ?_⟩;rintro e w4 ⟨s'',ok,rfl,⟨c,hc,hsz⟩,hl⟩;have HLL:=aB hl;unfold fA at HLL;clear hl HNN d0 d1 d2 d3 d4 hlt e1;have d0:=aA (i:=0) hc (n9 (by omega))
     have d1:=aA (i:=1) hc (n9 (by omega))
     have d2:=aA (i:=2) hc (n9 (by omega))
     have d3:=aA (i:=3) hc (n9 (by omega))
     have d4:=aA (i:=4) hc (n9 (by omega))
     have f0:=aE (i:=0) hc;have f1:=aE (i:=1) hc;have f2:=aE (i:=2) hc;have f3:=aE (i:=3) hc;have f4:=aE (i:=4) hc;have hlt:=aD hc;clear hc;gi_wp2
     go_roundg j
     case measure=>omega
     case rel=>exact⟨_,_,rfl,HLL.out⟩
    ·gi_wp2
     go_end0;exact⟨rfl,hz3⟩
attribute [local go_sem] Oper.semAt_some
theorem SV.val_inj{a b:SV}(h:a.val=b.val):a=b:=by
 cases a;cases b;simp only[SV.val,Value.agg.injEq] at h;simp at h;obtain⟨h1,⟨rfl,rfl,rfl⟩,⟨rfl,rfl,rfl⟩,⟨rfl,rfl,rfl⟩,h2⟩:=h;obtain rfl:=Int.ofNat.inj h1;obtain rfl:=Int.ofNat.inj h2;rfl
def N2{τ:Type}(P:Program)(gf:Nat)(lb:Array Value)(w:World)(A B:τ->SV->World->Prop)(E Z:World->Prop):Prop:=
 ∀(R0:Loop) (Rdy:World->Prop) (Don:World->Prop),(∀W W',Rdy W->W'.heap[w.heap.size]?=W.heap[w.heap.size]?->W'.heap[w.heap.size+1]?=W.heap[w.heap.size+1]?->Rdy W')->(∀W,Rdy W->w.heap.size+1<W.heap.size)->
  Rdy ((w.alloc (.deferred (some []))).alloc (.loop R0))->
  (∀t s W,A t s W->Rdy W->YieldAt Fence.wide 0 P (w.heap.size+1) #[s.val] W fun e W'=>(e=.returned (.bool true)/\B t s W'/\Rdy W')\/(e=.returned (.bool false)/\E W'/\Don W'))->
  Calls P gf (#[.func (.yield (w.heap.size+1)) #[] #[]]++lb) ((w.alloc (.deferred (some []))).alloc (.loop R0)) fun e W'=>(∃v,e=.returned v)/\((Z W'/\Rdy W')\/(E W'/\Don W'))
theorem ZK{τ:Type}(w:World)(sb gf gn:Nat)(lb lf:Array Value)(s:SV)(R:Bool->World->Prop)(A B:τ->SV->World->Prop)(A1:τ->SV->Nat->World->Prop)(E:World->Prop)
 (hls:sb<w.heap.size)
 (k0:w.cell? ⟨sb,0,none⟩=some (.int .i64 s.t)) (k1:w.cell? ⟨sb,1,none⟩=some (.slice s.x1 s.n1 s.c1)) (k2:w.cell? ⟨sb,2,none⟩=some (.slice s.x2 s.n2 s.c2)) (k3:w.cell? ⟨sb,3,none⟩=some (.slice s.x3 s.n3 s.c3)) (k4:w.cell? ⟨sb,4,none⟩=some (.int .i64 s.q))
 (hcf:∀args W,(callFunc gf args).run prog W=.ok (.enter gf args) W) (hcn:∀args W,(callFunc gn args).run prog W=.ok (.enter gn args) W)
 (HS1:Hid (∀t s' b W r,A1 t s' b W->A1 t s' b (W.putObj (w.heap.size+4) (.loop r)))) (HSB:Hid (∀t s' W r,B t s' W->B t s' (W.putObj (w.heap.size+4) (.loop r)))) (HSE:Hid (∀W r,E W->E (W.putObj (w.heap.size+4) (.loop r))))
 (HA:Hid (∀t s' W,A t s' W->A1 t s' W.heap.size (W.alloc (.cells s'.cells 108))/\w.heap.size+4<W.heap.size))
 (HA1:Hid (∀t s' b W,A1 t s' b W->W.heap[b]?=some (.cells s'.cells 108 (0,0))/\W.heap[w.heap.size]?=some (.cells #[.func (.func gn) #[] lf] 132 (0,0))/\(∃c,W.heap[w.heap.size+1]?=some (.cells c 108 (0,0))/\5<=c.size)/\(∃v,W.heap[w.heap.size+1+1]?=some (.cells #[v] 4 (0,0)))/\b≠w.heap.size/\b≠w.heap.size+1/\b≠w.heap.size+1+1/\
   Calls prog gn (#[s'.val]++lf) ((fA W (w.heap.size+1) s').setCell ⟨w.heap.size+1+1,0,none⟩ (.bool true)) fun e W'=>∃r,e=.returned (.bool r)/\(W'.heap[w.heap.size+3]?=W.heap[w.heap.size+3]?/\W'.heap[w.heap.size+3+1]?=W.heap[w.heap.size+3+1]?)/\(r=true->E W')/\(r=false->B t s' W')))
 (HE:Hid (∀W,E W->∃s'' fd,W.heap[w.heap.size+1]?=some (.cells (SV.cells s'') 108 (0,0))/\W.heap[w.heap.size+1+1]?=some (.cells #[.bool fd] 4 (0,0))/\(∃c T,W.heap[sb]?=some (.cells c T (0,0))/\5<=c.size)/\R fd ((fA W sb s'').putObj (w.heap.size+3) (.deferred none))))
 (HI:Hid (∀W0,W0=((w.alloc (.cells #[.func (.func gn) #[] lf] 132)).alloc (.cells s.cells 108)).alloc (.cells #[.bool false] 4)->N2 prog gf lb W0 A B E E)):
 Calls prog 64 #[.pointer (some ⟨sb,0,none⟩),.func (.func gf) #[] lb,.func (.func gn) #[] lf] w fun e w'=>∃b,e=.returned (.bool b)/\R b w':=by
 refine(callsIn_wide (n:=0)).1 (callsIn_of_wp_marks Tryz.func64 rfl trivial ?_ rfl);simp only[Tryz.ntmps64,List.size_toArray,n8,p6,Nat.reduceAdd,Nat.reduceSub,Array.replicate_succ,Array.replicate_zero,List.push_toArray,List.append_toArray,ar_,s9];refine wpIn_wide.2 ?_;go_wp2_with fail;have HI0:=HI.out _ rfl;unfold SV.cells at HI0;obtain⟨W0,hW0⟩:∃W0,((w.alloc (.cells #[.func (.func gn) #[] lf] 132)).alloc (.cells #[.int .i64 s.t,.slice s.x1 s.n1 s.c1,.slice s.x2 s.n2 s.c2,.slice s.x3 s.n3 s.c3,.int .i64 s.q] 108)).alloc (.cells #[.bool false] 4)=W0:=⟨_,rfl⟩;have hsz:W0.heap.size=w.heap.size+3:=by rw[<-hW0];simp
 rw[hW0] at HI0 ⊢
 clear hW0 HI;have HI1:=aB HI0;clear HI0
 refine wpIn_wide.1 (SQ (P:=prog) (gf:=gf) (lb:=lb) rfl hcf (fun t x W=>∃s',x= #[SV.val s']/\A t s' W) (fun t x W=>∃s',x= #[SV.val s']/\B t s' W)
  (fun t x a' W=>∃s' b,x= #[SV.val s']/\a'={ tmps:= #[.pointer (some ⟨sb,0,none⟩),.func (.func gf) #[] lb,.func (.func gn) #[] lf,undef,undef,.pointer (some ⟨w.heap.size,0,none⟩),.bool false,.pointer (some ⟨w.heap.size+1,0,none⟩),.pointer (some ⟨w.heap.size+1+1,0,none⟩),.pointer (some ⟨b,0,none⟩),.pointer (some ⟨sb,0,none⟩),.pointer (some ⟨sb,0,none⟩),.pointer (some ⟨sb,0,none⟩),s.val,.func (.func gf) #[] lb,SV.val s',undef,undef,undef,undef,undef,undef,undef,undef,undef],defers:=[] }/\A1 t s' b W)
  (fun c x W=>c=.exit 0/\E W) E ?hps ?hAx ?hB ?hBx ?hZ ?hassign ?hbody ?hseq ?hdone ?hstop)
 case hps=>rintro t x W ⟨s',rfl,_⟩;rfl
 case hAx=>rintro t x a' W r ⟨s',b,rfl,rfl,h⟩;rw[hsz];exact⟨s',b,rfl,rfl,HS1.out _ _ _ _ _ h⟩
 case hB=>rintro t x W r ⟨s',rfl,h⟩;rw[hsz];exact⟨s',rfl,HSB.out _ _ _ _ h⟩
 case hBx=>rintro c x W r ⟨rfl,h⟩;rw[hsz];exact⟨rfl,HSE.out _ _ h⟩
 case hZ=>intro W r h;rw[hsz];exact HSE.out _ _ h
 case hassign=>
  rintro t x W K ⟨s',rfl,h⟩ hK;obtain⟨q1,q2⟩:=HA.out _ _ _ h;have hK':=aB (hK _ _ (o9 _ _ _ (by rw[hsz];omega)) (o9 _ _ _ (by rw[hsz];omega)) ⟨s',_,rfl,rfl,q1⟩)
  unfold SV.val SV.cells at hK';clear hK q1 h;unfold SV.val;gi_wp2
  exact hK'.out
 case hbody=>
  rintro t x a' W ⟨s',b,rfl,rfl,h⟩ hlt;obtain⟨e1,e2,⟨c,e3,e3'⟩,⟨v,e4⟩,n1,n2,n3,hF⟩:=HA1.out _ _ _ _ h;rw[hsz];have HF:=aB hF;unfold fA SV.val at HF;unfold SV.val;unfold SV.cells at e1;have d0:=aA (i:=0) e1 rfl;have d1:=aA (i:=1) e1 rfl;have d2:=aA (i:=2) e1 rfl;have d3:=aA (i:=3) e1 rfl;have d4:=aA (i:=4) e1 rfl;have c0:=aA (i:=0) e2 rfl;have g0:=aA (i:=0) e3 (n9 (by omega))
  have g1:=aA (i:=1) e3 (n9 (by omega))
  have g2:=aA (i:=2) e3 (n9 (by omega))
  have g3:=aA (i:=3) e3 (n9 (by omega))
  have g4:=aA (i:=4) e3 (n9 (by omega))
  have f0:=aE (i:=0) e3;have f1:=aE (i:=1) e3;have f2:=aE (i:=2) e3;have f3:=aE (i:=3) e3;have f4:=aE (i:=4) e3;have o0:=aA (i:=0) e4 rfl;have o1:=aE (i:=0) e4;have l1:=aD e1;have l2:=aD e2;have l3:=aD e3;have l4:=aD e4;clear h hF e1 e2 e3 e4 HA HA1 HE HS1 HSB HSE HI1 k0 k1 k2 k3 k4;gi_wp2
  refine⟨trivial,rfl,(CallsIn.inRound _ (callsIn_wide.2 HF.out)).mono ?_⟩;rintro e W' ⟨r,rfl,hq,hE,hB⟩;cases r
  ·have HB:=aB (hB rfl);clear hB hE HF d0 d1 d2 d3 d4 c0 g0 g1 g2 g3 g4 f0 f1 f2 f3 f4 o0 o1;gi_wp2
   exact⟨hq,s',rfl,HB.out⟩
  ·have HEE:=aB (hE rfl);clear hB hE HF d0 d1 d2 d3 d4 c0 g0 g1 g2 g3 g4 f0 f1 f2 f3 f4 o0 o1;gi_wp2
   exact⟨hq,rfl,HEE.out⟩
 case hseq=>
  intro R0 Rdy Don h1 h2 h3 h4 h5 hY;refine callsIn_wide.2 ((HI1.out R0 Rdy (fun W=>∃c x,(c=Code.exit 0/\True)/\Don c W/\x=(#[]:Array Value)) h1 h2 h5 ?_).mono ?_)
  ·intro t s' W hA hR;obtain⟨fn,tmps,assign,body,hy,hr⟩:=hY t #[SV.val s'] W ⟨s',rfl,hA⟩ hR;refine⟨fn,tmps,assign,body,hy,hr.mono ?_⟩;rintro e W' (⟨rfl,⟨s2,e2,hB⟩,hR'⟩|⟨rfl,c,⟨rfl,hE⟩,hD⟩)
   ·obtain rfl:s2=s':=SV.val_inj (by simpa using e2.symm)
    exact Or.inl ⟨rfl,hB,hR'⟩
   ·exact Or.inr ⟨rfl,hE,_,_,⟨rfl,trivial⟩,hD,rfl⟩
  ·rintro e W' ⟨hv,(⟨hz,hr⟩|⟨hE,c,x,⟨rfl,_⟩,hD,_⟩)⟩
   ·exact⟨hv,Or.inl ⟨hz,hr⟩⟩
   ·exact⟨hv,Or.inr ⟨_,#[],⟨rfl,hE⟩,hD⟩⟩
 case hdone=>
  intro W hz hD hlt;rw[hsz] at hD hlt ⊢
  obtain⟨s'',fd,e1,e2,⟨c,T,e3,e3'⟩,hR⟩:=HE.out _ hz;have HR:=aB hR;unfold fA at HR;unfold SV.cells at e1;have d0:=aA (i:=0) e1 rfl;have d1:=aA (i:=1) e1 rfl;have d2:=aA (i:=2) e1 rfl;have d3:=aA (i:=3) e1 rfl;have d4:=aA (i:=4) e1 rfl;have o0:=aA (i:=0) e2 rfl;have g0:=aA (i:=0) e3 (n9 (by omega))
  have g1:=aA (i:=1) e3 (n9 (by omega))
  have g2:=aA (i:=2) e3 (n9 (by omega))
  have g3:=aA (i:=3) e3 (n9 (by omega))
  have g4:=aA (i:=4) e3 (n9 (by omega))
  have f0:=aE (i:=0) e3;have f1:=aE (i:=1) e3;have f2:=aE (i:=2) e3;have f3:=aE (i:=3) e3;have f4:=aE (i:=4) e3;have l1:=aD e1;have l2:=aD e2;have l3:=aD e3;have n1:w.heap.size+1≠sb:=by omega
  have n2:w.heap.size+1+1≠sb:=by omega
  have HD:(((((W.setCell ⟨sb,0,none⟩ (.int .i64 s''.t)).setCell ⟨sb,1,none⟩ (.slice s''.x1 s''.n1 s''.c1)).setCell ⟨sb,2,none⟩ (.slice s''.x2 s''.n2 s''.c2)).setCell ⟨sb,3,none⟩ (.slice s''.x3 s''.n3 s''.c3)).setCell ⟨sb,4,none⟩ (.int .i64 s''.q)).heap[w.heap.size+3]?=some (.deferred (some [])):=by
   have hne:w.heap.size+3≠sb:=by omega
   rw[m7 _ _ _ _ hne,m7 _ _ _ _ hne,m7 _ _ _ _ hne,m7 _ _ _ _ hne,m7 _ _ _ _ hne];exact hD
  have HDD:=aB HD;clear hR e1 e2 e3 HE HA HA1 HS1 HSB HSE HI1 hz hD HD k0 k1 k2 k3 k4;go_wp2_with fail;refine⟨by simp,.inl ⟨_,_,rfl,run_takeDeferred HDD.out,?_⟩⟩
  exact⟨_,results_tmp rfl _ _ _,_,rfl,HR.out⟩
 case hstop=>
  rintro c x W ⟨rfl,hz⟩ hD hlt;rw[hsz] at hD hlt ⊢
  obtain⟨s'',fd,e1,e2,⟨c,T,e3,e3'⟩,hR⟩:=HE.out _ hz;have HR:=aB hR;unfold fA at HR;unfold SV.cells at e1;have d0:=aA (i:=0) e1 rfl;have d1:=aA (i:=1) e1 rfl;have d2:=aA (i:=2) e1 rfl;have d3:=aA (i:=3) e1 rfl;have d4:=aA (i:=4) e1 rfl;have o0:=aA (i:=0) e2 rfl;have g0:=aA (i:=0) e3 (n9 (by omega))
  have g1:=aA (i:=1) e3 (n9 (by omega))
  have g2:=aA (i:=2) e3 (n9 (by omega))
  have g3:=aA (i:=3) e3 (n9 (by omega))
  have g4:=aA (i:=4) e3 (n9 (by omega))
  have f0:=aE (i:=0) e3;have f1:=aE (i:=1) e3;have f2:=aE (i:=2) e3;have f3:=aE (i:=3) e3;have f4:=aE (i:=4) e3;have l1:=aD e1;have l2:=aD e2;have l3:=aD e3;have n1:w.heap.size+1≠sb:=by omega
  have n2:w.heap.size+1+1≠sb:=by omega
  have HD:(((((W.setCell ⟨sb,0,none⟩ (.int .i64 s''.t)).setCell ⟨sb,1,none⟩ (.slice s''.x1 s''.n1 s''.c1)).setCell ⟨sb,2,none⟩ (.slice s''.x2 s''.n2 s''.c2)).setCell ⟨sb,3,none⟩ (.slice s''.x3 s''.n3 s''.c3)).setCell ⟨sb,4,none⟩ (.int .i64 s''.q)).heap[w.heap.size+3]?=some (.deferred (some [])):=by
   have hne:w.heap.size+3≠sb:=by omega
   rw[m7 _ _ _ _ hne,m7 _ _ _ _ hne,m7 _ _ _ _ hne,m7 _ _ _ _ hne,m7 _ _ _ _ hne];exact hD
  have HDD:=aB HD;clear hR e1 e2 e3 HE HA HA1 HS1 HSB HSE HI1 hz hD HD k0 k1 k2 k3 k4;refine wpIn_wide.2 ?_;go_wp2_with fail;refine⟨by simp,.inl ⟨_,_,rfl,run_takeDeferred HDD.out,?_⟩⟩
  exact⟨_,results_tmp rfl _ _ _,_,rfl,HR.out⟩
theorem BS(w:World)(sb:Nat)(s:SV)(P N:SV->Bool->World->Prop)
 (HN:Hid (Calls prog 163 #[s.val] ((w.alloc (.cells s.cells 108)).alloc (.cells #[.int .i64 0,.slice none 0 0,.slice none 0 0,.slice none 0 0,.int .i64 0] 108)) fun e w'=>∃s' ok,e=.returned (.tuple #[SV.val s',.bool ok])/\N s' ok w'))
 (HF:Hid (∀s' W,N s' false W->(∃c,W.heap[w.heap.size+1]?=some (.cells c 108 (0,0))/\5<=c.size)/\P s' false ((fA W (w.heap.size+1) s').alloc (.cells s'.cells 108))))
 (HK:Hid (∀s' W,N s' true W->Calls prog 71 #[.pointer (some ⟨sb,0,none⟩),s'.val] (W.alloc (.cells s'.cells 108)) fun e w'=>e=.returned (.tuple #[])/\w'.heap[W.heap.size]?=some (.cells s'.cells 108 (0,0))/\(∃c,w'.heap[w.heap.size+1]?=some (.cells c 108 (0,0))/\5<=c.size)/\w.heap.size+1<W.heap.size/\P s' true (fA w' (w.heap.size+1) s'))):
 Calls prog 111 #[.pointer (some ⟨sb,0,none⟩),s.val] w fun e w'=>∃s' ok,e=.returned (.tuple #[SV.val s',.bool ok])/\P s' ok w':=by
 unfold SV.val SV.cells at HN;unfold SV.val;go_enter Tryz.func111,Tryz.ntmps111;go_wp2_with fail;refine HN.out.mono ?_;rintro e w1 ⟨s',ok,rfl,h1⟩;cases ok
 ·obtain⟨⟨c,e3,e3'⟩,hp⟩:=HF.out _ _ h1;have HP:=aB hp;unfold fA SV.cells at HP;have g0:=aA (i:=0) e3 (n9 (by omega))
  have g1:=aA (i:=1) e3 (n9 (by omega))
  have g2:=aA (i:=2) e3 (n9 (by omega))
  have g3:=aA (i:=3) e3 (n9 (by omega))
  have g4:=aA (i:=4) e3 (n9 (by omega))
  have f0:=aE (i:=0) e3;have f1:=aE (i:=1) e3;have f2:=aE (i:=2) e3;have f3:=aE (i:=3) e3;have f4:=aE (i:=4) e3;have l3:=aD e3;have n1:w1.heap.size≠w.heap.size+1:=by omega
  have hs:=oI (W:=w1) (V:=(fA w1 (w.heap.size+1) s').alloc (.cells s'.cells 108)) (s:=s') e3 e3' (o9 _ _ _ (by rw[(iG _ _ _).1];exact l3))
  have HC:=aB hs;unfold fA SV.cells at HC;clear hp h1 HN HF HK e3 hs;go_wp2_with fail;have HC':=HC.out;have HP':=HP.out;clear HC HP g0 g1 g2 g3 g4 f0 f1 f2 f3 f4;generalize (((((w1.setCell ⟨w.heap.size+1,0,none⟩ (.int .i64 s'.t)).setCell ⟨w.heap.size+1,1,none⟩ (.slice s'.x1 s'.n1 s'.c1)).setCell ⟨w.heap.size+1,2,none⟩ (.slice s'.x2 s'.n2 s'.c2)).setCell ⟨w.heap.size+1,3,none⟩ (.slice s'.x3 s'.n3 s'.c3)).setCell ⟨w.heap.size+1,4,none⟩ (.int .i64 s'.q)).alloc (.cells #[.int .i64 s'.t,.slice s'.x1 s'.n1 s'.c1,.slice s'.x2 s'.n2 s'.c2,.slice s'.x3 s'.n3 s'.c3,.int .i64 s'.q] 108)=W3 at HC' HP' ⊢
  obtain⟨c0,c1,c2,c3,c4⟩:=HC';exact bodyPost_ret (v:=.tuple #[.agg #[.int .i64 s'.t,.slice s'.x1 s'.n1 s'.c1,.slice s'.x2 s'.n2 s'.c2,.slice s'.x3 s'.n3 s'.c3,.int .i64 s'.q],.bool false]) (by simp[results,Tryz.results111,go_sem,c0,c1,c2,c3,c4]) rfl ⟨s',false,rfl,HP'⟩
 ·have HKK:=aB (HK.out _ _ h1);unfold SV.val SV.cells at HKK;clear h1 HN HF HK;go_wp2_with fail;refine HKK.out.mono ?_;rintro e w2 ⟨rfl,e1,⟨c,e3,e3'⟩,l1,hp⟩;have HP:=aB hp;unfold fA at HP;have d0:=aA (i:=0) e1 rfl;have d1:=aA (i:=1) e1 rfl;have d2:=aA (i:=2) e1 rfl;have d3:=aA (i:=3) e1 rfl;have d4:=aA (i:=4) e1 rfl;have g0:=aA (i:=0) e3 (n9 (by omega))
  have g1:=aA (i:=1) e3 (n9 (by omega))
  have g2:=aA (i:=2) e3 (n9 (by omega))
  have g3:=aA (i:=3) e3 (n9 (by omega))
  have g4:=aA (i:=4) e3 (n9 (by omega))
  have f0:=aE (i:=0) e3;have f1:=aE (i:=1) e3;have f2:=aE (i:=2) e3;have f3:=aE (i:=3) e3;have f4:=aE (i:=4) e3;have l3:=aD e3;have l4:=aD e1;have n1:w1.heap.size≠w.heap.size+1:=by omega
  have hs:=oI (W:=w2) (s:=s') e3 e3' rfl;have HC:=aB hs;unfold fA at HC;clear hp HKK e1 e3 hs;go_wp2_with fail;have HC':=HC.out;have HP':=HP.out;clear HC HP g0 g1 g2 g3 g4 f0 f1 f2 f3 f4 d0 d1 d2 d3 d4;generalize ((((w2.setCell ⟨w.heap.size+1,0,none⟩ (.int .i64 s'.t)).setCell ⟨w.heap.size+1,1,none⟩ (.slice s'.x1 s'.n1 s'.c1)).setCell ⟨w.heap.size+1,2,none⟩ (.slice s'.x2 s'.n2 s'.c2)).setCell ⟨w.heap.size+1,3,none⟩ (.slice s'.x3 s'.n3 s'.c3)).setCell ⟨w.heap.size+1,4,none⟩ (.int .i64 s'.q)=W3 at HC' HP' ⊢
  obtain⟨c0,c1,c2,c3,c4⟩:=HC';exact bodyPost_ret (v:=.tuple #[.agg #[.int .i64 s'.t,.slice s'.x1 s'.n1 s'.c1,.slice s'.x2 s'.n2 s'.c2,.slice s'.x3 s'.n3 s'.c3,.int .i64 s'.q],.bool true]) (by simp[results,Tryz.results111,go_sem,c0,c1,c2,c3,c4]) rfl ⟨s',true,rfl,HP'⟩
theorem KJ(w:World)(src:ByteArray)(T:Nat)(hT:T<=500)(P:SV->World->Prop)(L:Nat->Nat->World->Prop)(M:Nat->World->Prop)
 (HS:Hid (Calls prog 32 #[.string src,.slice none 0 0] w fun e w'=>∃sb,e=.returned (.tuple #[.pointer (some ⟨sb,0,none⟩),.int .i64 0,.int .i64 0])/\L 0 sb w'))
 (HL:Hid (∀t sb W,L t sb W->Calls prog 28 #[.pointer (some ⟨sb,0,none⟩)] W fun e w'=>(t<T/\e=.returned (.bool true)/\L (t+1) sb w')\/(t=T/\e=.returned (.bool false)/\M sb w')))
 (HM:Hid (∀sb W,M sb W->Calls prog 23 #[.pointer (some ⟨sb,0,none⟩)] W fun e w'=>∃m:SV,e=.returned m.val/\m.t=T/\m.q=1/\m.n1=0/\∀q,P m ((w'.alloc (.cells m.cells 63)).drewN q))):
 Calls prog 35 #[.string src] w fun e w'=>∃m:SV,e=.returned (.tuple #[.slice m.x3 m.n3 m.c3,.int .i64 T,.bool true])/\P m w':=by
 go_enter Tryz.func35,Tryz.ntmps35;go_wp2_with fail;refine HS.out.mono ?_;rintro e w1 ⟨sb,rfl,h1⟩;have H1:=aB h1;clear h1 HS;go_wp2_with fail;go_loopg [8] (T+1) (fun gk s8 wr=>∃t:Nat,s8=.int .i64 t/\gk+t=T+1/\t<=T/\L t sb wr)
 case atStart=>exact⟨0,rfl,by omega,by omega,H1.out⟩
 case round=>
  obtain⟨t,rfl,hgk,htT,hl⟩:=hrel
  ·have HLL:=aB (HL.out _ _ _ hl);have h5:(t:Int)<=500:=by omega
   clear hl HL;go_wp2_with fail;refine HLL.out.mono ?_;rintro e w2 (⟨h2,rfl,h3⟩|⟨h2,rfl,h3⟩)
   ·have H3:=aB h3;clear h3 HLL HM;go_wp2_with fail;go_roundg (gk-1)
    case measure=>omega
    case rel=>exact⟨t+1,by simp,by omega,by omega,H3.out⟩
   ·have HMM:=aB (HM.out _ _ h3);unfold SV.val SV.cells at HMM;clear h3 HM HLL;go_wp2_with fail;refine HMM.out.mono ?_;rintro e w3 ⟨m,rfl,e1,e2,e3,hp⟩;have HP:=aB hp;clear hp HMM;subst h2;rw[e1,e2,e3] at HP;rw[e1,e2,e3];go_wp2_with fail;go_quiet (fail)
    go_wp2_with fail;go_ret3
    exact⟨m,rfl,HP.out _⟩
theorem iD(a b:List UInt8):bs a++bs b=bs (a++b):=by
 apply L9
 rw[jL,ByteArray.data_append];simp[bs]
theorem digitsF_len(f:Nat):∀n t,(Hs.digitsF f n t).length<=t.length+f:=by
 induction f with
 |zero=>intro n t;simp[Hs.digitsF]
 |succ f ih=>
  intro n t;rw[Hs.digitsF];split
  ·simp
  ·have:=ih (n/10) (UInt8.ofNat (48+n%10)::t);rw[n8] at this;omega
theorem LR(n:Int):(cH n).length<=21:=by
 unfold cH;have:=digitsF_len 20 n.natAbs [];rw[m6];split<;>simp at this ⊢<;>omega
theorem tS(l:List aI)(h:∀x∈l,(cC x).length+2<=24*aJ x):(eT (l.map cC)).length<=24*(l.map aJ).sum:=by
 induction l with
 |nil=>simp[eT]
 |cons y r ih=>
  have h1:=h y (by simp)
  have h2:=ih fun x hx=>h x (by simp[hx])
  cases r with
  |nil=>simp[eT];omega
  |cons z r=>
   simp only[s5,eT,m6,s6,n8,p6] at h2 ⊢
   omega
theorem xC:∀v:aI,(cC v).length+2<=24*aJ v:=by
 refine aI.ind fun v ih=>?_
 have hc:=tS v.l ih;have hd:=LR v.n;rw[iN,eU];split
 ·omega
 split
 ·split<;>simp<;>omega
 split
 ·simp;omega
 ·simp;omega
theorem XL(s:List UInt8):(⟨#[34]⟩:ByteArray)++bs s=bs (34::s):=iD [34] s
theorem XM(s:List UInt8):bs s++(⟨#[34]⟩:ByteArray)=bs (s++[34]):=iD s [34]
theorem RL(n:Int):iV n=wrap64 n:=by unfold iV wrap64;rfl
theorem Hs.oneL_neg{op:List UInt8}{a:aI}(h:op=[45,120])(h0:a.sort=0):fG op a=(aV (wrap64 (-a.n)),0):=by
 rw[<-RL];unfold fG;rw[if_pos ⟨h,h0⟩]
theorem WO(n:Int)(h1: -9223372036854775808<=n)(h2:n<=9223372036854775807):iV n=n:=by unfold iV;omega
theorem E1(x y:Int)(hx1: -9223372036854775808<=x)(hx2:x<=9223372036854775807): -9223372036854775808<=x.tmod y/\x.tmod y<=9223372036854775807:=by
 have h:(x.tmod y).natAbs=x.natAbs%y.natAbs:=Int.natAbs_tmod x y;have h2:x.natAbs%y.natAbs<=x.natAbs:=Nat.mod_le _ _;by_cases hn:0<=x
 ·have:=Int.tmod_nonneg y hn;omega
 ·have:x.tmod y<=0:=by
   have:=Int.tmod_nonneg y (show 0<= -x by omega)
   rw[Int.neg_tmod] at this;omega
  omega
def Grow(F:Nat->Prop)(w w':World)(b:Nat):Prop:=F b\/(w.heap.size<=b/\b<w'.heap.size)
theorem tT:∀l m:List UInt8,Op.bytesLess l m=gF l m
 |[],[]=>rfl
 |[],_::_=>rfl
 |_::_,[]=>rfl
 |a::l,b::m=>by
  rw[Op.bytesLess,gF,tT l m];by_cases h1:a.toNat<b.toNat
  ·rw[if_pos h1,decide_eq_true (UInt8.lt_iff_toNat_lt.2 h1),Bool.true_or]
  ·rw[if_neg h1,decide_eq_false (fun h=>h1 (UInt8.lt_iff_toNat_lt.1 h)),Bool.false_or]
   by_cases h2:b.toNat<a.toNat
   ·rw[if_pos h2,beq_eq_false_iff_ne.2 (fun e=>by rw[e] at h2;omega),Bool.false_and]
   ·rw[if_neg h2,show a=b from aU_.1 (by omega),beq_self_eq_true,Bool.true_and]
theorem IW:∀l m:List UInt8,(gF l m || l==m)= !gF m l
 |[],[]=>rfl
 |[],_::_=>rfl
 |_::_,[]=>rfl
 |a::l,b::m=>by
  rw[gF,gF];by_cases h1:a.toNat<b.toNat
  ·rw[if_pos h1,if_neg (by omega),if_pos h1];rfl
  ·by_cases h2:b.toNat<a.toNat
   ·rw[if_neg h1,if_pos h2,if_pos h2];have:(a::l==b::m)=false:=beq_eq_false_iff_ne.2 (fun e=>by rw[List.cons.injEq] at e;rw[e.1] at h2;omega)
    rw[this];rfl
   ·rw[if_neg h1,if_neg h2,if_neg h2,if_neg h1,<-IW l m,show a=b from aU_.1 (by omega)]
    simp
end Go.Proofs.YtblbkfdhjfppkaaGreatDoor
