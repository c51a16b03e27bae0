/- A range over a function whose rounds the function itself knows: the law, where no fence stands. -/
import Derived.Test.YtblbkfdhjfppkaaGreatDoorB06
import Derived.Test.YtblbkfdhjfppkaaGreatDoorP02
set_option linter.defProp false
set_option maxRecDepth 100000
set_option maxHeartbeats 4000000
namespace Go.Proofs.YtblbkfdhjfppkaaGreatDoor
open Hs
open _root_.Go.Proofs.Tryz
open Go.RowKit
def TC{τ:Type}(t:τ)(D:Nat)(B:τ->Array Value->World->Prop)(Bx:τ->Code->Array Value->World->Prop)(x:Array Value)(W:World):Exit->Act->World->Prop
 |.normal,_,W'=>(W'.heap[D]?=W.heap[D]?/\W'.heap[D+1]?=W.heap[D+1]?)/\B t x W'
 |.ret,_,W'=>(W'.heap[D]?=W.heap[D]?/\W'.heap[D+1]?=W.heap[D+1]?)/\Bx t .ret x W'
 |.exit id,_,W'=>(W'.heap[D]?=W.heap[D]?/\W'.heap[D+1]?=W.heap[D+1]?)/\Bx t (.exit id) x W'
 |_,_,_=>False
def CC{τ:Type}{P:Program}{g:Operand}{ps:Array Tmp}{assign body:Code}{Q:Exit->Act->World->Prop}{a:Act}{w:World}{gf:Nat}{lb:Array Value}
 (hg:a.eval g=.func (.func gf) #[] lb) (eg:∀args w,(callFunc gf args).run P w=.ok (.enter gf args) w)
 (A B:τ->Array Value->World->Prop) (Ax:τ->Array Value->Act->World->Prop) (Bx:τ->Code->Array Value->World->Prop) (Z:World->Prop) (ab:∀t x W,A t x W->x.size=ps.size)
 (ae:∀t x q W r,Ax t x q W->Ax t x q (W.putObj (w.heap.size+1) (.loop r))) (hB:∀t x W r,B t x W->B t x (W.putObj (w.heap.size+1) (.loop r))) (F:∀t c x W r,Bx t c x W->Bx t c x (W.putObj (w.heap.size+1) (.loop r))) (hZ:∀W r,Z W->Z (W.putObj (w.heap.size+1) (.loop r)))
 (l:∀t x W (K:Act->World->Prop),A t x W->(∀q i,i.heap[w.heap.size]?=W.heap[w.heap.size]?->i.heap[w.heap.size+1]?=W.heap[w.heap.size+1]?->Ax t x q i->K q i)->
   assign.wpIn (Fence.wide.inRound (w.heap.size+1)) 0 P (Exit.then K (fun _ _ _=>False)) { tmps:=(ps.zip x).foldl (fun t (p,v)=>t.setIfInBounds p v) a.tmps,defers:=[] } W)
 (z:∀t x q W,Ax t x q W->w.heap.size+1<W.heap.size->body.wpIn (Fence.wide.inRound (w.heap.size+1)) 0 P (TC t w.heap.size B Bx x W) q W)
 (U:∀(R0:Loop) (Rdy:World->Prop) (Don:Code->World->Prop),(∀W i,Rdy W->i.heap[w.heap.size]?=W.heap[w.heap.size]?->i.heap[w.heap.size+1]?=W.heap[w.heap.size+1]?->Rdy i)->(∀W,Rdy W->w.heap.size+1<W.heap.size)->(∀c W i,Don c W->i.heap[w.heap.size]?=W.heap[w.heap.size]?->i.heap[w.heap.size+1]?=W.heap[w.heap.size+1]?->Don c i)->(∀c W,Don c W->w.heap.size+1<W.heap.size)->
   Rdy ((w.alloc (.deferred (some []))).alloc (.loop R0))->
   (∀t x W,A t x W->Rdy W->YieldAt Fence.wide 0 P (w.heap.size+1) x W fun e i=>(e=.returned (.bool true)/\B t x i/\Rdy i)\/(e=.returned (.bool false)/\∃c,Bx t c x i/\Don c i))->
   CallsIn Fence.wide 0 P gf (#[.func (.yield (w.heap.size+1)) #[] #[]]++lb) ((w.alloc (.deferred (some []))).alloc (.loop R0)) fun e i=>(∃v,e=.returned v)/\((Z i/\Rdy i)\/∃t c x,Bx t c x i/\Don c i))
 (E:∀W,Z W->W.heap[w.heap.size]?=some (.deferred (some []))->w.heap.size+1<W.heap.size->Q .normal { a with defers:={ target:=.collected w.heap.size,args:= #[] }::a.defers } W)
 (H:∀t c x W,Bx t c x W->W.heap[w.heap.size]?=some (.deferred (some []))->w.heap.size+1<W.heap.size->c.wpIn Fence.wide 0 P Q { a with defers:={ target:=.collected w.heap.size,args:= #[] }::a.defers } W):
 (Code.rangeFunc g ps assign body).wpIn Fence.wide 0 P Q a w:=by
 refine wpIn_rangeFunc ?_;intro fn ad;obtain⟨d,f⟩:∃d:LoopState->Option Code->Loop,d=fun st pe=>{ state:=st,pending:=pe,fn,tmps:=a.tmps,params:=ps,assign,body,defers:=w.heap.size }:=⟨_,rfl⟩
 obtain⟨G,u⟩:∃G,(w.alloc (.deferred (some []))).alloc (.loop (d .ready none))=G:=⟨_,rfl⟩
 have aa:G.heap[w.heap.size+1]?=some (.loop (d .ready none)):=by
  rw[<-u];have:=World.alloc_heap_new (w.alloc (.deferred (some []))) (.loop (d .ready none));rwa [World.size_alloc] at this
 have Y:G.heap[w.heap.size]?=some (.deferred (some [])):=by
  rw[<-u];exact(aA_ _ _ _ (by simp)).trans (World.alloc_heap_new w _)
 refine⟨w.heap.size+1,[{ target:=.collected w.heap.size,args:= #[] }],G,{ target:=.fn (.func gf) lb,args:= #[.func (.yield (w.heap.size+1)) #[] #[]] },G,gf,
  #[.func (.yield (w.heap.size+1)) #[] #[]]++lb,G,?_,?_,fun _ _=>trivial,?_,fun h=>by simp[Fence.wide] at h,?_⟩
 ·rw[<-u,f];exact run_enterLoop_outer _ _ _ _ _
 ·simp only[resolve,hg];simp[go_sem]
 ·simp[invoke,go_sem,eg]
 ·have hs:=U (d .ready none) (fun W=>W.heap[w.heap.size+1]?=some (.loop (d .ready none))/\W.heap[w.heap.size]?=some (.deferred (some [])))
   (fun c W=>W.heap[w.heap.size+1]?=some (.loop (d .done (some c)))/\W.heap[w.heap.size]?=some (.deferred (some [])))
   (fun W i h L S=>⟨by rw[S];exact h.1,by rw[L];exact h.2⟩) (fun W h=>(bi_.1 h.1).1) (fun c W i h L S=>⟨by rw[S];exact h.1,by rw[L];exact h.2⟩) (fun c W h=>(bi_.1 h.1).1)
  rw[u] at hs;refine(hs ⟨aa,Y⟩ ?_).mono ?_
  ·rintro t x W N ⟨s,I⟩;have hy:=run_yield (P:=P) (args:=x) s (by rw[f];exact ab t x W N)
   rw[f] at hy;refine⟨fn,_,assign,body,hy,roundIn_of_wpIn ad (l t x W _ N ?_)⟩;clear hy;intro q Wa L S O;rw[<-S] at s;rw[<-L] at I;have k:w.heap.size+1<Wa.heap.size:=(bi_.1 s).1;refine⟨_,run_beginRound s (by rw[f]),?_⟩
   have y:(Wa.putObj (w.heap.size+1) (.loop { d .ready none with state:=.busy })).heap[w.heap.size+1]?=some (.loop { d .ready none with state:=.busy }):=World.putObj_heap_same k
   have C:(Wa.putObj (w.heap.size+1) (.loop { d .ready none with state:=.busy })).heap[w.heap.size]?=some (.deferred (some [])):=(World.putObj_heap_other (by omega)).trans I
   refine wpIn_mono (z t x q _ (ae _ _ _ _ _ O) (bi_.1 y).1) ?_
   have D:∀(b:Option Code) (j:World),j.heap[w.heap.size]?=some (.deferred (some []))->j.heap[w.heap.size+1]?=some (.loop { d .ready none with state:=.busy })->
    (Instr.endRound (w.heap.size+1) b).run P j=.ok (.bool b.isNone) (j.putObj (w.heap.size+1) (.loop (d (if b.isNone then .ready else .done) b)))/\
    (j.putObj (w.heap.size+1) (.loop (d (if b.isNone then .ready else .done) b))).heap[w.heap.size+1]?=some (.loop (d (if b.isNone then .ready else .done) b))/\
    (j.putObj (w.heap.size+1) (.loop (d (if b.isNone then .ready else .done) b))).heap[w.heap.size]?=some (.deferred (some [])):=fun b j ac M=>by
    have:=run_endRound (P:=P) b M;rw[f] at this ⊢
    exact⟨this,World.putObj_heap_same (bi_.1 M).1,(World.putObj_heap_other (by omega)).trans ac⟩
   rintro e a3 j J;cases e with
   |normal=>
    obtain⟨⟨V,T⟩,o⟩:=J;obtain⟨X,m,n⟩:=D none j (V.trans C) (T.trans y);exact⟨_,_,X,.inl ⟨rfl,hB _ _ _ _ o,m,n⟩⟩
   |ret=>
    obtain⟨⟨V,T⟩,o⟩:=J;obtain⟨X,m,n⟩:=D (some .ret) j (V.trans C) (T.trans y);exact⟨_,_,X,.inr ⟨rfl,.ret,F _ _ _ _ _ o,m,n⟩⟩
   |exit id=>
    obtain⟨⟨V,T⟩,o⟩:=J;obtain⟨X,m,n⟩:=D (some (.exit id)) j (V.trans C) (T.trans y);exact⟨_,_,X,.inr ⟨rfl,.exit id,F _ _ _ _ _ o,m,n⟩⟩
   |goto t=>exact J.elim
   |panic ch=>exact J.elim
   |outgrown=>exact J.elim
  ·rintro e W2 ⟨⟨v,rfl⟩,(⟨hz,s,I⟩|⟨t,c,x,hi,s,I⟩)⟩
   ·have k:=(bi_.1 s).1;exact⟨none,_,by have:=run_endLoop (P:=P) s (by rw[f];simp);rw[f] at this;exact this,E _ (hZ _ _ hz) ((World.putObj_heap_other (by omega)).trans I) (by simpa using k)⟩
   ·have k:=(bi_.1 s).1;exact⟨some c,_,by have:=run_endLoop (P:=P) s (by rw[f];simp);rw[f] at this;exact this,H t _ x _ (F _ _ _ _ _ hi) ((World.putObj_heap_other (by omega)).trans I) (by simpa using k)⟩
structure SV where
 t:Nat
 x1:Option Addr
 x2:Option Addr
 x3:Option Addr
 n1:Nat
 n2:Nat
 n3:Nat
 c1:Nat
 c2:Nat
 c3:Nat
 q:Nat
def SV.cells(s:SV):Array Value:= #[.int .i64 s.t,.slice s.x1 s.n1 s.c1,.slice s.x2 s.n2 s.c2,.slice s.x3 s.n3 s.c3,.int .i64 s.q]
def SV.val(s:SV):Value:=.agg #[.int .i64 s.t,.slice s.x1 s.n1 s.c1,.slice s.x2 s.n2 s.c2,.slice s.x3 s.n3 s.c3,.int .i64 s.q]
def dR(W:World)(b:Nat)(s:SV):World:=((((W.setCell ⟨b,0,none⟩ (.int .i64 s.t)).setCell ⟨b,1,none⟩ (.slice s.x1 s.n1 s.c1)).setCell ⟨b,2,none⟩ (.slice s.x2 s.n2 s.c2)).setCell ⟨b,3,none⟩ (.slice s.x3 s.n3 s.c3)).setCell ⟨b,4,none⟩ (.int .i64 s.q)
def wH{W:World}{b:Nat}{s:SV}{c:Array Value}{T:TypeId}{z:Nat × Nat}(h:W.heap[b]?=some (.cells c T z)):(dR W b s).heap[b]?=some (.cells (((((c.setIfInBounds 0 (.int .i64 s.t)).setIfInBounds 1 (.slice s.x1 s.n1 s.c1)).setIfInBounds 2 (.slice s.x2 s.n2 s.c2)).setIfInBounds 3 (.slice s.x3 s.n3 s.c3)).setIfInBounds 4 (.int .i64 s.q)) T z):=
 aS (aS (aS (aS (aS h))))
def qG{W:World}{b:Nat}{s:SV}{c:Array Value}{T:TypeId}{z:Nat × Nat}(h:W.heap[b]?=some (.cells c T z))(a:c.size=5):(dR W b s).heap[b]?=some (.cells s.cells T z):=by
 rw[wH h];obtain⟨l⟩:=c;match l,a with
 |[e,f,g,i,d],_=>rfl
def mR{W V:World}{b:Nat}{s:SV}{c:Array Value}{T:TypeId}(h:W.heap[b]?=some (.cells c T (0,0)))(e:5<=c.size)(d:V.heap[b]?=(dR W b s).heap[b]?):V.cell? ⟨b,0,none⟩=some (.int .i64 s.t)/\V.cell? ⟨b,1,none⟩=some (.slice s.x1 s.n1 s.c1)/\V.cell? ⟨b,2,none⟩=some (.slice s.x2 s.n2 s.c2)/\V.cell? ⟨b,3,none⟩=some (.slice s.x3 s.n3 s.c3)/\V.cell? ⟨b,4,none⟩=some (.int .i64 s.q):=by
 have a:=d.trans (wH (s:=s) h);obtain⟨l⟩:=c;rcases l with _|⟨g,_|⟨i,_|⟨j,_|⟨k,_|⟨f,r⟩⟩⟩⟩⟩
 case cons.cons.cons.cons.cons=>
  simp only[List.setIfInBounds_toArray,List.set_cons_zero,b1_] at a;exact⟨aA a (by simp),aA a (by simp),aA a (by simp),aA a (by simp),aA a (by simp)⟩
 all_goals simp at e
def cV(W:World)(b:Nat)(s:SV)(k:Nat)(h:k≠b):(dR W b s).heap[k]?=W.heap[k]?:=by
 unfold dR;rw[ax_ _ _ _ _ h,ax_ _ _ _ _ h,ax_ _ _ _ _ h,ax_ _ _ _ _ h,ax_ _ _ _ _ h]
def fO(W:World)(b:Nat)(s:SV):(dR W b s).heap.size=W.heap.size/\(dR W b s).os=W.os/\(dR W b s).tape=W.tape/\(dR W b s).output=W.output:=by
 have a:∀(W:World) (p:Addr) (u:Value),(W.setCell p u).os=W.os/\(W.setCell p u).tape=W.tape/\(W.setCell p u).output=W.output/\(W.setCell p u).heap.size=W.heap.size:=fun W p u=>⟨rfl,rfl,rfl,by simp⟩
 unfold dR;simp[a]
def PC(l D sb:Nat)(s:SV)(W:World)(L:Nat->Nat->SV->Bool->World->Prop)(B:Nat->Nat->SV->World->Prop)(Z:World->Prop)
 (H:W.cell? ⟨D,0,none⟩=some (.pointer (some ⟨sb,0,none⟩))) (N:D<W.heap.size) (M:sb<W.heap.size)
 (k0:W.cell? ⟨sb,0,none⟩=some (.int .i64 s.t)) (k1:W.cell? ⟨sb,1,none⟩=some (.slice s.x1 s.n1 s.c1)) (k2:W.cell? ⟨sb,2,none⟩=some (.slice s.x2 s.n2 s.c2)) (k3:W.cell? ⟨sb,3,none⟩=some (.slice s.x3 s.n3 s.c3)) (k4:W.cell? ⟨sb,4,none⟩=some (.int .i64 s.q)) (E:Nat)
 (o:Hid (Calls prog 111 #[.pointer (some ⟨sb,0,none⟩),s.val] W.drew fun e w'=>∃d ok,e=.returned (.tuple #[SV.val d,.bool ok])/\L E w'.heap.size d ok (w'.alloc (.cells d.cells 108))))
 (m:Hid (∀c,c.size=5->Calls prog 111 #[.pointer (some ⟨sb,0,none⟩),s.val] (W.drew.alloc (.cells c 108)) fun e w'=>∃d ok,e=.returned (.tuple #[SV.val d,.bool ok])/\w'.heap[W.heap.size]?=some (.cells c 108 (0,0))/\L E W.heap.size d ok (dR w' W.heap.size d)))
 (HL:Hid (∀gk b d wr,L gk b d true wr->wr.heap[b]?=some (.cells d.cells 108 (0,0))/\YieldAt Fence.wide 0 prog l #[d.val] wr fun e Q=>(e=.returned (.bool true)/\B gk b d Q)\/(e=.returned (.bool false)/\Z Q)))
 (HZ:Hid (∀gk b d wr,L gk b d false wr->Z wr))
 (HB:Hid (∀gk b d wr,B gk b d wr->wr.cell? ⟨D,0,none⟩=some (.pointer (some ⟨sb,0,none⟩))/\wr.heap[b]?=some (.cells d.cells 108 (0,0))/\∃j,gk=j+1/\Calls prog 111 #[.pointer (some ⟨sb,0,none⟩),d.val] wr fun e w'=>∃k ok,e=.returned (.tuple #[SV.val k,.bool ok])/\(∃c,w'.heap[b]?=some (.cells c 108 (0,0))/\c.size=5)/\L j b k ok (dR w' b k))):
 Calls prog 118 #[.func (.yield l) #[] #[],.pointer (some ⟨D,0,none⟩)] W fun e w'=>e=.returned (.tuple #[])/\Z w':=by
 unfold SV.val SV.cells at o;unfold SV.val dR at m;go_enter func118,ntmps118;go_upto_region 0 with fail
 go_cut [3,4] from 5 (fun s3 G w=>∃b d ok,s3=.pointer (some ⟨b,0,none⟩)/\G=.bool ok/\L E b d ok w)
 case first=>
  go_region_law (go_simp;go_at_call 111;first|(refine(m.out _ rfl).mono ?_;rintro e w1 ⟨d,ok,rfl,g,v⟩;have y:=aA (i:=0) g rfl;have x:=aA (i:=1) g rfl;have t:=aA (i:=2) g rfl;have u:=aA (i:=3) g rfl;have z:=aA (i:=4) g rfl;have P:=aE (i:=0) g;have S:=aE (i:=1) g;have Y:=aE (i:=2) g;have f3:=aE (i:=3) g;have f4:=aE (i:=4) g;clear g)|(refine o.out.mono ?_;rintro e w1 ⟨d,ok,rfl,v⟩))
  all_goals (try clear y x t u z P S Y f3 f4)
  all_goals (have I:=aB v;clear v k0 k1 k2 k3 k4 H o m N M)
  all_goals (go_simp;go_step;go_meet)
  all_goals exact⟨_,_,_,rfl,rfl,I.out⟩
 case rest=>
  obtain⟨b,s1,ab,rfl,rfl,v⟩:=hcut;have I:=aB v;clear v o m;go_wp2_with fail;go_loopg [4] E (fun gk G wr=>∃d ok,G=.bool ok/\L gk b d ok wr)
  case atStart=>exact⟨_,_,rfl,I.out⟩
  case round=>
   obtain⟨d,ok,rfl,q⟩:=hrel;cases ok
   ·have K:=aB (HZ.out _ _ _ _ q);clear q;go_wp2_with fail;go_end0;exact⟨rfl,K.out⟩
   ·obtain⟨a,fn,T,F,O,V,hR⟩:=HL.out _ _ _ _ q;have U:=aB hR;unfold SV.cells at a;have y:=aA (i:=0) a rfl;have x:=aA (i:=1) a rfl;have t:=aA (i:=2) a rfl;have u:=aA (i:=3) a rfl;have z:=aA (i:=4) a rfl;have h:=aD a;unfold SV.val at V;clear q hR a;refine(wpIn_wide (n:=0)).1 ?_;gi_wp2
    refine⟨rfl,U.out.mono ?_⟩;rintro e W3 (⟨rfl,C⟩|⟨rfl,J⟩)
    ·obtain⟨e1,p,j,rfl,X⟩:=HB.out _ _ _ _ C;have r:=aB X;unfold SV.cells at p;unfold SV.val at r;clear C X V U y x t u z h;have y:=aA (i:=0) p rfl;have x:=aA (i:=1) p rfl;have t:=aA (i:=2) p rfl;have u:=aA (i:=3) p rfl;have z:=aA (i:=4) p rfl;have h:=aD p;clear p;gi_wp2
     refine⟨trivial,rfl,(callsIn_wide.2 r.out).mono ?_⟩;rintro e w4 ⟨k,ok,rfl,⟨c,f,aa⟩,q⟩;have A:=aB q;unfold dR at A;clear q r y x t u z h e1;have y:=aA (i:=0) f (aC_ (by omega))
     have x:=aA (i:=1) f (aC_ (by omega))
     have t:=aA (i:=2) f (aC_ (by omega))
     have u:=aA (i:=3) f (aC_ (by omega))
     have z:=aA (i:=4) f (aC_ (by omega))
     have P:=aE (i:=0) f;have S:=aE (i:=1) f;have Y:=aE (i:=2) f;have f3:=aE (i:=3) f;have f4:=aE (i:=4) f;have h:=aD f;clear f;gi_wp2
     go_roundg j
     case measure=>omega
     case rel=>exact⟨_,_,rfl,A.out⟩
    ·gi_wp2
     go_end0;exact⟨rfl,J⟩
attribute [local go_sem] Oper.semAt_some
def SV.val_inj{a b:SV}(h:a.val=b.val):a=b:=by
 cases a;cases b;simp only[SV.val,Value.agg.injEq] at h;simp at h;obtain⟨d,⟨rfl,rfl,rfl⟩,⟨rfl,rfl,rfl⟩,⟨rfl,rfl,rfl⟩,c⟩:=h;obtain rfl:=Int.ofNat.inj d;obtain rfl:=Int.ofNat.inj c;rfl
def WC{τ:Type}(P:Program)(gf:Nat)(lb:Array Value)(w:World)(A B:τ->SV->World->Prop)(E:τ->World->Prop):Prop:=
 ∀(R0:Loop) (Rdy:World->Prop) (Don:World->Prop),(∀W W',Rdy W->W'.heap[w.heap.size]?=W.heap[w.heap.size]?->W'.heap[w.heap.size+1]?=W.heap[w.heap.size+1]?->Rdy W')->(∀W,Rdy W->w.heap.size+1<W.heap.size)->(∀W W',Don W->W'.heap[w.heap.size]?=W.heap[w.heap.size]?->W'.heap[w.heap.size+1]?=W.heap[w.heap.size+1]?->Don W')->
  Rdy ((w.alloc (.deferred (some []))).alloc (.loop R0))->
  (∀t s W,A t s W->Rdy W->YieldAt Fence.wide 0 P (w.heap.size+1) #[s.val] W fun e W'=>(e=.returned (.bool true)/\B t s W'/\Rdy W')\/(e=.returned (.bool false)/\E t W'/\Don W'))->
  Calls P gf (#[.func (.yield (w.heap.size+1)) #[] #[]]++lb) ((w.alloc (.deferred (some []))).alloc (.loop R0)) fun e W'=>(∃v,e=.returned v)/\∃t,E t W'/\(Rdy W'\/Don W')
def IQ{τ:Type}(w:World)(sb gf G:Nat)(lb N:Array Value)(s:SV)(R:Bool->World->Prop)(A B:τ->SV->World->Prop)(O:τ->SV->Nat->World->Prop)(E:τ->World->Prop)
 (ae:sb<w.heap.size)
 (k0:w.cell? ⟨sb,0,none⟩=some (.int .i64 s.t)) (k1:w.cell? ⟨sb,1,none⟩=some (.slice s.x1 s.n1 s.c1)) (k2:w.cell? ⟨sb,2,none⟩=some (.slice s.x2 s.n2 s.c2)) (k3:w.cell? ⟨sb,3,none⟩=some (.slice s.x3 s.n3 s.c3)) (k4:w.cell? ⟨sb,4,none⟩=some (.int .i64 s.q))
 (ab:∀args W,(callFunc gf args).run prog W=.ok (.enter gf args) W) (ad:∀args W,(callFunc G args).run prog W=.ok (.enter G args) W)
 (p:Hid (∀t d b W r,O t d b W->O t d b (W.putObj (w.heap.size+4) (.loop r)))) (C:Hid (∀t d W r,B t d W->B t d (W.putObj (w.heap.size+4) (.loop r)))) (o:Hid (∀t W r,E t W->E t (W.putObj (w.heap.size+4) (.loop r))))
 (HA:Hid (∀t d W,A t d W->O t d W.heap.size (W.alloc (.cells d.cells 108))/\w.heap.size+4<W.heap.size))
 (u:Hid (∀t d b W,O t d b W->W.heap[b]?=some (.cells d.cells 108 (0,0))/\W.heap[w.heap.size]?=some (.cells #[.func (.func G) #[] N] 132 (0,0))/\(∃c,W.heap[w.heap.size+1]?=some (.cells c 108 (0,0))/\5<=c.size)/\(∃v,W.heap[w.heap.size+1+1]?=some (.cells #[v] 4 (0,0)))/\b≠w.heap.size/\b≠w.heap.size+1/\b≠w.heap.size+1+1/\
   Calls prog G (#[d.val]++N) ((dR W (w.heap.size+1) d).setCell ⟨w.heap.size+1+1,0,none⟩ (.bool true)) fun e I=>∃r,e=.returned (.bool r)/\(I.heap[w.heap.size+3]?=W.heap[w.heap.size+3]?/\I.heap[w.heap.size+3+1]?=W.heap[w.heap.size+3+1]?)/\(r=true->E t I)/\(r=false->B t d I)))
 (U:Hid (∀t W,E t W->∃a fd,W.heap[w.heap.size+1]?=some (.cells (SV.cells a) 108 (0,0))/\W.heap[w.heap.size+1+1]?=some (.cells #[.bool fd] 4 (0,0))/\(∃c T,W.heap[sb]?=some (.cells c T (0,0))/\5<=c.size)/\R fd ((dR W sb a).putObj (w.heap.size+3) (.deferred none))))
 (HI:Hid (∀M,M=((w.alloc (.cells #[.func (.func G) #[] N] 132)).alloc (.cells s.cells 108)).alloc (.cells #[.bool false] 4)->WC prog gf lb M A B E)):
 Calls prog 64 #[.pointer (some ⟨sb,0,none⟩),.func (.func gf) #[] lb,.func (.func G) #[] N] w fun e w'=>∃b,e=.returned (.bool b)/\R b w':=by
 refine(callsIn_wide (n:=0)).1 (callsIn_of_wp_marks func64 rfl trivial ?_ rfl);simp only[ntmps64,List.size_toArray,aB_,aI_,Nat.reduceAdd,Nat.reduceSub,Array.replicate_succ,Array.replicate_zero,List.push_toArray,List.append_toArray,by_,aY_];refine wpIn_wide.2 ?_;go_wp2_with fail;have D:=HI.out _ rfl;unfold SV.cells at D;obtain⟨M,H⟩:∃M,((w.alloc (.cells #[.func (.func G) #[] N] 132)).alloc (.cells #[.int .i64 s.t,.slice s.x1 s.n1 s.c1,.slice s.x2 s.n2 s.c2,.slice s.x3 s.n3 s.c3,.int .i64 s.q] 108)).alloc (.cells #[.bool false] 4)=M:=⟨_,rfl⟩;have k:M.heap.size=w.heap.size+3:=by rw[<-H];simp
 rw[H] at D ⊢
 clear H HI;have y:=aB D;clear D
 refine wpIn_wide.1 (CC (P:=prog) (gf:=gf) (lb:=lb) rfl ab (fun t x W=>∃d,x= #[SV.val d]/\A t d W) (fun t x W=>∃d,x= #[SV.val d]/\B t d W)
  (fun t x a' W=>∃d b,x= #[SV.val d]/\a'={ tmps:= #[.pointer (some ⟨sb,0,none⟩),.func (.func gf) #[] lb,.func (.func G) #[] N,undef,undef,.pointer (some ⟨w.heap.size,0,none⟩),.bool false,.pointer (some ⟨w.heap.size+1,0,none⟩),.pointer (some ⟨w.heap.size+1+1,0,none⟩),.pointer (some ⟨b,0,none⟩),.pointer (some ⟨sb,0,none⟩),.pointer (some ⟨sb,0,none⟩),.pointer (some ⟨sb,0,none⟩),s.val,.func (.func gf) #[] lb,SV.val d,undef,undef,undef,undef,undef,undef,undef,undef,undef],defers:=[] }/\O t d b W)
  (fun t c x W=>c=.exit 0/\E t W) (fun W=>∃t,E t W) ?hps ?hAx ?hB ?hBx ?hZ ?hassign ?hbody ?hseq ?hdone ?hstop)
 case hps=>rintro t x W ⟨d,rfl,_⟩;rfl
 case hAx=>rintro t x a' W r ⟨d,b,rfl,rfl,h⟩;rw[k];exact⟨d,b,rfl,rfl,p.out _ _ _ _ _ h⟩
 case hB=>rintro t x W r ⟨d,rfl,h⟩;rw[k];exact⟨d,rfl,C.out _ _ _ _ h⟩
 case hBx=>rintro t c x W r ⟨rfl,h⟩;rw[k];exact⟨rfl,o.out _ _ _ h⟩
 case hZ=>rintro W r ⟨t,h⟩;rw[k];exact⟨t,o.out _ _ _ h⟩
 case hassign=>
  rintro t x W K ⟨d,rfl,h⟩ hK;obtain⟨q1,q2⟩:=HA.out _ _ _ h;have Y:=aB (hK _ _ (aA_ _ _ _ (by rw[k];omega)) (aA_ _ _ _ (by rw[k];omega)) ⟨d,_,rfl,rfl,q1⟩)
  unfold SV.val SV.cells at Y;clear hK q1 h;unfold SV.val;gi_wp2
  exact Y.out
 case hbody=>
  rintro t x a' W ⟨d,b,rfl,rfl,h⟩ z;obtain⟨g,l,⟨c,f,S⟩,⟨v,e4⟩,n1,n2,n3,hF⟩:=u.out _ _ _ _ h;rw[k];have HF:=aB hF;unfold dR SV.val at HF;unfold SV.val;unfold SV.cells at g;have d0:=aA (i:=0) g rfl;have d1:=aA (i:=1) g rfl;have d2:=aA (i:=2) g rfl;have d3:=aA (i:=3) g rfl;have d4:=aA (i:=4) g rfl;have c0:=aA (i:=0) l rfl;have g0:=aA (i:=0) f (aC_ (by omega))
  have g1:=aA (i:=1) f (aC_ (by omega))
  have g2:=aA (i:=2) f (aC_ (by omega))
  have g3:=aA (i:=3) f (aC_ (by omega))
  have g4:=aA (i:=4) f (aC_ (by omega))
  have f0:=aE (i:=0) f;have f1:=aE (i:=1) f;have f2:=aE (i:=2) f;have f3:=aE (i:=3) f;have f4:=aE (i:=4) f;have o0:=aA (i:=0) e4 rfl;have o1:=aE (i:=0) e4;have l1:=aD g;have l2:=aD l;have l3:=aD f;have l4:=aD e4;clear h hF g l f e4 HA u U p C o y k0 k1 k2 k3 k4;gi_wp2
  refine⟨trivial,rfl,(CallsIn.inRound _ (callsIn_wide.2 HF.out)).mono ?_⟩;rintro e I ⟨r,rfl,hq,F,hB⟩;cases r
  ·have HB:=aB (hB rfl);clear hB F HF d0 d1 d2 d3 d4 c0 g0 g1 g2 g3 g4 f0 f1 f2 f3 f4 o0 o1;gi_wp2
   exact⟨hq,d,rfl,HB.out⟩
  ·have ac:=aB (F rfl);clear hB F HF d0 d1 d2 d3 d4 c0 g0 g1 g2 g3 g4 f0 f1 f2 f3 f4 o0 o1;gi_wp2
   exact⟨hq,rfl,ac.out⟩
 case hseq=>
  intro R0 Rdy Don h1 h2 h3 h4 h5 hY;refine callsIn_wide.2 ((y.out R0 Rdy (Don (Code.exit 0)) h1 h2 (h3 _) h5 ?_).mono ?_)
  ·intro t d W hA L;obtain⟨fn,tmps,q,X,hy,hr⟩:=hY t #[SV.val d] W ⟨d,rfl,hA⟩ L;refine⟨fn,tmps,q,X,hy,hr.mono ?_⟩;rintro e I (⟨rfl,⟨s2,l,hB⟩,aa⟩|⟨rfl,c,⟨rfl,F⟩,m⟩)
   ·obtain rfl:s2=d:=SV.val_inj (by simpa using l.symm)
    exact av_ ⟨rfl,hB,aa⟩
   ·exact as_ ⟨rfl,F,m⟩
  ·rintro e I ⟨hv,t,F,hr|m⟩
   ·exact⟨hv,av_ ⟨⟨t,F⟩,hr⟩⟩
   ·exact⟨hv,as_ ⟨t,_,#[],⟨rfl,F⟩,m⟩⟩
 case hdone=>
  rintro W ⟨t,Q⟩ m z;rw[k] at m z ⊢
  obtain⟨a,fd,g,l,⟨c,T,f,S⟩,L⟩:=U.out _ _ Q;have Z:=aB L;unfold dR at Z;unfold SV.cells at g;have d0:=aA (i:=0) g rfl;have d1:=aA (i:=1) g rfl;have d2:=aA (i:=2) g rfl;have d3:=aA (i:=3) g rfl;have d4:=aA (i:=4) g rfl;have o0:=aA (i:=0) l rfl;have g0:=aA (i:=0) f (aC_ (by omega))
  have g1:=aA (i:=1) f (aC_ (by omega))
  have g2:=aA (i:=2) f (aC_ (by omega))
  have g3:=aA (i:=3) f (aC_ (by omega))
  have g4:=aA (i:=4) f (aC_ (by omega))
  have f0:=aE (i:=0) f;have f1:=aE (i:=1) f;have f2:=aE (i:=2) f;have f3:=aE (i:=3) f;have f4:=aE (i:=4) f;have l1:=aD g;have l2:=aD l;have l3:=aD f;have n1:w.heap.size+1≠sb:=by omega
  have n2:w.heap.size+1+1≠sb:=by omega
  have V:(((((W.setCell ⟨sb,0,none⟩ (.int .i64 a.t)).setCell ⟨sb,1,none⟩ (.slice a.x1 a.n1 a.c1)).setCell ⟨sb,2,none⟩ (.slice a.x2 a.n2 a.c2)).setCell ⟨sb,3,none⟩ (.slice a.x3 a.n3 a.c3)).setCell ⟨sb,4,none⟩ (.int .i64 a.q)).heap[w.heap.size+3]?=some (.deferred (some [])):=by
   have j:w.heap.size+3≠sb:=by omega
   rw[ax_ _ _ _ _ j,ax_ _ _ _ _ j,ax_ _ _ _ _ j,ax_ _ _ _ _ j,ax_ _ _ _ _ j];exact m
  have J:=aB V;clear L g l f U HA u p C o y Q m V k0 k1 k2 k3 k4;go_wp2_with fail;refine⟨by simp,.inl ⟨_,_,rfl,run_takeDeferred J.out,?_⟩⟩
  exact⟨_,results_tmp rfl _ _ _,_,rfl,Z.out⟩
 case hstop=>
  rintro t c x W ⟨rfl,Q⟩ m z;rw[k] at m z ⊢
  obtain⟨a,fd,g,l,⟨c,T,f,S⟩,L⟩:=U.out _ _ Q;have Z:=aB L;unfold dR at Z;unfold SV.cells at g;have d0:=aA (i:=0) g rfl;have d1:=aA (i:=1) g rfl;have d2:=aA (i:=2) g rfl;have d3:=aA (i:=3) g rfl;have d4:=aA (i:=4) g rfl;have o0:=aA (i:=0) l rfl;have g0:=aA (i:=0) f (aC_ (by omega))
  have g1:=aA (i:=1) f (aC_ (by omega))
  have g2:=aA (i:=2) f (aC_ (by omega))
  have g3:=aA (i:=3) f (aC_ (by omega))
  have g4:=aA (i:=4) f (aC_ (by omega))
  have f0:=aE (i:=0) f;have f1:=aE (i:=1) f;have f2:=aE (i:=2) f;have f3:=aE (i:=3) f;have f4:=aE (i:=4) f;have l1:=aD g;have l2:=aD l;have l3:=aD f;have n1:w.heap.size+1≠sb:=by omega
  have n2:w.heap.size+1+1≠sb:=by omega
  have V:(((((W.setCell ⟨sb,0,none⟩ (.int .i64 a.t)).setCell ⟨sb,1,none⟩ (.slice a.x1 a.n1 a.c1)).setCell ⟨sb,2,none⟩ (.slice a.x2 a.n2 a.c2)).setCell ⟨sb,3,none⟩ (.slice a.x3 a.n3 a.c3)).setCell ⟨sb,4,none⟩ (.int .i64 a.q)).heap[w.heap.size+3]?=some (.deferred (some [])):=by
   have j:w.heap.size+3≠sb:=by omega
   rw[ax_ _ _ _ _ j,ax_ _ _ _ _ j,ax_ _ _ _ _ j,ax_ _ _ _ _ j,ax_ _ _ _ _ j];exact m
  have J:=aB V;clear L g l f U HA u p C o y Q m V k0 k1 k2 k3 k4;refine wpIn_wide.2 ?_;go_wp2_with fail;refine⟨by simp,.inl ⟨_,_,rfl,run_takeDeferred J.out,?_⟩⟩
  exact⟨_,results_tmp rfl _ _ _,_,rfl,Z.out⟩
def BS(w:World)(sb:Nat)(s:SV)(P N:SV->Bool->World->Prop)
 (r:Hid (Calls prog 163 #[s.val] ((w.alloc (.cells s.cells 108)).alloc (.cells #[.int .i64 0,.slice none 0 0,.slice none 0 0,.slice none 0 0,.int .i64 0] 108)) fun e g=>∃a ok,e=.returned (.tuple #[SV.val a,.bool ok])/\N a ok g))
 (t:Hid (∀a W,N a false W->(∃c,W.heap[w.heap.size+1]?=some (.cells c 108 (0,0))/\5<=c.size)/\P a false ((dR W (w.heap.size+1) a).alloc (.cells a.cells 108))))
 (H:Hid (∀a W,N a true W->Calls prog 71 #[.pointer (some ⟨sb,0,none⟩),a.val] (W.alloc (.cells a.cells 108)) fun e g=>e=.returned (.tuple #[])/\g.heap[W.heap.size]?=some (.cells a.cells 108 (0,0))/\(∃c,g.heap[w.heap.size+1]?=some (.cells c 108 (0,0))/\5<=c.size)/\w.heap.size+1<W.heap.size/\P a true (dR g (w.heap.size+1) a))):
 Calls prog 111 #[.pointer (some ⟨sb,0,none⟩),s.val] w fun e g=>∃a ok,e=.returned (.tuple #[SV.val a,.bool ok])/\P a ok g:=by
 unfold SV.val SV.cells at r;unfold SV.val;go_enter func111,ntmps111;go_wp2_with fail;refine r.out.mono ?_;rintro e n ⟨a,ok,rfl,q⟩;cases ok
 ·obtain⟨⟨c,b,l⟩,o⟩:=t.out _ _ q;have m:=aB o;unfold dR SV.cells at m;have z:=aA (i:=0) b (aC_ (by omega))
  have F:=aA (i:=1) b (aC_ (by omega))
  have x:=aA (i:=2) b (aC_ (by omega))
  have L:=aA (i:=3) b (aC_ (by omega))
  have E:=aA (i:=4) b (aC_ (by omega))
  have u:=aE (i:=0) b;have y:=aE (i:=1) b;have I:=aE (i:=2) b;have K:=aE (i:=3) b;have J:=aE (i:=4) b;have M:=aD b;have Z:n.heap.size≠w.heap.size+1:=by omega
  have p:=mR (W:=n) (V:=(dR n (w.heap.size+1) a).alloc (.cells a.cells 108)) (s:=a) b l (aA_ _ _ _ (by rw[(fO _ _ _).1];exact M))
  have j:=aB p;unfold dR SV.cells at j;clear o q r t H b p;go_wp2_with fail;have d:=j.out;have f:=m.out;clear j m z F x L E u y I K J;generalize (((((n.setCell ⟨w.heap.size+1,0,none⟩ (.int .i64 a.t)).setCell ⟨w.heap.size+1,1,none⟩ (.slice a.x1 a.n1 a.c1)).setCell ⟨w.heap.size+1,2,none⟩ (.slice a.x2 a.n2 a.c2)).setCell ⟨w.heap.size+1,3,none⟩ (.slice a.x3 a.n3 a.c3)).setCell ⟨w.heap.size+1,4,none⟩ (.int .i64 a.q)).alloc (.cells #[.int .i64 a.t,.slice a.x1 a.n1 a.c1,.slice a.x2 a.n2 a.c2,.slice a.x3 a.n3 a.c3,.int .i64 a.q] 108)=X at d f ⊢
  obtain⟨A,B,D,G,C⟩:=d;exact bodyPost_ret (v:=.tuple #[.agg #[.int .i64 a.t,.slice a.x1 a.n1 a.c1,.slice a.x2 a.n2 a.c2,.slice a.x3 a.n3 a.c3,.int .i64 a.q],.bool false]) (by simp[results,results111,go_sem,A,B,D,G,C]) rfl ⟨a,false,rfl,f⟩
 ·have h:=aB (H.out _ _ q);unfold SV.val SV.cells at h;clear q r t H;go_wp2_with fail;refine h.out.mono ?_;rintro e O ⟨rfl,k,⟨c,b,l⟩,l1,o⟩;have m:=aB o;unfold dR at m;have U:=aA (i:=0) k rfl;have T:=aA (i:=1) k rfl;have Q:=aA (i:=2) k rfl;have S:=aA (i:=3) k rfl;have Y:=aA (i:=4) k rfl;have z:=aA (i:=0) b (aC_ (by omega))
  have F:=aA (i:=1) b (aC_ (by omega))
  have x:=aA (i:=2) b (aC_ (by omega))
  have L:=aA (i:=3) b (aC_ (by omega))
  have E:=aA (i:=4) b (aC_ (by omega))
  have u:=aE (i:=0) b;have y:=aE (i:=1) b;have I:=aE (i:=2) b;have K:=aE (i:=3) b;have J:=aE (i:=4) b;have M:=aD b;have l4:=aD k;have Z:n.heap.size≠w.heap.size+1:=by omega
  have p:=mR (W:=O) (s:=a) b l rfl;have j:=aB p;unfold dR at j;clear o h k b p;go_wp2_with fail;have d:=j.out;have f:=m.out;clear j m z F x L E u y I K J U T Q S Y;generalize ((((O.setCell ⟨w.heap.size+1,0,none⟩ (.int .i64 a.t)).setCell ⟨w.heap.size+1,1,none⟩ (.slice a.x1 a.n1 a.c1)).setCell ⟨w.heap.size+1,2,none⟩ (.slice a.x2 a.n2 a.c2)).setCell ⟨w.heap.size+1,3,none⟩ (.slice a.x3 a.n3 a.c3)).setCell ⟨w.heap.size+1,4,none⟩ (.int .i64 a.q)=X at d f ⊢
  obtain⟨A,B,D,G,C⟩:=d;exact bodyPost_ret (v:=.tuple #[.agg #[.int .i64 a.t,.slice a.x1 a.n1 a.c1,.slice a.x2 a.n2 a.c2,.slice a.x3 a.n3 a.c3,.int .i64 a.q],.bool true]) (by simp[results,results111,go_sem,A,B,D,G,C]) rfl ⟨a,true,rfl,f⟩
def KL(w:World)(g:ByteArray)(T:Nat)(D:T<=500)(P:SV->World->Prop)(L:Nat->Nat->World->Prop)(M:Nat->World->Prop)
 (r:Hid (Calls prog 32 #[.string g,.slice none 0 0] w fun e b=>∃a,e=.returned (.tuple #[.pointer (some ⟨a,0,none⟩),.int .i64 0,.int .i64 0])/\L 0 a b))
 (p:Hid (∀t a W,L t a W->Calls prog 28 #[.pointer (some ⟨a,0,none⟩)] W fun e b=>(t<T/\e=.returned (.bool true)/\L (t+1) a b)\/(t=T/\e=.returned (.bool false)/\M a b)))
 (h:Hid (∀a W,M a W->Calls prog 23 #[.pointer (some ⟨a,0,none⟩)] W fun e b=>∃m:SV,e=.returned m.val/\m.t=T/\m.q=1/\m.n1=0/\∀q,P m ((b.alloc (.cells m.cells 63)).drewN q))):
 Calls prog 35 #[.string g] w fun e b=>∃m:SV,e=.returned (.tuple #[.slice m.x3 m.n3 m.c3,.int .i64 T,.bool true])/\P m b:=by
 go_enter func35,ntmps35;go_wp2_with fail;refine r.out.mono ?_;rintro e B ⟨a,rfl,k⟩;have z:=aB k;clear k r;go_wp2_with fail;go_loopg [8] (T+1) (fun gk v wr=>∃t:Nat,v=.int .i64 t/\gk+t=T+1/\t<=T/\L t a wr)
 case atStart=>exact⟨0,rfl,by omega,by omega,z.out⟩
 case round=>
  obtain⟨t,rfl,y,A,o⟩:=hrel
  ·have c:=aB (p.out _ _ _ o);have E:(t:Int)<=500:=by omega
   clear o p;go_wp2_with fail;refine c.out.mono ?_;rintro e F (⟨i,rfl,f⟩|⟨i,rfl,f⟩)
   ·have x:=aB f;clear f c h;go_wp2_with fail;go_roundg (gk-1)
    case measure=>omega
    case rel=>exact⟨t+1,by simp,by omega,by omega,x.out⟩
   ·have d:=aB (h.out _ _ f);unfold SV.val SV.cells at d;clear f h c;go_wp2_with fail;refine d.out.mono ?_;rintro e C ⟨m,rfl,s,l,u,n⟩;have j:=aB n;clear n d;subst i;rw[s,l,u] at j;rw[s,l,u];go_wp2_with fail;go_quiet (fail)
    go_wp2_with fail;go_ret3
    exact⟨m,rfl,j.out _⟩
def sB(a b:List UInt8):bs a++bs b=bs (a++b):=by
 apply P5
 rw[fS,ByteArray.data_append];simp[bs]
def QT(f:Nat):∀n t,(jD f n t).length<=t.length+f:=by
 induction f with
 |zero=>intro n t;simp[jD]
 |succ f a=>
  intro n t;rw[jD];split
  ·simp
  ·have:=a (n/10) (UInt8.ofNat (48+n%10)::t);rw[aB_] at this;omega
def LV(n:Int):(iI n).length<=21:=by
 unfold iI;have:=QT 20 n.natAbs [];rw[aw_];split<;>simp at this ⊢<;>omega
def uA(l:List aJ)(h:∀x∈l,(cB x).length+2<=24*aK x):(fD (l.map cB)).length<=24*(l.map aK).sum:=by
 induction l with
 |nil=>simp[fD]
 |cons y r a=>
  have d:=h y (by simp)
  have b:=a fun x c=>h x (by simp[c])
  cases r with
  |nil=>simp[fD];omega
  |cons z r=>
   simp only[aM_,fD,aw_,aO_,aB_,aI_] at b ⊢
   omega
def xI:∀v:aJ,(cB v).length+2<=24*aK v:=by
 refine aJ.ind fun v a=>?_
 have c:=uA v.l a;have b:=LV v.n;rw[jR,eR];split
 ·omega
 split
 ·split<;>simp<;>omega
 split
 ·simp;omega
 ·simp;omega
def YL(s:List UInt8):(⟨#[34]⟩:ByteArray)++bs s=bs (34::s):=sB [34] s
def YM(s:List UInt8):bs s++(⟨#[34]⟩:ByteArray)=bs (s++[34]):=sB s [34]
def RV(n:Int):kS n=wrap64 n:=by unfold kS wrap64;rfl
def Hs.oneL_neg{op:List UInt8}{a:aJ}(h:op=[45,120])(b:a.sort=0):fF op a=(bC (wrap64 (-a.n)),0):=by
 rw[<-RV];unfold fF;rw[if_pos ⟨h,b⟩]
def XL(n:Int)(a: -9223372036854775808<=n)(b:n<=9223372036854775807):kS n=n:=by unfold kS;omega
def I5(x y:Int)(b: -9223372036854775808<=x)(a:x<=9223372036854775807): -9223372036854775808<=x.tmod y/\x.tmod y<=9223372036854775807:=by
 have h:(x.tmod y).natAbs=x.natAbs%y.natAbs:=Int.natAbs_tmod x y;have d:x.natAbs%y.natAbs<=x.natAbs:=Nat.mod_le _ _;by_cases c:0<=x
 ·have:=Int.tmod_nonneg y c;omega
 ·have:x.tmod y<=0:=by
   have:=Int.tmod_nonneg y (show 0<= -x by omega)
   rw[Int.neg_tmod] at this;omega
  omega
def Grow(F:Nat->Prop)(w w':World)(b:Nat):Prop:=F b\/(w.heap.size<=b/\b<w'.heap.size)
def uB:∀l m:List UInt8,Op.bytesLess l m=fY l m
 |[],[]=>rfl
 |[],_::_=>rfl
 |_::_,[]=>rfl
 |a::l,b::m=>by
  rw[Op.bytesLess,fY,uB l m];by_cases c:a.toNat<b.toNat
  ·rw[if_pos c,decide_eq_true (UInt8.lt_iff_toNat_lt.2 c),Bool.true_or]
  ·rw[if_neg c,decide_eq_false (fun h=>c (UInt8.lt_iff_toNat_lt.1 h)),Bool.false_or]
   by_cases d:b.toNat<a.toNat
   ·rw[if_pos d,beq_eq_false_iff_ne.2 (fun e=>by rw[e] at d;omega),Bool.false_and]
   ·rw[if_neg d,show a=b from bT_.1 (by omega),beq_self_eq_true,Bool.true_and]
def JC:∀l m:List UInt8,(fY l m || l==m)= !fY m l
 |[],[]=>rfl
 |[],_::_=>rfl
 |_::_,[]=>rfl
 |a::l,b::m=>by
  rw[fY,fY];by_cases d:a.toNat<b.toNat
  ·rw[if_pos d,if_neg (by omega),if_pos d];rfl
  ·by_cases c:b.toNat<a.toNat
   ·rw[if_neg d,if_pos c,if_pos c];have:(a::l==b::m)=false:=beq_eq_false_iff_ne.2 (fun e=>by rw[List.cons.injEq] at e;rw[e.1] at c;omega)
    rw[this];rfl
   ·rw[if_neg d,if_neg c,if_neg c,if_neg d,<-JC l m,show a=b from bT_.1 (by omega)]
    simp
end Go.Proofs.YtblbkfdhjfppkaaGreatDoor
