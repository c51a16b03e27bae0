/- A range over a function whose rounds the function itself knows: the law, where no fence stands. -/
import Derived.Test.YtblbkfdhjfppkaaGreatDoorB06
import Derived.Test.YtblbkfdhjfppkaaGreatDoorP02
set_option linter.defProp false
set_option maxRecDepth 100000
set_option maxHeartbeats 4000000
namespace Go.Proofs.YtblbkfdhjfppkaaGreatDoor
open Hs
open _root_.Go.Proofs.Tryz(prog)
open Go.RowKit
def TC{τ:Type}(t:τ)(D:Nat)(B:τ->Array Value->World->Prop)(Bx:τ->Code->Array Value->World->Prop)(x:Array Value)(W:World):Exit->Act->World->Prop
 |.normal,_,W'=>(W'.heap[D]?=W.heap[D]?/\W'.heap[D+1]?=W.heap[D+1]?)/\B t x W'
 |.ret,_,W'=>(W'.heap[D]?=W.heap[D]?/\W'.heap[D+1]?=W.heap[D+1]?)/\Bx t .ret x W'
 |.exit id,_,W'=>(W'.heap[D]?=W.heap[D]?/\W'.heap[D+1]?=W.heap[D+1]?)/\Bx t (.exit id) x W'
 |_,_,_=>False
def CC{τ:Type}{P:Program}{g:Operand}{ps:Array Tmp}{i l:Code}{Q:Exit->Act->World->Prop}{a:Act}{w:World}{gf:Nat}{lb:Array Value}
 (hg:a.eval g=.func (.func gf) #[] lb) (eg:∀k w,(callFunc gf k).run P w=.ok (.enter gf k) w)
 (A B:τ->Array Value->World->Prop) (Ax:τ->Array Value->Act->World->Prop) (Bx:τ->Code->Array Value->World->Prop) (Z:World->Prop) (af:∀t x W,A t x W->x.size=ps.size)
 (ac:∀t x y W r,Ax t x y W->Ax t x y (W.putObj (w.heap.size+1) (.loop r))) (hB:∀t x W r,B t x W->B t x (W.putObj (w.heap.size+1) (.loop r))) (L:∀t c x W r,Bx t c x W->Bx t c x (W.putObj (w.heap.size+1) (.loop r))) (hZ:∀W r,Z W->Z (W.putObj (w.heap.size+1) (.loop r)))
 (u:∀t x W (K:Act->World->Prop),A t x W->(∀y j,j.heap[w.heap.size]?=W.heap[w.heap.size]?->j.heap[w.heap.size+1]?=W.heap[w.heap.size+1]?->Ax t x y j->K y j)->
   i.wpIn (Fence.wide.inRound (w.heap.size+1)) 0 P (Exit.then K (fun _ _ _=>False)) { tmps:=(ps.zip x).foldl (fun t (p,v)=>t.setIfInBounds p v) a.tmps,defers:=[] } W)
 (E:∀t x y W,Ax t x y W->w.heap.size+1<W.heap.size->l.wpIn (Fence.wide.inRound (w.heap.size+1)) 0 P (TC t w.heap.size B Bx x W) y W)
 (S:∀(R0:Loop) (Rdy:World->Prop) (Don:Code->World->Prop),(∀W j,Rdy W->j.heap[w.heap.size]?=W.heap[w.heap.size]?->j.heap[w.heap.size+1]?=W.heap[w.heap.size+1]?->Rdy j)->(∀W,Rdy W->w.heap.size+1<W.heap.size)->(∀c W j,Don c W->j.heap[w.heap.size]?=W.heap[w.heap.size]?->j.heap[w.heap.size+1]?=W.heap[w.heap.size+1]?->Don c j)->(∀c W,Don c W->w.heap.size+1<W.heap.size)->
   Rdy ((w.alloc (.deferred (some []))).alloc (.loop R0))->
   (∀t x W,A t x W->Rdy W->YieldAt Fence.wide 0 P (w.heap.size+1) x W fun e j=>(e=.returned (.bool true)/\B t x j/\Rdy j)\/(e=.returned (.bool false)/\∃c,Bx t c x j/\Don c j))->
   CallsIn Fence.wide 0 P gf (#[.func (.yield (w.heap.size+1)) #[] #[]]++lb) ((w.alloc (.deferred (some []))).alloc (.loop R0)) fun e j=>(∃v,e=.returned v)/\((Z j/\Rdy j)\/∃t c x,Bx t c x j/\Don c j))
 (J:∀W,Z W->W.heap[w.heap.size]?=some (.deferred (some []))->w.heap.size+1<W.heap.size->Q .normal { a with defers:={ target:=.collected w.heap.size,args:= #[] }::a.defers } W)
 (I:∀t c x W,Bx t c x W->W.heap[w.heap.size]?=some (.deferred (some []))->w.heap.size+1<W.heap.size->c.wpIn Fence.wide 0 P Q { a with defers:={ target:=.collected w.heap.size,args:= #[] }::a.defers } W):
 (Code.rangeFunc g ps i l).wpIn Fence.wide 0 P Q a w:=by
 refine wpIn_rangeFunc ?_;intro fn ad;obtain⟨d,f⟩:∃d:LoopState->Option Code->Loop,d=fun st pe=>{ state:=st,pending:=pe,fn,tmps:=a.tmps,params:=ps,i,l,defers:=w.heap.size }:=⟨_,rfl⟩
 obtain⟨G,C⟩:∃G,(w.alloc (.deferred (some []))).alloc (.loop (d .ready none))=G:=⟨_,rfl⟩
 have ab:G.heap[w.heap.size+1]?=some (.loop (d .ready none)):=by
  rw[<-C];have:=World.alloc_heap_new (w.alloc (.deferred (some []))) (.loop (d .ready none));rwa [World.size_alloc] at this
 have ae:G.heap[w.heap.size]?=some (.deferred (some [])):=by
  rw[<-C];exact(aA_ _ _ _ (by simp)).trans (World.alloc_heap_new w _)
 refine⟨w.heap.size+1,[{ target:=.collected w.heap.size,args:= #[] }],G,{ target:=.fn (.func gf) lb,args:= #[.func (.yield (w.heap.size+1)) #[] #[]] },G,gf,
  #[.func (.yield (w.heap.size+1)) #[] #[]]++lb,G,?_,?_,fun _ _=>trivial,?_,fun h=>by simp[Fence.wide] at h,?_⟩
 ·rw[<-C,f];exact run_enterLoop_outer _ _ _ _ _
 ·simp only[resolve,hg];simp[go_sem]
 ·simp[invoke,go_sem,eg]
 ·have hs:=S (d .ready none) (fun W=>W.heap[w.heap.size+1]?=some (.loop (d .ready none))/\W.heap[w.heap.size]?=some (.deferred (some [])))
   (fun c W=>W.heap[w.heap.size+1]?=some (.loop (d .done (some c)))/\W.heap[w.heap.size]?=some (.deferred (some [])))
   (fun W j h e1 T=>⟨by rw[T];exact h.1,by rw[e1];exact h.2⟩) (fun W h=>(bi_.1 h.1).1) (fun c W j h e1 T=>⟨by rw[T];exact h.1,by rw[e1];exact h.2⟩) (fun c W h=>(bi_.1 h.1).1)
  rw[C] at hs;refine(hs ⟨ab,ae⟩ ?_).mono ?_
  ·rintro t x W O ⟨z,M⟩;have hy:=run_yield (P:=P) (args:=x) z (by rw[f];exact af t x W O)
   rw[f] at hy;refine⟨fn,_,i,l,hy,roundIn_of_wpIn ad (u t x W _ O ?_)⟩;clear hy;intro y Wa e1 T aa;rw[<-T] at z;rw[<-e1] at M;have s:w.heap.size+1<Wa.heap.size:=(bi_.1 z).1;refine⟨_,run_beginRound z (by rw[f]),?_⟩
   have D:(Wa.putObj (w.heap.size+1) (.loop { d .ready none with state:=.busy })).heap[w.heap.size+1]?=some (.loop { d .ready none with state:=.busy }):=World.putObj_heap_same s
   have H:(Wa.putObj (w.heap.size+1) (.loop { d .ready none with state:=.busy })).heap[w.heap.size]?=some (.deferred (some [])):=(World.putObj_heap_other (by omega)).trans M
   refine wpIn_mono (E t x y _ (ac _ _ _ _ _ aa) (bi_.1 D).1) ?_
   have F:∀(b:Option Code) (q:World),q.heap[w.heap.size]?=some (.deferred (some []))->q.heap[w.heap.size+1]?=some (.loop { d .ready none with state:=.busy })->
    (Instr.endRound (w.heap.size+1) b).run P q=.ok (.bool b.isNone) (q.putObj (w.heap.size+1) (.loop (d (if b.isNone then .ready else .done) b)))/\
    (q.putObj (w.heap.size+1) (.loop (d (if b.isNone then .ready else .done) b))).heap[w.heap.size+1]?=some (.loop (d (if b.isNone then .ready else .done) b))/\
    (q.putObj (w.heap.size+1) (.loop (d (if b.isNone then .ready else .done) b))).heap[w.heap.size]?=some (.deferred (some [])):=fun b q ag Y=>by
    have:=run_endRound (P:=P) b Y;rw[f] at this ⊢
    exact⟨this,World.putObj_heap_same (bi_.1 Y).1,(World.putObj_heap_other (by omega)).trans ag⟩
   rintro e a3 q N;cases e with
   |normal=>
    obtain⟨⟨U,V⟩,n⟩:=N;obtain⟨X,o,m⟩:=F none q (U.trans H) (V.trans D);exact⟨_,_,X,.inl ⟨rfl,hB _ _ _ _ n,o,m⟩⟩
   |ret=>
    obtain⟨⟨U,V⟩,n⟩:=N;obtain⟨X,o,m⟩:=F (some .ret) q (U.trans H) (V.trans D);exact⟨_,_,X,.inr ⟨rfl,.ret,L _ _ _ _ _ n,o,m⟩⟩
   |exit id=>
    obtain⟨⟨U,V⟩,n⟩:=N;obtain⟨X,o,m⟩:=F (some (.exit id)) q (U.trans H) (V.trans D);exact⟨_,_,X,.inr ⟨rfl,.exit id,L _ _ _ _ _ n,o,m⟩⟩
   |goto t=>exact N.elim
   |panic ch=>exact N.elim
   |outgrown=>exact N.elim
  ·rintro e W2 ⟨⟨v,rfl⟩,(⟨hz,z,M⟩|⟨t,c,x,hi,z,M⟩)⟩
   ·have s:=(bi_.1 z).1;exact⟨none,_,by have:=run_endLoop (P:=P) z (by rw[f];simp);rw[f] at this;exact this,J _ (hZ _ _ hz) ((World.putObj_heap_other (by omega)).trans M) (by simpa using s)⟩
   ·have s:=(bi_.1 z).1;exact⟨some c,_,by have:=run_endLoop (P:=P) z (by rw[f];simp);rw[f] at this;exact this,I t _ x _ (L _ _ _ _ _ hi) ((World.putObj_heap_other (by omega)).trans M) (by simpa using s)⟩
structure SV where
 t:Nat
 x1:Option Addr
 x2:Option Addr
 x3:Option Addr
 n1:Nat
 n2:Nat
 n3:Nat
 c1:Nat
 c2:Nat
 c3:Nat
 q:Nat
def SV.cells(s:SV):Array Value:= #[.int .i64 s.t,.slice s.x1 s.n1 s.c1,.slice s.x2 s.n2 s.c2,.slice s.x3 s.n3 s.c3,.int .i64 s.q]
def SV.val(s:SV):Value:=.agg #[.int .i64 s.t,.slice s.x1 s.n1 s.c1,.slice s.x2 s.n2 s.c2,.slice s.x3 s.n3 s.c3,.int .i64 s.q]
def dR(W:World)(b:Nat)(s:SV):World:=((((W.setCell ⟨b,0,none⟩ (.int .i64 s.t)).setCell ⟨b,1,none⟩ (.slice s.x1 s.n1 s.c1)).setCell ⟨b,2,none⟩ (.slice s.x2 s.n2 s.c2)).setCell ⟨b,3,none⟩ (.slice s.x3 s.n3 s.c3)).setCell ⟨b,4,none⟩ (.int .i64 s.q)
def wH{W:World}{b:Nat}{s:SV}{c:Array Value}{T:TypeId}{z:Nat × Nat}(h:W.heap[b]?=some (.cells c T z)):(dR W b s).heap[b]?=some (.cells (((((c.setIfInBounds 0 (.int .i64 s.t)).setIfInBounds 1 (.slice s.x1 s.n1 s.c1)).setIfInBounds 2 (.slice s.x2 s.n2 s.c2)).setIfInBounds 3 (.slice s.x3 s.n3 s.c3)).setIfInBounds 4 (.int .i64 s.q)) T z):=
 aS (aS (aS (aS (aS h))))
def qG{W:World}{b:Nat}{s:SV}{c:Array Value}{T:TypeId}{z:Nat × Nat}(h:W.heap[b]?=some (.cells c T z))(a:c.size=5):(dR W b s).heap[b]?=some (.cells s.cells T z):=by
 rw[wH h];obtain⟨l⟩:=c;match l,a with
 |[d,f,g,i,e],_=>rfl
def mR{W V:World}{b:Nat}{s:SV}{c:Array Value}{T:TypeId}(h:W.heap[b]?=some (.cells c T (0,0)))(e:5<=c.size)(d:V.heap[b]?=(dR W b s).heap[b]?):V.cell? ⟨b,0,none⟩=some (.int .i64 s.t)/\V.cell? ⟨b,1,none⟩=some (.slice s.x1 s.n1 s.c1)/\V.cell? ⟨b,2,none⟩=some (.slice s.x2 s.n2 s.c2)/\V.cell? ⟨b,3,none⟩=some (.slice s.x3 s.n3 s.c3)/\V.cell? ⟨b,4,none⟩=some (.int .i64 s.q):=by
 have a:=d.trans (wH (s:=s) h);obtain⟨l⟩:=c;rcases l with _|⟨f,_|⟨i,_|⟨j,_|⟨k,_|⟨g,r⟩⟩⟩⟩⟩
 case cons.cons.cons.cons.cons=>
  simp only[List.setIfInBounds_toArray,List.set_cons_zero,b1_] at a;exact⟨aA a (by simp),aA a (by simp),aA a (by simp),aA a (by simp),aA a (by simp)⟩
 all_goals simp at e
def cV(W:World)(b:Nat)(s:SV)(k:Nat)(h:k≠b):(dR W b s).heap[k]?=W.heap[k]?:=by
 unfold dR;rw[ax_ _ _ _ _ h,ax_ _ _ _ _ h,ax_ _ _ _ _ h,ax_ _ _ _ _ h,ax_ _ _ _ _ h]
def fO(W:World)(b:Nat)(s:SV):(dR W b s).heap.size=W.heap.size/\(dR W b s).os=W.os/\(dR W b s).tape=W.tape/\(dR W b s).output=W.output:=by
 have a:∀(W:World) (p:Addr) (u:Value),(W.setCell p u).os=W.os/\(W.setCell p u).tape=W.tape/\(W.setCell p u).output=W.output/\(W.setCell p u).heap.size=W.heap.size:=fun W p u=>⟨rfl,rfl,rfl,by simp⟩
 unfold dR;simp[a]
def PC(l E sb:Nat)(s:SV)(W:World)(L:Nat->Nat->SV->Bool->World->Prop)(B:Nat->Nat->SV->World->Prop)(Z:World->Prop)
 (N:W.cell? ⟨E,0,none⟩=some (.pointer (some ⟨sb,0,none⟩))) (H:E<W.heap.size) (K:sb<W.heap.size)
 (k0:W.cell? ⟨sb,0,none⟩=some (.int .i64 s.t)) (k1:W.cell? ⟨sb,1,none⟩=some (.slice s.x1 s.n1 s.c1)) (k2:W.cell? ⟨sb,2,none⟩=some (.slice s.x2 s.n2 s.c2)) (k3:W.cell? ⟨sb,3,none⟩=some (.slice s.x3 s.n3 s.c3)) (k4:W.cell? ⟨sb,4,none⟩=some (.int .i64 s.q)) (F:Nat)
 (m:Hid (Calls prog 111 #[.pointer (some ⟨sb,0,none⟩),s.val] W.drew fun e h=>∃d ok,e=.returned (.tuple #[SV.val d,.bool ok])/\L F h.heap.size d ok (h.alloc (.cells d.cells 108))))
 (k:Hid (∀c,c.size=5->Calls prog 111 #[.pointer (some ⟨sb,0,none⟩),s.val] (W.drew.alloc (.cells c 108)) fun e h=>∃d ok,e=.returned (.tuple #[SV.val d,.bool ok])/\h.heap[W.heap.size]?=some (.cells c 108 (0,0))/\L F W.heap.size d ok (dR h W.heap.size d)))
 (HL:Hid (∀gk b d wr,L gk b d true wr->wr.heap[b]?=some (.cells d.cells 108 (0,0))/\YieldAt Fence.wide 0 prog l #[d.val] wr fun e W'=>(e=.returned (.bool true)/\B gk b d W')\/(e=.returned (.bool false)/\Z W')))
 (HZ:Hid (∀gk b d wr,L gk b d false wr->Z wr))
 (HB:Hid (∀gk b d wr,B gk b d wr->wr.cell? ⟨E,0,none⟩=some (.pointer (some ⟨sb,0,none⟩))/\wr.heap[b]?=some (.cells d.cells 108 (0,0))/\∃j,gk=j+1/\Calls prog 111 #[.pointer (some ⟨sb,0,none⟩),d.val] wr fun e h=>∃o ok,e=.returned (.tuple #[SV.val o,.bool ok])/\(∃c,h.heap[b]?=some (.cells c 108 (0,0))/\c.size=5)/\L j b o ok (dR h b o))):
 Calls prog 118 #[.func (.yield l) #[] #[],.pointer (some ⟨E,0,none⟩)] W fun e h=>e=.returned (.tuple #[])/\Z h:=by
 unfold SV.val SV.cells at m;unfold SV.val dR at k;go_enter Tryz.func118,Tryz.ntmps118;go_upto_region 0 with fail
 go_cut [3,4] from 5 (fun s3 O w=>∃b d ok,s3=.pointer (some ⟨b,0,none⟩)/\O=.bool ok/\L F b d ok w)
 case first=>
  go_region_law (go_simp;go_at_call 111;first|(refine(k.out _ rfl).mono ?_;rintro e w1 ⟨d,ok,rfl,g,A⟩;have u:=aA (i:=0) g rfl;have z:=aA (i:=1) g rfl;have x:=aA (i:=2) g rfl;have v:=aA (i:=3) g rfl;have y:=aA (i:=4) g rfl;have S:=aE (i:=0) g;have U:=aE (i:=1) g;have T:=aE (i:=2) g;have X:=aE (i:=3) g;have V:=aE (i:=4) g;clear g)|(refine m.out.mono ?_;rintro e w1 ⟨d,ok,rfl,A⟩))
  all_goals (try clear u z x v y S U T X V)
  all_goals (have J:=aB A;clear A k0 k1 k2 k3 k4 N m k H K)
  all_goals (go_simp;go_step;go_meet)
  all_goals exact⟨_,_,_,rfl,rfl,J.out⟩
 case rest=>
  obtain⟨b,s1,ac,rfl,rfl,A⟩:=hcut;have J:=aB A;clear A m k;go_wp2_with fail;go_loopg [4] F (fun gk O wr=>∃d ok,O=.bool ok/\L gk b d ok wr)
  case atStart=>exact⟨_,_,rfl,J.out⟩
  case round=>
   obtain⟨d,ok,rfl,r⟩:=hrel;cases ok
   ·have I:=aB (HZ.out _ _ _ _ r);clear r;go_wp2_with fail;go_end0;exact⟨rfl,I.out⟩
   ·obtain⟨a,fn,Y,G,aa,hy,hR⟩:=HL.out _ _ _ _ r;have Q:=aB hR;unfold SV.cells at a;have u:=aA (i:=0) a rfl;have z:=aA (i:=1) a rfl;have x:=aA (i:=2) a rfl;have v:=aA (i:=3) a rfl;have y:=aA (i:=4) a rfl;have p:=aD a;unfold SV.val at hy;clear r hR a;refine(wpIn_wide (n:=0)).1 ?_;gi_wp2
    refine⟨rfl,Q.out.mono ?_⟩;rintro e W3 (⟨rfl,C⟩|⟨rfl,M⟩)
    ·obtain⟨e1,q,j,rfl,P⟩:=HB.out _ _ _ _ C;have t:=aB P;unfold SV.cells at q;unfold SV.val at t;clear C P hy Q u z x v y p;have u:=aA (i:=0) q rfl;have z:=aA (i:=1) q rfl;have x:=aA (i:=2) q rfl;have v:=aA (i:=3) q rfl;have y:=aA (i:=4) q rfl;have p:=aD q;clear q;gi_wp2
     refine⟨trivial,rfl,(callsIn_wide.2 t.out).mono ?_⟩;rintro e w4 ⟨o,ok,rfl,⟨c,f,ab⟩,r⟩;have D:=aB r;unfold dR at D;clear r t u z x v y p e1;have u:=aA (i:=0) f (aC_ (by omega))
     have z:=aA (i:=1) f (aC_ (by omega))
     have x:=aA (i:=2) f (aC_ (by omega))
     have v:=aA (i:=3) f (aC_ (by omega))
     have y:=aA (i:=4) f (aC_ (by omega))
     have S:=aE (i:=0) f;have U:=aE (i:=1) f;have T:=aE (i:=2) f;have X:=aE (i:=3) f;have V:=aE (i:=4) f;have p:=aD f;clear f;gi_wp2
     go_roundg j
     case measure=>omega
     case rel=>exact⟨_,_,rfl,D.out⟩
    ·gi_wp2
     go_end0;exact⟨rfl,M⟩
attribute [local go_sem] Oper.semAt_some
def SV.val_inj{a b:SV}(h:a.val=b.val):a=b:=by
 cases a;cases b;simp only[SV.val,Value.agg.injEq] at h;simp at h;obtain⟨c,⟨rfl,rfl,rfl⟩,⟨rfl,rfl,rfl⟩,⟨rfl,rfl,rfl⟩,d⟩:=h;obtain rfl:=Int.ofNat.inj c;obtain rfl:=Int.ofNat.inj d;rfl
def WC{τ:Type}(P:Program)(gf:Nat)(lb:Array Value)(w:World)(A B:τ->SV->World->Prop)(E:τ->World->Prop):Prop:=
 ∀(R0:Loop) (Rdy:World->Prop) (Don:World->Prop),(∀W W',Rdy W->W'.heap[w.heap.size]?=W.heap[w.heap.size]?->W'.heap[w.heap.size+1]?=W.heap[w.heap.size+1]?->Rdy W')->(∀W,Rdy W->w.heap.size+1<W.heap.size)->(∀W W',Don W->W'.heap[w.heap.size]?=W.heap[w.heap.size]?->W'.heap[w.heap.size+1]?=W.heap[w.heap.size+1]?->Don W')->
  Rdy ((w.alloc (.deferred (some []))).alloc (.loop R0))->
  (∀t s W,A t s W->Rdy W->YieldAt Fence.wide 0 P (w.heap.size+1) #[s.val] W fun e W'=>(e=.returned (.bool true)/\B t s W'/\Rdy W')\/(e=.returned (.bool false)/\E t W'/\Don W'))->
  Calls P gf (#[.func (.yield (w.heap.size+1)) #[] #[]]++lb) ((w.alloc (.deferred (some []))).alloc (.loop R0)) fun e W'=>(∃v,e=.returned v)/\∃t,E t W'/\(Rdy W'\/Don W')
def IQ{τ:Type}(w:World)(sb gf I:Nat)(lb S:Array Value)(s:SV)(R:Bool->World->Prop)(A B:τ->SV->World->Prop)(U:τ->SV->Nat->World->Prop)(E:τ->World->Prop)
 (ae:sb<w.heap.size)
 (k0:w.cell? ⟨sb,0,none⟩=some (.int .i64 s.t)) (k1:w.cell? ⟨sb,1,none⟩=some (.slice s.x1 s.n1 s.c1)) (k2:w.cell? ⟨sb,2,none⟩=some (.slice s.x2 s.n2 s.c2)) (k3:w.cell? ⟨sb,3,none⟩=some (.slice s.x3 s.n3 s.c3)) (k4:w.cell? ⟨sb,4,none⟩=some (.int .i64 s.q))
 (ad:∀l W,(callFunc gf l).run prog W=.ok (.enter gf l) W) (af:∀l W,(callFunc I l).run prog W=.ok (.enter I l) W)
 (D:Hid (∀t f b W r,U t f b W->U t f b (W.putObj (w.heap.size+4) (.loop r)))) (q:Hid (∀t f W r,B t f W->B t f (W.putObj (w.heap.size+4) (.loop r)))) (o:Hid (∀t W r,E t W->E t (W.putObj (w.heap.size+4) (.loop r))))
 (HA:Hid (∀t f W,A t f W->U t f W.heap.size (W.alloc (.cells f.cells 108))/\w.heap.size+4<W.heap.size))
 (z:Hid (∀t f b W,U t f b W->W.heap[b]?=some (.cells f.cells 108 (0,0))/\W.heap[w.heap.size]?=some (.cells #[.func (.func I) #[] S] 132 (0,0))/\(∃c,W.heap[w.heap.size+1]?=some (.cells c 108 (0,0))/\5<=c.size)/\(∃v,W.heap[w.heap.size+1+1]?=some (.cells #[v] 4 (0,0)))/\b≠w.heap.size/\b≠w.heap.size+1/\b≠w.heap.size+1+1/\
   Calls prog I (#[f.val]++S) ((dR W (w.heap.size+1) f).setCell ⟨w.heap.size+1+1,0,none⟩ (.bool true)) fun e N=>∃r,e=.returned (.bool r)/\(N.heap[w.heap.size+3]?=W.heap[w.heap.size+3]?/\N.heap[w.heap.size+3+1]?=W.heap[w.heap.size+3+1]?)/\(r=true->E t N)/\(r=false->B t f N)))
 (Z:Hid (∀t W,E t W->∃a fd,W.heap[w.heap.size+1]?=some (.cells (SV.cells a) 108 (0,0))/\W.heap[w.heap.size+1+1]?=some (.cells #[.bool fd] 4 (0,0))/\(∃c T,W.heap[sb]?=some (.cells c T (0,0))/\5<=c.size)/\R fd ((dR W sb a).putObj (w.heap.size+3) (.deferred none))))
 (HI:Hid (∀Q,Q=((w.alloc (.cells #[.func (.func I) #[] S] 132)).alloc (.cells s.cells 108)).alloc (.cells #[.bool false] 4)->WC prog gf lb Q A B E)):
 Calls prog 64 #[.pointer (some ⟨sb,0,none⟩),.func (.func gf) #[] lb,.func (.func I) #[] S] w fun e w'=>∃b,e=.returned (.bool b)/\R b w':=by
 refine(callsIn_wide (n:=0)).1 (callsIn_of_wp_marks Tryz.func64 rfl trivial ?_ rfl);simp only[Tryz.ntmps64,List.size_toArray,aB_,aI_,Nat.reduceAdd,Nat.reduceSub,Array.replicate_succ,Array.replicate_zero,List.push_toArray,List.append_toArray,by_,aY_];refine wpIn_wide.2 ?_;go_wp2_with fail;have F:=HI.out _ rfl;unfold SV.cells at F;obtain⟨Q,M⟩:∃Q,((w.alloc (.cells #[.func (.func I) #[] S] 132)).alloc (.cells #[.int .i64 s.t,.slice s.x1 s.n1 s.c1,.slice s.x2 s.n2 s.c2,.slice s.x3 s.n3 s.c3,.int .i64 s.q] 108)).alloc (.cells #[.bool false] 4)=Q:=⟨_,rfl⟩;have k:Q.heap.size=w.heap.size+3:=by rw[<-M];simp
 rw[M] at F ⊢
 clear M HI;have y:=aB F;clear F
 refine wpIn_wide.1 (CC (P:=prog) (gf:=gf) (lb:=lb) rfl ad (fun t x W=>∃f,x= #[SV.val f]/\A t f W) (fun t x W=>∃f,x= #[SV.val f]/\B t f W)
  (fun t x a' W=>∃f b,x= #[SV.val f]/\a'={ tmps:= #[.pointer (some ⟨sb,0,none⟩),.func (.func gf) #[] lb,.func (.func I) #[] S,undef,undef,.pointer (some ⟨w.heap.size,0,none⟩),.bool false,.pointer (some ⟨w.heap.size+1,0,none⟩),.pointer (some ⟨w.heap.size+1+1,0,none⟩),.pointer (some ⟨b,0,none⟩),.pointer (some ⟨sb,0,none⟩),.pointer (some ⟨sb,0,none⟩),.pointer (some ⟨sb,0,none⟩),s.val,.func (.func gf) #[] lb,SV.val f,undef,undef,undef,undef,undef,undef,undef,undef,undef],defers:=[] }/\U t f b W)
  (fun t c x W=>c=.exit 0/\E t W) (fun W=>∃t,E t W) ?hps ?hAx ?L ?hBx ?hZ ?hassign ?hbody ?hseq ?hdone ?hstop)
 case hps=>rintro t x W ⟨f,rfl,_⟩;rfl
 case hAx=>rintro t x a' W r ⟨f,b,rfl,rfl,h⟩;rw[k];exact⟨f,b,rfl,rfl,D.out _ _ _ _ _ h⟩
 case L=>rintro t x W r ⟨f,rfl,h⟩;rw[k];exact⟨f,rfl,q.out _ _ _ _ h⟩
 case hBx=>rintro t c x W r ⟨rfl,h⟩;rw[k];exact⟨rfl,o.out _ _ _ h⟩
 case hZ=>rintro W r ⟨t,h⟩;rw[k];exact⟨t,o.out _ _ _ h⟩
 case hassign=>
  rintro t x W K ⟨f,rfl,h⟩ hK;obtain⟨q1,q2⟩:=HA.out _ _ _ h;have aa:=aB (hK _ _ (aA_ _ _ _ (by rw[k];omega)) (aA_ _ _ _ (by rw[k];omega)) ⟨f,_,rfl,rfl,q1⟩)
  unfold SV.val SV.cells at aa;clear hK q1 h;unfold SV.val;gi_wp2
  exact aa.out
 case hbody=>
  rintro t x a' W ⟨f,b,rfl,rfl,h⟩ C;obtain⟨g,m,⟨c,d,V⟩,⟨v,e4⟩,n1,n2,n3,hF⟩:=z.out _ _ _ _ h;rw[k];have HF:=aB hF;unfold dR SV.val at HF;unfold SV.val;unfold SV.cells at g;have d0:=aA (i:=0) g rfl;have d1:=aA (i:=1) g rfl;have d2:=aA (i:=2) g rfl;have d3:=aA (i:=3) g rfl;have d4:=aA (i:=4) g rfl;have c0:=aA (i:=0) m rfl;have g0:=aA (i:=0) d (aC_ (by omega))
  have g1:=aA (i:=1) d (aC_ (by omega))
  have g2:=aA (i:=2) d (aC_ (by omega))
  have g3:=aA (i:=3) d (aC_ (by omega))
  have g4:=aA (i:=4) d (aC_ (by omega))
  have f0:=aE (i:=0) d;have f1:=aE (i:=1) d;have f2:=aE (i:=2) d;have f3:=aE (i:=3) d;have f4:=aE (i:=4) d;have o0:=aA (i:=0) e4 rfl;have o1:=aE (i:=0) e4;have l1:=aD g;have l2:=aD m;have l3:=aD d;have l4:=aD e4;clear h hF g m d e4 HA z Z D q o y k0 k1 k2 k3 k4;gi_wp2
  refine⟨trivial,rfl,(CallsIn.inRound _ (callsIn_wide.2 HF.out)).mono ?_⟩;rintro e N ⟨r,rfl,hq,H,L⟩;cases r
  ·have HB:=aB (L rfl);clear L H HF d0 d1 d2 d3 d4 c0 g0 g1 g2 g3 g4 f0 f1 f2 f3 f4 o0 o1;gi_wp2
   exact⟨hq,f,rfl,HB.out⟩
  ·have ab:=aB (H rfl);clear L H HF d0 d1 d2 d3 d4 c0 g0 g1 g2 g3 g4 f0 f1 f2 f3 f4 o0 o1;gi_wp2
   exact⟨hq,rfl,ab.out⟩
 case hseq=>
  intro R0 Rdy Don h1 h2 h3 h4 h5 hY;refine callsIn_wide.2 ((y.out R0 Rdy (Don (Code.exit 0)) h1 h2 (h3 _) h5 ?_).mono ?_)
  ·intro t f W hA J;obtain⟨fn,G,u,X,hy,hr⟩:=hY t #[SV.val f] W ⟨f,rfl,hA⟩ J;refine⟨fn,G,u,X,hy,hr.mono ?_⟩;rintro e N (⟨rfl,⟨s2,m,L⟩,ac⟩|⟨rfl,c,⟨rfl,H⟩,p⟩)
   ·obtain rfl:s2=f:=SV.val_inj (by simpa using m.symm)
    exact av_ ⟨rfl,L,ac⟩
   ·exact as_ ⟨rfl,H,p⟩
  ·rintro e N ⟨hv,t,H,hr|p⟩
   ·exact⟨hv,av_ ⟨⟨t,H⟩,hr⟩⟩
   ·exact⟨hv,as_ ⟨t,_,#[],⟨rfl,H⟩,p⟩⟩
 case hdone=>
  rintro W ⟨t,Y⟩ p C;rw[k] at p C ⊢
  obtain⟨a,fd,g,m,⟨c,T,d,V⟩,J⟩:=Z.out _ _ Y;have HR:=aB J;unfold dR at HR;unfold SV.cells at g;have d0:=aA (i:=0) g rfl;have d1:=aA (i:=1) g rfl;have d2:=aA (i:=2) g rfl;have d3:=aA (i:=3) g rfl;have d4:=aA (i:=4) g rfl;have o0:=aA (i:=0) m rfl;have g0:=aA (i:=0) d (aC_ (by omega))
  have g1:=aA (i:=1) d (aC_ (by omega))
  have g2:=aA (i:=2) d (aC_ (by omega))
  have g3:=aA (i:=3) d (aC_ (by omega))
  have g4:=aA (i:=4) d (aC_ (by omega))
  have f0:=aE (i:=0) d;have f1:=aE (i:=1) d;have f2:=aE (i:=2) d;have f3:=aE (i:=3) d;have f4:=aE (i:=4) d;have l1:=aD g;have l2:=aD m;have l3:=aD d;have n1:w.heap.size+1≠sb:=by omega
  have n2:w.heap.size+1+1≠sb:=by omega
  have HD:(((((W.setCell ⟨sb,0,none⟩ (.int .i64 a.t)).setCell ⟨sb,1,none⟩ (.slice a.x1 a.n1 a.c1)).setCell ⟨sb,2,none⟩ (.slice a.x2 a.n2 a.c2)).setCell ⟨sb,3,none⟩ (.slice a.x3 a.n3 a.c3)).setCell ⟨sb,4,none⟩ (.int .i64 a.q)).heap[w.heap.size+3]?=some (.deferred (some [])):=by
   have j:w.heap.size+3≠sb:=by omega
   rw[ax_ _ _ _ _ j,ax_ _ _ _ _ j,ax_ _ _ _ _ j,ax_ _ _ _ _ j,ax_ _ _ _ _ j];exact p
  have O:=aB HD;clear J g m d Z HA z D q o y Y p HD k0 k1 k2 k3 k4;go_wp2_with fail;refine⟨by simp,.inl ⟨_,_,rfl,run_takeDeferred O.out,?_⟩⟩
  exact⟨_,results_tmp rfl _ _ _,_,rfl,HR.out⟩
 case hstop=>
  rintro t c x W ⟨rfl,Y⟩ p C;rw[k] at p C ⊢
  obtain⟨a,fd,g,m,⟨c,T,d,V⟩,J⟩:=Z.out _ _ Y;have HR:=aB J;unfold dR at HR;unfold SV.cells at g;have d0:=aA (i:=0) g rfl;have d1:=aA (i:=1) g rfl;have d2:=aA (i:=2) g rfl;have d3:=aA (i:=3) g rfl;have d4:=aA (i:=4) g rfl;have o0:=aA (i:=0) m rfl;have g0:=aA (i:=0) d (aC_ (by omega))
  have g1:=aA (i:=1) d (aC_ (by omega))
  have g2:=aA (i:=2) d (aC_ (by omega))
  have g3:=aA (i:=3) d (aC_ (by omega))
  have g4:=aA (i:=4) d (aC_ (by omega))
  have f0:=aE (i:=0) d;have f1:=aE (i:=1) d;have f2:=aE (i:=2) d;have f3:=aE (i:=3) d;have f4:=aE (i:=4) d;have l1:=aD g;have l2:=aD m;have l3:=aD d;have n1:w.heap.size+1≠sb:=by omega
  have n2:w.heap.size+1+1≠sb:=by omega
  have HD:(((((W.setCell ⟨sb,0,none⟩ (.int .i64 a.t)).setCell ⟨sb,1,none⟩ (.slice a.x1 a.n1 a.c1)).setCell ⟨sb,2,none⟩ (.slice a.x2 a.n2 a.c2)).setCell ⟨sb,3,none⟩ (.slice a.x3 a.n3 a.c3)).setCell ⟨sb,4,none⟩ (.int .i64 a.q)).heap[w.heap.size+3]?=some (.deferred (some [])):=by
   have j:w.heap.size+3≠sb:=by omega
   rw[ax_ _ _ _ _ j,ax_ _ _ _ _ j,ax_ _ _ _ _ j,ax_ _ _ _ _ j,ax_ _ _ _ _ j];exact p
  have O:=aB HD;clear J g m d Z HA z D q o y Y p HD k0 k1 k2 k3 k4;refine wpIn_wide.2 ?_;go_wp2_with fail;refine⟨by simp,.inl ⟨_,_,rfl,run_takeDeferred O.out,?_⟩⟩
  exact⟨_,results_tmp rfl _ _ _,_,rfl,HR.out⟩
def BS(w:World)(sb:Nat)(s:SV)(P N:SV->Bool->World->Prop)
 (q:Hid (Calls prog 163 #[s.val] ((w.alloc (.cells s.cells 108)).alloc (.cells #[.int .i64 0,.slice none 0 0,.slice none 0 0,.slice none 0 0,.int .i64 0] 108)) fun e g=>∃a ok,e=.returned (.tuple #[SV.val a,.bool ok])/\N a ok g))
 (y:Hid (∀a W,N a false W->(∃c,W.heap[w.heap.size+1]?=some (.cells c 108 (0,0))/\5<=c.size)/\P a false ((dR W (w.heap.size+1) a).alloc (.cells a.cells 108))))
 (z:Hid (∀a W,N a true W->Calls prog 71 #[.pointer (some ⟨sb,0,none⟩),a.val] (W.alloc (.cells a.cells 108)) fun e g=>e=.returned (.tuple #[])/\g.heap[W.heap.size]?=some (.cells a.cells 108 (0,0))/\(∃c,g.heap[w.heap.size+1]?=some (.cells c 108 (0,0))/\5<=c.size)/\w.heap.size+1<W.heap.size/\P a true (dR g (w.heap.size+1) a))):
 Calls prog 111 #[.pointer (some ⟨sb,0,none⟩),s.val] w fun e g=>∃a ok,e=.returned (.tuple #[SV.val a,.bool ok])/\P a ok g:=by
 unfold SV.val SV.cells at q;unfold SV.val;go_enter Tryz.func111,Tryz.ntmps111;go_wp2_with fail;refine q.out.mono ?_;rintro e p ⟨a,ok,rfl,r⟩;cases ok
 ·obtain⟨⟨c,b,h⟩,n⟩:=y.out _ _ r;have j:=aB n;unfold dR SV.cells at j;have x:=aA (i:=0) b (aC_ (by omega))
  have J:=aA (i:=1) b (aC_ (by omega))
  have H:=aA (i:=2) b (aC_ (by omega))
  have F:=aA (i:=3) b (aC_ (by omega))
  have G:=aA (i:=4) b (aC_ (by omega))
  have t:=aE (i:=0) b;have A:=aE (i:=1) b;have B:=aE (i:=2) b;have E:=aE (i:=3) b;have D:=aE (i:=4) b;have M:=aD b;have Z:p.heap.size≠w.heap.size+1:=by omega
  have o:=mR (W:=p) (V:=(dR p (w.heap.size+1) a).alloc (.cells a.cells 108)) (s:=a) b h (aA_ _ _ _ (by rw[(fO _ _ _).1];exact M))
  have k:=aB o;unfold dR SV.cells at k;clear n r q y z b o;go_wp2_with fail;have f:=k.out;have d:=j.out;clear k j x J H F G t A B E D;generalize (((((p.setCell ⟨w.heap.size+1,0,none⟩ (.int .i64 a.t)).setCell ⟨w.heap.size+1,1,none⟩ (.slice a.x1 a.n1 a.c1)).setCell ⟨w.heap.size+1,2,none⟩ (.slice a.x2 a.n2 a.c2)).setCell ⟨w.heap.size+1,3,none⟩ (.slice a.x3 a.n3 a.c3)).setCell ⟨w.heap.size+1,4,none⟩ (.int .i64 a.q)).alloc (.cells #[.int .i64 a.t,.slice a.x1 a.n1 a.c1,.slice a.x2 a.n2 a.c2,.slice a.x3 a.n3 a.c3,.int .i64 a.q] 108)=T at f d ⊢
  obtain⟨I,u,K,L,C⟩:=f;exact bodyPost_ret (v:=.tuple #[.agg #[.int .i64 a.t,.slice a.x1 a.n1 a.c1,.slice a.x2 a.n2 a.c2,.slice a.x3 a.n3 a.c3,.int .i64 a.q],.bool false]) (by simp[results,Tryz.results111,go_sem,I,u,K,L,C]) rfl ⟨a,false,rfl,d⟩
 ·have l:=aB (z.out _ _ r);unfold SV.val SV.cells at l;clear r q y z;go_wp2_with fail;refine l.out.mono ?_;rintro e O ⟨rfl,m,⟨c,b,h⟩,l1,n⟩;have j:=aB n;unfold dR at j;have Q:=aA (i:=0) m rfl;have Y:=aA (i:=1) m rfl;have U:=aA (i:=2) m rfl;have S:=aA (i:=3) m rfl;have X:=aA (i:=4) m rfl;have x:=aA (i:=0) b (aC_ (by omega))
  have J:=aA (i:=1) b (aC_ (by omega))
  have H:=aA (i:=2) b (aC_ (by omega))
  have F:=aA (i:=3) b (aC_ (by omega))
  have G:=aA (i:=4) b (aC_ (by omega))
  have t:=aE (i:=0) b;have A:=aE (i:=1) b;have B:=aE (i:=2) b;have E:=aE (i:=3) b;have D:=aE (i:=4) b;have M:=aD b;have l4:=aD m;have Z:p.heap.size≠w.heap.size+1:=by omega
  have o:=mR (W:=O) (s:=a) b h rfl;have k:=aB o;unfold dR at k;clear n l m b o;go_wp2_with fail;have f:=k.out;have d:=j.out;clear k j x J H F G t A B E D Q Y U S X;generalize ((((O.setCell ⟨w.heap.size+1,0,none⟩ (.int .i64 a.t)).setCell ⟨w.heap.size+1,1,none⟩ (.slice a.x1 a.n1 a.c1)).setCell ⟨w.heap.size+1,2,none⟩ (.slice a.x2 a.n2 a.c2)).setCell ⟨w.heap.size+1,3,none⟩ (.slice a.x3 a.n3 a.c3)).setCell ⟨w.heap.size+1,4,none⟩ (.int .i64 a.q)=T at f d ⊢
  obtain⟨I,u,K,L,C⟩:=f;exact bodyPost_ret (v:=.tuple #[.agg #[.int .i64 a.t,.slice a.x1 a.n1 a.c1,.slice a.x2 a.n2 a.c2,.slice a.x3 a.n3 a.c3,.int .i64 a.q],.bool true]) (by simp[results,Tryz.results111,go_sem,I,u,K,L,C]) rfl ⟨a,true,rfl,d⟩
def KL(w:World)(f:ByteArray)(T:Nat)(F:T<=500)(P:SV->World->Prop)(L:Nat->Nat->World->Prop)(M:Nat->World->Prop)
 (p:Hid (Calls prog 32 #[.string f,.slice none 0 0] w fun e b=>∃a,e=.returned (.tuple #[.pointer (some ⟨a,0,none⟩),.int .i64 0,.int .i64 0])/\L 0 a b))
 (r:Hid (∀t a W,L t a W->Calls prog 28 #[.pointer (some ⟨a,0,none⟩)] W fun e b=>(t<T/\e=.returned (.bool true)/\L (t+1) a b)\/(t=T/\e=.returned (.bool false)/\M a b)))
 (h:Hid (∀a W,M a W->Calls prog 23 #[.pointer (some ⟨a,0,none⟩)] W fun e b=>∃m:SV,e=.returned m.val/\m.t=T/\m.q=1/\m.n1=0/\∀q,P m ((b.alloc (.cells m.cells 63)).drewN q))):
 Calls prog 35 #[.string f] w fun e b=>∃m:SV,e=.returned (.tuple #[.slice m.x3 m.n3 m.c3,.int .i64 T,.bool true])/\P m b:=by
 go_enter Tryz.func35,Tryz.ntmps35;go_wp2_with fail;refine p.out.mono ?_;rintro e E ⟨a,rfl,s⟩;have x:=aB s;clear s p;go_wp2_with fail;go_loopg [8] (T+1) (fun gk A wr=>∃t:Nat,A=.int .i64 t/\gk+t=T+1/\t<=T/\L t a wr)
 case atStart=>exact⟨0,rfl,by omega,by omega,x.out⟩
 case round=>
  obtain⟨t,rfl,v,z,k⟩:=hrel
  ·have d:=aB (r.out _ _ _ k);have B:(t:Int)<=500:=by omega
   clear k r;go_wp2_with fail;refine d.out.mono ?_;rintro e D (⟨l,rfl,g⟩|⟨l,rfl,g⟩)
   ·have y:=aB g;clear g d h;go_wp2_with fail;go_roundg (gk-1)
    case measure=>omega
    case rel=>exact⟨t+1,by simp,by omega,by omega,y.out⟩
   ·have c:=aB (h.out _ _ g);unfold SV.val SV.cells at c;clear g h d;go_wp2_with fail;refine c.out.mono ?_;rintro e C ⟨m,rfl,u,o,j,n⟩;have i:=aB n;clear n c;subst l;rw[u,o,j] at i;rw[u,o,j];go_wp2_with fail;go_quiet (fail)
    go_wp2_with fail;go_ret3
    exact⟨m,rfl,i.out _⟩
def sB(a b:List UInt8):bs a++bs b=bs (a++b):=by
 apply P5
 rw[fS,ByteArray.data_append];simp[bs]
def QT(f:Nat):∀n t,(jD f n t).length<=t.length+f:=by
 induction f with
 |zero=>intro n t;simp[jD]
 |succ f a=>
  intro n t;rw[jD];split
  ·simp
  ·have:=a (n/10) (UInt8.ofNat (48+n%10)::t);rw[aB_] at this;omega
def LV(n:Int):(iI n).length<=21:=by
 unfold iI;have:=QT 20 n.natAbs [];rw[aw_];split<;>simp at this ⊢<;>omega
def uA(l:List aJ)(h:∀x∈l,(cB x).length+2<=24*aK x):(fD (l.map cB)).length<=24*(l.map aK).sum:=by
 induction l with
 |nil=>simp[fD]
 |cons y r c=>
  have d:=h y (by simp)
  have b:=c fun x a=>h x (by simp[a])
  cases r with
  |nil=>simp[fD];omega
  |cons z r=>
   simp only[aM_,fD,aw_,aO_,aB_,aI_] at b ⊢
   omega
def xI:∀v:aJ,(cB v).length+2<=24*aK v:=by
 refine aJ.ind fun v a=>?_
 have c:=uA v.l a;have b:=LV v.n;rw[jR,eR];split
 ·omega
 split
 ·split<;>simp<;>omega
 split
 ·simp;omega
 ·simp;omega
def YL(s:List UInt8):(⟨#[34]⟩:ByteArray)++bs s=bs (34::s):=sB [34] s
def YM(s:List UInt8):bs s++(⟨#[34]⟩:ByteArray)=bs (s++[34]):=sB s [34]
def RV(n:Int):kS n=wrap64 n:=by unfold kS wrap64;rfl
def Hs.oneL_neg{op:List UInt8}{a:aJ}(h:op=[45,120])(b:a.sort=0):fF op a=(bC (wrap64 (-a.n)),0):=by
 rw[<-RV];unfold fF;rw[if_pos ⟨h,b⟩]
def XL(n:Int)(b: -9223372036854775808<=n)(a:n<=9223372036854775807):kS n=n:=by unfold kS;omega
def I5(x y:Int)(c: -9223372036854775808<=x)(a:x<=9223372036854775807): -9223372036854775808<=x.tmod y/\x.tmod y<=9223372036854775807:=by
 have h:(x.tmod y).natAbs=x.natAbs%y.natAbs:=Int.natAbs_tmod x y;have d:x.natAbs%y.natAbs<=x.natAbs:=Nat.mod_le _ _;by_cases b:0<=x
 ·have:=Int.tmod_nonneg y b;omega
 ·have:x.tmod y<=0:=by
   have:=Int.tmod_nonneg y (show 0<= -x by omega)
   rw[Int.neg_tmod] at this;omega
  omega
def Grow(F:Nat->Prop)(w w':World)(b:Nat):Prop:=F b\/(w.heap.size<=b/\b<w'.heap.size)
def uB:∀l m:List UInt8,Op.bytesLess l m=fY l m
 |[],[]=>rfl
 |[],_::_=>rfl
 |_::_,[]=>rfl
 |a::l,b::m=>by
  rw[Op.bytesLess,fY,uB l m];by_cases c:a.toNat<b.toNat
  ·rw[if_pos c,decide_eq_true (UInt8.lt_iff_toNat_lt.2 c),Bool.true_or]
  ·rw[if_neg c,decide_eq_false (fun h=>c (UInt8.lt_iff_toNat_lt.1 h)),Bool.false_or]
   by_cases d:b.toNat<a.toNat
   ·rw[if_pos d,beq_eq_false_iff_ne.2 (fun e=>by rw[e] at d;omega),Bool.false_and]
   ·rw[if_neg d,show a=b from bT_.1 (by omega),beq_self_eq_true,Bool.true_and]
def JC:∀l m:List UInt8,(fY l m || l==m)= !fY m l
 |[],[]=>rfl
 |[],_::_=>rfl
 |_::_,[]=>rfl
 |a::l,b::m=>by
  rw[fY,fY];by_cases d:a.toNat<b.toNat
  ·rw[if_pos d,if_neg (by omega),if_pos d];rfl
  ·by_cases c:b.toNat<a.toNat
   ·rw[if_neg d,if_pos c,if_pos c];have:(a::l==b::m)=false:=beq_eq_false_iff_ne.2 (fun e=>by rw[List.cons.injEq] at e;rw[e.1] at c;omega)
    rw[this];rfl
   ·rw[if_neg d,if_neg c,if_neg c,if_neg d,<-JC l m,show a=b from bT_.1 (by omega)]
    simp
end Go.Proofs.YtblbkfdhjfppkaaGreatDoor
