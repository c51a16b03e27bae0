/- A range over a function whose rounds the function itself knows: the law, where no fence stands. -/
import Derived.Test.YthbffcmfmjpncaaGreatDoorB04c
import Derived.Test.YthbffcmfmjpncaaGreatDoorP02c
set_option linter.defProp false
set_option maxRecDepth 100000
set_option maxHeartbeats 4000000
namespace Go.Proofs.YthbffcmfmjpncaaGreatDoor
open _root_.Go.Proofs.Tryz
open Go.RowKit
variable{c:Array Value}{b:Nat}{τ:Type}{T:TypeId}{W:World}
def TZ(t:τ)(D:Nat)(B:τ->Array Value->World->Prop)(Bx:τ->Code->Array Value->World->Prop)(x:Array Value)(W:World):Exit->Act->World->Prop
 |.normal,_,W'=>(W'.heap[D]?=W.heap[D]?/\W'.heap[D+1]?=W.heap[D+1]?)/\B t x W'
 |.ret,_,W'=>(W'.heap[D]?=W.heap[D]?/\W'.heap[D+1]?=W.heap[D+1]?)/\Bx t .ret x W'
 |.exit id,_,W'=>(W'.heap[D]?=W.heap[D]?/\W'.heap[D+1]?=W.heap[D+1]?)/\Bx t (.exit id) x W'
 |_,_,_=>False
def UA{P:Program}{g:Operand}{ps:Array Tmp}{assign body:Code}{Q:Exit->Act->World->Prop}{a:Act}{w:World}{gf:Nat}{lb:Array Value}
 (hg:a.eval g=.func (.func gf) #[] lb) (eg:∀args w,(callFunc gf args).run P w=.ok (.enter gf args) w)
 (A B:τ->Array Value->World->Prop) (Ax:τ->Array Value->Act->World->Prop) (Bx:τ->Code->Array Value->World->Prop) (Z:World->Prop) (ab:∀t x W,A t x W->x.size=ps.size)
 (ae:∀t x q W r,Ax t x q W->Ax t x q (W.putObj (w.heap.size+1) (.loop r))) (hB:∀t x W r,B t x W->B t x (W.putObj (w.heap.size+1) (.loop r))) (F:∀t c x W r,Bx t c x W->Bx t c x (W.putObj (w.heap.size+1) (.loop r))) (hZ:∀W r,Z W->Z (W.putObj (w.heap.size+1) (.loop r)))
 (l:∀t x W (K:Act->World->Prop),A t x W->(∀q i,i.heap[w.heap.size]?=W.heap[w.heap.size]?->i.heap[w.heap.size+1]?=W.heap[w.heap.size+1]?->Ax t x q i->K q i)->
   assign.wpIn (Fence.wide.inRound (w.heap.size+1)) 0 P (Exit.then K (λ_ _ _=>False)) { tmps:=(ps.zip x).foldl (λt (p,v)=>t.setIfInBounds p v) a.tmps,defers:=[] } W)
 (z:∀t x q W,Ax t x q W->w.heap.size+1<W.heap.size->body.wpIn (Fence.wide.inRound (w.heap.size+1)) 0 P (TZ t w.heap.size B Bx x W) q W)
 (U:∀(R0:Loop) (Rdy:World->Prop) (Don:Code->World->Prop),(∀W i,Rdy W->i.heap[w.heap.size]?=W.heap[w.heap.size]?->i.heap[w.heap.size+1]?=W.heap[w.heap.size+1]?->Rdy i)->(∀W,Rdy W->w.heap.size+1<W.heap.size)->(∀c W i,Don c W->i.heap[w.heap.size]?=W.heap[w.heap.size]?->i.heap[w.heap.size+1]?=W.heap[w.heap.size+1]?->Don c i)->(∀c W,Don c W->w.heap.size+1<W.heap.size)->
   Rdy ((w.alloc (.deferred (some []))).alloc (.loop R0))->
   (∀t x W,A t x W->Rdy W->YieldAt Fence.wide 0 P (w.heap.size+1) x W λe i=>(e=.returned (.bool true)/\B t x i/\Rdy i)\/(e=.returned (.bool false)/\∃c,Bx t c x i/\Don c i))->
   CallsIn Fence.wide 0 P gf (#[.func (.yield (w.heap.size+1)) #[] #[]]++lb) ((w.alloc (.deferred (some []))).alloc (.loop R0)) λe i=>(∃v,e=.returned v)/\((Z i/\Rdy i)\/∃t c x,Bx t c x i/\Don c i))
 (E:∀W,Z W->W.heap[w.heap.size]?=some (.deferred (some []))->w.heap.size+1<W.heap.size->Q .normal { a with defers:={ target:=.collected w.heap.size,args:= #[] }::a.defers } W)
 (H:∀t c x W,Bx t c x W->W.heap[w.heap.size]?=some (.deferred (some []))->w.heap.size+1<W.heap.size->c.wpIn Fence.wide 0 P Q { a with defers:={ target:=.collected w.heap.size,args:= #[] }::a.defers } W):
 (Code.rangeFunc g ps assign body).wpIn Fence.wide 0 P Q a w:=by
 refine wpIn_rangeFunc ?_;intro fn ad;obtain⟨d,f⟩:∃d:LoopState->Option Code->Loop,d=λst pe=>{ state:=st,pending:=pe,fn,tmps:=a.tmps,params:=ps,assign,body,defers:=w.heap.size }:=⟨_,rfl⟩
 obtain⟨G,u⟩:∃G,(w.alloc (.deferred (some []))).alloc (.loop (d .ready none))=G:=⟨_,rfl⟩
 have aa:G.heap[w.heap.size+1]?=some (.loop (d .ready none)):=by
  rw[<-u];have:=World.alloc_heap_new (w.alloc (.deferred (some []))) (.loop (d .ready none));rwa [World.size_alloc] at this
 have Y:G.heap[w.heap.size]?=some (.deferred (some [])):=by
  rw[<-u];exact(eq _ _ _ s_).trans (World.alloc_heap_new w _)
 refine⟨w.heap.size+1,[{ target:=.collected w.heap.size,args:= #[] }],G,{ target:=.fn (.func gf) lb,args:= #[.func (.yield (w.heap.size+1)) #[] #[]] },G,gf,
  #[.func (.yield (w.heap.size+1)) #[] #[]]++lb,G,?_,?_,λ_ _=>trivial,?_,λh=>by simp[Fence.wide] at h,?_⟩
 ·rw[<-u,f];exact run_enterLoop_outer _ _ _ _ _
 ·simp only[resolve,hg];simp[go_sem]
 ·simp[invoke,go_sem,eg]
 ·have hs:=U (d .ready none) (λW=>W.heap[w.heap.size+1]?=some (.loop (d .ready none))/\W.heap[w.heap.size]?=some (.deferred (some [])))
   (λc W=>W.heap[w.heap.size+1]?=some (.loop (d .done (some c)))/\W.heap[w.heap.size]?=some (.deferred (some [])))
   (λW i h L S=>⟨by rw[S];exact h.1,by rw[L];exact h.2⟩) (λW h=>(ik.1 h.1).1) (λc W i h L S=>⟨by rw[S];exact h.1,by rw[L];exact h.2⟩) (λc W h=>(ik.1 h.1).1)
  rw[u] at hs;refine(hs ⟨aa,Y⟩ ?_).mono ?_
  ·rintro t x W N ⟨s,I⟩;have hy:=run_yield (P:=P) (args:=x) s (by rw[f];exact ab t x W N)
   rw[f] at hy;refine⟨fn,_,assign,body,hy,roundIn_of_wpIn ad (l t x W _ N ?_)⟩;clear hy;intro q Wa L S O;rw[<-S] at s;rw[<-L] at I;have k:w.heap.size+1<Wa.heap.size:=(ik.1 s).1;refine⟨_,run_beginRound s (by rw[f]),?_⟩
   have y:(Wa.putObj (w.heap.size+1) (.loop { d .ready none with state:=.busy })).heap[w.heap.size+1]?=some (.loop { d .ready none with state:=.busy }):=World.putObj_heap_same k
   have C:(Wa.putObj (w.heap.size+1) (.loop { d .ready none with state:=.busy })).heap[w.heap.size]?=some (.deferred (some [])):=(World.putObj_heap_other o_).trans I
   refine wpIn_mono (z t x q _ (ae _ _ _ _ _ O) (ik.1 y).1) ?_
   have D:∀(b:Option Code) (j:World),j.heap[w.heap.size]?=some (.deferred (some []))->j.heap[w.heap.size+1]?=some (.loop { d .ready none with state:=.busy })->
    (Instr.endRound (w.heap.size+1) b).run P j=.ok (.bool b.isNone) (j.putObj (w.heap.size+1) (.loop (d (if b.isNone then .ready else .done) b)))/\
    (j.putObj (w.heap.size+1) (.loop (d (if b.isNone then .ready else .done) b))).heap[w.heap.size+1]?=some (.loop (d (if b.isNone then .ready else .done) b))/\
    (j.putObj (w.heap.size+1) (.loop (d (if b.isNone then .ready else .done) b))).heap[w.heap.size]?=some (.deferred (some [])):=λb j ac M=>by
    have:=run_endRound (P:=P) b M;rw[f] at this ⊢
    exact⟨this,World.putObj_heap_same (ik.1 M).1,(World.putObj_heap_other o_).trans ac⟩
   rintro e a3 j J;cases e with
   |normal=>
    obtain⟨⟨V,T⟩,o⟩:=J;obtain⟨X,m,n⟩:=D none j (V.trans C) (T.trans y);exact⟨_,_,X,.inl ⟨rfl,hB _ _ _ _ o,m,n⟩⟩
   |ret=>
    obtain⟨⟨V,T⟩,o⟩:=J;obtain⟨X,m,n⟩:=D (some .ret) j (V.trans C) (T.trans y);exact⟨_,_,X,.inr ⟨rfl,.ret,F _ _ _ _ _ o,m,n⟩⟩
   |exit id=>
    obtain⟨⟨V,T⟩,o⟩:=J;obtain⟨X,m,n⟩:=D (some (.exit id)) j (V.trans C) (T.trans y);exact⟨_,_,X,.inr ⟨rfl,.exit id,F _ _ _ _ _ o,m,n⟩⟩
   |goto t=>exact J.elim
   |panic ch=>exact J.elim
   |outgrown=>exact J.elim
  ·rintro e W2 ⟨⟨v,rfl⟩,(⟨hz,s,I⟩|⟨t,c,x,hi,s,I⟩)⟩
   ·have k:=(ik.1 s).1;exact⟨none,_,by have:=run_endLoop (P:=P) s (by rw[f];simp);rw[f] at this;exact this,E _ (hZ _ _ hz) ((World.putObj_heap_other o_).trans I) (by simpa using k)⟩
   ·have k:=(ik.1 s).1;exact⟨some c,_,by have:=run_endLoop (P:=P) s (by rw[f];simp);rw[f] at this;exact this,H t _ x _ (F _ _ _ _ _ hi) ((World.putObj_heap_other o_).trans I) (by simpa using k)⟩
structure SV where
 t:Nat
 x1:Option Addr
 x2:Option Addr
 x3:Option Addr
 n1:Nat
 n2:Nat
 n3:Nat
 c1:Nat
 c2:Nat
 c3:Nat
 q:Nat
def SV.cells(s:SV):Array Value:= #[.int .i64 s.t,.slice s.x1 s.n1 s.c1,.slice s.x2 s.n2 s.c2,.slice s.x3 s.n3 s.c3,.int .i64 s.q]
def SV.val(s:SV):Value:=.agg #[.int .i64 s.t,.slice s.x1 s.n1 s.c1,.slice s.x2 s.n2 s.c2,.slice s.x3 s.n3 s.c3,.int .i64 s.q]
def fA(W:World)(b:Nat)(s:SV):World:=((((W.setCell ⟨b,0,none⟩ (.int .i64 s.t)).setCell ⟨b,1,none⟩ (.slice s.x1 s.n1 s.c1)).setCell ⟨b,2,none⟩ (.slice s.x2 s.n2 s.c2)).setCell ⟨b,3,none⟩ (.slice s.x3 s.n3 s.c3)).setCell ⟨b,4,none⟩ (.int .i64 s.q)
def wN{s:SV}{z:Nat × Nat}(h:W.heap[b]?=some (.cells c T z)):(fA W b s).heap[b]?=some (.cells (((((c.setIfInBounds 0 (.int .i64 s.t)).setIfInBounds 1 (.slice s.x1 s.n1 s.c1)).setIfInBounds 2 (.slice s.x2 s.n2 s.c2)).setIfInBounds 3 (.slice s.x3 s.n3 s.c3)).setIfInBounds 4 (.int .i64 s.q)) T z):=
 aQ (aQ (aQ (aQ (aQ h))))
def CO{s:SV}{z:Nat × Nat}(h:W.heap[b]?=some (.cells c T z))(a:c.size=5):(fA W b s).heap[b]?=some (.cells s.cells T z):=by
 rw[wN h];obtain⟨l⟩:=c;match l,a with
 |[e,f,g,i,d],_=>rfl
def oU{V:World}{s:SV}(h:W.heap[b]?=some (.cells c T (0,0)))(e:5<=c.size)(d:V.heap[b]?=(fA W b s).heap[b]?):V.cell? ⟨b,0,none⟩=some (.int .i64 s.t)/\V.cell? ⟨b,1,none⟩=some (.slice s.x1 s.n1 s.c1)/\V.cell? ⟨b,2,none⟩=some (.slice s.x2 s.n2 s.c2)/\V.cell? ⟨b,3,none⟩=some (.slice s.x3 s.n3 s.c3)/\V.cell? ⟨b,4,none⟩=some (.int .i64 s.q):=by
 have a:=d.trans (wN (s:=s) h);obtain⟨l⟩:=c;rcases l with _|⟨g,_|⟨i,_|⟨j,_|⟨k,_|⟨f,r⟩⟩⟩⟩⟩
 case cons.cons.cons.cons.cons=>
  simp only[List.setIfInBounds_toArray,List.set_cons_zero,ju] at a;exact⟨aA a s_,aA a s_,aA a s_,aA a s_,aA a s_⟩
 all_goals simp at e
def dZ(W:World)(b:Nat)(s:SV)(k:Nat)(h:k≠b):(fA W b s).heap[k]?=W.heap[k]?:=by
 unfold fA;rw[ej _ _ _ _ h,ej _ _ _ _ h,ej _ _ _ _ h,ej _ _ _ _ h,ej _ _ _ _ h]
def iN(W:World)(b:Nat)(s:SV):(fA W b s).heap.size=W.heap.size/\(fA W b s).os=W.os/\(fA W b s).tape=W.tape/\(fA W b s).output=W.output:=by
 have a:∀(W:World) (p:Addr) (u:Value),(W.setCell p u).os=W.os/\(W.setCell p u).tape=W.tape/\(W.setCell p u).output=W.output/\(W.setCell p u).heap.size=W.heap.size:=λW p u=>⟨rfl,rfl,rfl,s_⟩
 unfold fA;simp[a]
def QF(l F sb:Nat)(s:SV)(W:World)(L:Nat->Nat->SV->Bool->World->Prop)(B:Nat->Nat->SV->World->Prop)(Z:World->Prop)
 (J:W.cell? ⟨F,0,none⟩=some (.pointer (some ⟨sb,0,none⟩))) (P:F<W.heap.size) (O:sb<W.heap.size)
 (k0:W.cell? ⟨sb,0,none⟩=some (.int .i64 s.t)) (k1:W.cell? ⟨sb,1,none⟩=some (.slice s.x1 s.n1 s.c1)) (k2:W.cell? ⟨sb,2,none⟩=some (.slice s.x2 s.n2 s.c2)) (k3:W.cell? ⟨sb,3,none⟩=some (.slice s.x3 s.n3 s.c3)) (k4:W.cell? ⟨sb,4,none⟩=some (.int .i64 s.q)) (G:Nat)
 (q:Hid (Calls prog 60 #[.pointer (some ⟨sb,0,none⟩),s.val] W.drew λe k=>∃d ok,e=.returned (.tuple #[SV.val d,.bool ok])/\L G k.heap.size d ok (k.alloc (.cells d.cells 72))))
 (p:Hid (∀c,c.size=5->Calls prog 60 #[.pointer (some ⟨sb,0,none⟩),s.val] (W.drew.alloc (.cells c 72)) λe k=>∃d ok,e=.returned (.tuple #[SV.val d,.bool ok])/\k.heap[W.heap.size]?=some (.cells c 72 (0,0))/\L G W.heap.size d ok (fA k W.heap.size d)))
 (HL:Hid (∀gk b d wr,L gk b d true wr->wr.heap[b]?=some (.cells d.cells 72 (0,0))/\YieldAt Fence.wide 0 prog l #[d.val] wr λe T=>(e=.returned (.bool true)/\B gk b d T)\/(e=.returned (.bool false)/\Z T)))
 (HZ:Hid (∀gk b d wr,L gk b d false wr->Z wr))
 (HB:Hid (∀gk b d wr,B gk b d wr->wr.cell? ⟨F,0,none⟩=some (.pointer (some ⟨sb,0,none⟩))/\wr.heap[b]?=some (.cells d.cells 72 (0,0))/\∃j,gk=j+1/\Calls prog 60 #[.pointer (some ⟨sb,0,none⟩),d.val] wr λe k=>∃o ok,e=.returned (.tuple #[SV.val o,.bool ok])/\(∃c,k.heap[b]?=some (.cells c 72 (0,0))/\c.size=5)/\L j b o ok (fA k b o))):
 Calls prog 59 #[.func (.yield l) #[] #[],.pointer (some ⟨F,0,none⟩)] W λe k=>e=.returned (.tuple #[])/\Z k:=by
 unfold SV.val SV.cells at q;unfold SV.val fA at p;go_enter func59,ntmps59;go_upto_region 0 with fail
 go_cut [3,4] from 5 (λs3 I w=>∃b d ok,s3=.pointer (some ⟨b,0,none⟩)/\I=.bool ok/\L G b d ok w)
 case first=>
  go_region_law (go_simp;go_at_call 60;first|(refine(p.out _ rfl).mono ?_;rintro e w1 ⟨d,ok,rfl,g,y⟩;have A:=aA (i:=0) g rfl;have z:=aA (i:=1) g rfl;have v:=aA (i:=2) g rfl;have x:=aA (i:=3) g rfl;have C:=aA (i:=4) g rfl;have S:=aE (i:=0) g;have U:=aE (i:=1) g;have f2:=aE (i:=2) g;have f3:=aE (i:=3) g;have f4:=aE (i:=4) g;clear g)|(refine q.out.mono ?_;rintro e w1 ⟨d,ok,rfl,y⟩))
  all_goals (try clear A z v x C S U f2 f3 f4)
  all_goals (have K:=aB y;clear y k0 k1 k2 k3 k4 J q p P O)
  all_goals (go_simp;go_step;go_meet)
  all_goals exact⟨_,_,_,rfl,rfl,K.out⟩
 case rest=>
  obtain⟨b,s1,ab,rfl,rfl,y⟩:=hcut;have K:=aB y;clear y q p;go_wp2_with fail;go_loopg [4] G (λgk I wr=>∃d ok,I=.bool ok/\L gk b d ok wr)
  case atStart=>exact⟨_,_,rfl,K.out⟩
  case round=>
   obtain⟨d,ok,rfl,t⟩:=hrel;cases ok
   ·have N:=aB (HZ.out _ _ _ _ t);clear t;go_wp2_with fail;go_end0;exact⟨rfl,N.out⟩
   ·obtain⟨a,fn,V,H,Q,Y,hR⟩:=HL.out _ _ _ _ t;have X:=aB hR;unfold SV.cells at a;have A:=aA (i:=0) a rfl;have z:=aA (i:=1) a rfl;have v:=aA (i:=2) a rfl;have x:=aA (i:=3) a rfl;have C:=aA (i:=4) a rfl;have m:=aD a;unfold SV.val at Y;clear t hR a;refine(wpIn_wide (n:=0)).1 ?_;gi_wp2
    refine⟨rfl,X.out.mono ?_⟩;rintro e W3 (⟨rfl,E⟩|⟨rfl,M⟩)
    ·obtain⟨e1,r,j,rfl,hn⟩:=HB.out _ _ _ _ E;have u:=aB hn;unfold SV.cells at r;unfold SV.val at u;clear E hn Y X A z v x C m;have A:=aA (i:=0) r rfl;have z:=aA (i:=1) r rfl;have v:=aA (i:=2) r rfl;have x:=aA (i:=3) r rfl;have C:=aA (i:=4) r rfl;have m:=aD r;clear r;gi_wp2
     refine⟨trivial,rfl,(callsIn_wide.2 u.out).mono ?_⟩;rintro e w4 ⟨o,ok,rfl,⟨c,f,aa⟩,t⟩;have D:=aB t;unfold fA at D;clear t u A z v x C m e1;have A:=aA (i:=0) f (ex o_)
     have z:=aA (i:=1) f (ex o_)
     have v:=aA (i:=2) f (ex o_)
     have x:=aA (i:=3) f (ex o_)
     have C:=aA (i:=4) f (ex o_)
     have S:=aE (i:=0) f;have U:=aE (i:=1) f;have f2:=aE (i:=2) f;have f3:=aE (i:=3) f;have f4:=aE (i:=4) f;have m:=aD f;clear f;gi_wp2
     go_roundg j
     case measure=>omega
     case rel=>exact⟨_,_,rfl,D.out⟩
    ·gi_wp2
     go_end0;exact⟨rfl,M⟩
attribute [local go_sem] Oper.semAt_some
def SV.val_inj{a b:SV}(h:a.val=b.val):a=b:=by
 cases a;cases b;simp only[SV.val,Value.agg.injEq] at h;simp at h;obtain⟨d,⟨rfl,rfl,rfl⟩,⟨rfl,rfl,rfl⟩,⟨rfl,rfl,rfl⟩,c⟩:=h;obtain rfl:=Int.ofNat.inj d;obtain rfl:=Int.ofNat.inj c;rfl
def S8(P:Program)(gf:Nat)(lb:Array Value)(w:World)(A B:τ->SV->World->Prop)(E:τ->World->Prop):Prop:=
 ∀(R0:Loop) (Rdy:World->Prop) (Don:World->Prop),(∀W W',Rdy W->W'.heap[w.heap.size]?=W.heap[w.heap.size]?->W'.heap[w.heap.size+1]?=W.heap[w.heap.size+1]?->Rdy W')->(∀W,Rdy W->w.heap.size+1<W.heap.size)->(∀W W',Don W->W'.heap[w.heap.size]?=W.heap[w.heap.size]?->W'.heap[w.heap.size+1]?=W.heap[w.heap.size+1]?->Don W')->
  Rdy ((w.alloc (.deferred (some []))).alloc (.loop R0))->
  (∀t s W,A t s W->Rdy W->YieldAt Fence.wide 0 P (w.heap.size+1) #[s.val] W λe W'=>(e=.returned (.bool true)/\B t s W'/\Rdy W')\/(e=.returned (.bool false)/\E t W'/\Don W'))->
  Calls P gf (#[.func (.yield (w.heap.size+1)) #[] #[]]++lb) ((w.alloc (.deferred (some []))).alloc (.loop R0)) λe W'=>(∃v,e=.returned v)/\∃t,E t W'/\(Rdy W'\/Don W')
def C5(w:World)(sb gf H:Nat)(lb O:Array Value)(s:SV)(R:Bool->World->Prop)(A B:τ->SV->World->Prop)(Q:τ->SV->Nat->World->Prop)(E:τ->World->Prop)
 (ae:sb<w.heap.size)
 (k0:w.cell? ⟨sb,0,none⟩=some (.int .i64 s.t)) (k1:w.cell? ⟨sb,1,none⟩=some (.slice s.x1 s.n1 s.c1)) (k2:w.cell? ⟨sb,2,none⟩=some (.slice s.x2 s.n2 s.c2)) (k3:w.cell? ⟨sb,3,none⟩=some (.slice s.x3 s.n3 s.c3)) (k4:w.cell? ⟨sb,4,none⟩=some (.int .i64 s.q))
 (ab:∀l W,(callFunc gf l).run prog W=.ok (.enter gf l) W) (ad:∀l W,(callFunc H l).run prog W=.ok (.enter H l) W)
 (q:Hid (∀t d b W r,Q t d b W->Q t d b (W.putObj (w.heap.size+4) (.loop r)))) (D:Hid (∀t d W r,B t d W->B t d (W.putObj (w.heap.size+4) (.loop r)))) (p:Hid (∀t W r,E t W->E t (W.putObj (w.heap.size+4) (.loop r))))
 (HA:Hid (∀t d W,A t d W->Q t d W.heap.size (W.alloc (.cells d.cells 72))/\w.heap.size+4<W.heap.size))
 (y:Hid (∀t d b W,Q t d b W->W.heap[b]?=some (.cells d.cells 72 (0,0))/\W.heap[w.heap.size]?=some (.cells #[.func (.func H) #[] O] 85 (0,0))/\(∃c,W.heap[w.heap.size+1]?=some (.cells c 72 (0,0))/\5<=c.size)/\(∃v,W.heap[w.heap.size+1+1]?=some (.cells #[v] 4 (0,0)))/\b≠w.heap.size/\b≠w.heap.size+1/\b≠w.heap.size+1+1/\
   Calls prog H (#[d.val]++O) ((fA W (w.heap.size+1) d).setCell ⟨w.heap.size+1+1,0,none⟩ (.bool true)) λe J=>∃r,e=.returned (.bool r)/\(J.heap[w.heap.size+3]?=W.heap[w.heap.size+3]?/\J.heap[w.heap.size+3+1]?=W.heap[w.heap.size+3+1]?)/\(r=true->E t J)/\(r=false->B t d J)))
 (V:Hid (∀t W,E t W->∃a fd,W.heap[w.heap.size+1]?=some (.cells (SV.cells a) 72 (0,0))/\W.heap[w.heap.size+1+1]?=some (.cells #[.bool fd] 4 (0,0))/\(∃c T,W.heap[sb]?=some (.cells c T (0,0))/\5<=c.size)/\R fd ((fA W sb a).putObj (w.heap.size+3) (.deferred none))))
 (HI:Hid (∀N,N=((w.alloc (.cells #[.func (.func H) #[] O] 85)).alloc (.cells s.cells 72)).alloc (.cells #[.bool false] 4)->S8 prog gf lb N A B E)):
 Calls prog 30 #[.pointer (some ⟨sb,0,none⟩),.func (.func gf) #[] lb,.func (.func H) #[] O] w λe w'=>∃b,e=.returned (.bool b)/\R b w':=by
 refine(callsIn_wide (n:=0)).1 (callsIn_of_wp_marks func30 rfl trivial ?_ rfl);simp only[ntmps30,List.size_toArray,ek,ep,Nat.reduceAdd,Nat.reduceSub,Array.replicate_succ,Array.replicate_zero,List.push_toArray,List.append_toArray,gv,fh];refine wpIn_wide.2 ?_;go_wp2_with fail;have F:=HI.out _ rfl;unfold SV.cells at F;obtain⟨N,I⟩:∃N,((w.alloc (.cells #[.func (.func H) #[] O] 85)).alloc (.cells #[.int .i64 s.t,.slice s.x1 s.n1 s.c1,.slice s.x2 s.n2 s.c2,.slice s.x3 s.n3 s.c3,.int .i64 s.q] 72)).alloc (.cells #[.bool false] 4)=N:=⟨_,rfl⟩;have k:N.heap.size=w.heap.size+3:=by rw[<-I];simp
 rw[I] at F ⊢
 clear I HI;have z:=aB F;clear F
 refine wpIn_wide.1 (UA (P:=prog) (gf:=gf) (lb:=lb) rfl ab (λt x W=>∃d,x= #[SV.val d]/\A t d W) (λt x W=>∃d,x= #[SV.val d]/\B t d W)
  (λt x a' W=>∃d b,x= #[SV.val d]/\a'={ tmps:= #[.pointer (some ⟨sb,0,none⟩),.func (.func gf) #[] lb,.func (.func H) #[] O,undef,undef,.pointer (some ⟨w.heap.size,0,none⟩),.bool false,.pointer (some ⟨w.heap.size+1,0,none⟩),.pointer (some ⟨w.heap.size+1+1,0,none⟩),.pointer (some ⟨b,0,none⟩),.pointer (some ⟨sb,0,none⟩),.pointer (some ⟨sb,0,none⟩),.pointer (some ⟨sb,0,none⟩),s.val,.func (.func gf) #[] lb,SV.val d,undef,undef,undef,undef,undef,undef,undef,undef,undef],defers:=[] }/\Q t d b W)
  (λt c x W=>c=.exit 0/\E t W) (λW=>∃t,E t W) ?hps ?hAx ?hB ?hBx ?hZ ?hassign ?hbody ?hseq ?hdone ?hstop)
 case hps=>rintro t x W ⟨d,rfl,_⟩;rfl
 case hAx=>rintro t x a' W r ⟨d,b,rfl,rfl,h⟩;rw[k];exact⟨d,b,rfl,rfl,q.out _ _ _ _ _ h⟩
 case hB=>rintro t x W r ⟨d,rfl,h⟩;rw[k];exact⟨d,rfl,D.out _ _ _ _ h⟩
 case hBx=>rintro t c x W r ⟨rfl,h⟩;rw[k];exact⟨rfl,p.out _ _ _ h⟩
 case hZ=>rintro W r ⟨t,h⟩;rw[k];exact⟨t,p.out _ _ _ h⟩
 case hassign=>
  rintro t x W K ⟨d,rfl,h⟩ hK;obtain⟨q1,q2⟩:=HA.out _ _ _ h;have Z:=aB (hK _ _ (eq _ _ _ (by rw[k];omega)) (eq _ _ _ (by rw[k];omega)) ⟨d,_,rfl,rfl,q1⟩)
  unfold SV.val SV.cells at Z;clear hK q1 h;unfold SV.val;gi_wp2
  exact Z.out
 case hbody=>
  rintro t x a' W ⟨d,b,rfl,rfl,h⟩ C;obtain⟨g,m,⟨c,f,U⟩,⟨v,e4⟩,n1,n2,n3,hF⟩:=y.out _ _ _ _ h;rw[k];have HF:=aB hF;unfold fA SV.val at HF;unfold SV.val;unfold SV.cells at g;have d0:=aA (i:=0) g rfl;have d1:=aA (i:=1) g rfl;have d2:=aA (i:=2) g rfl;have d3:=aA (i:=3) g rfl;have d4:=aA (i:=4) g rfl;have c0:=aA (i:=0) m rfl;have g0:=aA (i:=0) f (ex o_)
  have g1:=aA (i:=1) f (ex o_)
  have g2:=aA (i:=2) f (ex o_)
  have g3:=aA (i:=3) f (ex o_)
  have g4:=aA (i:=4) f (ex o_)
  have f0:=aE (i:=0) f;have f1:=aE (i:=1) f;have f2:=aE (i:=2) f;have f3:=aE (i:=3) f;have f4:=aE (i:=4) f;have o0:=aA (i:=0) e4 rfl;have o1:=aE (i:=0) e4;have l1:=aD g;have l2:=aD m;have l3:=aD f;have l4:=aD e4;clear h hF g m f e4 HA y V q D p z k0 k1 k2 k3 k4;gi_wp2
  refine⟨trivial,rfl,(CallsIn.inRound _ (callsIn_wide.2 HF.out)).mono ?_⟩;rintro e J ⟨r,rfl,hq,G,hB⟩;cases r
  ·have HB:=aB (hB rfl);clear hB G HF d0 d1 d2 d3 d4 c0 g0 g1 g2 g3 g4 f0 f1 f2 f3 f4 o0 o1;gi_wp2
   exact⟨hq,d,rfl,HB.out⟩
  ·have ac:=aB (G rfl);clear hB G HF d0 d1 d2 d3 d4 c0 g0 g1 g2 g3 g4 f0 f1 f2 f3 f4 o0 o1;gi_wp2
   exact⟨hq,rfl,ac.out⟩
 case hseq=>
  intro R0 Rdy Don h1 h2 h3 h4 h5 hY;refine callsIn_wide.2 ((z.out R0 Rdy (Don (Code.exit 0)) h1 h2 (h3 _) h5 ?_).mono ?_)
  ·intro t d W hA M;obtain⟨fn,tmps,u,Y,hy,hr⟩:=hY t #[SV.val d] W ⟨d,rfl,hA⟩ M;refine⟨fn,tmps,u,Y,hy,hr.mono ?_⟩;rintro e J (⟨rfl,⟨s2,m,hB⟩,aa⟩|⟨rfl,c,⟨rfl,G⟩,o⟩)
   ·obtain rfl:s2=d:=SV.val_inj (by simpa using m.symm)
    exact d6 ⟨rfl,hB,aa⟩
   ·exact d5 ⟨rfl,G,o⟩
  ·rintro e J ⟨hv,t,G,hr|o⟩
   ·exact⟨hv,d6 ⟨⟨t,G⟩,hr⟩⟩
   ·exact⟨hv,d5 ⟨t,_,#[],⟨rfl,G⟩,o⟩⟩
 case hdone=>
  rintro W ⟨t,S⟩ o C;rw[k] at o C ⊢
  obtain⟨a,fd,g,m,⟨c,T,f,U⟩,M⟩:=V.out _ _ S;have HR:=aB M;unfold fA at HR;unfold SV.cells at g;have d0:=aA (i:=0) g rfl;have d1:=aA (i:=1) g rfl;have d2:=aA (i:=2) g rfl;have d3:=aA (i:=3) g rfl;have d4:=aA (i:=4) g rfl;have o0:=aA (i:=0) m rfl;have g0:=aA (i:=0) f (ex o_)
  have g1:=aA (i:=1) f (ex o_)
  have g2:=aA (i:=2) f (ex o_)
  have g3:=aA (i:=3) f (ex o_)
  have g4:=aA (i:=4) f (ex o_)
  have f0:=aE (i:=0) f;have f1:=aE (i:=1) f;have f2:=aE (i:=2) f;have f3:=aE (i:=3) f;have f4:=aE (i:=4) f;have l1:=aD g;have l2:=aD m;have l3:=aD f;have n1:w.heap.size+1≠sb:=o_
  have n2:w.heap.size+1+1≠sb:=o_
  have X:(((((W.setCell ⟨sb,0,none⟩ (.int .i64 a.t)).setCell ⟨sb,1,none⟩ (.slice a.x1 a.n1 a.c1)).setCell ⟨sb,2,none⟩ (.slice a.x2 a.n2 a.c2)).setCell ⟨sb,3,none⟩ (.slice a.x3 a.n3 a.c3)).setCell ⟨sb,4,none⟩ (.int .i64 a.q)).heap[w.heap.size+3]?=some (.deferred (some [])):=by
   have j:w.heap.size+3≠sb:=o_
   rw[ej _ _ _ _ j,ej _ _ _ _ j,ej _ _ _ _ j,ej _ _ _ _ j,ej _ _ _ _ j];exact o
  have L:=aB X;clear M g m f V HA y q D p z S o X k0 k1 k2 k3 k4;go_wp2_with fail;refine⟨s_,.inl ⟨_,_,rfl,run_takeDeferred L.out,?_⟩⟩
  exact⟨_,results_tmp rfl _ _ _,_,rfl,HR.out⟩
 case hstop=>
  rintro t c x W ⟨rfl,S⟩ o C;rw[k] at o C ⊢
  obtain⟨a,fd,g,m,⟨c,T,f,U⟩,M⟩:=V.out _ _ S;have HR:=aB M;unfold fA at HR;unfold SV.cells at g;have d0:=aA (i:=0) g rfl;have d1:=aA (i:=1) g rfl;have d2:=aA (i:=2) g rfl;have d3:=aA (i:=3) g rfl;have d4:=aA (i:=4) g rfl;have o0:=aA (i:=0) m rfl;have g0:=aA (i:=0) f (ex o_)
  have g1:=aA (i:=1) f (ex o_)
  have g2:=aA (i:=2) f (ex o_)
  have g3:=aA (i:=3) f (ex o_)
  have g4:=aA (i:=4) f (ex o_)
  have f0:=aE (i:=0) f;have f1:=aE (i:=1) f;have f2:=aE (i:=2) f;have f3:=aE (i:=3) f;have f4:=aE (i:=4) f;have l1:=aD g;have l2:=aD m;have l3:=aD f;have n1:w.heap.size+1≠sb:=o_
  have n2:w.heap.size+1+1≠sb:=o_
  have X:(((((W.setCell ⟨sb,0,none⟩ (.int .i64 a.t)).setCell ⟨sb,1,none⟩ (.slice a.x1 a.n1 a.c1)).setCell ⟨sb,2,none⟩ (.slice a.x2 a.n2 a.c2)).setCell ⟨sb,3,none⟩ (.slice a.x3 a.n3 a.c3)).setCell ⟨sb,4,none⟩ (.int .i64 a.q)).heap[w.heap.size+3]?=some (.deferred (some [])):=by
   have j:w.heap.size+3≠sb:=o_
   rw[ej _ _ _ _ j,ej _ _ _ _ j,ej _ _ _ _ j,ej _ _ _ _ j,ej _ _ _ _ j];exact o
  have L:=aB X;clear M g m f V HA y q D p z S o X k0 k1 k2 k3 k4;refine wpIn_wide.2 ?_;go_wp2_with fail;refine⟨s_,.inl ⟨_,_,rfl,run_takeDeferred L.out,?_⟩⟩
  exact⟨_,results_tmp rfl _ _ _,_,rfl,HR.out⟩
def CM(w:World)(sb:Nat)(s:SV)(P N:SV->Bool->World->Prop)
 (t:Hid (Calls prog 99 #[s.val] ((w.alloc (.cells s.cells 72)).alloc (.cells #[.int .i64 0,.slice none 0 0,.slice none 0 0,.slice none 0 0,.int .i64 0] 72)) λe g=>∃a ok,e=.returned (.tuple #[SV.val a,.bool ok])/\N a ok g))
 (u:Hid (∀a W,N a false W->(∃c,W.heap[w.heap.size+1]?=some (.cells c 72 (0,0))/\5<=c.size)/\P a false ((fA W (w.heap.size+1) a).alloc (.cells a.cells 72))))
 (I:Hid (∀a W,N a true W->Calls prog 37 #[.pointer (some ⟨sb,0,none⟩),a.val] (W.alloc (.cells a.cells 72)) λe g=>e=.returned (.tuple #[])/\g.heap[W.heap.size]?=some (.cells a.cells 72 (0,0))/\(∃c,g.heap[w.heap.size+1]?=some (.cells c 72 (0,0))/\5<=c.size)/\w.heap.size+1<W.heap.size/\P a true (fA g (w.heap.size+1) a))):
 Calls prog 60 #[.pointer (some ⟨sb,0,none⟩),s.val] w λe g=>∃a ok,e=.returned (.tuple #[SV.val a,.bool ok])/\P a ok g:=by
 unfold SV.val SV.cells at t;unfold SV.val;go_enter func60,ntmps60;go_wp2_with fail;refine t.out.mono ?_;rintro e o ⟨a,ok,rfl,r⟩;cases ok
 ·obtain⟨⟨c,b,m⟩,p⟩:=u.out _ _ r;have n:=aB p;unfold fA SV.cells at n;have A:=aA (i:=0) b (ex o_)
  have G:=aA (i:=1) b (ex o_)
  have y:=aA (i:=2) b (ex o_)
  have M:=aA (i:=3) b (ex o_)
  have F:=aA (i:=4) b (ex o_)
  have x:=aE (i:=0) b;have z:=aE (i:=1) b;have J:=aE (i:=2) b;have L:=aE (i:=3) b;have K:=aE (i:=4) b;have O:=aD b;have n1:o.heap.size≠w.heap.size+1:=o_
  have q:=oU (W:=o) (V:=(fA o (w.heap.size+1) a).alloc (.cells a.cells 72)) (s:=a) b m (eq _ _ _ (by rw[(iN _ _ _).1];exact O))
  have k:=aB q;unfold fA SV.cells at k;clear p r t u I b q;go_wp2_with fail;have d:=k.out;have f:=n.out;clear k n A G y M F x z J L K;generalize (((((o.setCell ⟨w.heap.size+1,0,none⟩ (.int .i64 a.t)).setCell ⟨w.heap.size+1,1,none⟩ (.slice a.x1 a.n1 a.c1)).setCell ⟨w.heap.size+1,2,none⟩ (.slice a.x2 a.n2 a.c2)).setCell ⟨w.heap.size+1,3,none⟩ (.slice a.x3 a.n3 a.c3)).setCell ⟨w.heap.size+1,4,none⟩ (.int .i64 a.q)).alloc (.cells #[.int .i64 a.t,.slice a.x1 a.n1 a.c1,.slice a.x2 a.n2 a.c2,.slice a.x3 a.n3 a.c3,.int .i64 a.q] 72)=Y at d f ⊢
  obtain⟨B,C,E,H,D⟩:=d;exact bodyPost_ret (v:=.tuple #[.agg #[.int .i64 a.t,.slice a.x1 a.n1 a.c1,.slice a.x2 a.n2 a.c2,.slice a.x3 a.n3 a.c3,.int .i64 a.q],.bool false]) (by simp[results,results60,go_sem,B,C,E,H,D]) rfl ⟨a,false,rfl,f⟩
 ·have j:=aB (I.out _ _ r);unfold SV.val SV.cells at j;clear r t u I;go_wp2_with fail;refine j.out.mono ?_;rintro e Q ⟨rfl,l,⟨c,b,m⟩,l1,p⟩;have n:=aB p;unfold fA at n;have X:=aA (i:=0) l rfl;have U:=aA (i:=1) l rfl;have S:=aA (i:=2) l rfl;have T:=aA (i:=3) l rfl;have Z:=aA (i:=4) l rfl;have A:=aA (i:=0) b (ex o_)
  have G:=aA (i:=1) b (ex o_)
  have y:=aA (i:=2) b (ex o_)
  have M:=aA (i:=3) b (ex o_)
  have F:=aA (i:=4) b (ex o_)
  have x:=aE (i:=0) b;have z:=aE (i:=1) b;have J:=aE (i:=2) b;have L:=aE (i:=3) b;have K:=aE (i:=4) b;have O:=aD b;have l4:=aD l;have n1:o.heap.size≠w.heap.size+1:=o_
  have q:=oU (W:=Q) (s:=a) b m rfl;have k:=aB q;unfold fA at k;clear p j l b q;go_wp2_with fail;have d:=k.out;have f:=n.out;clear k n A G y M F x z J L K X U S T Z;generalize ((((Q.setCell ⟨w.heap.size+1,0,none⟩ (.int .i64 a.t)).setCell ⟨w.heap.size+1,1,none⟩ (.slice a.x1 a.n1 a.c1)).setCell ⟨w.heap.size+1,2,none⟩ (.slice a.x2 a.n2 a.c2)).setCell ⟨w.heap.size+1,3,none⟩ (.slice a.x3 a.n3 a.c3)).setCell ⟨w.heap.size+1,4,none⟩ (.int .i64 a.q)=Y at d f ⊢
  obtain⟨B,C,E,H,D⟩:=d;exact bodyPost_ret (v:=.tuple #[.agg #[.int .i64 a.t,.slice a.x1 a.n1 a.c1,.slice a.x2 a.n2 a.c2,.slice a.x3 a.n3 a.c3,.int .i64 a.q],.bool true]) (by simp[results,results60,go_sem,B,C,E,H,D]) rfl ⟨a,true,rfl,f⟩
end Go.Proofs.YthbffcmfmjpncaaGreatDoor
