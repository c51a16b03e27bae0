/- A range over a function whose rounds the function itself knows: the law, where no fence stands. -/
import Derived.Test.YtddnpoiiimjpcaaGreatDoorB04
import Derived.Test.YtddnpoiiimjpcaaGreatDoorP05
set_option linter.defProp false
set_option maxRecDepth 100000
set_option maxHeartbeats 4000000
namespace Go.Proofs.YtddnpoiiimjpcaaGreatDoor
open _root_.Go.Proofs.Tryz
open Go.RowKit
def QS{τ:Type}(t:τ)(D:Nat)(B:τ->Array Value->World->Prop)(Bx:τ->Code->Array Value->World->Prop)(x:Array Value)(W:aH):Exit->Act->World->Prop
 |.normal,_,W'=>(W'.heap[D]?=W.heap[D]?/\W'.heap[D+1]?=W.heap[D+1]?)/\B t x W'
 |.ret,_,W'=>(W'.heap[D]?=W.heap[D]?/\W'.heap[D+1]?=W.heap[D+1]?)/\Bx t .ret x W'
 |.exit id,_,W'=>(W'.heap[D]?=W.heap[D]?/\W'.heap[D+1]?=W.heap[D+1]?)/\Bx t (.exit id) x W'
 |_,_,_=>False
def QT{τ:Type}{P:Program}{g:Operand}{ps:Array Tmp}{assign body:Code}{Q:Exit->Act->World->Prop}{a:Act}{w:aH}{gf:Nat}{lb:Array Value}
 (hg:a.eval g=.func (.func gf) #[] lb) (eg:∀args w,(callFunc gf args).run P w=.ok (.enter gf args) w)
 (A B:τ->Array Value->World->Prop) (Ax:τ->Array Value->Act->World->Prop) (Bx:τ->Code->Array Value->World->Prop) (Z:World->Prop) (ab:∀t x W,A t x W->x.size=ps.size)
 (ae:∀t x q W r,Ax t x q W->Ax t x q (W.putObj (w.heap.size+1) (.loop r))) (hB:∀t x W r,B t x W->B t x (W.putObj (w.heap.size+1) (.loop r))) (F:∀t c x W r,Bx t c x W->Bx t c x (W.putObj (w.heap.size+1) (.loop r))) (hZ:∀W r,Z W->Z (W.putObj (w.heap.size+1) (.loop r)))
 (l:∀t x W (K:Act->World->Prop),A t x W->(∀q i,i.heap[w.heap.size]?=W.heap[w.heap.size]?->i.heap[w.heap.size+1]?=W.heap[w.heap.size+1]?->Ax t x q i->K q i)->
   assign.wpIn (Fence.wide.inRound (w.heap.size+1)) 0 P (Exit.then K (fun _ _ _=>False)) { tmps:=(ps.zip x).foldl (fun t (p,v)=>t.setIfInBounds p v) a.tmps,defers:=[] } W)
 (z:∀t x q W,Ax t x q W->w.heap.size+1<W.heap.size->body.wpIn (Fence.wide.inRound (w.heap.size+1)) 0 P (QS t w.heap.size B Bx x W) q W)
 (U:∀(R0:Loop) (Rdy:World->Prop) (Don:Code->World->Prop),(∀W i,Rdy W->i.heap[w.heap.size]?=W.heap[w.heap.size]?->i.heap[w.heap.size+1]?=W.heap[w.heap.size+1]?->Rdy i)->(∀W,Rdy W->w.heap.size+1<W.heap.size)->(∀c W i,Don c W->i.heap[w.heap.size]?=W.heap[w.heap.size]?->i.heap[w.heap.size+1]?=W.heap[w.heap.size+1]?->Don c i)->(∀c W,Don c W->w.heap.size+1<W.heap.size)->
   Rdy ((w.alloc (.deferred (some []))).alloc (.loop R0))->
   (∀t x W,A t x W->Rdy W->YieldAt Fence.wide 0 P (w.heap.size+1) x W fun e i=>(e=bE (.bool true)/\B t x i/\Rdy i)\/(e=bE (.bool false)/\∃c,Bx t c x i/\Don c i))->
   CallsIn Fence.wide 0 P gf (#[.func (.yield (w.heap.size+1)) #[] #[]]++lb) ((w.alloc (.deferred (some []))).alloc (.loop R0)) fun e i=>(∃v,e=bE v)/\((Z i/\Rdy i)\/∃t c x,Bx t c x i/\Don c i))
 (E:∀W,Z W->W.heap[w.heap.size]?=some (.deferred (some []))->w.heap.size+1<W.heap.size->Q .normal { a with defers:={ target:=.collected w.heap.size,args:= #[] }::a.defers } W)
 (H:∀t c x W,Bx t c x W->W.heap[w.heap.size]?=some (.deferred (some []))->w.heap.size+1<W.heap.size->c.wpIn Fence.wide 0 P Q { a with defers:={ target:=.collected w.heap.size,args:= #[] }::a.defers } W):
 (Code.rangeFunc g ps assign body).wpIn Fence.wide 0 P Q a w:=by
 refine wpIn_rangeFunc ?_;intro fn ad;obtain⟨d,f⟩:∃d:LoopState->Option Code->Loop,d=fun st pe=>{ state:=st,pending:=pe,fn,tmps:=a.tmps,params:=ps,assign,body,defers:=w.heap.size }:=⟨_,rfl⟩
 obtain⟨G,u⟩:∃G,(w.alloc (.deferred (some []))).alloc (.loop (d .ready none))=G:=⟨_,rfl⟩
 have aa:G.heap[w.heap.size+1]?=some (.loop (d .ready none)):=by
  rw[<-u];have:=World.alloc_heap_new (w.alloc (.deferred (some []))) (.loop (d .ready none));rwa [World.size_alloc] at this
 have Y:G.heap[w.heap.size]?=some (.deferred (some [])):=by
  rw[<-u];exact(Z3 _ _ _ (by simp)).trans (World.alloc_heap_new w _)
 refine⟨w.heap.size+1,[{ target:=.collected w.heap.size,args:= #[] }],G,{ target:=.fn (.func gf) lb,args:= #[.func (.yield (w.heap.size+1)) #[] #[]] },G,gf,
  #[.func (.yield (w.heap.size+1)) #[] #[]]++lb,G,?_,?_,fun _ _=>trivial,?_,fun h=>by simp[Fence.wide] at h,?_⟩
 ·rw[<-u,f];exact run_enterLoop_outer _ _ _ _ _
 ·simp only[resolve,hg];simp[go_sem]
 ·simp[invoke,go_sem,eg]
 ·have hs:=U (d .ready none) (fun W=>W.heap[w.heap.size+1]?=some (.loop (d .ready none))/\W.heap[w.heap.size]?=some (.deferred (some [])))
   (fun c W=>W.heap[w.heap.size+1]?=some (.loop (d .done (some c)))/\W.heap[w.heap.size]?=some (.deferred (some [])))
   (fun W i h L S=>⟨by rw[S];exact h.1,by rw[L];exact h.2⟩) (fun W h=>(p6.1 h.1).1) (fun c W i h L S=>⟨by rw[S];exact h.1,by rw[L];exact h.2⟩) (fun c W h=>(p6.1 h.1).1)
  rw[u] at hs;refine(hs ⟨aa,Y⟩ ?_).mono ?_
  ·rintro t x W N ⟨s,I⟩;have hy:=run_yield (P:=P) (args:=x) s (by rw[f];exact ab t x W N)
   rw[f] at hy;refine⟨fn,_,assign,body,hy,roundIn_of_wpIn ad (l t x W _ N ?_)⟩;clear hy;intro q Wa L S O;rw[<-S] at s;rw[<-L] at I;have k:w.heap.size+1<Wa.heap.size:=(p6.1 s).1;refine⟨_,run_beginRound s (by rw[f]),?_⟩
   have y:(Wa.putObj (w.heap.size+1) (.loop { d .ready none with state:=.busy })).heap[w.heap.size+1]?=some (.loop { d .ready none with state:=.busy }):=World.putObj_heap_same k
   have C:(Wa.putObj (w.heap.size+1) (.loop { d .ready none with state:=.busy })).heap[w.heap.size]?=some (.deferred (some [])):=(World.putObj_heap_other (by omega)).trans I
   refine wpIn_mono (z t x q _ (ae _ _ _ _ _ O) (p6.1 y).1) ?_
   have D:∀(b:Option Code) (j:aH),j.heap[w.heap.size]?=some (.deferred (some []))->j.heap[w.heap.size+1]?=some (.loop { d .ready none with state:=.busy })->
    (Instr.endRound (w.heap.size+1) b).run P j=.ok (.bool b.isNone) (j.putObj (w.heap.size+1) (.loop (d (if b.isNone then .ready else .done) b)))/\
    (j.putObj (w.heap.size+1) (.loop (d (if b.isNone then .ready else .done) b))).heap[w.heap.size+1]?=some (.loop (d (if b.isNone then .ready else .done) b))/\
    (j.putObj (w.heap.size+1) (.loop (d (if b.isNone then .ready else .done) b))).heap[w.heap.size]?=some (.deferred (some [])):=fun b j ac M=>by
    have:=run_endRound (P:=P) b M;rw[f] at this ⊢
    exact⟨this,World.putObj_heap_same (p6.1 M).1,(World.putObj_heap_other (by omega)).trans ac⟩
   rintro e a3 j J;cases e with
   |normal=>
    obtain⟨⟨V,T⟩,o⟩:=J;obtain⟨X,m,n⟩:=D none j (V.trans C) (T.trans y);exact⟨_,_,X,.inl ⟨rfl,hB _ _ _ _ o,m,n⟩⟩
   |ret=>
    obtain⟨⟨V,T⟩,o⟩:=J;obtain⟨X,m,n⟩:=D (some .ret) j (V.trans C) (T.trans y);exact⟨_,_,X,.inr ⟨rfl,.ret,F _ _ _ _ _ o,m,n⟩⟩
   |exit id=>
    obtain⟨⟨V,T⟩,o⟩:=J;obtain⟨X,m,n⟩:=D (some (.exit id)) j (V.trans C) (T.trans y);exact⟨_,_,X,.inr ⟨rfl,.exit id,F _ _ _ _ _ o,m,n⟩⟩
   |goto t=>exact J.elim
   |panic ch=>exact J.elim
   |outgrown=>exact J.elim
  ·rintro e W2 ⟨⟨v,rfl⟩,(⟨hz,s,I⟩|⟨t,c,x,hi,s,I⟩)⟩
   ·have k:=(p6.1 s).1;exact⟨none,_,by have:=run_endLoop (P:=P) s (by rw[f];simp);rw[f] at this;exact this,E _ (hZ _ _ hz) ((World.putObj_heap_other (by omega)).trans I) (by simpa using k)⟩
   ·have k:=(p6.1 s).1;exact⟨some c,_,by have:=run_endLoop (P:=P) s (by rw[f];simp);rw[f] at this;exact this,H t _ x _ (F _ _ _ _ _ hi) ((World.putObj_heap_other (by omega)).trans I) (by simpa using k)⟩
structure SV where
 t:Nat
 x1:Option Addr
 x2:Option Addr
 x3:Option Addr
 n1:Nat
 n2:Nat
 n3:Nat
 c1:Nat
 c2:Nat
 c3:Nat
 q:Nat
def SV.cells(s:SV):Array Value:= #[Iv0 s.t,.slice s.x1 s.n1 s.c1,.slice s.x2 s.n2 s.c2,.slice s.x3 s.n3 s.c3,Iv0 s.q]
def SV.val(s:SV):Value:=.agg #[Iv0 s.t,.slice s.x1 s.n1 s.c1,.slice s.x2 s.n2 s.c2,.slice s.x3 s.n3 s.c3,Iv0 s.q]
def fG(W:aH)(b:Nat)(s:SV):aH:=((((W.setCell (aL b 0) (Iv0 s.t)).setCell (aL b 1) (.slice s.x1 s.n1 s.c1)).setCell (aL b 2) (.slice s.x2 s.n2 s.c2)).setCell (aL b 3) (.slice s.x3 s.n3 s.c3)).setCell (aL b 4) (Iv0 s.q)
def vH{W:aH}{b:Nat}{s:SV}{c:Array Value}{T:TypeId}{z:Nat × Nat}(h:W.heap[b]?=some (.cells c T z)):(fG W b s).heap[b]?=some (.cells (((((c.setIfInBounds 0 (Iv0 s.t)).setIfInBounds 1 (.slice s.x1 s.n1 s.c1)).setIfInBounds 2 (.slice s.x2 s.n2 s.c2)).setIfInBounds 3 (.slice s.x3 s.n3 s.c3)).setIfInBounds 4 (Iv0 s.q)) T z):=
 aT (aT (aT (aT (aT h))))
def AR{W:aH}{b:Nat}{s:SV}{c:Array Value}{T:TypeId}{z:Nat × Nat}(h:W.heap[b]?=some (.cells c T z))(a:c.size=5):(fG W b s).heap[b]?=some (.cells s.cells T z):=by
 rw[vH h];obtain⟨l⟩:=c;match l,a with
 |[e,f,g,i,d],_=>rfl
def oF{W V:aH}{b:Nat}{s:SV}{c:Array Value}{T:TypeId}(h:W.heap[b]?=some (.cells c T (0,0)))(e:5<=c.size)(d:V.heap[b]?=(fG W b s).heap[b]?):V.cell? (aL b 0)=some (Iv0 s.t)/\V.cell? (aL b 1)=some (.slice s.x1 s.n1 s.c1)/\V.cell? (aL b 2)=some (.slice s.x2 s.n2 s.c2)/\V.cell? (aL b 3)=some (.slice s.x3 s.n3 s.c3)/\V.cell? (aL b 4)=some (Iv0 s.q):=by
 have a:=d.trans (vH (s:=s) h);obtain⟨l⟩:=c;rcases l with _|⟨g,_|⟨i,_|⟨j,_|⟨k,_|⟨f,r⟩⟩⟩⟩⟩
 case cons.cons.cons.cons.cons=>
  simp only[List.setIfInBounds_toArray,List.set_cons_zero,av_] at a;exact⟨aA a (by simp),aA a (by simp),aA a (by simp),aA a (by simp),aA a (by simp)⟩
 all_goals simp at e
def eC(W:aH)(b:Nat)(s:SV)(k:Nat)(h:k≠b):(fG W b s).heap[k]?=W.heap[k]?:=by
 unfold fG;rw[Y6 _ _ _ _ h,Y6 _ _ _ _ h,Y6 _ _ _ _ h,Y6 _ _ _ _ h,Y6 _ _ _ _ h]
def iJ(W:aH)(b:Nat)(s:SV):(fG W b s).heap.size=W.heap.size/\(fG W b s).os=W.os/\(fG W b s).tape=W.tape/\(fG W b s).output=W.output:=by
 have a:∀(W:aH) (p:Addr) (u:aQ),(W.setCell p u).os=W.os/\(W.setCell p u).tape=W.tape/\(W.setCell p u).output=W.output/\(W.setCell p u).heap.size=W.heap.size:=fun W p u=>⟨rfl,rfl,rfl,by simp⟩
 unfold fG;simp[a]
def NC(l E sb:Nat)(s:SV)(W:aH)(L:Nat->Nat->SV->Bool->World->Prop)(B:Nat->Nat->SV->World->Prop)(Z:World->Prop)
 (I:W.cell? (aL E 0)=some (bO sb)) (O:E<W.heap.size) (N:sb<W.heap.size)
 (k0:W.cell? (aL sb 0)=some (Iv0 s.t)) (k1:W.cell? (aL sb 1)=some (.slice s.x1 s.n1 s.c1)) (k2:W.cell? (aL sb 2)=some (.slice s.x2 s.n2 s.c2)) (k3:W.cell? (aL sb 3)=some (.slice s.x3 s.n3 s.c3)) (k4:W.cell? (aL sb 4)=some (Iv0 s.q)) (F:Nat)
 (p:Hid (Calls prog 55 #[bO sb,s.val] W.drew fun e h=>∃d ok,e=bE (.tuple #[SV.val d,.bool ok])/\L F h.heap.size d ok (h.alloc (.cells d.cells 60))))
 (o:Hid (∀c,c.size=5->Calls prog 55 #[bO sb,s.val] (W.drew.alloc (.cells c 60)) fun e h=>∃d ok,e=bE (.tuple #[SV.val d,.bool ok])/\h.heap[W.heap.size]?=some (.cells c 60 (0,0))/\L F W.heap.size d ok (fG h W.heap.size d)))
 (HL:Hid (∀gk b d wr,L gk b d true wr->wr.heap[b]?=some (.cells d.cells 60 (0,0))/\YieldAt Fence.wide 0 prog l #[d.val] wr fun e S=>(e=bE (.bool true)/\B gk b d S)\/(e=bE (.bool false)/\Z S)))
 (HZ:Hid (∀gk b d wr,L gk b d false wr->Z wr))
 (HB:Hid (∀gk b d wr,B gk b d wr->wr.cell? (aL E 0)=some (bO sb)/\wr.heap[b]?=some (.cells d.cells 60 (0,0))/\∃j,gk=j+1/\Calls prog 55 #[bO sb,d.val] wr fun e h=>∃m ok,e=bE (.tuple #[SV.val m,.bool ok])/\(∃c,h.heap[b]?=some (.cells c 60 (0,0))/\c.size=5)/\L j b m ok (fG h b m))):
 Calls prog 63 #[.func (.yield l) #[] #[],bO E] W fun e h=>e=bE (.tuple #[])/\Z h:=by
 unfold SV.val SV.cells at p;unfold SV.val fG at o;go_in
 go_upto_region 0 with fail
 go_cut [3,4] from 5 (fun s3 H w=>∃b d ok,s3=bO b/\H=.bool ok/\L F b d ok w)
 case first=>
  go_region_law (go_simp;go_at_call 55;first|(refine(o _ rfl).mono ?_;rintro e w1 ⟨d,ok,rfl,g,x⟩;have z:=aA (i:=0) g rfl;have y:=aA (i:=1) g rfl;have u:=aA (i:=2) g rfl;have v:=aA (i:=3) g rfl;have A:=aA (i:=4) g rfl;have Q:=aE (i:=0) g;have T:=aE (i:=1) g;have f2:=aE (i:=2) g;have f3:=aE (i:=3) g;have f4:=aE (i:=4) g;clear g)|(refine p.mono ?_;rintro e w1 ⟨d,ok,rfl,x⟩))
  all_goals (try clear z y u v A Q T f2 f3 f4)
  all_goals (have J:=aB x;clear x k0 k1 k2 k3 k4 I p o O N)
  all_goals (go_simp;go_step;go_meet)
  all_goals exact⟨_,_,_,rfl,rfl,J⟩
 case rest=>
  obtain⟨b,s1,ab,rfl,rfl,x⟩:=hcut;have J:=aB x;clear x p o;go_wp2_with fail;go_loopg [4] F (fun gk H wr=>∃d ok,H=.bool ok/\L gk b d ok wr)
  case atStart=>exact⟨_,_,rfl,J⟩
  case round=>
   obtain⟨d,ok,rfl,r⟩:=hrel;cases ok
   ·have M:=aB (HZ _ _ _ _ r);clear r;go_wp2
    go_end0;exact⟨rfl,M⟩
   ·obtain⟨a,fn,U,G,P,X,hR⟩:=HL _ _ _ _ r;have V:=aB hR;unfold SV.cells at a;have z:=aA (i:=0) a rfl;have y:=aA (i:=1) a rfl;have u:=aA (i:=2) a rfl;have v:=aA (i:=3) a rfl;have A:=aA (i:=4) a rfl;have k:=aD a;unfold SV.val at X;clear r hR a;refine(wpIn_wide (n:=0)).1 ?_;gi_wp2
    refine⟨rfl,V.mono ?_⟩;rintro e W3 (⟨rfl,D⟩|⟨rfl,K⟩)
    ·obtain⟨e1,q,j,rfl,Y⟩:=HB _ _ _ _ D;have t:=aB Y;unfold SV.cells at q;unfold SV.val at t;clear D Y X V z y u v A k;have z:=aA (i:=0) q rfl;have y:=aA (i:=1) q rfl;have u:=aA (i:=2) q rfl;have v:=aA (i:=3) q rfl;have A:=aA (i:=4) q rfl;have k:=aD q;clear q;gi_wp2
     refine⟨trivial,rfl,(callsIn_wide.2 t).mono ?_⟩;rintro e w4 ⟨m,ok,rfl,⟨c,f,aa⟩,r⟩;have C:=aB r;unfold fG at C;clear r t z y u v A k e1;have z:=aA (i:=0) f (Z0 (by omega))
     have y:=aA (i:=1) f (Z0 (by omega))
     have u:=aA (i:=2) f (Z0 (by omega))
     have v:=aA (i:=3) f (Z0 (by omega))
     have A:=aA (i:=4) f (Z0 (by omega))
     have Q:=aE (i:=0) f;have T:=aE (i:=1) f;have f2:=aE (i:=2) f;have f3:=aE (i:=3) f;have f4:=aE (i:=4) f;have k:=aD f;clear f;gi_wp2
     go_roundg j
     case measure=>omega
     case rel=>exact⟨_,_,rfl,C⟩
    ·gi_wp2
     go_end0;exact⟨rfl,K⟩
end Go.Proofs.YtddnpoiiimjpcaaGreatDoor
