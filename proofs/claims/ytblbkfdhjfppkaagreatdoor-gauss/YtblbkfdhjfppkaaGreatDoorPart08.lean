/- Contracts of the program: a fault is caught, whatever is done (2 variables are shared with it). -/
import Derived.Test.YtblbkfdhjfppkaaGreatDoorPart07
import Derived.Test.YtblbkfdhjfppkaaGreatDoorPart01
import Derived.Test.YtblbkfdhjfppkaaGreatDoorProg
import Derived.WalkKit
import Derived.RangeFuncNested
import Derived.RangeFuncBound
import Derived.RangeFuncCalls
import Derived.RangeFuncLeaves
import Derived.Shelf.Abstract
import Derived.Shelf.RegionOpen
import Derived.OwnWalkIn
import Derived.TacticsInMore
import Derived.LoopNIn
import Derived.LoopIn
import Derived.Deep.RegionLaw
import Derived.Deep.Cut
import Derived.Deep.Light
import Derived.Test.YtblbkfdhjfppkaaGreatDoorPart00
set_option maxRecDepth 100000
set_option maxHeartbeats 4000000
namespace Go.Proofs.YtblbkfdhjfppkaaGreatDoor
open Hs
open Go.RowKit
theorem ND(fno:Nat)(p q:Option Addr)(w:World)(Q:World→Prop)(E:Nat→Nat→Prop)
 (hent:∀W,(callFunc fno #[.pointer p,.pointer q]).run Tryz.prog W=.ok (.enter fno #[.pointer p,.pointer q]) W)
 (hC:∀w2,w2=(w.alloc (.cells #[.int .i64 0] 22)).alloc (.cells #[.int .i64 0] 3)→Calls Tryz.prog fno #[.pointer p,.pointer q] w2 fun e w'=>
   (e=.returned (.tuple #[])∧w'.heap[w.heap.size]?=some (.cells #[.int .i64 0] 22 (0,0))∧w'.heap[w.heap.size+1]?=some (.cells #[.int .i64 0] 3 (0,0))∧Q w')∨
   ∃k n,k≠0∧e=.panicked [{ v:=.iface 141 (.agg #[.int .i64 (k:Nat),.int .i64 (n:Nat)]),recovered:=false }]∧Below w2.heap.size w2 w'∧E k n):
 Calls Tryz.prog 42 #[.func (.func fno) #[] #[.pointer p,.pointer q]] w fun e w'=>
  (e=.returned (.tuple #[.int .i64 0,.int .i64 0])∧∃w1,Q w1∧w'=(w1.setCell ⟨w.heap.size,0,none⟩ (.int .i64 0)).setCell ⟨w.heap.size+1,0,none⟩ (.int .i64 0))∨
  ∃k n,k≠0∧e=.returned (.tuple #[.int .i64 (k:Nat),.int .i64 (n:Nat)])∧Below w.heap.size w w'∧E k n:=by
 have hmf:=B8;have hb2:Below w.heap.size w ((w.alloc (.cells #[.int .i64 0] 22)).alloc (.cells #[.int .i64 0] 3)):=((Below.refl _ w).alloc (Nat.le_refl _) _).alloc (by simp) _
 have HC:=aB (hC _ rfl);have hen:=hent ((w.alloc (.cells #[.int .i64 0] 22)).alloc (.cells #[.int .i64 0] 3));clear hC hent;go_enter_defers Tryz.func42,Tryz.ntmps42
 go_wp2_with fail;refine HC.out.mono ?_;rintro e w1 (⟨rfl,hp,hq,hQ⟩|⟨k,n,hk,rfl,hb1,hE⟩)
 ·have HQ:=aB hQ;clear hQ;have c0:=lC hp (i:=0) rfl;have c1:=lC hq (i:=0) rfl;have f0:=nX (i:=0) hp;have f1:=nX (i:=0) hq;have l0:=pP hp;have l1:=pP hq;go_wp2_with fail;refine leaves_cons (f:=75) (args:= #[.pointer (some ⟨w.heap.size,0,none⟩),.pointer (some ⟨w.heap.size+1,0,none⟩)]) (by simp) (by simp[go_sem]) ?_
  refine(SP ⟨w.heap.size,0,none⟩ ⟨w.heap.size+1,0,none⟩ _).mono ?_;rintro e u' w'' ⟨rfl,rfl,rfl⟩;simp[Leaves,settle,results,Tryz.results42,go_sem,c0,c1];exact Or.inl ⟨w1,HQ.out,rfl⟩
 ·have hp:w1.heap[w.heap.size]?=some (.cells #[.int .i64 0] 22 (0,0)):=by rw[hb1.block _ (by simp;omega)];exact nI _ _ _
  have hq:w1.heap[w.heap.size+1]?=some (.cells #[.int .i64 0] 3 (0,0)):=by rw[hb1.block _ (by simp)];exact kR _ _ _
  have HB:Below w.heap.size w w1:=hb2.trans (hb1.mono (by simp;omega))
  have HE:=aB (And.intro hk hE);clear hb1 hb2 HC hE hk;go_wp2_with fail;refine leaves_cons (f:=75) (args:= #[.pointer (some ⟨w.heap.size,0,none⟩),.pointer (some ⟨w.heap.size+1,0,none⟩)]) (by simp) (by simp[go_sem]) ?_
  refine(OJ w.heap.size (w.heap.size+1) k n [] _ hp hq (Nat.lt_succ_self _)).mono ?_;rintro e u' w2 ⟨rfl,rfl,hb3,c0,c1⟩;have hbb:=HB.trans hb3;simp[Leaves,settle,results,Tryz.results42,go_sem,c0,c1];obtain⟨j,rfl⟩:∃j,k=j+1:=⟨k-1,by have:=HE.out.1;omega⟩
  exact Or.inr ⟨j,n,⟨by simp,rfl⟩,hbb,HE.out.2⟩
theorem kN(v:Value)(w:World):(Instr.typeAssert (.iface 315 v) 256 315 true).run Tryz.prog w=.ok (.tuple #[v,.bool true]) w:=by kernel_rfl
theorem KJ(v:Value)(w:World):(Instr.typeAssert (.iface 315 v) 256 316 true).run Tryz.prog w=.ok (.tuple #[.bool false,.bool false]) w:=by kernel_rfl
theorem lU(v:Value)(w:World):(Instr.typeAssert (.iface 315 v) 256 318 true).run Tryz.prog w=.ok (.tuple #[.string ⟨#[]⟩,.bool false]) w:=by kernel_rfl
theorem iG(v:Value)(w:World):(Instr.typeAssert (.iface 315 v) 256 319 true).run Tryz.prog w=.ok (.tuple #[.slice none 0 0,.bool false]) w:=by kernel_rfl
theorem jQ(v:Value)(w:World):(Instr.typeAssert (.iface 316 v) 256 315 true).run Tryz.prog w=.ok (.tuple #[.int .i64 0,.bool false]) w:=by kernel_rfl
theorem sR(v:Value)(w:World):(Instr.typeAssert (.iface 316 v) 256 316 true).run Tryz.prog w=.ok (.tuple #[v,.bool true]) w:=by kernel_rfl
theorem jP(v:Value)(w:World):(Instr.typeAssert (.iface 316 v) 256 318 true).run Tryz.prog w=.ok (.tuple #[.string ⟨#[]⟩,.bool false]) w:=by kernel_rfl
theorem gE(v:Value)(w:World):(Instr.typeAssert (.iface 316 v) 256 319 true).run Tryz.prog w=.ok (.tuple #[.slice none 0 0,.bool false]) w:=by kernel_rfl
theorem kM(v:Value)(w:World):(Instr.typeAssert (.iface 318 v) 256 315 true).run Tryz.prog w=.ok (.tuple #[.int .i64 0,.bool false]) w:=by kernel_rfl
theorem vR(v:Value)(w:World):(Instr.typeAssert (.iface 318 v) 256 316 true).run Tryz.prog w=.ok (.tuple #[.bool false,.bool false]) w:=by kernel_rfl
theorem jK(v:Value)(w:World):(Instr.typeAssert (.iface 318 v) 256 318 true).run Tryz.prog w=.ok (.tuple #[v,.bool true]) w:=by kernel_rfl
theorem jN(v:Value)(w:World):(Instr.typeAssert (.iface 318 v) 256 319 true).run Tryz.prog w=.ok (.tuple #[.slice none 0 0,.bool false]) w:=by kernel_rfl
theorem jO(v:Value)(w:World):(Instr.typeAssert (.iface 319 v) 256 315 true).run Tryz.prog w=.ok (.tuple #[.int .i64 0,.bool false]) w:=by kernel_rfl
theorem sQ(v:Value)(w:World):(Instr.typeAssert (.iface 319 v) 256 316 true).run Tryz.prog w=.ok (.tuple #[.bool false,.bool false]) w:=by kernel_rfl
theorem kY(v:Value)(w:World):(Instr.typeAssert (.iface 319 v) 256 318 true).run Tryz.prog w=.ok (.tuple #[.string ⟨#[]⟩,.bool false]) w:=by kernel_rfl
theorem gD(v:Value)(w:World):(Instr.typeAssert (.iface 319 v) 256 319 true).run Tryz.prog w=.ok (.tuple #[v,.bool true]) w:=by kernel_rfl
def QC{τ:Type}(t:τ)(D:Nat)(B:τ→Array Value→World→Prop)(Bx:Code→Array Value→World→Prop)(x:Array Value)(W:World):Exit→Act→World→Prop
 |.normal,_,W'=>(W'.heap[D]?=W.heap[D]?∧W'.heap[D+1]?=W.heap[D+1]?)∧B t x W'
 |.ret,_,W'=>(W'.heap[D]?=W.heap[D]?∧W'.heap[D+1]?=W.heap[D+1]?)∧Bx .ret x W'
 |.exit id,_,W'=>(W'.heap[D]?=W.heap[D]?∧W'.heap[D+1]?=W.heap[D+1]?)∧Bx (.exit id) x W'
 |_,_,_=>False
theorem QD{τ:Type}{P:Program}{g:Operand}{ps:Array Tmp}{assign body:Code}{Q:Exit→Act→World→Prop}{a:Act}{w:World}{gf:Nat}{lb:Array Value}
 (hg:a.eval g=.func (.func gf) #[] lb) (eg:∀args w,(callFunc gf args).run P w=.ok (.enter gf args) w)
 (A B:τ→Array Value→World→Prop) (Ax:τ→Array Value→Act→World→Prop) (Bx:Code→Array Value→World→Prop) (Z:World→Prop) (hps:∀t x W,A t x W→x.size=ps.size)
 (hAx:∀t x a' W r,Ax t x a' W→Ax t x a' (W.putObj (w.heap.size+1) (.loop r))) (hB:∀t x W r,B t x W→B t x (W.putObj (w.heap.size+1) (.loop r))) (hBx:∀c x W r,Bx c x W→Bx c x (W.putObj (w.heap.size+1) (.loop r))) (hZ:∀W r,Z W→Z (W.putObj (w.heap.size+1) (.loop r)))
 (hassign:∀t x W (K:Act→World→Prop),A t x W→(∀a' W',W'.heap[w.heap.size]?=W.heap[w.heap.size]?→W'.heap[w.heap.size+1]?=W.heap[w.heap.size+1]?→Ax t x a' W'→K a' W')→
   assign.wpIn (Fence.wide.inRound (w.heap.size+1)) 0 P (Exit.then K (fun _ _ _=>False)) { tmps:=(ps.zip x).foldl (fun t (p,v)=>t.setIfInBounds p v) a.tmps,defers:=[] } W)
 (hbody:∀t x a' W,Ax t x a' W→w.heap.size+1<W.heap.size→body.wpIn (Fence.wide.inRound (w.heap.size+1)) 0 P (QC t w.heap.size B Bx x W) a' W)
 (hseq:∀(R0:Loop) (Rdy:World→Prop) (Don:Code→World→Prop),(∀W W',Rdy W→W'.heap[w.heap.size]?=W.heap[w.heap.size]?→W'.heap[w.heap.size+1]?=W.heap[w.heap.size+1]?→Rdy W')→(∀W,Rdy W→w.heap.size+1<W.heap.size)→(∀c W W',Don c W→W'.heap[w.heap.size]?=W.heap[w.heap.size]?→W'.heap[w.heap.size+1]?=W.heap[w.heap.size+1]?→Don c W')→(∀c W,Don c W→w.heap.size+1<W.heap.size)→
   Rdy ((w.alloc (.deferred (some []))).alloc (.loop R0))→
   (∀t x W,A t x W→Rdy W→YieldAt Fence.wide 0 P (w.heap.size+1) x W fun e W'=>(e=.returned (.bool true)∧B t x W'∧Rdy W')∨(e=.returned (.bool false)∧∃c,Bx c x W'∧Don c W'))→
   CallsIn Fence.wide 0 P gf (#[.func (.yield (w.heap.size+1)) #[] #[]]++lb) ((w.alloc (.deferred (some []))).alloc (.loop R0)) fun e W'=>(∃v,e=.returned v)∧((Z W'∧Rdy W')∨∃c x,Bx c x W'∧Don c W'))
 (hdone:∀W,Z W→W.heap[w.heap.size]?=some (.deferred (some []))→w.heap.size+1<W.heap.size→Q .normal { a with defers:={ target:=.collected w.heap.size,args:= #[] }::a.defers } W)
 (hstop:∀c x W,Bx c x W→W.heap[w.heap.size]?=some (.deferred (some []))→w.heap.size+1<W.heap.size→c.wpIn Fence.wide 0 P Q { a with defers:={ target:=.collected w.heap.size,args:= #[] }::a.defers } W):
 (Code.rangeFunc g ps assign body).wpIn Fence.wide 0 P Q a w:=by
 refine wpIn_rangeFunc ?_;intro fn hfn;obtain⟨rec,hrec⟩:∃rec:LoopState→Option Code→Loop,rec=fun st pe=>{ state:=st,pending:=pe,fn,tmps:=a.tmps,params:=ps,assign,body,defers:=w.heap.size }:=⟨_,rfl⟩
 obtain⟨W1,hW1⟩:∃W1,(w.alloc (.deferred (some []))).alloc (.loop (rec .ready none))=W1:=⟨_,rfl⟩
 have hL1:W1.heap[w.heap.size+1]?=some (.loop (rec .ready none)):=by
  rw[←hW1];have:=World.alloc_heap_new (w.alloc (.deferred (some []))) (.loop (rec .ready none));rwa [World.size_alloc] at this
 have hK1:W1.heap[w.heap.size]?=some (.deferred (some [])):=by
  rw[←hW1];exact(Below.heap_alloc _ _ _ (by simp)).trans (World.alloc_heap_new w _)
 refine⟨w.heap.size+1,[{ target:=.collected w.heap.size,args:= #[] }],W1,{ target:=.fn (.func gf) lb,args:= #[.func (.yield (w.heap.size+1)) #[] #[]] },W1,gf,
  #[.func (.yield (w.heap.size+1)) #[] #[]]++lb,W1,?_,?_,fun _ _=>trivial,?_,fun h=>by simp[Fence.wide] at h,?_⟩
 ·rw[←hW1,hrec];exact run_enterLoop_outer _ _ _ _ _
 ·simp only[resolve,hg];simp[go_sem]
 ·simp[invoke,go_sem,eg]
 ·have hs:=hseq (rec .ready none) (fun W=>W.heap[w.heap.size+1]?=some (.loop (rec .ready none))∧W.heap[w.heap.size]?=some (.deferred (some [])))
   (fun c W=>W.heap[w.heap.size+1]?=some (.loop (rec .done (some c)))∧W.heap[w.heap.size]?=some (.deferred (some [])))
   (fun W W' h e1 e2=>⟨by rw[e2];exact h.1,by rw[e1];exact h.2⟩) (fun W h=>(Array.getElem?_eq_some_iff.1 h.1).1) (fun c W W' h e1 e2=>⟨by rw[e2];exact h.1,by rw[e1];exact h.2⟩) (fun c W h=>(Array.getElem?_eq_some_iff.1 h.1).1)
  rw[hW1] at hs;refine(hs ⟨hL1,hK1⟩ ?_).mono ?_
  ·rintro t x W hax ⟨hl,hk⟩;have hy:=run_yield (P:=P) (args:=x) hl (by rw[hrec];exact hps t x W hax)
   rw[hrec] at hy;refine⟨fn,_,assign,body,hy,roundIn_of_wpIn hfn (hassign t x W _ hax ?_)⟩;clear hy;intro a' Wa e1 e2 hax';rw[←e2] at hl;rw[←e1] at hk;have hlt:w.heap.size+1<Wa.heap.size:=(Array.getElem?_eq_some_iff.1 hl).1;refine⟨_,run_beginRound hl (by rw[hrec]),?_⟩
   have hl2:(Wa.putObj (w.heap.size+1) (.loop { rec .ready none with state:=.busy })).heap[w.heap.size+1]?=some (.loop { rec .ready none with state:=.busy }):=World.putObj_heap_same hlt
   have hk2:(Wa.putObj (w.heap.size+1) (.loop { rec .ready none with state:=.busy })).heap[w.heap.size]?=some (.deferred (some [])):=(World.putObj_heap_other (by omega)).trans hk
   refine wpIn_mono (hbody t x a' _ (hAx _ _ _ _ _ hax') (Array.getElem?_eq_some_iff.1 hl2).1) ?_
   have fin:∀(jump:Option Code) (W3:World),W3.heap[w.heap.size]?=some (.deferred (some []))→W3.heap[w.heap.size+1]?=some (.loop { rec .ready none with state:=.busy })→
    (Instr.endRound (w.heap.size+1) jump).run P W3=.ok (.bool jump.isNone) (W3.putObj (w.heap.size+1) (.loop (rec (if jump.isNone then .ready else .done) jump)))∧
    (W3.putObj (w.heap.size+1) (.loop (rec (if jump.isNone then .ready else .done) jump))).heap[w.heap.size+1]?=some (.loop (rec (if jump.isNone then .ready else .done) jump))∧
    (W3.putObj (w.heap.size+1) (.loop (rec (if jump.isNone then .ready else .done) jump))).heap[w.heap.size]?=some (.deferred (some [])):=fun jump W3 hk3 hl3=>by
    have:=run_endRound (P:=P) jump hl3;rw[hrec] at this ⊢
    exact⟨this,World.putObj_heap_same (Array.getElem?_eq_some_iff.1 hl3).1,(World.putObj_heap_other (by omega)).trans hk3⟩
   rintro e a3 W3 hp;cases e with
   |normal=>
    obtain⟨⟨q1,q2⟩,hi3⟩:=hp;obtain⟨hr,hl4,hk4⟩:=fin none W3 (q1.trans hk2) (q2.trans hl2);exact⟨_,_,hr,.inl ⟨rfl,hB _ _ _ _ hi3,hl4,hk4⟩⟩
   |ret=>
    obtain⟨⟨q1,q2⟩,hi3⟩:=hp;obtain⟨hr,hl4,hk4⟩:=fin (some .ret) W3 (q1.trans hk2) (q2.trans hl2);exact⟨_,_,hr,.inr ⟨rfl,.ret,hBx _ _ _ _ hi3,hl4,hk4⟩⟩
   |exit id=>
    obtain⟨⟨q1,q2⟩,hi3⟩:=hp;obtain⟨hr,hl4,hk4⟩:=fin (some (.exit id)) W3 (q1.trans hk2) (q2.trans hl2);exact⟨_,_,hr,.inr ⟨rfl,.exit id,hBx _ _ _ _ hi3,hl4,hk4⟩⟩
   |goto t=>exact hp.elim
   |panic ch=>exact hp.elim
   |outgrown=>exact hp.elim
  ·rintro e W2 ⟨⟨v,rfl⟩,(⟨hz,hl,hk⟩|⟨c,x,hi,hl,hk⟩)⟩
   ·have hlt:=(Array.getElem?_eq_some_iff.1 hl).1;exact⟨none,_,by have:=run_endLoop (P:=P) hl (by rw[hrec];simp);rw[hrec] at this;exact this,hdone _ (hZ _ _ hz) ((World.putObj_heap_other (by omega)).trans hk) (by simpa using hlt)⟩
   ·have hlt:=(Array.getElem?_eq_some_iff.1 hl).1;exact⟨some c,_,by have:=run_endLoop (P:=P) hl (by rw[hrec];simp);rw[hrec] at this;exact this,hstop _ x _ (hBx _ _ _ _ hi) ((World.putObj_heap_other (by omega)).trans hk) (by simpa using hlt)⟩
structure SV where
 t:Nat
 x1:Option Addr
 x2:Option Addr
 x3:Option Addr
 n1:Nat
 n2:Nat
 n3:Nat
 c1:Nat
 c2:Nat
 c3:Nat
 q:Nat
def SV.cells(s:SV):Array Value:= #[.int .i64 s.t,.slice s.x1 s.n1 s.c1,.slice s.x2 s.n2 s.c2,.slice s.x3 s.n3 s.c3,.int .i64 s.q]
def SV.val(s:SV):Value:=.agg #[.int .i64 s.t,.slice s.x1 s.n1 s.c1,.slice s.x2 s.n2 s.c2,.slice s.x3 s.n3 s.c3,.int .i64 s.q]
def eT(W:World)(b:Nat)(s:SV):World:=((((W.setCell ⟨b,0,none⟩ (.int .i64 s.t)).setCell ⟨b,1,none⟩ (.slice s.x1 s.n1 s.c1)).setCell ⟨b,2,none⟩ (.slice s.x2 s.n2 s.c2)).setCell ⟨b,3,none⟩ (.slice s.x3 s.n3 s.c3)).setCell ⟨b,4,none⟩ (.int .i64 s.q)
theorem uR{W:World}{b:Nat}{s:SV}{c:Array Value}{T:TypeId}{z:Nat × Nat}(h:W.heap[b]?=some (.cells c T z)):(eT W b s).heap[b]?=some (.cells (((((c.setIfInBounds 0 (.int .i64 s.t)).setIfInBounds 1 (.slice s.x1 s.n1 s.c1)).setIfInBounds 2 (.slice s.x2 s.n2 s.c2)).setIfInBounds 3 (.slice s.x3 s.n3 s.c3)).setIfInBounds 4 (.int .i64 s.q)) T z):=
 aQ (aQ (aQ (aQ (aQ h))))
theorem AA{W:World}{b:Nat}{s:SV}{c:Array Value}{T:TypeId}{z:Nat × Nat}(h:W.heap[b]?=some (.cells c T z))(hc:c.size=5):(eT W b s).heap[b]?=some (.cells s.cells T z):=by
 rw[uR h];obtain⟨l⟩:=c;match l,hc with
 |[a0,a1,a2,a3,a4],_=>rfl
theorem nP{W V:World}{b:Nat}{s:SV}{c:Array Value}{T:TypeId}(h:W.heap[b]?=some (.cells c T (0,0)))(hc:5≤c.size)(hV:V.heap[b]?=(eT W b s).heap[b]?):V.cell? ⟨b,0,none⟩=some (.int .i64 s.t)∧V.cell? ⟨b,1,none⟩=some (.slice s.x1 s.n1 s.c1)∧V.cell? ⟨b,2,none⟩=some (.slice s.x2 s.n2 s.c2)∧V.cell? ⟨b,3,none⟩=some (.slice s.x3 s.n3 s.c3)∧V.cell? ⟨b,4,none⟩=some (.int .i64 s.q):=by
 have h0:=hV.trans (uR (s:=s) h);obtain⟨l⟩:=c;rcases l with _|⟨a0,_|⟨a1,_|⟨a2,_|⟨a3,_|⟨a4,r⟩⟩⟩⟩⟩
 case cons.cons.cons.cons.cons=>
  simp only[List.setIfInBounds_toArray,List.set_cons_zero,List.set_cons_succ] at h0;exact⟨aA h0 (by simp),aA h0 (by simp),aA h0 (by simp),aA h0 (by simp),aA h0 (by simp)⟩
 all_goals simp at hc
theorem dR(W:World)(b:Nat)(s:SV)(k:Nat)(h:k≠b):(eT W b s).heap[k]?=W.heap[k]?:=by
 unfold eT;rw[Below.heap_setCell _ _ _ _ h,Below.heap_setCell _ _ _ _ h,Below.heap_setCell _ _ _ _ h,Below.heap_setCell _ _ _ _ h,Below.heap_setCell _ _ _ _ h]
theorem gU(W:World)(b:Nat)(s:SV):(eT W b s).heap.size=W.heap.size∧(eT W b s).os=W.os∧(eT W b s).tape=W.tape∧(eT W b s).output=W.output:=by
 have one:∀(W:World) (p:Addr) (u:Value),(W.setCell p u).os=W.os∧(W.setCell p u).tape=W.tape∧(W.setCell p u).output=W.output∧(W.setCell p u).heap.size=W.heap.size:=fun W p u=>⟨rfl,rfl,rfl,by simp⟩
 unfold eT;simp[one]
theorem MM(l bb sb:Nat)(s:SV)(W:World)(L:Nat→Nat→SV→Bool→World→Prop)(B:Nat→Nat→SV→World→Prop)(Z:World→Prop)
 (hbb:W.cell? ⟨bb,0,none⟩=some (.pointer (some ⟨sb,0,none⟩))) (hlb:bb<W.heap.size) (hls:sb<W.heap.size)
 (k0:W.cell? ⟨sb,0,none⟩=some (.int .i64 s.t)) (k1:W.cell? ⟨sb,1,none⟩=some (.slice s.x1 s.n1 s.c1)) (k2:W.cell? ⟨sb,2,none⟩=some (.slice s.x2 s.n2 s.c2)) (k3:W.cell? ⟨sb,3,none⟩=some (.slice s.x3 s.n3 s.c3)) (k4:W.cell? ⟨sb,4,none⟩=some (.int .i64 s.q)) (K0:Nat)
 (HNA:Hid (Calls Tryz.prog 111 #[.pointer (some ⟨sb,0,none⟩),s.val] W.drew fun e w'=>∃s' ok,e=.returned (.tuple #[SV.val s',.bool ok])∧L K0 w'.heap.size s' ok (w'.alloc (.cells s'.cells 108))))
 (HNB:Hid (∀c,c.size=5→Calls Tryz.prog 111 #[.pointer (some ⟨sb,0,none⟩),s.val] (W.drew.alloc (.cells c 108)) fun e w'=>∃s' ok,e=.returned (.tuple #[SV.val s',.bool ok])∧w'.heap[W.heap.size]?=some (.cells c 108 (0,0))∧L K0 W.heap.size s' ok (eT w' W.heap.size s')))
 (HL:Hid (∀gk b s' wr,L gk b s' true wr→wr.heap[b]?=some (.cells s'.cells 108 (0,0))∧YieldAt Fence.wide 0 Tryz.prog l #[s'.val] wr fun e W'=>(e=.returned (.bool true)∧B gk b s' W')∨(e=.returned (.bool false)∧Z W')))
 (HZ:Hid (∀gk b s' wr,L gk b s' false wr→Z wr))
 (HB:Hid (∀gk b s' wr,B gk b s' wr→wr.cell? ⟨bb,0,none⟩=some (.pointer (some ⟨sb,0,none⟩))∧wr.heap[b]?=some (.cells s'.cells 108 (0,0))∧∃j,gk=j+1∧Calls Tryz.prog 111 #[.pointer (some ⟨sb,0,none⟩),s'.val] wr fun e w'=>∃s'' ok,e=.returned (.tuple #[SV.val s'',.bool ok])∧(∃c,w'.heap[b]?=some (.cells c 108 (0,0))∧c.size=5)∧L j b s'' ok (eT w' b s''))):
 Calls Tryz.prog 118 #[.func (.yield l) #[] #[],.pointer (some ⟨bb,0,none⟩)] W fun e w'=>e=.returned (.tuple #[])∧Z w':=by
 unfold SV.val SV.cells at HNA;unfold SV.val eT at HNB;go_enter Tryz.func118,Tryz.ntmps118;go_upto_region 0 with fail
 go_cut [3,4] from 5 (fun s3 s4 w=>∃b s' ok,s3=.pointer (some ⟨b,0,none⟩)∧s4=.bool ok∧L K0 b s' ok w)
 case first=>
  go_region_law (go_simp;go_at_call 111;first|(refine(HNB.out _ rfl).mono ?_;rintro e w1 ⟨s',ok,rfl,h3,h1⟩;have d0:=aA (i:=0) h3 rfl;have d1:=aA (i:=1) h3 rfl;have d2:=aA (i:=2) h3 rfl;have d3:=aA (i:=3) h3 rfl;have d4:=aA (i:=4) h3 rfl;have f0:=aE (i:=0) h3;have f1:=aE (i:=1) h3;have f2:=aE (i:=2) h3;have f3:=aE (i:=3) h3;have f4:=aE (i:=4) h3;clear h3)|(refine HNA.out.mono ?_;rintro e w1 ⟨s',ok,rfl,h1⟩))
  all_goals (try clear d0 d1 d2 d3 d4 f0 f1 f2 f3 f4)
  all_goals (have H1:=aB h1;clear h1 k0 k1 k2 k3 k4 hbb HNA HNB hlb hls)
  all_goals (go_simp;go_step;go_meet)
  all_goals exact⟨_,_,_,rfl,rfl,H1.out⟩
 case rest=>
  obtain⟨b,s1,ok1,rfl,rfl,h1⟩:=hcut;have H1:=aB h1;clear h1 HNA HNB;go_wp2_with fail;go_loopg [4] K0 (fun gk s4 wr=>∃s' ok,s4=.bool ok∧L gk b s' ok wr)
  case atStart=>exact⟨_,_,rfl,H1.out⟩
  case round=>
   obtain⟨s',ok,rfl,hl⟩:=hrel;cases ok
   ·have HZ0:=aB (HZ.out _ _ _ _ hl);clear hl;go_wp2_with fail;go_end0;exact⟨rfl,HZ0.out⟩
   ·obtain⟨hblk,fn,tmps,assign,body,hy,hR⟩:=HL.out _ _ _ _ hl;have HR:=aB hR;unfold SV.cells at hblk;have d0:=aA (i:=0) hblk rfl;have d1:=aA (i:=1) hblk rfl;have d2:=aA (i:=2) hblk rfl;have d3:=aA (i:=3) hblk rfl;have d4:=aA (i:=4) hblk rfl;have hlt:=aD hblk;unfold SV.val at hy;clear hl hR hblk;refine(wpIn_wide (n:=0)).1 ?_;gi_wp2
    refine⟨rfl,HR.out.mono ?_⟩;rintro e W3 (⟨rfl,hb3⟩|⟨rfl,hz3⟩)
    ·obtain⟨e1,e2,j,rfl,hn⟩:=HB.out _ _ _ _ hb3;have HNN:=aB hn;unfold SV.cells at e2;unfold SV.val at HNN;clear hb3 hn hy HR d0 d1 d2 d3 d4 hlt;have d0:=aA (i:=0) e2 rfl;have d1:=aA (i:=1) e2 rfl;have d2:=aA (i:=2) e2 rfl;have d3:=aA (i:=3) e2 rfl;have d4:=aA (i:=4) e2 rfl;have hlt:=aD e2;clear e2;gi_wp2
     refine⟨trivial,rfl,(callsIn_wide.2 HNN.out).mono ?_⟩;rintro e w4 ⟨s'',ok,rfl,⟨c,hc,hsz⟩,hl⟩;have HLL:=aB hl;unfold eT at HLL;clear hl HNN d0 d1 d2 d3 d4 hlt e1;have d0:=aA (i:=0) hc (Array.getElem?_eq_getElem (by omega))
     have d1:=aA (i:=1) hc (Array.getElem?_eq_getElem (by omega))
     have d2:=aA (i:=2) hc (Array.getElem?_eq_getElem (by omega))
     have d3:=aA (i:=3) hc (Array.getElem?_eq_getElem (by omega))
     have d4:=aA (i:=4) hc (Array.getElem?_eq_getElem (by omega))
     have f0:=aE (i:=0) hc;have f1:=aE (i:=1) hc;have f2:=aE (i:=2) hc;have f3:=aE (i:=3) hc;have f4:=aE (i:=4) hc;have hlt:=aD hc;clear hc;gi_wp2
     go_roundg j
     case measure=>omega
     case rel=>exact⟨_,_,rfl,HLL.out⟩
    ·gi_wp2
     go_end0;exact⟨rfl,hz3⟩
attribute [local go_sem] Oper.semAt_some
theorem SV.val_inj{a b:SV}(h:a.val=b.val):a=b:=by
 cases a;cases b;simp only[SV.val,Value.agg.injEq] at h;simp at h;obtain⟨h1,⟨rfl,rfl,rfl⟩,⟨rfl,rfl,rfl⟩,⟨rfl,rfl,rfl⟩,h2⟩:=h;obtain rfl:=Int.ofNat.inj h1;obtain rfl:=Int.ofNat.inj h2;rfl
def G0{τ:Type}(P:Program)(gf:Nat)(lb:Array Value)(w:World)(A B:τ→SV→World→Prop)(E Z:World→Prop):Prop:=
 ∀(R0:Loop) (Rdy:World→Prop) (Don:World→Prop),(∀W W',Rdy W→W'.heap[w.heap.size]?=W.heap[w.heap.size]?→W'.heap[w.heap.size+1]?=W.heap[w.heap.size+1]?→Rdy W')→(∀W,Rdy W→w.heap.size+1<W.heap.size)→
  Rdy ((w.alloc (.deferred (some []))).alloc (.loop R0))→
  (∀t s W,A t s W→Rdy W→YieldAt Fence.wide 0 P (w.heap.size+1) #[s.val] W fun e W'=>(e=.returned (.bool true)∧B t s W'∧Rdy W')∨(e=.returned (.bool false)∧E W'∧Don W'))→
  Calls P gf (#[.func (.yield (w.heap.size+1)) #[] #[]]++lb) ((w.alloc (.deferred (some []))).alloc (.loop R0)) fun e W'=>(∃v,e=.returned v)∧((Z W'∧Rdy W')∨(E W'∧Don W'))
theorem XB{τ:Type}(w:World)(sb gf gn:Nat)(lb lf:Array Value)(s:SV)(R:Bool→World→Prop)(A B:τ→SV→World→Prop)(A1:τ→SV→Nat→World→Prop)(E:World→Prop)
 (hls:sb<w.heap.size)
 (k0:w.cell? ⟨sb,0,none⟩=some (.int .i64 s.t)) (k1:w.cell? ⟨sb,1,none⟩=some (.slice s.x1 s.n1 s.c1)) (k2:w.cell? ⟨sb,2,none⟩=some (.slice s.x2 s.n2 s.c2)) (k3:w.cell? ⟨sb,3,none⟩=some (.slice s.x3 s.n3 s.c3)) (k4:w.cell? ⟨sb,4,none⟩=some (.int .i64 s.q))
 (hcf:∀args W,(callFunc gf args).run Tryz.prog W=.ok (.enter gf args) W) (hcn:∀args W,(callFunc gn args).run Tryz.prog W=.ok (.enter gn args) W)
 (HS1:Hid (∀t s' b W r,A1 t s' b W→A1 t s' b (W.putObj (w.heap.size+4) (.loop r)))) (HSB:Hid (∀t s' W r,B t s' W→B t s' (W.putObj (w.heap.size+4) (.loop r)))) (HSE:Hid (∀W r,E W→E (W.putObj (w.heap.size+4) (.loop r))))
 (HA:Hid (∀t s' W,A t s' W→A1 t s' W.heap.size (W.alloc (.cells s'.cells 108))∧w.heap.size+4<W.heap.size))
 (HA1:Hid (∀t s' b W,A1 t s' b W→W.heap[b]?=some (.cells s'.cells 108 (0,0))∧W.heap[w.heap.size]?=some (.cells #[.func (.func gn) #[] lf] 132 (0,0))∧(∃c,W.heap[w.heap.size+1]?=some (.cells c 108 (0,0))∧5≤c.size)∧(∃v,W.heap[w.heap.size+1+1]?=some (.cells #[v] 4 (0,0)))∧b≠w.heap.size∧b≠w.heap.size+1∧b≠w.heap.size+1+1∧
   Calls Tryz.prog gn (#[s'.val]++lf) ((eT W (w.heap.size+1) s').setCell ⟨w.heap.size+1+1,0,none⟩ (.bool true)) fun e W'=>∃r,e=.returned (.bool r)∧(W'.heap[w.heap.size+3]?=W.heap[w.heap.size+3]?∧W'.heap[w.heap.size+3+1]?=W.heap[w.heap.size+3+1]?)∧(r=true→E W')∧(r=false→B t s' W')))
 (HE:Hid (∀W,E W→∃s'' fd,W.heap[w.heap.size+1]?=some (.cells (SV.cells s'') 108 (0,0))∧W.heap[w.heap.size+1+1]?=some (.cells #[.bool fd] 4 (0,0))∧(∃c T,W.heap[sb]?=some (.cells c T (0,0))∧5≤c.size)∧R fd ((eT W sb s'').putObj (w.heap.size+3) (.deferred none))))
 (HI:Hid (∀W0,W0=((w.alloc (.cells #[.func (.func gn) #[] lf] 132)).alloc (.cells s.cells 108)).alloc (.cells #[.bool false] 4)→G0 Tryz.prog gf lb W0 A B E E)):
 Calls Tryz.prog 64 #[.pointer (some ⟨sb,0,none⟩),.func (.func gf) #[] lb,.func (.func gn) #[] lf] w fun e w'=>∃b,e=.returned (.bool b)∧R b w':=by
 refine(callsIn_wide (n:=0)).1 (callsIn_of_wp_marks Tryz.func64 rfl trivial ?_ rfl);simp only[Tryz.ntmps64,List.size_toArray,List.length_cons,List.length_nil,Nat.reduceAdd,Nat.reduceSub,Array.replicate_succ,Array.replicate_zero,List.push_toArray,List.append_toArray,List.nil_append,List.cons_append];refine wpIn_wide.2 ?_;go_wp2_with fail;have HI0:=HI.out _ rfl;unfold SV.cells at HI0;obtain⟨W0,hW0⟩:∃W0,((w.alloc (.cells #[.func (.func gn) #[] lf] 132)).alloc (.cells #[.int .i64 s.t,.slice s.x1 s.n1 s.c1,.slice s.x2 s.n2 s.c2,.slice s.x3 s.n3 s.c3,.int .i64 s.q] 108)).alloc (.cells #[.bool false] 4)=W0:=⟨_,rfl⟩;have hsz:W0.heap.size=w.heap.size+3:=by rw[←hW0];simp
 rw[hW0] at HI0 ⊢
 clear hW0 HI;have HI1:=aB HI0;clear HI0
 refine wpIn_wide.1 (QD (P:=Tryz.prog) (gf:=gf) (lb:=lb) rfl hcf (fun t x W=>∃s',x= #[SV.val s']∧A t s' W) (fun t x W=>∃s',x= #[SV.val s']∧B t s' W)
  (fun t x a' W=>∃s' b,x= #[SV.val s']∧a'={ tmps:= #[.pointer (some ⟨sb,0,none⟩),.func (.func gf) #[] lb,.func (.func gn) #[] lf,undef,undef,.pointer (some ⟨w.heap.size,0,none⟩),.bool false,.pointer (some ⟨w.heap.size+1,0,none⟩),.pointer (some ⟨w.heap.size+1+1,0,none⟩),.pointer (some ⟨b,0,none⟩),.pointer (some ⟨sb,0,none⟩),.pointer (some ⟨sb,0,none⟩),.pointer (some ⟨sb,0,none⟩),s.val,.func (.func gf) #[] lb,SV.val s',undef,undef,undef,undef,undef,undef,undef,undef,undef],defers:=[] }∧A1 t s' b W)
  (fun c x W=>c=.exit 0∧E W) E ?hps ?hAx ?hB ?hBx ?hZ ?hassign ?hbody ?hseq ?hdone ?hstop)
 case hps=>rintro t x W ⟨s',rfl,_⟩;rfl
 case hAx=>rintro t x a' W r ⟨s',b,rfl,rfl,h⟩;rw[hsz];exact⟨s',b,rfl,rfl,HS1.out _ _ _ _ _ h⟩
 case hB=>rintro t x W r ⟨s',rfl,h⟩;rw[hsz];exact⟨s',rfl,HSB.out _ _ _ _ h⟩
 case hBx=>rintro c x W r ⟨rfl,h⟩;rw[hsz];exact⟨rfl,HSE.out _ _ h⟩
 case hZ=>intro W r h;rw[hsz];exact HSE.out _ _ h
 case hassign=>
  rintro t x W K ⟨s',rfl,h⟩ hK;obtain⟨q1,q2⟩:=HA.out _ _ _ h;have hK':=aB (hK _ _ (Below.heap_alloc _ _ _ (by rw[hsz];omega)) (Below.heap_alloc _ _ _ (by rw[hsz];omega)) ⟨s',_,rfl,rfl,q1⟩)
  unfold SV.val SV.cells at hK';clear hK q1 h;unfold SV.val;gi_wp2
  exact hK'.out
 case hbody=>
  rintro t x a' W ⟨s',b,rfl,rfl,h⟩ hlt;obtain⟨e1,e2,⟨c,e3,e3'⟩,⟨v,e4⟩,n1,n2,n3,hF⟩:=HA1.out _ _ _ _ h;rw[hsz];have HF:=aB hF;unfold eT SV.val at HF;unfold SV.val;unfold SV.cells at e1;have d0:=aA (i:=0) e1 rfl;have d1:=aA (i:=1) e1 rfl;have d2:=aA (i:=2) e1 rfl;have d3:=aA (i:=3) e1 rfl;have d4:=aA (i:=4) e1 rfl;have c0:=aA (i:=0) e2 rfl;have g0:=aA (i:=0) e3 (Array.getElem?_eq_getElem (by omega))
  have g1:=aA (i:=1) e3 (Array.getElem?_eq_getElem (by omega))
  have g2:=aA (i:=2) e3 (Array.getElem?_eq_getElem (by omega))
  have g3:=aA (i:=3) e3 (Array.getElem?_eq_getElem (by omega))
  have g4:=aA (i:=4) e3 (Array.getElem?_eq_getElem (by omega))
  have f0:=aE (i:=0) e3;have f1:=aE (i:=1) e3;have f2:=aE (i:=2) e3;have f3:=aE (i:=3) e3;have f4:=aE (i:=4) e3;have o0:=aA (i:=0) e4 rfl;have o1:=aE (i:=0) e4;have l1:=aD e1;have l2:=aD e2;have l3:=aD e3;have l4:=aD e4;clear h hF e1 e2 e3 e4 HA HA1 HE HS1 HSB HSE HI1 k0 k1 k2 k3 k4;gi_wp2
  refine⟨trivial,rfl,(CallsIn.inRound _ (callsIn_wide.2 HF.out)).mono ?_⟩;rintro e W' ⟨r,rfl,hq,hE,hB⟩;cases r
  ·have HB:=aB (hB rfl);clear hB hE HF d0 d1 d2 d3 d4 c0 g0 g1 g2 g3 g4 f0 f1 f2 f3 f4 o0 o1;gi_wp2
   exact⟨hq,s',rfl,HB.out⟩
  ·have HEE:=aB (hE rfl);clear hB hE HF d0 d1 d2 d3 d4 c0 g0 g1 g2 g3 g4 f0 f1 f2 f3 f4 o0 o1;gi_wp2
   exact⟨hq,rfl,HEE.out⟩
 case hseq=>
  intro R0 Rdy Don h1 h2 h3 h4 h5 hY;refine callsIn_wide.2 ((HI1.out R0 Rdy (fun W=>∃c x,(c=Code.exit 0∧True)∧Don c W∧x=(#[]:Array Value)) h1 h2 h5 ?_).mono ?_)
  ·intro t s' W hA hR;obtain⟨fn,tmps,assign,body,hy,hr⟩:=hY t #[SV.val s'] W ⟨s',rfl,hA⟩ hR;refine⟨fn,tmps,assign,body,hy,hr.mono ?_⟩;rintro e W' (⟨rfl,⟨s2,e2,hB⟩,hR'⟩|⟨rfl,c,⟨rfl,hE⟩,hD⟩)
   ·obtain rfl:s2=s':=SV.val_inj (by simpa using e2.symm)
    exact Or.inl ⟨rfl,hB,hR'⟩
   ·exact Or.inr ⟨rfl,hE,_,_,⟨rfl,trivial⟩,hD,rfl⟩
  ·rintro e W' ⟨hv,(⟨hz,hr⟩|⟨hE,c,x,⟨rfl,_⟩,hD,_⟩)⟩
   ·exact⟨hv,Or.inl ⟨hz,hr⟩⟩
   ·exact⟨hv,Or.inr ⟨_,#[],⟨rfl,hE⟩,hD⟩⟩
 case hdone=>
  intro W hz hD hlt;rw[hsz] at hD hlt ⊢
  obtain⟨s'',fd,e1,e2,⟨c,T,e3,e3'⟩,hR⟩:=HE.out _ hz;have HR:=aB hR;unfold eT at HR;unfold SV.cells at e1;have d0:=aA (i:=0) e1 rfl;have d1:=aA (i:=1) e1 rfl;have d2:=aA (i:=2) e1 rfl;have d3:=aA (i:=3) e1 rfl;have d4:=aA (i:=4) e1 rfl;have o0:=aA (i:=0) e2 rfl;have g0:=aA (i:=0) e3 (Array.getElem?_eq_getElem (by omega))
  have g1:=aA (i:=1) e3 (Array.getElem?_eq_getElem (by omega))
  have g2:=aA (i:=2) e3 (Array.getElem?_eq_getElem (by omega))
  have g3:=aA (i:=3) e3 (Array.getElem?_eq_getElem (by omega))
  have g4:=aA (i:=4) e3 (Array.getElem?_eq_getElem (by omega))
  have f0:=aE (i:=0) e3;have f1:=aE (i:=1) e3;have f2:=aE (i:=2) e3;have f3:=aE (i:=3) e3;have f4:=aE (i:=4) e3;have l1:=aD e1;have l2:=aD e2;have l3:=aD e3;have n1:w.heap.size+1≠sb:=by omega
  have n2:w.heap.size+1+1≠sb:=by omega
  have HD:(((((W.setCell ⟨sb,0,none⟩ (.int .i64 s''.t)).setCell ⟨sb,1,none⟩ (.slice s''.x1 s''.n1 s''.c1)).setCell ⟨sb,2,none⟩ (.slice s''.x2 s''.n2 s''.c2)).setCell ⟨sb,3,none⟩ (.slice s''.x3 s''.n3 s''.c3)).setCell ⟨sb,4,none⟩ (.int .i64 s''.q)).heap[w.heap.size+3]?=some (.deferred (some [])):=by
   have hne:w.heap.size+3≠sb:=by omega
   rw[Below.heap_setCell _ _ _ _ hne,Below.heap_setCell _ _ _ _ hne,Below.heap_setCell _ _ _ _ hne,Below.heap_setCell _ _ _ _ hne,Below.heap_setCell _ _ _ _ hne];exact hD
  have HDD:=aB HD;clear hR e1 e2 e3 HE HA HA1 HS1 HSB HSE HI1 hz hD HD k0 k1 k2 k3 k4;go_wp2_with fail;refine⟨by simp,.inl ⟨_,_,rfl,run_takeDeferred HDD.out,?_⟩⟩
  exact⟨_,results_tmp rfl _ _ _,_,rfl,HR.out⟩
 case hstop=>
  rintro c x W ⟨rfl,hz⟩ hD hlt;rw[hsz] at hD hlt ⊢
  obtain⟨s'',fd,e1,e2,⟨c,T,e3,e3'⟩,hR⟩:=HE.out _ hz;have HR:=aB hR;unfold eT at HR;unfold SV.cells at e1;have d0:=aA (i:=0) e1 rfl;have d1:=aA (i:=1) e1 rfl;have d2:=aA (i:=2) e1 rfl;have d3:=aA (i:=3) e1 rfl;have d4:=aA (i:=4) e1 rfl;have o0:=aA (i:=0) e2 rfl;have g0:=aA (i:=0) e3 (Array.getElem?_eq_getElem (by omega))
  have g1:=aA (i:=1) e3 (Array.getElem?_eq_getElem (by omega))
  have g2:=aA (i:=2) e3 (Array.getElem?_eq_getElem (by omega))
  have g3:=aA (i:=3) e3 (Array.getElem?_eq_getElem (by omega))
  have g4:=aA (i:=4) e3 (Array.getElem?_eq_getElem (by omega))
  have f0:=aE (i:=0) e3;have f1:=aE (i:=1) e3;have f2:=aE (i:=2) e3;have f3:=aE (i:=3) e3;have f4:=aE (i:=4) e3;have l1:=aD e1;have l2:=aD e2;have l3:=aD e3;have n1:w.heap.size+1≠sb:=by omega
  have n2:w.heap.size+1+1≠sb:=by omega
  have HD:(((((W.setCell ⟨sb,0,none⟩ (.int .i64 s''.t)).setCell ⟨sb,1,none⟩ (.slice s''.x1 s''.n1 s''.c1)).setCell ⟨sb,2,none⟩ (.slice s''.x2 s''.n2 s''.c2)).setCell ⟨sb,3,none⟩ (.slice s''.x3 s''.n3 s''.c3)).setCell ⟨sb,4,none⟩ (.int .i64 s''.q)).heap[w.heap.size+3]?=some (.deferred (some [])):=by
   have hne:w.heap.size+3≠sb:=by omega
   rw[Below.heap_setCell _ _ _ _ hne,Below.heap_setCell _ _ _ _ hne,Below.heap_setCell _ _ _ _ hne,Below.heap_setCell _ _ _ _ hne,Below.heap_setCell _ _ _ _ hne];exact hD
  have HDD:=aB HD;clear hR e1 e2 e3 HE HA HA1 HS1 HSB HSE HI1 hz hD HD k0 k1 k2 k3 k4;refine wpIn_wide.2 ?_;go_wp2_with fail;refine⟨by simp,.inl ⟨_,_,rfl,run_takeDeferred HDD.out,?_⟩⟩
  exact⟨_,results_tmp rfl _ _ _,_,rfl,HR.out⟩
theorem IC(w:World)(src:ByteArray)(T:Nat)(hT:T≤500)(P:SV→World→Prop)(L:Nat→Nat→World→Prop)(M:Nat→World→Prop)
 (HS:Hid (Calls Tryz.prog 32 #[.string src,.slice none 0 0] w fun e w'=>∃sb,e=.returned (.tuple #[.pointer (some ⟨sb,0,none⟩),.int .i64 0,.int .i64 0])∧L 0 sb w'))
 (HL:Hid (∀t sb W,L t sb W→Calls Tryz.prog 28 #[.pointer (some ⟨sb,0,none⟩)] W fun e w'=>(t<T∧e=.returned (.bool true)∧L (t+1) sb w')∨(t=T∧e=.returned (.bool false)∧M sb w')))
 (HM:Hid (∀sb W,M sb W→Calls Tryz.prog 23 #[.pointer (some ⟨sb,0,none⟩)] W fun e w'=>∃m:SV,e=.returned m.val∧m.t=T∧m.q=1∧m.n1=0∧∀q,P m ((w'.alloc (.cells m.cells 63)).drewN q))):
 Calls Tryz.prog 35 #[.string src] w fun e w'=>∃m:SV,e=.returned (.tuple #[.slice m.x3 m.n3 m.c3,.int .i64 T,.bool true])∧P m w':=by
 go_enter Tryz.func35,Tryz.ntmps35;go_wp2_with fail;refine HS.out.mono ?_;rintro e w1 ⟨sb,rfl,h1⟩;have H1:=aB h1;clear h1 HS;go_wp2_with fail;go_loopg [8] (T+1) (fun gk s8 wr=>∃t:Nat,s8=.int .i64 t∧gk+t=T+1∧t≤T∧L t sb wr)
 case atStart=>exact⟨0,rfl,by omega,by omega,H1.out⟩
 case round=>
  obtain⟨t,rfl,hgk,htT,hl⟩:=hrel
  ·have HLL:=aB (HL.out _ _ _ hl);have h5:(t:Int)≤500:=by omega
   clear hl HL;go_wp2_with fail;refine HLL.out.mono ?_;rintro e w2 (⟨h2,rfl,h3⟩|⟨h2,rfl,h3⟩)
   ·have H3:=aB h3;clear h3 HLL HM;go_wp2_with fail;go_roundg (gk-1)
    case measure=>omega
    case rel=>exact⟨t+1,by simp,by omega,by omega,H3.out⟩
   ·have HMM:=aB (HM.out _ _ h3);unfold SV.val SV.cells at HMM;clear h3 HM HLL;go_wp2_with fail;refine HMM.out.mono ?_;rintro e w3 ⟨m,rfl,e1,e2,e3,hp⟩;have HP:=aB hp;clear hp HMM;subst h2;rw[e1,e2,e3] at HP;rw[e1,e2,e3];go_wp2_with fail;go_quiet (fail)
    go_wp2_with fail;go_ret3
    exact⟨m,rfl,HP.out _⟩
theorem zZ(w:World)(sb:Nat)(s:SV)(P N:SV→Bool→World→Prop)
 (HN:Hid (Calls Tryz.prog 163 #[s.val] ((w.alloc (.cells s.cells 108)).alloc (.cells #[.int .i64 0,.slice none 0 0,.slice none 0 0,.slice none 0 0,.int .i64 0] 108)) fun e w'=>∃s' ok,e=.returned (.tuple #[SV.val s',.bool ok])∧N s' ok w'))
 (HF:Hid (∀s' W,N s' false W→(∃c,W.heap[w.heap.size+1]?=some (.cells c 108 (0,0))∧5≤c.size)∧P s' false ((eT W (w.heap.size+1) s').alloc (.cells s'.cells 108))))
 (HK:Hid (∀s' W,N s' true W→Calls Tryz.prog 71 #[.pointer (some ⟨sb,0,none⟩),s'.val] (W.alloc (.cells s'.cells 108)) fun e w'=>e=.returned (.tuple #[])∧w'.heap[W.heap.size]?=some (.cells s'.cells 108 (0,0))∧(∃c,w'.heap[w.heap.size+1]?=some (.cells c 108 (0,0))∧5≤c.size)∧w.heap.size+1<W.heap.size∧P s' true (eT w' (w.heap.size+1) s'))):
 Calls Tryz.prog 111 #[.pointer (some ⟨sb,0,none⟩),s.val] w fun e w'=>∃s' ok,e=.returned (.tuple #[SV.val s',.bool ok])∧P s' ok w':=by
 unfold SV.val SV.cells at HN;unfold SV.val;go_enter Tryz.func111,Tryz.ntmps111;go_wp2_with fail;refine HN.out.mono ?_;rintro e w1 ⟨s',ok,rfl,h1⟩;cases ok
 ·obtain⟨⟨c,e3,e3'⟩,hp⟩:=HF.out _ _ h1;have HP:=aB hp;unfold eT SV.cells at HP;have g0:=aA (i:=0) e3 (Array.getElem?_eq_getElem (by omega))
  have g1:=aA (i:=1) e3 (Array.getElem?_eq_getElem (by omega))
  have g2:=aA (i:=2) e3 (Array.getElem?_eq_getElem (by omega))
  have g3:=aA (i:=3) e3 (Array.getElem?_eq_getElem (by omega))
  have g4:=aA (i:=4) e3 (Array.getElem?_eq_getElem (by omega))
  have f0:=aE (i:=0) e3;have f1:=aE (i:=1) e3;have f2:=aE (i:=2) e3;have f3:=aE (i:=3) e3;have f4:=aE (i:=4) e3;have l3:=aD e3;have n1:w1.heap.size≠w.heap.size+1:=by omega
  have hs:=nP (W:=w1) (V:=(eT w1 (w.heap.size+1) s').alloc (.cells s'.cells 108)) (s:=s') e3 e3' (Below.heap_alloc _ _ _ (by rw[(gU _ _ _).1];exact l3))
  have HC:=aB hs;unfold eT SV.cells at HC;clear hp h1 HN HF HK e3 hs;go_wp2_with fail;have HC':=HC.out;have HP':=HP.out;clear HC HP g0 g1 g2 g3 g4 f0 f1 f2 f3 f4;generalize (((((w1.setCell ⟨w.heap.size+1,0,none⟩ (.int .i64 s'.t)).setCell ⟨w.heap.size+1,1,none⟩ (.slice s'.x1 s'.n1 s'.c1)).setCell ⟨w.heap.size+1,2,none⟩ (.slice s'.x2 s'.n2 s'.c2)).setCell ⟨w.heap.size+1,3,none⟩ (.slice s'.x3 s'.n3 s'.c3)).setCell ⟨w.heap.size+1,4,none⟩ (.int .i64 s'.q)).alloc (.cells #[.int .i64 s'.t,.slice s'.x1 s'.n1 s'.c1,.slice s'.x2 s'.n2 s'.c2,.slice s'.x3 s'.n3 s'.c3,.int .i64 s'.q] 108)=W3 at HC' HP' ⊢
  obtain⟨c0,c1,c2,c3,c4⟩:=HC';exact bodyPost_ret (v:=.tuple #[.agg #[.int .i64 s'.t,.slice s'.x1 s'.n1 s'.c1,.slice s'.x2 s'.n2 s'.c2,.slice s'.x3 s'.n3 s'.c3,.int .i64 s'.q],.bool false]) (by simp[results,Tryz.results111,go_sem,c0,c1,c2,c3,c4]) rfl ⟨s',false,rfl,HP'⟩
 ·have HKK:=aB (HK.out _ _ h1);unfold SV.val SV.cells at HKK;clear h1 HN HF HK;go_wp2_with fail;refine HKK.out.mono ?_;rintro e w2 ⟨rfl,e1,⟨c,e3,e3'⟩,l1,hp⟩;have HP:=aB hp;unfold eT at HP;have d0:=aA (i:=0) e1 rfl;have d1:=aA (i:=1) e1 rfl;have d2:=aA (i:=2) e1 rfl;have d3:=aA (i:=3) e1 rfl;have d4:=aA (i:=4) e1 rfl;have g0:=aA (i:=0) e3 (Array.getElem?_eq_getElem (by omega))
  have g1:=aA (i:=1) e3 (Array.getElem?_eq_getElem (by omega))
  have g2:=aA (i:=2) e3 (Array.getElem?_eq_getElem (by omega))
  have g3:=aA (i:=3) e3 (Array.getElem?_eq_getElem (by omega))
  have g4:=aA (i:=4) e3 (Array.getElem?_eq_getElem (by omega))
  have f0:=aE (i:=0) e3;have f1:=aE (i:=1) e3;have f2:=aE (i:=2) e3;have f3:=aE (i:=3) e3;have f4:=aE (i:=4) e3;have l3:=aD e3;have l4:=aD e1;have n1:w1.heap.size≠w.heap.size+1:=by omega
  have hs:=nP (W:=w2) (s:=s') e3 e3' rfl;have HC:=aB hs;unfold eT at HC;clear hp HKK e1 e3 hs;go_wp2_with fail;have HC':=HC.out;have HP':=HP.out;clear HC HP g0 g1 g2 g3 g4 f0 f1 f2 f3 f4 d0 d1 d2 d3 d4;generalize ((((w2.setCell ⟨w.heap.size+1,0,none⟩ (.int .i64 s'.t)).setCell ⟨w.heap.size+1,1,none⟩ (.slice s'.x1 s'.n1 s'.c1)).setCell ⟨w.heap.size+1,2,none⟩ (.slice s'.x2 s'.n2 s'.c2)).setCell ⟨w.heap.size+1,3,none⟩ (.slice s'.x3 s'.n3 s'.c3)).setCell ⟨w.heap.size+1,4,none⟩ (.int .i64 s'.q)=W3 at HC' HP' ⊢
  obtain⟨c0,c1,c2,c3,c4⟩:=HC';exact bodyPost_ret (v:=.tuple #[.agg #[.int .i64 s'.t,.slice s'.x1 s'.n1 s'.c1,.slice s'.x2 s'.n2 s'.c2,.slice s'.x3 s'.n3 s'.c3,.int .i64 s'.q],.bool true]) (by simp[results,Tryz.results111,go_sem,c0,c1,c2,c3,c4]) rfl ⟨s',true,rfl,HP'⟩
end Go.Proofs.YtblbkfdhjfppkaaGreatDoor
namespace Go.Proofs.YtblbkfdhjfppkaaGreatDoor.Hs
inductive cL:List UInt8→Prop
 |nil:cL []
 |cons {l:List UInt8}:bD l≠0→cL (l.drop (bD l))→cL l
theorem lS{l m:List UInt8}{i lo hi:Nat}(h:m[i]?=l[i]?):cY m i lo hi=cY l i lo hi:=by unfold cY;rw[h]
theorem mH{l m:List UInt8}(h:bD l≠0)(hm:∀i,i<bD l→m[i]?=l[i]?):bD m=bD l:=by
 have h0:=hm 0 (by omega)
 unfold bD at h hm ⊢
 rw[h0];cases hb:l[0]? with
 |none=>exact absurd (by rw[hb]) h
 |some b=>
  rw[hb] at h hm;simp only at h hm ⊢
  by_cases c1:b.toNat<128
  ·rw[if_pos c1,if_pos c1]
  rw[if_neg c1] at h hm;rw[if_neg c1,if_neg c1];by_cases c2:194≤b.toNat∧b.toNat≤223
  ·rw[if_pos c2] at h hm;rw[if_pos c2,if_pos c2];by_cases c3:cY l 1 128 191=true
   ·rw[if_pos c3] at hm;rw[lS (hm 1 (by omega))]
   ·rw[if_neg c3] at h;exact absurd rfl h
  rw[if_neg c2] at h hm;rw[if_neg c2,if_neg c2];by_cases c4:224≤b.toNat∧b.toNat≤239
  ·rw[if_pos c4] at h hm;rw[if_pos c4,if_pos c4];by_cases c5:(cY l 1 (if b.toNat=224 then 160 else 128) (if b.toNat=237 then 159 else 191) && cY l 2 128 191)=true
   ·rw[if_pos c5] at hm;rw[lS (hm 1 (by omega)),lS (hm 2 (by omega))]
   ·rw[if_neg c5] at h;exact absurd rfl h
  rw[if_neg c4] at h hm;rw[if_neg c4,if_neg c4];by_cases c6:240≤b.toNat∧b.toNat≤244
  ·rw[if_pos c6] at h hm;rw[if_pos c6,if_pos c6];by_cases c7:(cY l 1 (if b.toNat=240 then 144 else 128) (if b.toNat=244 then 143 else 191) && cY l 2 128 191 && cY l 3 128 191)=true
   ·rw[if_pos c7] at hm;rw[lS (hm 1 (by omega)),lS (hm 2 (by omega)),lS (hm 3 (by omega))]
   ·rw[if_neg c7] at h;exact absurd rfl h
  ·rw[if_neg c6] at h;exact absurd rfl h
def JZ(t:List UInt8):Prop:=t.length≤100∧cL t
end Go.Proofs.YtblbkfdhjfppkaaGreatDoor.Hs
namespace Go.Proofs.YtblbkfdhjfppkaaGreatDoor
open Hs
def oQ:Nat→aC→Prop
 |0,_=>True
 |d+1,a=>(a.op=[115]→a.text.length≤100∧cL a.text)∧a.kids.length≤1000000∧∀k∈a.kids,oQ d k
def lO(a:aC):Prop:=∀e,oQ e a
theorem lO.kid{a k:aC}(h:lO a)(hk:k∈a.kids):lO k:=fun e=>(h (e+1)).2.2 k hk
theorem lO.len{a:aC}(h:lO a):a.kids.length≤1000000:=(h 1).2.1
end Go.Proofs.YtblbkfdhjfppkaaGreatDoor
namespace Go.Proofs.YtblbkfdhjfppkaaGreatDoor.Hs
inductive cX:aC→Prop
 |leaf (a:aC) (h:a.op=[48]∨a.op=[115]∨a.op=[98,111,111,108]∨a.op=[110,97,109,101]) (hk:a.kids=[]) (ht:a.op=[115]→JZ a.text):cX a
 |many (a:aC) (h:a.op=[108,105,115,116]∨a.op=[99,97,108,108]) (hk:∀k∈a.kids,cX k):cX a
 |one (a l:aC) (h:a.op=[45,120]∨a.op=[33,120]) (hk:a.kids=[l]) (hl:cX l):cX a
 |two (a l r:aC) (h:a.op=[105,110,100,101,120]∨bV a.op≠9) (hk:a.kids=[l,r]) (hl:cX l) (hr:cX r):cX a
inductive fW:aC→Prop
 |var (a t v:aC) (h:a.op=[118,97,114]) (hk:a.kids=[t,v]) (hv:cX v) (ht:t.op=[116,97,114,103,101,116]∧t.kids=[]):fW a
 |set (a:aC) (h:a.op=[115,101,116]) (hn:a.kids≠[]) (hk:∀k∈a.kids,cX k):fW a
 |if2 (a c t:aC) (h:a.op=[105,102]) (hk:a.kids=[c,t]) (hc:cX c) (ht:t.op=[98,108,111,99,107]) (htk:∀k∈t.kids,fW k):fW a
 |if3 (a c t x:aC) (h:a.op=[105,102]) (hk:a.kids=[c,t,x]) (hc:cX c) (ht:t.op=[98,108,111,99,107]) (htk:∀k∈t.kids,fW k) (hx:x.op=[98,108,111,99,107]) (hxk:∀k∈x.kids,fW k):fW a
 |whl (a c t:aC) (h:a.op=[119,104,105,108,101]) (hk:a.kids=[c,t]) (hc:cX c) (ht:t.op=[98,108,111,99,107]) (htk:∀k∈t.kids,fW k):fW a
 |ret0 (a:aC) (h:a.op=[114,101,116,117,114,110]) (hk:a.kids=[]):fW a
 |ret1 (a v:aC) (h:a.op=[114,101,116,117,114,110]) (hk:a.kids=[v]) (hv:cX v):fW a
 |print (a v:aC) (h:a.op=[112,114,105,110,116]) (hk:a.kids=[v]) (hv:cX v):fW a
 |call (a c:aC) (h:a.op=[100,111]) (hk:a.kids=[c]) (hc:cX c) (ho:c.op=[99,97,108,108]):fW a
structure KF(b:aC):Prop where
 op:b.op=[98,108,111,99,107]
 kids:∀k∈b.kids,fW k
structure qC(f:aC):Prop where
 kids:∃ps b,f.kids=ps++[b]∧(∀x∈ps,x.op=[112,97,114,97,109])∧KF b∧∀x∈ps,x.kids=[]
def bJ{α:Type}(P:α→Prop)(r:bR α):Prop:=∀a q,r=.ok (a,q)→P a
theorem bJ.err{α:Type}{P:α→Prop}{n:Nat}:bJ P (.error n):=fun a q h=>by cases h
theorem bJ.bad{α:Type}{P:α→Prop}{p':Nat}{ts:List aV}:bJ P (bad ts p'):=fun a q h=>by cases h
theorem bJ.of_ok{α:Type}{P:α→Prop}{q:Nat}{a:α}(h:P a):bJ P (.ok (a,q)):=fun a' q' e=>by cases e;exact h
theorem bJ.take{α:Type}{P:α→Prop}{ts:List aV}{x:List UInt8}{r:bR α}(h:bJ P r):bJ P (aL ts x r):=by
 cases r with
 |error l=>exact bJ.err
 |ok aq=>
  obtain⟨a,q⟩:=aq;have:=h a q rfl;unfold aL;simp only;split
  ·exact bJ.of_ok this
  ·exact bJ.bad
theorem bJ.map{α β:Type}{P:α→Prop}{Q:β→Prop}{r:bR α}{f:α→β}(h:bJ P r)(hf:∀a,P a→Q (f a)):bJ Q (bT f r):=by
 cases r with
 |error l=>exact bJ.err
 |ok aq=>obtain⟨a,q⟩:=aq;exact bJ.of_ok (hf a (h a q rfl))
theorem bJ.bind{α β:Type}{P:α→Prop}{Q:β→Prop}{r:bR α}{f:α→Nat→bR β}(h:bJ P r)(hf:∀a q,P a→bJ Q (f a q)):bJ Q (bN r f):=by
 cases r with
 |error l=>exact bJ.err
 |ok aq=>obtain⟨a,q⟩:=aq;exact hf a q (h a q rfl)
def eI(P:aC→Prop)(l:List aC):Prop:=∀k∈l,P k
theorem eI.nil{P:aC→Prop}:eI P []:=fun _ h=>by cases h
theorem eI.snoc{P:aC→Prop}{l:List aC}{a:aC}(h:eI P l)(ha:P a):eI P (l++[a]):=fun k hk=>by
 rcases List.mem_append.1 hk with hk|hk
 ·exact h k hk
 ·rw[List.mem_singleton.1 hk];exact ha
section
variable {ts:List aV} {E:Nat→bR aC}
def qB(ts:List aV):Prop:=∀p,(aO ts p).sort=115→JZ (aO ts p).text
theorem pK(HE:∀q,bJ cX (E q)):∀(g p:Nat) (acc:List aC),eI cX acc→bJ (eI cX) (dC E ts g p acc)
 |0,p,acc,_=>bJ.err
 |g+1,p,acc,h0=>by
  rw[dC];cases hx:E p with
  |error l=>exact bJ.err
  |ok aq=>
   obtain⟨a,q⟩:=aq;have h2:=HE p a q hx;simp only;split
   ·exact pK HE g (q+1) _ (h0.snoc h2)
   ·exact bJ.of_ok (h0.snoc h2)
theorem pJ(HE:∀q,bJ cX (E q))(p:Nat)(x y:List UInt8):bJ (eI cX) (eF E ts p x y):=by
 unfold eF;split
 ·refine bJ.take ?_;unfold gN;split
  ·exact bJ.of_ok eI.nil
  ·exact pK HE _ _ _ eI.nil
 ·exact bJ.bad
theorem DG(hts:qB ts)(HE:∀q,bJ cX (E q))(p:Nat):bJ cX (dP E ts p):=by
 unfold dP;split
 ·rename_i h;simp at h;rcases h with h|h
  ·refine bJ.of_ok (.leaf _ (Or.inl (by show [UInt8.ofNat _]=_;rw[h];rfl)) rfl fun e=>?_)
   have e':[UInt8.ofNat (aO ts p).sort]=[115]:=e;rw[h] at e';exact absurd e' (by decide)
  ·exact bJ.of_ok (.leaf _ (Or.inr (Or.inl (by show [UInt8.ofNat _]=_;rw[h];rfl))) rfl fun _=>hts p h)
 split
 ·exact bJ.of_ok (.leaf _ (Or.inr (Or.inr (Or.inl rfl))) rfl fun e=>by simp[aP] at e)
 split
 ·exact(HE (p+1)).take
 split
 ·exact bJ.map (pJ HE p _ _) fun a h=>.many _ (Or.inl rfl) h
 split
 ·split
  ·exact bJ.map (pJ HE (p+1) _ _) fun a h=>.many _ (Or.inr rfl) h
  ·exact bJ.of_ok (.leaf _ (Or.inr (Or.inr (Or.inr rfl))) rfl fun e=>by simp[aP] at e)
 ·exact bJ.bad
theorem wB(HE:∀q,bJ cX (E q)):∀(g:Nat) (n:aC) (p:Nat),cX n→bJ cX (cT E ts g n p)
 |0,n,p,_=>bJ.err
 |g+1,n,p,h0=>by
  rw[cT];split
  ·have hE:=(HE (p+1)).take (ts:=ts) (x:=[93]);cases hx:aL ts [93] (E (p+1)) with
   |error l=>exact bJ.err
   |ok iq=>
    obtain⟨i,q⟩:=iq;exact wB HE g _ q (.two _ n i (Or.inl rfl) rfl h0 (hE i q hx))
  ·exact bJ.of_ok h0
theorem pH(hts:qB ts)(HE:∀q,bJ cX (E q)):∀(g p:Nat),bJ cX (eC E ts g p)
 |0,p=>bJ.err
 |g+1,p=>by
  rw[eC];split
  ·exact bJ.map (pH hts HE g (p+1)) fun a h=>.one _ a (Or.inl rfl) rfl h
  split
  ·exact bJ.map (pH hts HE g (p+1)) fun a h=>.one _ a (Or.inr rfl) rfl h
  ·exact bJ.bind (DG hts HE p) fun a q h1=>wB HE _ a q h1
theorem oL{L:Nat→bR aC}{k:Nat}(hk9:k<9)(HL:∀q,bJ cX (L q)):∀(g:Nat) (n:aC) (q:Nat),cX n→bJ cX (bC L ts k g n q)
 |0,n,q,_=>bJ.err
 |g+1,n,q,h0=>by
  rw[bC];split
  ·rename_i hlev;cases hx:L (q+1) with
   |error l=>exact bJ.err
   |ok rq=>
    obtain⟨r,q2⟩:=rq;have h2:=HL _ r q2 hx;have hn:cX (aP (aO ts q).text (aO ts q).line [] [n,r]):=.two _ n r (Or.inr (by simp at hlev;show bV (aO ts q).text≠9;rw[hlev.2];omega)) rfl h0 h2
    simp only;split
    ·exact bJ.of_ok hn
    ·exact oL hk9 HL g _ q2 hn
  ·exact bJ.of_ok h0
theorem pL(hts:qB ts)(HE:∀q,bJ cX (E q)):∀(j p:Nat),bJ cX (fJ E ts j p)
 |0,p=>pH hts HE _ p
 |j+1,p=>by
  rw[fJ];exact bJ.bind (pL hts HE j p) fun a q h1=>oL (by omega) (fun q=>pL hts HE j q) _ a q h1
theorem AK(ts:List aV)(hts:qB ts):∀(f p:Nat),bJ cX (eX ts f p)
 |0,p=>bJ.err
 |f+1,p=>by
  rw[eX];exact pL hts (fun q=>AK ts hts f q) 5 p
theorem qZ(HE:∀q,bJ cX (E q)):∀(g p:Nat) (acc:List aC),eI cX acc→bJ (eI cX) (eL E ts g p acc)
 |0,p,acc,_=>bJ.err
 |g+1,p,acc,h0=>by
  rw[eL];split
  ·have hE:=(HE (p+1)).take (ts:=ts) (x:=[93]);cases hx:aL ts [93] (E (p+1)) with
   |error l=>exact bJ.err
   |ok iq=>
    obtain⟨i,q⟩:=iq;exact qZ HE g q _ (h0.snoc (hE i q hx))
  ·exact bJ.of_ok h0
theorem IB(HE:∀q,bJ cX (E q))(p:Nat):bJ fW (eK E ts p):=by
 unfold eK;split
 ·split
  ·exact bJ.take (bJ.map (pJ HE (p+1) _ _) fun a h=>.call _ _ rfl rfl (.many _ (Or.inr rfl) h) rfl)
  ·refine bJ.bind ((qZ HE _ (p+1) [] eI.nil).take) fun l q h1=>?_
   exact bJ.take (bJ.map (HE q) fun v hv=>.set _ rfl (by simp[aP]) (h1.snoc hv))
 ·exact bJ.bad
theorem QF{B:Nat→bR aC}(HE:∀q,bJ cX (E q))(HB:∀q,bJ KF (B q))(p:Nat):bJ fW (iH E B ts p):=by
 unfold iH;split
 ·unfold nN;split
  ·split
   ·exact bJ.take (bJ.map (HE (p+3)) fun v hv=>.var _ _ v rfl rfl hv ⟨rfl,rfl⟩)
   ·exact bJ.bad
  ·exact bJ.bad
 split
 ·unfold pR;refine bJ.bind (HE (p+1)) fun c q h1=>bJ.bind (HB q) fun b q2 h3=>?_
  split
  ·exact bJ.map (HB (q2+1)) fun d hd=>.if3 _ c b d rfl rfl h1 h3.op h3.kids hd.op hd.kids
  ·exact bJ.of_ok (.if2 _ c b rfl rfl h1 h3.op h3.kids)
 split
 ·unfold jM;exact bJ.bind (HE (p+1)) fun c q h1=>bJ.map (HB q) fun b hb=>.whl _ c b rfl rfl h1 hb.op hb.kids
 split
 ·unfold gI;split
  ·exact bJ.of_ok (.ret0 _ rfl rfl)
  ·exact bJ.take (bJ.map (HE (p+1)) fun v hv=>.ret1 _ v rfl rfl hv)
 split
 ·unfold hP;exact bJ.take (bJ.map (HE (p+1)) fun v hv=>.print _ v rfl rfl hv)
 ·exact IB HE p
theorem oM{S:Nat→bR aC}(HS:∀q,bJ fW (S q)):∀(g p:Nat) (acc:List aC),eI fW acc→bJ (eI fW) (dD S ts g p acc)
 |0,p,acc,_=>bJ.err
 |g+1,p,acc,h0=>by
  rw[dD];split
  ·exact bJ.of_ok h0
  ·cases hx:S p with
   |error l=>exact bJ.err
   |ok sq=>
    obtain⟨s,q⟩:=sq;exact oM HS g q _ (h0.snoc (HS p s q hx))
theorem wC(HE:∀q,bJ cX (E q)):∀(f p:Nat),bJ KF (iD E ts f p)
 |0,p=>bJ.err
 |f+1,p=>by
  rw[iD];split
  ·exact bJ.map (bJ.take (oM (fun q=>QF HE (fun q=>wC HE f q) q) _ (p+1) [] eI.nil)) fun l h=>⟨rfl,h⟩
  ·exact bJ.bad
theorem oK:∀(g p:Nat) (acc:List aC),eI (fun x=>x.op=[112,97,114,97,109]∧x.kids=[]) acc→bJ (eI fun x=>x.op=[112,97,114,97,109]∧x.kids=[]) (cN ts g p acc)
 |0,p,acc,_=>bJ.err
 |g+1,p,acc,h0=>by
  have hl:eI (fun x=>x.op=[112,97,114,97,109]∧x.kids=[]) (acc++[aP [112,97,114,97,109] (aO ts p).line (aO ts p).text []]):=h0.snoc ⟨rfl,rfl⟩
  rw[cN];split
  ·split
   ·exact oK g (p+2) _ hl
   ·exact bJ.of_ok hl
  ·exact bJ.bad
theorem QG{B:Nat→bR aC}(HB:∀q,bJ KF (B q))(p:Nat):bJ qC (jD B ts p):=by
 unfold jD;split
 ·split
  ·split
   ·have hpar:bJ (eI fun x=>x.op=[112,97,114,97,109]∧x.kids=[]) (gK ts (p+3)):=by
     unfold gK;refine bJ.take ?_;split
     ·exact bJ.of_ok eI.nil
     ·exact oK _ (p+3) [] eI.nil
    exact bJ.bind hpar fun l q h1=>bJ.map (HB q) fun b hb=>⟨l,b,rfl,fun x hx=>(h1 x hx).1,hb,fun x hx=>(h1 x hx).2⟩
   ·exact bJ.bad
  ·exact bJ.bad
 ·exact bJ.bad
theorem pI{F:Nat→bR aC}(HF:∀q,bJ qC (F q)):∀(g p:Nat) (acc:List aC),eI qC acc→bJ (eI qC) (eM F ts g p acc)
 |0,p,acc,_=>bJ.err
 |g+1,p,acc,h0=>by
  rw[eM];split
  ·exact bJ.of_ok h0
  ·cases hx:F p with
   |error l=>exact bJ.err
   |ok sq=>
    obtain⟨s,q⟩:=sq;exact pI HF g q _ (h0.snoc (HF p s q hx))
end
theorem cL.split{a b:List UInt8}{c:UInt8}(hc:c.toNat<128)(h:cL (a++c::b)):cL a∧cL b:=by
 generalize hl:a++c::b=l at h;induction h generalizing a with
 |nil=>simp at hl
 |cons h1 h2 ih=>
  subst hl;cases a with
  |nil=>
   have e:bD ([]++c::b)=1:=by simp[bD,hc]
   rw[e] at h2;exact⟨.nil,by simpa using h2⟩
  |cons x a=>
   have hle:bD (x::a++c::b)≤(x::a).length:=by
    refine Nat.le_of_not_lt fun hn=>?_
    have hx:∀i lo hi,128≤lo→i=a.length+1→cY (x::a++c::b) i lo hi=false:=fun i lo hi h0 hi'=>by
     subst hi';have:(x::a++c::b)[a.length+1]?=some c:=by simp
     unfold cY;rw[this];simp;omega
    have hx':∀i lo hi,128≤lo→cY (x::a++c::b) i lo hi=true→i≠a.length+1:=fun i lo hi h0 ht e=>by rw[hx i lo hi h0 e] at ht;cases ht
    unfold bD at h1 hn;rw[List.length_cons] at hn;simp only[List.cons_append,List.getElem?_cons_zero] at h1 hn hx';have hlo:∀n m:Nat,128≤m→128≤(if x.toNat=n then m else 128):=fun n m h=>by split<;>omega
    by_cases c1:x.toNat<128
    ·rw[if_pos c1] at hn;omega
    rw[if_neg c1] at hn;by_cases c2:194≤x.toNat∧x.toNat≤223
    ·rw[if_pos c2] at hn;by_cases h:cY (x::(a++c::b)) 1 128 191=true
     ·rw[if_pos h] at hn;have:=hx' _ _ _ (by omega) h;omega
     ·rw[if_neg h] at hn;omega
    rw[if_neg c2] at hn;by_cases c3:224≤x.toNat∧x.toNat≤239
    ·rw[if_pos c3] at hn;by_cases h:(cY (x::(a++c::b)) 1 (if x.toNat=224 then 160 else 128) (if x.toNat=237 then 159 else 191) && cY (x::(a++c::b)) 2 128 191)=true
     ·rw[if_pos h] at hn;rw[Bool.and_eq_true] at h;have q1:=hx' _ _ _ (hlo _ _ (by omega)) h.1
      have q2:=hx' _ _ _ (by omega) h.2
      omega
     ·rw[if_neg h] at hn;omega
    rw[if_neg c3] at hn;by_cases c4:240≤x.toNat∧x.toNat≤244
    ·rw[if_pos c4] at hn;by_cases h:(cY (x::(a++c::b)) 1 (if x.toNat=240 then 144 else 128) (if x.toNat=244 then 143 else 191) && cY (x::(a++c::b)) 2 128 191 && cY (x::(a++c::b)) 3 128 191)=true
     ·rw[if_pos h] at hn;rw[Bool.and_eq_true,Bool.and_eq_true] at h;have q1:=hx' _ _ _ (hlo _ _ (by omega)) h.1.1
      have q2:=hx' _ _ _ (by omega) h.1.2
      have q3:=hx' _ _ _ (by omega) h.2
      omega
     ·rw[if_neg h] at hn;omega
    ·rw[if_neg c4] at hn;omega
   have hd:(x::a++c::b).drop (bD (x::a++c::b))=(x::a).drop (bD (x::a++c::b))++c::b:=by rw[List.drop_append_of_le_length hle]
   obtain⟨k1,k2⟩:=ih hd.symm;refine⟨?_,k2⟩;have e:bD (x::a)=bD (x::a++c::b):=mH h1 fun i hi=>(List.getElem?_append_left (by omega)).symm
   exact .cons (by rw[e];exact h1) (by rw[e];exact k1)
theorem oE:∀(f:Nat) (l:List UInt8) (p:Nat),l.length≤f→dJ f l p=none→cL l
 |0,l,_,h,_=>by
  obtain rfl:l=[]:=List.eq_nil_of_length_eq_zero (by omega)
  exact .nil
 |f+1,l,p,h,hs=>by
  rw[dJ] at hs;split at hs
  ·rename_i h0;obtain rfl:l=[]:=List.eq_nil_of_length_eq_zero h0;exact .nil
  split at hs
  ·cases hs
  rename_i h1;exact .cons h1 (oE f _ _ (by rw[List.length_drop];omega) hs)
theorem KK(f:Nat):∀(pre l:List UInt8) (ts:List aV),eD f pre l=.ok ts→cL (pre++l)→∀t∈ts,t.sort=115→JZ t.text:=by
 induction f with
 |zero=>intro pre l ts h;cases h
 |succ f ih=>
  intro pre l ts h hx t ht hs;by_cases hl:l.length=0
  ·rw[lG _ _ _ hl] at h;cases h;rw[List.mem_singleton.1 ht] at hs;cases hs
  ·cases hk:(bU l).ok
   ·rw[lH _ _ _ hl hk] at h;cases h
   ·rw[kV _ _ _ hl hk _ rfl] at h;generalize hm:(bU l).size+blankL l.length (l.drop (bU l).size)=m at h;cases hy:eD f (pre++l.take m) (l.drop m) with
    |error n=>rw[hy] at h;cases h
    |ok us=>
     rw[hy] at h;cases h;rcases List.mem_cons.1 ht with rfl|ht
     ·cases l with
      |nil=>simp at hl
      |cons c r=>
       rw[bU] at hs hk ⊢
       by_cases h1:(dW c || eV c)=true
       ·rw[if_pos h1] at hs;exfalso;unfold gB at hs;split at hs
        ·simp only at hs;split at hs<;>omega
        ·simp at hs
       rw[if_neg h1] at hs hk ⊢
       by_cases h2:c.toNat=34
       ·rw[if_pos h2] at hk ⊢
        simp only[mN,Bool.and_eq_true,decide_eq_true_eq] at hk;refine⟨by simp only[mN,List.length_take];omega,?_⟩
        have hr:r=r.take (bI eU r)++34::r.drop (bI eU r+1):=by
         obtain⟨hlt,hg⟩:=List.getElem?_eq_some_iff.1 hk.1;conv=>lhs;rw[←List.take_append_drop (bI eU r) r,List.drop_eq_getElem_cons hlt,hg]
        have h3:=(hx.split (by omega)).2
        rw[hr] at h3;exact(h3.split (by decide)).1
       ·rw[if_neg h2] at hs;exfalso;unfold gA at hs;split at hs<;>simp at hs
     ·exact ih _ _ us hy (by rw[List.append_assoc,List.take_append_drop];exact hx) t ht hs
theorem CG{l:List UInt8}{ts:List aV}(h:fY l=.ok ts)(hs:dJ l.length l 0=none):qB ts:=fun p hp=>by
 unfold aO at hp ⊢
 cases ht:ts[p]? with
 |none=>rw[ht] at hp;cases hp
 |some t=>
  rw[ht] at hp;exact KK _ _ _ _ h (by rw[List.take_append_drop];exact oE _ _ _ (Nat.le_refl _) hs) t (List.mem_of_getElem? ht) hp
theorem tK{l:List UInt8}{ks:List aC}(h:cR l=.ok ks):∀f∈ks,qC f:=by
 unfold cR at h;split at h
 ·cases h
 split at h
 ·cases h
 rename_i hsp;split at h
 ·cases h
 rename_i ts ht;split at h
 ·cases h
 rename_i q hp;cases h;exact pI (fun q=>QG (fun q'=>wC (fun q=>AK ts (CG ht hsp) _ q) _ q') q) _ _ _ eI.nil _ _ hp
structure aI where
 sort:Nat
 n:Int
 s:List UInt8
 l:List aI
theorem aI.ind{P:aI→Prop}(h:∀v,(∀x,x∈v.l→P x)→P v):∀v,P v
 |⟨a,b,c,l⟩=>h ⟨a,b,c,l⟩ fun x _=>aI.ind h x
def bB(n:Int):aI:=⟨0,n,[],[]⟩
def bL(b:Bool):aI:=⟨1,if b then 1 else 0,[],[]⟩
def bH(s:List UInt8):aI:=⟨2,0,s,[]⟩
def aU(l:List aI):aI:=⟨3,0,[],l⟩
def bK:aI:=⟨0,0,[],[]⟩
noncomputable def aI.fold{α:Type}(f:Nat→Int→List UInt8→List α→α)(v:aI):α:=
 aI.rec (motive_1:=fun _=>α) (motive_2:=fun _=>List α) (fun a n s _ c=>f a n s c) [] (fun _ _ h t=>h::t) v
theorem aI.fold_eq{α:Type}(f:Nat→Int→List UInt8→List α→α)(v:aI):v.fold f=f v.sort v.n v.s (v.l.map (aI.fold f)):=by
 obtain⟨a,n,s,l⟩:=v;refine congrArg (f a n s) ?_;induction l with
 |nil=>rfl
 |cons x l ih=>exact congrArg (aI.fold f x::·) ih
noncomputable def aJ(v:aI):Nat:=v.fold fun _ _ s c=>1+s.length+c.sum
theorem eN(v:aI):aJ v=1+v.s.length+(v.l.map aJ).sum:=aI.fold_eq _ v
def mE{α:Type}:List (α→Bool)→List α→Bool
 |[],[]=>true
 |f::fs,x::xs=>f x && mE fs xs
 |_,_=>false
noncomputable def cD(x:aI):aI→Bool:=x.fold fun a n s c y=>a==y.sort && (n==y.n && (s==y.s && mE c y.l))
theorem QA(x y:aI):cD x y=(x.sort==y.sort && (x.n==y.n && (x.s==y.s && mE (x.l.map cD) y.l))):=congrFun (aI.fold_eq _ x) y
theorem vZ:∀x y:aI,cD x y=true↔x=y:=by
 refine aI.ind fun x ih y=>?_
 have hE:∀(l:List aI),(∀v,v∈l→∀y,cD v y=true↔v=y)→∀m:List aI,mE (l.map cD) m=true↔l=m:=by
  intro l;induction l with
  |nil=>intro _ m;cases m<;>simp[mE]
  |cons a l ihl=>
   intro h m;cases m with
   |nil=>simp[mE]
   |cons b m=>simp[mE,h a (by simp) b,ihl (fun v hv=>h v (by simp[hv])) m]
 rw[QA];simp only[Bool.and_eq_true,beq_iff_eq,hE x.l ih y.l];constructor
 ·rintro⟨h1,h2,h3,h4⟩;cases x;cases y;simp_all
 ·rintro rfl;simp
def digitsF:Nat→Nat→List UInt8→List UInt8
 |0,_,t=>t
 |f+1,n,t=>if n<10 then UInt8.ofNat (48+n)::t else digitsF f (n/10) (UInt8.ofNat (48+n%10)::t)
def cA(n:Int):List UInt8:=(if n<0 then [45] else [])++digitsF 20 n.natAbs []
def eZ:List (List UInt8)→List UInt8
 |[]=>[]
 |[x]=>x
 |x::r=>x++[44,32]++eZ r
noncomputable def cB(v:aI):List UInt8:=
 v.fold fun a n s c=>if a=0 then cA n else if a=1 then (if n=1 then [116,114,117,101] else [102,97,108,115,101]) else if a=2 then [34]++s++[34] else [91]++eZ c++[93]
theorem jB(v:aI):cB v=if v.sort=0 then cA v.n else if v.sort=1 then (if v.n=1 then [116,114,117,101] else [102,97,108,115,101]) else if v.sort=2 then [34]++v.s++[34] else [91]++eZ (v.l.map cB)++[93]:=aI.fold_eq _ v
noncomputable def jC(v:aI):List UInt8:=if v.sort=2 then v.s else cB v
def kB(n:Int):Int:=(n+9223372036854775808)%18446744073709551616-9223372036854775808
noncomputable def iK(a b:aI):aI × Nat:=
 let v:=if a.sort=3 then aU (a.l++b.l) else bH (a.s++b.s)
 if 200<aJ v then (bK,6) else (v,0)
def iL(op:List UInt8)(x y:Int):aI × Nat:=
 if op=[43] then (bB (kB (x+y)),0)
 else if op=[45] then (bB (kB (x-y)),0)
 else if op=[42] then (bB (kB (x*y)),0)
 else if op=[60] then (bL (decide (x<y)),0)
 else if op=[60,61] then (bL (decide (x≤y)),0)
 else if y=0 then (bK,3)
 else if op=[47] then (bB (kB (x.tdiv y)),0)
 else (bB (kB (x.tmod y)),0)
def fV:List UInt8→List UInt8→Bool
 |[],[]=>false
 |[],_::_=>true
 |_::_,[]=>false
 |a::l,b::m=>if a.toNat<b.toNat then true else if b.toNat<a.toNat then false else fV l m
noncomputable def eG(op:List UInt8)(a b:aI):aI × Nat:=
 if op=[61,61] then (bL (cD a b),0)
 else if op=[33,61] then (bL (!cD a b),0)
 else if a.sort≠b.sort∨a.sort=1 then (bK,2)
 else if a.sort=0 then iL op a.n b.n
 else if op=[43] then iK a b
 else if a.sort=2∧op=[60] then (bL (fV a.s b.s),0)
 else if a.sort=2∧op=[60,61] then (bL (!fV b.s a.s),0)
 else (bK,2)
def fB(op:List UInt8)(a:aI):aI × Nat:=
 if op=[45,120]∧a.sort=0 then (bB (kB (-a.n)),0)
 else if op=[33,120]∧a.sort=1 then (bL (decide (a.n=0)),0)
 else (bK,2)
end Go.Proofs.YtblbkfdhjfppkaaGreatDoor.Hs
