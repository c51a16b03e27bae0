import Derived.Test.YthlhecfcnfjecaaGreatDoorB02
import Derived.Test.YthlhecfcnfjecaaGreatDoorP02
set_option linter.all false
set_option maxRecDepth 100000
set_option maxHeartbeats 0
open List renaming length->aA
open Go.World renaming setCell->c9,alloc->i9,cell?->I_
open Go renaming bodyPost_ret->Wx,Calls->W_,Value->Xa,World->Xb
open Option renaming some->Wy,none->Wz
open Bool renaming false->WD,true->W1
open Go.Proofs.Tryz renaming prog->Xi
open Go.Value renaming slice->Xl,string->Xm,agg->Xn,tuple->Xp,bool->Xr,int->Xs
open Go.Obj renaming cells->Xt
namespace Go.Proofs.YthlhecfcnfjecaaGreatDoor
open Hs _root_.Go.Proofs.Tryz Go.RowKit
variable{G:Array Xa}{l:List aE}{A V q:Nat}{c:Type}{o:TypeId}{n p:Xa}{M:Xb}{b m:aE}{R:aN}{T:aX}{z:bL}
structure SV where
 t:Nat
 x1:Option Addr
 x2:Option Addr
 x3:Option Addr
 n1:Nat
 n2:Nat
 n3:Nat
 c1:Nat
 c2:Nat
 c3:Nat
 q:Nat
def SV.cells(s:SV):Array Xa:=#[Y s.t,Xl s.x1 s.n1 s.c1,Xl s.x2 s.n2 s.c2,Xl s.x3 s.n3 s.c3,Y s.q]
def SV.val(s:SV):Xa:=Xn #[Y s.t,Xl s.x1 s.n1 s.c1,Xl s.x2 s.n2 s.c2,Xl s.x3 s.n3 s.c3,Y s.q]
def iC(W:aN)(b:Nat)(s:SV):aN:=c9 (c9 (c9 (c9 (c9 W (aL b 0) (Y s.t)) (aL b 1) (Xl s.x1 s.n1 s.c1)) (aL b 2) (Xl s.x2 s.n2 s.c2)) (aL b 3) (Xl s.x3 s.n3 s.c3)) (aL b 4) (Y s.q)
def DJ{s:SV}{z:Nat×Nat}(h:R.heap[A]?=Wy (Xt G o z)):(iC R A s).heap[A]?=Wy (Xt (((((G.setIfInBounds 0 (Y s.t)).setIfInBounds 1 (P_ s.x1 s.n1 s.c1)).setIfInBounds 2 (P_ s.x2 s.n2 s.c2)).setIfInBounds 3 (P_ s.x3 s.n3 s.c3)).setIfInBounds 4 (Y s.q)) o z):=(by grind[aP,iC])
def wG{s:SV}{z:Nat×Nat}(h:R.heap[A]?=Wy (Xt G o z))(a:G.size=5):(iC R A s).heap[A]?=Wy (Xt s.cells o z):=by rw[DJ h];have ⟨l⟩:=G;match l,a with|[e,f,g,i,d],_=>rfl
def mN{W V:aN}{s:SV}(h:W.heap[A]?=Wy (Xt G o))(e:5<=G.size)(d:V.heap[A]?=(iC W A s).heap[A]?):I_ V (aL A 0)=Wy (Y s.t)/\I_ V (aL A 1)=Wy (Xl s.x1 s.n1 s.c1)/\I_ V (aL A 2)=Wy (Xl s.x2 s.n2 s.c2)/\I_ V (aL A 3)=Wy (Xl s.x3 s.n3 s.c3)/\I_ V (aL A 4)=Wy (Y s.q):=by
 have a:=d.trans (DJ (s:=s) h);obtain⟨l⟩:=G;rcases l with _|⟨g,_|⟨i,_|⟨j,_|⟨k,_|⟨f,r⟩⟩⟩⟩⟩;case cons.cons.cons.cons.cons=>exact⟨aB a s_,aB a s_,aB a s_,aB a s_,aB a s_⟩
 all_goals simp at e
theorem gH(W:aN)(b:Nat)(s:SV)(k:Nat)(h:k≠b):(iC W b s).heap[k]?=W.heap[k]?:=by unfold iC;grind[ej]
theorem nY(W:aN)(b:Nat)(s:SV):(iC W b s).heap.size=H_ W/\(iC W b s).os=W.os/\(iC W b s).tape=W.tape/\(iC W b s).output=W.output:=by grind[World.setCell,iC]
attribute [local go_sem] Oper.semAt_some
def SV.val_inj{a b:SV}(h:a.val=b.val):a=b:=by cases a;cases b;grind[SV.val]
def IZ(w:aN)(Q:Nat)(s:SV)(P N:SV->Bool->Xb->Prop) (t:Hid (W_ Xi 175 #[s.val] (i9 (i9 w (bO s.cells 55)) (bO #[Y 0,bP,bP,bP,Y 0] 55)) λe f=>∃a ok,e=bR (Xp #[SV.val a,Xr ok])/\N a ok f)) (u:Hid (∀a W,N a WD W->(∃c,W.heap[w.heap.size+1]?=Wy (bO c 55)/\5<=c.size)/\P a WD (i9 (iC W (w.heap.size+1) a) (bO a.cells 55)))) (I:Hid (∀a W,N a W1 W->W_ Xi 19 #[aY Q,a.val] (i9 W (bO a.cells 55)) λe f=>e=fA/\f.heap[W.heap.size]?=Wy (bO a.cells 55)/\(∃c,f.heap[w.heap.size+1]?=Wy (bO c 55)/\5<=c.size)/\w.heap.size+1<W.heap.size/\P a W1 (iC f (w.heap.size+1) a))):W_ Xi 117 #[aY Q,s.val] w λe f=>∃a ok,e=bR (Xp #[SV.val a,Xr ok])/\P a ok f:=by
 unfold SV.val SV.cells at t;unfold SV.val;go_in;go_wp;apply t.mono;rintro e o ⟨a,ok,rfl,r⟩;cases ok;.have ⟨⟨c,b,m⟩,p⟩:=u _ _ r;have n:=O p;unfold iC SV.cells at n;have A:=aB (i:=0) b (ff Z);have G:=aB (i:=1) b (ff Z);have y:=aB (i:=2) b (ff Z);have M:=aB (i:=3) b (ff Z);have F:=aB (i:=4) b (ff Z);have x:=aF (i:=0) b;have z:=aF (i:=1) b;have J:=aF (i:=2) b;have L:=aF (i:=3) b;have K:=aF (i:=4) b;have l3:=aH b;have n1:o.heap.size≠w.heap.size+1:=Z;have q:=mN (W:=o) (V:=i9 (iC o (w.heap.size+1) a) (bO a.cells 55)) (s:=a) b m ((by grind[ed,nY]));have j:=O q;unfold iC SV.cells at j;clear p r t u I b q;go_wp21;have d:=j.out;have k:=n.out;clear j n A G y M F x z J L K;generalize (c9 (c9 (c9 (c9 (c9 o (aL (w.heap.size+1) 0) (Y a.t)) (aL (w.heap.size+1) 1) (P_ a.x1 a.n1 a.c1)) (aL (w.heap.size+1) 2) (P_ a.x2 a.n2 a.c2)) (aL (w.heap.size+1) 3) (P_ a.x3 a.n3 a.c3)) (aL (w.heap.size+1) 4) (Y a.q)).alloc (bO #[Y a.t,P_ a.x1 a.n1 a.c1,P_ a.x2 a.n2 a.c2,P_ a.x3 a.n3 a.c3,Y a.q] 55)=W3 at d k⊢;obtain⟨B,C,E,H,D⟩:=d;exact Wx (v:=Xp #[Xn #[Y a.t,P_ a.x1 a.n1 a.c1,P_ a.x2 a.n2 a.c2,P_ a.x3 a.n3 a.c3,Y a.q],Xr WD]) (by simp[results,results117,go_sem,B,C,E,H,D]) rfl G_
 have g:=O (I _ _ r);unfold SV.val SV.cells at g;clear r t u I;go_wp2_with fail;refine g.mono ?_;rintro e S ⟨rfl,l,⟨c,b,m⟩,l1,p⟩;have n:=O p;unfold iC at n;have d0:=aB (i:=0) l aJ;have d1:=aB (i:=1) l aJ;have T:=aB (i:=2) l aJ;have X:=aB (i:=3) l aJ;have d4:=aB (i:=4) l aJ;have A:=aB (i:=0) b (ff Z);have G:=aB (i:=1) b (ff Z);have y:=aB (i:=2) b (ff Z);have M:=aB (i:=3) b (ff Z);have F:=aB (i:=4) b (ff Z);have x:=aF (i:=0) b;have z:=aF (i:=1) b;have J:=aF (i:=2) b;have L:=aF (i:=3) b;have K:=aF (i:=4) b;have l3:=aH b;have l4:=aH l;have n1:o.heap.size≠w.heap.size+1:=Z;have q:=mN (W:=S) (s:=a) b m aJ;have j:=O q;unfold iC at j;clear p g l b q;go_wp21;have d:=j.out;have k:=n.out;clear j n A G y M F x z J L K d0 d1 T X d4;generalize (c9 (c9 (c9 (c9 S (aL (w.heap.size+1) 0) (Y a.t)) (aL (w.heap.size+1) 1) (P_ a.x1 a.n1 a.c1)) (aL (w.heap.size+1) 2) (P_ a.x2 a.n2 a.c2)) (aL (w.heap.size+1) 3) (P_ a.x3 a.n3 a.c3)).setCell (aL (w.heap.size+1) 4) (Y a.q)=W3 at d k⊢;obtain⟨B,C,E,H,D⟩:=d;exact Wx (v:=Xp #[Xn #[Y a.t,P_ a.x1 a.n1 a.c1,P_ a.x2 a.n2 a.c2,P_ a.x3 a.n3 a.c3,Y a.q],Xr W1]) (by simp[results,results117,go_sem,B,C,E,H,D]) rfl G_
def I9{τ:Type}(t:τ)(D:Nat)(B:τ->Array Xa->Xb->Prop)(Bx:τ->Code->Array Xa->Xb->Prop)(x:Array Xa)(W:aN):Exit->Act->Xb->Prop|.normal,_,W'=>(W'.heap[D]?=W.heap[D]?/\W'.heap[D+1]?=W.heap[D+1]?)/\B t x W'|.ret,_,W'=>(W'.heap[D]?=W.heap[D]?/\W'.heap[D+1]?=W.heap[D+1]?)/\Bx t .ret x W'|.exit id,_,W'=>(W'.heap[D]?=W.heap[D]?/\W'.heap[D+1]?=W.heap[D+1]?)/\Bx t (.exit id) x W'|_,_,_=>False
def JF{τ:Type}{P:Program}{g:Operand}{ps:Array Tmp}{assign body:Code}{Q:Exit->Act->Xb->Prop}{a:Act}{gf:Nat}{lb:Array Xa} (hg:a.eval g=.func (.func gf) #[] lb) (eg:∀args R,(callFunc gf args).run P R=.ok (.enter gf args) R) (A B:τ->Array Xa->Xb->Prop) (Ax:τ->Array Xa->Act->Xb->Prop) (Bx:τ->Code->Array Xa->Xb->Prop) (ag:lA) (ac:∀t x W,A t x W->x.size=ps.size) (af:∀t x q W r,Ax t x q W->Ax t x q (W.putObj (R.heap.size+1) (.loop r))) (hB:∀t x W r,B t x W->B t x (W.putObj (R.heap.size+1) (.loop r))) (F:∀t c x W r,Bx t c x W->Bx t c x (W.putObj (R.heap.size+1) (.loop r))) (hZ:∀W r,ag W->ag (W.putObj (R.heap.size+1) (.loop r))) (l:∀t x W (K:Act->Xb->Prop),A t x W->(∀q i,i.heap[R.heap.size]?=W.heap[R.heap.size]?->i.heap[R.heap.size+1]?=W.heap[R.heap.size+1]?->Ax t x q i->K q i)->assign.wpIn (Fence.wide.inRound (R.heap.size+1)) 0 P (Exit.then K λ_ _ _=>False) {tmps:=(ps.zip x).foldl (λt (p,v)=>t.setIfInBounds p v) a.tmps,defers:=[]} W) (z:∀t x q W,Ax t x q W->R.heap.size+1<W.heap.size->body.wpIn (Fence.wide.inRound (R.heap.size+1)) 0 P (I9 t R.heap.size B Bx x W) q W) (X:∀(R0:Loop) (Rdy:lA) (Don:Code->Xb->Prop),(∀W i,Rdy W->i.heap[R.heap.size]?=W.heap[R.heap.size]?->i.heap[R.heap.size+1]?=W.heap[R.heap.size+1]?->Rdy i)->(∀W,Rdy W->R.heap.size+1<W.heap.size)->(∀c W i,Don c W->i.heap[R.heap.size]?=W.heap[R.heap.size]?->i.heap[R.heap.size+1]?=W.heap[R.heap.size+1]?->Don c i)->(∀c W,Don c W->R.heap.size+1<W.heap.size)->Rdy ((R.alloc (.deferred (Wy []))).alloc (.loop R0))->(∀t x W,A t x W->Rdy W->YieldAt Fence.wide 0 P (R.heap.size+1) x W λe i=>(e=bR (Xr W1)/\B t x i/\Rdy i)\/(e=bR (Xr WD)/\∃c,Bx t c x i/\Don c i))->CallsIn Fence.wide 0 P gf (#[.func (.yield (R.heap.size+1)) #[] #[]]++lb) ((R.alloc (.deferred (Wy []))).alloc (.loop R0)) λe i=>(∃v,e=bR v)/\((ag i/\Rdy i)\/∃t c x,Bx t c x i/\Don c i)) (E:∀W,ag W->W.heap[R.heap.size]?=Wy (.deferred (Wy []))->R.heap.size+1<W.heap.size->Q .normal {a with defers:={target:=.collected R.heap.size,args:=#[]}::a.defers} W) (H:∀t c x W,Bx t c x W->W.heap[R.heap.size]?=Wy (.deferred (Wy []))->R.heap.size+1<W.heap.size->c.wpIn Fence.wide 0 P Q {a with defers:={target:=.collected R.heap.size,args:=#[]}::a.defers} W):(Code.rangeFunc g ps assign body).wpIn Fence.wide 0 P Q a R:=by
 refine wpIn_rangeFunc ?_;intro fn ae;obtain⟨d,f⟩:∃d:LoopState->Option Code->Loop,d=λst pe=>{state:=st,pending:=pe,fn,tmps:=a.tmps,params:=ps,assign,body,defers:=R.heap.size}:=⟨_,rfl⟩;obtain⟨G,u⟩:∃G,(R.alloc (.deferred (Wy []))).alloc (.loop (d .ready Wz))=G:=⟨_,rfl⟩;have ab:G.heap[R.heap.size+1]?=Wy (.loop (d .ready Wz)):=by rw[<-u];have:=World.alloc_heap_new (R.alloc (.deferred (Wy []))) (.loop (d .ready Wz));rwa [World.size_alloc]at this
 have aa:G.heap[R.heap.size]?=Wy (.deferred (Wy [])):=by rw[<-u];exact(ed _ _ _ s_).trans (World.alloc_heap_new R _)
 refine⟨R.heap.size+1,[{target:=.collected R.heap.size,args:=#[]}],G,{target:=.fn (.func gf) lb,args:=#[.func (.yield (R.heap.size+1)) #[] #[]]},G,gf,#[.func (.yield (R.heap.size+1)) #[] #[]]++lb,G,?_,?_,λ_ _=>trivial,?_,λh=>by simp[Fence.wide]at h,?_⟩;rw[<-u,f];exact run_enterLoop_outer _ _ _ _ _;.simp only[resolve,hg];simp[go_sem]
 .simp[invoke,go_sem,eg]
 have hs:=X (d .ready Wz) (λW=>W.heap[R.heap.size+1]?=Wy (.loop (d .ready Wz))/\W.heap[R.heap.size]?=Wy (.deferred (Wy []))) (λc W=>W.heap[R.heap.size+1]?=Wy (.loop (d .done (Wy c)))/\W.heap[R.heap.size]?=Wy (.deferred (Wy []))) (λW i h L T=>⟨by rw[T];exact h.1,by rw[L];exact h.2⟩) (λW h=>(iy.1 h.1).1) (λc W i h L T=>⟨by rw[T];exact h.1,by rw[L];exact h.2⟩) (λc W h=>(iy.1 h.1).1);rw[u]at hs;refine(hs ⟨ab,aa⟩ ?_).mono ?_;rintro t x W N ⟨s,I⟩;have hy:=run_yield (P:=P) (args:=x) s (by rw[f];exact ac t x W N);rw[f]at hy;refine⟨fn,_,assign,body,hy,roundIn_of_wpIn ae (l t x W _ N ?_)⟩;clear hy;intro q Wa L T S;rw[<-T]at s;rw[<-L]at I;have k:R.heap.size+1<Wa.heap.size:=(iy.1 s).1;refine⟨_,run_beginRound s (by rw[f]),?_⟩;have y:(Wa.putObj (R.heap.size+1) (.loop {d .ready Wz with state:=.busy})).heap[R.heap.size+1]?=Wy (.loop {d .ready Wz with state:=.busy}):=World.putObj_heap_same k;have C:(Wa.putObj (R.heap.size+1) (.loop {d .ready Wz with state:=.busy})).heap[R.heap.size]?=Wy (.deferred (Wy [])):=(World.putObj_heap_other Z).trans I;refine wpIn_mono (z t x q _ (af _ _ _ _ _ S) (iy.1 y).1) ?_;have D:∀(b:Option Code) (j:aN),j.heap[R.heap.size]?=Wy (.deferred (Wy []))->j.heap[R.heap.size+1]?=Wy (.loop {d .ready Wz with state:=.busy})->(Instr.endRound (R.heap.size+1) b).run P j=.ok (Xr b.isNone) (j.putObj (R.heap.size+1) (.loop (d (if b.isNone then .ready else .done) b)))/\(j.putObj (R.heap.size+1) (.loop (d (if b.isNone then .ready else .done) b))).heap[R.heap.size+1]?=Wy (.loop (d (if b.isNone then .ready else .done) b))/\(j.putObj (R.heap.size+1) (.loop (d (if b.isNone then .ready else .done) b))).heap[R.heap.size]?=Wy (.deferred (Wy [])):=λb j ad M=>by have:=run_endRound (P:=P) b M;rw[f]at this⊢;exact⟨this,World.putObj_heap_same (iy.1 M).1,(World.putObj_heap_other Z).trans ad⟩
 rintro e a3 j J;cases e with|normal=>obtain⟨⟨q1,V⟩,o⟩:=J;obtain⟨hr,m,n⟩:=D Wz j (q1.trans C) (V.trans y);exact⟨_,_,hr,.inl ⟨aJ,hB _ _ _ _ o,m,n⟩⟩|ret=>obtain⟨⟨q1,V⟩,o⟩:=J;obtain⟨hr,m,n⟩:=D (Wy .ret) j (q1.trans C) (V.trans y);exact⟨_,_,hr,.inr ⟨aJ,.ret,F _ _ _ _ _ o,m,n⟩⟩|exit id=>obtain⟨⟨q1,V⟩,o⟩:=J;obtain⟨hr,m,n⟩:=D (Wy (.exit id)) j (q1.trans C) (V.trans y);exact⟨_,_,hr,.inr ⟨aJ,.exit id,F _ _ _ _ _ o,m,n⟩⟩|goto t=>exact J.elim|panic ch=>exact J.elim|outgrown=>exact J.elim
 rintro e W2 ⟨⟨v,rfl⟩,(⟨hz,s,I⟩|⟨t,c,x,hi,s,I⟩)⟩;have k:=(iy.1 s).1;exact⟨Wz,_,by have:=run_endLoop (P:=P) s (by rw[f];simp);rw[f]at this;exact this,E _ (hZ _ _ hz) ((World.putObj_heap_other Z).trans I) (by simpa using k)⟩;have k:=(iy.1 s).1;exact⟨Wy c,_,by have:=run_endLoop (P:=P) s (by rw[f];simp);rw[f]at this;exact this,H t _ x _ (F _ _ _ _ _ hi) ((World.putObj_heap_other Z).trans I) (by simpa using k)⟩
def bk{b:Nat}(h:R.heap[b]?=Wy (Xt G o)):(∀i,I_ R (aL b i)=G[i]?)/\(∀i,R.frozen? (aL b i)=WD)/\b<R.heap.size:=⟨λi=>by simp[World.cell?,h],λi=>aF h,aH h⟩
def Gr(h:R.heap[A]?=Wy (Xt G o))(d:5<=G.size):∃g:Nat->Xa,(∀i,i<5->I_ R (aL A i)=Wy (g i))/\(∀i,R.frozen? (aL A i)=WD)/\A<R.heap.size:=⟨λi=>G[i]?.getD undef,λi a=>by rw[(bk h).1];simp[show i<G.size by exact Z],(bk h).2⟩
def JA(s:SV)(ev:aX)(mb:Nat):Array Xa:=#[Y s.t,Xl s.x1 s.n1 s.c1,Xl s.x2 s.n2 s.c2,Xl s.x3 s.n3 s.c3,Y s.q,ev,.map (Wy mb)]
attribute [local go_sem] Oper.semAt_some
def XL{l z K0:Nat}{s:SV}(L:Nat->Nat->SV->Bool->Xb->Prop)(B:Nat->Nat->SV->Xb->Prop)(ab:lA) (t:R.heap[z]?=Wy (bO #[aY q] 32)) (C:R.heap[q]?=Wy (bO (JA s T V) 62)) (k:Hid (W_ Xi 117 #[aY q,s.val] R.drew λe f=>∃a ok,e=bR (Xp #[SV.val a,Xr ok])/\L K0 (H_ f) a ok (eF f a.cells 55))) (i:Hid (∀c,c.size=5->W_ Xi 117 #[aY q,s.val] (eF R.drew c 55) λe f=>∃a ok,e=bR (Xp #[SV.val a,Xr ok])/\f.heap[H_ R]?=Wy (bO c 55)/\L K0 (H_ R) a ok (iC f (H_ R) a))) (HL:Hid (∀gk b a wr,L gk b a W1 wr->wr.heap[b]?=Wy (bO a.cells 55)/\YieldAt Fence.wide 0 Xi l #[a.val] wr λe G=>(e=bR (Xr W1)/\B gk b a G)\/(e=bR (Xr WD)/\ab G))) (HZ:Hid (∀gk b a wr,L gk b a WD wr->ab wr)) (X:Hid (∀gk b a wr,B gk b a wr->dR wr z 0 (aY q)/\wr.heap[b]?=Wy (bO a.cells 55)/\∃j,gk=j+1/\W_ Xi 117 #[aY q,a.val] wr λe f=>∃g ok,e=bR (Xp #[SV.val g,Xr ok])/\f.heap[b]?=wr.heap[b]?/\L j b g ok (iC f b g))):W_ Xi 118 #[.func (.yield l) #[] #[],aY z] R λe f=>e=fA/\ab f:=by
 unfold SV.val SV.cells at k;unfold SV.val iC at i;unfold JA at C;have ⟨b1,b2,b3⟩:=bk t;have ⟨k1,k2,k3⟩:=bk C;clear t C b2 k2;go_in;go_upto_region 0 with fail;go_cut [3,4]from 5 (λs3 y w=>∃b a ok,s3=aY b/\y=Xr ok/\L K0 b a ok w);case first=>
  go_region_law (go_simp;go_at_call 117;first|(apply (i _ aJ).mono;rintro e S ⟨a,ok,rfl,K,p⟩;have ⟨d1,d2,d3⟩:=bk K;clear K)|(apply k.mono;rintro e S ⟨a,ok,rfl,p⟩));all_goals(try clear d1 d2)
  all_goals(have A:=O p;clear p k1 b1 k i)
  all_goals(go_simp;go_step;go_meet)
  all_goals exact⟨_,_,_,aJ,aJ,A⟩
 case rest=>
  obtain⟨b,s1,aa,rfl,rfl,p⟩:=hcut;have A:=O p;clear p k i k1 b1;go_wp2;go_loopg [4] K0 (λgk y wr=>∃a ok,y=Xr ok/\L gk b a ok wr);case atStart=>exact⟨_,_,aJ,A⟩
  case round=>
   obtain⟨a,ok,rfl,m⟩:=hrel;cases ok
   .have E:=O (HZ _ _ _ _ m);clear m;go_wp2;go_end0;exact⟨aJ,E⟩
   obtain⟨d,fn,H,v,F,J,N⟩:=HL _ _ _ _ m;have I:=O N;unfold SV.cells at d;have ⟨d1,d2,d3⟩:=bk d;unfold SV.val at J;clear m N d;refine(wpIn_wide (n:=0)).1 ?_;gi_wp2;refine⟨aJ,I.mono ?_⟩;rintro e W3 (⟨rfl,u⟩|⟨rfl,D⟩)
   .obtain⟨e1,x,j,rfl,M⟩:=X _ _ _ _ u;have o:=O M;have P:=O x;unfold SV.cells at x;unfold SV.val at o;have ⟨d1,d2,d3⟩:=bk x;clear u M J I x;gi_wp2;refine⟨trivial,aJ,(callsIn_wide.2 o).mono ?_⟩;rintro e w4 ⟨g,ok,rfl,Q,m⟩;have r:=O m;unfold iC at r;have ⟨g1,g2,g3⟩:=bk (Q.trans P);unfold SV.cells at g1;clear m o e1 Q d1 d2 P;gi_wp2;go_roundg j;case measure=>exact Z
    case rel=>exact⟨_,_,aJ,r⟩
   gi_wp2;go_end0;exact⟨aJ,D⟩
attribute [local go_sem] Oper.semAt_some
def Sv{τ:Type}(gf:Nat)(lb:Array Xa)(w:aN)(A:τ->SV->Xb->Prop)(B E:τ->Xb->Prop):Prop:=∀(R0:Loop) (Rdy Don:lA),(∀W W',W'.heap[w.heap.size]?=W.heap[w.heap.size]?->W'.heap[w.heap.size+1]?=W.heap[w.heap.size+1]?->(Rdy W->Rdy W')/\(Don W->Don W'))->Rdy ((w.alloc (.deferred (Wy []))).alloc (.loop R0))->(∀t s W,A t s W->Rdy W->YieldAt Fence.wide 0 Xi (w.heap.size+1) #[s.val] W λe W'=>(e=bR (Xr W1)/\B t W'/\Rdy W')\/(e=bR (Xr WD)/\E t W'/\Don W'))->W_ Xi gf (#[.func (.yield (w.heap.size+1)) #[] #[]]++lb) ((w.alloc (.deferred (Wy []))).alloc (.loop R0)) λe W'=>e=fA/\∃t,E t W'/\(Rdy W'\/Don W')
def M_{τ:Type}{w:aN}{i mb y:Nat}{H I:Array Xa}{s:SV}{ev:aX}{R:Bool->Xb->Prop}(A:τ->SV->Xb->Prop)(B:τ->Xb->Prop)(J:τ->SV->Nat->Xb->Prop)(E:τ->Xb->Prop) (hs:w.heap[i]?=Wy (bO (JA s ev mb) 62)) (ab:∀f W,(callFunc q f).run Xi W=.ok (.enter q f) W) (ac:∀f W,(callFunc y f).run Xi W=.ok (.enter y f) W) (F:Hid (∀W r,(∀t a b,J t a b W->J t a b (W.putObj (w.heap.size+4) (.loop r)))/\(∀t,B t W->B t (W.putObj (w.heap.size+4) (.loop r)))/\∀t,E t W->E t (W.putObj (w.heap.size+4) (.loop r)))) (HA:Hid (∀t a W,A t a W->J t a W.heap.size (i9 W (bO a.cells 55))/\w.heap.size+4<W.heap.size)) (z:Hid (∀t a b W,J t a b W->W.heap[b]?=Wy (bO a.cells 55)/\W.heap[w.heap.size]?=Wy (bO #[.func (.func y) I G] 145)/\(∃c,W.heap[w.heap.size+1]?=Wy (bO c 55)/\5<=c.size)/\(∃v,W.heap[w.heap.size+1+1]?=Wy (bO #[v] 4))/\b≠w.heap.size/\b≠w.heap.size+1/\b≠w.heap.size+1+1/\W_ Xi y (I++#[a.val]++G) (c9 (iC W (w.heap.size+1) a) (aL (w.heap.size+1+1) 0) (Xr W1)) λe k=>∃r,e=bR (Xr r)/\(k.heap[w.heap.size+3]?=W.heap[w.heap.size+3]?/\k.heap[w.heap.size+3+1]?=W.heap[w.heap.size+3+1]?)/\(r=W1->E t k)/\(r=WD->B t k))) (L:Hid (∀t W,E t W->∃p fd,W.heap[w.heap.size+1]?=Wy (bO (SV.cells p) 55)/\W.heap[w.heap.size+1+1]?=Wy (bO #[Xr fd] 4)/\(∃c T,W.heap[i]?=Wy (bO c T)/\5<=c.size)/\R fd ((iC W i p).putObj (w.heap.size+3) (.deferred Wz)))) (M:Hid (Sv q H (i9 (i9 (i9 w (bO #[.func (.func y) I G] 145)) (bO s.cells 55)) (bO #[Xr WD] 4)) A B E)):W_ Xi 67 #[aY i,.func (.func q) #[] H,.func (.func y) I G] w λe w'=>∃b,e=bR (Xr b)/\R b w':=by
 have ad:=aH hs;unfold JA at hs;have ⟨k1,k2,k3⟩:=bk hs;unfold SV.cells at M;refine(callsIn_wide (n:=0)).1 (callsIn_of_wp_marks func67 aJ trivial ?_ aJ);simp only[ntmps67,List.size_toArray,fg,fi,Nat.reduceAdd,Nat.reduceSub,Array.replicate_succ,Array.replicate_zero,List.push_toArray,List.append_toArray,ig,ip];refine wpIn_wide.2 ?_;clear hs;go_wp2_with fail;generalize Q:i9 (i9 (i9 w (bO #[.func (.func y) I G] 145)) (bO #[Y s.t,P_ s.x1 s.n1 s.c1,P_ s.x2 s.n2 s.c2,P_ s.x3 s.n3 s.c3,Y s.q] 55)) (bO #[Xr WD] 4)=W0 at M⊢;have d:W0.heap.size=w.heap.size+3:=by rw[<-Q];simp
 clear Q k1 k2;refine wpIn_wide.1 (JF (P:=Xi) (gf:=q) (lb:=H) aJ ab (λt x W=>∃a,x=#[SV.val a]/\A t a W) (λt _ W=>B t W) (λt x a' W=>∃a b,x=#[SV.val a]/\a'={tmps:=#[aY i,.func (.func q) #[] H,.func (.func y) I G,undef,undef,aY w.heap.size,Xr WD,aY (w.heap.size+1),aY (w.heap.size+1+1),aY b,aY i,aY i,aY i,s.val,.func (.func q) #[] H,SV.val a,undef,undef,undef,undef,undef,undef,undef,undef,undef],defers:=[]}/\J t a b W) (λt c _ W=>c=.exit 0/\E t W) (λW=>∃t,E t W) ?hps ?hAx ?hB ?hBx ?hZ ?hassign ?hbody ?hseq ?hdone ?hstop);case hps=>rintro t x W ⟨a,rfl,_⟩;rfl
 case hAx=>rintro t x a' W r ⟨a,b,rfl,rfl,h⟩;rw[d];exact⟨a,b,aJ,aJ,(F _ _).1 _ _ _ h⟩
 case hB=>intro t x W r h;rw[d];exact(F _ _).2.1 _ h
 case hBx=>rintro t c x W r ⟨rfl,h⟩;rw[d];exact⟨aJ,(F _ _).2.2 _ h⟩
 case hZ=>rintro W r ⟨t,h⟩;rw[d];exact⟨t,(F _ _).2.2 _ h⟩
 case hassign=>rintro t x W K ⟨a,rfl,h⟩ hK;obtain⟨q1,q2⟩:=HA _ _ _ h;have S:=O (hK _ _ (ed _ _ _ rq) (ed _ _ _ rq) ⟨a,_,rfl,rfl,q1⟩);unfold SV.val SV.cells at S;clear hK q1 h;unfold SV.val;gi_wp2;exact S
 case hbody=>
  rintro t x a' W ⟨a,b,rfl,rfl,h⟩ o;obtain⟨j,u,⟨c,X,C⟩,⟨v,e4⟩,n1,n2,n3,hF⟩:=z _ _ _ _ h;rw[d];have HF:=O hF;unfold iC SV.val at HF;unfold SV.val;unfold SV.cells at j;have ⟨d1,d2,d3⟩:=bk j;have ⟨c1,c2,c3⟩:=bk u;have ⟨g,g1,g2,g3⟩:=Gr X C;have ⟨o1,o2,o3⟩:=bk e4;clear h hF j u X e4 HA z L F M;gi_wp2;refine⟨trivial,aJ,(CallsIn.inRound _ (callsIn_wide.2 HF)).mono ?_⟩;rintro e k ⟨r,rfl,hq,D,hB⟩;have HB:=O hB;have L:=O D;clear hB D HF d1 d2 c1 c2 g1 g2 o1 o2;cases r;.gi_wp2;exact⟨hq,HB trivial⟩
  gi_wp2;exact⟨hq,aJ,L trivial⟩
 case hseq=>intro R0 Rdy Don h1 h2 h3 h4 h5 hY;refine callsIn_wide.2 ((M R0 Rdy (Don (Code.exit 0)) (λW k j u=>⟨λh=>h1 W k h j u,λh=>h3 _ W k h j u⟩) h5 λt a W hA hR=>?_).mono ?_);obtain⟨fn,tmps,m,N,hy,hr⟩:=hY t #[SV.val a] W ⟨a,rfl,hA⟩ hR;refine⟨fn,tmps,m,N,hy,hr.mono ?_⟩;rintro e k (⟨rfl,hB,aa⟩|⟨rfl,c,⟨rfl,D⟩,l⟩);exact ea ⟨aJ,hB,aa⟩;exact dz ⟨aJ,D,l⟩;rintro e k ⟨rfl,t,D,hr|l⟩;exact⟨⟨_,aJ⟩,ea ⟨⟨t,D⟩,hr⟩⟩;exact⟨⟨_,aJ⟩,dz ⟨t,_,#[],⟨aJ,D⟩,l⟩⟩
 case hstop=>rintro t c x W ⟨rfl,hz⟩ l o;exact wpIn_wide.2 (wp_exit (?hdone W ⟨t,hz⟩ l o))
 case hdone=>rintro W ⟨t,hz⟩ l o;rw[d]at l o⊢;obtain⟨p,fd,j,u,⟨c,T,X,C⟩,hR⟩:=L _ _ hz;have HR:=O hR;unfold iC at HR;unfold SV.cells at j;have ⟨d1,d2,d3⟩:=bk j;have ⟨c1,c2,c3⟩:=bk u;have ⟨g,g1,g2,g3⟩:=Gr X C;have n1:w.heap.size+1≠i:=Z;have n2:w.heap.size+1+1≠i:=Z;have V:=O ((gH W i p _ (show w.heap.size+3≠i by exact Z)).trans l);unfold iC at V;clear hR j u X L HA z F M hz l;go_wp2_with fail;refine⟨s_,.inl ⟨_,_,rfl,run_takeDeferred V,?_⟩⟩;exact⟨_,results_tmp aJ _ _ _,_,aJ,HR⟩
section
variable {P:Program} {ops:Array Oper} {Q:Exit->Act->Xb->Prop} {md:Region.Mode} {S:lA} {o:Oper} {v:aX} {fuel:Nat} {listed:Array Bool} {a:Act} {w:aN}
def eZ(i:Nat)(h:wpAnyH P md ops Q S fuel (listed.setIfInBounds i W1) (a.put o.dst v) w)(l:ops[i]?=Wy o:=by rfl)(j:Region.noSelect ops=W1:=by kernel_rfl)(d:Region.free md ops listed i=W1:=by kernel_rfl)(g:(Region.ready md ops listed).contains i=W1:=by kernel_rfl) (k:∀c a w,Q (.panic c) (a.put o.dst v) w->Q (.panic c) a w:=by exact λ_ _ _ h=>h) (e:YieldsIf P ops S o v a:=by(refine ea ⟨r_,?_⟩;intro w b;(try dsimp only at b);go_simp<;>with_reducible rfl)) (f:S w:=by assumption):wpAnyH P md ops Q S (fuel+1) listed a w:=wpAnyH_take l j d g k e f h
def tG(i:Nat)(h:∀b:Act->Xb->Prop,Shut (∀a w,S w->(S w->wpAnyH P md ops Q S fuel (listed.setIfInBounds i W1) a w)->b a w)->if Region.wanted o (yielded ops a.tmps)=W1 then Oper.wp P o a w b Q else b (a.put o.dst undef) w)(c:ops[i]?=Wy o:=by rfl)(d:Region.ready md ops listed=[i]:=by kernel_rfl):wpAnyH P md ops Q S (fuel+1) listed a w:=wpAnyH_ready d s_ (AllReadyH.cons c h AllReadyH.nil)
def B_(i j:Nat){c:Oper}(h:∀b:Act->Xb->Prop,Shut (∀a w,S w->(S w->wpAnyH P md ops Q S fuel (listed.setIfInBounds i W1) a w)->b a w)->if Region.wanted o (yielded ops a.tmps)=W1 then Oper.wp P o a w b Q else b (a.put o.dst undef) w) (e:∀b:Act->Xb->Prop,Shut (∀a w,S w->(S w->wpAnyH P md ops Q S fuel (listed.setIfInBounds j W1) a w)->b a w)->if Region.wanted c (yielded ops a.tmps)=W1 then Oper.wp P c a w b Q else b (a.put c.dst undef) w) (f:ops[i]?=Wy o:=by rfl) (d:ops[j]?=Wy c:=by rfl) (g:Region.ready md ops listed=[i,j]:=by kernel_rfl):wpAnyH P md ops Q S (fuel+1) listed a w:=wpAnyH_ready g s_ (AllReadyH.cons f h (AllReadyH.cons d e AllReadyH.nil))
end
def LV:Nat->(Nat->Prop)->Xb->Xa->List aE->Prop|0,_,_,lv,l=>l=[]/\lv=bP|d+1,F,w,lv,l=>(l=[]/\lv=bP)\/∃g o cap cur,l≠[]/\lv=Xl (Wy (aL g o)) (aA l) cap/\aA l<=cap/\F g/\w.heap[g]?=Wy (Xt cur 132)/\∀i (h:i<aA l),∃kv,cur[o+i*4]?=Wy (Y l[i].c_)/\cur[o+i*4+1]?=Wy (Y l[i].n)/\cur[o+i*4+2]?=Wy (Xm (bs l[i].s))/\cur[o+i*4+3]?=Wy kv/\LV d F w kv l[i].l
def RV(d:Nat)(F:bL)(w:aN)(v:aX)(a:aE):Prop:=∃lv,v=Xn #[Y a.c_,Y a.n,Xm (bs a.s),lv]/\LV d F w lv a.l
theorem LV.empty(d:Nat)(F:bL)(w:aN):LV d F w (bP) []:=by cases d with|zero=>exact⟨aJ,aJ⟩|succ d=>exact ea s_
theorem LV.mono{F G:bL}{w:aN}(k:∀b,F b->G b):∀{d e:Nat}{v:aX}{l:List aE},LV d F w v l->d<=e->LV e G w v l|0,e,v,l,⟨j,f⟩,_=>by grind[LV.empty]|d+1,0,_,_,_,h=>by omega|d+1,e+1,v,l,h,q=>by rcases h with h|⟨g,o,a,c,n,j,f,u,r,s⟩;exact ea h;refine dz ⟨g,o,a,c,n,j,f,k _ u,r,λi y=>?_⟩;obtain⟨x,m,z,p,A,t⟩:=s i y;exact⟨x,m,z,p,A,LV.mono k t Z⟩
theorem LV.h_{w w':aN}(k:∀b,z b->w'.heap[b]?=w.heap[b]?):∀{d:Nat}{v:aX}{l:List aE},LV d z w v l->LV d z w' v l|0,v,l,h=>h|d+1,v,l,h=>by rcases h with h|⟨g,o,a,c,j,n,f,r,y,p⟩;exact ea h;refine dz ⟨g,o,a,c,j,n,f,r,G_,λi t=>?_⟩;obtain⟨s,e,u,m,x,q⟩:=p i t;exact⟨s,e,u,m,x,LV.h_ k q⟩
theorem LV.slice{d:Nat}{F:bL}{w:aN}{v:aX}(h:LV d F w v l):∃x c,v=Xl x (aA l) c:=by cases d with|zero=>grind[LV]|succ d=>grind[LV]
def LV.Ex(h:LV A z R (Xl Wz V q) l):V=0/\q=0/\l=[]:=by cases A with|zero=>grind[LV]|succ A=>grind[LV]
def LV.isNil(h:LV A z R T []):T=bP:=by cases A with|zero=>exact h.2|succ A=>grind[LV]
def LV.elem{d:Nat}{x:Option Addr}(h:LV d z R (Xl x A V) l)(i:Nat)(k:i<aA l):∃e g o a,d=e+1/\A=aA l/\x=Wy (aL g o)/\aA l<=V/\z g/\I_ R (aL g (o+i*4))=Wy (Y l[i].c_)/\I_ R (aL g (o+i*4+1))=Wy (Y l[i].n)/\I_ R (aL g (o+i*4+2))=Wy (Xm (bs l[i].s))/\I_ R (aL g (o+i*4+3))=Wy a/\LV e z R a l[i].l:=by cases d with|zero=>grind[LV]|succ d=>rcases h with ⟨rfl,_⟩|⟨g,o,f,j,p,b,m,s,q,r⟩;simp at k;cases b;grind[World.cell?]
def RV.h_{d:Nat}{w w':aN}{v:aX}{a:aE}(h:RV d z w v a)(c:∀b,z b->w'.heap[b]?=w.heap[b]?):RV d z w' v a:=by grind[LV.h_,RV]
theorem RV.mono{d:Nat}{F G:bL}{w:aN}{v:aX}{a:aE}(h:RV d F w v a)(f:∀b,F b->G b)(c:d<=A):RV A G w v a:=by grind[LV.mono,RV]
def ME(l:List aE)(k:Nat)(h:k<aA l):((l.take (k+1)).map aK).sum=((l.take k).map aK).sum+aK l[k]:=by grind[List.take_succ_eq_append_getElem]
theorem EN(l:List aE)(k:Nat):((l.take k).map aK).sum<=(l.map aK).sum:=by grind[List.take_append_drop]
def AW(l:List aE)(h:m∈l):aK m<=(l.map aK).sum:=by induction l with|nil=>simp at h|cons y l a=>grind
theorem jK(l:List aE):aA l<=(l.map aK).sum:=by induction l with|nil=>simp|cons y l a=>grind[dE]
def tY:∀(d:Nat) (F:bL) (v:aX) (a:aE) (w:aN),RV d F w v a->(∀b,F b->b<H_ w)->aK a<=1000000000->W_ Xi 185 #[v] w λe w'=>e=bR (Y (aK a))/\R_ w w':=by
 intro d;induction d using Nat.strongRecOn with|_ d L=>
  intro F v a w h I hc;obtain⟨lv,rfl,A⟩:=h;obtain⟨x,c,rfl⟩:=A.slice;have p:=dE a;have T:(bs a.s).size=aA a.s:=by simp[bs,ByteArray.size]
  have M:aA a.s<=1000000000:=Z;have D:=jK a.l;have V:aA a.l<=1000000000:=Z;have HL:=O A;have N:=O I;have IH:=O L;have l:=O p;clear A I L p D;go_in;go_wp2;go_loopg [3,4,5] (aA a.l) (λgk W iv _ wr=>∃k:Nat,k+gk=aA a.l/\iv=Y k/\W=Y ((1+aA a.s+((a.l.take k).map aK).sum:Nat):Int)/\R_ w wr/\H_ w<H_ wr/\I_ wr (aL (H_ w) 3)=Wy (Xl x (aA a.l) c));case atStart=>exact⟨0,Z,rfl,s_,mn,s_,s_⟩
  case round=>
   obtain⟨k,hk,rfl,rfl,s,J,r⟩:=hrel;have t:=O s;clear s;by_cases i:k<aA a.l
   .obtain⟨j,rfl⟩:∃j,gk=j+1:=⟨gk-1,Z⟩;obtain⟨e,g,o,K,rfl,-,rfl,H,aa,P,Q,S,X,n⟩:=(HL.h_ (w':=wr) (by grind[ef,dw])).elem k i;have B:=AW a.l (ga i);have m:=ME a.l k i;have y:=EN a.l (k+1);have E:aK a.l[k]<=1000000000:=by have:=l.out;exact Z
    have f:1+aA a.s+((a.l.take k).map aK).sum+aK a.l[k]<=1000000000:=by have:=l.out;exact Z
    have HX:=O (IH e Z F (Xn #[Y a.l[k].c_,Y a.l[k].n,Xm (bs a.l[k].s),K]) a.l[k] wr ⟨K,rfl,n⟩ (λb s=>eh (N b s) t.size) E);have u:=O m;clear n m y B;generalize ((a.l.take k).map aK).sum=s0 at*;generalize aK a.l[k]=s1 at*;go_wp;refine sa HX λG f=>?_;have C:=O (t.trans (f.mono t.size));have z:H_ w<H_ G:=eh J f.size;have q:I_ G (aL (H_ w) 3)=Wy (Xl (Wy (aL g o)) (aA a.l) c):=by rw[f.cell (by exact J)];exact r
    clear f r P Q S X;go_wp2;go_roundg j;case measure=>exact Z
    case rel=>exact⟨k+1,Z,ll,by rw[u];go_num,C,z,q⟩
   obtain rfl:k=aA a.l:=Z;rw[jj]at*;go_wp2;go_ret;exact⟨by rw[l];rfl,t⟩
def Kz(x y:bQ):((bs x).toList==(bs y).toList)=(x==y):=by rw[bA,bA]
def Hq{b:List (c->Bool)}{a:List c}(d:aA b=aA a):nO b a=W1↔∀i (h:i<aA a),(b[i]'Z) a[i]=W1:=by
 induction b generalizing a with|nil=>grind[nO]|cons f b e=>
  cases a with|nil=>simp at d|cons x a=>
   simp [nO];rw[e G_];constructor;rintro⟨j,g⟩ i k;cases i with|zero=>exact j|succ i=>exact g i G_
   intro h;exact⟨h 0 s_,λi k=>h (i+1) G_⟩
def I6(g:m.c_=b.c_)(f:m.n=b.n)(d:m.s=b.s)(l:aA m.l=aA b.l):cZ m b=W1↔∀(i:Nat) x y,m.l[i]?=Wy x->b.l[i]?=Wy y->cZ x y=W1:=by rw[rN];simp [g,f,d,beq_self_eq_true];rw[Hq G_];constructor;intro h i x y j e;obtain⟨c,rfl⟩:=ik.1 e;obtain⟨k,rfl⟩:=ik.1 j;simpa using h i c;intro h i c;simpa using h i (m.l[i]'Z) b.l[i] (ey Z) (ey c)
def I7{x y:aE}(d:m.l[A]?=Wy x)(c:b.l[A]?=Wy y)(h:cZ x y=WD):cZ m b=WD:=by grind[sL]
def Ql(h:aA m.l≠aA b.l):cZ m b=WD:=by grind[sL]
def y8:∀(d:Nat) (F:bL) (u v:aX) (a b:aE) (w:aN),RV d F w u a->RV d F w v b->(∀b,F b->b<H_ w)->aA a.l<=1000000000->aA b.l<=1000000000->(∀x∈a.l,aK x<=1000000000)->(∀x∈b.l,aK x<=1000000000)->W_ Xi 236 #[u,v] w λe w'=>e=bR (Xr (cZ a b))/\R_ w w':=by
 intro d;induction d using Nat.strongRecOn with|_ d J=>
  intro F u v a b w h h' K au av m r;obtain⟨lv,rfl,H⟩:=h;obtain⟨aq,rfl,f⟩:=h';obtain⟨x,c,rfl⟩:=H.slice;obtain⟨x',c',rfl⟩:=f.slice;have n:R_ w (i9 (i9 w (Xt #[Y a.c_,Y a.n,Xm (bs a.s),Xl x (aA a.l) c] 132)) (Xt #[Y b.c_,Y b.n,Xm (bs b.s),Xl x' (aA b.l) c'] 132)):=((dv _ w).alloc (Z) _).alloc s_ _;have A:=O n;have t:=Kz a.s b.s;by_cases I:a.c_=b.c_;rotate_left
  .have e0:((a.c_:Int) !=(b.c_:Int))=W1:=G_;have z:Hid (cZ a b=WD):=by grind[rN]
   clear H f n K J t m r;have H0:=O I;clear I;go_in;go_wp2;go_ret;exact⟨rg,A⟩
  have e0:((a.c_:Int) !=(b.c_:Int))=WD:=G_;by_cases h1:a.n=b.n;rotate_left
  .have e1:(a.n !=b.n)=W1:=G_;have z:Hid (cZ a b=WD):=by grind[rN]
   clear H f n K J t m r I;go_in;go_wp2;go_ret;exact⟨rg,A⟩
  have e1:(a.n !=b.n)=WD:=G_;by_cases h2:a.s=b.s;rotate_left
  .have e2:((bs a.s).toList==(bs b.s).toList)=WD:=G_;have z:Hid (cZ a b=WD):=by grind[rN]
   clear H f n K J t m r I h1;go_in;go_wp2;go_ret;exact⟨rg,A⟩
  have e2:((bs a.s).toList==(bs b.s).toList)=W1:=G_;by_cases h3:aA a.l=aA b.l;rotate_left;.have e3:((aA a.l:Int) !=(aA b.l:Int))=W1:=G_;have z:=O (Ql h3);clear H f n K J t m r I h1 h2;go_in;go_wp2;go_ret;exact⟨rg,A⟩
  have e3:((aA a.l:Int) !=(aA b.l:Int))=WD:=G_;have HP:=O (I6 I h1 h2 h3);have HL:=O H;have ae:=O f;have P:=O K;have IH:=O J;have Q:=O m;have N:=O r;have H3:=O h3;clear H f K J t m r I h1 h2 h3 n;go_in;go_wp2;go_loopg [5,6] (aA a.l) (λgk iv _ wr=>∃k:Nat,k+gk=aA a.l/\iv=Y k/\Hid (∀i,i<k->∀p q,a.l[i]?=Wy p->b.l[i]?=Wy q->cZ p q=W1)/\R_ w wr/\H_ w+1<H_ wr/\I_ wr (aL (H_ w) 3)=Wy (Xl x (aA a.l) c)/\I_ wr (aL (H_ w+1) 3)=Wy (Xl x' (aA b.l) c'));case atStart=>exact⟨0,Z,rfl,λi hi=>by omega,A,s_,s_,s_⟩
  case round=>
   obtain⟨k,hk,rfl,hq,s,hz,ak,M⟩:=hrel;have E:=O s;clear s;by_cases B:k<aA a.l
   .obtain⟨j,rfl⟩:∃j,gk=j+1:=⟨gk-1,Z⟩;have l:k<aA b.l:=G_;obtain⟨e,g,o,kv,ar,-,rfl,al,ap,c0,c1,c2,c3,V⟩:=(HL.h_ (w':=wr) λb s=>E.block b (P b s)).elem k B;obtain⟨e',g',o',W,am,-,rfl,ah,an,ac,ai,ad,aj,D⟩:=(ae.h_ (w':=wr) λb s=>E.block b (P b s)).elem k l;obtain rfl:e=e':=Z;have gx:a.l[k]?=Wy a.l[k]:=ey B;have gy:=ey l;have ma:∀y∈a.l[k].l,aK y<=1000000000:=λy hy=>by have:=Q _ (ga B);rw[dE]at this;have:=AW _ hy;exact Z
    have mb:∀y∈b.l[k].l,aK y<=1000000000:=λy hy=>by have:=N _ (ga l);rw[dE]at this;have:=AW _ hy;exact Z
    have na:a.l[k].l.length<=1000000000:=by have:=Q _ (ga B);rw[dE]at this;have:=jK a.l[k].l;exact Z
    have nb:b.l[k].l.length<=1000000000:=by have:=N _ (ga l);rw[dE]at this;have:=jK b.l[k].l;exact Z
    have HX:Hid (∀L,R_ wr L->W_ Xi 236 #[Xn #[Y a.l[k].c_,Y a.l[k].n,Xm (bs a.l[k].s),kv],Xn #[Y b.l[k].c_,Y b.l[k].n,Xm (bs b.l[k].s),W]] L λe w'=>e=bR (Xr (cZ a.l[k] b.l[k]))/\R_ L w'):=λL G=>IH e Z F _ _ a.l[k] b.l[k] L ⟨kv,rfl,V.h_ λb s=>G.block b (eh (P b s) E.size)⟩ ⟨W,rfl,D.h_ λb s=>G.block b (eh (P b s) E.size)⟩ (λb s=>eh (P b s) (em E.size G.size)) na nb ma mb;have GX:=O gx;have GY:=O gy;clear V D gx gy ma mb na nb;generalize a.l[k]=p at*;generalize b.l[k]=q at*;generalize hs:cZ p q=sb at*;have af:=O hs;clear hs;go_wp2;go_cut [6] (λsv wc=>sv=Xr sb/\R_ w wc/\H_ w+1<H_ wc/\I_ wc (aL (H_ w) 3)=Wy (Xl (Wy (aL g o)) (aA a.l) c)/\I_ wc (aL (H_ w+1) 3)=Wy (Xl (Wy (aL g' o')) (aA b.l) c'));case first=>go_region_law (go_simp;go_at_call 236;refine sa (HX _ (by exact(dv _ _).drew)) λL aa=>?_;have C:=O aa;clear aa);all_goals go_wp;go_meet;case rel=>exact⟨aJ,E.trans ((dv _ _).drew.trans (C.mono E.size)),eh hz C.size,by rw[C.cell (by show H_ w<H_ wr;exact Z)];exact ak,by rw[C.cell (by show H_ w+1<H_ wr;exact Z)];exact M⟩
    case rest=>
     obtain⟨rfl,S,ag,hd,ab⟩:=hcut;have T:=O S;have HQ:=hq;clear S HX hq c0 c1 c2 c3 ac ai ad aj;cases sb with|false=>have z:=O (I7 GX GY af);go_wp2;go_ret;exact⟨rg,T⟩|true=>
      go_wp2;go_roundg j;case measure=>exact Z
      case rel=>exact⟨k+1,Z,ll,λi hi p' q' ao X=>by grind[dw],T,ag,hd,ab⟩
   obtain rfl:k=aA a.l:=Z;have z:=HP.2 λi p q hp X=>hq.out i G_ p q hp X;clear hq;go_wp2;go_ret;exact⟨rg,E⟩
def Qv(z:Int)(w:aN):(convert 193 9 (Xl (Wy (aL (H_ w) 0)) 1 1)).run Xi (i9 w (Xt #[Xs .u8 z] 5))=.ok (Xm (strOfNums [z])) (i9 w (Xt #[Xs .u8 z] 5)):=run_convert_bytes_arg _ 193 5 underlying193 underlying5 (H_ w) 0 1 1 [z] rfl (s_) 9 underlying9
theorem nE(a b:bQ):bs a++bs b=bs (a++b):=by grind[TH,jT,ByteArray.data_append]
def xY(z:Int)(d:Nat)(a:z=48+d)(t:bQ):strOfNums [z]++bs t=bs (UInt8.ofNat (48+d)::t):=by
 have e:strOfNums [z]=bs [UInt8.ofNat (48+d)]:=by grind[TH,strOfNums_data,jT]
 rw[e,nE];rfl
def Pe(t:bQ):(⟨#[45]⟩:ByteArray)++bs t=bs (45::t):=nE [45] t
def Ir(m:Int):(m.tmod 10<0->-m.tmod 10=(m.natAbs%10:Nat))/\(¬m.tmod 10<0->m.tmod 10=(m.natAbs%10:Nat))/\(m.tdiv 10).natAbs=m.natAbs/10:=by grind
def LW(n:Int)(w:aN)(E:-9223372036854775808<=n)(v:n<=9223372036854775807):W_ Xi 138 #[Y n] w λe u=>e=bR (Xm (bs (jM n)))/\R_ w u:=by
 have Q:=Qv;have C:=iS;have M:=Pe;have B:∀z,(strOfNums [z]).size=1:=λz=>strOfNums_size [z];go_in;go_wp2;go_loopg [0,3,5] 20 (λgk J A _ wr=>∃(m:Int) (t:bQ),J=Y m/\A=Xm (bs t)/\-9223372036854775808<=m/\m<=9223372036854775807/\1<=gk/\gk<=20/\Hid (m.natAbs<10^gk)/\aA t<=20-gk/\Hid (iX gk m.natAbs t=iX 20 n.natAbs [])/\R_ w wr);case atStart=>exact⟨n,[],aJ,aJ,E,v,Z,Z,by show n.natAbs<10^20;exact Z,s_,rfl,dv _ _⟩
 case round=>
  obtain⟨m,t,rfl,rfl,F,I,G,H,p,y,l,q⟩:=hrel;have f:=O q;obtain⟨j,rfl⟩:∃j,gk=j+1:=⟨gk-1,Z⟩;have ⟨t1,t2,t3⟩:=Ir m;have i:m.natAbs%10<10:=Z;have ⟨g,hdd⟩:∃g,g=m.natAbs%10:=(by simp);rw[<-hdd]at t1 t2 i;have S:-9<=m.tmod 10:=Z;have V:m.tmod 10<=9:=Z;have s:aA t<=1000:=Z;have K:=O t3;have D:=O hdd;have ⟨o,hdg⟩:∃o,o=UInt8.ofNat (48+g):=(by simp);have T:-9223372036854775808<=m.tdiv 10/\m.tdiv 10<=9223372036854775807:=Z;by_cases r:m.tdiv 10=0
  .have HFIN:Hid (jM n=(if n<0 then [45]else [])++(o::t)):=by show _=_;have b:m.natAbs<10:=Z;have h:=l.out;rw[iX,ec b]at h;unfold jM;rw[<-h,hdg,hdd,Nat.mod_eq_of_lt b]
   have N:(m.tdiv 10==0)=W1:=G_;clear r l q t3 hdd;by_cases a:m.tmod 10<0
   .have c:=xY (48+-m.tmod 10) g (by rw[t1 a]);rw[<-hdg]at c;clear t1 t2 hdg;by_cases k:n<0;.have d:=O k;go_wp2;go_ret;exact⟨by rw[HFIN.out,ec d.out];rfl,f.out.alloc f.out.size _⟩
    have d:=O k;go_wp2;go_ret;exact⟨by rw[HFIN.out,dy Z];rfl,f.out.alloc f.out.size _⟩
   have c:=xY (48+m.tmod 10) g (by rw[t2 a]);rw[<-hdg]at c;clear t1 t2 hdg;by_cases k:n<0;.have d:=O k;go_wp2;go_ret;exact⟨by rw[HFIN.out,ec d.out];rfl,f.out.alloc f.out.size _⟩
   have d:=O k;go_wp2;go_ret;exact⟨by rw[HFIN.out,dy Z];rfl,f.out.alloc f.out.size _⟩
  have b:¬m.natAbs<10:=Z;have x:Hid (1<=j/\(m.tdiv 10).natAbs<10^j/\iX j (m.tdiv 10).natAbs (o::t)=iX 20 n.natAbs []):=by
   have h:=l.out;have L:=p.out;rw[iX,dy b,<-hdd,<-t3,<-hdg]at h;rw[Nat.pow_succ]at L;have P:1<=j:=by grind
   exact⟨P,Z,h⟩
  have N:(m.tdiv 10==0)=WD:=G_;clear r l q t3 hdd b;by_cases a:m.tmod 10<0
  .have c:=xY (48+-m.tmod 10) g (by rw[t1 a]);rw[<-hdg]at c;clear t1 t2 hdg;go_wp2;go_roundg j;case measure=>exact Z
   grind[dw,eo,Below.size]
  have c:=xY (48+m.tmod 10) g (by rw[t2 a]);rw[<-hdg]at c;clear t1 t2 hdg;go_wp2;go_roundg j;case measure=>exact Z
  grind[dw,eo,Below.size]
def ZQ(l:cY)(x:bQ)(h:l≠[]):fO (l++[x])=fO l++[44,32]++x:=by induction l with|nil=>grind|cons y r a=>cases r with|nil=>simp[fO]|cons z r=>grind[fO]
theorem ZJ(f:Nat):∀n t,aA (iX f n t)<=aA t+f:=by induction f with|zero=>grind[iX]|succ f a=>grind[iX]
def SZ(n:Int):aA (jM n)<=21:=by grind[jM,ZJ]
theorem uO(l:List aE)(h:∀x∈l,aA (cM x)+2<=24*aK x):aA (fO (l.map cM))<=24*(l.map aK).sum:=by induction l with|nil=>simp[fO]|cons y r a=>have b:=h y s_;cases r with|nil=>simp[fO];exact Z|cons z r=>grind[fO]
theorem sH:∀v:aE,aA (cM v)+2<=24*aK v:=by refine aE.ind λv a=>?_;have c:=uO v.l a;have b:=SZ v.n;rw[mB,dE];grind
noncomputable def B5(l:List aE)(k:Nat):bQ:=91::fO ((l.take k).map cM)
def Wk(l:List aE)(k:Nat)(h:k<aA l)(a:k=0):B5 l (k+1)=91::cM l[k]:=by subst a;unfold B5;cases l with|nil=>simp at h|cons x l=>simp[fO]
def Nr(l:List aE)(k:Nat)(h:k<aA l)(a:0<k):B5 l (k+1)=B5 l k++[44,32]++cM l[k]:=by unfold B5;rw[hQ h,ft,List.map_singleton,ZQ];simp;grind[List.length_map]
theorem Vk(l:List aE)(k:Nat):aA (B5 l k)<=1+24*(l.map aK).sum:=by grind[B5,uO,sH,EN]
def OO(s:bQ):(⟨#[34]⟩:ByteArray)++bs s=bs (34::s):=nE [34] s
def OP(s:bQ):bs s++(⟨#[34]⟩:ByteArray)=bs (s++[34]):=nE s [34]
def Mj(s:bQ):bs s++(⟨#[44,32]⟩:ByteArray)=bs (s++[44,32]):=nE s [44,32]
def Hk(s:bQ):bs s++(⟨#[93]⟩:ByteArray)=bs (s++[93]):=nE s [93]
def AP:∀(d:Nat) (F:bL) (v:aX) (a:aE) (w:aN),RV d F w v a->(∀b,F b->b<H_ w)->aK a<=1000000000->nG a->W_ Xi 81 #[v] w λe w'=>e=bR (Xm (bs (cM a)))/\R_ w w':=by
 intro d;induction d using Nat.strongRecOn with|_ d L=>
  intro F v a w h M W l;obtain⟨lv,rfl,E⟩:=h;obtain⟨x,c,rfl⟩:=E.slice;have t:=dE a;have f:=mB a;have r:R_ w (i9 w (Xt #[Y a.c_,Y a.n,Xm (bs a.s),Xl x (aA a.l) c] 132)):=(by grind[eo,dv]);have n:=O r;by_cases B:a.c_=0
  .have e0:((a.c_:Int)==0)=W1:=by simp[B]
   rw[ec B]at f;have m:=O f;have HD:=O (LW a.n (i9 w (Xt #[Y a.c_,Y a.n,Xm (bs a.s),Xl x (aA a.l) c] 132)) l.lo l.hi);clear E M L W t f r B l;go_in;go_wp;refine sa HD λG i=>?_;have q:=O (n.trans (i.mono n.size));clear i;go_wp2;go_ret;exact⟨ru,q⟩
  have e0:((a.c_:Int)==0)=WD:=G_;rw[dy B]at f;by_cases I:a.c_=1
  .have e1:((a.c_:Int)==1)=W1:=by simp[I]
   rw[ec I]at f;clear E M L W t r B I l;by_cases J:a.n=1
   .have en:(a.n==1)=W1:=by simp[J]
    rw[ec J]at f;have m:=O f;clear f J;go_in;go_wp2;go_ret;exact⟨ru,n⟩
   have en:(a.n==1)=WD:=by simp[J]
   rw[dy J]at f;have m:=O f;clear f J;go_in;go_wp2;go_ret;exact⟨ru,n⟩
  have e1:((a.c_:Int)==1)=WD:=G_;rw[dy I]at f;by_cases P:a.c_=2
  .have e2:((a.c_:Int)==2)=W1:=by simp[P]
   rw[ec P]at f;have m:=O f;have ad:aA a.s<=1000000000:=Z;have T:=iS;have q1:=OO;have q2:=OP;clear E M L W t r B I P l f;go_in;go_wp2;go_ret;exact⟨ru,n⟩
  have e2:((a.c_:Int)==2)=WD:=G_;rw[dy P]at f;have m:=O f;have T:=iS;have q3:=Mj;have q4:=Hk;have q5:=nE;have aa:=jK a.l;have ae:aA a.l<=1000000000:=Z;have s:∀k,aA (B5 a.l k)<=24000000001:=(by grind[Vk]);have HL:=O E;have HF:=O M;have IH:=O L;have X:=O t;have HFIT:=O l;clear E M L t aa r B I P l f;go_in;go_wp2;go_loopg [3,4,5] (aA a.l) (λgk tv iv _ wr=>∃k:Nat,k+gk=aA a.l/\iv=Y k/\tv=Xm (bs (B5 a.l k))/\R_ w wr/\H_ w<H_ wr/\I_ wr (aL (H_ w) 3)=Wy (Xl x (aA a.l) c));case atStart=>exact⟨0,Z,rfl,rfl,n,s_,s_⟩
  case round=>
   obtain⟨k,hk,rfl,rfl,Q,S,y⟩:=hrel;have H:=O Q;clear Q;by_cases u:k<aA a.l
   .obtain⟨j,rfl⟩:∃j,gk=j+1:=⟨gk-1,Z⟩;obtain⟨e,g,o,kv,rfl,-,rfl,ac,ag,c0,c1,c2,c3,A⟩:=(HL.h_ (w':=wr) (by grind[ef,dw])).elem k u;have K:=AW a.l (ga u);have ab:aK a.l[k]<=1000000000:=by have:=X.out;exact Z
    have af:aA (cM a.l[k])<=24000000000:=by have:=sH a.l[k];exact Z
    have N:=s k;have HX:=O (IH e Z F (Xn #[Y a.l[k].c_,Y a.l[k].n,Xm (bs a.l[k].s),kv]) a.l[k] wr ⟨kv,rfl,A⟩ (λb Q=>eh (HF b Q) H.size) ab (HFIT.uz (s_)));by_cases z:k=0
    .have D:=O (Wk a.l k u z);have V:Hid (B5 a.l k=[91]):=by show _=_;rw[z];simp[B5,fO]
     have ah:k<=0:=Z;clear A K s z;generalize cM a.l[k]=s1 at*;generalize B5 a.l k=s0 at*;go_wp;refine sa HX λG i=>?_;have q:=O (H.trans (i.mono H.size));have C:H_ w<H_ G:=eh S i.size;have p:I_ G (aL (H_ w) 3)=Wy (Xl (Wy (aL g o)) (aA a.l) c):=by rw[i.cell (by exact S)];exact y
     clear i y c0 c1 c2 c3;go_wp2;go_roundg j;case measure=>exact Z
     case rel=>exact⟨k+1,Z,ll,by rw[D,V];rfl,q,C,p⟩
    have D:=O (Nr a.l k u Z);clear A K s;generalize cM a.l[k]=s1 at*;generalize B5 a.l k=s0 at*;go_wp;refine sa HX λG i=>?_;have q:=O (H.trans (i.mono H.size));have C:H_ w<H_ G:=eh S i.size;have p:I_ G (aL (H_ w) 3)=Wy (Xl (Wy (aL g o)) (aA a.l) c):=by rw[i.cell (by exact S)];exact y
    clear i y c0 c1 c2 c3;go_wp2;go_roundg j;case measure=>exact Z
    case rel=>exact⟨k+1,Z,ll,by rw[D];simp,q,C,p⟩
   obtain rfl:k=aA a.l:=Z;have N:=s (aA a.l);have V:Hid (cM a=B5 a.l (aA a.l)++[93]):=by grind[B5]
   clear s;generalize B5 a.l (aA a.l)=s0 at*;go_wp2;go_ret;exact⟨by rw[V];rfl,H⟩
def x9(d:Nat)(F:bL)(v:aX)(a:aE)(w:aN)(h:RV d F w v a)(l:∀b,F b->b<w.heap.size)(t:aK a<=1000000000)(i:nG a):W_ Xi 260 #[v] w λe p=>e=bR (Xm (bs (jO a)))/\R_ w p:=by
 obtain⟨y,rfl,m⟩:=h;obtain⟨x,c,rfl⟩:=m.slice;have f:R_ w (i9 w (Xt #[Y a.c_,Y a.n,Xm (bs a.s),Xl x (aA a.l) c] 132)):=(by grind[eo,dv]);have g:=O f;by_cases k:a.c_=2
 .have r:((a.c_:Int)==2)=W1:=by simp[k]
  have o:Hid (jO a=a.s):=by grind[jO]
  clear m l f k;go_in;go_wp2;go_ret;exact⟨by rw[o];rfl,g⟩
 have r:((a.c_:Int)==2)=WD:=G_;have o:Hid (jO a=cM a):=by grind[jO]
 have s:=O (AP d F (Xn #[Y a.c_,Y a.n,Xm (bs a.s),Xl x (aA a.l) c]) a (i9 w (Xt #[Y a.c_,Y a.n,Xm (bs a.s),Xl x (aA a.l) c] 132)) qi (λb q=>eh (l b q) f.size) t i);clear m l f k;go_in;go_wp;refine sa s λu j=>?_;have n:=O (g.trans (j.mono g.size));clear j;go_wp2;go_ret;exact⟨by rw[o];rfl,n⟩
abbrev cR(c_:Nat)(n:Int)(s:bQ):Xa:=Xn #[Y c_,Y n,Xm (bs s),bP]
def RV.plain(d:Nat)(F:bL)(w:aN)(a:Nat)(n:Int)(s:bQ):RV d F w (cR a n s) ⟨a,n,s,[]⟩:=(by grind[LV.empty,RV])
theorem RV.num(d:Nat)(F:bL)(w:aN)(n:Int):RV d F w (cR 0 n []) (bB n):=RV.plain d F w 0 n []
def RV.yo(d:Nat)(F:bL)(w:aN)(b:Bool):RV d F w (cR 1 (if b then 1 else 0) []) (cG b):=RV.plain d F w 1 _ []
theorem RV.yes(d:Nat)(F:bL)(w:aN):RV d F w (cR 1 1 []) (cG W1):=RV.plain d F w 1 1 []
theorem RV.no(d:Nat)(F:bL)(w:aN):RV d F w (cR 1 0 []) (cG WD):=RV.plain d F w 1 0 []
theorem RV.nil(d:Nat)(F:bL)(w:aN):RV d F w (cR 0 0 []) aZ:=RV.plain d F w 0 0 []
theorem RV.str(d:Nat)(F:bL)(w:aN)(s:bQ):RV d F w (cR 2 0 s) (bS s):=RV.plain d F w 2 0 s
def iK(n:Int)(w:aN):W_ Xi 109 #[Y n] w λe a=>e=bR (cR 0 n [])/\a=i9 w (Xt #[Y 0,Y n,Xm (bs []),bP] 132):=by go_in;go_wp2;exact Wx (v:=cR 0 n []) (by simp[results,results109,go_sem];rfl) rfl ⟨rfl,rfl⟩
def jF(b:Bool)(w:aN):W_ Xi 133 #[Xr b] w λe a=>e=bR (cR 1 (if b then 1 else 0) [])/\a=i9 w (Xt #[Y 1,Y (if b then 1 else 0),Xm (bs []),bP] 132):=by
 cases b;.go_in;go_wp2;exact Wx (v:=cR 1 0 []) (by simp[results,results133,go_sem];rfl) rfl ⟨rfl,rfl⟩
 go_in;go_wp2;exact Wx (v:=cR 1 1 []) (by simp[results,results133,go_sem];rfl) rfl ⟨rfl,rfl⟩
def AQ(s:List UInt8)(w:Xb):W_ Xi 132 #[Xm (bs s)] w λe a=>e=.returned (cR 2 0 s)/\a=i9 w (Xt #[Xs .i64 2,Xs .i64 0,Xm (bs s),Xl Wz 0 0] 132):=by go_enter func132,ntmps132;go_wp;exact Wx (v:=cR 2 0 s) (by simp[results,results132,go_sem]) rfl s_
def DD(x:Option Addr)(n c:Nat)(w:Xb):W_ Xi 184 #[Xl x n c] w λe a=>e=.returned (Xn #[Xs .i64 3,Xs .i64 0,Xm (bs []),Xl x n c])/\a=i9 w (Xt #[Xs .i64 3,Xs .i64 0,Xm (bs []),Xl x n c] 132):=by go_enter func184,ntmps184;go_wp;exact Wx (v:=Xn #[Xs .i64 3,Xs .i64 0,Xm (bs []),Xl x n c]) (by simp[results,results184,go_sem];rfl) rfl ⟨rfl,rfl⟩
abbrev fM(v:aX)(stop:Nat):Xa:=Xp #[v,Y stop]
theorem zK(n:Int):oM n=wrap64 n:=by unfold oM wrap64;rfl
def Hs.yz{op:bQ}{a:aE}(h:op=[45,120])(b:a.c_=0):dH op a=(bB (wrap64 (-a.n)),0):=by grind[zK,dH]
def Hs.Aw{b:bQ}(h:b=[33,120])(c:m.c_=1):dH b m=(cG (decide (m.n=0)),0):=by grind[dH]
def Hs.BT{b:bQ}(h:¬(b=[45,120]/\m.c_=0))(c:¬(b=[33,120]/\m.c_=1)):dH b m=(aZ,2):=by grind[dH]
def s6(d:Nat)(F:bL)(w:aN)(r:aE×Nat)(e:Ending)(w':aN):Prop:=(∃u,e=bR (fM u r.2)/\RV d F w' u r.1)/\R_ w w'
def Ny(e:bQ)(d:Nat)(F:bL)(v:aX)(a:aE)(w:aN)(h:RV d F w v a):W_ Xi 187 #[Xm (bs e),v] w (s6 d F w (dH e a)):=by
 obtain⟨t,rfl,q⟩:=h;obtain⟨x,c,rfl⟩:=q.slice;clear q;have b:=bA e;by_cases j:e=[45,120]/\a.c_=0
 .obtain⟨f,i⟩:=j;have g:=O (Hs.yz f i);have p:((bs e).toList==[45,120])=W1:=by rw[b,f];rfl
  have n:((a.c_:Int)==0)=W1:=by simp[i]
  clear b f i;generalize dH e a=r at*;go_in;go_wp2_with (go_at_call 109;apply mJ (iK _ _));exact Wx (v:=fM (cR 0 (wrap64 (-a.n)) []) 0) qb rfl ⟨⟨_,by rw[g],by rw[g];exact RV.num _ _ _ (wrap64 (-a.n))⟩,lj⟩
 by_cases l:e=[33,120]/\a.c_=1
 .obtain⟨f,i⟩:=l;have g:=O (Hs.Aw f i);have p:((bs e).toList==[45,120])=WD:=by rw[b,f];rfl
  have o:((bs e).toList==[33,120])=W1:=by rw[b,f];rfl
  have n:((a.c_:Int)==1)=W1:=by simp[i]
  clear b f i j;generalize dH e a=r at*;by_cases k:a.n=0
  .have s:(a.n==0)=W1:=by simpa using k
   rw[io k]at g;clear k;go_in;go_wp2_with (go_at_call 133;refine mJ (jF _ _) ?_);exact Wx (v:=fM (cR 1 1 []) 0) qb rfl ⟨⟨_,by rw[g],by rw[g];exact RV.yes _ _ _⟩,lj⟩
  have s:(a.n==0)=WD:=by simpa using k
  rw[gh k]at g;clear k;go_in;go_wp2_with (go_at_call 133;refine mJ (jF _ _) ?_);exact Wx (v:=fM (cR 1 0 []) 0) qb rfl ⟨⟨_,by rw[g],by rw[g];exact RV.no _ _ _⟩,lj⟩
 have g:=O (Hs.BT j l);generalize dH e a=r at*;by_cases f:e=[45,120]
 .have p:((bs e).toList==[45,120])=W1:=by rw[b,f];rfl
  have o:((bs e).toList==[33,120])=WD:=by rw[b,f];rfl
  have n:((a.c_:Int)==0)=WD:=by simp;intro h;exact j ⟨f,h⟩
  clear b f j l;go_in;go_wp2;exact Wx (v:=fM (cR 0 0 []) 2) pd rfl ⟨⟨_,by rw[g],qs⟩,lj⟩
 have p:((bs e).toList==[45,120])=WD:=by rw[b];simpa using f
 by_cases m:e=[33,120]
 .have o:((bs e).toList==[33,120])=W1:=by rw[b,m];rfl
  have n:((a.c_:Int)==1)=WD:=by simp;intro h;exact l ⟨m,Z⟩
  clear b f j l m;go_in;go_wp2;exact Wx (v:=fM (cR 0 0 []) 2) pd rfl ⟨⟨_,by rw[g],qs⟩,lj⟩
 have o:((bs e).toList==[33,120])=WD:=by rw[b];simpa using m
 clear b f j l m;go_in;go_wp2;exact Wx (v:=fM (cR 0 0 []) 2) pd rfl ⟨⟨_,by rw[g],qs⟩,lj⟩
def CZ(n:Int)(a:-9223372036854775808<=n)(b:n<=9223372036854775807):oM n=n:=by unfold oM;exact Z
def Ha(x y:Int)(c:-9223372036854775808<=x)(a:x<=9223372036854775807)(f:y≠0)(e:y≠-1):-9223372036854775808<=x.tdiv y/\x.tdiv y<=9223372036854775807:=by have h:(x.tdiv y).natAbs=x.natAbs/y.natAbs:=Int.natAbs_tdiv x y;by_cases d:y=1;grind;have b:2<=y.natAbs:=Z;have g:x.natAbs/y.natAbs<=x.natAbs/2:=Nat.div_le_div_left b Z;exact Z
def UZ(x y:Int)(b:-9223372036854775808<=x)(a:x<=9223372036854775807):-9223372036854775808<=x.tmod y/\x.tmod y<=9223372036854775807:=by
 have h:(x.tmod y).natAbs=x.natAbs%y.natAbs:=(by simp);have c:x.natAbs%y.natAbs<=x.natAbs:=Nat.mod_le _ _;by_cases d:0<=x;exact Z;have:x.tmod y<=0:=by have:=Int.tmod_nonneg y (show 0<=-x by exact Z);grind[Int.neg_tmod]
 exact Z
def UG{Z_:Prop}(Y_:Z_:=by go_in;go_wp2_with (go_at_call 133;refine mJ (jF _ _) ?_);exact Wx (v:=fM (cR 1 1 []) 0) ly rfl ⟨⟨_,rl,by grind[dw,RV.yes]⟩,lj⟩):Z_:=Y_
def TW{Z_:Prop}(Y_:Z_:=by go_in;go_wp2_with (go_at_call 133;refine mJ (jF _ _) ?_);exact Wx (v:=fM (cR 1 0 []) 0) ly rfl ⟨⟨_,rl,by grind[dw,RV.no]⟩,lj⟩):Z_:=Y_
def y9(a:bQ)(d:Nat)(F:bL)(x y:Int)(w:aN)(l:-9223372036854775808<=x)(k:x<=9223372036854775807)(_hy1:-9223372036854775808<=y)(_hy2:y<=9223372036854775807):W_ Xi 237 #[Xm (bs a),Y x,Y y] w (s6 d F w (jD a x y)):=by
 have b:=bA a;have ⟨r,hr⟩:∃r,r=jD a x y:=(by simp);rw[<-hr];unfold jD at hr;by_cases s:a=[43];.rw[ec s]at hr;have A:((bs a).toList==[43])=W1:=G_;have z:((bs a).toList==[45])=WD:=G_;have u:((bs a).toList==[42])=WD:=G_;have t:((bs a).toList==[60])=WD:=G_;have o:((bs a).toList==[60,61])=WD:=G_;have f:((bs a).toList==[47])=WD:=G_;rw[zK]at hr;have HP:=O hr;clear b hr s;go_in;go_wp2_with (go_at_call 109;apply mJ (iK _ _));exact Wx (v:=fM (cR 0 (wrap64 (x+y)) []) 0) ly rfl ⟨⟨_,rl,ns⟩,lj⟩
 rw[dy s]at hr;have A:((bs a).toList==[43])=WD:=G_;clear s;by_cases q:a=[45];.rw[ec q]at hr;have z:((bs a).toList==[45])=W1:=G_;have u:((bs a).toList==[42])=WD:=G_;have t:((bs a).toList==[60])=WD:=G_;have o:((bs a).toList==[60,61])=WD:=G_;have f:((bs a).toList==[47])=WD:=G_;rw[zK]at hr;have HP:=O hr;clear b hr q;go_in;go_wp2_with (go_at_call 109;apply mJ (iK _ _));exact Wx (v:=fM (cR 0 (wrap64 (x-y)) []) 0) ly rfl ⟨⟨_,rl,ns⟩,lj⟩
 rw[dy q]at hr;have z:((bs a).toList==[45])=WD:=G_;clear q;by_cases p:a=[42];.rw[ec p]at hr;have u:((bs a).toList==[42])=W1:=G_;have t:((bs a).toList==[60])=WD:=G_;have o:((bs a).toList==[60,61])=WD:=G_;have f:((bs a).toList==[47])=WD:=G_;rw[zK]at hr;have HP:=O hr;clear b hr p;go_in;go_wp2_with (go_at_call 109;apply mJ (iK _ _));exact Wx (v:=fM (cR 0 (wrap64 (x*y)) []) 0) ly rfl ⟨⟨_,rl,ns⟩,lj⟩
 rw[dy p]at hr;have u:((bs a).toList==[42])=WD:=G_;clear p;by_cases m:a=[60];rw[ec m]at hr;have t:((bs a).toList==[60])=W1:=G_;have o:((bs a).toList==[60,61])=WD:=G_;have f:((bs a).toList==[47])=WD:=G_;by_cases D:x<y;have i:decide (x<y)=W1:=(by grind);rw[i]at hr;have HP:=O hr;clear b hr m;exact UG;have i:decide (x<y)=WD:=(by grind);rw[i]at hr;have HP:=O hr;clear b hr m;exact TW;rw[dy m]at hr;have t:((bs a).toList==[60])=WD:=G_;clear m;by_cases n:a=[60,61];rw[ec n]at hr;have o:((bs a).toList==[60,61])=W1:=G_;have f:((bs a).toList==[47])=WD:=G_;by_cases D:x<=y;have i:decide (x<=y)=W1:=(by grind);rw[i]at hr;have HP:=O hr;clear b hr n;exact UG;have i:decide (x<=y)=WD:=(by grind);rw[i]at hr;have HP:=O hr;clear b hr n;exact TW;rw[dy n]at hr;have o:((bs a).toList==[60,61])=WD:=G_;clear n;by_cases e:y=0
 .rw[ec e]at hr;have B:(y==0)=W1:=G_;have HP:=O hr;clear b hr e;go_in;go_wp2;exact Wx (v:=fM (cR 0 0 []) 3) (by simp[results,results237,go_sem];rfl) rfl ⟨⟨_,rl,oh⟩,lj⟩
 rw[dy e]at hr;have B:(y==0)=WD:=G_;have E:=e;by_cases j:y=-1
 .have C:(y==-1)=W1:=G_;by_cases c:a=[47];.rw[ec c]at hr;have f:((bs a).toList==[47])=W1:=G_;rw[zK,j,Int.tdiv_neg,Int.tdiv_one]at hr;have HP:=O hr;clear b hr e j c;go_in;go_wp2_with (go_at_call 109;apply mJ (iK _ _));exact Wx (v:=fM (cR 0 (wrap64 (-x)) []) 0) ly rfl ⟨⟨_,rl,ns⟩,lj⟩
  rw[dy c]at hr;have f:((bs a).toList==[47])=WD:=G_;rw[j,Int.tmod_neg,Int.tmod_one]at hr;have HP:=O hr;clear b hr e j c;go_in;go_wp2_with (go_at_call 109;apply mJ (iK _ _));exact Wx (v:=fM (cR 0 0 []) 0) ly rfl ⟨⟨_,rl,by rw[HP];exact RV.num _ _ _ 0⟩,lj⟩
 have C:(y==-1)=WD:=G_;by_cases c:a=[47];.rw[ec c]at hr;have f:((bs a).toList==[47])=W1:=G_;have g:=Ha x y l k e j;rw[CZ _ g.1 g.2]at hr;have HP:=O hr;have ⟨d1,d2⟩:=g;clear b hr e j c;go_in;go_wp2_with (go_at_call 109;apply mJ (iK _ _));exact Wx (v:=fM (cR 0 (x.tdiv y) []) 0) ly rfl ⟨⟨_,rl,ns⟩,lj⟩
 rw[dy c]at hr;have f:((bs a).toList==[47])=WD:=G_;have g:=UZ x y l k;rw[CZ _ g.1 g.2]at hr;have HP:=O hr;have ⟨d1,d2⟩:=g;clear b hr e j c;go_in;go_wp2_with (go_at_call 109;apply mJ (iK _ _));exact Wx (v:=fM (cR 0 (x.tmod y) []) 0) ly rfl ⟨⟨_,rl,ns⟩,lj⟩
def mL(d:Nat)(F:bL)(w:aN)(xs:List Xa)(l:List aE):Prop:=(aA xs)=aA l*4/\∀i (h:i<aA l),∃kv,xs[i*4]?=Wy (Y l[i].c_)/\xs[i*4+1]?=Wy (Y l[i].n)/\xs[i*4+2]?=Wy (Xm (bs l[i].s))/\xs[i*4+3]?=Wy kv/\LV d F w kv l[i].l
def mL.nil(d:Nat)(F:bL)(w:aN):mL d F w [] []:=(by grind[mL])
def mL.mono{d:Nat}{F G:bL}{w:aN}{a:List Xa}(h:mL d F w a l)(f:∀b,F b->G b)(c:d<=A):mL A G w a l:=(by grind[LV.mono,mL])
def mL.h_{d:Nat}{w w':aN}{a:List Xa}(h:mL d z w a l)(c:∀b,z b->w'.heap[b]?=w.heap[b]?):mL d z w' a l:=(by grind[LV.h_,mL])
def mL.append{b a:List Xa}{m:List aE}(h:mL A z R b l)(k:mL A z R a m):mL A z R (b++a) (l++m):=by refine⟨by grind[mL],λi c=>?_⟩;have f:=h.1;by_cases e:i<aA l;grind[mL];rw[et]at c;have ⟨kv,k0,k1,k2,k3,k4⟩:=k.2 (i-aA l) Z;grind
def mL.one{d:Nat}{F:bL}{w:aN}{a:aE}{b:aX}(h:LV d F w b a.l):mL d F w [Y a.c_,Y a.n,Xm (bs a.s),b] [a]:=(by grind[mL])
def mL.A1{a:List Xa}(h:mL A z R a l):∀u∈a,u.oneCell'=W1:=by intro u e;obtain⟨j,b,rfl⟩:=kg.1 e;have i:=h.1;have ⟨kv,k0,k1,k2,k3,k4⟩:=h.2 (j/4) Z;have ⟨x,c,hkv⟩:=k4.slice;have hx:=ey b;generalize a[j]=u at*;by_cases f:j%4=0;rw[show j=j/4*4 by omega,k0]at hx;rw[<-fo hx];rfl;by_cases g:j%4=1;rw[show j=j/4*4+1 by omega,k1]at hx;rw[<-fo hx];rfl;by_cases k:j%4=2;rw[show j=j/4*4+2 by omega,k2]at hx;rw[<-fo hx];rfl;rw[show j=j/4*4+3 by omega,k3,hkv]at hx;rw[<-fo hx];rfl
def LV.row{f:Addr}{n:Nat}(h:LV A z R (Xl (Wy f) n V) l):n=aA l/\∃k,mL A z R k l/\∀j u,k[j]?=Wy u->I_ R (f.add j)=Wy u:=by cases A with|zero=>grind[LV]|succ A=>rcases h with ⟨rfl,a⟩|⟨g,o,m,b,e,a,q,t,r,p⟩;cases a;cases a;refine⟨aJ,(b.toList.drop o).take (aA l*4),⟨?_,λi v=>?_⟩,λj u s=>?_⟩;rw[ia,jq];rcases jv (aA l) with e|e;exact Z;have ⟨kv,_,_,_,k3,_⟩:=p (aA l-1) Z;grind;grind[LV.mono];grind[Addr.add,World.cell?]
def LV.ofRow{F:bL}{b_:Nat}{xs:List Xa}(h:R.ownsRow b_ 132 4 T (aA l) xs)(p:mL A F R xs l)(f:∀g,T.ownBlock=Wy g->F g)(r:l=[]->T=bP):LV (A+1) F R T l:=by by_cases a:l=[];grind[LV];rcases h.2 with ⟨rfl,k⟩|⟨g,b,c,rfl,n,e,j,m,o,s⟩;grind;refine dz ⟨g,0,b,c,a,aJ,j,f g aJ,e,λi q=>?_⟩;grind[mL]
def Grow(F:bL)(w w':aN)(b:Nat):Prop:=F b\/(w.heap.size<=b/\b<w'.heap.size)
def Grow.wg{a:aN}(h:z A):Grow z R a A:=ea h
def Grow.lt{F:bL}{w w':aN}(c:∀b,F b->b<w.heap.size)(a:w.heap.size<=w'.heap.size):∀b,Grow F w w' b->b<w'.heap.size:=(by grind[Grow])
def RX(F:bL)(w:aN)(v:aX)(a:aE):Prop:=∃d,RV d F w v a
def RX.h_{w w':aN}{v:aX}{a:aE}(h:RX z w v a)(c:∀b,z b->w'.heap[b]?=w.heap[b]?):RX z w' v a:=by have ⟨d,h⟩:=h;exact⟨d,h.h_ c⟩
def RX.mono{F G:bL}{w:aN}{v:aX}{a:aE}(h:RX F w v a)(c:∀b,F b->G b):RX G w v a:=by have ⟨d,h⟩:=h;exact⟨d,h.mono c (Z)⟩
def CO(F:bL)(w:aN)(r:aE×Nat)(e:Ending)(w':aN):Prop:=(∃u,e=bR (fM u r.2)/\RX (Grow F w w') w' u r.1)/\R_ w w'
def s6.Ka{r:aE×Nat}{e:Ending}{a:aN}(h:s6 A z R r e a):CO z R r e a:=by have ⟨⟨u,h1,h2⟩,h3⟩:=h;exact⟨⟨u,h1,A,(by grind[RV.mono,Grow])⟩,h3⟩
def b9:(prog.info? 132).map (λi=>(i.zero,i.size,i.bytes))=Wy (Wy (Xn #[Xs .i64 0,Xs .i64 0,Xm (bs []),Xl Wz 0 0]),4,56):=k_
def xG{q:Array Oper}{g:List Oper}{o:Oper}{a:Act}{Q:Exit->Act->Xb->Prop}(n:o.guard=Wz)(s x:Operand) (B:o.op=.call {callee:=.builtin .append,args:=#[s,x],argTypes:=#[130,130]}) (e:Nat) (v:Xa) (l m:List aE) (k:List Xa) (d:Nat) (F:Nat->Prop) (D:a.eval s=v) (f:M.ownsRow e 132 4 v (aA l) k) (I:mL d F M k l) (C:Xa) (E:a.eval x=C) (y:LV d F M C m) (K:∀b,F b->b<M.heap.size/\v.ownBlock≠Wy b) (A:aA l+aA m<=1000000000) (i:e<=M.heap.size) (L:l=[]->v=Xl Wz 0 0) (h:∀p j r,j.ownsRow e 132 4 p (aA (l++m)) r->mL d F j r (l++m)->M.grownBy j v.ownBlock->(l++m=[]->p=Xl Wz 0 0)->wpList Xi q Q g (a.put o.dst p) j):wpList Xi q Q (o::g) a M:=by have ⟨i0,hi,hii⟩:=ko.1 b9;have hz0:=(gi hii).1;have hz1:=(gi (gi hii).2).1;have hz2:=(gi (gi hii).2).2;obtain⟨J,c,rfl⟩:=y.slice;cases J with|none=>obtain⟨t,rfl,rfl⟩:=y.Ex;apply wpList_append_own_none n s x 130 B e 132 i0 4 underlying130 hi v (aA l) k D f E;exact h v M k G_ G_ ⟨rfl,rfl,rfl,o_,s_⟩ (G_)|some H=>have ⟨t,r,hy,hc⟩:=y.row;refine wpList_append_own _ n s x 130 B e 132 i0 _ 4 56 underlying130 hi hz0 hz1 hz2 rfl d_ v (aA l) k D f H (aA m) c r E hy.1 hc hy.A1 (by unfold maxLen;omega) o_ i ?_;intro p j u G z;exact h p j (k++r) G_ ((I.append hy).h_ nt) G (G_)
theorem Below.vf{a:Xb}(h:Below A M a)(g:A<=V)(f e d c:Xa):Below A M (c9 (c9 (c9 (c9 a ⟨V,0,Wz⟩ f) ⟨V,1,Wz⟩ e) ⟨V,2,Wz⟩ d) ⟨V,3,Wz⟩ c):=(by grind[Below.setCell])
theorem bI(w:Xb)(o:Obj)(h:A=w.heap.size):(w.alloc o).heap[A]?=Wy o:=by subst h;show (w.heap.push o)[w.heap.size]?=_;simp
def kQ{w:Xb}{b:Nat}{d a:Xa}(h:w.heap[b]?=Wy (Xt #[n,d,p,a] o (0,0))):b<w.heap.size/\I_ w ⟨b,0,Wz⟩=Wy n/\I_ w ⟨b,1,Wz⟩=Wy d/\I_ w ⟨b,2,Wz⟩=Wy p/\I_ w ⟨b,3,Wz⟩=Wy a/\w.frozen? ⟨b,0,Wz⟩=WD/\w.frozen? ⟨b,1,Wz⟩=WD/\w.frozen? ⟨b,2,Wz⟩=WD/\w.frozen? ⟨b,3,Wz⟩=WD:=(by grind[aB,aF])
theorem dF(w:Xb)(h:V≠A)(e d c a:Xa):(c9 (c9 (c9 (c9 w ⟨A,0,Wz⟩ e) ⟨A,1,Wz⟩ d) ⟨A,2,Wz⟩ c) ⟨A,3,Wz⟩ a).heap[V]?=w.heap[V]?:=by grind[ej]
def rA{u2 u3:Xa}(h:M.heap[A]?=Wy (Xt #[n,p,u2,u3] o (0,0)))(e d c a:Xa):(c9 (c9 (c9 (c9 M ⟨A,0,Wz⟩ e) ⟨A,1,Wz⟩ d) ⟨A,2,Wz⟩ c) ⟨A,3,Wz⟩ a).heap[A]?=Wy (Xt #[e,d,c,a] o (0,0)):=by have k:=aP (i:=0) (u:=e) h;have j:=aP (i:=1) (u:=d) k;have g:=aP (i:=2) (u:=c) j;have l:=aP (i:=3) (u:=a) g;exact l
def QQ{F:Nat->Prop}(h:RX F M n m)(g:RX F M p b):∃d e c,n=Xn #[Xs .i64 m.c_,Xs .i64 m.n,Xm (bs m.s),e]/\p=Xn #[Xs .i64 b.c_,Xs .i64 b.n,Xm (bs b.s),c]/\LV d F M e m.l/\LV d F M c b.l:=by obtain⟨i,e,rfl,k⟩:=h;obtain⟨f,c,rfl,j⟩:=g;exact⟨i+f,e,c,rfl,rfl,(by grind[LV.mono]),(by grind[LV.mono])⟩
def UN(F:Nat->Prop)(u v:Xa)(a b:aE)(w:Xb)(h:RX F w u a)(h':RX F w v b)(hF:∀b,F b->b<w.heap.size)(bh:aK a<=1000000)(bt:aK b<=1000000):W_ Xi 238 #[u,v] w (CO F w (fZ a b)):=by
 obtain⟨d,lv,bo,rfl,rfl,hl,ae⟩:=QQ h h';clear h h';obtain⟨x,c,rfl⟩:=hl.slice;obtain⟨G,E,rfl⟩:=ae.slice;have aq:=dE a;have N:=dE b;have bb:=jK a.l;have bf:=jK b.l;have bp:aA a.s<=1000000:=o_;have bq:aA b.s<=1000000:=o_;have bd:aA a.l+aA b.l<=1000000000:=o_;have q5:=nE a.s b.s;have bi:=iS;by_cases h3:a.c_=3
 .have e3:((a.c_:Int)==3)=W1:=by simp[h3]
  have p:Hid (fZ a b=if 200<aK (bG (a.l++b.l))then (aZ,6)else (bG (a.l++b.l),0)):=by show _=_;grind[fZ]
  have I:Hid (Below w.heap.size w (i9 (i9 (i9 (i9 (i9 w (Xt #[Xs .i64 a.c_,Xs .i64 a.n,Xm (bs a.s),Xl x (aA a.l) c] 132)) (Xt #[Xs .i64 b.c_,Xs .i64 b.n,Xm (bs b.s),Xl G (aA b.l) E] 132)) (Xt #[Xs .i64 0,Xs .i64 0,Xm ⟨#[]⟩,Xl Wz 0 0] 132)) (Xt #[Xs .i64 2,Xs .i64 0,Xm (bs (a.s++b.s)),Xl Wz 0 0] 132)) (Xt #[Xs .i64 2,Xs .i64 0,Xm (bs (a.s++b.s)),Xl Wz 0 0] 132))):=by show Below _ _ _;go_grown
  have ah:LV d F (i9 (i9 (i9 (i9 (i9 w (Xt #[Xs .i64 a.c_,Xs .i64 a.n,Xm (bs a.s),Xl x (aA a.l) c] 132)) (Xt #[Xs .i64 b.c_,Xs .i64 b.n,Xm (bs b.s),Xl G (aA b.l) E] 132)) (Xt #[Xs .i64 0,Xs .i64 0,Xm ⟨#[]⟩,Xl Wz 0 0] 132)) (Xt #[Xs .i64 2,Xs .i64 0,Xm (bs (a.s++b.s)),Xl Wz 0 0] 132)) (Xt #[Xs .i64 2,Xs .i64 0,Xm (bs (a.s++b.s)),Xl Wz 0 0] 132)) (Xl x (aA a.l) c) a.l:=(by grind[LV.h_,ef,dw]);have M:LV d F (i9 (i9 (i9 (i9 (i9 w (Xt #[Xs .i64 a.c_,Xs .i64 a.n,Xm (bs a.s),Xl x (aA a.l) c] 132)) (Xt #[Xs .i64 b.c_,Xs .i64 b.n,Xm (bs b.s),Xl G (aA b.l) E] 132)) (Xt #[Xs .i64 0,Xs .i64 0,Xm ⟨#[]⟩,Xl Wz 0 0] 132)) (Xt #[Xs .i64 2,Xs .i64 0,Xm (bs (a.s++b.s)),Xl Wz 0 0] 132)) (Xt #[Xs .i64 2,Xs .i64 0,Xm (bs (a.s++b.s)),Xl Wz 0 0] 132)) (Xl G (aA b.l) E) b.l:=(by grind[LV.h_,ef,dw]);have aa:aK (bG (a.l++b.l))=1+((a.l.map aK).sum+(b.l.map aK).sum):=by rw[dE];simp[bG]
  have L:aK (bG (a.l++b.l))<=1000000000:=o_;have ak:=O ah;have S:=O M;have HF:=O hF;clear hl ae aq N hF aa h3 ah M;have ⟨k,hk0⟩:∃k,aK (bG (a.l++b.l))=k:=(by simp);rw[hk0]at L p;have HK:=O hk0;clear hk0;generalize fZ a b=r at*;go_enter func238,ntmps238;have aj:∀q,F q->q<(i9 (i9 (i9 (i9 (i9 w (Xt #[Xs .i64 a.c_,Xs .i64 a.n,Xm (bs a.s),Xl x (aA a.l) c] 132)) (Xt #[Xs .i64 b.c_,Xs .i64 b.n,Xm (bs b.s),Xl G (aA b.l) E] 132)) (Xt #[Xs .i64 0,Xs .i64 0,Xm ⟨#[]⟩,Xl Wz 0 0] 132)) (Xt #[Xs .i64 2,Xs .i64 0,Xm (bs (a.s++b.s)),Xl Wz 0 0] 132)) (Xt #[Xs .i64 2,Xs .i64 0,Xm (bs (a.s++b.s)),Xl Wz 0 0] 132)).heap.size/\(Value.slice Wz 0 0).ownBlock≠Wy q:=λq f=>⟨eh (HF.out q f) I.out.size,od⟩;have ad:=O aj;clear aj;go_wp2_with (first|(go_at_call 132;apply (AQ _ _).mono;rintro e D ⟨rfl,rfl⟩)|(at_builtin;apply xG r_ _ _ r_ (i9 (i9 (i9 (i9 (i9 w (Xt #[Xs .i64 a.c_,Xs .i64 a.n,Xm (bs a.s),Xl x (aA a.l) c] 132)) (Xt #[Xs .i64 b.c_,Xs .i64 b.n,Xm (bs b.s),Xl G (aA b.l) E] 132)) (Xt #[Xs .i64 0,Xs .i64 0,Xm ⟨#[]⟩,Xl Wz 0 0] 132)) (Xt #[Xs .i64 2,Xs .i64 0,Xm (bs (a.s++b.s)),Xl Wz 0 0] 132)) (Xt #[Xs .i64 2,Xs .i64 0,Xm (bs (a.s++b.s)),Xl Wz 0 0] 132)).heap.size (Xl Wz 0 0) [] a.l [] d F r_ (World.ownsRow_nil _ _ _ _) (mL.nil _ _ _) _ r_ ak.out ad.out G_ (o_) (s_)));intro v1 w2 ay j B y Q;have ap:=O Q;clear Q;have z:Below (i9 (i9 (i9 (i9 (i9 w (Xt #[Xs .i64 a.c_,Xs .i64 a.n,Xm (bs a.s),Xl x (aA a.l) c] 132)) (Xt #[Xs .i64 b.c_,Xs .i64 b.n,Xm (bs b.s),Xl G (aA b.l) E] 132)) (Xt #[Xs .i64 0,Xs .i64 0,Xm ⟨#[]⟩,Xl Wz 0 0] 132)) (Xt #[Xs .i64 2,Xs .i64 0,Xm (bs (a.s++b.s)),Xl Wz 0 0] 132)) (Xt #[Xs .i64 2,Xs .i64 0,Xm (bs (a.s++b.s)),Xl Wz 0 0] 132)).heap.size (i9 (i9 (i9 (i9 (i9 w (Xt #[Xs .i64 a.c_,Xs .i64 a.n,Xm (bs a.s),Xl x (aA a.l) c] 132)) (Xt #[Xs .i64 b.c_,Xs .i64 b.n,Xm (bs b.s),Xl G (aA b.l) E] 132)) (Xt #[Xs .i64 0,Xs .i64 0,Xm ⟨#[]⟩,Xl Wz 0 0] 132)) (Xt #[Xs .i64 2,Xs .i64 0,Xm (bs (a.s++b.s)),Xl Wz 0 0] 132)) (Xt #[Xs .i64 2,Xs .i64 0,Xm (bs (a.s++b.s)),Xl Wz 0 0] 132)) w2:=⟨y.os,y.tape,y.output,y.size,(by grind[World.grownBy.block,Value.ownBlock])⟩;have ⟨hc2,hf2⟩:=wi z;have ba:=z.size;have P:=O (S.out.h_ λq f=>z.block q (ad.out q f).1);have ao:Hid (∀q,F q->q<w2.heap.size/\v1.ownBlock≠Wy q):=λq f=>⟨ng,λe=>by have h1:=bX j q e;grind[dw]⟩;have HOWN:=O j;have HROW:=O B;have H:=O z;have an:w.heap.size+1+1+1+1+1<=w2.heap.size:=by simpa using ba
  clear j B y z ak S ad;go_wp2_with (at_builtin;apply xG r_ _ _ r_ (w.heap.size+1+1+1+1+1) v1 a.l b.l ay d F r_ HOWN.out HROW.out _ r_ P.out ao.out bd an ap.out);intro v2 o bm i A n ai;have ab:Below (w.heap.size+1+1+1+1+1) w2 o:=⟨n.os,n.tape,n.output,n.size,λk m=>n.block k o_ λe=>by have h1:=bX HOWN.out k e.symm;omega⟩;have T:∀k,k<w.heap.size+1+1+1+1+1->o.heap[k]?=(i9 (i9 (i9 (i9 (i9 w (Xt #[Xs .i64 a.c_,Xs .i64 a.n,Xm (bs a.s),Xl x (aA a.l) c] 132)) (Xt #[Xs .i64 b.c_,Xs .i64 b.n,Xm (bs b.s),Xl G (aA b.l) E] 132)) (Xt #[Xs .i64 0,Xs .i64 0,Xm ⟨#[]⟩,Xl Wz 0 0] 132)) (Xt #[Xs .i64 2,Xs .i64 0,Xm (bs (a.s++b.s)),Xl Wz 0 0] 132)) (Xt #[Xs .i64 2,Xs .i64 0,Xm (bs (a.s++b.s)),Xl Wz 0 0] 132)).heap[k]?:=λk m=>(ab.block k m).trans (H.out.block k (by simpa using m));have ac:=(T (w.heap.size+1+1+1+1) o_).trans (bI _ _ s_);have V:=(T (w.heap.size+1+1) o_).trans ((ed _ _ _ s_).trans ((ed _ _ _ s_).trans (bI _ _ s_)));have ⟨g4,a40,a41,a42,a43,z40,z41,z42,z43⟩:=kQ ac;have ⟨g2,a20,a21,a22,a23,z20,z21,z22,z23⟩:=kQ V;have ax:=O ac;have av:=O V;clear ac V;have bc:¬w.heap.size+1+1+1+1=o.heap.size:=o_;have be:¬w.heap.size+1+1=o.heap.size:=o_;have bl:w.heap.size+1+1+1+1+1<=o.heap.size:=(by omega);have ag:aA (a.l++b.l)=aA a.l+aA b.l:=et;have af:LV (d+1) (λq=>F q\/v2.ownBlock=Wy q) o v2 (a.l++b.l):=LV.ofRow (by rw[ag];exact i) (A.mono (G_) (o_)) (G_) G_;clear ai;obtain⟨t,s,rfl⟩:=af.slice;have ar:∀q,(F q\/(Value.slice t (aA (a.l++b.l)) s).ownBlock=Wy q)->q≠w.heap.size+1+1+1+1/\q≠w.heap.size+1+1/\q<o.heap.size:=λq f=>by rcases f with f|f;have:=HF.out q f;omega;have h1:=bX i q f;refine⟨o_,o_,?_⟩;rcases i.2 with ⟨e,_⟩|⟨g,bu,bj,e,_,e2,_⟩;rw[e]at f;cases f;rw[e]at f;obtain rfl:g=q:=fo f;grind
  have au:=O af;have aw:=O (bX i);have J:=O ar;have az:=O (I.out.trans ((H.out.trans (ab.mono s_)).mono I.out.size));clear i A n ab af ar ag P ao HOWN HROW H hc2 hf2 T;generalize (aA (a.l++b.l))=C at*;go_wp2_with (go_at_call 184;apply (DD _ _ _ _).mono;rintro e D ⟨rfl,rfl⟩);have X:∀q,(F q\/(Value.slice t C s).ownBlock=Wy q)->(i9 (c9 (c9 (c9 (c9 o ⟨w.heap.size+1+1+1+1,0,Wz⟩ (Xs .i64 3)) ⟨w.heap.size+1+1+1+1,1,Wz⟩ (Xs .i64 0)) ⟨w.heap.size+1+1+1+1,2,Wz⟩ (Xm (bs []))) ⟨w.heap.size+1+1+1+1,3,Wz⟩ (Xl t C s)) (Xt #[Xs .i64 3,Xs .i64 0,Xm (bs []),Xl t C s] 132)).heap[q]?=o.heap[q]?:=(by grind[dw,ed,dF]);have HX:=O (tY (d+1) (λq=>F q\/(Value.slice t C s).ownBlock=Wy q) (Xn #[Xs .i64 3,Xs .i64 0,Xm (bs []),Xl t C s]) (bG (a.l++b.l)) (i9 (c9 (c9 (c9 (c9 o ⟨w.heap.size+1+1+1+1,0,Wz⟩ (Xs .i64 3)) ⟨w.heap.size+1+1+1+1,1,Wz⟩ (Xs .i64 0)) ⟨w.heap.size+1+1+1+1,2,Wz⟩ (Xm (bs []))) ⟨w.heap.size+1+1+1+1,3,Wz⟩ (Xl t C s)) (Xt #[Xs .i64 3,Xs .i64 0,Xm (bs []),Xl t C s] 132)) ⟨_,rfl,au.out.h_ X⟩ (λq f=>by have h1:=J.out q f;grind) (by rw[HK.out];exact L));have W:Hid (Below w.heap.size w (i9 (c9 (c9 (c9 (c9 o ⟨w.heap.size+1+1+1+1,0,Wz⟩ (Xs .i64 3)) ⟨w.heap.size+1+1+1+1,1,Wz⟩ (Xs .i64 0)) ⟨w.heap.size+1+1+1+1,2,Wz⟩ (Xm (bs []))) ⟨w.heap.size+1+1+1+1,3,Wz⟩ (Xl t C s)) (Xt #[Xs .i64 3,Xs .i64 0,Xm (bs []),Xl t C s] 132))):=by show Below _ _ _;exact(Below.vf az.out o_ _ _ _ _).alloc t_ _
  apply HX.out.mono;rintro e w7 ⟨rfl,l⟩;have b4:=l.block (w.heap.size+1+1+1+1) t_;rw[ed _ _ _ t_,rA ax.out]at b4;have b2:=l.block (w.heap.size+1+1) t_;rw[ed _ _ _ t_,dF _ o_,av.out]at b2;have al:=O ((au.out.h_ X).h_ λq f=>l.block q (by have h1:=J.out q f;grind));have bg:o.heap.size<=w7.heap.size:=by have h3:=l.size;simp at h3;omega
  have am:=O (W.out.trans (l.mono W.out.size));have bn:=l.size;clear l a40 a41 a42 a43 z40 z41 z42 z43 a20 a21 a22 a23 z20 z21 z22 z23 g4 g2 bc be X HX W;have ⟨g4,a40,a41,a42,a43,z40,z41,z42,z43⟩:=kQ b4;have ⟨g2,a20,a21,a22,a23,z20,z21,z22,z23⟩:=kQ b2;have H:=O b2;clear b4 b2;rw[HK.out];by_cases m:200<k;.have ek:decide ((200:Int)<(k:Int))=W1:=(by grind);rw[ec m]at p;clear m;go_wp21;exact Wx (v:=fM (cR 0 0 []) 6) (by simp[results,results238,go_sem,a20,a21,a22,a23];rfl) rfl ⟨⟨_,by rw[p.out],0,by rw[p.out];exact RV.nil _ _ _⟩,Below.vf am.out o_ _ _ _ _⟩
  .have ek:decide ((200:Int)<(k:Int))=WD:=(by grind);rw[dy m]at p;clear m;go_wp21;refine Wx (v:=fM (Xn #[Xs .i64 3,Xs .i64 0,Xm (bs []),Xl t C s]) 0) (by simp[results,results238,go_sem,a20,a21,a22,a23]) rfl ⟨⟨_,by rw[p.out],d+1,?_⟩,Below.vf am.out o_ _ _ _ _⟩;rw[p.out];refine⟨_,rfl,LV.mono (λq f=>?_) (al.out.h_ λq f=>dF _ (J.out q f).2.1 _ _ _ _) (o_)⟩;rcases f with f|f;exact ea f;have h1:=J.out q (dz f);have h2:=aw.out q f;exact dz ⟨o_,t_⟩
 .have e3:((a.c_:Int)==3)=WD:=G_;have aa:aK (bS (a.s++b.s))=1+aA (a.s++b.s):=by rw[dE];simp[bS]
  have L:aK (bS (a.s++b.s))<=1000000000:=G_;have HX:Hid (∀D,W_ Xi 185 #[cR 2 0 (a.s++b.s)] D λe w'=>e=.returned (Xs .i64 (aK (bS (a.s++b.s))))/\Below D.heap.size D w'):=λD=>tY 0 (λ_=>False) _ _ D (RV.str 0 _ D _) (s_) L;have p:Hid (fZ a b=if 200<aK (bS (a.s++b.s))then (aZ,6)else (bS (a.s++b.s),0)):=by show _=_;grind[fZ]
  clear hl ae aq N hF aa h3 bb bf;generalize aK (bS (a.s++b.s))=k at*;generalize fZ a b=r at*;go_enter func238,ntmps238;go_wp2_with (go_at_call 132;refine(AQ _ _).mono ?_;rintro e D ⟨rfl,rfl⟩);apply (HX.out _).mono;rintro e D ⟨rfl,K⟩;have ⟨hc1,hf1⟩:=wi K;have hz:=K.size;have br:=O K;have I:Hid (Below w.heap.size w (i9 (i9 (i9 (i9 (i9 w (Xt #[Xs .i64 a.c_,Xs .i64 a.n,Xm (bs a.s),Xl x (aA a.l) c] 132)) (Xt #[Xs .i64 b.c_,Xs .i64 b.n,Xm (bs b.s),Xl G (aA b.l) E] 132)) (Xt #[Xs .i64 0,Xs .i64 0,Xm ⟨#[]⟩,Xl Wz 0 0] 132)) (Xt #[Xs .i64 2,Xs .i64 0,Xm (bs (a.s++b.s)),Xl Wz 0 0] 132)) (Xt #[Xs .i64 2,Xs .i64 0,Xm (bs (a.s++b.s)),Xl Wz 0 0] 132))):=by show Below _ _ _;go_grown
  clear K;by_cases m:200<k;.have ek:decide ((200:Int)<(k:Int))=W1:=(by grind);rw[ec m]at p;clear m;go_wp21;exact Wx (v:=fM (cR 0 0 []) 6) (by simp[results,results238,go_sem,hc1];rfl) rfl ⟨⟨_,by rw[p.out],0,oh⟩,ow⟩
  .have ek:decide ((200:Int)<(k:Int))=WD:=(by grind);rw[dy m]at p;clear m;go_wp21;exact Wx (v:=fM (cR 2 0 (a.s++b.s)) 0) (by simp[results,results238,go_sem,hc1]) rfl ⟨⟨_,by rw[p.out],0,by grind[dw,RV.str]⟩,ow⟩
