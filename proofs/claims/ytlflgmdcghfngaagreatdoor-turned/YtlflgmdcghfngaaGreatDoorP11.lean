/- Contracts of the program: an expression is read. -/
import Derived.Test.YtlflgmdcghfngaaGreatDoorB05
import Derived.Test.YtlflgmdcghfngaaGreatDoorP10
set_option linter.defProp false
set_option maxRecDepth 100000
set_option maxHeartbeats 4000000
namespace Go.Proofs.YtlflgmdcghfngaaGreatDoor
open Hs
open _root_.Go.Proofs.Tryz
open Go.RowKit
variable{c:Array Value}{b:Nat}{τ:Type}{T:TypeId}{W:aG}
def iQ(l:cC):Except (Nat × Nat) aE:=
 match qH l with
 |.error f=>.error f
 |.ok ts=>
  match eM ts (ts.length+1) 0 with
  |.error n=>.error (4,n)
  |.ok (a,q)=>if (aT ts q).sort=101 then .ok a else .error (4,(aT ts q).l_)
def x9(C:Ctx)(w:aG)(p:Nat)(h:PAt C w p):
 Calls prog 81 #[aZ C.pb] w λe m=>Below w.heap.size w m/\(((aT C.ts p).sort=101/\e=aX (.tuple #[]))\/((aT C.ts p).sort≠101/\e=cU 4 (aT C.ts p).l_)):=by
 have g:=aB (mL C w p h);simp only[oX] at g;have d:=LN (h.tsk.tk p h.lt);have a:=aB d;clear h d;generalize aT C.ts p=t at*;generalize psort t.sort=k at*;generalize pval t=o at*;by_cases b:t.sort=101
 ·obtain rfl:k=4:=a.2 b;have i:=aB b;clear b a;go_in
  go_wp2_with fail;refine g.mono ?_;rintro e l ⟨rfl,c⟩;have f:=aB c;clear c g;go_wp2
  go_end0;exact⟨f.trans (((eh _ _).alloc cL _).mono f.size),d7 ⟨i,rfl⟩⟩
 ·have n:((k:Int) != 4)=true:=by simp;intro e;exact b (a.1 o_)
  have i:=aB b;clear b a;go_in
  go_wp2_with fail;refine g.mono ?_;rintro e l ⟨rfl,c⟩;have f:=aB c;clear c g;have j:=aB λW=>gW 4 t.l_ W
  go_wp2_with fail;refine(j _).mono ?_;rintro e q ⟨rfl,rfl⟩;clear j;go_wp2_with fail;exact⟨rfl,f.trans (((eh _ _).alloc cL _).mono f.size),d6 ⟨i,rfl⟩⟩
def M2(l:cC)(w:aG)(e:Ending)(w':aG):Prop:=
 Below w.heap.size w w'/\match iQ l with
  |.ok a=>∃v,e=aX v/\PN (Btw w.heap.size w'.heap.size) w' v a
  |.error f=>f.1≠0/\e=cU f.1 f.2
def M1(u:ByteArray)(w:aG)(X:fX w)(hs:u.size<=maxLen):
 Calls prog 50 #[.string u] w (M2 u.data.toList w):=by
 have C:=aB (xE u w X hs);obtain⟨l,Z⟩:=E_ (u.data.toList);rw[<-Z] at C ⊢
 clear Z X;go_in
 go_wp2_with fail;refine C.mono ?_;rintro e G ⟨B,A⟩;cases d:qH l with
 |error f=>
  rw[d] at A;obtain rfl:e=cU f.1 f.2:=A;have J:Hid (iQ l=.error f):=by show _=_;unfold iQ;rw[d]
  have HK:=aB (LC d);have s:=aB B;clear B C d;go_wp2_with fail;exact⟨rfl,s,by rw[J.out];exact⟨HK,rfl⟩⟩
 |ok h=>
  rw[d] at A;obtain⟨v,rfl,D⟩:=A;have H:=(DE d).1;have Y:=(DE d).2;have c:=mT H
  have z:Hid (iQ l=match eM h (h.length+1) 0 with
   |.error n=>.error (4,n)
   |.ok (a,q)=>if (aT h q).sort=101 then .ok a else .error (4,(aT h q).l_)):=by show _=_;unfold iQ;rw[d]
  obtain⟨g,y,T,rfl,hg,Q,t,E⟩:=v7 D c.1.some_;have V:=aC t
  have O:PAt ⟨G.heap.size,g,y,h⟩ (G.alloc (.cells #[.slice (some (aH g 0)) h.length y,I_ 0] 107)) 0:=
   ⟨aN _ _ rfl _,⟨T,eB _ _ V _ t,E⟩,by show g≠G.heap.size;omega,c.1.some_,by show h.length<=3000;omega,Q,c.1,AD H⟩
  have F:=c.1.ok.exprs 0 c.1.some_
  have S:=aB (zH ⟨G.heap.size,g,y,h⟩ (h.length+1) (G.alloc (.cells #[.slice (some (aH g 0)) h.length y,I_ 0] 107)) 0 O (λe=>by
   have e:eM h (h.length+1) 0=.error 0:=e;exact F.ne e))
  have s:=aB B;clear D B C d H O t E c F;go_wp2_with fail;refine S.mono ?_;rintro e W ⟨i,o⟩;have N:Below G.heap.size G W:=⟨i.os.trans rfl,i.tape.trans rfl,i.output.trans rfl,em s_ i.size,λk hk=>by rw[i.block k t_ (by show k≠G.heap.size;omega)];exact ek _ _ _ hk⟩
  have p:=aB (s.trans (N.mono s.size));simp only at o;cases j:eM h (h.length+1) 0 with
  |error n=>
   rw[j] at o;obtain rfl:e=cU 4 n:=o;have J:Hid (iQ l=.error (4,n)):=by show _=_;rw[z.out,j]
   clear i N S j z;go_wp2_with fail;exact⟨rfl,p,by rw[J.out];exact⟨s_,rfl⟩⟩
  |ok aq=>
   obtain⟨a,q⟩:=aq;rw[j] at o;obtain⟨P,v3,rfl,L⟩:=o;obtain⟨t3,z3,rfl⟩:=L.form;have x:Hid (iQ l=if (aT h q).sort=101 then .ok a else .error (4,(aT h q).l_)):=by show _=_;rw[z.out,j]
   have K:=aB (x9 _ W q P);have I:=aB L;have aa:=s.size;clear i N S j z P L;go_wp2_with fail;refine K.mono ?_;rintro e w4 ⟨m,⟨r,rfl⟩|⟨r,rfl⟩⟩
   ·have J:Hid (iQ l=.ok a):=by show _=_;rw[x.out];exact if_pos r
    have U:=aB (PN.grow (lo':=w.heap.size) (hi':=w4.heap.size) I (λb _ hb=>m.block b hb) t_ m.size)
    have M:=aB (p.trans (m.mono p.size));clear m r K x I;go_wp2
    go_ret;exact⟨M,by rw[J.out];exact⟨_,rfl,U⟩⟩
   ·have J:Hid (iQ l=.error (4,(aT h q).l_)):=by show _=_;rw[x.out];exact if_neg r
    have M:=aB (p.trans (m.mono p.size));clear m r K x I;go_wp2_with fail;exact⟨rfl,M,by rw[J.out];exact⟨s_,rfl⟩⟩
def Rx1(l:cC)(p:Nat)(w:aG)(w':aG):Prop:=
 ∃w1 v a,iQ l=.ok a/\Below w.heap.size w w1/\PN (Btw w.heap.size w1.heap.size) w1 v a/\w'=w1.setCell (aH p 0) v
def bv_(c:ByteArray)(b p:Nat)(w:aG)(u:fX w)(z:c.size<=maxLen)(A:w.cell? (aH b 0)=some (.string c))(n:w.heap[p]?=some (.cells #[.nilIface] 67 (0,0))):
 Calls prog 49 #[aZ b,aZ p] w λe r=>
  (e=aX (.tuple #[])/\Rx1 c.data.toList p w r)\/
  ∃f,iQ c.data.toList=.error f/\f.1≠0/\e=cU f.1 f.2/\Below w.heap.size w r:=by
 have m:=aB (M1 c w u z);have q:=aB n;have y:=aC n;clear u n;go_in
 go_wp2_with fail;refine m.mono ?_;rintro e l ⟨d,k⟩;cases h:iQ c.data.toList with
 |error f=>
  rw[h] at k;obtain⟨s,rfl⟩:=k;have j:=aB (ff h (ff s d));clear h s d m q;go_wp2_with fail;exact⟨rfl,d6 ⟨f,j.1,j.2.1,rfl,j.2.2⟩⟩
 |ok a=>
  rw[h] at k;obtain⟨v,rfl,o⟩:=k;obtain⟨t,x,rfl⟩:=o.form;have g:l.heap[p]?=some (.cells #[.nilIface] 67 (0,0)):=by rw[d.block _ y];exact q
  have C:=aA g (i:=0) rfl;have B:=aD g (i:=0);have D:=aC g;have j:Hid (Rx1 c.data.toList p w (l.setCell (aH p 0) (.iface t (.agg x)))):=⟨l,_,a,h,d,o,rfl⟩;clear h o d g m q;go_wp2
  go_end0;exact d7 ⟨rfl,j⟩
def XK(t:τ)(D:Nat)(B:τ->Array Value->World->Prop)(Bx:τ->Code->Array Value->World->Prop)(x:Array Value)(W:aG):Exit->Act->World->Prop
 |.normal,_,W'=>(W'.heap[D]?=W.heap[D]?/\W'.heap[D+1]?=W.heap[D+1]?)/\B t x W'
 |.ret,_,W'=>(W'.heap[D]?=W.heap[D]?/\W'.heap[D+1]?=W.heap[D+1]?)/\Bx t .ret x W'
 |.exit id,_,W'=>(W'.heap[D]?=W.heap[D]?/\W'.heap[D+1]?=W.heap[D+1]?)/\Bx t (.exit id) x W'
 |_,_,_=>False
def vT{P:Program}{g:Operand}{ps:Array Tmp}{assign body:Code}{Q:Exit->Act->World->Prop}{a:Act}{w:aG}{gf:Nat}{lb:Array Value}
 (hg:a.eval g=.func (.func gf) #[] lb) (eg:∀args w,(callFunc gf args).run P w=.ok (.enter gf args) w)
 (A B:τ->Array Value->World->Prop) (Ax:τ->Array Value->Act->World->Prop) (Bx:τ->Code->Array Value->World->Prop) (Z:World->Prop) (ab:∀t x W,A t x W->x.size=ps.size)
 (ae:∀t x q W r,Ax t x q W->Ax t x q (W.putObj (w.heap.size+1) (.loop r))) (hB:∀t x W r,B t x W->B t x (W.putObj (w.heap.size+1) (.loop r))) (F:∀t c x W r,Bx t c x W->Bx t c x (W.putObj (w.heap.size+1) (.loop r))) (hZ:∀W r,Z W->Z (W.putObj (w.heap.size+1) (.loop r)))
 (l:∀t x W (K:Act->World->Prop),A t x W->(∀q i,i.heap[w.heap.size]?=W.heap[w.heap.size]?->i.heap[w.heap.size+1]?=W.heap[w.heap.size+1]?->Ax t x q i->K q i)->
   assign.wpIn (Fence.wide.inRound (w.heap.size+1)) 0 P (Exit.then K (λ_ _ _=>False)) { tmps:=(ps.zip x).foldl (λt (p,v)=>t.setIfInBounds p v) a.tmps,defers:=[] } W)
 (z:∀t x q W,Ax t x q W->w.heap.size+1<W.heap.size->body.wpIn (Fence.wide.inRound (w.heap.size+1)) 0 P (XK t w.heap.size B Bx x W) q W)
 (U:∀(R0:Loop) (Rdy:World->Prop) (Don:Code->World->Prop),(∀W i,Rdy W->i.heap[w.heap.size]?=W.heap[w.heap.size]?->i.heap[w.heap.size+1]?=W.heap[w.heap.size+1]?->Rdy i)->(∀W,Rdy W->w.heap.size+1<W.heap.size)->(∀c W i,Don c W->i.heap[w.heap.size]?=W.heap[w.heap.size]?->i.heap[w.heap.size+1]?=W.heap[w.heap.size+1]?->Don c i)->(∀c W,Don c W->w.heap.size+1<W.heap.size)->
   Rdy ((w.alloc (.deferred (some []))).alloc (.loop R0))->
   (∀t x W,A t x W->Rdy W->YieldAt Fence.wide 0 P (w.heap.size+1) x W λe i=>(e=aX (.bool true)/\B t x i/\Rdy i)\/(e=aX (.bool false)/\∃c,Bx t c x i/\Don c i))->
   CallsIn Fence.wide 0 P gf (#[.func (.yield (w.heap.size+1)) #[] #[]]++lb) ((w.alloc (.deferred (some []))).alloc (.loop R0)) λe i=>(∃v,e=aX v)/\((Z i/\Rdy i)\/∃t c x,Bx t c x i/\Don c i))
 (E:∀W,Z W->W.heap[w.heap.size]?=some (.deferred (some []))->w.heap.size+1<W.heap.size->Q .normal { a with defers:={ target:=.collected w.heap.size,args:= #[] }::a.defers } W)
 (H:∀t c x W,Bx t c x W->W.heap[w.heap.size]?=some (.deferred (some []))->w.heap.size+1<W.heap.size->c.wpIn Fence.wide 0 P Q { a with defers:={ target:=.collected w.heap.size,args:= #[] }::a.defers } W):
 (Code.rangeFunc g ps assign body).wpIn Fence.wide 0 P Q a w:=by
 refine wpIn_rangeFunc ?_;intro fn ad;obtain⟨d,f⟩:∃d:LoopState->Option Code->Loop,d=λst pe=>{ state:=st,pending:=pe,fn,tmps:=a.tmps,params:=ps,assign,body,defers:=w.heap.size }:=⟨_,rfl⟩
 obtain⟨G,u⟩:∃G,(w.alloc (.deferred (some []))).alloc (.loop (d .ready none))=G:=⟨_,rfl⟩
 have aa:G.heap[w.heap.size+1]?=some (.loop (d .ready none)):=by
  rw[<-u];have:=World.alloc_heap_new (w.alloc (.deferred (some []))) (.loop (d .ready none));rwa [World.size_alloc] at this
 have Y:G.heap[w.heap.size]?=some (.deferred (some [])):=by
  rw[<-u];exact(ek _ _ _ s_).trans (World.alloc_heap_new w _)
 refine⟨w.heap.size+1,[{ target:=.collected w.heap.size,args:= #[] }],G,{ target:=.fn (.func gf) lb,args:= #[.func (.yield (w.heap.size+1)) #[] #[]] },G,gf,
  #[.func (.yield (w.heap.size+1)) #[] #[]]++lb,G,?_,?_,λ_ _=>trivial,?_,λh=>by simp[Fence.wide] at h,?_⟩
 ·rw[<-u,f];exact run_enterLoop_outer _ _ _ _ _
 ·simp only[resolve,hg];simp[go_sem]
 ·simp[invoke,go_sem,eg]
 ·have hs:=U (d .ready none) (λW=>W.heap[w.heap.size+1]?=some (.loop (d .ready none))/\W.heap[w.heap.size]?=some (.deferred (some [])))
   (λc W=>W.heap[w.heap.size+1]?=some (.loop (d .done (some c)))/\W.heap[w.heap.size]?=some (.deferred (some [])))
   (λW i h L S=>⟨by rw[S];exact h.1,by rw[L];exact h.2⟩) (λW h=>(ie.1 h.1).1) (λc W i h L S=>⟨by rw[S];exact h.1,by rw[L];exact h.2⟩) (λc W h=>(ie.1 h.1).1)
  rw[u] at hs;refine(hs ⟨aa,Y⟩ ?_).mono ?_
  ·rintro t x W N ⟨s,I⟩;have hy:=run_yield (P:=P) (args:=x) s (by rw[f];exact ab t x W N)
   rw[f] at hy;refine⟨fn,_,assign,body,hy,roundIn_of_wpIn ad (l t x W _ N ?_)⟩;clear hy;intro q Wa L S O;rw[<-S] at s;rw[<-L] at I;have k:w.heap.size+1<Wa.heap.size:=(ie.1 s).1;refine⟨_,run_beginRound s (by rw[f]),?_⟩
   have y:(Wa.putObj (w.heap.size+1) (.loop { d .ready none with state:=.busy })).heap[w.heap.size+1]?=some (.loop { d .ready none with state:=.busy }):=World.putObj_heap_same k
   have C:(Wa.putObj (w.heap.size+1) (.loop { d .ready none with state:=.busy })).heap[w.heap.size]?=some (.deferred (some [])):=(World.putObj_heap_other o_).trans I
   refine wpIn_mono (z t x q _ (ae _ _ _ _ _ O) (ie.1 y).1) ?_
   have D:∀(b:Option Code) (j:aG),j.heap[w.heap.size]?=some (.deferred (some []))->j.heap[w.heap.size+1]?=some (.loop { d .ready none with state:=.busy })->
    (Instr.endRound (w.heap.size+1) b).run P j=.ok (.bool b.isNone) (j.putObj (w.heap.size+1) (.loop (d (if b.isNone then .ready else .done) b)))/\
    (j.putObj (w.heap.size+1) (.loop (d (if b.isNone then .ready else .done) b))).heap[w.heap.size+1]?=some (.loop (d (if b.isNone then .ready else .done) b))/\
    (j.putObj (w.heap.size+1) (.loop (d (if b.isNone then .ready else .done) b))).heap[w.heap.size]?=some (.deferred (some [])):=λb j ac M=>by
    have:=run_endRound (P:=P) b M;rw[f] at this ⊢
    exact⟨this,World.putObj_heap_same (ie.1 M).1,(World.putObj_heap_other o_).trans ac⟩
   rintro e a3 j J;cases e with
   |normal=>
    obtain⟨⟨V,T⟩,o⟩:=J;obtain⟨X,m,n⟩:=D none j (V.trans C) (T.trans y);exact⟨_,_,X,.inl ⟨rfl,hB _ _ _ _ o,m,n⟩⟩
   |ret=>
    obtain⟨⟨V,T⟩,o⟩:=J;obtain⟨X,m,n⟩:=D (some .ret) j (V.trans C) (T.trans y);exact⟨_,_,X,.inr ⟨rfl,.ret,F _ _ _ _ _ o,m,n⟩⟩
   |exit id=>
    obtain⟨⟨V,T⟩,o⟩:=J;obtain⟨X,m,n⟩:=D (some (.exit id)) j (V.trans C) (T.trans y);exact⟨_,_,X,.inr ⟨rfl,.exit id,F _ _ _ _ _ o,m,n⟩⟩
   |goto t=>exact J.elim
   |panic ch=>exact J.elim
   |outgrown=>exact J.elim
  ·rintro e W2 ⟨⟨v,rfl⟩,(⟨hz,s,I⟩|⟨t,c,x,hi,s,I⟩)⟩
   ·have k:=(ie.1 s).1;exact⟨none,_,by have:=run_endLoop (P:=P) s (by rw[f];simp);rw[f] at this;exact this,E _ (hZ _ _ hz) ((World.putObj_heap_other o_).trans I) (by simpa using k)⟩
   ·have k:=(ie.1 s).1;exact⟨some c,_,by have:=run_endLoop (P:=P) s (by rw[f];simp);rw[f] at this;exact this,H t _ x _ (F _ _ _ _ _ hi) ((World.putObj_heap_other o_).trans I) (by simpa using k)⟩
structure SV where
 t:Nat
 x1:Option Addr
 x2:Option Addr
 x3:Option Addr
 n1:Nat
 n2:Nat
 n3:Nat
 c1:Nat
 c2:Nat
 c3:Nat
 q:Nat
def SV.cells(s:SV):Array Value:= #[I_ s.t,.slice s.x1 s.n1 s.c1,.slice s.x2 s.n2 s.c2,.slice s.x3 s.n3 s.c3,I_ s.q]
def SV.val(s:SV):Value:=.agg #[I_ s.t,.slice s.x1 s.n1 s.c1,.slice s.x2 s.n2 s.c2,.slice s.x3 s.n3 s.c3,I_ s.q]
def dW(W:aG)(b:Nat)(s:SV):aG:=((((W.setCell (aH b 0) (I_ s.t)).setCell (aH b 1) (.slice s.x1 s.n1 s.c1)).setCell (aH b 2) (.slice s.x2 s.n2 s.c2)).setCell (aH b 3) (.slice s.x3 s.n3 s.c3)).setCell (aH b 4) (I_ s.q)
def yQ{s:SV}{z:Nat × Nat}(h:W.heap[b]?=some (.cells c T z)):(dW W b s).heap[b]?=some (.cells (((((c.setIfInBounds 0 (I_ s.t)).setIfInBounds 1 (.slice s.x1 s.n1 s.c1)).setIfInBounds 2 (.slice s.x2 s.n2 s.c2)).setIfInBounds 3 (.slice s.x3 s.n3 s.c3)).setIfInBounds 4 (I_ s.q)) T z):=
 aK (aK (aK (aK (aK h))))
def sI{s:SV}{z:Nat × Nat}(h:W.heap[b]?=some (.cells c T z))(a:c.size=5):(dW W b s).heap[b]?=some (.cells s.cells T z):=by
 rw[yQ h];obtain⟨l⟩:=c;match l,a with
 |[e,f,g,i,d],_=>rfl
def jV{V:aG}{s:SV}(h:W.heap[b]?=some (.cells c T (0,0)))(e:5<=c.size)(d:V.heap[b]?=(dW W b s).heap[b]?):V.cell? (aH b 0)=some (I_ s.t)/\V.cell? (aH b 1)=some (.slice s.x1 s.n1 s.c1)/\V.cell? (aH b 2)=some (.slice s.x2 s.n2 s.c2)/\V.cell? (aH b 3)=some (.slice s.x3 s.n3 s.c3)/\V.cell? (aH b 4)=some (I_ s.q):=by
 have a:=d.trans (yQ (s:=s) h);obtain⟨l⟩:=c;rcases l with _|⟨g,_|⟨i,_|⟨j,_|⟨k,_|⟨f,r⟩⟩⟩⟩⟩
 case cons.cons.cons.cons.cons=>
  simp only[List.setIfInBounds_toArray,List.set_cons_zero,ki] at a;exact⟨aA a s_,aA a s_,aA a s_,aA a s_,aA a s_⟩
 all_goals simp at e
def dH(W:aG)(b:Nat)(s:SV)(k:Nat)(h:k≠b):(dW W b s).heap[k]?=W.heap[k]?:=by
 unfold dW;rw[ei _ _ _ _ h,ei _ _ _ _ h,ei _ _ _ _ h,ei _ _ _ _ h,ei _ _ _ _ h]
def gZ(W:aG)(b:Nat)(s:SV):(dW W b s).heap.size=W.heap.size/\(dW W b s).os=W.os/\(dW W b s).tape=W.tape/\(dW W b s).output=W.output:=by
 have a:∀(W:aG) (p:Addr) (u:aQ),(W.setCell p u).os=W.os/\(W.setCell p u).tape=W.tape/\(W.setCell p u).output=W.output/\(W.setCell p u).heap.size=W.heap.size:=λW p u=>⟨rfl,rfl,rfl,s_⟩
 unfold dW;simp[a]
def TF(l E sb:Nat)(s:SV)(W:aG)(L:Nat->Nat->SV->Bool->World->Prop)(B:Nat->Nat->SV->World->Prop)(Z:World->Prop)
 (I:W.cell? (aH E 0)=some (aZ sb)) (O:E<W.heap.size) (N:sb<W.heap.size)
 (k0:W.cell? (aH sb 0)=some (I_ s.t)) (k1:W.cell? (aH sb 1)=some (.slice s.x1 s.n1 s.c1)) (k2:W.cell? (aH sb 2)=some (.slice s.x2 s.n2 s.c2)) (k3:W.cell? (aH sb 3)=some (.slice s.x3 s.n3 s.c3)) (k4:W.cell? (aH sb 4)=some (I_ s.q)) (F:Nat)
 (p:Hid (Calls prog 48 #[aZ sb,s.val] W.drew λe h=>∃d ok,e=aX (.tuple #[SV.val d,.bool ok])/\L F h.heap.size d ok (h.alloc (.cells d.cells 53))))
 (o:Hid (∀c,c.size=5->Calls prog 48 #[aZ sb,s.val] (W.drew.alloc (.cells c 53)) λe h=>∃d ok,e=aX (.tuple #[SV.val d,.bool ok])/\h.heap[W.heap.size]?=some (.cells c 53 (0,0))/\L F W.heap.size d ok (dW h W.heap.size d)))
 (HL:Hid (∀gk b d wr,L gk b d true wr->wr.heap[b]?=some (.cells d.cells 53 (0,0))/\YieldAt Fence.wide 0 prog l #[d.val] wr λe S=>(e=aX (.bool true)/\B gk b d S)\/(e=aX (.bool false)/\Z S)))
 (HZ:Hid (∀gk b d wr,L gk b d false wr->Z wr))
 (HB:Hid (∀gk b d wr,B gk b d wr->wr.cell? (aH E 0)=some (aZ sb)/\wr.heap[b]?=some (.cells d.cells 53 (0,0))/\∃j,gk=j+1/\Calls prog 48 #[aZ sb,d.val] wr λe h=>∃m ok,e=aX (.tuple #[SV.val m,.bool ok])/\(∃c,h.heap[b]?=some (.cells c 53 (0,0))/\c.size=5)/\L j b m ok (dW h b m))):
 Calls prog 65 #[.func (.yield l) #[] #[],aZ E] W λe h=>e=aX (.tuple #[])/\Z h:=by
 unfold SV.val SV.cells at p;unfold SV.val dW at o;go_in
 go_upto_region 0 with fail
 go_cut [3,4] from 5 (λs3 H w=>∃b d ok,s3=aZ b/\H=.bool ok/\L F b d ok w)
 case first=>
  go_region_law (go_simp;go_at_call 48;first|(refine(o _ rfl).mono ?_;rintro e w1 ⟨d,ok,rfl,g,x⟩;have z:=aA (i:=0) g rfl;have y:=aA (i:=1) g rfl;have u:=aA (i:=2) g rfl;have v:=aA (i:=3) g rfl;have A:=aA (i:=4) g rfl;have Q:=aD (i:=0) g;have T:=aD (i:=1) g;have f2:=aD (i:=2) g;have f3:=aD (i:=3) g;have f4:=aD (i:=4) g;clear g)|(refine p.mono ?_;rintro e w1 ⟨d,ok,rfl,x⟩))
  all_goals (try clear z y u v A Q T f2 f3 f4)
  all_goals (have J:=aB x;clear x k0 k1 k2 k3 k4 I p o O N)
  all_goals (go_simp;go_step;go_meet)
  all_goals exact⟨_,_,_,rfl,rfl,J⟩
 case rest=>
  obtain⟨b,s1,ab,rfl,rfl,x⟩:=hcut;have J:=aB x;clear x p o;go_wp2_with fail;go_loopg [4] F (λgk H wr=>∃d ok,H=.bool ok/\L gk b d ok wr)
  case atStart=>exact⟨_,_,rfl,J⟩
  case round=>
   obtain⟨d,ok,rfl,r⟩:=hrel;cases ok
   ·have M:=aB (HZ _ _ _ _ r);clear r;go_wp2
    go_end0;exact⟨rfl,M⟩
   ·obtain⟨a,fn,U,G,P,X,hR⟩:=HL _ _ _ _ r;have V:=aB hR;unfold SV.cells at a;have z:=aA (i:=0) a rfl;have y:=aA (i:=1) a rfl;have u:=aA (i:=2) a rfl;have v:=aA (i:=3) a rfl;have A:=aA (i:=4) a rfl;have k:=aC a;unfold SV.val at X;clear r hR a;refine(wpIn_wide (n:=0)).1 ?_;gi_wp2
    refine⟨rfl,V.mono ?_⟩;rintro e W3 (⟨rfl,D⟩|⟨rfl,K⟩)
    ·obtain⟨e1,q,j,rfl,Y⟩:=HB _ _ _ _ D;have t:=aB Y;unfold SV.cells at q;unfold SV.val at t;clear D Y X V z y u v A k;have z:=aA (i:=0) q rfl;have y:=aA (i:=1) q rfl;have u:=aA (i:=2) q rfl;have v:=aA (i:=3) q rfl;have A:=aA (i:=4) q rfl;have k:=aC q;clear q;gi_wp2
     refine⟨trivial,rfl,(callsIn_wide.2 t).mono ?_⟩;rintro e w4 ⟨m,ok,rfl,⟨c,f,aa⟩,r⟩;have C:=aB r;unfold dW at C;clear r t z y u v A k e1;have z:=aA (i:=0) f (ez o_)
     have y:=aA (i:=1) f (ez o_)
     have u:=aA (i:=2) f (ez o_)
     have v:=aA (i:=3) f (ez o_)
     have A:=aA (i:=4) f (ez o_)
     have Q:=aD (i:=0) f;have T:=aD (i:=1) f;have f2:=aD (i:=2) f;have f3:=aD (i:=3) f;have f4:=aD (i:=4) f;have k:=aC f;clear f;gi_wp2
     go_roundg j
     case measure=>omega
     case rel=>exact⟨_,_,rfl,C⟩
    ·gi_wp2
     go_end0;exact⟨rfl,K⟩
attribute [local go_sem] Oper.semAt_some
def SV.val_inj{a b:SV}(h:a.val=b.val):a=b:=by
 cases a;cases b;simp only[SV.val,Value.agg.injEq] at h;simp at h;obtain⟨d,⟨rfl,rfl,rfl⟩,⟨rfl,rfl,rfl⟩,⟨rfl,rfl,rfl⟩,c⟩:=h;obtain rfl:=Int.ofNat.inj d;obtain rfl:=Int.ofNat.inj c;rfl
def C8(P:Program)(gf:Nat)(lb:Array Value)(w:aG)(A B:τ->SV->World->Prop)(E:τ->World->Prop):Prop:=
 ∀(R0:Loop) (Rdy:World->Prop) (Don:World->Prop),(∀W W',Rdy W->W'.heap[w.heap.size]?=W.heap[w.heap.size]?->W'.heap[w.heap.size+1]?=W.heap[w.heap.size+1]?->Rdy W')->(∀W,Rdy W->w.heap.size+1<W.heap.size)->(∀W W',Don W->W'.heap[w.heap.size]?=W.heap[w.heap.size]?->W'.heap[w.heap.size+1]?=W.heap[w.heap.size+1]?->Don W')->
  Rdy ((w.alloc (.deferred (some []))).alloc (.loop R0))->
  (∀t s W,A t s W->Rdy W->YieldAt Fence.wide 0 P (w.heap.size+1) #[s.val] W λe W'=>(e=aX (.bool true)/\B t s W'/\Rdy W')\/(e=aX (.bool false)/\E t W'/\Don W'))->
  Calls P gf (#[.func (.yield (w.heap.size+1)) #[] #[]]++lb) ((w.alloc (.deferred (some []))).alloc (.loop R0)) λe W'=>(∃v,e=aX v)/\∃t,E t W'/\(Rdy W'\/Don W')
def MD(w:aG)(sb gf H:Nat)(lb Q O:Array Value)(s:SV)(R:Bool->World->Prop)(A B:τ->SV->World->Prop)(S:τ->SV->Nat->World->Prop)(E:τ->World->Prop)
 (af:sb<w.heap.size)
 (k0:w.cell? (aH sb 0)=some (I_ s.t)) (k1:w.cell? (aH sb 1)=some (.slice s.x1 s.n1 s.c1)) (k2:w.cell? (aH sb 2)=some (.slice s.x2 s.n2 s.c2)) (k3:w.cell? (aH sb 3)=some (.slice s.x3 s.n3 s.c3)) (k4:w.cell? (aH sb 4)=some (I_ s.q))
 (ac:∀l W,(callFunc gf l).run prog W=.ok (.enter gf l) W) (ae:∀l W,(callFunc H l).run prog W=.ok (.enter H l) W)
 (q:Hid (∀t d b W r,S t d b W->S t d b (W.putObj (w.heap.size+4) (.loop r)))) (D:Hid (∀t d W r,B t d W->B t d (W.putObj (w.heap.size+4) (.loop r)))) (p:Hid (∀t W r,E t W->E t (W.putObj (w.heap.size+4) (.loop r))))
 (HA:Hid (∀t d W,A t d W->S t d W.heap.size (W.alloc (.cells d.cells 53))/\w.heap.size+4<W.heap.size))
 (y:Hid (∀t d b W,S t d b W->W.heap[b]?=some (.cells d.cells 53 (0,0))/\W.heap[w.heap.size]?=some (.cells #[.func (.func H) Q O] 86 (0,0))/\(∃c,W.heap[w.heap.size+1]?=some (.cells c 53 (0,0))/\5<=c.size)/\(∃v,W.heap[w.heap.size+1+1]?=some (.cells #[v] 4 (0,0)))/\b≠w.heap.size/\b≠w.heap.size+1/\b≠w.heap.size+1+1/\
   Calls prog H (Q++ #[d.val]++O) ((dW W (w.heap.size+1) d).setCell (aH (w.heap.size+1+1) 0) (.bool true)) λe J=>∃r,e=aX (.bool r)/\(J.heap[w.heap.size+3]?=W.heap[w.heap.size+3]?/\J.heap[w.heap.size+3+1]?=W.heap[w.heap.size+3+1]?)/\(r=true->E t J)/\(r=false->B t d J)))
 (X:Hid (∀t W,E t W->∃a fd,W.heap[w.heap.size+1]?=some (.cells (SV.cells a) 53 (0,0))/\W.heap[w.heap.size+1+1]?=some (.cells #[.bool fd] 4 (0,0))/\(∃c T,W.heap[sb]?=some (.cells c T (0,0))/\5<=c.size)/\R fd ((dW W sb a).putObj (w.heap.size+3) (.deferred none))))
 (HI:Hid (∀N,N=((w.alloc (.cells #[.func (.func H) Q O] 86)).alloc (.cells s.cells 53)).alloc (.cells #[.bool false] 4)->C8 prog gf lb N A B E)):
 Calls prog 35 #[aZ sb,.func (.func gf) #[] lb,.func (.func H) Q O] w λe w'=>∃b,e=aX (.bool b)/\R b w':=by
 refine(callsIn_wide (n:=0)).1 (callsIn_of_wp_marks func35 rfl trivial ?_ rfl);simp only[ntmps35,kj,ep,ey,Nat.reduceAdd,Nat.reduceSub,Array.replicate_succ,Array.replicate_zero,List.push_toArray,List.append_toArray,ij,gb];refine wpIn_wide.2 ?_;go_wp2_with fail;have F:=HI _ rfl;unfold SV.cells at F;obtain⟨N,I⟩:∃N,((w.alloc (.cells #[.func (.func H) Q O] 86)).alloc (.cells #[I_ s.t,.slice s.x1 s.n1 s.c1,.slice s.x2 s.n2 s.c2,.slice s.x3 s.n3 s.c3,I_ s.q] 53)).alloc (.cells #[.bool false] 4)=N:=⟨_,rfl⟩;have k:N.heap.size=w.heap.size+3:=by rw[<-I];simp
 rw[I] at F ⊢
 clear I HI;have z:=aB F;clear F
 refine wpIn_wide.1 (vT (P:=prog) (gf:=gf) (lb:=lb) rfl ac (λt x W=>∃d,x= #[SV.val d]/\A t d W) (λt x W=>∃d,x= #[SV.val d]/\B t d W)
  (λt x a' W=>∃d b,x= #[SV.val d]/\a'={ tmps:= #[aZ sb,.func (.func gf) #[] lb,.func (.func H) Q O,undef,undef,aZ w.heap.size,.bool false,aZ (w.heap.size+1),aZ (w.heap.size+1+1),aZ b,aZ sb,aZ sb,aZ sb,s.val,.func (.func gf) #[] lb,SV.val d,undef,undef,undef,undef,undef,undef,undef,undef,undef],defers:=[] }/\S t d b W)
  (λt c x W=>c=.exit 0/\E t W) (λW=>∃t,E t W) ?hps ?hAx ?hB ?hBx ?hZ ?hassign ?hbody ?hseq ?hdone ?hstop)
 case hps=>rintro t x W ⟨d,rfl,_⟩;rfl
 case hAx=>rintro t x a' W r ⟨d,b,rfl,rfl,h⟩;rw[k];exact⟨d,b,rfl,rfl,q _ _ _ _ _ h⟩
 case hB=>rintro t x W r ⟨d,rfl,h⟩;rw[k];exact⟨d,rfl,D _ _ _ _ h⟩
 case hBx=>rintro t c x W r ⟨rfl,h⟩;rw[k];exact⟨rfl,p _ _ _ h⟩
 case hZ=>rintro W r ⟨t,h⟩;rw[k];exact⟨t,p _ _ _ h⟩
 case hassign=>
  rintro t x W K ⟨d,rfl,h⟩ hK;obtain⟨q1,q2⟩:=HA _ _ _ h;have aa:=aB (hK _ _ (ek _ _ _ (by rw[k];omega)) (ek _ _ _ (by rw[k];omega)) ⟨d,_,rfl,rfl,q1⟩)
  unfold SV.val SV.cells at aa;clear hK q1 h;unfold SV.val;gi_wp2
  exact aa
 case hbody=>
  rintro t x a' W ⟨d,b,rfl,rfl,h⟩ C;obtain⟨g,m,⟨c,f,V⟩,⟨v,e4⟩,n1,n2,n3,hF⟩:=y _ _ _ _ h;rw[k];have HF:=aB hF;unfold dW SV.val at HF;unfold SV.val;unfold SV.cells at g;have d0:=aA (i:=0) g rfl;have d1:=aA (i:=1) g rfl;have d2:=aA (i:=2) g rfl;have d3:=aA (i:=3) g rfl;have d4:=aA (i:=4) g rfl;have c0:=aA (i:=0) m rfl;have g0:=aA (i:=0) f (ez o_)
  have g1:=aA (i:=1) f (ez o_)
  have g2:=aA (i:=2) f (ez o_)
  have g3:=aA (i:=3) f (ez o_)
  have g4:=aA (i:=4) f (ez o_)
  have f0:=aD (i:=0) f;have f1:=aD (i:=1) f;have f2:=aD (i:=2) f;have f3:=aD (i:=3) f;have f4:=aD (i:=4) f;have o0:=aA (i:=0) e4 rfl;have o1:=aD (i:=0) e4;have l1:=aC g;have l2:=aC m;have l3:=aC f;have l4:=aC e4;clear h hF g m f e4 HA y X q D p z k0 k1 k2 k3 k4;gi_wp2
  refine⟨trivial,rfl,(CallsIn.inRound _ (callsIn_wide.2 HF)).mono ?_⟩;rintro e J ⟨r,rfl,hq,G,hB⟩;cases r
  ·have HB:=aB (hB rfl);clear hB G HF d0 d1 d2 d3 d4 c0 g0 g1 g2 g3 g4 f0 f1 f2 f3 f4 o0 o1;gi_wp2
   exact⟨hq,d,rfl,HB⟩
  ·have ad:=aB (G rfl);clear hB G HF d0 d1 d2 d3 d4 c0 g0 g1 g2 g3 g4 f0 f1 f2 f3 f4 o0 o1;gi_wp2
   exact⟨hq,rfl,ad⟩
 case hseq=>
  intro R0 Rdy Don h1 h2 h3 h4 h5 hY;refine callsIn_wide.2 ((z R0 Rdy (Don (Code.exit 0)) h1 h2 (h3 _) h5 ?_).mono ?_)
  ·intro t d W hA M;obtain⟨fn,tmps,u,Z,hy,hr⟩:=hY t #[SV.val d] W ⟨d,rfl,hA⟩ M;refine⟨fn,tmps,u,Z,hy,hr.mono ?_⟩;rintro e J (⟨rfl,⟨s2,m,hB⟩,ab⟩|⟨rfl,c,⟨rfl,G⟩,o⟩)
   ·obtain rfl:s2=d:=SV.val_inj (by simpa using m.symm)
    exact d7 ⟨rfl,hB,ab⟩
   ·exact d6 ⟨rfl,G,o⟩
  ·rintro e J ⟨hv,t,G,hr|o⟩
   ·exact⟨hv,d7 ⟨⟨t,G⟩,hr⟩⟩
   ·exact⟨hv,d6 ⟨t,_,#[],⟨rfl,G⟩,o⟩⟩
 case hdone=>
  rintro W ⟨t,U⟩ o C;rw[k] at o C ⊢
  obtain⟨a,fd,g,m,⟨c,T,f,V⟩,M⟩:=X _ _ U;have HR:=aB M;unfold dW at HR;unfold SV.cells at g;have d0:=aA (i:=0) g rfl;have d1:=aA (i:=1) g rfl;have d2:=aA (i:=2) g rfl;have d3:=aA (i:=3) g rfl;have d4:=aA (i:=4) g rfl;have o0:=aA (i:=0) m rfl;have g0:=aA (i:=0) f (ez o_)
  have g1:=aA (i:=1) f (ez o_)
  have g2:=aA (i:=2) f (ez o_)
  have g3:=aA (i:=3) f (ez o_)
  have g4:=aA (i:=4) f (ez o_)
  have f0:=aD (i:=0) f;have f1:=aD (i:=1) f;have f2:=aD (i:=2) f;have f3:=aD (i:=3) f;have f4:=aD (i:=4) f;have l1:=aC g;have l2:=aC m;have l3:=aC f;have n1:w.heap.size+1≠sb:=o_
  have n2:w.heap.size+1+1≠sb:=o_
  have Y:(((((W.setCell (aH sb 0) (I_ a.t)).setCell (aH sb 1) (.slice a.x1 a.n1 a.c1)).setCell (aH sb 2) (.slice a.x2 a.n2 a.c2)).setCell (aH sb 3) (.slice a.x3 a.n3 a.c3)).setCell (aH sb 4) (I_ a.q)).heap[w.heap.size+3]?=some (.deferred (some [])):=by
   have j:w.heap.size+3≠sb:=o_
   rw[ei _ _ _ _ j,ei _ _ _ _ j,ei _ _ _ _ j,ei _ _ _ _ j,ei _ _ _ _ j];exact o
  have L:=aB Y;clear M g m f X HA y q D p z U o Y k0 k1 k2 k3 k4;go_wp2_with fail;refine⟨s_,.inl ⟨_,_,rfl,run_takeDeferred L,?_⟩⟩
  exact⟨_,results_tmp rfl _ _ _,_,rfl,HR⟩
 case hstop=>
  rintro t c x W ⟨rfl,U⟩ o C;rw[k] at o C ⊢
  obtain⟨a,fd,g,m,⟨c,T,f,V⟩,M⟩:=X _ _ U;have HR:=aB M;unfold dW at HR;unfold SV.cells at g;have d0:=aA (i:=0) g rfl;have d1:=aA (i:=1) g rfl;have d2:=aA (i:=2) g rfl;have d3:=aA (i:=3) g rfl;have d4:=aA (i:=4) g rfl;have o0:=aA (i:=0) m rfl;have g0:=aA (i:=0) f (ez o_)
  have g1:=aA (i:=1) f (ez o_)
  have g2:=aA (i:=2) f (ez o_)
  have g3:=aA (i:=3) f (ez o_)
  have g4:=aA (i:=4) f (ez o_)
  have f0:=aD (i:=0) f;have f1:=aD (i:=1) f;have f2:=aD (i:=2) f;have f3:=aD (i:=3) f;have f4:=aD (i:=4) f;have l1:=aC g;have l2:=aC m;have l3:=aC f;have n1:w.heap.size+1≠sb:=o_
  have n2:w.heap.size+1+1≠sb:=o_
  have Y:(((((W.setCell (aH sb 0) (I_ a.t)).setCell (aH sb 1) (.slice a.x1 a.n1 a.c1)).setCell (aH sb 2) (.slice a.x2 a.n2 a.c2)).setCell (aH sb 3) (.slice a.x3 a.n3 a.c3)).setCell (aH sb 4) (I_ a.q)).heap[w.heap.size+3]?=some (.deferred (some [])):=by
   have j:w.heap.size+3≠sb:=o_
   rw[ei _ _ _ _ j,ei _ _ _ _ j,ei _ _ _ _ j,ei _ _ _ _ j,ei _ _ _ _ j];exact o
  have L:=aB Y;clear M g m f X HA y q D p z U o Y k0 k1 k2 k3 k4;refine wpIn_wide.2 ?_;go_wp2_with fail;refine⟨s_,.inl ⟨_,_,rfl,run_takeDeferred L,?_⟩⟩
  exact⟨_,results_tmp rfl _ _ _,_,rfl,HR⟩
def EU(w:aG)(sb:Nat)(s:SV)(P N:SV->Bool->World->Prop)
 (r:Hid (Calls prog 79 #[s.val] ((w.alloc (.cells s.cells 53)).alloc (.cells #[I_ 0,bG,bG,bG,I_ 0] 53)) λe g=>∃a ok,e=aX (.tuple #[SV.val a,.bool ok])/\N a ok g))
 (t:Hid (∀a W,N a false W->(∃c,W.heap[w.heap.size+1]?=some (.cells c 53 (0,0))/\5<=c.size)/\P a false ((dW W (w.heap.size+1) a).alloc (.cells a.cells 53))))
 (H:Hid (∀a W,N a true W->Calls prog 33 #[aZ sb,a.val] (W.alloc (.cells a.cells 53)) λe g=>e=aX (.tuple #[])/\g.heap[W.heap.size]?=some (.cells a.cells 53 (0,0))/\(∃c,g.heap[w.heap.size+1]?=some (.cells c 53 (0,0))/\5<=c.size)/\w.heap.size+1<W.heap.size/\P a true (dW g (w.heap.size+1) a))):
 Calls prog 48 #[aZ sb,s.val] w λe g=>∃a ok,e=aX (.tuple #[SV.val a,.bool ok])/\P a ok g:=by
 unfold SV.val SV.cells at r;unfold SV.val;go_in
 go_wp2_with fail;refine r.mono ?_;rintro e n ⟨a,ok,rfl,q⟩;cases ok
 ·obtain⟨⟨c,b,l⟩,o⟩:=t _ _ q;have m:=aB o;unfold dW SV.cells at m;have z:=aA (i:=0) b (ez o_)
  have F:=aA (i:=1) b (ez o_)
  have x:=aA (i:=2) b (ez o_)
  have L:=aA (i:=3) b (ez o_)
  have E:=aA (i:=4) b (ez o_)
  have u:=aD (i:=0) b;have y:=aD (i:=1) b;have I:=aD (i:=2) b;have K:=aD (i:=3) b;have J:=aD (i:=4) b;have M:=aC b;have Z:n.heap.size≠w.heap.size+1:=o_
  have p:=jV (W:=n) (V:=(dW n (w.heap.size+1) a).alloc (.cells a.cells 53)) (s:=a) b l (ek _ _ _ (by rw[(gZ _ _ _).1];exact M))
  have j:=aB p;unfold dW SV.cells at j;clear o q r t H b p;go_wp2_with fail;have d:=j;have f:=m;clear j m z F x L E u y I K J;generalize (((((n.setCell (aH (w.heap.size+1) 0) (I_ a.t)).setCell (aH (w.heap.size+1) 1) (.slice a.x1 a.n1 a.c1)).setCell (aH (w.heap.size+1) 2) (.slice a.x2 a.n2 a.c2)).setCell (aH (w.heap.size+1) 3) (.slice a.x3 a.n3 a.c3)).setCell (aH (w.heap.size+1) 4) (I_ a.q)).alloc (.cells #[I_ a.t,.slice a.x1 a.n1 a.c1,.slice a.x2 a.n2 a.c2,.slice a.x3 a.n3 a.c3,I_ a.q] 53)=X at d f ⊢
  obtain⟨A,B,D,G,C⟩:=d;exact bodyPost_ret (v:=.tuple #[.agg #[I_ a.t,.slice a.x1 a.n1 a.c1,.slice a.x2 a.n2 a.c2,.slice a.x3 a.n3 a.c3,I_ a.q],.bool false]) (by simp[results,results48,go_sem,A,B,D,G,C]) rfl ⟨a,false,rfl,f⟩
 ·have h:=aB (H _ _ q);unfold SV.val SV.cells at h;clear q r t H;go_wp2_with fail;refine h.mono ?_;rintro e O ⟨rfl,k,⟨c,b,l⟩,l1,o⟩;have m:=aB o;unfold dW at m;have U:=aA (i:=0) k rfl;have T:=aA (i:=1) k rfl;have Q:=aA (i:=2) k rfl;have S:=aA (i:=3) k rfl;have Y:=aA (i:=4) k rfl;have z:=aA (i:=0) b (ez o_)
  have F:=aA (i:=1) b (ez o_)
  have x:=aA (i:=2) b (ez o_)
  have L:=aA (i:=3) b (ez o_)
  have E:=aA (i:=4) b (ez o_)
  have u:=aD (i:=0) b;have y:=aD (i:=1) b;have I:=aD (i:=2) b;have K:=aD (i:=3) b;have J:=aD (i:=4) b;have M:=aC b;have l4:=aC k;have Z:n.heap.size≠w.heap.size+1:=o_
  have p:=jV (W:=O) (s:=a) b l rfl;have j:=aB p;unfold dW at j;clear o h k b p;go_wp2_with fail;have d:=j;have f:=m;clear j m z F x L E u y I K J U T Q S Y;generalize ((((O.setCell (aH (w.heap.size+1) 0) (I_ a.t)).setCell (aH (w.heap.size+1) 1) (.slice a.x1 a.n1 a.c1)).setCell (aH (w.heap.size+1) 2) (.slice a.x2 a.n2 a.c2)).setCell (aH (w.heap.size+1) 3) (.slice a.x3 a.n3 a.c3)).setCell (aH (w.heap.size+1) 4) (I_ a.q)=X at d f ⊢
  obtain⟨A,B,D,G,C⟩:=d;exact bodyPost_ret (v:=.tuple #[.agg #[I_ a.t,.slice a.x1 a.n1 a.c1,.slice a.x2 a.n2 a.c2,.slice a.x3 a.n3 a.c3,I_ a.q],.bool true]) (by simp[results,results48,go_sem,A,B,D,G,C]) rfl ⟨a,true,rfl,f⟩
end Go.Proofs.YtlflgmdcghfngaaGreatDoor
