/- Contracts of the program: the next state. -/
import Derived.Test.YtmjbnmpamlainaaGreatDoorP15
import Derived.Test.YtmjbnmpamlainaaGreatDoorP08
set_option linter.defProp false
set_option maxRecDepth 100000
set_option maxHeartbeats 4000000
namespace Go.Proofs.YtmjbnmpamlainaaGreatDoor
open Hs
open _root_.Go.Proofs.Tryz
open Instr(typeAssert)
open Go.RowKit
def G0(w:aG)(b a:Nat)(j h i:aQ)(q:a≠0)(f:∃x l c,j=.slice x l c)(d:∃x l c,h=.slice x l c)(g:∃x l c,i=.slice x l c):
 Calls prog 54 #[.agg #[Iv0 b,j,h,i,Iv0 a]] w fun e w'=>e=aZ (.tuple #[.agg #[Iv0 0,bF,bF,bF,Iv0 0],.bool false])/\Below w.heap.size w w':=by
 obtain⟨v,t,m,rfl⟩:=f;obtain⟨r,u,o,rfl⟩:=d;obtain⟨k,n,p,rfl⟩:=g;have s:¬(a:Int)=0:=by omega
 go_in
 go_wp2_with fail;refine⟨rfl,.tuple #[.agg #[Iv0 0,bF,bF,bF,Iv0 0],.bool false],?_,rfl,((co_ _ w).alloc cL _).alloc (by simp) _⟩
 simp[results,results54,go_sem]
def F9(w w2:aG)(a:Nat)(y u v:aQ)(P:Value->World->Prop)(A:Nat->Nat->Nat->Value->Value->World->Prop)(B:Nat->World->Prop)(ht:a<=1000000)(H:∃x l c,y=.slice x l c)(G:∃x l c,u=.slice x l c)(D:∃x l c,v=.slice x l c)
 (V:(w.alloc (.cells #[Iv0 a,y,u,v,Iv0 0] 49)).alloc (.cells #[Iv0 0,bF,bF,bF,Iv0 0] 49)=w2)
 (HC:Hid (Calls prog 88 #[.agg #[Iv0 a,y,u,v,Iv0 0]] w2 fun e w'=>∃r n h d g,e=aZ (.agg #[Iv0 a,.slice (some (aH r 0)) n h,d,g,Iv0 0])/\(∃x l c,d=.slice x l c)/\(∃x l c,g=.slice x l c)/\A r n h d g w'))
 (HG:Hid (∀r n h d g W,A r n h d g W->Calls prog 51 #[bH W.heap.size] (W.alloc (.cells #[Iv0 ((a+1:Nat):Int),.slice (some (aH r 0)) n h,d,g,Iv0 0] 49)) fun e w'=>e=aZ (.tuple #[])/\B W.heap.size w'))
 (HB:Hid (∀b W,B b W->∃(q:Nat) (f t o:aQ) (s:Nat),W.heap[b]?=some (.cells #[Iv0 q,f,t,o,Iv0 s] 49 (0,0))/\(∃x l c,f=.slice x l c)/\(∃x l c,t=.slice x l c)/\(∃x l c,o=.slice x l c)/\W.heap[w.heap.size+1]?=some (.cells #[Iv0 0,bF,bF,bF,Iv0 0] 49 (0,0))/\b≠w.heap.size+1/\
   ∀F,Kept [w.heap.size+1] W F->F.heap.size=W.heap.size->P (.agg #[Iv0 q,f,t,o,Iv0 s]) F)):
 Calls prog 54 #[.agg #[Iv0 a,y,u,v,Iv0 0]] w fun e w'=>∃T,e=aZ (.tuple #[T,.bool true])/\P T w':=by
 obtain⟨x1,l1,c1,rfl⟩:=H;obtain⟨x2,l2,c2,rfl⟩:=G;obtain⟨x3,l3,c3,rfl⟩:=D;have HW:=aB V;clear V;go_in
 go_wp2_with fail;rw[HW.out];refine HC.mono ?_;rintro e w3 ⟨r,n,h,d,g,rfl,⟨y2,m2,d2,rfl⟩,⟨y3,m3,d3,rfl⟩,K⟩;have m:=aB (HG _ _ _ _ _ _ K);generalize hb:w3.heap.size=b at m;clear K;rw[show ((a+1:Nat):Int)=(a:Int)+1 by omega] at m
 go_wp2_with fail;refine m.mono ?_;rintro e k ⟨rfl,N⟩;obtain⟨q,f,t,o,s,p,⟨O,U,Q,rfl⟩,⟨X,r2,Y,rfl⟩,⟨L,M,S,rfl⟩,j,q3,Z⟩:=HB _ _ N;have HQ:=aB Z;have ah:k.cell? (aH b 0)=some (Iv0 q):=aA p rfl;have al:k.cell? (aH b 1)=some (.slice O U Q):=aA p rfl;have ae:k.cell? (aH b 2)=some (.slice X r2 Y):=aA p rfl;have ag:k.cell? (aH b 3)=some (.slice L M S):=aA p rfl;have ac:k.cell? (aH b 4)=some (Iv0 s):=aA p rfl;have z:k.cell? (aH (w.heap.size+1) 0)=some (Iv0 0):=aA j rfl;have J:k.cell? (aH (w.heap.size+1) 1)=some (bF):=aA j rfl;have C:k.cell? (aH (w.heap.size+1) 2)=some (bF):=aA j rfl;have E:k.cell? (aH (w.heap.size+1) 3)=some (bF):=aA j rfl;have I:k.cell? (aH (w.heap.size+1) 4)=some (Iv0 0):=aA j rfl;have aj:=aD (i:=0) j;have ak:=aD (i:=1) j;have af:=aD (i:=2) j;have ab:=aD (i:=3) j;have ad:=aD (i:=4) j;have aa:=aC p;have ai:=aC j;clear N Z p j;go_wp2_with fail;refine⟨rfl,.tuple #[.agg #[Iv0 q,.slice O U Q,.slice X r2 Y,.slice L M S,Iv0 s],.bool true],?_,_,rfl,HQ _ ?_ (by simp)⟩
 ·simp[results,results54,go_sem,z,J,C,E,I]
 ·exact(((((Kept.refl _ _).setCell _ _ (by simp)).setCell _ _ (by simp)).setCell _ _ (by simp)).setCell _ _ (by simp)).setCell _ _ (by simp)
def vC{w:aG}{base n k:Nat}{t:TypeId}{v:aQ}{a:List Value}(h:w.ownsRow base t k v n a):∃x l c,v=.slice x l c:=by
 obtain⟨x,c,e⟩:=dE h;exact⟨x,n,c,e⟩
def BZ.of{w w':aG}{own:List Nat}(h:kM w)(d:Below w.heap.size w w')(i:∀k∈own,w.heap.size<=k):BZ own w':=fun W f=>by
 cases c:prog.globalNamed "internal/strconv.uint64pow10" with
 |none=>unfold kM Lib.TabIs World.var? at h;rw[c] at h;cases h
 |some g=>
  have a:g<w.heap.size:=by
   unfold kM Lib.TabIs World.var? at h;rw[c] at h;simp only[Option.bind_some] at h;rcases cR_ g w.heap.size with b|b
   ·exact b
   ·rw[dc_ (by exact b)] at h
    cases h
  refine h.keep c ?_;rw[f.block g (cn_ a d.size) (fun e=>by have:=i g e;omega),d.block g a]
def jT.form{fp:eQ}{F:bX}{w:aG}{v:aQ}{s:bC}(h:jT fp F w v s):∃f b d,v=.agg #[Iv0 s.time,f,b,d,Iv0 s.stop]/\(∃x l c,f=.slice x l c)/\(∃x l c,b=.slice x l c)/\(∃x l c,d=.slice x l c):=by
 obtain⟨f,b,d,n,rfl,a,k,j,i⟩:=h;refine⟨f,b,d,rfl,?_,?_,?_⟩
 ·rcases a with ⟨_,x,c,e⟩|⟨g,c,m,e,_⟩<;>exact⟨_,_,_,e⟩
 ·rcases j with ⟨_,x,c,e⟩|⟨g,o,c,e,_⟩<;>exact⟨_,_,_,e⟩
 ·rcases i with ⟨_,e⟩|⟨g,c,p,e,_⟩<;>exact⟨_,_,_,e⟩
def TX.run{fp:eQ}{F:bX}{base:Nat}{w:aG}{gf g:Nat}{j a:aQ}{c:List FVal}{m:cR}(h:TX fp F base w gf g j a c m)(u:∀b,F b->b<base)(f:base<=w.heap.size)(q p:aQ):
 dA false fp F base (w.alloc (.cells #[q,.slice (some (aH gf 0)) c.length g,j,a,p] 49)) w.heap.size gf g q j a p c m/\∀k∈aR false w.heap.size gf a c,base<=k:=by
 generalize r:w.alloc (.cells #[q,.slice (some (aH gf 0)) c.length g,j,a,p] 49)=W;have t:Below w.heap.size w W:=by rw[<-r];exact(co_ _ w).alloc cL _
 have v:W.heap.size=w.heap.size+1:=by rw[<-r];simp
 have n:W.heap[w.heap.size]?=some (.cells #[q,.slice (some (aH gf 0)) c.length g,j,a,p] 49 (0,0)):=by rw[<-r];exact aO _ _ rfl _
 have o:∀b,F b->W.heap[b]?=w.heap[b]?:=fun b s=>t.block b (cn_ (u b s) f)
 have i:∀k∈gf::(a.ownBlock.toList++cA false c),W.heap[k]?=w.heap[k]?:=fun k d=>t.block k (h.rng k d).2
 refine⟨⟨n,aW h.row fun k e=>by cases e;exact i gf (by simp),mN h.frs o fun k d=>i k (by simp[d]),h.tape.keep o dX,aW h.out fun k e=>i k (by simp[e]),?_,fun k d=>?_,fun k d=>?_⟩,fun k d=>?_⟩
 ·exact cB_.2 ⟨fun l=>by have:=(h.rng _ l).2;omega,h.nodup⟩
 ·rcases cv_.1 d with rfl|d
  ·omega
  ·have:=(h.rng k d).2;omega
 ·have x:=u k d;refine⟨by omega,fun l=>?_⟩
  rcases cv_.1 l with rfl|l
  ·omega
  ·have:=(h.rng k l).1;omega
 ·rcases cv_.1 d with rfl|d
  ·exact f
  ·exact(h.rng k d).1
def UV{fp:eQ}{F:bX}{w:aG}{v:aQ}{s:bC}{ar:Nat->Option Nat}{C:List eU}{k:Nat}{r:cR × Nat}(ht:kV ar C)(aj:kK C)(h:jT fp F w v s)(hF:∀b,F b->b<w.heap.size)(hT:mC fp F w C)(hp:kM w)(hs:s.stop=0)
 (hA:fY ar s.m) (V:s.m.frames≠[]) (hU:gK s.m) (aa:s.m.out.length<=50) (am:s.m.tape.length<=17592186044416) (hk:dQ C k s.m=some r) (ap:s.time+1<=1000000) (hr:r.2<=1000):
 Calls prog 54 #[v] w fun e w'=>∃v',e=aZ (.tuple #[v',.bool true])/\Below w.heap.size w w'/\∃G,Ext F G w.heap.size/\(∀b,G b->b<w'.heap.size)/\jT fp G w' v' ⟨s.time+1,r.1,bZ (s.time+1) r.2⟩:=by
 obtain⟨fv,tv,xo,rfl,f1,f2,f3⟩:=h.form
 have ad:∀f∈s.m.frames,f.vars.length<=90001/\f.ops.length<=99000:=fun f hf=>by
  have hq:∃M,cQ ar f M:=by
   obtain⟨b,g,e⟩:=lY V;rw[e] at hf;have J:=hA.ok.low;have P:=hA.ok.top;rw[e,gE] at J;rw[e,fB] at P;rcases cu_.1 hf with l|l
   ·exact⟨1,J f l⟩
   ·rw[cs_.1 l];exact⟨0,P g rfl⟩
  obtain⟨M,⟨T,K,hh,_⟩,hn,_,hv⟩:=hq;have l:=(K.ins _ _ (cz_ hn)).2.1;have h2:=K.len;exact⟨hv,by omega⟩
 rw[hs] at h ⊢
 generalize I:(w.alloc (.cells #[Iv0 s.time,fv,tv,xo,Iv0 (0:Nat)] 49)).alloc (.cells #[Iv0 0,bF,bF,bF,Iv0 0] 49)=m;have t:Below w.heap.size w m:=by rw[<-I];exact((co_ _ w).alloc cL _).alloc (by simp) _
 have ao:m.heap.size=w.heap.size+2:=by rw[<-I];simp
 have ai:m.heap[w.heap.size+1]?=some (.cells #[Iv0 0,bF,bF,bF,Iv0 0] 49 (0,0)):=by
  rw[<-I];exact aO _ _ (by simp) _
 have ah:∀b,F b->b<m.heap.size:=fun b X=>cn_ (hF b X) t.size
 have h2:jT fp F m (.agg #[Iv0 s.time,fv,tv,xo,Iv0 (0:Nat)]) s:=by
  have:=h.keep (fun b X=>t.block b (hF b X)) dX
  exact this
 refine(F9 w m s.time fv tv xo (fun v' w'=>Below w.heap.size w w'/\∃G,Ext F G w.heap.size/\(∀b,G b->b<w'.heap.size)/\jT fp G w' v' ⟨s.time+1,r.1,bZ (s.time+1) r.2⟩)
  (fun z n q p Q W=>∃i,n=i.length/\Below m.heap.size m W/\TX fp F m.heap.size W z q p Q i s.m)
  (fun b W=>∃W0 z q p j i G,(Below m.heap.size m W/\m.heap.size<=b)/\(m.heap.size<=W0/\Ext F G W0)/\dA false fp G m.heap.size W b z q (Iv0 ((s.time+1:Nat):Int)) p j (Iv0 (bZ (s.time+1) r.2)) i r.1/\∀k∈aR false b z j i,m.heap.size<=k)
  (by omega) f1 f2 f3 I ?_ (fun z n q p Q W hq=>?_) (fun b W hq=>?_))
 ·refine(XW h2 ah V hA.ok.deep ad aa).mono ?_;rintro e w' ⟨v',rfl,z,q,p,j,i,rfl,y,K⟩;rw[hs];refine⟨z,i.length,q,p,j,rfl,?_,vC K.out,i,rfl,y,K⟩;rcases K.tape with ⟨_,x,c,e⟩|⟨g,o,c,e,_⟩<;>exact⟨_,_,_,e⟩
 ·obtain⟨i,rfl,y,K⟩:=hq;obtain⟨O,E⟩:=K.run ah y.size (Iv0 ((s.time+1:Nat):Int)) (Iv0 0);generalize ak:W.alloc (.cells #[Iv0 ((s.time+1:Nat):Int),.slice (some (aH z 0)) i.length q,p,Q,Iv0 0] 49)=U at O;have an:Below W.heap.size W U:=by rw[<-ak];exact(co_ _ W).alloc cL _
  have d:Below m.heap.size m U:=y.trans (an.mono y.size);have N:Below w.heap.size w U:=t.trans (d.mono t.size);have al:mC fp F U C:=hT.keep (fun b X=>N.block b (hF b X)) dX
  refine(RR ht aj O al (BZ.of hp N fun k hk=>cw_ t.size (E k hk)) d.size hA hU aa am hk (by omega) hr).mono ?_
  rintro e w' ⟨he,D,G,ag,ab,af,A,L,d1,d2,d3⟩
  have ae:∀x∈aR false W.heap.size ag A L,m.heap.size<=x:=fun x hx=>by
   rcases d3 x hx with l|l
   ·exact E x l
   ·exact cw_ d.size l
  refine⟨he,U.heap.size,ag,ab,af,A,L,G,⟨⟨D.os.trans d.os,D.tape.trans d.tape,D.output.trans d.output,cw_ d.size D.size,fun k a=>?_⟩,y.size⟩,⟨d.size,d1⟩,d2,ae⟩
  rw[D.block k (cn_ a d.size) (fun hm=>by have:=E k hm;omega),d.block k a]
 ·obtain⟨W0,z,q,p,j,i,G,⟨g1,g2⟩,⟨g3,g4⟩,S,g6⟩:=hq;have ac:=S.blk;refine⟨_,_,_,_,_,ac,⟨_,_,_,rfl⟩,?_,vC S.out,by rw[g1.block _ (by omega)];exact ai,by omega,fun U B Y=>?_⟩
  ·rcases S.tape with ⟨_,x,c,e⟩|⟨g,o,c,e,_⟩<;>exact⟨_,_,_,e⟩
  ·have u:Below w.heap.size w W:=t.trans (g1.mono t.size);have hS:=S.kept (G:=fun k=>G k\/(k∈aR false b z j i/\k≠b)) (fun _ h=>cl_ h) (fun k a hn=>ck_ ⟨a,hn⟩)
   have H:∀k,(G k\/(k∈aR false b z j i/\k≠b))->k≠w.heap.size+1/\k<W.heap.size:=fun k a=>by
    rcases a with l|⟨l,_⟩
    ·refine⟨?_,(S.apart k l).1⟩;rcases g4.new k l with Z|Z
     ·have:=hF k Z;omega
     ·omega
    ·have:=g6 k l;exact⟨by omega,S.lt k l⟩
   refine⟨⟨B.os.trans u.os,B.tape.trans u.tape,B.output.trans u.output,by rw[Y];exact u.size,fun k a=>?_⟩,fun k=>G k\/(k∈aR false b z j i/\k≠b),⟨fun k a=>cl_ (g4.sub k a),fun k a=>?_⟩,fun k a=>by rw[Y];exact(H k a).2,hS.keep (fun k a=>B.block k (H k a).2 (by simpa using (H k a).1)) dX⟩
   ·rw[B.block k (cn_ a u.size) (by simp;omega),u.block k a]
   ·rcases a with l|⟨l,_⟩
    ·rcases g4.new k l with Z|Z
     ·exact cl_ Z
     ·exact ck_ (by omega)
    ·exact ck_ (by have:=g6 k l;omega)
def sL(a:Nat)(p q:Option Addr)(w:aG)(Q:World->Prop)(E:Nat->Nat->Prop)
 (c:∀W,(callFunc a #[.pointer p,.pointer q]).run prog W=.ok (.enter a #[.pointer p,.pointer q]) W)
 (u:∀m,m=(w.alloc (.cells #[Iv0 0] 30)).alloc (.cells #[Iv0 0] 3)->Calls prog a #[.pointer p,.pointer q] m fun e w'=>
   (e=aZ (.tuple #[])/\w'.heap[w.heap.size]?=some (.cells #[Iv0 0] 30 (0,0))/\w'.heap[w.heap.size+1]?=some (.cells #[Iv0 0] 3 (0,0))/\Q w')\/
   ∃k n,k≠0/\e=.panicked [{ v:=.iface 94 (.agg #[Iv0 (k:Nat),Iv0 (n:Nat)]),recovered:=false }]/\Below m.heap.size m w'/\E k n):
 Calls prog 21 #[.func (.func a) #[] #[.pointer p,.pointer q]] w fun e w'=>
  (e=aZ (.tuple #[Iv0 0,Iv0 0])/\∃d,Q d/\w'=(d.setCell (aH w.heap.size 0) (Iv0 0)).setCell (aH (w.heap.size+1) 0) (Iv0 0))\/
  ∃k n,k≠0/\e=aZ (.tuple #[Iv0 (k:Nat),Iv0 (n:Nat)])/\Below w.heap.size w w'/\E k n:=by
 have C:=vE;have l:Below w.heap.size w ((w.alloc (.cells #[Iv0 0] 30)).alloc (.cells #[Iv0 0] 3)):=((co_ _ w).alloc cL _).alloc (by simp) _
 have z:=aB (u _ rfl);have H:=c ((w.alloc (.cells #[Iv0 0] 30)).alloc (.cells #[Iv0 0] 3));clear u c;go_enter_defers func21,ntmps21
 go_wp2_with fail;refine z.mono ?_;rintro e d (⟨rfl,h,g,x⟩|⟨k,n,y,rfl,b,A⟩)
 ·have D:=aB x;clear x;have o:=kT h (i:=0) rfl;have r:=kT g (i:=0) rfl;have J:=mO (i:=0) h;have K:=mO (i:=0) g;have L:=pH h;have M:=pH g;go_wp2_with fail;refine leaves_cons (f:=43) (args:= #[bH w.heap.size,bH (w.heap.size+1)]) (by simp) (by simp[go_sem]) ?_
  refine(GB (aH w.heap.size 0) (aH (w.heap.size+1) 0) _).mono ?_;rintro e G I ⟨rfl,rfl,rfl⟩;simp[Leaves,settle,results,results21,go_sem,o,r];exact cl_ ⟨d,D,rfl⟩
 ·have h:d.heap[w.heap.size]?=some (.cells #[Iv0 0] 30 (0,0)):=by rw[b.block _ (by simp;omega)];exact jM _ _ _
  have g:d.heap[w.heap.size+1]?=some (.cells #[Iv0 0] 3 (0,0)):=by rw[b.block _ (by simp)];exact gM _ _ _
  have F:Below w.heap.size w d:=l.trans (b.mono (by simp;omega))
  have B:=aB (cL_ y A);clear b l z A y;go_wp2_with fail;refine leaves_cons (f:=43) (args:= #[bH w.heap.size,bH (w.heap.size+1)]) (by simp) (by simp[go_sem]) ?_
  refine(AH w.heap.size (w.heap.size+1) k n [] _ h g (cW_ _)).mono ?_;rintro e G m ⟨rfl,rfl,t,o,r⟩;have s:=F.trans t;simp[Leaves,settle,results,results21,go_sem,o,r];obtain⟨j,rfl⟩:∃j,k=j+1:=⟨k-1,by have:=B.1;omega⟩
  exact ck_ ⟨j,n,⟨by simp,rfl⟩,s,B.2⟩
def FB.of_lt{cb:Nat}{w w':aG}(h:Below w.heap.size w w')(a:cb<w.heap.size):FB cb cb w w':=FB.of_below h ⟨a,cL⟩
def TY(fp:eQ)(F:bX)(w:aG)(xs:List Value)(code:List (Option aI)):Prop:=
 xs.length=code.length/\∀(i:Nat) o,code[i]?=some o->∃u,xs[i]?=some u/\(match o with|none=>u=.nilIface|some i=>lQ fp F w u i)
def TY.keep{fp:eQ}{F G:bX}{w w':aG}{xs:List Value}{a:List (Option aI)}(h:TY fp F w xs a)(d:∀b,F b->w'.heap[b]?=w.heap[b]?)(g:∀b,F b->G b):TY fp G w' xs a:=
 ⟨h.1,fun i o e=>by
   obtain⟨u,f,c⟩:=h.2 i o e;refine⟨u,f,?_⟩;cases o with
   |none=>exact c
   |some j=>exact lQ.keep c d g⟩
def LM(fp:eQ)(fb:Nat->Nat)(nms:cN)(F:bX)(w:aG)(fv:aQ):Prop:=
 (nms=[]/\fv=bF)\/∃g cap,fv=.slice (some (aH g 0)) nms.length cap/\F g/\nms.length<=cap/\g<w.heap.size/\∀k (h:k<nms.length),w.cell? (aH g k)=some (fp k)/\fp k=bH (fb k)/\F (fb k)/\∃x,w.heap[fb k]?=some (.cells #[.string (bs nms[k]),x] 136 (0,0))
def LM.keep{fp:eQ}{fb:Nat->Nat}{a:cN}{F G:bX}{w w':aG}{l:aQ}(h:LM fp fb a F w l)(f:∀b,F b->w'.heap[b]?=w.heap[b]?)(i:∀b,F b->G b)(r:w.heap.size<=w'.heap.size):LM fp fb a G w' l:=by
 rcases h with h|⟨g,d,n,e,q,m,o⟩
 ·exact cl_ h
 ·refine ck_ ⟨g,d,n,i g e,q,cn_ m r,fun k c=>?_⟩
  obtain⟨s,p,j,x,t⟩:=o k c;exact⟨by rw[World.cell?_of_block (f g e)];exact s,p,i _ j,x,by rw[f _ j];exact t⟩
structure CP(fp:eQ)(fb:Nat->Nat)(nms:cN)(cb:Nat)(F:bX)(w:aG)(code:List (Option aI))(seen:cN):Prop where
 blk:∃fv cv sp,w.heap[cb]?=some (.cells #[fv,cv,sp] 167 (0,0))/\(∃xs,w.ownsRow (cb+1) 206 1 cv code.length xs/\TY fp F w xs code)/\eF F w sp seen/\LM fp fb nms F w fv
 fix:∀k,F k->k<w.heap.size/\k≠cb/\lV cb w≠some k
section
variable {fp:eQ} {fb:Nat->Nat} {nms:cN} {cb:Nat} {F:bX} {w w':aG} {code:List (Option aI)} {seen:cN}
def CP.lt(h:CP fp fb nms cb F w code seen):cb<w.heap.size:=by
 obtain⟨_,_,_,a,_⟩:=h.blk;exact aC a
def jD{a v1 v2:aQ}(h:w.heap[cb]?=some (.cells #[a,v1,v2] 167 (0,0))):lV cb w=v1.ownBlock:=by unfold lV;rw[h];rfl
def CP.grow(h:CP fp fb nms cb F w code seen)(a:Below w.heap.size w w'):CP fp fb nms cb F w' code seen:=by
 have c:=h.lt;obtain⟨t,i,f,m,⟨p,g,q⟩,l,n⟩:=h.blk;have d:∀b,F b->w'.heap[b]?=w.heap[b]?:=fun b e=>a.block b (h.fix b e).1
 refine⟨⟨t,i,f,by rw[a.block _ c];exact m,⟨p,iN g a,q.keep d dX⟩,eF.keep d dX l,n.keep d dX a.size⟩,fun k j=>?_⟩
 obtain⟨r,o,s⟩:=h.fix k j;exact⟨cn_ r a.size,o,by rw[pO (a.block cb c)];exact s⟩
def CP.new(h:CP fp fb nms cb F w code seen)(o:Obj):Loc cb cb w w.heap.size o (w.alloc o)/\CP fp fb nms cb F (w.alloc o) code seen:=by
 have a:=h.lt;have b:Below w.heap.size w (w.alloc o):=(co_ _ _).alloc cL _;refine⟨⟨FB.of_lt b a,aO _ _ rfl _,fun e=>?_,by omega⟩,h.grow b⟩
 obtain⟨i,j,f,d,⟨g,c,_⟩,_⟩:=h.blk;rw[pO (b.block cb a),jD d] at e;have:=cP c _ e;omega
def aI_:(prog.info? 206).map (fun i=>(i.zero,i.size,i.bytes))=some (some .nilIface,1,16):=by kernel_rfl
def X2(w:aG)(u:aQ):∀j v,([u]:List Value)[j]?=some v->(w.alloc (.cells #[u] 206)).cell? ((⟨w.heap.size,0,none⟩:Addr).add j)=some v:=by
 intro j v a;match j,a with
 |0,a=>simp at a;subst a;simp[Addr.add,go_sem]
 |j+1,a=>simp at a
def bg_(fp:eQ)(F:bX)(w:aG)(u:aQ):Option aI->Prop
 |none=>u=.nilIface
 |some i=>lQ fp F w u i
def bg_.one{u:aQ}{o:Option aI}(h:bg_ fp F w u o):u.oneCell'=true/\(u=.nilIface\/∃t z,u=.iface t z):=by
 cases o with
 |none=>rw[show u=.nilIface from h];exact⟨rfl,cl_ rfl⟩
 |some i=>obtain⟨t,z,rfl⟩:=lQ.form h;exact⟨rfl,ck_ ⟨t,z,rfl⟩⟩
def M5(cb n:Nat)(C P A u:aQ)(xs:List Value)(w:aG)(f:w.heap[cb]?=some (.cells #[C,P,A] 167 (0,0)))(g:w.ownsRow (cb+1) 206 1 P n xs)(q:u.oneCell'=true)(Y:u=.nilIface\/∃t z,u=.iface t z)(hn:n<=1000000):
 Calls prog 117 #[bH cb,u] w fun e w'=>e=aZ (Iv0 n)/\∃j,w'.heap[cb]?=some (.cells #[C,j,A] 167 (0,0))/\w'.ownsRow (cb+1) 206 1 j (n+1) (xs++[u])/\FB cb cb w w':=by
 obtain⟨X,Z,E,H,J⟩:=info_parts aI_;obtain⟨x,c,rfl⟩:=dE g;have M:=aC f;have c1:w.cell? (aH cb 1)=some (.slice x n c):=aA f rfl;have K:=aB g;have G:=aB f;have m:∀v∈([u]:List Value),v.oneCell'=true:=fun v S=>by simp at S;rw[S];exact q
 have HONE:=aB m;clear g f m q
 have r:∀p:aQ,u=p->(p=.nilIface\/∃t z,p=.iface t z)->Calls prog 117 #[bH cb,p] w fun e w'=>e=aZ (Iv0 n)/\∃j,w'.heap[cb]?=some (.cells #[C,j,A] 167 (0,0))/\w'.ownsRow (cb+1) 206 1 j (n+1) (xs++[p])/\FB cb cb w w':=by
  intro p e I;subst e;rcases I with rfl|⟨t,z,rfl⟩
  all_goals
   go_in
   go_wp2_with (at_builtin;refine wpList_append_lies _ (by rfl) _ _ 134 (by rfl) (cb+1) 206 X _ 1 16 underlying134 Z E H J rfl (by decide) (.slice x n c) n xs (by rfl) (K.alloc _) (aH w.heap.size 0) 1 1 [_] (by rfl) (by rfl) (X2 w _) HONE (by decide) (by unfold maxLen;omega) (by omega) (by simp;omega) (w.heap.size+1) (by simp) ?_)
   intro B s N d b l V;have D:some cb≠(Value.slice x n c).ownBlock:=fun e=>by have:=(K.lt cb e.symm).1;omega
   have a:N.heap[cb]?=some (.cells #[C,.slice x n c,A] 167 (0,0)):=by
    rw[b.block cb (by simp;omega) D,cq_ _ _ _ M];exact G
   have U:N.cell? (aH cb 1)=some (.slice x n c):=aA a rfl;have aa:=aD a (i:=1);have T:=aC a
   have L:B≠cb:=by
    have:=(d.lt B rfl).1;omega
   have HOWN:=aB d;have Q:=aB b;have F:=aB l;have y:=aB a;clear d b l a;go_wp2
   go_ret;refine⟨by go_num,.slice (some (aH B 0)) (n+1) s,aK y,aW HOWN fun k o=>cm_ _ _ _ _ (by cases o;exact L),⟨?_,fun k o W O=>?_,fun k o=>?_⟩⟩
   ·exact(((co_ cb w).alloc (by omega) _).grown Q (by simp;omega) (fun k o=>by have:=(K.lt k o).1;omega)).setCell (by exact cy_ cb) _
   ·rw[jD G.out] at O;rw[cm_ _ _ _ _ W,Q.out.block k (by simp;omega) (fun e=>O e.symm),cq_ _ _ _ o]
   ·rw[jD (aK y.out),jD G.out] at*;cases o;rcases F with h|h
    ·exact cl_ h
    ·exact ck_ (by show w.heap.size<=B;omega)
 exact r u rfl Y
def CP.step{a:List (Option aI)}{l b g:aQ}{xs':List Value}(h:CP fp fb nms cb F w code seen)(c:FB cb cb w w')(f:w'.heap[cb]?=some (.cells #[l,b,g] 167 (0,0)))(d:w'.ownsRow (cb+1) 206 1 b a.length xs')(r:TY fp F w' xs' a)(j:eF F w' g seen)(i:LM fp fb nms F w' l):CP fp fb nms cb F w' a seen:=
 ⟨⟨l,b,g,f,⟨xs',d,r⟩,j,i⟩,fun k n=>by
   obtain⟨p,o,q⟩:=h.fix k n;refine⟨cn_ p c.bel.size,o,fun e=>?_⟩
   rcases c.row k e with m|m
   ·exact q m
   ·omega⟩
def CP.fixed(h:CP fp fb nms cb F w code seen)(a:FB cb cb w w'):∀b,F b->w'.heap[b]?=w.heap[b]?:=fun b e=>by
 obtain⟨c,f,d⟩:=h.fix b e;exact a.blk b c f d
def sO{u:aQ}{o:Option aI}(h:CP fp fb nms cb F w code seen)(k:bg_ fp F w u o)(D:code.length<=1000000):
 Calls prog 117 #[bH cb,u] w fun e w'=>e=aZ (Iv0 code.length)/\CP fp fb nms cb F w' (code++[o]) seen/\FB cb cb w w':=by
 obtain⟨H,p,m,s,⟨A,n,c⟩,q,t⟩:=h.blk;obtain⟨z,v⟩:=k.one;refine(M5 cb code.length H p m u A w s n z v D).mono ?_;rintro e w' ⟨G,B,r,I,f⟩;have g:=h.fixed f;refine⟨G,h.step f r (by rw[cp_];exact I) ?_ (eF.keep g dX q) (t.keep g dX f.bel.size),f⟩
 have l:=c.keep g dX;refine⟨by simp[c.1],fun i C a=>?_⟩
 rcases cR_ i code.length with d|d
 ·rw[cX_ d] at a;obtain⟨y,E,x⟩:=l.2 i C a;exact⟨y,by rw[cX_ (by rw[c.1];exact d)];exact E,x⟩
 ·rw[cN_ d] at a
  have b:i-code.length=0:=by
   have:=(cQ_.1 a).1;simp at this;omega
  rw[b] at a;simp at a;subst a;refine⟨u,by rw[cN_ (by rw[c.1];exact d),c.1,b];rfl,?_⟩
  cases o with
  |none=>exact k
  |some j=>exact lQ.keep k g dX
def RW(h:CP fp fb nms cb F w code seen)(j:seen.length<=1000000):
 Calls prog 157 #[bH cb] w fun e w'=>e=aZ (Iv0 seen.length)/\w'=w:=by
 obtain⟨r,m,f,c, -,g, -⟩:=h.blk;have q:=aC c;have p:w.cell? (aH cb 2)=some f:=aA c rfl;cases seen with
 |nil=>
  obtain rfl:f=.pointer none:=g;clear h c;go_in
  go_wp2
  go_ret;exact⟨rfl,rfl⟩
 |cons x l=>
  obtain⟨b,o,rfl,k,a,d⟩:=g;have n:w.cell? (aH b 1)=some (Iv0 l.length):=aA a rfl;have i:=aC a;simp only[ct_] at j;clear h c a d;go_in
  go_wp2
  go_ret;exact⟨by go_num,rfl⟩
end
section
variable {fp:eQ} {fb:Nat->Nat} {nms:cN} {cb:Nat} {F:bX} {w w':aG} {code:List (Option aI)} {seen:cN}
def U1(w:aG)(cb n:Nat)(x:cD)(p:Option Addr)(f:cb<w.heap.size)(b:w.cell? (aH cb 2)=some (.pointer p))(c:w.frozen? (aH cb 2)=false)
 (a:Hid (Calls prog 157 #[bH cb] w.drew fun e w'=>e=aZ (Iv0 n)/\w'=w.drew)):
 Calls prog 115 #[bH cb,.string (bs x)] w fun e w'=>e=aZ (.tuple #[])/\aV ((w.setCell (aH cb 2) (bH w.heap.size)).alloc (.cells #[.string (bs x),Iv0 n,.pointer p] 124)) w':=by
 go_in
 go_wp2_with fail;go_region_law (go_simp;go_at_call 157;refine a.mono ?_;rintro e d ⟨rfl,rfl⟩)
 all_goals
  go_wp2
  go_end0;exact⟨rfl,aV.drew _⟩
def YU(x:cD)(h:CP fp fb nms cb F w code seen)(D:seen.length<=1000000):
 Calls prog 115 #[bH cb,.string (bs x)] w fun e w'=>e=aZ (.tuple #[])/\CP fp fb nms cb (fun k=>F k\/k=w.heap.size) w' code (x::seen)/\FB cb cb w w':=by
 have m:=h.lt;obtain⟨u,q,H,c,⟨B,j,C⟩,t,y⟩:=h.blk;obtain⟨p,rfl⟩:=t.form;have v:CP fp fb nms cb F w.drew code seen:=h.grow (aV.drew w).below;refine(U1 w cb seen.length x p m (aA c rfl) (aD c) (RW v D)).mono ?_;rintro e w' ⟨G,d⟩;generalize g:(w.setCell (aH cb 2) (bH w.heap.size)).alloc (.cells #[.string (bs x),Iv0 seen.length,.pointer p] 124)=W at d
 have o:∀k,k<w.heap.size->k≠cb->w'.heap[k]?=w.heap[k]?:=fun k c j=>by
  rw[d.heap,<-g,cq_ _ _ _ (by simpa using c),cm_ _ _ _ _ j]
 have l:w'.heap[cb]?=some (.cells #[u,q,bH w.heap.size] 167 (0,0)):=by
  rw[d.heap,<-g,cq_ _ _ _ (by simpa using m)];exact aK c
 have n:w'.heap[w.heap.size]?=some (.cells #[.string (bs x),Iv0 seen.length,.pointer p] 124 (0,0)):=by
  rw[d.heap,<-g];exact aO _ _ (by simp) _
 have A:w'.heap.size=w.heap.size+1:=by rw[d.heap,<-g];simp
 have f:lV cb w'=lV cb w:=by rw[jD l,jD c]
 have r:∀b,F b->w'.heap[b]?=w.heap[b]?:=fun b s=>o b (h.fix b s).1 (h.fix b s).2.1
 have i:=fun k (e:q.ownBlock=some k)=>j.lt k e
 refine⟨G,⟨⟨u,q,_,l,⟨B,aW j fun k e=>o k (i k e).2 (by have:=(i k e).1;omega),C.keep r fun _ h=>cl_ h⟩,⟨w.heap.size,.pointer p,rfl,ck_ rfl,n,eF.keep r (fun _ h=>cl_ h) t⟩,y.keep r (fun _ h=>cl_ h) (by omega)⟩,fun k a=>?_⟩,⟨?_,fun k c j _=>o k c j,fun k e=>cl_ (by rw[<-f];exact e)⟩⟩
 ·rcases a with a|rfl
  ·obtain⟨I,z,E⟩:=h.fix k a;exact⟨by omega,z,by rw[f];exact E⟩
  ·refine⟨by omega,by omega,fun e=>?_⟩
   rw[f,jD c] at e;have:=(i _ e).2;omega
 ·refine⟨by rw[d.os,<-g];rfl,by rw[d.tape,<-g];rfl,by rw[d.output,<-g];rfl,by omega,fun k a=>o k (by omega) (by omega)⟩
def S8{x y:cD}{l:cN}(h:y∈x::l)(a:x≠y):y∈l/\dU (x::l) y=dU l y:=by
 refine⟨?_,by rw[dU,if_neg a]⟩
 rcases cv_.1 h with e|e
 ·exact absurd e.symm a
 ·exact e
def PT(a:cD)(h:CP fp fb nms cb F w code seen)(r:a∈seen)(_hn:seen.length<=1000000):
 Calls prog 127 #[bH cb,.string (bs a)] w fun e w'=>e=aZ (Iv0 (dU seen a))/\w'=w:=by
 obtain⟨L,G,n,j, -,i, -⟩:=h.blk;have K:=aC j;have I:w.cell? (aH cb 2)=some n:=aA j rfl;have q:Hid (eF F w n seen/\a∈seen):=⟨i,r⟩;obtain⟨p,rfl⟩:=i.form;clear h j i r;go_in
 go_wp2_with fail;go_loopg [5] seen.length (fun gk v wr=>∃l,l.length=gk/\eF F w v l/\a∈l/\dU l a=dU seen a/\wr=w)
 case atStart=>exact⟨seen,rfl,q.1,q.2,rfl,rfl⟩
 case round=>
  obtain⟨l,k,B,f,d,rfl⟩:=hrel;cases l with
  |nil=>cases f
  |cons x l=>
   obtain⟨b,o,rfl,E,c,g⟩:=B;obtain⟨s,rfl⟩:=g.form;have J:wr.cell? (aH b 0)=some (.string (bs x)):=aA c rfl;have H:wr.cell? (aH b 1)=some (Iv0 l.length):=aA c rfl;have D:wr.cell? (aH b 2)=some (.pointer s):=aA c rfl;have t:=aC c;by_cases m:x=a
   ·subst m;have z:dU (x::l) x=l.length:=by rw[dU,if_pos rfl]
    rw[z] at d;clear c g f;go_wp2
    go_ret;exact⟨by rw[<-d];rfl,rfl⟩
   ·obtain⟨y,C⟩:=S8 f m;have u:((bs x).toList==(bs a).toList)=false:=by rw[cE,cE];simpa using m
    have A:Hid (eF F wr (.pointer s) l):=g;rw[C] at d;clear c g f;go_wp2
    go_roundg l.length
    case measure=>simp at k;omega
    case rel=>exact⟨l,rfl,A,y,d,rfl⟩
def uH(a:cD)(h:CP fp fb nms cb F w code seen)(v:a∈nms)(N:nms.length<=1000000):
 Calls prog 82 #[bH cb,.string (bs a)] w fun e w'=>e=aZ (fp (nms.findIdx fun x=>x==a))/\w'=w:=by
 obtain⟨S,K,I,p, -, -,B⟩:=h.blk;rcases B with ⟨rfl,_⟩|⟨g,q,rfl,G,t,H,b⟩
 ·cases v
 have M:=aC p;have L:w.cell? (aH cb 0)=some (.slice (some (aH g 0)) nms.length q):=aA p rfl;have u:=aB b;clear h p b;go_in
 go_wp2_with fail;go_loopg [6,12] nms.length (fun gk _ i wr=>∃j:Nat,j+gk=nms.length/\i=Iv0 j/\j<=nms.findIdx (fun x=>x==a)/\wr=w)
 case atStart=>exact⟨0,by omega,rfl,cU_ _,rfl⟩
 case round=>
  obtain⟨j,Q,rfl,f,rfl⟩:=hrel;have s:nms.findIdx (fun x=>x==a)<nms.length:=List.findIdx_lt_length_of_exists ⟨a,v,by simp⟩
  have o:j<nms.length:=by omega
  obtain⟨m,rfl⟩:∃m,gk=m+1:=⟨gk-1,by omega⟩
  obtain⟨E,k,P,x,n⟩:=u j o;rw[k] at E;have D:wr.cell? (aH (fb j) 0)=some (.string (bs nms[j])):=aA n rfl;have z:=aC n;have O:(0:Int)<=(j:Int):=by omega
  have J:(j:Int)<(nms.length:Int):=by omega
  by_cases l:nms[j]=a
  ·have r:nms.findIdx (fun x=>x==a)=j:=by
    refine dP_ (Nat.not_lt.1 fun c=>?_) f
    have:=List.not_of_lt_findIdx c;simp[l] at this
   have C:=aB k;rw[l] at D;clear n k u;go_wp2
   go_ret;exact⟨by rw[r,C.out];rfl,rfl⟩
  ·have A:((bs nms[j]).toList==(bs a).toList)=false:=by rw[cE,cE];simpa using l
   have d:j+1<=nms.findIdx (fun x=>x==a):=by
    rcases dd_ f with e|e
    ·have:=dE_ (w:=s);simp only[<-e] at this;simp at this;exact absurd this l
    ·exact e
   generalize nms[j]=y at*;clear n k;go_wp2
   go_roundg m
   case measure=>omega
   case rel=>exact⟨j+1,by omega,by go_num,d,rfl⟩
end
def yT(v:aQ)(w:aG):(typeAssert (.iface 243 v) 59 243 true).run prog w=.ok (.tuple #[v,.bool true]) w:=by kernel_rfl
def yS(v:aQ)(w:aG):(typeAssert (.iface 244 v) 59 243 true).run prog w=.ok (.tuple #[.agg #[Iv0 0,Iv0 0],.bool false]) w:=by kernel_rfl
def yR(v:aQ)(w:aG):(typeAssert (.iface 244 v) 59 244 true).run prog w=.ok (.tuple #[v,.bool true]) w:=by kernel_rfl
def FT(v:aQ)(w:aG):(typeAssert (.iface 246 v) 59 243 true).run prog w=.ok (.tuple #[.agg #[Iv0 0,Iv0 0],.bool false]) w:=by kernel_rfl
def FR(v:aQ)(w:aG):(typeAssert (.iface 246 v) 59 244 true).run prog w=.ok (.tuple #[.agg #[Iv0 0,.string ⟨#[]⟩],.bool false]) w:=by kernel_rfl
def NX(v:aQ)(w:aG):(typeAssert (.iface 246 v) 59 246 true).run prog w=.ok (.tuple #[v,.bool true]) w:=by kernel_rfl
def vH(v:aQ)(w:aG):(typeAssert (.iface 195 v) 59 243 true).run prog w=.ok (.tuple #[.agg #[Iv0 0,Iv0 0],.bool false]) w:=by kernel_rfl
def vG(v:aQ)(w:aG):(typeAssert (.iface 195 v) 59 244 true).run prog w=.ok (.tuple #[.agg #[Iv0 0,.string ⟨#[]⟩],.bool false]) w:=by kernel_rfl
def yQ(v:aQ)(w:aG):(typeAssert (.iface 195 v) 59 246 true).run prog w=.ok (.tuple #[.agg #[Iv0 0,.bool false],.bool false]) w:=by kernel_rfl
def sP(v:aQ)(w:aG):(typeAssert (.iface 195 v) 59 195 true).run prog w=.ok (.tuple #[v,.bool true]) w:=by kernel_rfl
def FM(v:aQ)(w:aG):(typeAssert (.iface 197 v) 59 243 true).run prog w=.ok (.tuple #[.agg #[Iv0 0,Iv0 0],.bool false]) w:=by kernel_rfl
def FL(v:aQ)(w:aG):(typeAssert (.iface 197 v) 59 244 true).run prog w=.ok (.tuple #[.agg #[Iv0 0,.string ⟨#[]⟩],.bool false]) w:=by kernel_rfl
def NT(v:aQ)(w:aG):(typeAssert (.iface 197 v) 59 246 true).run prog w=.ok (.tuple #[.agg #[Iv0 0,.bool false],.bool false]) w:=by kernel_rfl
def yU(v:aQ)(w:aG):(typeAssert (.iface 197 v) 59 195 true).run prog w=.ok (.tuple #[.agg #[Iv0 0,.string ⟨#[]⟩],.bool false]) w:=by kernel_rfl
def NS(v:aQ)(w:aG):(typeAssert (.iface 197 v) 59 197 true).run prog w=.ok (.tuple #[v,.bool true]) w:=by kernel_rfl
def BV(v:aQ)(w:aG):(typeAssert (.iface 199 v) 59 243 true).run prog w=.ok (.tuple #[.agg #[Iv0 0,Iv0 0],.bool false]) w:=by kernel_rfl
def BU(v:aQ)(w:aG):(typeAssert (.iface 199 v) 59 244 true).run prog w=.ok (.tuple #[.agg #[Iv0 0,.string ⟨#[]⟩],.bool false]) w:=by kernel_rfl
def JD(v:aQ)(w:aG):(typeAssert (.iface 199 v) 59 246 true).run prog w=.ok (.tuple #[.agg #[Iv0 0,.bool false],.bool false]) w:=by kernel_rfl
def wW(v:aQ)(w:aG):(typeAssert (.iface 199 v) 59 195 true).run prog w=.ok (.tuple #[.agg #[Iv0 0,.string ⟨#[]⟩],.bool false]) w:=by kernel_rfl
def JC(v:aQ)(w:aG):(typeAssert (.iface 199 v) 59 197 true).run prog w=.ok (.tuple #[.agg #[Iv0 0,bF],.bool false]) w:=by kernel_rfl
def FN(v:aQ)(w:aG):(typeAssert (.iface 199 v) 59 199 true).run prog w=.ok (.tuple #[v,.bool true]) w:=by kernel_rfl
def BT(v:aQ)(w:aG):(typeAssert (.iface 201 v) 59 243 true).run prog w=.ok (.tuple #[.agg #[Iv0 0,Iv0 0],.bool false]) w:=by kernel_rfl
def BS(v:aQ)(w:aG):(typeAssert (.iface 201 v) 59 244 true).run prog w=.ok (.tuple #[.agg #[Iv0 0,.string ⟨#[]⟩],.bool false]) w:=by kernel_rfl
def JB(v:aQ)(w:aG):(typeAssert (.iface 201 v) 59 246 true).run prog w=.ok (.tuple #[.agg #[Iv0 0,.bool false],.bool false]) w:=by kernel_rfl
def wV(v:aQ)(w:aG):(typeAssert (.iface 201 v) 59 195 true).run prog w=.ok (.tuple #[.agg #[Iv0 0,.string ⟨#[]⟩],.bool false]) w:=by kernel_rfl
def JA(v:aQ)(w:aG):(typeAssert (.iface 201 v) 59 197 true).run prog w=.ok (.tuple #[.agg #[Iv0 0,bF],.bool false]) w:=by kernel_rfl
def FK(v:aQ)(w:aG):(typeAssert (.iface 201 v) 59 199 true).run prog w=.ok (.tuple #[.agg #[Iv0 0,.nilIface,.nilIface],.bool false]) w:=by kernel_rfl
def FJ(v:aQ)(w:aG):(typeAssert (.iface 201 v) 59 201 true).run prog w=.ok (.tuple #[v,.bool true]) w:=by kernel_rfl
def yX(v:aQ)(w:aG):(typeAssert (.iface 203 v) 59 243 true).run prog w=.ok (.tuple #[.agg #[Iv0 0,Iv0 0],.bool false]) w:=by kernel_rfl
def yW(v:aQ)(w:aG):(typeAssert (.iface 203 v) 59 244 true).run prog w=.ok (.tuple #[.agg #[Iv0 0,.string ⟨#[]⟩],.bool false]) w:=by kernel_rfl
def FW(v:aQ)(w:aG):(typeAssert (.iface 203 v) 59 246 true).run prog w=.ok (.tuple #[.agg #[Iv0 0,.bool false],.bool false]) w:=by kernel_rfl
def vI(v:aQ)(w:aG):(typeAssert (.iface 203 v) 59 195 true).run prog w=.ok (.tuple #[.agg #[Iv0 0,.string ⟨#[]⟩],.bool false]) w:=by kernel_rfl
def FU(v:aQ)(w:aG):(typeAssert (.iface 203 v) 59 197 true).run prog w=.ok (.tuple #[.agg #[Iv0 0,bF],.bool false]) w:=by kernel_rfl
def BX(v:aQ)(w:aG):(typeAssert (.iface 203 v) 59 199 true).run prog w=.ok (.tuple #[.agg #[Iv0 0,.nilIface,.nilIface],.bool false]) w:=by kernel_rfl
def BW(v:aQ)(w:aG):(typeAssert (.iface 203 v) 59 201 true).run prog w=.ok (.tuple #[.agg #[Iv0 0,.string ⟨#[]⟩,.nilIface],.bool false]) w:=by kernel_rfl
def yY(v:aQ)(w:aG):(typeAssert (.iface 203 v) 59 203 true).run prog w=.ok (.tuple #[v,.bool true]) w:=by kernel_rfl
def FP(v:aQ)(w:aG):(typeAssert (.iface 192 v) 59 243 true).run prog w=.ok (.tuple #[.agg #[Iv0 0,Iv0 0],.bool false]) w:=by kernel_rfl
def FO(v:aQ)(w:aG):(typeAssert (.iface 192 v) 59 244 true).run prog w=.ok (.tuple #[.agg #[Iv0 0,.string ⟨#[]⟩],.bool false]) w:=by kernel_rfl
def NW(v:aQ)(w:aG):(typeAssert (.iface 192 v) 59 246 true).run prog w=.ok (.tuple #[.agg #[Iv0 0,.bool false],.bool false]) w:=by kernel_rfl
def yV(v:aQ)(w:aG):(typeAssert (.iface 192 v) 59 195 true).run prog w=.ok (.tuple #[.agg #[Iv0 0,.string ⟨#[]⟩],.bool false]) w:=by kernel_rfl
def NU(v:aQ)(w:aG):(typeAssert (.iface 192 v) 59 197 true).run prog w=.ok (.tuple #[.agg #[Iv0 0,bF],.bool false]) w:=by kernel_rfl
def JF(v:aQ)(w:aG):(typeAssert (.iface 192 v) 59 199 true).run prog w=.ok (.tuple #[.agg #[Iv0 0,.nilIface,.nilIface],.bool false]) w:=by kernel_rfl
def JE(v:aQ)(w:aG):(typeAssert (.iface 192 v) 59 201 true).run prog w=.ok (.tuple #[.agg #[Iv0 0,.string ⟨#[]⟩,.nilIface],.bool false]) w:=by kernel_rfl
def FQ(v:aQ)(w:aG):(typeAssert (.iface 192 v) 59 203 true).run prog w=.ok (.tuple #[.agg #[Iv0 0,.string ⟨#[]⟩,.nilIface,.nilIface],.bool false]) w:=by kernel_rfl
def NV(v:aQ)(w:aG):(typeAssert (.iface 192 v) 59 192 true).run prog w=.ok (.tuple #[v,.bool true]) w:=by kernel_rfl
def tX(w:aG)(cb:Nat)(l k:Int)(P:World->Prop)
 (b:Hid (Calls prog 117 #[bH cb,.iface 229 (.agg #[.iface 209 (Iv0 k)])] (w.alloc (.cells #[Iv0 l,Iv0 k] 243)) fun e w'=>(∃k:Nat,e=aZ (Iv0 k))/\P w')):
 Calls prog 96 #[bH cb,.iface 243 (.agg #[Iv0 l,Iv0 k])] w fun e w'=>e=aZ (.tuple #[])/\P w':=by
 have d:=yT;go_in
 go_wp2_with fail;refine b.mono ?_;rintro e c ⟨⟨m,rfl⟩,a⟩;go_wp2
 go_end0;exact⟨rfl,a⟩
def IY(w:aG)(cb:Nat)(l:Int)(s:ByteArray)(P:World->Prop)
 (b:Hid (Calls prog 117 #[bH cb,.iface 229 (.agg #[.iface 213 (.string s)])] (w.alloc (.cells #[Iv0 l,.string s] 244)) fun e w'=>(∃k:Nat,e=aZ (Iv0 k))/\P w')):
 Calls prog 96 #[bH cb,.iface 244 (.agg #[Iv0 l,.string s])] w fun e w'=>e=aZ (.tuple #[])/\P w':=by
 have d:=yS;have f:=yR;go_in
 go_wp2_with fail;refine b.mono ?_;rintro e c ⟨⟨m,rfl⟩,a⟩;go_wp2
 go_end0;exact⟨rfl,a⟩
def SG(w:aG)(cb:Nat)(l:Int)(b:Bool)(P:World->Prop)
 (c:Hid (Calls prog 117 #[bH cb,.iface 229 (.agg #[.iface 211 (.bool b)])] (w.alloc (.cells #[Iv0 l,.bool b] 246)) fun e w'=>(∃k:Nat,e=aZ (Iv0 k))/\P w')):
 Calls prog 96 #[bH cb,.iface 246 (.agg #[Iv0 l,.bool b])] w fun e w'=>e=aZ (.tuple #[])/\P w':=by
 have f:=FT;have g:=FR;have h:=NX;go_in
 go_wp2_with fail;refine c.mono ?_;rintro e d ⟨⟨m,rfl⟩,a⟩;go_wp2
 go_end0;exact⟨rfl,a⟩
def BR(w:aG)(cb:Nat)(l:Int)(s:ByteArray)(k:Nat)(P:World->Prop)
 (c:Hid (Calls prog 127 #[bH cb,.string s] (w.alloc (.cells #[Iv0 l,.string s] 195)) fun e w'=>e=aZ (Iv0 k)/\w'=w.alloc (.cells #[Iv0 l,.string s] 195)))
 (b:Hid (Calls prog 117 #[bH cb,.iface 249 (.agg #[Iv0 k])] (w.alloc (.cells #[Iv0 l,.string s] 195)) fun e w'=>(∃k:Nat,e=aZ (Iv0 k))/\P w')):
 Calls prog 96 #[bH cb,.iface 195 (.agg #[Iv0 l,.string s])] w fun e w'=>e=aZ (.tuple #[])/\P w':=by
 have g:=vH;have h:=vG;have j:=yQ;have f:=sP;go_in
 go_wp2_with fail;refine c.mono ?_;rintro e d ⟨rfl,rfl⟩;go_wp2_with fail;refine b.mono ?_;rintro e i ⟨⟨m,rfl⟩,a⟩;go_wp2
 go_end0;exact⟨rfl,a⟩
def SF(w:aG)(cb n c:Nat)(l:Int)(x:Option Addr)(P Q:World->Prop)
 (h:Hid (Calls prog 128 #[bH cb,.slice x n c] (w.alloc (.cells #[Iv0 l,.slice x n c] 197)) fun e w'=>e=aZ (.tuple #[])/\Q w'))
 (f:Hid (∀W,Q W->W.cell? (aH w.heap.size 1)=some (.slice x n c)/\w.heap.size<W.heap.size))
 (g:Hid (∀W,Q W->Calls prog 117 #[bH cb,.iface 251 (.agg #[Iv0 n])] W fun e w'=>(∃k:Nat,e=aZ (Iv0 k))/\P w')):
 Calls prog 96 #[bH cb,.iface 197 (.agg #[Iv0 l,.slice x n c])] w fun e w'=>e=aZ (.tuple #[])/\P w':=by
 have o:=FM;have p:=FL;have u:=NT;have q:=yU;have r:=NS;go_in
 go_wp2_with fail;refine h.mono ?_;rintro e i ⟨rfl,b⟩;obtain⟨j,s⟩:=f _ b;have a:=aB (g _ b);clear b;go_wp2_with fail;refine a.mono ?_;rintro e t ⟨⟨m,rfl⟩,d⟩;go_wp2
 go_end0;exact⟨rfl,d⟩
def NO(w:aG)(cb:Nat)(l:Int)(h a:TypeId)(d b:aQ)(P Q R:World->Prop)
 (q:Hid (Calls prog 96 #[bH cb,.iface h d] (w.alloc (.cells #[Iv0 l,.iface h d,.iface a b] 199)) fun e w'=>e=aZ (.tuple #[])/\Q w'))
 (j:Hid (∀W,Q W->W.cell? (aH w.heap.size 2)=some (.iface a b)/\w.heap.size<W.heap.size))
 (n:Hid (∀W,Q W->Calls prog 96 #[bH cb,.iface a b] W fun e w'=>e=aZ (.tuple #[])/\R w'))
 (p:Hid (∀W,R W->Calls prog 117 #[bH cb,.iface 252 (.agg #[])] W fun e w'=>(∃k:Nat,e=aZ (Iv0 k))/\P w')):
 Calls prog 96 #[bH cb,.iface 199 (.agg #[Iv0 l,.iface h d,.iface a b])] w fun e w'=>e=aZ (.tuple #[])/\P w':=by
 have t:=BV;have v:=BU;have C:=JD;have x:=wW;have z:=JC;have y:=FN;go_in
 go_wp2_with fail;refine q.mono ?_;rintro e r ⟨rfl,f⟩;obtain⟨s,A⟩:=j _ f;have g:=aB (n _ f);clear f;go_wp2_with fail;refine g.mono ?_;rintro e B ⟨rfl,i⟩;have c:=aB (p _ i);clear i;go_wp2_with fail;refine c.mono ?_;rintro e u ⟨⟨m,rfl⟩,o⟩;go_wp2
 go_end0;exact⟨rfl,o⟩
def NN(w:aG)(cb:Nat)(l:Int)(op:ByteArray)(d:TypeId)(b:aQ)(P Q:World->Prop)
 (i:Hid (Calls prog 96 #[bH cb,.iface d b] (w.alloc (.cells #[Iv0 l,.string op,.iface d b] 201)) fun e w'=>e=aZ (.tuple #[])/\Q w'))
 (f:Hid (∀W,Q W->W.cell? (aH w.heap.size 1)=some (.string op)/\w.heap.size<W.heap.size))
 (h:Hid (∀W,Q W->Calls prog 117 #[bH cb,.iface 254 (.agg #[.string op])] W fun e w'=>(∃k:Nat,e=aZ (Iv0 k))/\P w')):
 Calls prog 96 #[bH cb,.iface 201 (.agg #[Iv0 l,.string op,.iface d b])] w fun e w'=>e=aZ (.tuple #[])/\P w':=by
 have o:=BT;have r:=BS;have x:=JB;have s:=wV;have u:=JA;have t:=FK;have q:=FJ;go_in
 go_wp2_with fail;refine i.mono ?_;rintro e j ⟨rfl,c⟩;obtain⟨n,v⟩:=f _ c;have a:=aB (h _ c);clear c;go_wp2_with fail;refine a.mono ?_;rintro e p ⟨⟨m,rfl⟩,g⟩;go_wp2
 go_end0;exact⟨rfl,g⟩
def tY(w:aG)(cb:Nat)(l:Int)(op:ByteArray)(d a:TypeId)(c b:aQ)(P:World->Prop)
 (g:Hid (Calls prog 129 #[bH cb,.agg #[Iv0 l,.string op,.iface d c,.iface a b]] (w.alloc (.cells #[Iv0 l,.string op,.iface d c,.iface a b] 203)) fun e w'=>e=aZ (.tuple #[])/\P w')):
 Calls prog 96 #[bH cb,.iface 203 (.agg #[Iv0 l,.string op,.iface d c,.iface a b])] w fun e w'=>e=aZ (.tuple #[])/\P w':=by
 have i:=yX;have m:=yW;have q:=FW;have n:=vI;have p:=FU;have o:=BX;have k:=BW;have j:=yY;go_in
 go_wp2_with fail;refine g.mono ?_;rintro e h ⟨rfl,f⟩;go_wp2
 go_end0;exact⟨rfl,f⟩
def sM(w:aG)(cb n c:Nat)(l:Int)(s:ByteArray)(x:Option Addr)(P:World->Prop)
 (b:Hid (Calls prog 130 #[bH cb,.agg #[Iv0 l,.string s,.slice x n c]] (w.alloc (.cells #[Iv0 l,.string s,.slice x n c] 192)) fun e w'=>e=aZ (.tuple #[])/\P w')):
 Calls prog 96 #[bH cb,.iface 192 (.agg #[Iv0 l,.string s,.slice x n c])] w fun e w'=>e=aZ (.tuple #[])/\P w':=by
 have f:=FP;have i:=FO;have p:=NW;have j:=yV;have m:=NU;have k:=JF;have h:=JE;have g:=FQ;have o:=NV;go_in
 go_wp2_with fail;refine b.mono ?_;rintro e d ⟨rfl,a⟩;go_wp2
 go_end0;exact⟨rfl,a⟩
def XH(w:aG)(cb g n d:Nat)(C:Nat->World->Prop)(x:n<=1000000)(k:C 0 w)
 (p:Hid (∀j W,C j W->j<n->g<W.heap.size/\∃t z,W.cell? (aH g j)=some (.iface t z)/\Calls prog 96 #[bH cb,.iface t z] W fun e w'=>e=aZ (.tuple #[])/\C (j+1) w')):
 Calls prog 128 #[bH cb,.slice (some (aH g 0)) n d] w fun e w'=>e=aZ (.tuple #[])/\C n w':=by
 have l:=aB k;clear k;go_in
 go_wp2_with fail;go_loopg [5,8] n (fun gk _ i wr=>∃j:Nat,j+gk=n/\i=Iv0 j/\C j wr)
 case atStart=>exact⟨0,by omega,rfl,l⟩
 case round=>
  obtain⟨j,A,rfl,b⟩:=hrel;by_cases c:j<n
  ·obtain⟨m,rfl⟩:∃m,gk=m+1:=⟨gk-1,by omega⟩
   obtain⟨s,t,z,v,a⟩:=p _ _ b c;have q:=aB a;have y:(0:Int)<=(j:Int):=by omega
   have u:(j:Int)<(n:Int):=by omega
   clear b a;go_wp2_with fail;refine q.mono ?_;rintro e r ⟨rfl,o⟩;go_wp2
   go_roundg m
   case measure=>omega
   case rel=>exact⟨j+1,by omega,by go_num,o⟩
  ·have f:j=n:=by omega
   subst f;have h:=aB b;clear b;go_wp2
   go_end0;exact⟨rfl,h⟩
def M0(w:aG)(cb:Nat):Calls prog 128 #[bH cb,bF] w fun e w'=>e=aZ (.tuple #[])/\w'=w:=by
 go_in
 go_wp2_with fail;go_loopg [5,8] 0 (fun _ _ i wr=>i=Iv0 0/\wr=w)
 case atStart=>exact⟨rfl,rfl⟩
 case round=>
  obtain⟨rfl,rfl⟩:=hrel;go_wp2
  go_end0;exact⟨rfl,rfl⟩
def TM(w:aG)(cb n c:Nat)(l:Int)(x:Option Addr)(P Q:World->Prop)
 (h:Hid (Calls prog 128 #[bH cb,.slice x n c] (w.alloc (.cells #[Iv0 l,.string (bs [108,101,110]),.slice x n c] 192)) fun e w'=>e=aZ (.tuple #[])/\Q w'))
 (f:Hid (∀W,Q W->W.cell? (aH w.heap.size 1)=some (.string (bs [108,101,110]))/\w.heap.size<W.heap.size))
 (g:Hid (∀W,Q W->Calls prog 117 #[bH cb,.iface 278 (.agg #[])] W fun e w'=>(∃k:Nat,e=aZ (Iv0 k))/\P w')):
 Calls prog 130 #[bH cb,.agg #[Iv0 l,.string (bs [108,101,110]),.slice x n c]] w fun e w'=>e=aZ (.tuple #[])/\P w':=by
 have p:((bs [108,101,110]).toList==[108,101,110])=true:=by rw[cE];rfl
 generalize bs [108,101,110]=r at*;go_in
 go_wp2_with fail;refine h.mono ?_;rintro e i ⟨rfl,b⟩;obtain⟨j,o⟩:=f _ b;have a:=aB (g _ b);clear b;go_wp2_with fail;refine a.mono ?_;rintro e q ⟨⟨m,rfl⟩,d⟩;go_wp2
 go_end0;exact⟨rfl,d⟩
def LH(w:aG)(cb n c:Nat)(l:Int)(x:Option Addr)(P Q:World->Prop)
 (h:Hid (Calls prog 128 #[bH cb,.slice x n c] (w.alloc (.cells #[Iv0 l,.string (bs [114,101,97,100]),.slice x n c] 192)) fun e w'=>e=aZ (.tuple #[])/\Q w'))
 (f:Hid (∀W,Q W->W.cell? (aH w.heap.size 1)=some (.string (bs [114,101,97,100]))/\w.heap.size<W.heap.size))
 (g:Hid (∀W,Q W->Calls prog 117 #[bH cb,.iface 279 (.agg #[])] W fun e w'=>(∃k:Nat,e=aZ (Iv0 k))/\P w')):
 Calls prog 130 #[bH cb,.agg #[Iv0 l,.string (bs [114,101,97,100]),.slice x n c]] w fun e w'=>e=aZ (.tuple #[])/\P w':=by
 have q:((bs [114,101,97,100]).toList==[108,101,110])=false:=by rw[cE];rfl
 have o:((bs [114,101,97,100]).toList==[114,101,97,100])=true:=by rw[cE];rfl
 generalize bs [114,101,97,100]=s at*;go_in
 go_wp2_with fail;refine h.mono ?_;rintro e i ⟨rfl,b⟩;obtain⟨j,p⟩:=f _ b;have a:=aB (g _ b);clear b;go_wp2_with fail;refine a.mono ?_;rintro e r ⟨⟨m,rfl⟩,d⟩;go_wp2
 go_end0;exact⟨rfl,d⟩
def GC(w:aG)(cb n c fb:Nat)(l:Int)(tx:cD)(x:Option Addr)(P Q:World->Prop)(a:tx≠[108,101,110])(d:tx≠[114,101,97,100])
 (o:Hid (Calls prog 128 #[bH cb,.slice x n c] (w.alloc (.cells #[Iv0 l,.string (bs tx),.slice x n c] 192)) fun e w'=>e=aZ (.tuple #[])/\Q w'))
 (h:Hid (∀W,Q W->W.cell? (aH w.heap.size 1)=some (.string (bs tx))/\W.cell? (aH w.heap.size 2)=some (.slice x n c)/\w.heap.size<W.heap.size))
 (g:Hid (∀W b,Q W->aV W b->Calls prog 82 #[bH cb,.string (bs tx)] b fun e w'=>e=aZ (bH fb)/\w'=b))
 (j:Hid (∀W b,Q W->aV W b->Calls prog 117 #[bH cb,.iface 281 (.agg #[bH fb,Iv0 n])] b fun e w'=>(∃k:Nat,e=aZ (Iv0 k))/\P w')):
 Calls prog 130 #[bH cb,.agg #[Iv0 l,.string (bs tx),.slice x n c]] w fun e w'=>e=aZ (.tuple #[])/\P w':=by
 have v:((bs tx).toList==[108,101,110])=false:=by rw[cE];simpa using a
 have t:((bs tx).toList==[114,101,97,100])=false:=by rw[cE];simpa using d
 clear a d;go_in
 go_wp2_with fail;refine o.mono ?_;rintro e p ⟨rfl,a⟩;obtain⟨q,u,s⟩:=h _ a;have f:=aB a;clear a;go_wp2_with fail;go_region_law (go_simp;first|(go_at_call 82;refine(g _ _ f (aV.drew _)).mono ?_;rintro e y ⟨rfl,rfl⟩)|(go_at_call 117;refine(j _ _ f (aV.drew _)).mono ?_;rintro e r ⟨⟨m,rfl⟩,i⟩))
 all_goals
  go_wp2
  go_end0;exact⟨rfl,i⟩
def OI(w:aG)(cb:Nat)(l:Int)(op:cD)(i c:TypeId)(g d:aQ)(P Q R:World->Prop)(b:op≠[38,38])(a:op≠[124,124])
 (r:Hid (Calls prog 96 #[bH cb,.iface i g] (w.alloc (.cells #[Iv0 l,.string (bs op),.iface i g,.iface c d] 203)) fun e w'=>e=aZ (.tuple #[])/\Q w'))
 (n:Hid (∀W,Q W->W.cell? (aH w.heap.size 1)=some (.string (bs op))/\W.cell? (aH w.heap.size 3)=some (.iface c d)/\w.heap.size<W.heap.size))
 (o:Hid (∀W,Q W->Calls prog 96 #[bH cb,.iface c d] W fun e w'=>e=aZ (.tuple #[])/\R w'))
 (j:Hid (∀W,R W->W.cell? (aH w.heap.size 1)=some (.string (bs op))/\w.heap.size<W.heap.size))
 (q:Hid (∀W,R W->Calls prog 117 #[bH cb,.iface 274 (.agg #[.string (bs op)])] W fun e w'=>(∃k:Nat,e=aZ (Iv0 k))/\P w')):
 Calls prog 129 #[bH cb,.agg #[Iv0 l,.string (bs op),.iface i g,.iface c d]] w fun e w'=>e=aZ (.tuple #[])/\P w':=by
 have C:((bs op).toList==[38,38])=false:=by rw[cE];simpa using b
 have A:((bs op).toList==[124,124])=false:=by rw[cE];simpa using a
 clear b a;generalize bs op=z at*;go_in
 go_wp2_with fail;refine r.mono ?_;rintro e s ⟨rfl,b⟩;obtain⟨u,B,x⟩:=n _ b;have h:=aB (o _ b);clear b;go_wp2_with fail;refine h.mono ?_;rintro e D ⟨rfl,a⟩;obtain⟨y,t⟩:=j _ a;have f:=aB (q _ a);clear a;go_wp2_with fail;refine f.mono ?_;rintro e v ⟨⟨m,rfl⟩,p⟩;go_wp2_with fail;exact⟨rfl,_,results_none (by rfl) _ _ _,rfl,p⟩
def OH(w:aG)(cb k:Nat)(l:Int)(b:Bool)(op:cD)(t h:TypeId)(q i:aQ)(P Q x R S:World->Prop)(a:op=if b then [124,124] else [38,38])
 (E:Hid (Calls prog 96 #[bH cb,.iface t q] (w.alloc (.cells #[Iv0 l,.string (bs op),.iface t q,.iface h i] 203)) fun e w'=>e=aZ (.tuple #[])/\Q w'))
 (z:Hid (∀W,Q W->W.cell? (aH w.heap.size 1)=some (.string (bs op))/\w.heap.size<W.heap.size))
 (H:Hid (∀W,Q W->Calls prog 117 #[bH cb,.nilIface] W fun e w'=>e=aZ (Iv0 k)/\x w'))
 (v:Hid (∀W,x W->W.cell? (aH w.heap.size 3)=some (.iface h i)/\w.heap.size<W.heap.size))
 (G:Hid (∀W,x W->Calls prog 96 #[bH cb,.iface h i] W fun e w'=>e=aZ (.tuple #[])/\R w'))
 (K:Hid (∀W,R W->Calls prog 117 #[bH cb,.iface 275 (.agg #[])] W fun e w'=>(∃k:Nat,e=aZ (Iv0 k))/\S w'))
 (f:Hid (∀W,S W->W.cell? (aH w.heap.size 1)=some (.string (bs op))/\w.heap.size<W.heap.size/\cb<W.heap.size/\∃g n c,W.cell? (aH cb 1)=some (.slice (some (aH g 0)) n c)/\k<n/\n<=1000000/\(∃u,W.cell? (aH g k)=some u)/\W.frozen? (aH g k)=false/\g<W.heap.size/\∀D,aV (W.setCell (aH g k) (.iface 277 (.agg #[.bool b,Iv0 n]))) D->P D)):
 Calls prog 129 #[bH cb,.agg #[Iv0 l,.string (bs op),.iface t q,.iface h i]] w fun e w'=>e=aZ (.tuple #[])/\P w':=by
 have I:∃j:ByteArray,j=bs op/\(j.toList==[38,38])= !b/\(j.toList==[124,124])=b:=⟨bs op,rfl,by rw[cE,a];cases b<;>rfl,by rw[cE,a];cases b<;>rfl⟩
 obtain⟨j,B,J,e2⟩:=I;rw[<-B] at E z f ⊢
 clear B a;cases b
 all_goals
  simp only[Bool.not_true,Bool.not_false] at J;go_in
  go_wp2_with fail;refine E.mono ?_;rintro e M ⟨rfl,r⟩;obtain⟨N,b2⟩:=z _ r;have y:=aB (H _ r);clear r;go_wp2_with fail;refine y.mono ?_;rintro e w2 ⟨rfl,p⟩;obtain⟨Z,O⟩:=v _ p;have s:=aB (G _ p);clear p;go_wp2_with fail;refine s.mono ?_;rintro e U ⟨rfl,C⟩;have o:=aB (K _ C);clear C;go_wp2_with fail;refine o.mono ?_;rintro e L ⟨⟨m,rfl⟩,A⟩;obtain⟨Y,f2,f3,g,n,c,f4,f5,f6,⟨u,X⟩,T,f9,d⟩:=f _ A;have F:=aB d;have i1:(0:Int)<=(k:Int):=by omega
  have V:(k:Int)<(n:Int):=by omega
  clear A d;go_wp2_with fail;go_region
  all_goals
   go_wp2
   go_end0;exact⟨rfl,F _ (aV.drew _)⟩
def oQ(c:aE->Nat->List aI):∀(l m:List aE) (p:Nat),bV c (l++m) p=bV c l p++bV c m (p+(bV c l p).length)
 |[],m,p=>by simp[bV]
 |a::l,m,p=>by
  rw[cP_,bV,bV,oQ c l m,c4_,cp_,dX_]
def EA(c:aE->Nat->List aI)(a:aE)(p:Nat):bV c [a] p=c a p:=by simp[bV]
def PX(c:aE->Nat->List aI)(a b:aE)(p:Nat):bV c [a,b] p=c a p++c b (p+(c a p).length):=by simp[bV]
section
variable (fs:List aE) (seen:cN) (d:Nat) (a:aE) (p:Nat)
def M3(h:a.op=[48]):aF fs seen (d+1) a p=[.push (bG (((dP 0 a.text).getD 0:Nat):Int))]:=by rw[aF];simp[h]
def M2(h:a.op=[115]):aF fs seen (d+1) a p=[.push (bO a.text)]:=by rw[aF];simp[h]
def XJ(h:a.op=[98,111,111,108]):aF fs seen (d+1) a p=[.push (bT (a.text==[116,114,117,101]))]:=by rw[aF];simp[h]
def M1(h:a.op=[110,97,109,101]):aF fs seen (d+1) a p=[.load (dU seen a.text)]:=by rw[aF];simp[h]
def XI(h:a.op=[108,105,115,116]):aF fs seen (d+1) a p=bV (aF fs seen d) a.kids p++[.list a.kids.length]:=by rw[aF];simp[h]
def SE(h:a.op=[105,110,100,101,120]):aF fs seen (d+1) a p=bV (aF fs seen d) a.kids p++[.index]:=by rw[aF];simp[h]
def SB(o:UInt8)(b:o=45\/o=33)(h:a.op=[o,120]):aF fs seen (d+1) a p=bV (aF fs seen d) a.kids p++[.unary [o]]:=by
 rw[aF];rcases b with rfl|rfl<;>simp[h]
def FF(h:a.op=[99,97,108,108]):aF fs seen (d+1) a p=bV (aF fs seen d) a.kids p++[if a.text==[108,101,110] then .length else if a.text==[114,101,97,100] then .read else .call (dG fs a.text) a.kids.length]:=by rw[aF];simp[h]
def SD(b:Bool)(l r:aE)(h:a.op=if b then [124,124] else [38,38])(c:a.kids=[l,r]):aF fs seen (d+1) a p=
 aF fs seen d l p++[.shortcut b (p+(aF fs seen d l p).length+1+(aF fs seen d r (p+(aF fs seen d l p).length+1)).length+1)]++aF fs seen d r (p+(aF fs seen d l p).length+1)++[.truth]:=by
 rw[aF];cases b<;>simp[h,c]
def NM(h:cJ a.op≠9)(b:a.op≠[38,38])(c:a.op≠[124,124]):aF fs seen (d+1) a p=bV (aF fs seen d) a.kids p++[.binary a.op]:=by
 rcases nZ h with e|e|e|e|e|e|e|e|e|e|e
 all_goals first|exact absurd e c|exact absurd e b|(rw[aF];simp[e])
end
def JY:∀(l:cD) (n k:Nat),n<=9223372036854775807->dP n l=some k->k<=9223372036854775807
 |[],n,k,b,h=>by rw[dP] at h;cases h;exact b
 |c::r,n,k,b,h=>by
  rw[dP] at h;split at h
  ·cases h
  ·rename_i a;refine JY r _ k ?_ h;have e:=dG_ c;have d:MZ=9223372036854775807:=rfl;rw[d] at a;omega
section
variable {fp:eQ} {fb:Nat->Nat} {nms:cN} {cb:Nat} {F:bX} {w w':aG} {code:List (Option aI)} {seen:cN}
def CP.patch{a b:List (Option aI)}(h:CP fp fb nms cb F w (a++none::b) seen):
 ∃g c,w.cell? (aH cb 1)=some (.slice (some (aH g 0)) (a++none::b).length c)/\(∃x,w.cell? (aH g a.length)=some x)/\w.frozen? (aH g a.length)=false/\g<w.heap.size/\
  ∀u i l,lQ fp F w u i->aV (w.setCell (aH g a.length) u) l->CP fp fb nms cb F l (a++some i::b) seen/\FB cb cb w l:=by
 obtain⟨fv,cv,Z,A,⟨U,G,s⟩,O,P⟩:=h.blk;have K:=h.lt;have hl:(a++none::b).length=a.length+b.length+1:=by simp;omega
 rcases G.2 with ⟨_,I⟩|⟨g,c,q,rfl,I,t,L,T,H,N⟩
 ·omega
 have E:=aC t;have r:∃x,q[a.length]?=some x:=⟨_,cr_ (by rw[H];omega)⟩
 obtain⟨x,W⟩:=r;refine⟨g,c,aA A rfl,⟨x,aA t W⟩,aD t,E,fun u i l V p=>?_⟩
 have n:∀k,k≠g->l.heap[k]?=w.heap[k]?:=fun k n=>by rw[p.heap,cm_ _ _ _ _ n]
 have z:lV cb w=some g:=jD A;have y:l.heap[cb]?=_:=(n cb (by omega)).trans A
 have d:FB cb cb w l:=⟨⟨p.os.trans rfl,p.tape.trans rfl,p.output.trans rfl,by rw[p.heap];simp,fun k M=>n k (by omega)⟩,fun k _ _ s=>n k fun e=>s (by rw[z,e]),fun k e=>cl_ (by rw[pO (n cb (by omega))] at e;exact e)⟩
 have v:=h.fixed d;refine⟨h.step (xs':=U.set a.length u) d y ⟨by rw[dp_,G.1];simp,ck_ ⟨g,c,q.setIfInBounds a.length u,by simp,I,by rw[p.heap];exact aK t,by simpa using L,T,by simpa using H,?_⟩⟩ ?_ (eF.keep v dX O) (P.keep v dX d.bel.size),d⟩
 ·rw[dr_,dY_,<-N];simp
 ·have C:=s.keep v dX;refine⟨by simp[s.1],fun j o f=>?_⟩
  by_cases J:j=a.length
  ·subst J;rw[cN_ cL] at f;simp at f;subst f;exact⟨u,by rw[List.getElem?_set_self (by rw[s.1];omega)],lQ.keep V v dX⟩
  ·have B:(a++none::b)[j]?=some o:=by
    rcases cR_ j a.length with D|D
    ·rw[cX_ D] at f ⊢;exact f
    ·rw[cN_ D] at f ⊢
     obtain⟨m,X⟩:∃m,j-a.length=m+1:=⟨j-a.length-1,by omega⟩
     rw[X] at f ⊢
     simpa using f
   obtain⟨S,Y,Q⟩:=C.2 j o B;exact⟨S,by rw[List.getElem?_set_ne (fun e=>J e.symm)];exact Y,Q⟩
end
def gX(fp:eQ)(fb:Nat->Nat)(nms:cN)(cb:Nat)(F:bX)(w:aG)(code:List (Option aI))(seen:cN)(w':aG):Prop:=
 CP fp fb nms cb F w' code seen/\FB cb cb w w'
def GL(fp:eQ)(fb:Nat->Nat)(fs:List aE)(cb lo:Nat)(F:bX)(alone:Bool)(seen:cN)(d:Nat):Prop:=
 ∀(v:aQ) (a:aE) (code:List (Option aI)) (w:aG),CP fp fb (fs.map (·.text)) cb F w code seen->PN (Btw lo cb) w v a->Hs.ExOk fs alone seen d a->pA d a->code.length+(aF fs seen d a code.length).length<=1000000->
  Calls prog 96 #[bH cb,v] w fun e w'=>e=aZ (.tuple #[])/\gX fp fb (fs.map (·.text)) cb F w (code++(aF fs seen d a code.length).map some) seen w'
section
variable {fp:eQ} {fb:Nat->Nat} {fs:List aE} {cb lo:Nat} {F:bX} {alone:Bool} {seen:cN} {d:Nat}
def gX.then{w w1 w':aG}{b:cN}{a:List (Option aI)}(c:FB cb cb w w1)(h:gX fp fb b cb F w1 a seen w'):gX fp fb b cb F w a seen w':=⟨h.1,c.trans h.2⟩
def PKid.sliceC{F:bX}{w:aG}{v:aQ}{l:List aE}(h:PKid F w v l):∃x c,v=.slice x l.length c:=by
 rcases h.get with ⟨rfl,rfl⟩|⟨g,a,rfl,_⟩
 ·exact⟨none,0,rfl⟩
 ·exact⟨_,_,rfl⟩
def ExOk.op{fs:List aE}{alone:Bool}{seen:cN}{d:Nat}{a:aE}(h:Hs.ExOk fs alone seen (d+1) a):
 (∀k∈a.kids,Hs.ExOk fs alone seen d k)/\(a.op=[110,97,109,101]->a.text∈seen)/\
   (a.op=[99,97,108,108]->a.text=[108,101,110]\/a.text=[114,101,97,100]\/(a.text≠[108,101,110]/\a.text≠[114,101,97,100]/\fZ fs (dG fs a.text)=some a.kids.length)):=by
 have m:∀{l r:aE},a.kids=[l,r]->Hs.ExOk fs alone seen d l->Hs.ExOk fs alone seen d r->∀k∈a.kids,Hs.ExOk fs alone seen d k:=fun e b c k f=>by
  rw[e] at f;simp at f;rcases f with rfl|rfl
  ·exact b
  ·exact c
 have j:∀{x y:cD} {p:Prop},a.op=x->x≠y->a.op=y->p:=fun s q t=>absurd (s.symm.trans t) q
 rcases h with ⟨b,i⟩|⟨b,i,c⟩|⟨b,c⟩|⟨b,l,r,i,c,g⟩|⟨b,l,i,c⟩|⟨b,c,g⟩|⟨b,l,r,i,c,g⟩
 ·refine⟨fun k f=>absurd f (by rw[i];simp),?_,?_⟩<;>rcases b with b|b|b<;>exact j b (by decide)
 ·exact⟨fun k f=>absurd f (by rw[i];simp),fun _=>c,j b (by decide)⟩
 ·exact⟨c,j b (by decide),j b (by decide)⟩
 ·exact⟨m i c g,j b (by decide),j b (by decide)⟩
 ·refine⟨fun k f=>?_,?_,?_⟩
  ·rw[i] at f;simp at f;rw[f];exact c
  all_goals rcases b with b|b<;>exact j b (by decide)
 ·refine⟨c,j b (by decide),fun _=>?_⟩
  rcases g with ⟨g,_⟩|⟨g,_⟩|⟨g,n,_,o⟩
  ·exact cl_ g
  ·exact ck_ (cl_ g)
  ·exact ck_ (ck_ ⟨g,n,o⟩)
 ·refine⟨m i c g,fun e=>?_,fun e=>?_⟩<;>(exfalso;rw[e] at b;exact b rfl)
def tH(H:GL fp fb fs cb lo F alone seen d)(v:aQ)(l:List aE)(b:List (Option aI))(w:aG)(h:CP fp fb (fs.map (·.text)) cb F w b seen)(J:PKid (Btw lo cb) w v l)(E:∀a∈l,Hs.ExOk fs alone seen d a)(y:∀a∈l,pA d a)(G:l.length<=1000000)(L:b.length+(bV (aF fs seen d) l b.length).length<=1000000):
 Calls prog 128 #[bH cb,v] w fun e w'=>e=aZ (.tuple #[])/\gX fp fb (fs.map (·.text)) cb F w (b++(bV (aF fs seen d) l b.length).map some) seen w':=by
 rcases J.get with ⟨rfl,rfl⟩|⟨g,s,rfl,B,z,A,K⟩
 ·refine(M0 w cb).mono ?_;rintro e w' ⟨rfl,rfl⟩;exact⟨rfl,by simpa [bV] using h,FB.refl _⟩
 ·refine(XH w cb g l.length s (fun j W=>j<=l.length/\gX fp fb (fs.map (·.text)) cb F w (b++(bV (aF fs seen d) (l.take j) b.length).map some) seen W) G ⟨cU_ _,by simpa [bV] using h,FB.refl _⟩ (fun j W C n=>?_)).mono ?_
  ·obtain⟨_,q,f⟩:=C;obtain⟨u,I,i⟩:=K j n;obtain⟨T,D,rfl⟩:=i.form;have r:l.take (j+1)=l.take j++[l[j]]:=cK_ n;have m:bV (aF fs seen d) (l.take (j+1)) b.length=bV (aF fs seen d) (l.take j) b.length++aF fs seen d l[j] (b.length+(bV (aF fs seen d) (l.take j) b.length).length):=by rw[r,oQ,EA]
   have k:(bV (aF fs seen d) (l.take (j+1)) b.length).length<=(bV (aF fs seen d) l b.length).length:=by
    have e:l=l.take (j+1)++l.drop (j+1):=(cY_ _ _).symm;have:=congrArg (fun x=>(bV (aF fs seen d) x b.length).length) e
    simp only[oQ,cp_] at this;omega
   have o:(b++(bV (aF fs seen d) (l.take j) b.length).map some).length=b.length+(bV (aF fs seen d) (l.take j) b.length).length:=by simp
   refine⟨cn_ z f.bel.size,T,.agg D,by rw[f.bel.cell (p:=(aH g j)) B.2];exact I,(H _ l[j] _ W q (i.below f.bel) (E _ (cG_ n)) (y _ (cG_ n)) ?_).mono ?_⟩
   ·rw[o];rw[m,cp_] at k;omega
   ·rintro e w' ⟨t,c⟩;refine⟨t,n,?_⟩;rw[o] at c;rw[m,cZ_,<-c4_];exact c.then f
  ·rintro e w' ⟨t,_,c⟩;rw[cS_ cL] at c;exact⟨t,c⟩
def emits{c:cN}{w W:aG}{a:List (Option aI)}{u:aQ}{i:aI}(b:gX fp fb c cb F w a seen W)(h:lQ fp F W u i)(j:a.length+1<=1000000):
 Calls prog 117 #[bH cb,u] W fun e w'=>(∃k:Nat,e=aZ (Iv0 k))/\gX fp fb c cb F w (a++[some i]) seen w':=by
 refine(sO (o:=some i) b.1 h (by omega)).mono ?_
 rintro e w' ⟨d,g,f⟩;exact⟨⟨_,d⟩,g,b.2.trans f⟩
def FC(fs:List aE)(x:cD):(fs.map (·.text)).findIdx (fun y=>y==x)=dG fs x:=by
 unfold dG;induction fs with
 |nil=>rfl
 |cons f fs a=>simp only[cE_,List.findIdx_cons,a]
def gH(a:List (Option aI))(c:List aI):(a++c.map some).length=a.length+c.length:=by simp
def YA(IH:GL fp fb fs cb lo F alone seen d)(bo:seen.length<=1000000)(bu:fs.length<=1000000)(ba:∀k,k<fs.length->fp k=bH (fb k)):GL fp fb fs cb lo F alone seen (d+1):=by
 intro v a j w h ca aw bv n;obtain⟨T,B,ps,rfl,cc,bq⟩:=ca.parts;obtain⟨au,ap,C⟩:=bv;have H:=ExOk.op aw;obtain⟨X,af⟩:=h.new (.cells B T)
 have E:∀p∈ps,Prt.ok (Btw lo cb) (w.alloc (.cells B T)) p:=fun p Z=>by
  rcases bq p Z with ⟨A,b,h2,h3⟩|⟨A,h2⟩
  ·exact cl_ ⟨A,b,h2,h3.below X.fb.bel⟩
  ·exact ck_ ⟨A,PKid.below h2 X.fb.bel⟩
 have ab:∀{W:aG} {c:List (Option aI)},gX fp fb (fs.map (·.text)) cb F (w.alloc (.cells B T)) c seen W->W.heap[w.heap.size]?=some (.cells B T (0,0)):=fun u=>(X.step u.2).blk
 have I:∀{c:List (Option aI)} {e:Ending} {W:aG},(e=aZ (.tuple #[])/\gX fp fb (fs.map (·.text)) cb F (w.alloc (.cells B T)) c seen W)->(e=aZ (.tuple #[])/\gX fp fb (fs.map (·.text)) cb F w c seen W):=fun m=>⟨m.1,m.2.then X.fb⟩
 have G:gX fp fb (fs.map (·.text)) cb F (w.alloc (.cells B T)) j seen (w.alloc (.cells B T)):=⟨af,FB.refl _⟩
 have ce:(w.alloc (.cells B T)).heap.size=w.heap.size+1:=by simp
 have am:∀{W:aG} {v:aQ} {k:aE} {c:List (Option aI)},gX fp fb (fs.map (·.text)) cb F (w.alloc (.cells B T)) c seen W->Prt.ok (Btw lo cb) (w.alloc (.cells B T)) ⟨v,[k],true⟩->Hs.ExOk fs alone seen d k->pA d k->c.length+(aF fs seen d k c.length).length<=1000000->
  Calls prog 96 #[bH cb,v] W fun e P=>e=aZ (.tuple #[])/\gX fp fb (fs.map (·.text)) cb F (w.alloc (.cells B T)) (c++(aF fs seen d k c.length).map some) seen P:=fun u Z hx hl hn=>
  (IH _ _ _ _ u.1 (Z.one'.below u.2.bel) hx hl hn).mono fun e P m=>⟨m.1,m.2.then u.2⟩
 have ag:∀{W:aG} {v:aQ} {l:List aE} {c:List (Option aI)},gX fp fb (fs.map (·.text)) cb F (w.alloc (.cells B T)) c seen W->Prt.ok (Btw lo cb) (w.alloc (.cells B T)) ⟨v,l,false⟩->(∀k∈l,Hs.ExOk fs alone seen d k)->(∀k∈l,pA d k)->l.length<=1000000->c.length+(bV (aF fs seen d) l c.length).length<=1000000->
  Calls prog 128 #[bH cb,v] W fun e P=>e=aZ (.tuple #[])/\gX fp fb (fs.map (·.text)) cb F (w.alloc (.cells B T)) (c++(bV (aF fs seen d) l c.length).map some) seen P:=fun u Z hx hl bw hn=>
  (tH IH _ _ _ _ u.1 (Z.many.below u.2.bel) hx hl bw hn).mono fun e P m=>⟨m.1,m.2.then u.2⟩
 rcases cc with ⟨rfl,k,rfl,s,av,r,rfl⟩|⟨rfl,rfl,s,r,rfl⟩|⟨rfl,rfl,s,r,rfl⟩|⟨rfl,sv,rfl,s,rfl⟩|⟨rfl,sv,rfl,s,rfl⟩|⟨rfl,rfl,s,r,rfl⟩|⟨rfl,l,v1,v2,S,a2,rfl,s,r,rfl⟩|⟨rfl,o,v1,S,rfl,bk,s,r,rfl⟩|⟨rfl,l,v1,v2,S,a2,rfl,s,r,rfl⟩|aj
 ·-- a number
  rw[M3 fs seen d a _ s,av] at n ⊢
  have hk:=JY _ _ _ (by omega) av
  exact(tX w cb a.line k _ (emits (i:=.push (bG k)) G ⟨_,rfl,PV.num _ _ _ (by omega) (by omega),by rw[lB];omega⟩ (by simp at n;omega))).mono fun _ _=>I
 ·rw[M2 fs seen d a _ s] at n ⊢
  exact(IY w cb a.line _ _ (emits (i:=.push (bO a.text)) G ⟨_,rfl,PV.str _ _ _,by rw[lO];have:=(au s).1;omega⟩ (by simp at n;omega))).mono fun _ _=>I
 ·rw[XJ fs seen d a _ s] at n ⊢
  exact(SG w cb a.line _ _ (emits (i:=.push (bT (a.text==[116,114,117,101]))) G ⟨_,rfl,PV.tru _ _ _,by rw[mP];omega⟩ (by simp at n;omega))).mono fun _ _=>I
 ·-- a list
  rw[XI fs seen d a _ s] at n ⊢
  rw[cp_,dg_] at n;have D:=H.1;have Z:=E ⟨sv,a.kids,false⟩ (by simp)
  obtain⟨x,c,rfl⟩:=Z.many.sliceC;refine(SF w cb a.kids.length c a.line x _ _ (ag G Z D C ap (by omega)) (fun W m=>⟨aA (ab m) rfl,aC (ab m)⟩) (fun W m=>emits (i:=.list a.kids.length) m rfl (by rw[gH];omega))).mono ?_
  intro e W m;rw[cZ_,<-c4_];exact I m
 ·-- a call
  rw[FF fs seen d a _ s] at n ⊢
  rw[cp_,dg_] at n;have D:=H.1;have ao:=H.2.2 s;have Z:=E ⟨sv,a.kids,false⟩ (by simp)
  obtain⟨x,c,rfl⟩:=Z.many.sliceC;obtain⟨z,V⟩:=af.new (.cells #[Iv0 a.line,.string (bs a.text),.slice x a.kids.length c] 192);generalize N:w.alloc (.cells #[Iv0 a.line,.string (bs a.text),.slice x a.kids.length c] 192)=q at*;have Y:gX fp fb (fs.map (·.text)) cb F q j seen (q.alloc (.cells #[Iv0 a.line,.string (bs a.text),.slice x a.kids.length c] 192)):=⟨V,z.fb⟩
  have hx:=ag Y Z D C ap (by omega)
  have cd:q.heap.size<q.heap.size+1:=cW_ _;have bj:∀{W:aG},FB cb cb (q.alloc (.cells #[Iv0 a.line,.string (bs a.text),.slice x a.kids.length c] 192)) W->W.heap[q.heap.size]?=some (.cells #[Iv0 a.line,.string (bs a.text),.slice x a.kids.length c] 192 (0,0)):=fun bx=>(z.step bx).blk
  have M:Calls prog 128 #[bH cb,.slice x a.kids.length c] (q.alloc (.cells #[Iv0 a.line,.string (bs a.text),.slice x a.kids.length c] 192)) fun e P=>e=aZ (.tuple #[])/\(gX fp fb (fs.map (·.text)) cb F q (j++(bV (aF fs seen d) a.kids j.length).map some) seen P/\P.heap[q.heap.size]?=some (.cells #[Iv0 a.line,.string (bs a.text),.slice x a.kids.length c] 192 (0,0))):=by
   refine(tH IH _ _ _ _ V (Z.many.below z.fb.bel) D C ap (by omega)).mono ?_
   rintro e P ⟨he,u⟩;exact⟨he,u.then z.fb,bj u.2⟩
  have ae:∀{i:aI} {e:Ending} {W:aG},(e=aZ (.tuple #[])/\gX fp fb (fs.map (·.text)) cb F q ((j++(bV (aF fs seen d) a.kids j.length).map some)++[some i]) seen W)->e=aZ (.tuple #[])/\gX fp fb (fs.map (·.text)) cb F w (j++(bV (aF fs seen d) a.kids j.length++[i]).map some) seen W:=fun m=>by
   rw[cZ_,<-c4_];exact I m
  have ak:(j++(bV (aF fs seen d) a.kids j.length).map some).length+1<=1000000:=by rw[gH];omega
  rcases ao with ai|ai|⟨bc,bd,ah⟩
  ·rw[ai] at M N ⊢
   refine(sM w cb a.kids.length c a.line _ x (fun W=>gX fp fb (fs.map (·.text)) cb F q ((j++(bV (aF fs seen d) a.kids j.length).map some)++[some .length]) seen W) (by rw[N];exact TM q cb a.kids.length c a.line x _ _ M (fun W m=>⟨aA m.2 rfl,aC m.2⟩) (fun W m=>emits (i:=.length) m.1 rfl ak))).mono ?_
   intro e W m;exact ae m
  ·rw[ai] at M N ⊢
   refine(sM w cb a.kids.length c a.line _ x (fun W=>gX fp fb (fs.map (·.text)) cb F q ((j++(bV (aF fs seen d) a.kids j.length).map some)++[some .read]) seen W) (by rw[N];exact LH q cb a.kids.length c a.line x _ _ M (fun W m=>⟨aA m.2 rfl,aC m.2⟩) (fun W m=>emits (i:=.read) m.1 rfl ak))).mono ?_
   intro e W m;exact ae m
  ·have al:dG fs a.text<fs.length:=by
    unfold fZ at ah;cases hf:fs[dG fs a.text]? with
    |none=>rw[hf] at ah;cases ah
    |some f=>exact(cQ_.1 hf).1
   have az:a.text∈fs.map (·.text):=by
    have h9:=al;unfold dG at h9;have:=dE_ (w:=h9);exact dn_.2 ⟨_,cG_ h9,by simpa using this⟩
   have e1:(a.text==[108,101,110])=false:=by simpa using bc
   have e2:(a.text==[114,101,97,100])=false:=by simpa using bd
   rw[e1,e2];refine(sM w cb a.kids.length c a.line _ x (fun W=>gX fp fb (fs.map (·.text)) cb F q ((j++(bV (aF fs seen d) a.kids j.length).map some)++[some (.call (dG fs a.text) a.kids.length)]) seen W) ?_).mono ?_
   ·rw[N];refine GC q cb a.kids.length c (fb (dG fs a.text)) a.line a.text x _ _ bc bd M (fun W m=>⟨aA m.2 rfl,aA m.2 rfl,aC m.2⟩) (fun W W' m hS=>?_) (fun W W' m hS=>?_)
    ·refine(uH a.text (m.1.1.grow hS.below) az (by simpa using bu)).mono ?_
     rintro e P ⟨he,bm⟩;rw[FC,ba _ al] at he;exact⟨he,bm⟩
    ·have bt:gX fp fb (fs.map (·.text)) cb F q (j++(bV (aF fs seen d) a.kids j.length).map some) seen W':=⟨m.1.1.grow hS.below,m.1.2.trans (FB.of_lt hS.below m.1.1.lt)⟩
     exact emits (i:=.call (dG fs a.text) a.kids.length) bt (by show _=_;rw[ba _ al]) ak
   ·intro e W m;exact ae m
 ·-- a variable
  rw[M1 fs seen d a _ s] at n ⊢
  have hm:=H.2.1 s;exact(BR w cb a.line _ (dU seen a.text) _ (PT a.text af hm bo) (emits (i:=.load (dU seen a.text)) G rfl (by simp at n;omega))).mono fun _ _=>I
 ·-- an index
  rw[SE fs seen d a _ s,r,PX] at n ⊢
  rw[cp_,cp_,dg_] at n;have D:=H.1;have L:=E ⟨v1,[S],true⟩ (by simp)
  have ac:=E ⟨v2,[a2],true⟩ (by simp)
  obtain⟨T1,Q,rfl⟩:=L.one'.form;obtain⟨T2,U,rfl⟩:=ac.one'.form;refine(NO w cb l T1 T2 _ _ _ _ _ (am G L (D S (by rw[r];simp)) (C S (by rw[r];simp)) (by omega)) (fun W m=>⟨aA (ab m) rfl,aC (ab m)⟩) (fun W m=>am m ac (D a2 (by rw[r];simp)) (C a2 (by rw[r];simp)) (by rw[gH];omega)) (fun W m=>emits (i:=.index) m rfl (by simp only[gH];omega))).mono ?_
  intro e W m;rw[gH] at m;rw[cZ_,cZ_,<-c4_,<-c4_];exact I m
 ·-- one operand
  rw[SB fs seen d a _ o bk s,r,EA] at n ⊢
  rw[cp_,dg_] at n;have D:=H.1;have L:=E ⟨v1,[S],true⟩ (by simp)
  obtain⟨T1,Q,rfl⟩:=L.one'.form;refine(NN w cb a.line _ T1 _ _ _ (am G L (D S (by rw[r];simp)) (C S (by rw[r];simp)) (by omega)) (fun W m=>⟨aA (ab m) rfl,aC (ab m)⟩) (fun W m=>emits (i:=.unary [o]) m rfl (by rw[gH];omega))).mono ?_
  intro e W m;rw[cZ_,<-c4_];exact I m
 ·-- two operands
  have D:=H.1;have L:=E ⟨v1,[S],true⟩ (by simp)
  have ac:=E ⟨v2,[a2],true⟩ (by simp)
  obtain⟨T1,Q,rfl⟩:=L.one'.form;obtain⟨T2,U,rfl⟩:=ac.one'.form;have bf:=D S (by rw[r];simp)
  have M:=D a2 (by rw[r];simp)
  have ax:=C S (by rw[r];simp)
  have bb:=C a2 (by rw[r];simp)
  generalize J:(#[Iv0 (l:Nat),.string (bs a.op),.iface T1 (.agg Q),.iface T2 (.agg U)]:Array Value)=B at*;obtain⟨z,V⟩:=af.new (.cells B 203);have Y:gX fp fb (fs.map (·.text)) cb F (w.alloc (.cells B 203)) j seen ((w.alloc (.cells B 203)).alloc (.cells B 203)):=⟨V,z.fb⟩
  generalize N:w.alloc (.cells B 203)=q at*
  have aa:∀{W:aG} {v:aQ} {k:aE} {c:List (Option aI)},(gX fp fb (fs.map (·.text)) cb F q c seen W/\Loc cb cb q q.heap.size (.cells B 203) W)->Prt.ok (Btw lo cb) q ⟨v,[k],true⟩->Hs.ExOk fs alone seen d k->pA d k->c.length+(aF fs seen d k c.length).length<=1000000->
   Calls prog 96 #[bH cb,v] W fun e P=>e=aZ (.tuple #[])/\(gX fp fb (fs.map (·.text)) cb F q (c++(aF fs seen d k c.length).map some) seen P/\Loc cb cb q q.heap.size (.cells B 203) P):=fun u Z hx hl hn=>
   (IH _ _ _ _ u.1.1 (Z.one'.below u.1.2.bel) hx hl hn).mono fun e P m=>⟨m.1,m.2.then u.1.2,u.2.step m.2.2⟩
  have t:∀{W:aG},Loc cb cb q q.heap.size (.cells B 203) W->W.cell? (aH q.heap.size 1)=some (.string (bs a.op))/\W.cell? (aH q.heap.size 3)=some (.iface T2 (.agg U))/\q.heap.size<W.heap.size:=fun hL=>⟨aA hL.blk (by rw[<-J];rfl),aA hL.blk (by rw[<-J];rfl),aC hL.blk⟩
  by_cases ad:a.op=[38,38]\/a.op=[124,124]
  ·obtain⟨b,hb⟩:∃b:Bool,a.op=if b then [124,124] else [38,38]:=by
    rcases ad with e|e
    ·exact⟨false,e⟩
    ·exact⟨true,e⟩
   rw[SD fs seen d a _ b S a2 hb r] at n ⊢
   generalize bi:aF fs seen d S j.length=K at*;generalize bh:aF fs seen d a2 (j.length+K.length+1)=cr at*;simp only[cp_,dg_] at n
   have O:=OH q cb (j.length+K.length) l b a.op T1 T2 (.agg Q) (.agg U) (fun W=>gX fp fb (fs.map (·.text)) cb F q (j++K.map some++some (.shortcut b (j.length+K.length+1+cr.length+1))::(cr.map some++[some .truth])) seen W)
    (fun W=>gX fp fb (fs.map (·.text)) cb F q (j++K.map some) seen W/\Loc cb cb q q.heap.size (.cells B 203) W)
    (fun W=>gX fp fb (fs.map (·.text)) cb F q (j++K.map some++[none]) seen W/\Loc cb cb q q.heap.size (.cells B 203) W)
    (fun W=>gX fp fb (fs.map (·.text)) cb F q (j++K.map some++[none]++cr.map some) seen W/\Loc cb cb q q.heap.size (.cells B 203) W)
    (fun W=>gX fp fb (fs.map (·.text)) cb F q (j++K.map some++[none]++cr.map some++[some .truth]) seen W/\Loc cb cb q q.heap.size (.cells B 203) W) hb
    (by
      rw[J];have:=aa (c:=j) ⟨Y,z⟩ L bf ax (by rw[bi];omega)
      rw[bi] at this;exact this)
    (fun W m=>⟨(t m.2).1,(t m.2).2.2⟩)
    (fun W m=>(sO (o:=none) m.1.1 rfl (by rw[gH];omega)).mono fun e P hr=>⟨by rw[hr.1,gH],⟨hr.2.1,m.1.2.trans hr.2.2⟩,m.2.step hr.2.2⟩)
    (fun W m=>⟨(t m.2).2.1,(t m.2).2.2⟩)
    (fun W m=>by
      have ay:(j++K.map some++[none]).length=j.length+K.length+1:=by simp;omega
      have:=aa m ac M bb (by rw[ay,bh];omega)
      rw[ay,bh] at this;exact this)
    (fun W m=>(sO (o:=some .truth) m.1.1 rfl (by simp;omega)).mono fun e P hr=>⟨⟨_,hr.1⟩,⟨hr.2.1,m.1.2.trans hr.2.2⟩,m.2.step hr.2.2⟩)
    (fun W m=>by
      obtain⟨⟨aq,bp⟩,hL⟩:=m;have e0:j++K.map some++[none]++cr.map some++[some aI.truth]=(j++K.map some)++none::(cr.map some++[some aI.truth]):=by simp
      rw[e0] at aq;have bn:=aq.lt;obtain⟨g,c,p1,p2,p3,p4,p5⟩:=aq.patch;have br:(j++K.map some).length=j.length+K.length:=gH _ _;have bz:((j++K.map some)++none::(cr.map some++[some aI.truth])).length=j.length+K.length+1+cr.length+1:=by simp;omega
      rw[br] at p2 p3 p5;rw[bz] at p1;refine⟨(t hL).1,(t hL).2.2,bn,g,_,c,p1,by omega,by omega,p2,p3,p4,fun W' hS=>?_⟩
      obtain⟨q1,q2⟩:=p5 _ (.shortcut b (j.length+K.length+1+cr.length+1)) W' rfl hS;exact⟨q1,bp.trans q2⟩)
   rw[J] at O;rw[<-J];refine(tY w cb l (bs a.op) T1 T2 (.agg Q) (.agg U) _ (by rw[J,N];exact O)).mono ?_
   intro e W m;have e9:j++(K++[aI.shortcut b (j.length+K.length+1+cr.length+1)]++cr++[aI.truth]).map some=j++K.map some++some (.shortcut b (j.length+K.length+1+cr.length+1))::(cr.map some++[some .truth]):=by simp
   rw[e9];exact I m
  ·have ar:a.op≠[38,38]:=fun e=>ad (cl_ e)
   have bg:a.op≠[124,124]:=fun e=>ad (ck_ e)
   rw[NM fs seen d a _ s ar bg,r,PX] at n ⊢
   simp only[cp_,dg_] at n
   have O:=OI q cb l a.op T1 T2 (.agg Q) (.agg U) (fun W=>gX fp fb (fs.map (·.text)) cb F q (j++(aF fs seen d S j.length).map some++(aF fs seen d a2 (j.length+(aF fs seen d S j.length).length)).map some++[some (.binary a.op)]) seen W) _ _ ar bg
    (by rw[J];exact aa (c:=j) ⟨Y,z⟩ L bf ax (by omega))
    (fun W m=>t m.2)
    (fun W m=>aa m ac M bb (by rw[gH];omega))
    (fun W m=>⟨(t m.2).1,(t m.2).2.2⟩)
    (fun W m=>by
      obtain⟨be,cf⟩:=m;rw[gH] at be;exact emits (i:=.binary a.op) be rfl (by simp only[gH];omega))
   rw[J] at O;rw[<-J];refine(tY w cb l (bs a.op) T1 T2 (.agg Q) (.agg U) _ (by rw[J,N];exact O)).mono ?_
   intro e W m;rw[cZ_,cZ_,<-c4_,<-c4_];exact I m
 ·-- no expression
  exfalso
  have bl:∀x∈([[118,97,114],[115,101,116],[105,102],[119,104,105,108,101],[114,101,116,117,114,110],[112,114,105,110,116],[100,111]]:cN),a.op≠x:=fun x hx e=>by
   have hc:∀y∈([[48],[115],[98,111,111,108],[110,97,109,101],[108,105,115,116],[105,110,100,101,120],[45,120],[33,120],[99,97,108,108],[124,124],[38,38],[61,61],[33,61],[60],[60,61],[43],[45],[42],[47],[37]]:cN),a.op≠y:=fun y hy e2=>by
    rw[e] at e2;subst e2;simp at hx hy;rcases hx with rfl|rfl|rfl|rfl|rfl|rfl|rfl<;>simp at hy
   rcases aw with ⟨A,_⟩|⟨A,_⟩|⟨A,_⟩|⟨A,_⟩|⟨A,_⟩|⟨A,_⟩|⟨A,_⟩
   ·rcases A with A|A|A<;>exact hc _ (by simp) A
   ·exact hc _ (by simp) A
   ·exact hc _ (by simp) A
   ·exact hc _ (by simp) A
   ·rcases A with A|A<;>exact hc _ (by simp) A
   ·exact hc _ (by simp) A
   ·rcases nZ A with e|e|e|e|e|e|e|e|e|e|e<;>exact hc _ (by simp) e
  rcases aj with ⟨_,_,_,_,_,A,_⟩|⟨_,_,_,_,_,_,A,_⟩|⟨_,_,_,_,_,_,A,_⟩|⟨_,_,_,_,_,_,_,_,A,_⟩|⟨_,_,_,_,_,_,A,_⟩|⟨_,_,_,A,_⟩|⟨_,_,_,_,A,_⟩|⟨_,_,_,_,A,_⟩|⟨_,_,_,_,A,_⟩
  all_goals exact bl _ (by simp) A
def pU(c:seen.length<=1000000)(a:fs.length<=1000000)(b:∀k,k<fs.length->fp k=bH (fb k)):∀d,GL fp fb fs cb lo F alone seen d
 |0=>fun _ _ _ _ _ _ h=>h.elim
 |d+1=>YA (pU c a b d) c a b
end
end Go.Proofs.YtmjbnmpamlainaaGreatDoor
