/- Contracts of the program: Over, Out, BackOver, Go, GoBack, Back. -/
import Derived.Test.YtddnpoiiimjpcaaGreatDoorP28
import Derived.Test.YtddnpoiiimjpcaaGreatDoorP26
set_option linter.defProp false
set_option maxRecDepth 100000
set_option maxHeartbeats 4000000
namespace Go.Proofs.YtddnpoiiimjpcaaGreatDoor
open Hs
open _root_.Go.Proofs.Tryz
open Go.RowKit
variable{a:List Int}{ks:List aC}{m t:Nat}{x:aU}
section
variable {fp:eK} {F:bX} {w:aG} {sb mb n:Nat} {mo:Obj} {ks:List aC} {tape:List Int} {s:aU} {L:List Nat}
def Live.made(h:Live fp F w sb mb mo ks tape s n L){W:aG}(a:Below w.heap.size w W)(M:List Nat)(c:∀b∈M,w.heap.size<=b/\b<W.heap.size):Live fp F W sb mb mo ks tape s n (M++L):=
 h.freshL (h.but (But.below a []) oY) (a.block _ h.ses.lt) M c
def rA.made{T:aU->Bool->Prop}{W w':aG}{b:Bool}{M:List Nat}(h:rA fp sb mb mo ks tape (M++L) T W b w')(a:Below w.heap.size w W)(i:sb<w.heap.size):rA fp sb mb mo ks tape L T w b w':=by
 obtain⟨G,c,f,e,d,g⟩:=h;exact⟨G,c,f,e.drop λb a=>fo _ a,d,(FS.of_below a i).trans g⟩
end
def be_(sb:Nat)(w:aG)(P:Bool->World->Prop)
 (d:Hid (Calls prog 36 #[bE sb,.func (.func 63) #[] #[bE w.heap.size],.func (.func 38) #[bE sb] #[]] (w.alloc (.cells #[bE sb] 24)) λe c=>∃b,e=aX (.bool b)/\P b c)):
 Calls prog 18 #[bE sb] w λe c=>∃b,e=aX (.bool b)/\P b c:=by
 have g:=aB (LD sb w);have i:∀(a:aQ) (w:aG),(Instr.makeFunc (.func 38) #[a] #[]).run prog w=.ok (.func (.func 38) #[a] #[]) w:=λ_ _=>rfl
 go_in
 go_wp2_with fail;refine g.mono ?_;rintro e j ⟨rfl,rfl⟩;clear g;go_wp2_with fail;refine d.mono ?_;rintro e k ⟨b,rfl,f⟩;have h:=aB f;clear f d;go_wp2
 go_ret;exact⟨b,rfl,h⟩
def SM(sb:Nat)(w:aG)(P:Bool->World->Prop)
 (d:Hid (Calls prog 36 #[bE sb,.func (.func 66) #[] #[bE w.heap.size],.func (.func 38) #[bE sb] #[]] (w.alloc (.cells #[bE sb] 24)) λe c=>∃b,e=aX (.bool b)/\P b c)):
 Calls prog 20 #[bE sb] w λe c=>∃b,e=aX (.bool b)/\P b c:=by
 have g:=aB (TN sb w);have i:∀(a:aQ) (w:aG),(Instr.makeFunc (.func 38) #[a] #[]).run prog w=.ok (.func (.func 38) #[a] #[]) w:=λ_ _=>rfl
 go_in
 go_wp2_with fail;refine g.mono ?_;rintro e j ⟨rfl,rfl⟩;clear g;go_wp2_with fail;refine d.mono ?_;rintro e k ⟨b,rfl,f⟩;have h:=aB f;clear f d;go_wp2
 go_ret;exact⟨b,rfl,h⟩
section
variable {fp:eK} {F:bX} {w:aG} {sb mb n:Nat} {mo:Obj} {ks:List aC} {tape:List Int} {s:aU} {L:List Nat} {m:Bps}
def bZ_(j:Good ks)(g:tape.length<=17592186044416)(h:Live fp F w sb mb mo ks tape s n L)(c:PJ L w mo m):
 Calls prog 18 #[bE sb] w λe i=>∃b,e=aX (.bool b)/\rA fp sb mb mo ks tape L (ZN (bI ks tape) (qW m) s) w b i:=by
 have a:Below w.heap.size w (w.alloc (.cells #[bE sb] 24)):=(eh _ w).alloc cK _;have d:=c.keep (L':=[w.heap.size]++L) (λb f=>a.block b (h.loc b f).2.1) a.size λb a=>fo _ a
 refine be_ sb w _ ((AB j g (h.made a [w.heap.size] λb a=>by simp at a;subst a;simp) w.heap.size s_ (aN _ _ rfl _) (qW m) 38 _ #[] B9 (SU j d)).mono ?_)
 rintro e i ⟨b,rfl,c⟩;exact⟨b,rfl,c.made a h.ses.lt⟩
def SN(j:Good ks)(g:tape.length<=17592186044416)(h:Live fp F w sb mb mo ks tape s n L)(c:PJ L w mo m):
 Calls prog 20 #[bE sb] w λe i=>∃b,e=aX (.bool b)/\rA fp sb mb mo ks tape L (bH_ (bI ks tape) (qW m) s) w b i:=by
 have a:Below w.heap.size w (w.alloc (.cells #[bE sb] 24)):=(eh _ w).alloc cK _;have d:=c.keep (L':=[w.heap.size]++L) (λb f=>a.block b (h.loc b f).2.1) a.size λb a=>fo _ a
 refine SM sb w _ ((IY j g (h.made a [w.heap.size] λb a=>by simp at a;subst a;simp) w.heap.size s_ (aN _ _ rfl _) (qW m) 38 _ #[] B9 (SU j d)).mono ?_)
 rintro e i ⟨b,rfl,c⟩;exact⟨b,rfl,c.made a h.ses.lt⟩
def tT(src:cE):Except (Nat × Nat) (Option aC):=if src=[] then .ok none else match jD src with
 |.error f=>.error f
 |.ok A=>.ok (some A)
def S4(h:Live fp F w sb mb mo ks tape s n L)(hm:PJ L w mo m)(hT:gE w)(q:Int)(g:ByteArray)(hl:g.size<=281474976710656):
 Calls prog 15 #[bE sb,I_ q,.string g] w λe u=>∃k l:Nat,e=aX (.tuple #[I_ k,I_ l])/\
  ((k≠0/\tT g.data.toList=.error (k,l)/\Below w.heap.size w u)\/(k=0/\l=0/\∃o x C,tT g.data.toList=.ok o/\Live fp F u sb mb x ks tape s n C/\PJ C u x (vB q o m)/\(∃N,C=N++L/\∀b∈N,w.heap.size<=b)/\But [mb] w u)):=by
 have K:=h.ses.lt;obtain⟨T,i,l0,rfl,hE,hB⟩:=hm;have Z:=aD h.ses.map.1;refine ZF w sb mb q g (λk l u=>(k≠0/\tT g.data.toList=.error (k,l)/\Below w.heap.size w u)\/(k=0/\l=0/\∃o x C,tT g.data.toList=.ok o/\Live fp F u sb mb x ks tape s n C/\PJ C u x (vB q o m)/\(∃N,C=N++L/\∀b∈N,w.heap.size<=b)/\But [mb] w u)) ?_
 show Calls _ _ _ _ _
 have H:∀(W:aG) (v:aQ) (o:Option aC),Below w.heap.size w W->sW (List.range' w.heap.size (W.heap.size-w.heap.size)) W v o->tT g.data.toList=.ok o->sb<W.heap.size/\W.cell? (aI sb 6)=some (.map (some mb))/\∃T i r d,W.heap[mb]?=some (.map T i)/\(∀(mb:Nat) (V:aG),V.heap[mb]?=some (.map T i)->(Instr.mapUpdate 64 (.map (some mb)) (I_ q) (.agg #[v])).run prog V=.ok () (V.putObj mb (.map r d)))/\
  ∀V,aW ((W.alloc (.cells #[v] 81)).putObj mb (.map r d)) V->((0:Nat)≠0/\tT g.data.toList=.error (0,0)/\Below w.heap.size w V)\/((0:Nat)=0/\(0:Nat)=0/\∃o x C,tT g.data.toList=.ok o/\Live fp F V sb mb x ks tape s n C/\PJ C V x (vB q o m)/\(∃N,C=N++L/\∀b∈N,w.heap.size<=b)/\But [mb] w V):=by
  intro W v o p hN G;obtain⟨r,d,aa,Y⟩:=Y1 (clock:=i) hE q v;have ab:=(World.cell?_of_block (p.block sb K)).trans h.ses.cell6;refine⟨ej K p.size,ab,T,i,r,d,(p.block mb Z).trans h.ses.map.1,aa,λV D=>d6 ⟨rfl,rfl,o,.map r d,List.range' w.heap.size (W.heap.size-w.heap.size)++L,G,?_,?_,⟨_,rfl,λb p=>(jx.1 p).1⟩,?_⟩⟩
  ·have I:=h.made p (List.range' w.heap.size (W.heap.size-w.heap.size)) λb j=>by
    rw[jx] at j;have:=p.size;omega
   have h2:=(I.but (L':=[]) (But.alloc W (.cells #[v] 81) []) oY).remap (.map r d);exact h2.keep [] oY (by rw[D.heap];exact en _) λk _ _=>by rw[D.heap]
  ·have O:∀b,b<W.heap.size->b≠mb->V.heap[b]?=W.heap[b]?:=λb B y=>by
    rw[D.heap];exact(World.putObj_heap_other y).trans (em _ _ _ B)
   have M:W.heap.size<=V.heap.size:=by rw[D.heap];simp
   refine⟨r,d,_,rfl,Y,JZ.put ?_ (JZ.keep (λb j=>?_) (el p.size M) (λb p=>fo _ p) hB)⟩
   ·refine hN.keep (λb j=>O b ?_ ?_) M λb p=>fm _ p
    ·rw[jx] at j;have:=p.size;omega
    ·rw[jx] at j;omega
   ·obtain⟨_,y,_,_,_,q6⟩:=h.loc b j;rw[O b (ej y p.size) q6,p.block b y]
  ·have P:But [mb] w ((W.alloc (.cells #[v] 81)).putObj mb (.map r d)):=by
    have:=((But.below p []).trans (But.alloc W (.cells #[v] 81) [])).trans (But.put _ mb (.map r d));simpa using this
   exact⟨D.os.trans P.os,D.tape.trans P.tape,D.output.trans P.output,by rw[D.heap];exact P.size,λk B y=>by rw[D.heap];exact P.blk k B y⟩
 by_cases Q:g.data.toList=[]
 ·obtain rfl:g=⟨#[]⟩:=by
   obtain⟨⟨l⟩⟩:=g;simp at Q;subst Q;rfl
  refine(QV w).mono ?_;rintro e u ⟨rfl,p⟩;exact⟨.nilIface,0,0,rfl,d7 rfl,λh=>absurd rfl h,λ_=>H u .nilIface none p rfl (by unfold tT;rw[if_pos Q])⟩
 ·have G:tT g.data.toList=match jD g.data.toList with|.error f=>.error f|.ok A=>.ok (some A):=by unfold tT;rw[if_neg Q]
  have U:g.toList.isEmpty=false:=by
   rw[show g=bs g.data.toList from rfl,cD]
   cases hq:g.data.toList with
   |nil=>exact absurd hq Q
   |cons a l=>rfl
  refine(QU w g (λv k l W=>(k≠0/\tT g.data.toList=.error (k,l)/\Below w.heap.size w W/\v=.nilIface)\/(k=0/\∃o,Below w.heap.size w W/\sW (List.range' w.heap.size (W.heap.size-w.heap.size)) W v o/\tT g.data.toList=.ok o)) U hl λW p E=>(wK g W (hT.below p) (by unfold maxLen;omega)).mono ?_).mono ?_
  ·rintro e u ⟨j,⟨f,B,y,rfl⟩|⟨A,t,z,B,rfl,y⟩⟩
   ·have J:Below w.heap.size w u:=p.trans (j.mono p.size);exact⟨.nilIface,f.1,f.2,rfl,d7 rfl,rfl,(j.block _ (aD E)).trans E,d7 ⟨y,by rw[G,B],J.setCell cK _,rfl⟩⟩
   ·have J:Below w.heap.size w u:=p.trans (j.mono p.size);have X:=aD E;have ac:=j.size;refine⟨.iface t z,0,0,rfl,d6 ⟨t,z,rfl⟩,rfl,(j.block _ X).trans E,d6 ⟨rfl,some A,J.setCell cK _,⟨t,z,W.heap.size,u.heap.size,rfl,LS B,s_,y.grow (λk a _=>ei _ _ _ _ (by show k≠w.heap.size;omega)) cK cK,λb a c=>?_⟩,by rw[G,B]⟩⟩
    rw[jx];simp only[World.size_setCell];omega
  ·rintro e u ⟨v,k,l,rfl,⟨B,y,S,rfl⟩|⟨rfl,o,B,y,S⟩⟩
   ·exact⟨.nilIface,k,l,rfl,d7 rfl,λ_=>d7 ⟨B,y,S.alloc S.size _⟩,λh=>absurd h B⟩
   ·exact⟨v,0,l,rfl,y.form,λh=>absurd rfl h,λ_=>H u v o B y S⟩
def Q8(h:Live fp F w sb mb mo ks tape s n L)(G:PJ L w mo m)(d:Int):
 Calls prog 16 #[bE sb,I_ d] w λe k=>e=aX (.bool (sH m d).isSome)/\∃i,Live fp F k sb mb i ks tape s n L/\PJ L k i (P9 d m)/\But [mb] w k:=by
 have p:=h.ses.lt;obtain⟨D,f,l,rfl,y,B⟩:=G;have E:=aD h.ses.map.1;obtain⟨g,u,q⟩:=Y2 (clock:=f) y d;have r:=yF h.ses.map.1 y d
 have A:((nF l d).getD .nilIface=.nilIface\/∃t z,(nF l d).getD .nilIface=.iface t z)/\(nF l d).isSome=(sH m d).isSome:=by
  rcases B.look d with ⟨a,b⟩|⟨v,o,a,b,c⟩
  ·rw[a,b];exact⟨d7 rfl,rfl⟩
  ·rw[a,b];exact⟨c.form,rfl⟩
 rw[<-A.2]
 have j:But [mb] w ((w.alloc (.cells #[(nF l d).getD .nilIface] 81)).putObj mb (.map g f)):=by
  have:=(But.alloc w (.cells #[(nF l d).getD .nilIface] 81) []).trans (But.put _ mb (.map g f));simpa using this
 refine YW w sb mb f D g d _ _ (λk=>∃i,Live fp F k sb mb i ks tape s n L/\PJ L k i (P9 d m)/\But [mb] w k) p h.ses.cell6 A.1 h.ses.map.1 r u ⟨.map g f,(h.but (L':=[]) (But.alloc w _ []) oY).remap _,⟨g,f,_,rfl,q,JZ.del (JZ.keep (λb x=>?_) j.size dP B)⟩,j⟩
 obtain⟨_,H,_,_,_,C⟩:=h.loc b x;exact j.blk b H (by simpa using C)
end
def XS(w:World)(sb t:Nat)(c:Int)(o:ByteArray)(x A:World->Prop)(P:Bool->World->Prop)
 (C:Hid (Calls prog 9 #[.pointer (some ⟨sb,0,none⟩),.int .i64 t] w λe d=>e=.returned (.bool true)/\x d))
 (B:Hid (∀W,x W->Calls prog 8 #[.pointer (some ⟨sb,0,none⟩)] W λe d=>∃a:SV,e=.returned a.val/\
   ((a.n1=0/\P false (d.alloc (.cells a.cells 35)))\/∃n u g:Nat,a.n1=n+1/\n<=1000/\a.x1=some ⟨u,0,none⟩/\(d.alloc (.cells a.cells 35)).cell? ⟨u,n*2+1,none⟩=some (.int .i64 g)/\
     ((¬(g:Int)=c/\P false (d.alloc (.cells a.cells 35)))\/((g:Int)=c/\A (d.alloc (.cells a.cells 35)))))))
 (p:Hid (∀W,A W->Calls prog 11 #[.pointer (some ⟨sb,0,none⟩),.string o] W λe d=>∃r:(List UInt8 × Nat) × Nat × Nat,e=.returned (.tuple #[.string (bs r.1.1),.int .i64 r.1.2,.int .i64 r.2.1,.int .i64 r.2.2])/\P (o.toList.isEmpty || r.1.1==[116,114,117,101]) d)):
 Calls prog 19 #[.pointer (some ⟨sb,0,none⟩),.int .i64 t,.int .i64 c,.string o] w λe d=>∃b,e=.returned (.bool b)/\P b d:=by
 go_enter func19,ntmps19;go_wp2_with fail;refine C.out.mono ?_;rintro e I ⟨rfl,y⟩;have m:=aB (B.out _ y);clear C B y;go_wp2_with fail;refine m.out.mono ?_;rintro e X ⟨⟨O,V,S,M,H,U,N,Q,J,K,q⟩,rfl,v⟩;have l:=aB v;unfold SV.val;unfold SV.cells at l;clear m v;rcases l.out with ⟨k,s⟩|⟨n,u,g,k,s,z,T,i⟩
 ·simp only at k;subst k;have f:=aB s;clear s l p;go_wp2_with fail;go_ret;exact⟨_,rfl,f.out⟩
 ·simp only at k z;subst k;subst z;rcases i with ⟨i,j⟩|⟨i,j⟩
  ·have f:=aB j;have G:((n:Int)+1==0)=false:=t_
   have F:((g:Int) != c)=true:=by simp[i]
   clear j l p;go_wp2_with fail;go_ret;exact⟨_,rfl,f.out⟩
  ·have h:=aB (p.out _ j);have G:((n:Int)+1==0)=false:=t_
   have F:((g:Int) != c)=false:=by simp[i]
   clear j l p;go_wp2_with fail;refine h.out.mono ?_;rintro e L ⟨r,rfl,D⟩;have f:=aB D;clear h D;cases E:o.toList.isEmpty
   ·go_wp2_with fail;go_ret;have:=f.out;rw[E,Bool.false_or] at this;exact⟨_,rfl,by rw[cD];exact this⟩
   ·go_wp2_with fail;go_ret;have:=f.out;rw[E] at this;exact⟨_,rfl,this⟩
def Live.beside{fp:eK}{F:bX}{W d:aG}{c o n sb:Nat}{p:Obj}{f:aU}{L:List Nat}(h:Live fp F W c o p ks a f n L)(l:FS sb W d)(g:sb∈L)(t:∀k,fV sb W=some k->k∈L)(m:∀k,fV sb d=some k->k<d.heap.size):
 ∃q,Live fp F d c o p ks a f n q/\(∀b∈L,b∈q)/\(∀k,fV sb d=some k->k∈q)/\d.heap[c]?=W.heap[c]?:=by
 have s:Live fp F d c o p ks a f n L:=h.keep (sb::(fV sb W).toList) (λb r=>by
  rcases eo.1 r with rfl|r
  ·exact g
  ·exact t b (by simpa using r)) l.size λk x w=>l.blk k x (λe=>w (by simp[e])) λe=>w (by simp[e])
 have i:d.heap[c]?=W.heap[c]?:=l.blk c h.ses.lt (λe=>(h.loc sb g).2.2.2.2.1 e.symm) λe=>(h.loc c (t c e)).2.2.2.2.1 rfl
 cases v:fV sb d with
 |none=>exact⟨L,s,λ_ h=>h,λk e=>(by cases e),i⟩
 |some k=>
  rcases l.row k v with u|u
  ·exact⟨L,s,λ_ h=>h,λj e=>(by cases e;exact t _ u),i⟩
  ·exact⟨k::L,h.fresh s i u (m k v),λ_ h=>ey _ h,λj e=>(by cases e;exact fk ..),i⟩
structure Two(w:aG)(ks:List aC)(tape:List Int)(sb sf:Nat)(m:Bps)(U:List Nat)(W:aG)(s f:aU):Prop where
 ex:∃fp F mb mo n L fp' F' mf mo' n' L' Lb,Live fp F W sb mb mo ks tape s n L/\Live fp' F' W sf mf mo' ks tape f n' L'/\PJ Lb W mo m/\(∀b∈Lb,b∈L/\b∈L')/\(∀b∈U,b∈L/\b∈L'/\b∉Lb)/\(sf∈L/\∀k,fV sf W=some k->k∈L)/\(sb∈L'/\∀k,fV sb W=some k->k∈L')
 lo:w.heap.size<=sb/\w.heap.size<=sf
 low:Below w.heap.size w W
 us:∀b∈U,w.heap.size<=b
section
variable {w:aG} {ks:List aC} {tape:List Int} {sb sf:Nat} {m:Bps} {U:List Nat} {W:aG} {s f:aU}
def Two.st(h:Two w ks tape sb sf m U W s f):bI ks tape s.m_=some s:=by
 obtain⟨⟨_,_,_,_,_,_,_,_,_,_,_,_,_,a,_⟩,_⟩:=h;exact a.ses.now
def Two.below{d:aG}(h:Two w ks tape sb sf m U W s f)(a:Below W.heap.size W d):Two w ks tape sb sf m U d s f:=by
 obtain⟨⟨r,F,x,p,n,L,i,u,q,j,o,t,Lb,e,k,D,l,A,⟨z,E⟩,y,C⟩,v,c,G⟩:=h;have H:fV sb d=fV sb W:=gG (a.block _ e.ses.lt);have B:fV sf d=fV sf W:=gG (a.block _ k.ses.lt);exact⟨⟨r,F,x,p,n,L,i,u,q,j,o,t,Lb,e.but (But.below a []) oY,k.but (But.below a []) oY,D.keep (λb g=>a.block b (e.loc b (l b g).1).2.1) a.size dP,l,A,⟨z,by rw[B];exact E⟩,y,by rw[H];exact C⟩,v,c.trans (a.mono c.size),G⟩
def Two.add{e:aG}{b:Nat}(h:Two w ks tape sb sf m U W s f)(c:Below W.heap.size W e)(I:W.heap.size<=b)(y:b<e.heap.size):Two w ks tape sb sf m (b::U) e s f:=by
 obtain⟨⟨z,F,H,u,n,L,o,D,v,p,t,A,Lb,g,r,G,i,l,⟨J,M⟩,C,B⟩,E,d,O⟩:=h;have P:fV sb e=fV sb W:=gG (c.block _ g.ses.lt);have K:fV sf e=fV sf W:=gG (c.block _ r.ses.lt);have q:∀x∈[b],W.heap.size<=x/\x<e.heap.size:=λx a=>by simp at a;subst a;exact⟨I,y⟩
 refine⟨⟨z,F,H,u,n,b::L,o,D,v,p,t,b::A,Lb,g.made c [b] q,r.made c [b] q,G.keep (λx a=>c.block x (g.loc x (i x a).1).2.1) c.size dP,λx a=>⟨ey _ (i x a).1,ey _ (i x a).2⟩,λx a=>?_,⟨ey _ J,by rw[K];exact λk j=>ey _ (M k j)⟩,ey _ C,by rw[P];exact λk j=>ey _ (B k j)⟩,E,d.trans (c.mono d.size),λx a=>?_⟩
 ·rcases eo.1 a with rfl|a
  ·exact⟨fk ..,fk ..,λN=>by have:=(g.loc x (i x N).1).2.1;omega⟩
  ·exact⟨ey _ (l x a).1,ey _ (l x a).2.1,(l x a).2.2⟩
 ·rcases eo.1 a with rfl|a
  ·have:=d.size;omega
  ·exact O x a
def Two.put{d:aG}{b:Nat}(h:Two w ks tape sb sf m U W s f)(p:b∈U)(c:But [b] W d):Two w ks tape sb sf m U d s f:=by
 obtain⟨⟨C,F,M,y,n,L,l,I,z,o,v,D,Lb,g,j,K,u,q,⟨O,Q⟩,G,E⟩,J,a,t⟩:=h;obtain⟨u1,u2,u3⟩:=q b p;have i:∀{x},x≠b->x<W.heap.size->d.heap[x]?=W.heap[x]?:=λ{x} N A=>c.blk x A (by simpa using N)
 have S:fV sb d=fV sb W:=gG (i (λe=>(g.loc b u1).2.2.2.2.1 e.symm) g.ses.lt)
 have P:fV sf d=fV sf W:=gG (i (λe=>(j.loc b u2).2.2.2.2.1 e.symm) j.ses.lt)
 refine⟨⟨C,F,M,y,n,L,l,I,z,o,v,D,Lb,g.but c (by simpa using u1),j.but c (by simpa using u2),K.keep (λx r=>i (λe=>u3 (e▸r)) (g.loc x (u x r).1).2.1) c.size dP,u,q,⟨O,by rw[P];exact Q⟩,G,by rw[S];exact E⟩,J,?_,t⟩
 have B:=t b p;have:=a.size;exact⟨c.os.trans a.os,c.tape.trans a.tape,c.output.trans a.output,el a.size c.size,λk H=>by rw[i o_ o_];exact a.block k H⟩
def Two.first{fn:Nat}{T:aU->Bool->Prop}{xs:Array Value}(h:Two w ks tape sb sf m U W s f)(Y:∀{fp F i d n L},Live fp F W sb i d ks tape s n L->PJ L W d m->Calls prog fn xs W λe c=>∃b,e=aX (.bool b)/\rA fp sb i d ks tape L T W b c):
 Calls prog fn xs W λe c=>∃b q,e=aX (.bool b)/\T q b/\Two w ks tape sb sf m U c q f/\∀b∈U,c.heap[b]?=W.heap[b]?:=by
 obtain⟨⟨fp,F,i,d,n,L,x,K,E,u,C,L',Lb,r,H,B,l,p,⟨N,S⟩,A,Q⟩,y,v,V⟩:=h;refine(Y r (B.keep (λ_ _=>rfl) cK λb a=>(l b a).1)).mono ?_
 rintro e c ⟨b,rfl,G,k,q,z,Z,o⟩;obtain⟨M,I,t,D,J⟩:=H.beside o A Q λj e=>(z.row e).2.1
 have g:∀b∈L,c.heap[b]?=W.heap[b]?:=λb a=>by
  obtain⟨_,X,_,P,O,_⟩:=r.loc b a;exact o.blk b X O P
 exact⟨b,q,rfl,Z,⟨⟨fp,G,i,d,k,L,x,K,E,u,C,M,Lb,z,I,B.keep (λb a=>g b (l b a).1) o.size dP,λb a=>⟨(l b a).1,t b (l b a).2⟩,λb a=>⟨(p b a).1,t b (p b a).2.1,(p b a).2.2⟩,⟨N,by rw[gG J];exact S⟩,t _ A,D⟩,y,Below.fs v o y.1 λ_ g=>(r.row g).1,V⟩,λb a=>g b (p b a).1⟩
def Two.second{fn:Nat}{R:Value->aU->Prop}{xs:Array Value}(h:Two w ks tape sb sf m U W s f)(Y:∀{fp F l g n L},Live fp F W sf l g ks tape f n L->Calls prog fn xs W λe c=>∃v G z d,e=aX v/\Live fp G c sf l g ks tape d z L/\R v d/\FS sf W c):
 Calls prog fn xs W λe c=>∃v d,e=aX v/\R v d/\Two w ks tape sb sf m U c s d/\∀b∈U,c.heap[b]?=W.heap[b]?:=by
 obtain⟨⟨fp,F,l,g,n,L,y,F',H,u,z,A,Lb,K,p,S,q,r,⟨D,T⟩,N,Q⟩,B,x,V⟩:=h;refine(Y p).mono ?_;rintro e c ⟨v,G,k,d,rfl,C,Z,o⟩;obtain⟨M,I,t,E,J⟩:=K.beside o D T λj e=>(C.row e).2.1
 have i:∀b∈A,c.heap[b]?=W.heap[b]?:=λb a=>by
  obtain⟨_,X,_,P,O,_⟩:=p.loc b a;exact o.blk b X O P
 exact⟨v,d,rfl,Z,⟨⟨fp,F,l,g,n,M,y,G,H,u,k,A,Lb,I,C,S.keep (λb a=>i b (q b a).2) o.size dP,λb a=>⟨t b (q b a).1,(q b a).2⟩,λb a=>⟨t b (r b a).1,(r b a).2⟩,⟨t _ D,E⟩,N,by rw[gG J];exact Q⟩,B,Below.fs x o B.2 λ_ i=>(p.row i).1,V⟩,λb a=>i b (r b a).2.1⟩
end
noncomputable def SK(x:aU)(l_:Int)(ex:cE):Bool:=match lineT x with
 |none=>false
 |some ln=>if (ln:Int)=l_ then (ex.isEmpty || (pU x ex).1.1==[116,114,117,101]) else false
section
variable {fp:eK} {F:bX} {w W:aG} {sb mb n:Nat} {mo:Obj} {ks:List aC} {tape:List Int} {s:aU} {L:List Nat}
def N1(I:Good ks)(J:tape.length<=17592186044416)(X:gE w)(C:Below w.heap.size w W)(r:w.heap.size<=sb)(h:Live fp F W sb mb mo ks tape s n L)(t:Nat)(x:aU)(T:bI ks tape t=some x)(c:Int)(o:cE)(aa:o.length<=140737488355328):
 Calls prog 19 #[bE sb,I_ t,I_ c,.string (bs o)] W λe m=>∃v G d H,e=aX v/\Live fp G m sb mb mo ks tape H d L/\(v=.bool (SK x c o)/\H=x)/\FS sb W m:=by
 refine(XS W sb t c (bs o) (λi=>∃G d,Live fp G i sb mb mo ks tape x d L/\FS sb W i) (λi=>lineT x=some c.toNat/\0<=c/\∃G d,Live fp G i sb mb mo ks tape x d L/\FS sb W i)
  (λb i=>b=SK x c o/\∃G d,Live fp G i sb mb mo ks tape x d L/\FS sb W i) ((EA I J h t).mono ?_) (λi O=>?_) (λi O=>?_)).mono ?_
 ·rintro e m ⟨b,rfl,G,d,H,Y,q2,Z⟩;rcases q2 with ⟨rfl,B,E⟩|⟨_,_,q|q⟩
  ·have:H.m_=t:=o_
   rw[this,T] at E;cases E;exact⟨rfl,G,d,Y,Z⟩
  ·omega
  ·rw[Int.toNat_natCast,T] at q;cases q
 ·obtain⟨G,d,f,p⟩:=O;have j:=Below.fs C p r λ_ K=>(h.row K).1
  obtain⟨y,Q,U⟩:=(show T0 w ks tape sb i L x from ⟨⟨fp,G,mb,mo,d,f⟩,r,j⟩).short I
  refine(A6 f.ses y.deep f.pow Q U y.out).mono ?_;rintro e m ⟨a,rfl,z,hm⟩;have A:Below i.heap.size i (m.alloc (.cells a.cells 35)):=z.alloc z.size _;have M:∃G d,Live fp G (m.alloc (.cells a.cells 35)) sb mb mo ks tape x d L/\FS sb W (m.alloc (.cells a.cells 35)):=⟨G,d,f.but (But.below A []) oY,p.trans (FS.of_below A f.ses.lt)⟩;obtain⟨x1,c1,B,E⟩:=hm.stack;simp only[Value.slice.injEq] at B;have k:(tS (iH x.m.f_)).length=x.m.f_.length:=by simp[tS,iH]
  refine⟨a,rfl,?_⟩;rcases il x.m.f_ with u|⟨P,N,u⟩
  ·refine d7 ⟨by rw[B.2.1,k,u];rfl,?_,M⟩
   unfold SK lineT;rw[u];rfl
  ·rw[im] at u;have S:x.m.f_.length=P.length+1:=by rw[u];simp
   have l:lineT x=some N.l_:=by unfold lineT;rw[u];simp
   obtain⟨g,g1,g2,g3,g4,g5⟩:=E P.length (by rw[k,S];omega)
   have hd:=y.deep;refine d6 ⟨P.length,g,N.l_,by rw[B.2.1,k,S],o_,by rw[B.1,g1],?_,?_⟩
   ·rw[World.cell?_of_block (em _ _ _ g5),g3];simp[tS,iH,u]
   ·by_cases D:(N.l_:Int)=c
    ·exact d6 ⟨D,by rw[l,<-D];rfl,o_,M⟩
    ·refine d7 ⟨D,?_,M⟩;unfold SK;rw[l];simp[D]
 ·obtain⟨l,V,G,d,f,p⟩:=O;have j:=Below.fs C p r λ_ K=>(h.row K).1
  refine(F8 f.ses (ZP.of I f.ses.now) f.pow (X.below j) (bs o) (by rw[gJ];unfold maxLen;omega)).mono ?_
  rintro e m ⟨rfl,z⟩;refine⟨pU x o,by rw[gD],?_,G,d,f.but (But.below z []) oY,p.trans (FS.of_below z f.ses.lt)⟩
  unfold SK;rw[l,cD];simp[Int.toNat_of_nonneg V]
 ·rintro e m ⟨b,rfl,rfl,G,d,f,p⟩;exact⟨_,G,d,x,rfl,f,⟨rfl,rfl⟩,p⟩
end
def PA{s:aU}{A:aC}{l:cE}(c:l≠[])(h:(kH s A).1.1=l):kH s A=((l,0),0,0):=by
 unfold kH at h ⊢
 split
 ·rename_i b;rw[if_pos b] at h;unfold TD at h ⊢
  split
  ·rename_i a;rw[if_pos a] at h;exact Prod.ext (Prod.ext h a) rfl
  ·rename_i a;rw[if_neg a] at h;exact absurd h.symm c
 ·rename_i b;rw[if_neg b] at h;exact absurd h.symm c
def bd_{a:Int}{b:cE}{o:Option aC}(h:tT b=.ok o):SK x a b=qW (vB a o []) x:=by
 unfold SK qW;cases lineT x with
 |none=>rfl
 |some j=>
  by_cases c:(j:Int)=a
  ·unfold tT at h;by_cases d:b=[]
   ·rw[if_pos d] at h;cases h;simp[vB,sH,c,d]
   ·rw[if_neg d] at h;unfold pU;cases k:jD b with
    |error f=>rw[k] at h;cases h
    |ok A=>
     rw[k] at h;cases h;have g:b.isEmpty=false:=by cases b<;>simp_all
     have l:= @PA x A [116,114,117,101] s_
     have m:(kH x A).1.1=[116,114,117,101]↔kH x A=(([116,114,117,101],0),0,0):=⟨l,λh=>by rw[h]⟩
     simp[vB,sH,c,g,Bool.beq_eq_decide_eq,m]
  ·have i:¬a=(j:Int):=λe=>c e.symm
   simp[vB,sH,c,i]
def OW(w:aG)(X ex:ByteArray)(tx:Option Addr)(n c:Nat)(f aa:Int)(B:Option Addr->World->Prop)(R:World->Prop)(C D:Nat->Nat->World->Prop)(D0:Nat->World->Prop)(E E1 E2:Nat->Nat->Nat->Nat->World->Prop)(G:Nat->Nat->Nat->Nat->Nat->Nat->Nat->World->Prop)(H H1 H2:Nat->Nat->Nat->Nat->World->Prop)(J:Nat->Nat->Nat->Nat->Nat->Nat->World->Prop)
 (HB:Hid (Calls prog 6 #[.string X,.slice tx n c] w λe d=>∃p,e=aX (.tuple #[.pointer p,.bool true])/\B p d))
 (HZ:Hid (∀p W,B p W->(p=none/\R W)\/∃sb,p=some (aI sb 0)/\Calls prog 6 #[.string X,.slice tx n c] W λe d=>∃sf,e=aX (.tuple #[bE sf,.bool true])/\C sb sf d))
 (HC:Hid (∀sb sf W,C sb sf W->Calls prog 15 #[bE sb,I_ f,.string ex] W λe d=>∃k l:Nat,e=aX (.tuple #[I_ k,I_ l])/\((k≠0/\D0 sb d)\/(k=0/\D sb sf d))))
 (M:Hid (∀sb W,D0 sb W->Calls prog 16 #[bE sb,I_ f] W λe d=>e=aX (.bool false)/\R d))
 (HD:Hid (∀sb sf W,D sb sf W->Calls prog 17 #[bE sf] W λe d=>∃m:Nat,e=aX (I_ m)/\m<=500/\∃u:Nat,u<=m/\Calls prog 12 #[I_ aa,I_ ((m:Int)+1)] d λe w2=>e=aX (I_ u)/\E sb sf m u w2))
 (HE:Hid (∀sb sf m u W,E sb sf m u W->Calls prog 9 #[bE sb,I_ u] W λe d=>(∃b,e=aX (.bool b))/\E1 sb sf m u d))
 (O:Hid (∀sb sf m u W,E1 sb sf m u W->Calls prog 18 #[bE sb] W λe d=>∃g,e=aX (.bool g)/\(g=true↔u<m)/\E2 sb sf m u d))
 (T:Hid (∀sb sf m u W,E2 sb sf m u W->Calls prog 8 #[bE sb] W λe d=>∃a:SV,e=aX a.val/\a.t<=m/\(u<m->u<a.t)/\(¬u<m->a.t=u)/\G sb sf m u a.t d.heap.size (u+1) (d.alloc (.cells a.cells 35))))
 (HG:Hid (∀sb sf m u t j i W,G sb sf m u t j i W->W.cell? (aI j 0)=some (I_ t)/\(i<t->Calls prog 19 #[bE sf,I_ i,I_ f,.string ex] W λe d=>e=aX (.bool false)/\G sb sf m u t j (i+1) d)/\
   (¬i<t->Calls prog 19 #[bE sf,I_ t,I_ f,.string ex] W λe d=>∃b,e=aX (.bool b)/\(u<m->b=false->t=m)/\H sb sf u j d/\d.cell? (aI j 0)=some (I_ t))))
 (HH:Hid (∀sb sf u j W,H sb sf u j W->Calls prog 9 #[bE sb,I_ u] W λe d=>(∃b,e=aX (.bool b))/\H1 sb sf u j d))
 (N:Hid (∀sb sf u j W,H1 sb sf u j W->Calls prog 20 #[bE sb] W λe d=>∃g,e=aX (.bool g)/\(g=true↔0<u)/\H2 sb sf u j d))
 (S:Hid (∀sb sf u j W,H2 sb sf u j W->Calls prog 8 #[bE sb] W λe d=>∃a:SV,e=aX a.val/\(∃c,d.heap[j]?=some (.cells c 35 (0,0))/\c.size=5)/\a.t<=500/\(0<u->a.t<u)/\(u=0->a.t=0)/\J sb sf u a.t j (a.t+1) (dS d j a)))
 (HJ:Hid (∀sb sf u t j i W,J sb sf u t j i W->W.cell? (aI j 0)=some (I_ t)/\(i<u->Calls prog 19 #[bE sf,I_ i,I_ f,.string ex] W λe d=>e=aX (.bool false)/\J sb sf u t j (i+1) d)/\
   (¬i<u->Calls prog 19 #[bE sf,I_ t,I_ f,.string ex] W λe d=>∃b,e=aX (.bool b)/\(0<u->b=false->t=0)/\R d/\d.cell? (aI j 0)=some (I_ t)))):
 Calls prog 5 #[.string X,.slice tx n c,I_ f,.string ex,I_ aa] w λe d=>e=aX (.bool true)/\R d:=by
 go_in
 go_wp2_with fail;refine HB.mono ?_;rintro e w1 ⟨p,rfl,h1⟩;clear HB;rcases HZ _ _ h1 with ⟨rfl,hr⟩|⟨sb,rfl,hl⟩
 ·have HR:=aB hr;clear hr h1 HZ HC M HD HE O T HG HH N S HJ;go_wp2
  go_ret;exact⟨rfl,HR⟩
 ·have HL:=aB hl;clear hl h1 HZ;go_wp2_with fail;refine HL.mono ?_;rintro e w2 ⟨sf,rfl,h2⟩;have Y:=aB (HC _ _ _ h2);clear HL h2 HC;go_wp2_with fail;refine Y.mono ?_;rintro e w3 ⟨k,l,rfl,⟨hk,h3⟩|⟨rfl,h3⟩⟩
  ·have HCl:=aB (M _ _ h3);have an:¬(k:Int)=0:=o_
   clear Y h3 hk M HD HE O T HG HH N S HJ;go_wp2_with fail;refine HCl.mono ?_;rintro e w4 ⟨rfl,h4⟩;have HR:=aB h4;clear HCl h4;go_wp2
   go_ret;exact⟨rfl,HR⟩
  ·have ai:=aB (HD _ _ _ h3);clear Y h3 M HD;go_wp2_with fail;refine ai.mono ?_;rintro e w4 ⟨m,rfl,hm,u,hu,h4⟩;have HP:=aB h4;have e0:(m:Int)+1<=9223372036854775807:=o_
   clear ai h4;go_wp2_with fail;refine HP.mono ?_;rintro e w5 ⟨rfl,h5⟩;have HS:=aB (HE _ _ _ _ _ h5);clear HP h5 e0 HE;go_wp2_with fail;refine HS.mono ?_;rintro e w6 ⟨⟨b6,rfl⟩,h6⟩;have HGo:=aB (O _ _ _ _ _ h6);clear HS h6 O;go_wp2_with fail;refine HGo.mono ?_;rintro e w7 ⟨g,rfl,U,h7⟩;have HN:=aB (T _ _ _ _ _ h7);clear HGo h7 T;go_wp2_with fail;refine HN.mono ?_;rintro e L ⟨⟨t,x1,x2,x3,k1,k2,k3,d1,d2,d3,q⟩,rfl,x,r,v,h8⟩;simp only at x r v;have H8:=aB h8;unfold SV.val;unfold SV.cells at H8;clear HN h8;have c8:=(HG _ _ _ _ _ _ _ _ H8).1;go_upto_region 16 with fail
   go_cut [97] from 74 to 97 (λak wx=>ak=.bool false/\wx=L.alloc (.cells #[I_ t,.slice x1 k1 d1,.slice x2 k2 d2,.slice x3 k3 d3,I_ q] 35))
   case first=>
    cases g
    ·have Q:¬u<m:=λh=>by simpa using U.2 h
     have K:=v Q;have a2:¬(u:Int)<(m:Int):=o_
     subst K;go_wp2_with fail;go_meet
     exact⟨rfl,rfl⟩
    ·have Q:=U.1 rfl;have K:=r Q;have a2:(u:Int)<(m:Int):=o_
     have a3:¬(t:Int)<=(u:Int):=o_
     clear U r v Q K x hu;go_wp2_with fail;go_meet
     exact⟨rfl,rfl⟩
   case rest=>
    obtain⟨rfl,rfl⟩:=hcut;clear c8;go_wp2_with fail;go_loopg [22,23] (m+1-(u+1)) (λgk am ao wr=>∃i:Nat,i<=m+1/\gk=m+1-i/\am=I_ i/\G sb sf m u t L.heap.size i wr)
    case atStart=>exact⟨u+1,o_,rfl,by go_num,H8⟩
    case round=>
     obtain⟨i,hi,rfl,rfl,hq⟩:=hrel;obtain⟨c9,q1,z⟩:=HG _ _ _ _ _ _ _ _ hq;by_cases s:i<t
     ·have HHi:=aB (q1 s);have Z:(i:Int)<(t:Int):=o_
      clear q1 z hq H8;go_wp2_with fail;refine HHi.mono ?_;rintro e w9 ⟨rfl,A⟩;have I:=aB A;clear HHi A;go_wp2
      go_roundg (m+1-(i+1))
      case measure=>omega
      case rel=>exact⟨i+1,o_,rfl,by go_num,I⟩
     ·have HHi:=aB (z s);have Z:¬(i:Int)<(t:Int):=o_
      clear q1 z hq H8;go_wp2_with fail;refine HHi.mono ?_;rintro e w9 ⟨b,rfl,F,A,ab⟩;have I:=aB A;clear HHi A c9 Z s hi;go_upto_region 25 with fail
      go_cut [128] from 118 to 128 (λae wx=>ae=.bool false/\wx=w9)
      case first=>
       cases g
       ·clear U F r v x hu;go_wp2_with fail;go_meet
        exact⟨rfl,rfl⟩
       ·cases b
        ·have K:=F (U.1 rfl) rfl;clear U F r v x hu;subst K;go_wp2_with fail;go_meet
         exact⟨rfl,rfl⟩
        ·clear U F r v x hu;go_wp2_with fail;go_meet
         exact⟨rfl,rfl⟩
      case rest=>
       obtain⟨rfl,rfl⟩:=hcut;have aj:=aB (HH _ _ _ _ _ I);clear I ab F r v x U HG HH;go_wp2_with fail;refine aj.mono ?_;rintro e v1 ⟨⟨b1,rfl⟩,i1⟩;have ac:=aB (N _ _ _ _ _ i1);clear aj i1 N;go_wp2_with fail;refine ac.mono ?_;rintro e v2 ⟨g2,rfl,o,i2⟩;have af:=aB (S _ _ _ _ _ i2);clear ac i2 S;go_wp2_with fail;refine af.mono ?_;rintro e v3 ⟨⟨P,y1,y2,y3,l1,l2,l3,m1,m2,m3,z⟩,rfl,⟨cb,y,i4⟩,i5,i6,i7,i8⟩;simp only at i5 i6 i7;have I8:=aB i8;unfold SV.val;clear af i8;have d0:=aA (i:=0) y (eu o_)
       have d1:=aA (i:=1) y (eu o_)
       have d2:=aA (i:=2) y (eu o_)
       have d3:=aA (i:=3) y (eu o_)
       have d4:=aA (i:=4) y (eu o_)
       have f0:=aE (i:=0) y;have Z:=aE (i:=1) y;have f2:=aE (i:=2) y;have f3:=aE (i:=3) y;have f4:=aE (i:=4) y;have ah:=aD y;clear y;have tu:P<=u:=o_
       go_upto_region 30 with fail
       have hS:((((v3.setCell (aI L.heap.size 0) (I_ P)).setCell (aI L.heap.size 1) (.slice y1 l1 m1)).setCell (aI L.heap.size 2) (.slice y2 l2 m2)).setCell (aI L.heap.size 3) (.slice y3 l3 m3)).setCell (aI L.heap.size 4) (I_ z)=dS v3 L.heap.size ⟨P,y1,y2,y3,l1,l2,l3,m1,m2,m3,z⟩:=rfl;rw[hS];clear hS d0 d1 d2 d3 d4 f0 Z f2 f3 f4 ah;generalize dS v3 L.heap.size ⟨P,y1,y2,y3,l1,l2,l3,m1,m2,m3,z⟩=V at I8 ⊢
       have aq:=(HJ _ _ _ _ _ _ _ I8).1;go_cut [158] from 136 to 158 (λad wx=>ad=.bool false/\wx=V)
       case first=>
        cases g2
        ·have ag:u=0:=by
          rcases jb u with h|h
          ·exact h
          ·simpa using o.2 h
         have K:=i7 ag;clear o i5 i6 i7 tu hu hm;subst ag K;go_wp2_with fail;go_meet
         exact⟨rfl,rfl⟩
        ·have a0:=o.1 rfl;have K:(0:Int)<(u:Int):=o_
         have a2:¬(u:Int)<=(P:Int):=o_
         clear o i5 i6 i7 tu hu a0 hm;go_wp2_with fail;go_meet
         exact⟨rfl,rfl⟩
       case rest=>
        obtain⟨rfl,rfl⟩:=hcut;have g9:(P:Int)+1<=9223372036854775807:=o_
        clear i6 i7;go_wp2_with fail;go_loopg [24,25] (u+1-(P+1)) (λgk ap al wr=>∃i:Nat,i<=u+1/\gk=u+1-i/\al=I_ i/\J sb sf u P L.heap.size i wr)
        case atStart=>exact⟨P+1,o_,rfl,by go_num,I8⟩
        case round=>
         obtain⟨i,hi,rfl,rfl,hq⟩:=hrel;obtain⟨c9,q1,z⟩:=HJ _ _ _ _ _ _ _ hq;by_cases s:i<u
         ·have HHi:=aB (q1 s);have Z:(i:Int)<(u:Int):=o_
          clear q1 z hq I8;go_wp2_with fail;refine HHi.mono ?_;rintro e w9 ⟨rfl,A⟩;have I:=aB A;clear HHi A;go_wp2
          go_roundg (u+1-(i+1))
          case measure=>omega
          case rel=>exact⟨i+1,o_,rfl,by go_num,I⟩
         ·have HHi:=aB (z s);have Z:¬(i:Int)<(u:Int):=o_
          clear q1 z hq I8;go_wp2_with fail;refine HHi.mono ?_;rintro e w9 ⟨b,rfl,F,A,ab⟩;have I:=aB A;clear HHi A c9 Z s hi;cases g2
          ·clear o F;go_wp2
           go_ret;exact⟨rfl,I⟩
          ·cases b
           ·have K:=F (o.1 rfl) rfl;clear o F;subst K;go_wp2
            go_ret;exact⟨rfl,I⟩
           ·clear o F;go_wp2
            go_ret;exact⟨rfl,I⟩
def Live.notNw{fp:eK}{F:bX}{W:aG}{sb p n:Nat}{k:List Int}{s:aU}{L:List Nat}(h:Live fp F W sb p (.map #[] 0) ks k s n L){b:Nat}(f:b=sb\/b=p\/fV sb W=some b):9<=b/\b<W.heap.size/\¬Nw W b:=by
 have a:=h.low;obtain⟨E,B,D,v,C,q,_,A,_⟩:=h.ses.blk;have l:fV sb W=v.ownBlock:=mW q rfl
 have j:∀{b:Nat} {c:Array Value} {T:TypeId},W.heap[b]?=some (.cells c T (0,0))->(T=66\/T=151)->¬Nw W b:=λ{b c T} e w m=>by
  rcases m with m|⟨r,t,i,d⟩
  ·have:=aD e;omega
  ·rw[e] at i;cases i;rcases w with rfl|rfl<;>rcases d with d|d|d|d<;>exact absurd d d_
 rcases f with rfl|rfl|f
 ·exact⟨a.1,h.ses.lt,j q (d7 rfl)⟩
 ·have o:=h.ses.map.1;refine⟨a.2,aD o,λm=>?_⟩
  rcases m with m|⟨r,t,i,d⟩
  ·have:=aD o;omega
  ·rw[o] at i;cases i
 ·have z:=h.row f;refine⟨o_,z.2.1,?_⟩
  rw[l] at f;rcases A.2 with ⟨rfl,_⟩|⟨g,x,y,rfl,_,u,_⟩
  ·cases f
  ·cases f;exact j u (d6 rfl)
def pW.le(h:pW (bI ks a) m)(b:bI ks a t=some x):t<=m:=by
 rcases Nat.lt_trichotomy t (m+1) with q|rfl|q
 ·omega
 ·rw[h.2] at b;cases b
 ·obtain⟨y,c,_⟩:=wE b q;rw[h.2] at c;cases c
def pW.stop(f:Good ks)(h:pW (bI ks a) m)(b:bI ks a t=some x):x.stop≠0↔t=m:=by
 have g:=h.le b;constructor
 ·intro c;rcases fq t m with q|q
  ·obtain⟨z,j⟩:=h.1;obtain⟨y,d,i⟩:=wE j q;rw[b] at d;cases d;exact absurd i c
  ·omega
 ·rintro rfl c;obtain⟨r,_,_,e⟩:=f.next b c
  rw[(f.sta b).2.1,h.2] at e;cases e
def pW.at(h:pW (bI ks a) m)(d:t<=m):∃x,bI ks a t=some x:=by
 obtain⟨z,b⟩:=h.1;rcases fq t m with q|q
 ·obtain⟨y,c,_⟩:=wE b q;exact⟨y,c⟩
 ·obtain rfl:t=m:=o_
  exact⟨z,b⟩
section
variable {w:aG} {ks:List aC} {tape:List Int} {sb sf:Nat} {m:Bps} {U:List Nat} {W:aG} {s f:aU}
def Two.now(p:Good ks)(h:Two w ks tape sb sf m U W s f):Calls prog 8 #[bE sb] W λe i=>∃a:SV,e=aX a.val/\a.t=s.m_/\Below W.heap.size W i:=by
 obtain⟨⟨k,F,q,j,n,L,_,_,_,_,_,_,_,c,_⟩,t,g,_⟩:=h;obtain⟨b,d,l⟩:=(show T0 w ks tape sb W L s from ⟨⟨k,F,q,j,n,c⟩,t.1,g⟩).short p
 refine(A6 c.ses b.deep c.pow d l b.out).mono ?_;rintro e i ⟨a,rfl,o,r⟩;exact⟨a,rfl,r.t,o⟩
def Two.seek(n:Good ks)(c:tape.length<=17592186044416)(h:Two w ks tape sb sf m U W s f){t:Nat}{x:aU}(g:bI ks tape t=some x):Calls prog 9 #[bE sb,I_ t] W λe a=>(∃b,e=aX (.bool b))/\Two w ks tape sb sf m U a x f/\∀b∈U,a.heap[b]?=W.heap[b]?:=by
 refine(h.first λj _=>EA n c j t).mono ?_
 rintro e a ⟨b,l,rfl,q,k,i⟩;rcases q with ⟨rfl,o,d⟩|⟨_,_,q|q⟩
 ·have:l.m_=t:=o_
  rw[this,g] at d;cases d;exact⟨⟨_,rfl⟩,k,i⟩
 ·omega
 ·rw[Int.toNat_natCast,g] at q;cases q
def Two.hits(l:Good ks)(g:tape.length<=17592186044416)(n:gE w){a:Int}{c:cE}{o:Option aC}(i:c.length<=140737488355328)(q:tT c=.ok o)(h:Two w ks tape sb sf m U W s f){t:Nat}{x:aU}(u:bI ks tape t=some x):Calls prog 19 #[bE sf,I_ t,I_ a,.string (bs c)] W λe d=>e=aX (.bool (qW (vB a o []) x))/\Two w ks tape sb sf m U d s x/\∀b∈U,d.heap[b]?=W.heap[b]?:=by
 refine(h.second (R:=λv j=>v=.bool (SK x a c)/\j=x) λr=>N1 l g n h.low h.lo.2 r t x u a c i).mono ?_
 rintro e d ⟨v,j,rfl,⟨rfl,rfl⟩,p,k⟩;rw[bd_ q];exact⟨rfl,p,k⟩
end
structure BtS(w:aG)(tape:List Int)(ex:cE)(l_:Int)(ks:List aC)(o:Option aC)(sb sf:Nat)(U:List Nat)(W:aG)(s f:aU):Prop where
 good:Good ks
 bp:tT ex=.ok o
 two:Two w ks tape sb sf (vB l_ o []) U W s f
def Gap(ks:List aC)(tape:List Int)(l_:Int)(o:Option aC)(i j t z:Nat)(g:Prop):Prop:=
 (∀k x,i<k->k<j->bI ks tape k=some x->qW (vB l_ o []) x=false)/\(g->∀x,bI ks tape t=some x->qW (vB l_ o []) x=true\/t=z)
def UO(w:World)(T Z:List UInt8)(tx:Option Addr)(c:Nat)(r ab:Int)(d:List Int)(hT:gE w)(hp:kJ w)(al:9<=w.heap.size)(hs:T.length<=140737488355328)(aj:Z.length<=140737488355328)(h1: -9223372036854775808<=ab)(h2:ab<=9223372036854775807)(O:d.length<=17592186044416)(hi:∀x∈d, -9223372036854775808<=x/\x<=9223372036854775807)
 (au:0<d.length->∃ad,tx=some ad/\ad.block<w.heap.size/\∀j v,(d.map (Value.int .i64))[j]?=some v->w.cell? (ad.add j)=some v):
 Calls prog 5 #[.string (bs T),.slice tx d.length c,.int .i64 r,.string (bs Z),.int .i64 ab] w λe M=>e=.returned (.bool true)/\Below w.heap.size w M:=by
 refine OW w (bs T) (bs Z) tx d.length c r ab
  (λp W=>Below w.heap.size w W/\((p=none/\(cI T).1≠0)\/∃z n fp G P s,p=some ⟨z,0,none⟩/\Good n/\Live fp G W z P (.map #[] 0) n d s 1 []/\s.m_=0/\w.heap.size<=z/\w.heap.size<=P/\cW T=.ok n/\cI T=(0,0)/\∀b,G b->Nw w b)) (λW=>Below w.heap.size w W)
  (λz A W=>∃n fp F P s ag F' mf f,Good n/\Live fp F W z P (.map #[] 0) n d s 1 (A::(fV A W).toList)/\Live ag F' W A mf (.map #[] 0) n d f 1 (z::P::(fV z W).toList)/\w.heap.size<=z/\w.heap.size<=A/\w.heap.size<=P/\Below w.heap.size w W)
  (λz A W=>∃n o s f,BtS w d Z r n o z A [] W s f)
  (λz W=>∃n fp F P s,Live fp F W z P (.map #[] 0) n d s 1 []/\w.heap.size<=P/\Below w.heap.size w W)
  (λz A m u W=>∃n o s f,BtS w d Z r n o z A [] W s f/\pW (bI n d) m/\u<=m)
  (λz A m u W=>∃n o s f,BtS w d Z r n o z A [] W s f/\pW (bI n d) m/\u<=m/\s.m_=u)
  (λz A m u W=>∃n o s f,BtS w d Z r n o z A [] W s f/\pW (bI n d) m/\u<=m/\s.m_<=m/\(u<m->u<s.m_)/\(¬u<m->s.m_=u)/\Gap n d r o u s.m_ s.m_ m (u<m))
  (λz A m u t L i W=>∃n o s f,BtS w d Z r n o z A [L] W s f/\pW (bI n d) m/\u<=m/\t<=m/\u+1<=i/\Gap n d r o u t t m (u<m)/\∃a:SV,a.t=t/\W.heap[L]?=some (.cells a.cells 35 (0,0)))
  (λz A u L W=>∃n o s f,BtS w d Z r n o z A [L] W s f/\(∃x,bI n d u=some x)/\∃a:SV,W.heap[L]?=some (.cells a.cells 35 (0,0)))
  (λz A u L W=>∃n o s f,BtS w d Z r n o z A [L] W s f/\s.m_=u/\∃a:SV,W.heap[L]?=some (.cells a.cells 35 (0,0)))
  (λz A u L W=>∃n o s f,BtS w d Z r n o z A [L] W s f/\(∃x,bI n d u=some x)/\(0<u->s.m_<u)/\(u=0->s.m_=0)/\Gap n d r o s.m_ u s.m_ 0 (0<u)/\∃a:SV,W.heap[L]?=some (.cells a.cells 35 (0,0)))
  (λz A u t L i W=>∃n o s f,BtS w d Z r n o z A [L] W s f/\(∃x,bI n d u=some x)/\t<=u/\t+1<=i/\Gap n d r o t u t 0 (0<u)/\∃a:SV,a.t=t/\W.heap[L]?=some (.cells a.cells 35 (0,0)))
  (LZ w T tx c d hT hp al hs O hi au) (λp W hB=>?_) (λz A W hC=>?_) (λz W hD=>?_) (λz A W hD=>?_) (λz A m u W hE=>?_) (λz A m u W hE=>?_) (λz A m u W hE=>?_) (λz A m u t L i W hG=>?_) (λz A u L W hH=>?_) (λz A u L W hH=>?_) (λz A u L W hH=>?_) (λz A u t L i W hJ=>?_)
 ·obtain⟨B,⟨rfl,_⟩|⟨z,n,fp,F,P,s,rfl,C,U,_,am,ai,be,bd,_⟩⟩:=hB
  ·exact d7 ⟨rfl,B⟩
  ·refine d6 ⟨z,rfl,(LZ W T tx c d (hT.below B) (hp.below B) (el al B.size) hs O hi λh=>?_).mono ?_⟩
   ·obtain⟨ad,e1,e2,e3⟩:=au h;exact⟨ad,e1,ej e2 B.size,λj v hj=>(B.cell (p:=ad.add j) (by unfold Addr.add;split<;>exact e2)).trans (e3 j v hj)⟩
   ·rintro e M ⟨p,rfl,ah,⟨_,h0⟩|⟨A,bh,ag,F',mf,f,rfl,_,K,_,an,ax,ak,_,hN⟩⟩
    ·rw[bd] at h0;exact absurd rfl h0
    ·rw[be] at ak;cases ak;have ao:=B.size;have av:fV z M=fV z W:=gG (ah.block _ U.ses.lt)
     have ay:∀b,(b=z\/b=P\/fV z W=some b)->9<=b/\b<M.heap.size/\¬F' b/\fV A M≠some b/\b≠A/\b≠mf:=λb E=>by
      obtain⟨a1,a2,a3⟩:=U.notNw E;exact⟨a1,ej a2 ah.size,λhF=>a3 (hN b hF),λe=>by have:=(K.row e).1;omega,o_,o_⟩
     have ap:=U.made ah (A::(fV A M).toList) λb E=>by
      rcases eo.1 E with rfl|E
      ·exact⟨an,K.ses.lt⟩
      ·have:=K.row (show fV A M=some b by simpa using E)
       exact⟨o_,this.2.1⟩
     rw[ix] at ap;refine⟨A,rfl,n,fp,F,P,s,ag,F',mf,f,C,ap,⟨K.ses,K.tab,K.pow,K.low,K.hn,λb E=>?_⟩,am,o_,ai,B.trans (ah.mono B.size)⟩
     rw[av] at E;refine ay b ?_;rcases eo.1 E with rfl|E
     ·exact d7 rfl
     ·rcases eo.1 E with rfl|E
      ·exact d6 (d7 rfl)
      ·exact d6 (d6 (by simpa using E))
 ·obtain⟨n,fp,F,P,s,ag,F',mf,f,C,U,K,am,an,ai,B⟩:=hC;refine(S4 (U.drop (L':=[]) λb B=>by cases B) (PJ.none [] W) (hT.below B) r (bs Z) (by rw[gJ];omega)).mono ?_
  rintro e M ⟨k,l,rfl,⟨Q,_,aq⟩|⟨rfl,rfl,o,aw,N,J,I,V,⟨N',rfl,q3⟩,X⟩⟩
  ·exact⟨k,l,rfl,d7 ⟨Q,n,fp,F,P,s,(U.drop (L':=[]) λb B=>by cases B).but (But.below aq []) (λb B=>by cases B),ai,B.trans (aq.mono B.size)⟩⟩
  ·rw[ix] at I V;rw[gD] at J;have ac:=U.ses.lt;have ba:=U.ses.map.2;have e1:M.heap[z]?=W.heap[z]?:=X.blk z ac (by simpa using λe=>ba e.symm)
   have ax:P≠A:=λe=>(K.loc P s_).2.2.2.2.1 e
   have e2:M.heap[A]?=W.heap[A]?:=X.blk A K.ses.lt (by simpa using λe=>ax e.symm)
   have r1:=gG e1;have r2:=gG e2;have k2:=K.freshL (K.but X λb E=>by simp at E;subst E;simp) e2 N' λb E=>⟨q3 b E,(I.loc b E).2.1⟩
   have ao:=B.size;refine⟨0,0,rfl,d6 ⟨rfl,n,o,s,f,C,J,⟨⟨fp,F,P,aw,1,N'++(A::(fV A W).toList),ag,F',mf,.map #[] 0,1,N'++(z::P::(fV z W).toList),N',⟨I.ses,I.tab,I.pow,I.low,I.hn,λb E=>?_⟩,k2,V,λb E=>⟨fm _ E,fm _ E⟩,(λb E=>by cases E),⟨s_,λk Q=>?_⟩,s_,λk Q=>?_⟩,⟨am,an⟩,⟨X.os.trans B.os,X.tape.trans B.tape,X.output.trans B.output,el B.size X.size,λk Q=>?_⟩,λb E=>by cases E⟩⟩⟩
   ·rcases eq.1 E with E|E
    ·exact I.loc b E
    ·obtain⟨a1,a2,a3,a4,a5⟩:=U.loc b E;exact⟨a1,ej a2 X.size,a3,by rw[r1];exact a4,a5⟩
   ·rw[r2] at Q;exact fo _ (ey _ (by simpa using Q))
   ·rw[r1] at Q;exact fo _ (ey _ (ey _ (by simpa using Q)))
   ·rw[X.blk k o_ t_]
    exact B.block k Q
 ·obtain⟨n,fp,F,P,s,U,ai,B⟩:=hD;refine(Q8 U (PJ.none [] W) r).mono ?_;rintro e M ⟨rfl,aw,_,_,X⟩;have ao:=B.size;refine⟨rfl,⟨X.os.trans B.os,X.tape.trans B.tape,X.output.trans B.output,el B.size X.size,λk Q=>?_⟩⟩
  rw[X.blk k o_ t_]
  exact B.block k Q
 ·obtain⟨n,o,s,f,C,J,h⟩:=hD;refine(h.second (R:=λv _=>∃m:Nat,v=.int .i64 m/\pW (bI n d) m) λU=>(N0 C O U).mono ?_).mono ?_
  ·rintro e M ⟨m,rfl,I,G,n',τ,V,q3⟩;exact⟨_,G,n',τ,rfl,V,⟨m,rfl,I⟩,q3⟩
  ·rintro e M ⟨v,τ,rfl,⟨m,rfl,S⟩,I,_⟩;obtain⟨x,H⟩:=S.1;have af:=(C.sta H).1.m_;have bg:=(C.sta H).2.1;obtain⟨k,Q,az⟩:=I4 ab (m+1) o_ o_ h1 h2
   have hc:((m+1:Nat):Int)=(m:Int)+1:=o_
   rw[hc] at az;refine⟨m,rfl,o_,k,o_,(az M).mono ?_⟩
   rintro e w2 ⟨rfl,rfl⟩;exact⟨rfl,n,o,s,τ,⟨C,J,I⟩,S,o_⟩
 ·obtain⟨n,o,s,f,⟨C,J,h⟩,S,hu⟩:=hE;obtain⟨x,H⟩:=S.at hu;refine(h.seek C O H).mono ?_;rintro e M ⟨B,I,_⟩;exact⟨B,n,o,x,f,⟨C,J,I⟩,S,hu,(C.sta H).2.1⟩
 ·obtain⟨n,o,s,f,⟨C,J,h⟩,S,hu,rfl⟩:=hE;refine(h.first λU hB=>bZ_ C O U hB).mono ?_
  rintro e M ⟨g,σ,rfl,q,I,_⟩;refine⟨g,rfl,?_⟩;have bb:=S.stop C h.st;rcases q with ⟨rfl,rfl,hs⟩|⟨rfl,a1,a2,a3,a4⟩
  ·have:=bb.1 hs;exact⟨t_,n,o,σ,f,⟨C,J,I⟩,S,hu,hu,λh=>by omega,λ_=>rfl,λk x b1 b2=>by omega,λh=>by omega⟩
  ·have bc:=S.le a2;refine⟨t_,n,o,σ,f,⟨C,J,I⟩,S,hu,bc,λ_=>a1,λh=>by omega,a3,λ_ x H=>?_⟩
   rw[a2] at H;cases H;rcases a4 with a4|a4
   ·exact d7 a4
   ·exact d6 ((S.stop C a2).1 a4)
 ·obtain⟨n,o,s,f,⟨C,J,h⟩,S,hu,ht,b1,b2,D⟩:=hE;refine(h.now C).mono ?_;rintro e M ⟨a,rfl,aa,B⟩;rw[<-aa] at ht b1 b2 D;exact⟨a,rfl,ht,b1,b2,n,o,s,f,⟨C,J,h.add (B.alloc B.size _) B.size s_⟩,S,hu,ht,en _,D,a,rfl,aN _ _ rfl _⟩
 ·obtain⟨n,o,s,f,⟨C,J,h⟩,S,hu,ht,bf,D,a,rfl,Y⟩:=hG;refine⟨aA Y rfl,λae=>?_,λae=>?_⟩
  ·obtain⟨x,H⟩:=S.at (t:=i) o_
   refine(h.hits C O hT aj J H).mono ?_;rintro e M ⟨rfl,I,V⟩;rw[D.1 i x o_ ae H]
   exact⟨rfl,n,o,s,x,⟨C,J,I⟩,S,hu,ht,o_,D,a,rfl,(V L s_).trans Y⟩
  ·obtain⟨x,H⟩:=S.at (t:=a.t) ht;refine(h.hits C O hT aj J H).mono ?_;rintro e M ⟨rfl,I,V⟩;have Q:=(V L s_).trans Y
   refine⟨_,rfl,λac hf=>?_,⟨n,o,s,x,⟨C,J,I⟩,S.at hu,a,Q⟩,aA Q rfl⟩
   rcases D.2 ac x H with q|q
   ·rw[q] at hf;cases hf
   ·exact q
 ·obtain⟨n,o,s,f,⟨C,J,h⟩,⟨x,H⟩,a,Y⟩:=hH;refine(h.seek C O H).mono ?_;rintro e M ⟨B,I,V⟩;exact⟨B,n,o,x,f,⟨C,J,I⟩,(C.sta H).2.1,a,(V L s_).trans Y⟩
 ·obtain⟨n,o,s,f,⟨C,J,h⟩,rfl,a,Y⟩:=hH;refine(h.first λU hB=>SN C O U hB).mono ?_
  rintro e M ⟨g,σ,rfl,q,I,V⟩;have Q:=(V L s_).trans Y
  refine⟨g,rfl,?_⟩;rcases q with ⟨rfl,rfl,hs⟩|⟨rfl,a1,a2,a3,a4⟩
  ·exact⟨t_,n,o,σ,f,⟨C,J,I⟩,⟨_,h.st⟩,λh=>by omega,λh=>h,⟨λk x b1 b2=>by omega,λh=>by omega⟩,a,Q⟩
  ·refine⟨t_,n,o,σ,f,⟨C,J,I⟩,⟨_,h.st⟩,λ_=>a1,λh=>by omega,⟨a3,λ_ x H=>?_⟩,a,Q⟩
   rw[a2] at H;cases H;exact a4
 ·obtain⟨n,o,s,f,⟨C,J,h⟩,H,b1,b2,D,a0,Y⟩:=hH;refine(h.now C).mono ?_;rintro e M ⟨a,rfl,aa,B⟩;have af:=(C.sta h.st).1.m_;have hw:M.heap[L]?=some (.cells a0.cells 35 (0,0)):=(B.block _ (aD Y)).trans Y;rw[<-aa] at b1 b2 D af;refine⟨a,rfl,⟨_,hw,rfl⟩,af,b1,b2,n,o,s,f,⟨C,J,(h.below B).put s_ (But.set5 _ _ _)⟩,H,?_,en _,D,a,rfl,pN hw rfl⟩
  rcases jb u with q|q
  ·have:=b2 q;omega
  ·have:=b1 q;omega
 ·obtain⟨n,o,s,f,⟨C,J,h⟩,⟨y,hy⟩,ar,bi,D,a,rfl,Y⟩:=hJ
  have aa:∀t,t<=u->∃x,bI n d t=some x:=λt ht=>by
   rcases fq t u with q|q
   ·obtain⟨x,H,_⟩:=wE hy q;exact⟨x,H⟩
   ·obtain rfl:t=u:=o_
    exact⟨y,hy⟩
  refine⟨aA Y rfl,λae=>?_,λae=>?_⟩
  ·obtain⟨x,H⟩:=aa i o_
   refine(h.hits C O hT aj J H).mono ?_;rintro e M ⟨rfl,I,V⟩;rw[D.1 i x o_ ae H]
   exact⟨rfl,n,o,s,x,⟨C,J,I⟩,⟨y,hy⟩,ar,o_,D,a,rfl,(V L s_).trans Y⟩
  ·obtain⟨x,H⟩:=aa a.t ar;refine(h.hits C O hT aj J H).mono ?_;rintro e M ⟨rfl,I,V⟩;refine⟨_,rfl,λac hf=>?_,I.low,aA ((V L s_).trans Y) rfl⟩
   rcases D.2 ac x H with q|q
   ·rw[q] at hf;cases hf
   ·exact q
end Go.Proofs.YtddnpoiiimjpcaaGreatDoor
