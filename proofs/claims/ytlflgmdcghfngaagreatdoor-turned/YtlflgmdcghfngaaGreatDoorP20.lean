/- A session at work: what stays; its next state. -/
import Derived.Test.YtlflgmdcghfngaaGreatDoorP19
set_option linter.defProp false
set_option maxRecDepth 100000
set_option maxHeartbeats 4000000
namespace Go.Proofs.YtlflgmdcghfngaaGreatDoor
open Hs
open _root_.Go.Proofs.Tryz
open Go.RowKit
variable{a:List Int}{L:List Nat}{ks:List aE}{n sb:Nat}{w w':aG}{v:aQ}{s:aW}{F:bY}{fp:eK}
def cS_:prog.globalNamed "internal/strconv.uint64pow10"=some 4:=k_
def kE.low(h:kE w)(a:∀k,k<9->w'.heap[k]?=w.heap[k]?):kE w':=h.keep cS_ (a _ d_)
def jC.sv{a:aW}(h:jC fp F w v a):∃s:SV,v=s.val/\s.t=a.m_/\s.q=a.stop:=by
 obtain⟨f,t,o,rfl,⟨k,j,d,rfl⟩,⟨i,l,e,rfl⟩,⟨b,c,g,rfl⟩⟩:=h.form;exact⟨⟨a.m_,k,i,b,j,l,c,d,e,g,a.stop⟩,rfl,rfl,rfl⟩
section
variable {fp:eK} {F G:bY} {w w':aG} {sb mb n n':Nat} {mo:Obj} {st:Nat->Option aW} {s:aW}
def jD.same(h:jD fp F w sb mb mo st s n)(d:w.heap.size<=w'.heap.size)(c:∀k,F k\/k=sb\/k=mb\/nD sb w=some k->w'.heap[k]?=w.heap[k]?):jD fp F w' sb mb mo st s n:=by
 obtain⟨z,m,v,e,t,f,j,u,o,q,y,p⟩:=h.blk;have g:∀b,F b->w'.heap[b]?=w.heap[b]?:=λb l=>c b (d7 l)
 have r:nD sb w=e.ownBlock:=nK f rfl;refine⟨⟨z,m,v,e,t,by rw[c sb (d6 (d7 rfl))];exact f,j.keep g dP,aY u λk a=>c k (d6 (d6 (d6 (by rw[r];exact a)))),o,λi x=>(q i x).keep g dP,y,p⟩,h.now,λk a=>⟨ej (h.fix k a).1 d,(h.fix k a).2⟩,by rw[c mb (d6 (d6 (d7 rfl)))];exact h.map.1,h.map.2⟩
def FS.other{b:Nat}(h:FS sb w w')(m:w.heap.size<=b)(j:sb<w.heap.size){c:aG}(d:c.heap.size=w'.heap.size)(a:c.os=w'.os/\c.tape=w'.tape/\c.output=w'.output)(f:∀k,k≠b->c.heap[k]?=w'.heap[k]?):FS sb w c:=
 ⟨a.1.trans h.os,a.2.1.trans h.tape,a.2.2.trans h.output,by rw[d];exact h.size,λk i g l=>by rw[f k o_];exact h.blk k i g l,λk e=>h.row k (by rw[<-nL (f sb o_)];exact e)⟩
end
structure Live(fp:eK)(F:bY)(w:aG)(sb mb:Nat)(mo:Obj)(ks:List aE)(tape:List Int)(s:aW)(n:Nat)(L:List Nat):Prop where
 ses:jD fp F w sb mb mo (bT ks tape) s n
 tab:lZ fp F w (dC ks 2001)
 pow:kE w
 low:9<=sb/\9<=mb
 hn:s.m_/20<n
 loc:∀b∈L,9<=b/\b<w.heap.size/\¬F b/\nD sb w≠some b/\b≠sb/\b≠mb
section
variable {fp:eK} {F G:bY} {w w':aG} {sb mb n n':Nat} {mo:Obj} {ks:List aE} {tape:List Int} {s:aW} {L:List Nat}
def Live.row(h:Live fp F w sb mb mo ks tape s n L){k:Nat}(a:nD sb w=some k):sb<k/\k<w.heap.size/\¬F k/\k≠mb:=h.ses.row k a
def Live.keep(h:Live fp F w sb mb mo ks tape s n L)(L':List Nat)(f:∀b∈L',b∈L)(g:w.heap.size<=w'.heap.size)(c:∀k,k<w.heap.size->k∉L'->w'.heap[k]?=w.heap[k]?):Live fp F w' sb mb mo ks tape s n L:=by
 have l:=h.ses.lt;have e:w'.heap[sb]?=w.heap[sb]?:=c sb l λa=>(h.loc sb (f sb a)).2.2.2.2.1 rfl
 have m:∀b,F b->w'.heap[b]?=w.heap[b]?:=λb i=>c b (h.ses.fix b i).1 λa=>(h.loc b (f b a)).2.2.1 i
 refine⟨h.ses.same g λk d=>?_,h.tab.keep m dP,h.pow.low λk d=>c k (by have:=h.low;omega) λa=>by have:=(h.loc k (f k a)).1;omega,h.low,h.hn,λb i=>?_⟩
 ·rcases d with j|rfl|rfl|j
  ·exact m k j
  ·exact e
  ·exact c _ (aC h.ses.map.1) λa=>(h.loc _ (f _ a)).2.2.2.2.2 rfl
  ·exact c k (h.row j).2.1 λa=>(h.loc k (f k a)).2.2.2.1 j
 ·obtain⟨r,t,o,q,p⟩:=h.loc b i;exact⟨r,ej t g,o,by rw[nL e];exact q,p⟩
def Live.alloc(h:Live fp F w sb mb mo ks tape s n L)(o:Obj):Live fp F (w.alloc o) sb mb mo ks tape s n (w.heap.size::L):=by
 have a:Live fp F (w.alloc o) sb mb mo ks tape s n L:=h.keep [] nY s_ λk d _=>ek _ _ _ d
 refine⟨a.ses,a.tab,a.pow,a.low,a.hn,λb c=>?_⟩
 rcases eo.1 c with rfl|c
 ·have f:=h.ses.lt;have i:=h.low;refine⟨o_,s_,λg=>by have:=(h.ses.fix _ g).1;omega,λe=>?_,o_,by have:=aC h.ses.map.1;omega⟩
  rw[nL (ek _ _ _ f)] at e;have:=(h.row e).2.1;omega
 ·exact a.loc b c
def Live.drop(h:Live fp F w sb mb mo ks tape s n L){L':List Nat}(c:∀b∈L',b∈L):Live fp F w sb mb mo ks tape s n L':=⟨h.ses,h.tab,h.pow,h.low,h.hn,λb a=>h.loc b (c b a)⟩
def Live.fs(h:Live fp F w sb mb mo ks tape s n L)(d:FS sb w w')(m:jD fp G w' sb mb mo (bT ks tape) s n')(f:Ext F G w.heap.size)(p:n<=n'):Live fp G w' sb mb mo ks tape s n' L:=by
 have q:∀b,F b->w'.heap[b]?=w.heap[b]?:=λb c=>d.blk b (h.ses.fix b c).1 (h.ses.fix b c).2.1 λe=>(h.row e).2.2.1 c
 refine⟨m,h.tab.keep q f.sub,h.pow.low λk t=>d.blk k (by have:=h.low;have:=h.ses.lt;omega) (by have:=h.low;omega) λe=>by have:=(h.row e).1;have:=h.low;omega,h.low,ej h.hn p,λb c=>?_⟩
 obtain⟨i,j,l,g,o⟩:=h.loc b c;refine⟨i,ej j d.size,λr=>?_,λe=>?_,o⟩
 ·rcases f.new b r with a|a
  ·exact l a
  ·omega
 ·rcases d.row b e with a|a
  ·exact g a
  ·omega
def Live.blk(h:Live fp F w sb mb mo ks tape s n L)(c:FS sb w w'){b:Nat}(e:b∈L):w'.heap[b]?=w.heap[b]?:=by
 obtain⟨g,d,i,a,f,j⟩:=h.loc b e;exact c.blk b d f a
def Live.stR(h:Live fp F w sb mb mo ks tape s n L)(d:FS sb w w')(g:Ext F G w.heap.size){v:aQ}{c:aW}(f:jC fp F w v c):jC fp G w' v c:=
 f.keep (λb a=>d.blk b (h.ses.fix b a).1 (h.ses.fix b a).2.1 λe=>(h.row e).2.2.1 a) g.sub
def Good.sta(b:Good ks){t:Nat}{a:aW}(h:bT ks tape t=some a):VP (fZ ks) a/\a.m_=t/\Rest tape.length a.m/\a.stop<=9:=by
 obtain⟨e,c⟩:=ER (mH b.ok) (vY b.ok b.main tape) t a h;obtain⟨f,d⟩:=LI b.utf (b.rest0 tape) t a h;exact⟨e,c,f,d⟩
def Live.count(e:Good ks)(h:Live fp F w sb mb mo ks tape s n L):n<=26:=by
 obtain⟨_,_,_,_,i,_,_,_,g,c,_⟩:=h.ses.blk;rcases kf n with d|d
 ·omega
 obtain⟨_,j,a,_⟩:=c (n-1) o_
 obtain⟨b,f,_⟩:=e.sta a;have:=b.m_;omega
def Good.next(c:Good ks){a:aW}{t:Nat}(h:bT ks tape t=some a)(d:a.stop=0):∃r,dR (dC ks 2001) jP a.m=some r/\r.2<=9/\bT ks tape (a.m_+1)=some ⟨a.m_+1,r.1,cA (a.m_+1) r.2⟩:=by
 obtain⟨f,e,g,i⟩:=c.sta h;obtain⟨r,b,_⟩:=qI (mH c.ok) (f.ok d).1;refine⟨r,b,(rW c.utf _ _ _ g b).2,?_⟩;unfold bT at h ⊢
 rw[e,fB,h];simp[d,b]
def mD:SV:=⟨0,none,none,none,0,0,0,0,0,0,0⟩
def a9_(fp:eK)(F:bY)(w:aG)(sb mb:Nat)(mo:Obj)(ks:List aE)(tape:List Int)(s:aW)(n:Nat)(L:List Nat)(σ:aW)(v':SV)(ok:Bool)(w':aG):Prop:=
 ∃G n',n<=n'/\Ext F G w.heap.size/\FS sb w w'/\Live fp G w' sb mb mo ks tape s n' L/\(ok=true->σ.stop=0/\∃σ',bT ks tape (σ.m_+1)=some σ'/\σ'.m_=σ.m_+1/\jC fp G w' v'.val σ'/\σ'.m_/20<n')/\(ok=false->σ.stop≠0)
def yP(O:Good ks)(h:Live fp F w sb mb mo ks tape s n L)(ap:tape.length<=17592186044416)(v:SV)(d:aW)(hv:jC fp F w v.val d)(T:bT ks tape d.m_=some d)(ai:d.m_/20<n):
 Calls prog 48 #[aZ sb,v.val] w λe w'=>∃v' ok,e=aX (.tuple #[SV.val v',.bool ok])/\a9_ fp F w sb mb mo ks tape s n L d v' ok w':=by
 obtain⟨t,l⟩:=E_ ((w.alloc (.cells v.cells 53)).alloc (.cells #[I_ 0,bG,bG,bG,I_ 0] 53));have c:Below w.heap.size w t:=by rw[l];exact((eh _ _).alloc cL _).alloc s_ _
 have am:t.heap.size=w.heap.size+2:=by rw[l];simp
 have K:t.heap[w.heap.size+1]?=some (.cells #[I_ 0,bG,bG,bG,I_ 0] 53 (0,0)):=by rw[l];exact fR _ _ _
 have y:∀b,F b->b<w.heap.size:=λb a=>(h.ses.fix b a).1
 have p:=h.ses.lt;have ak:=aC h.ses.map.1;obtain⟨z,ao,H,aq⟩:=O.sta T;have aj:=h.count O;by_cases E:d.stop=0
 ·obtain⟨r,ad,al,P⟩:=O.next T E
  refine EU w sb v (a9_ fp F w sb mb mo ks tape s n L d)
   (λf ok W=>ok=true/\Below t.heap.size t W/\∃o,Ext F o t.heap.size/\(∀b,o b->b<W.heap.size)/\jC fp o W f.val ⟨d.m_+1,r.1,cA (d.m_+1) r.2⟩) ?_ (λf W I=>?_) (λf W I=>?_)
  ·show Calls _ _ _ _ _
   rw[<-l];refine(WV (mH O.ok) O.utf (hv.keep (λb a=>c.block b (y b a)) dP) (λb a=>ej (y b a) c.size) (h.tab.keep (λb a=>c.block b (y b a)) dP) (h.pow.below c) E (z.ok E).1 (z.ok E).2 H.utf H.out (by have:=H.tape;omega) ad (by have:=z.m_;omega) o_).mono ?_
   rintro e w' ⟨v',rfl,a,o,G,M,X⟩;obtain⟨f,rfl,_⟩:=X.sv;exact⟨f,true,rfl,rfl,a,o,G,M,X⟩
  ·cases I.1
  ·obtain⟨_,a,o,G,M,X⟩:=I;have aa:=a.size;obtain⟨x,A⟩:=E_ (W.alloc (.cells f.cells 53));have B:Below W.heap.size W x:=by rw[A];exact(eh _ _).alloc cL _
   have an:x.heap.size=W.heap.size+1:=by rw[A];simp
   have ah:x.heap[W.heap.size]?=some (.cells f.cells 53 (0,0)):=by rw[A];exact aN _ _ rfl _
   have i:Below w.heap.size w x:=c.trans ((a.mono c.size).trans (B.mono o_))
   show Calls _ _ _ _ _
   rw[<-A]
   have m:jD fp o x sb mb mo (bT ks tape) s n:=h.ses.grow i G.sub λk u=>by
    rcases G.new k u with j|j
    ·exact d7 j
    ·exact d6 ⟨o_,by have:=M k u;omega⟩
   refine(LK m f.val ⟨d.m_+1,r.1,cA (d.m_+1) r.2⟩ (X.keep (λb g=>B.block b (M b g)) dP) P (λhm=>by simp only at hm ⊢;omega) o_ (by have:=z.m_;simp only;omega)).mono ?_
   rintro e w' ⟨he,Y,ae⟩;have D:nD sb x=nD sb w:=nL (i.block _ p);have J:∀k,w.heap.size<=k->k<x.heap.size->w'.heap[k]?=x.heap[k]?:=λk j Q=>Y.blk k Q o_ λe=>by rw[D] at e;have:=(h.row e).2.1;omega
   refine⟨he,by rw[J _ o_ o_];exact ah,⟨_,by rw[J _ o_ o_,B.block _ o_,a.block _ o_];exact K,s_⟩,o_,?_⟩
   obtain⟨Z,z2,z3,z4⟩:=gZ w' (w.heap.size+1) f;have ac:FS sb w w':=(FS.of_below i p).trans Y;have N:FS sb w (dW w' (w.heap.size+1) f):=ac.other (b:=w.heap.size+1) o_ p Z ⟨z2,z3,z4⟩ λk u=>dH _ _ _ k u
   have af:¬o (w.heap.size+1):=λhq=>by
    rcases G.new _ hq with j|j
    ·have:=y _ j;omega
    ·omega
   have S:∀k,o k\/k=sb\/k=mb\/nD sb w'=some k->(dW w' (w.heap.size+1) f).heap[k]?=w'.heap[k]?:=λk u=>dH _ _ _ k (by
    rintro rfl;rcases u with j|j|j|j
    ·exact af j
    ·omega
    ·omega
    ·rcases Y.row _ j with Q|Q
     ·rw[D] at Q;have:=(h.row Q).2.1;omega
     ·omega)
   have ab:=ae.same (by rw[Z];exact en _) S
   have C:Ext F o w.heap.size:=⟨G.sub,λk u=>(G.new k u).imp_right λj=>by omega⟩
   refine⟨o,_,?_,C,N,h.fs N ab C ?_,λ_=>⟨E,⟨d.m_+1,r.1,cA (d.m_+1) r.2⟩,P,rfl,?_,?_⟩,λe=>by cases e⟩
   ·split<;>omega
   ·split<;>omega
   ·refine X.keep (λb g=>?_) dP
    have ag:=M b g;have V:b≠sb:=(m.fix b g).2.1;rw[S b (d7 g),Y.blk b o_ V (λe=>(m.row b e).2.2.1 g),B.block b ag]
   ·simp only;split<;>omega
 ·refine EU w sb v (a9_ fp F w sb mb mo ks tape s n L d) (λf ok W=>ok=false/\f=mD/\Below t.heap.size t W) ?_ (λf W I=>?_) (λf W I=>?_)
  ·show Calls _ _ _ _ _
   rw[<-l];obtain⟨fv,tv,xo,he,f1,f2,f3⟩:=hv.form;rw[he];refine(O7 t d.m_ d.stop fv tv xo E f1 f2 f3).mono ?_;rintro e w' ⟨rfl,a⟩;exact⟨mD,false,rfl,rfl,rfl,a⟩
  ·obtain⟨_,rfl,a⟩:=I;have aa:=a.size;refine⟨⟨_,by rw[a.block _ o_];exact K,s_⟩,?_⟩
   obtain⟨Z,z2,z3,z4⟩:=gZ W (w.heap.size+1) mD
   have i:Below w.heap.size w (dW W (w.heap.size+1) mD):=by
    have U:Below w.heap.size w W:=c.trans (a.mono c.size);exact⟨z2.trans U.os,z3.trans U.tape,z4.trans U.output,by rw[Z];exact U.size,λk u=>by rw[dH _ _ _ k o_];exact U.block k u⟩
   have q:=i.alloc i.size (.cells mD.cells 53);exact⟨F,n,cL,Ext.refl _ _,FS.of_below q p,h.fs (FS.of_below q p) (h.ses.grow q dP λ_ h=>d7 h) (Ext.refl _ _) cL,λe=>(by cases e),λ_=>E⟩
  ·cases I.1
end
def QG(st:Nat->Option aW)(p:aW->Bool)(s τ:aW)(fd:Bool):Prop:=
 (fd=false/\τ=s/\s.stop≠0)\/(fd=true/\s.m_<τ.m_/\st τ.m_=some τ/\(∀t x,s.m_<t->t<τ.m_->st t=some x->p x=false)/\(p τ=true\/τ.stop≠0))
structure But(L:List Nat)(w w':aG):Prop where
 os:w'.os=w.os
 tape:w'.tape=w.tape
 output:w'.output=w.output
 size:w.heap.size<=w'.heap.size
 blk:∀k,k<w.heap.size->k∉L->w'.heap[k]?=w.heap[k]?
def But.below(h:Below w.heap.size w w')(L:List Nat):But L w w':=⟨h.os,h.tape,h.output,h.size,λk a _=>h.block k a⟩
def But.alloc(w:aG)(o:Obj)(L:List Nat):But L w (w.alloc o):=But.below ((eh _ w).alloc cL o) L
def But.drew(w:aG)(L:List Nat):But L w w.drew:=⟨rfl,rfl,rfl,cL,λ_ _ _=>rfl⟩
def But.put(w:aG)(b:Nat)(o:Obj):But [b] w (w.putObj b o):=⟨rfl,rfl,rfl,s_,λk _ a=>World.putObj_heap_other (by simpa using a)⟩
def But.set5(w:aG)(b:Nat)(s:SV):But [b] w (dW w b s):=by
 obtain⟨e,c,f,d⟩:=gZ w b s;exact⟨c,f,d,by rw[e];exact en _,λk _ a=>dH _ _ _ k (by simpa using a)⟩
def But.set(w:aG)(b:Nat)(v:aQ):But [b] w (w.setCell (aH b 0) v):=⟨rfl,rfl,rfl,s_,λk _ a=>ei _ _ _ _ (by simpa using a)⟩
def But.trans{M:List Nat}{a b c:aG}(h:But L a b)(k:But M b c):But (L++M) a c:=
 ⟨k.os.trans h.os,k.tape.trans h.tape,k.output.trans h.output,em h.size k.size,λi e d=>by
   rw[eu,not_or] at d;rw[k.blk i (ej e h.size) d.2,h.blk i e d.1]⟩
def FS.but{c:aG}(h:FS sb c w)(a:But L w w')(f:∀b∈L,c.heap.size<=b)(j:sb<c.heap.size):FS sb c w':=by
 have n:=h.size;have l:w'.heap[sb]?=w.heap[sb]?:=a.blk sb o_ λd=>by have:=f sb d;omega
 exact⟨a.os.trans h.os,a.tape.trans h.tape,a.output.trans h.output,em h.size a.size,λk i g m=>by rw[a.blk k o_ λd=>by have:=f k d;omega];exact h.blk k i g m,λk e=>h.row k (by rw[<-nL l];exact e)⟩
def jC.but{g:Nat}{e:Obj}{d:aW}{L':List Nat}(k:jC fp F w v d)(h:Live fp F w sb g e ks a s n L)(f:But L' w w')(i:∀b∈L',b∈L):jC fp F w' v d:=
 k.keep (λb c=>f.blk b (h.ses.fix b c).1 λj=>(h.loc b (i b j)).2.2.1 c) λ_ h=>h
def Live.but{d:Nat}{c:Obj}{L':List Nat}(h:Live fp F w sb d c ks a s n L)(e:But L' w w')(f:∀b∈L',b∈L):Live fp F w' sb d c ks a s n L:=h.keep L' f e.size e.blk
def jD.cells{i:Nat}{g:Obj}{o:Nat->Option aW}(h:jD fp F w sb i g o s n):∃a:SV,jC fp F w a.val s/\w.cell? (aH sb 0)=some (I_ a.t)/\w.cell? (aH sb 1)=some (.slice a.x1 a.n1 a.c1)/\w.cell? (aH sb 2)=some (.slice a.x2 a.n2 a.c2)/\w.cell? (aH sb 3)=some (.slice a.x3 a.n3 a.c3)/\w.cell? (aH sb 4)=some (I_ a.q)/\∃c,w.heap[sb]?=some (.cells c 59 (0,0))/\5<=c.size:=by
 obtain⟨y,u,x,t,v,b,f,_⟩:=h.blk;obtain⟨e,d,m,r⟩:=f.sv;refine⟨e,by rw[<-d];exact f,?_⟩
 simp only[SV.val,Value.agg.injEq] at d;simp at d;obtain⟨p,q,j,l,k⟩:=d;rw[p,q,j,l,k] at b;exact⟨aA b rfl,aA b rfl,aA b rfl,aA b rfl,aA b rfl,_,b,s_⟩
def jD.go{l:Nat}{p:Obj}{m:Nat->Option aW}{τ:aW}{v:SV}(h:jD fp F w sb l p m s n)(z:jC fp F w v.val τ)(o:m τ.m_=some τ):jD fp F (dW w sb v) sb l p m τ n/\FS sb w (dW w sb v)/\nD sb (dW w sb v)=nD sb w:=by
 obtain⟨P,N,O,f,G,t,M,H,C,E,K,D⟩:=h.blk;obtain⟨L,e,y,u⟩:=z.sv;obtain rfl:=SV.val_inj e;obtain⟨r,A,I,B⟩:=gZ w sb v
 have j:(dW w sb v).heap[sb]?=some (.cells #[I_ v.t,.slice v.x1 v.n1 v.c1,.slice v.x2 v.n2 v.c2,.slice v.x3 v.n3 v.c3,I_ v.q,f,.map (some l)] 59 (0,0)):=by
  have q:=yQ (s:=v) t;simp only[List.setIfInBounds_toArray,List.set_cons_zero,ki] at q;exact q
 have x:∀b,F b->(dW w sb v).heap[b]?=w.heap[b]?:=λb j=>dH _ _ _ _ (h.fix b j).2.1
 have c:nD sb w=f.ownBlock:=nK t rfl;have d:nD sb (dW w sb v)=f.ownBlock:=nK j rfl;have g:∀k,f.ownBlock=some k->(dW w sb v).heap[k]?=w.heap[k]?:=λk a=>dH _ _ _ _ (by have:=(h.row k (by rw[c];exact a)).1;omega)
 refine⟨⟨⟨_,_,_,f,G,by rw[<-y,<-u];exact j,?_,aY H g,C,λi J=>(E i J).keep x dP,K,D⟩,o,λk a=>?_,by rw[dH _ _ _ _ h.map.2];exact h.map.1,h.map.2⟩,⟨A,I,B,by rw[r];exact en _,λk _ a _=>dH _ _ _ _ a,λk a=>d7 ?_⟩,?_⟩
 ·have:=z.keep x dP;unfold SV.val at this;rw[<-y,<-u];exact this
 ·have:=h.fix k a;exact⟨by rw[r];exact this.1,this.2⟩
 ·rw[c,<-d];exact a
 ·rw[c,d]
def Live.go{g:Nat}{f:Obj}{τ:aW}{v:SV}(h:Live fp F w sb g f ks a s n L)(o:jC fp F w v.val τ)(d:bT ks a τ.m_=some τ)(m:τ.m_/20<n):Live fp F (dW w sb v) sb g f ks a τ n L/\FS sb w (dW w sb v):=by
 obtain⟨l,i,p⟩:=h.ses.go o d;obtain⟨j,_⟩:=gZ w sb v;have e:=h.low;refine⟨⟨l,h.tab.keep (λb c=>dH _ _ _ _ (h.ses.fix b c).2.1) dP,h.pow.low λk q=>dH _ _ _ _ o_,h.low,m,λb c=>?_⟩,i⟩
 have:=h.loc b c;rw[j,p];exact this
structure MCtx where
 fp:Nat->Value
 sb:Nat
 mb:Nat
 mo:Obj
 ks:List aE
 tape:List Int
 s:aW
 p:aW->Bool
 bb:Nat
 fv:Value
 w:aG
 L:List Nat
 le:Nat->Bool->Prop
def MCtx.bf(C:MCtx):Nat:=C.w.heap.size
def MCtx.bt(C:MCtx):Nat:=C.w.heap.size+1
def MCtx.bo(C:MCtx):Nat:=C.w.heap.size+1+1
def MCtx.all(C:MCtx):List Nat:=(C.w.heap.size+3+1)::(C.w.heap.size+3)::C.bo::C.bt::C.bf::C.L
noncomputable def MCtx.st(C:MCtx):Nat->Option aW:=bT C.ks C.tape
structure Mvg(C:MCtx)(L:List Nat)(F:bY)(n k:Nat)(fd:Bool)(W:aG):Prop where
 live:Live C.fp F W C.sb C.mb C.mo C.ks C.tape C.s n L
 mem:∀b∈C.all,b∈L
 cf:W.heap[C.bf]?=some (.cells #[C.fv] 86 (0,0))
 cb:W.heap[C.bb]?=some (.cells #[aZ C.sb] 24 (0,0))/\C.bb∈C.L
 ct:∃s2 τ,W.heap[C.bt]?=some (.cells (SV.cells s2) 53 (0,0))/\jC C.fp F W s2.val τ/\C.st k=some τ/\k/20<n
 co:W.heap[C.bo]?=some (.cells #[.bool fd] 4 (0,0))
 le:C.le k fd
 fr:FS C.sb C.w W/\C.sb<C.w.heap.size/\∀b∈C.L,b<C.w.heap.size
section
variable {C:MCtx} {L L':List Nat} {F G:bY} {n n' k:Nat} {fd:Bool} {W W':aG}
def Mvg.lt(h:Mvg C L F n k fd W):C.w.heap.size+3+1<W.heap.size:=(h.live.loc _ (h.mem _ (by simp[MCtx.all]))).2.1
def Mvg.but(h:Mvg C L F n k fd W)(e:But L' W W')(f:∀b∈L',b∈L/\C.bo<b):Mvg C L F n k fd W':=by
 have c:=h.fr.2.1;have l:=h.lt;have d:∀b,b<=C.bo->W'.heap[b]?=W.heap[b]?:=λb g=>e.blk b (by simp only[MCtx.bo] at g;omega) λa=>by have:=(f b a).2;omega
 obtain⟨m,q,o,p,r,i⟩:=h.ct;have j:=h.fr.2.2 _ h.cb.2;refine⟨h.live.but e λb a=>(f b a).1,h.mem,by rw[d _ (by simp only[MCtx.bo,MCtx.bf];omega)];exact h.cf,⟨by rw[d _ (by simp only[MCtx.bo];omega)];exact h.cb.1,h.cb.2⟩,⟨m,q,by rw[d _ (by simp only[MCtx.bo,MCtx.bt];omega)];exact o,p.but h.live e λb a=>(f b a).1,r,i⟩,by rw[d _ cL];exact h.co,h.le,h.fr.1.but e (λb a=>by have:=(f b a).2;simp only[MCtx.bo] at this;omega) c,c,h.fr.2.2⟩
def Mvg.more(h:Mvg C L F n k fd W)(a:Live C.fp F W C.sb C.mb C.mo C.ks C.tape C.s n L')(c:∀b∈C.all,b∈L'):Mvg C L' F n k fd W:=⟨a,c,h.cf,h.cb,h.ct,h.co,h.le,h.fr⟩
def Mvg.alloc(h:Mvg C L F n k fd W)(o:Obj):Mvg C (W.heap.size::L) F n k fd (W.alloc o):=
 (h.but (L':=[]) (But.alloc W o []) λb a=>by cases a).more (h.live.alloc o) λb c=>fe _ (h.mem b c)
def Mvg.fs(h:Mvg C L F n k fd W)(c:FS C.sb W W')(d:Live C.fp G W' C.sb C.mb C.mo C.ks C.tape C.s n' L)(m:Ext F G W.heap.size)(p:n<=n'):Mvg C L G n' k fd W':=by
 have a:∀b∈L,W'.heap[b]?=W.heap[b]?:=λb l=>h.live.blk c l
 obtain⟨e,i,f,g,j,o⟩:=h.ct;exact⟨d,h.mem,by rw[a _ (h.mem _ (by simp[MCtx.all]))];exact h.cf,⟨by rw[a _ (h.mem _ (by simp[MCtx.all,h.cb.2]))];exact h.cb.1,h.cb.2⟩,⟨e,i,by rw[a _ (h.mem _ (by simp[MCtx.all]))];exact f,h.live.stR c m g,j,o_⟩,by rw[a _ (h.mem _ (by simp[MCtx.all]))];exact h.co,h.le,h.fr.1.trans c,h.fr.2⟩
def Mvg.set(h:Mvg C L F n k fd W){v:SV}{a:aW}(q:jC C.fp F W v.val a)(j:C.st a.m_=some a)(p:a.m_/20<n)(l:C.le a.m_ true):Mvg C L F n a.m_ true ((dW W C.bt v).setCell (aH C.bo 0) (.bool true)):=by
 have d:But ([C.bt]++[C.bo]) W ((dW W C.bt v).setCell (aH C.bo 0) (.bool true)):=(But.set5 W C.bt v).trans (But.set _ _ _);have g:∀b∈[C.bt]++[C.bo],b∈L:=λb i=>h.mem b (by simp at i;rcases i with rfl|rfl<;>simp[MCtx.all])
 have f:=h.fr.2.1;have w:=h.lt;have o:=h.fr.2.2 _ h.cb.2;obtain⟨s,x,r,y,t,u⟩:=h.ct;have c:C.bt≠C.bo:=by simp only[MCtx.bt,MCtx.bo];omega
 refine⟨h.live.but d g,h.mem,by rw[d.blk _ (by simp only[MCtx.bf];omega) (by simp only[MCtx.bf,MCtx.bt,MCtx.bo,gb,ij,eo,fi,or_false];omega)];exact h.cf,⟨by rw[d.blk _ o_ (by simp only[MCtx.bt,MCtx.bo,gb,ij,eo,fi,or_false];omega)];exact h.cb.1,h.cb.2⟩,⟨v,a,?_,q.but h.live d g,j,p⟩,?_,l,h.fr.1.but d (λb i=>by simp[MCtx.bt,MCtx.bo] at i;omega) f,f,h.fr.2.2⟩
 ·rw[ei _ _ _ _ c];exact sI r rfl
 ·have m:(dW W C.bt v).heap[C.bo]?=some (.cells #[.bool fd] 4 (0,0)):=by rw[dH _ _ _ _ (λe=>c e.symm)];exact h.co
  exact aK m
end
def fwd(s:aW)(k:Nat)(fd:Bool):Prop:=s.m_<=k/\(fd=true↔s.m_<k)
def IJ(C:MCtx)(k:Nat):Prop:=∀t x,C.s.m_<t->t<=k->C.st t=some x->C.p x=false
def RdA(C:MCtx)(M:List Nat)(t:Nat)(s':SV)(W:aG):Prop:=∃F n σ k fd,Mvg C M F n k fd W/\jC C.fp F W s'.val σ/\C.st σ.m_=some σ/\σ.m_=k+1/\σ.m_/20<n/\W.heap[t]?=some (.cells s'.cells 53 (0,0))/\C.w.heap.size+3+1<t/\IJ C k
def RdB(C:MCtx)(t:Nat)(s':SV)(W:aG):Prop:=∃F n σ,Mvg C (t::C.all) F n σ.m_ true W/\jC C.fp F W s'.val σ/\C.st σ.m_=some σ/\σ.m_/20<n/\W.heap[t]?=some (.cells s'.cells 53 (0,0))/\C.w.heap.size+3+1<t/\IJ C σ.m_
def RdE(C:MCtx)(W:aG):Prop:=∃F n k fd τ,Mvg C C.all F n k fd W/\C.st k=some τ/\QG C.st C.p C.s τ fd
section
variable {C:MCtx}
def cZ_:∀b∈[C.w.heap.size+3+1],C.bo<b:=λb a=>by simp at a;simp only[MCtx.bo];omega
def Mvg.put{L:List Nat}{F:bY}{n k:Nat}{c:Bool}{W:aG}(h:Mvg C L F n k c W)(o:Obj):Mvg C L F n k c (W.putObj (C.w.heap.size+3+1) o):=
 h.but (But.put _ _ _) λb a=>⟨h.mem b (by simp at a;simp[MCtx.all,a]),cZ_ b a⟩
def Mvg.putS{L:List Nat}{F:bY}{n k:Nat}{d:Bool}{W:aG}{c:aW}{v:aQ}(h:Mvg C L F n k d W)(e:jC C.fp F W v c)(o:Obj):jC C.fp F (W.putObj (C.w.heap.size+3+1) o) v c:=
 e.but h.live (But.put _ _ _) λb a=>h.mem b (by simp at a;simp[MCtx.all,a])
def RdA.put{M:List Nat}{t:Nat}{a:SV}{W:aG}(h:RdA C M t a W)(o:Obj):RdA C M t a (W.putObj (C.w.heap.size+3+1) o):=by
 obtain⟨F,n,l,k,c,b,d,j,e,g,m,f,i⟩:=h;exact⟨F,n,l,k,c,b.put o,b.putS d o,j,e,g,by rw[World.putObj_heap_other o_];exact m,f,i⟩
def RdB.put{t:Nat}{a:SV}{W:aG}(h:RdB C t a W)(o:Obj):RdB C t a (W.putObj (C.w.heap.size+3+1) o):=by
 obtain⟨F,n,j,b,e,i,g,c,f,d⟩:=h;exact⟨F,n,j,b.put o,b.putS e o,i,g,by rw[World.putObj_heap_other o_];exact c,f,d⟩
def RdE.put{W:aG}(h:RdE C W)(o:Obj):RdE C (W.putObj (C.w.heap.size+3+1) o):=by
 obtain⟨F,n,k,a,d,c,b,e⟩:=h;exact⟨F,n,k,a,d,c.put o,b,e⟩
def IJ.succ{k:Nat}{a:aW}(h:IJ C k)(g:a.m_=k+1)(b:C.st a.m_=some a)(e:C.p a=false):IJ C a.m_:=λt x f i c=>by
 rcases fu k t with d|d
 ·obtain rfl:t=a.m_:=o_
  rw[b] at c;cases c;exact e
 ·exact h t x f d c
def Mvg.next{L:List Nat}{F:bY}{n k:Nat}{l:Bool}{W:aG}(p:Good C.ks)(o:C.le=fwd C.s)(m:C.tape.length<=17592186044416)(h:Mvg C L F n k l W)(v:SV)(c:aW)(O:jC C.fp F W v.val c)(d:C.st c.m_=some c)(j:c.m_=k)(g:c.m_/20<n)(K:IJ C k):
 Calls prog 48 #[aZ C.sb,v.val] W λe w'=>∃i ok,e=aX (.tuple #[SV.val i,.bool ok])/\(∀b∈L,w'.heap[b]?=W.heap[b]?)/\
  ∃G n',Mvg C L G n' k l w'/\(ok=true->∃a,jC C.fp G w' i.val a/\C.st a.m_=some a/\a.m_=k+1/\a.m_/20<n'/\i.t=k+1/\k<500)/\(ok=false->QG C.st C.p C.s c l):=by
 refine(yP p h.live m v c O d g).mono ?_;rintro e w' ⟨i,ok,rfl,G,n',D,y,u,B,E,M⟩;refine⟨i,ok,rfl,λb z=>h.live.blk u z,G,n',h.fs u B y D,λe=>?_,λe=>?_⟩
 ·obtain⟨_,a,q,Q,r,I⟩:=E e;obtain⟨T,N,V,_⟩:=r.sv;obtain rfl:=SV.val_inj N;have S:=(p.sta q).1.m_;exact⟨a,r,by rw[Q];exact q,o_,I,o_,o_⟩
 ·have s:=M e;have f:=h.le;rw[o] at f;subst j;cases l with
  |true=>
   exact d6 ⟨rfl,f.2.1 rfl,d,λt x P X H=>K t x P o_ H,d6 s⟩
  |false=>
   have U:¬C.s.m_<c.m_:=λA=>by have:=f.2.2 A;cases this
   have J:C.s.m_=c.m_:=by have:=f.1;omega
   have w:=h.live.ses.now;unfold MCtx.st at d;rw[J,d] at w;cases w;exact d7 ⟨rfl,rfl,s⟩
end
def ZB{C:MCtx}(Y:Good C.ks)(B:C.le=fwd C.s)(L:C.tape.length<=17592186044416)(s0:SV)(S:aG)(ac:S.heap.size=C.w.heap.size+3)
 (hM:∀E,Mvg C C.all F n C.s.m_ false ((S.alloc (.deferred (some []))).alloc (.loop E))) (ae:∀E,jC C.fp F ((S.alloc (.deferred (some []))).alloc (.loop E)) s0.val C.s):
 C8 prog 65 #[aZ C.bb] S (λt=>RdA C (t::C.all) t) (RdB C) (λ_=>RdE C):=by
 intro E Rdy Don hR ag _ M hY;rw[ac] at hR ag hY ⊢
 have j:=hM E;have hs:=ae E;generalize (S.alloc (.deferred (some []))).alloc (.loop E)=d at j hs M ⊢
 have i:=j.live.ses.now;have g:IJ C C.s.m_:=λt x o J _=>by omega
 have f:∀b,b=C.w.heap.size+3\/b=C.w.heap.size+3+1->b∈C.all:=λb l=>by rcases l with rfl|rfl<;>simp[MCtx.all]
 obtain⟨s1,V,k0,k1,k2,k3,k4,_⟩:=j.live.ses.cells;have ad:=j.lt;have Q:∀b∈C.all,b<d.heap.size:=λb l=>(j.live.loc b l).2.1
 refine(TF (C.w.heap.size+3+1) C.bb C.sb s1 d
  (λgk b m ok wr=>Rdy wr/\(ok=true->RdA C (b::C.all) b m wr/\gk+m.t=502)/\(ok=false->RdE C wr))
  (λgk b m wr=>Rdy wr/\RdB C b m wr/\gk+m.t=502)
  (λwr=>(RdE C wr/\Rdy wr)\/(RdE C wr/\Don wr)) (aA j.cb.1 rfl) (aC j.cb.1) j.live.ses.lt k0 k1 k2 k3 k4 (501-C.s.m_) ?_ (λc hc=>?_) (λgk b m wr h=>?_) (λgk b m wr h=>?_) (λgk b m wr h=>?_)).mono ?_
 ·have H:=j.but (L':=[]) (But.drew d []) nY;refine(H.next Y B L s1 C.s (V.but j.live (But.drew d []) nY) i rfl j.live.hn g).mono ?_
  rintro e y ⟨u,ok,rfl,z,G,s,o,J,D⟩;have A:=o.lt;refine⟨u,ok,rfl,hR d _ M ?_ ?_,λe=>?_,λe=>?_⟩
  ·rw[ek _ _ _ o_];exact z _ (f _ (d7 rfl))
  ·rw[ek _ _ _ o_];exact z _ (f _ (d6 rfl))
  ·obtain⟨r,O,W,P,q4,q5,q6⟩:=J e;refine⟨⟨G,s,r,C.s.m_,false,o.alloc _,?_,W,P,q4,aN _ _ rfl _,A,g⟩,o_⟩
   exact O.but o.live (But.alloc _ _ []) nY
  ·have:=o.but (L':=[]) (But.alloc y (.cells u.cells 53) []) nY;exact⟨G,s,C.s.m_,false,C.s,this,i,D e⟩
 ·have H:=(j.but (L':=[]) (But.drew d []) nY).alloc (.cells c 53);have ah:But [] d (d.drew.alloc (.cells c 53)):=(But.drew d []).trans (But.alloc _ _ []);refine(H.next Y B L s1 C.s (V.but j.live ah nY) i rfl j.live.hn g).mono ?_
  rintro e y ⟨u,ok,rfl,z,G,s,o,J,D⟩;have A:=o.lt;have p:y.heap[d.heap.size]?=some (.cells c 53 (0,0)):=by rw[z d.heap.size (fw ..)];exact aN d.drew _ rfl _
  have a:∀b∈C.all,(dW y d.heap.size u).heap[b]?=d.heap[b]?:=λb l=>by
   have:=Q b l;rw[dH _ _ _ _ o_,z b (fe _ l)];exact ek d.drew _ _ this
  have q:∀b∈[d.heap.size],b∈(d.heap.size::C.all)/\C.bo<b:=λb l=>by
   obtain rfl:=ew.1 l;exact⟨fw ..,by simp only[MCtx.bo];omega⟩
  have N:Mvg C (d.heap.size::C.all) G s C.s.m_ false (dW y d.heap.size u):=o.but (But.set5 _ _ _) q;refine⟨u,ok,rfl,p,hR d _ M (a _ (f _ (d7 rfl))) (a _ (f _ (d6 rfl))),λe=>?_,λe=>?_⟩
  ·obtain⟨r,O,W,P,q4,q5,q6⟩:=J e;exact⟨⟨G,s,r,C.s.m_,false,N,O.but o.live (But.set5 _ _ _) λb l=>(q b l).1,W,P,q4,sI p hc,ad,g⟩,o_⟩
  ·exact⟨G,s,C.s.m_,false,C.s,N.more (N.live.drop λb l=>fe _ l) dP,i,D e⟩
 ·obtain⟨hr,Z,_⟩:=h;obtain⟨Z,X⟩:=Z rfl;obtain⟨fn,U,v,T,hy,aa⟩:=hY b m wr Z hr;refine⟨?_,fn,U,v,T,hy,aa.mono ?_⟩
  ·obtain⟨F,n,K,k,fd,_,_,_,_,_,h6,_⟩:=Z;exact h6
  ·rintro e W' (⟨rfl,hB,ab⟩|⟨rfl,hE,hD⟩)
   ·exact d7 ⟨rfl,ab,hB,X⟩
   ·exact d6 ⟨rfl,d6 ⟨hE,hD⟩⟩
 ·exact d7 ⟨h.2.2 rfl,h.1⟩
 ·obtain⟨hr,⟨F,n,K,o,J,D,h4,h5,h6,h7⟩,X⟩:=h
  have aj:m.t=K.m_:=by
   obtain⟨s2,e1,e2,_⟩:=J.sv;obtain rfl:=SV.val_inj e1;exact e2
  have ai:=(Y.sta D).1.m_;refine⟨aA o.cb.1 rfl,h5,gk-1,o_,?_⟩
  refine(o.next Y B L m K J D rfl h4 h7).mono ?_
  rintro e y ⟨u,ok,rfl,z,G,s,O,W,P⟩;have p:y.heap[b]?=some (.cells m.cells 53 (0,0)):=by rw[z b (fw ..)];exact h5
  have q:∀x∈[b],x∈(b::C.all)/\C.bo<x:=λx w=>by
   obtain rfl:=ew.1 w;exact⟨fw ..,by simp only[MCtx.bo];omega⟩
  have a:∀x∈[C.w.heap.size+3,C.w.heap.size+3+1],(dW y b u).heap[x]?=wr.heap[x]?:=λx w=>by
   have af:x∈C.all:=by simp at w;rcases w with rfl|rfl<;>simp[MCtx.all]
   rw[dH _ _ _ _ (by simp at w;omega),z x (fe _ af)]
  have I:Mvg C (b::C.all) G s K.m_ true (dW y b u):=O.but (But.set5 _ _ _) q;refine⟨u,ok,rfl,⟨_,p,rfl⟩,hR wr _ hr (a _ s_) (a _ s_),λe=>?_,λe=>?_⟩
  ·obtain⟨r,a1,a2,a3,a4,a5,a6⟩:=W e;exact⟨⟨G,s,r,K.m_,true,I,a1.but O.live (But.set5 _ _ _) λx w=>(q x w).1,a2,a3,a4,sI p rfl,h6,h7⟩,o_⟩
  ·exact⟨G,s,K.m_,true,K,I.more (I.live.drop λx w=>fe _ w) dP,D,P e⟩
 ·rintro e W' ⟨rfl,h|h⟩
  ·exact⟨⟨_,rfl⟩,0,h.1,d7 h.2⟩
  ·exact⟨⟨_,rfl⟩,0,h.1,d6 h.2⟩
def cV_(args:Array Value)(W:aG):(callFunc 65 args).run prog W=.ok (.enter 65 args) W:=(enters_of func65 k_ rfl) args W
def G9(args:Array Value)(W:aG):(callFunc 37 args).run prog W=.ok (.enter 37 args) W:=(enters_of func37 k_ rfl) args W
section
variable {fp:eK} {F:bY} {w:aG} {sb mb n:Nat} {mo:Obj} {ks:List aE} {tape:List Int} {s:aW} {L:List Nat}
def nB(fp:eK)(sb mb:Nat)(mo:Obj)(ks:List aE)(tape:List Int)(L:List Nat)(T:aW->Bool->Prop)(w:aG)(b:Bool)(w':aG):Prop:=∃G n' τ,Live fp G w' sb mb mo ks tape τ n' L/\T τ b/\FS sb w w'
def I4(fp:eK)(sb mb:Nat)(mo:Obj)(ks:List aE)(tape:List Int)(s:aW)(L0:List Nat)(w:aG)(p:aW->Bool)(gn:Nat)(rf lf:Array Value):Prop:=
 ∀(F:bY) (n:Nat) (L:List Nat) (W:aG) (v:SV) (σ:aW),w.heap.size<=W.heap.size->(∀b∈L0,W.heap[b]?=w.heap[b]?)->Live fp F W sb mb mo ks tape s n L->jC fp F W v.val σ->bT ks tape σ.m_=some σ->Calls prog gn (rf++ #[v.val]++lf) W λe W'=>e=aX (.bool (p σ))/\Below W.heap.size W W'
def pA(hg:Good ks)(aw:tape.length<=17592186044416)(h:Live fp F w sb mb mo ks tape s n L)(bb:Nat)(av:bb∈L)(ac:w.heap[bb]?=some (.cells #[aZ sb] 24 (0,0)))
 (p:aW->Bool) (K:Nat) (rf X:Array Value) (ak:∀M W,(callFunc K M).run prog W=.ok (.enter K M) W) (ag:I4 fp sb mb mo ks tape s L w p K rf X):
 Calls prog 35 #[aZ sb,.func (.func 65) #[] #[aZ bb],.func (.func K) rf X] w λe w'=>∃b,e=aX (.bool b)/\nB fp sb mb mo ks tape L (QG (bT ks tape) p s) w b w':=by
 obtain⟨s0,ap,k0,k1,k2,k3,k4,_⟩:=h.ses.cells;have I:=h.ses.lt;have an:=h;obtain⟨C,j⟩:∃C:MCtx,C=⟨fp,sb,mb,mo,ks,tape,s,p,bb,.func (.func K) rf X,w,L,fwd s⟩:=⟨_,rfl⟩;have af:Good C.ks:=by rw[j];exact hg
 have a:C.w=w:=by rw[j]
 have al:C.s=s:=by rw[j]
 have ab:C.p=p:=by rw[j]
 have E:C.st=bT ks tape:=by rw[j];rfl
 have G:C.le=fwd C.s:=by rw[j]
 refine MD (τ:=Nat) w sb 65 K #[aZ bb] rf X s0 (λb w'=>nB fp sb mb mo ks tape L (QG (bT ks tape) p s) w b w')
  (λt=>RdA C (t::C.all) t) (RdB C) (λt y b W=>RdA C (b::t::C.all) t y W/\W.heap[b]?=some (.cells y.cells 53 (0,0))/\C.w.heap.size+3+1<b) (λ_=>RdE C) I k0 k1 k2 k3 k4 cV_ ak
  (λt y b W r h=>?_) (λt y W r h=>?_) (λ_ W r h=>?_) (λt y W h=>?_) (λt y b W h=>?_) (λ_ W hE=>?_) (λH v=>?_)
 ·obtain⟨g,O,q⟩:=h;rw[<-a];exact⟨g.put _,by rw[World.putObj_heap_other o_];exact O,q⟩
 ·rw[<-a];exact h.put _
 ·rw[<-a];exact h.put _
 ·obtain⟨F,n,Y,k,fd,g,O,q,h4,h5,h6,h7,h8⟩:=h;have hl:=g.lt;rw[<-a];refine⟨⟨⟨F,n,Y,k,fd,g.alloc _,O.but g.live (But.alloc _ _ []) nY,q,h4,h5,by rw[ek _ _ _ (aC h6)];exact h6,h7,h8⟩,aN _ _ rfl _,hl⟩,hl⟩
 ·obtain⟨⟨F,n,Y,k,fd,g,O,q,h4,h5,h6,h7,h8⟩,h9,aq⟩:=h;have hl:=g.lt;have T:=g.cf;have B:=g.co;obtain⟨s2,τ,a1,a2,a3,a4⟩:=g.ct;have o:=g.le;rw[G] at o;have d:=g.set O q h5 (by rw[G];exact⟨by have:=o.1;omega,by simp;have:=o.1;omega⟩)
  have A:C.bt=w.heap.size+1:=by rw[<-a];rfl
  have u:C.bo=w.heap.size+1+1:=by rw[<-a];rfl
  have ao:C.bf=w.heap.size:=by rw[<-a];rfl
  rw[a] at hl h7 aq;rw[ao] at T;rw[u] at B;rw[A] at a1;have ax:C.fv=.func (.func K) rf X:=by rw[j]
  rw[ax] at T;refine⟨h9,T,⟨_,a1,by simp[SV.cells]⟩,⟨_,B⟩,o_,o_,o_,?_⟩
  have S:But ([C.bt]++[C.bo]) W ((dW W C.bt y).setCell (aH C.bo 0) (.bool true)):=(But.set5 W C.bt y).trans (But.set _ _ _);have J:=O.but g.live S λx hm=>g.mem x (by simp at hm;rcases hm with rfl|rfl<;>simp[MCtx.all])
  have Q:((dW W C.bt y).setCell (aH C.bo 0) (.bool true)).heap[t]?=some (.cells y.cells 53 (0,0)):=by
   rw[S.blk t (aC h6) (by simp[A,u];omega)];exact h6
  have U:∀x,x=w.heap.size+3\/x=w.heap.size+3+1->((dW W C.bt y).setCell (aH C.bo 0) (.bool true)).heap[x]?=W.heap[x]?:=λx hx=>S.blk x o_ (by simp[A,u];omega)
  rw[<-u,<-A];generalize (dW W C.bt y).setCell (aH C.bo 0) (.bool true)=V at d J Q U ⊢
  have au:=d.lt;rw[a] at au;have m:=d.live;rw[j] at m J;have ah:=q;rw[E] at ah;have z:=d.fr.1;rw[j] at z;refine(ag F n _ V y Y z.size (λb f=>an.blk z f) m J ah).mono ?_
  rintro e W' ⟨rfl,f⟩;refine⟨p Y,rfl,⟨by rw[f.block _ o_];exact U _ (d7 rfl),by rw[f.block _ o_];exact U _ (d6 rfl)⟩,λhp=>?_,λhp=>?_⟩
  ·refine⟨F,n,Y.m_,true,Y,(d.but (But.below f []) nY).more ((d.live.but (But.below f []) nY).drop λx hx=>by simp[hx]) dP,q,d6 ⟨rfl,by have:=o.1;omega,q,λt' x q1 q2 q3=>h8 t' x q1 o_ q3,d7 (by rw[ab];exact hp)⟩⟩
  ·refine⟨F,n,Y,(d.but (But.below f []) nY).more ((d.live.but (But.below f []) nY).drop λx hx=>fe _ hx) (λx hx=>fe _ hx),?_,q,h5,by rw[f.block _ (aC Q)];exact Q,by rw[a];exact h7,h8.succ h4 q (by rw[ab];exact hp)⟩
   rw[j];exact J.but m (But.below f []) nY
 ·obtain⟨F,n,k,fd,τ,g,O,q⟩:=hE;obtain⟨s2,ai,a1,a2,a3,a4⟩:=g.ct;obtain rfl:ai=τ:=by rw[O] at a3;cases a3;rfl
  have P:=(af.sta a3).2.1;have B:=g.co;have hl:=g.lt;have m:=g.live;have z:=g.fr.1;have Z:=g.fr.2.2;have A:C.bt=w.heap.size+1:=by rw[<-a];rfl
  have u:C.bo=w.heap.size+1+1:=by rw[<-a];rfl
  rw[A] at a1;rw[u] at B;rw[a] at hl;rw[j] at m z Z;rw[E] at a3;rw[j] at a2;obtain⟨_,_,_,_,_,_,_,c,ay,ar⟩:=m.ses.cells;refine⟨s2,fd,a1,B,⟨c,_,ay,ar⟩,?_⟩;obtain⟨g1,g2⟩:=m.go a2 (by rw[P];exact a3) (by rw[P];exact a4)
  have aj:∀b∈[w.heap.size+3],b∈C.all:=λb f=>by
   obtain rfl:=ew.1 f;simp[MCtx.all,a]
  rw[E,ab,al] at q;rw[j] at aj;refine⟨F,n,ai,(g1.but (But.put _ (w.heap.size+3) _) aj).drop λb f=>by simp[MCtx.all,f],q,(z.trans g2).but (But.put _ (w.heap.size+3) _) (λb f=>?_) I⟩
  obtain rfl:=ew.1 f;show w.heap.size<=w.heap.size+3
  omega
 ·have ae:H.heap.size=w.heap.size+3:=by rw[v];simp
  have am:∀b,F b->b<w.heap.size:=λb f=>(h.ses.fix b f).1
  have D:∀i,Below w.heap.size w ((H.alloc (.deferred (some []))).alloc (.loop i)):=λi=>by
   rw[v];exact(((((eh _ w).alloc cL _).alloc (by simp only[World.size_alloc];omega) _).alloc (by simp only[World.size_alloc];omega) _).alloc (by simp only[World.size_alloc];omega) _).alloc (by simp only[World.size_alloc];omega) _
  have ad:∀i,jC fp F ((H.alloc (.deferred (some []))).alloc (.loop i)) s0.val s:=λi=>ap.keep (λb f=>(D i).block b (am b f)) dP
  have aa:∀i k,k<H.heap.size->((H.alloc (.deferred (some []))).alloc (.loop i)).heap[k]?=H.heap[k]?:=λi k hk=>by rw[ek _ _ _ (by simp only[World.size_alloc];omega),ek _ _ _ hk]
  have N:C.bb=bb:=by rw[j]
  rw[<-N];refine ZB (C:=C) (F:=F) (n:=n) af G (by rw[j];exact aw) s0 H (by rw[a];exact ae) (λi=>?_) (λi=>?_)
  clear N
  ·have l:=((((h.alloc (.cells #[.func (.func K) rf X] 86)).alloc (.cells s0.cells 53)).alloc (.cells #[.bool false] 4)).alloc (.deferred (some []))).alloc (.loop i);simp only[World.size_alloc] at l;rw[<-v] at l;have Z:∀b∈L,b<w.heap.size:=λb f=>(h.loc b f).2.1
   have c1:H.heap[w.heap.size]?=some (.cells #[.func (.func K) rf X] 86 (0,0)):=by
    rw[v,ek _ _ _ (by simp only[World.size_alloc];omega),ek _ _ _ (by simp only[World.size_alloc];omega)];exact aN _ _ rfl _
   have c2:H.heap[w.heap.size+1]?=some (.cells s0.cells 53 (0,0)):=by
    rw[v,ek _ _ _ (by simp only[World.size_alloc];omega)];exact aN _ _ (by simp only[World.size_alloc]) _
   have c3:H.heap[w.heap.size+1+1]?=some (.cells #[.bool false] 4 (0,0)):=by
    rw[v];exact aN _ _ (by simp only[World.size_alloc]) _
   rw[j];exact⟨l,λ_ h=>h,by rw[aa i _ (by simp only[MCtx.bf];omega)];exact c1,⟨by rw[(D i).block _ (aC ac)];exact ac,av⟩,⟨s0,s,by rw[aa i _ (by simp only[MCtx.bt];omega)];exact c2,ad i,h.ses.now,h.hn⟩,by rw[aa i _ (by simp only[MCtx.bo];omega)];exact c3,⟨en _,s_⟩,FS.of_below (D i) I,I,Z⟩
  ·rw[j];exact ad i
def xT(v:SV)(W:aG):Calls prog 37 (#[]++ #[v.val]++ #[]) W λe W'=>e=aX (.bool true)/\Below W.heap.size W W':=by
 show Calls _ _ #[v.val] _ _
 unfold SV.val;go_in
 go_wp2
 go_ret;exact⟨rfl,(eh _ W).alloc cL _⟩
def tY(sb:Nat)(W:aG):Calls prog 36 #[aZ sb] W λe W'=>e=aX (.func (.func 65) #[] #[aZ W.heap.size])/\W'=W.alloc (.cells #[aZ sb] 24):=by
 have b:∀(a:aQ) (w:aG),(Instr.makeFunc (.func 65) #[] #[a]).run prog w=.ok (.func (.func 65) #[] #[a]) w:=λ_ _=>rfl
 go_in
 go_wp2
 go_ret;exact⟨rfl,rfl⟩
def K7(sb:Nat)(w:aG)(P:Bool->World->Prop)
 (a:Hid (Calls prog 35 #[aZ sb,.func (.func 65) #[] #[aZ w.heap.size],.func (.func 37) #[] #[]] (w.alloc (.cells #[aZ sb] 24)) λe w'=>∃b,e=aX (.bool b)/\P b w')):
 Calls prog 13 #[aZ sb] w λe w'=>∃b,e=aX (.bool b)/\P b w':=by
 have d:=aB (tY sb w);go_in
 go_wp2_with fail;refine d.mono ?_;rintro e g ⟨rfl,rfl⟩;clear d;go_wp2_with fail;refine a.mono ?_;rintro e h ⟨b,rfl,c⟩;have f:=aB c;clear c a;go_wp2
 go_ret;exact⟨b,rfl,f⟩
def RE(i:Good ks)(c:tape.length<=17592186044416)(h:Live fp F w sb mb mo ks tape s n L):
 Calls prog 13 #[aZ sb] w λe w'=>∃b,e=aX (.bool b)/\nB fp sb mb mo ks tape L (QG (bT ks tape) (λ_=>true) s) w b w':=by
 refine K7 sb w _ ((pA i c (h.alloc (.cells #[aZ sb] 24)) w.heap.size (fw ..) (aN _ _ rfl _) (λ_=>true) 37 #[] #[] G9 λF n L W v m _ _ _ _ _=>xT v W).mono ?_)
 rintro e w' ⟨b,rfl,G,d,k,j,f,l⟩;have a:Below w.heap.size w (w.alloc (.cells #[aZ sb] 24)):=(eh _ w).alloc cL _;exact⟨b,rfl,G,d,k,j.drop λb g=>fe _ g,f,(FS.of_below a h.ses.lt).trans l⟩
end
def qY(b_:Nat)(w:aG)(v:aQ)(l:cN):Prop:=∃x c,v=.slice x l.length c/\∀i (h:i<l.length),∃g,x=some (aH g 0)/\w.cell? (aH g i)=some (.string (bs l[i]))/\b_<=g/\g<w.heap.size
def qY.keep{b_:Nat}{l:cN}(h:qY b_ w v l)(f:∀k,b_<=k->k<w.heap.size->w'.heap[k]?=w.heap[k]?)(n:w.heap.size<=w'.heap.size):qY b_ w' v l:=by
 obtain⟨x,c,j,d⟩:=h;refine⟨x,c,j,λi o=>?_⟩
 obtain⟨g,e,m,a,b⟩:=d i o;exact⟨g,e,by rw[World.cell?_of_block (f g a b)];exact m,a,ej b n⟩
def xQ{l:cN}(h:II F w v l)(A:l.length<=1000000):
 Calls prog 46 #[v] w λe w'=>∃x n c,e=aX (.slice x n c)/\qY w.heap.size w' (.slice x n c) l/\Below w.heap.size w w':=by
 rcases h with ⟨rfl,rfl⟩|⟨g,c,z,rfl,D,B,G,y⟩
 ·refine(uW w).mono ?_;rintro e w' ⟨rfl,rfl⟩;exact⟨none,0,0,rfl,⟨none,0,rfl,λi f=>by simp at f⟩,eh _ _⟩
 ·refine(uX g 0 l.length c (mZ l) w (by simp[mZ]) A (λj u a=>?_) (λu p=>?_)).mono ?_
  ·rw[ge];refine aA B ?_;rw[<-y,ga] at a;split at a
   ·rw[Array.getElem?_toList] at a;exact a
   ·cases a
  ·simp only[mZ,gz] at p;obtain⟨x,_,rfl⟩:=p;rfl
  ·rintro e w' ⟨C,rfl,d,t⟩;obtain⟨x,k,rfl⟩:=dE d;refine⟨x,_,k,rfl,⟨x,k,rfl,λi f=>?_⟩,t⟩
   rcases d.2 with ⟨b,q⟩|⟨o,m,r,b,q,s,E⟩
   ·simp only[Value.slice.injEq] at b;omega
   ·cases b;refine⟨o,rfl,?_,q,aC s⟩;have:=d.cells (g:=o) rfl i (.string (bs l[i])) (by simp[mZ,f])
    rw[pH] at this;exact this
def XE(w:aG)(s:SV)(h:s.n1=0):Calls prog 72 #[s.val] w λe w'=>e=aX (.pointer none)/\Below w.heap.size w w':=by
 obtain⟨t,f,b,g,c,i,j,k,a,d,q⟩:=s;subst h;unfold SV.val;go_in
 go_wp2
 go_ret;exact⟨rfl,(eh _ _).alloc cL _⟩
def LB(w:aG)(s:SV)(h:s.n1=0):Calls prog 45 #[s.val] w λe w'=>e=aX (bG)/\Below w.heap.size w w':=by
 have a:=aB λW=>XE W s h
 have f:=aB λW=>AnyF.slices_SortFunc_none (P:=prog) (ρ:=sortL_ren) { sortL with } none 0 (.func (.func 76) #[] #[]) W
 obtain⟨t,p,n,g,o,u,i,j,l,m,q⟩:=s;subst h;unfold SV.val at a;unfold SV.val;go_in
 go_wp2_with fail;refine(a _).mono ?_;rintro e c ⟨rfl,b⟩;have d:=aB b;clear b a;go_wp2_with fail;go_loopg [3,4] 1 (λk v s wr=>v=bG/\s=.pointer none/\wr=c)
 case atStart=>exact⟨rfl,rfl,rfl⟩
 case round=>
  obtain⟨rfl,rfl,rfl⟩:=hrel;go_wp2_with fail;refine(f _).mono ?_;rintro e r ⟨rfl,rfl⟩;go_wp2
  go_ret;exact⟨rfl,((eh _ _).alloc cL _).trans (d.mono s_)⟩
def EO(w:aG)(s:SV)(h:s.n1=0):Calls prog 44 #[s.val] w λe w'=>e=aX (bG)/\Below w.heap.size w w':=by
 obtain⟨t,n,l,c,m,o,d,f,g,j,q⟩:=s;subst h;unfold SV.val;go_in
 go_wp2_with fail;go_loopg [3,9] 1 (λk v i wr=>v=bG/\i=I_ 0/\Below w.heap.size w wr)
 case atStart=>exact⟨rfl,rfl,(eh _ _).alloc cL _⟩
 case round=>
  obtain⟨rfl,rfl,a⟩:=hrel;have b:=aB a;clear a;go_wp2
  go_ret;exact⟨rfl,b⟩
def SR(w:aG)(sb:Nat)(s:SV)(P:SV->World->Prop)(G:sb<w.heap.size)
 (k0:w.cell? (aH sb 0)=some (I_ s.t)) (n:w.cell? (aH sb 1)=some (.slice s.x1 s.n1 s.c1)) (D:w.cell? (aH sb 2)=some (.slice s.x2 s.n2 s.c2)) (q:w.cell? (aH sb 3)=some (.slice s.x3 s.n3 s.c3)) (H:w.cell? (aH sb 4)=some (I_ s.q))
 (f:Hid (Calls prog 23 #[s.val] (w.alloc (.cells #[I_ 0,bG,bG,bG,I_ 0] 35)) λe w'=>∃m:SV,e=aX m.val/\(∃c,w'.heap[w.heap.size]?=some (.cells c 35 (0,0))/\c.size=5)/\P m (dW w' w.heap.size m))):
 Calls prog 6 #[aZ sb] w λe w'=>∃m:SV,e=aX m.val/\P m w':=by
 unfold SV.val at f;go_in
 go_wp2_with fail;refine f.mono ?_;rintro e j ⟨m,rfl,⟨c,a,M⟩,k⟩;have t:=aA (i:=0) a (ez o_)
 have A:=aA (i:=1) a (ez o_)
 have p:=aA (i:=2) a (ez o_)
 have J:=aA (i:=3) a (ez o_)
 have z:=aA (i:=4) a (ez o_)
 have o:=aD (i:=0) a;have r:=aD (i:=1) a;have C:=aD (i:=2) a;have F:=aD (i:=3) a;have E:=aD (i:=4) a;have K:=aC a;have l:=jV (W:=j) (s:=m) a o_ rfl
 have g:=aB l;have h:=aB k;unfold dW at g h;clear l k a f k0 n D q H;go_wp2_with fail;have b:=g;have d:=h;clear g h t A p J z o r C F E;generalize ((((j.setCell (aH w.heap.size 0) (I_ m.t)).setCell (aH w.heap.size 1) (.slice m.x1 m.n1 m.c1)).setCell (aH w.heap.size 2) (.slice m.x2 m.n2 m.c2)).setCell (aH w.heap.size 3) (.slice m.x3 m.n3 m.c3)).setCell (aH w.heap.size 4) (I_ m.q)=L at b d ⊢
 obtain⟨I,u,y,B,x⟩:=b;exact bodyPost_ret (v:=.agg #[I_ m.t,.slice m.x1 m.n1 m.c1,.slice m.x2 m.n2 m.c2,.slice m.x3 m.n3 m.c3,I_ m.q]) (by simp[results,results6,go_sem,I,u,y,B,x]) rfl ⟨m,rfl,d⟩
def mR{W:aG}{b:Nat}(s:SV)(h:Below w.heap.size w W)(g:w.heap.size<=b):Below w.heap.size w (dW W b s):=by
 obtain⟨e,c,f,d⟩:=gZ W b s;exact⟨c.trans h.os,f.trans h.tape,d.trans h.output,by rw[e];exact h.size,λk a=>by rw[dH _ _ _ k o_];exact h.block k a⟩
def ae_{mb:Nat}{mo:Obj}{st:Nat->Option aW}(h:jD fp F w sb mb mo st s n)(V:s.m.f_=[])(ho:s.m.out.length<=1000000):
 Calls prog 6 #[aZ sb] w λe w'=>∃m:SV,e=aX m.val/\Below w.heap.size w w'/\m.t=s.m_/\m.q=s.stop/\m.n1=0/\m.n2=0/\qY w.heap.size w' (.slice m.x3 m.n3 m.c3) s.m.out:=by
 obtain⟨o,C,k0,k1,k2,k3,k4,_⟩:=h.cells;have N:=h.lt;obtain⟨ac,e0,e1,e2⟩:=C.sv;obtain rfl:=SV.val_inj e0
 have D:o.n1=0:=by
  obtain⟨fv,tv,ov,u,r,J,G,M,L⟩:=C;rw[V] at G
  have X:u=[]:=by
   cases u with
   |nil=>rfl
   |cons v l=>exact G.elim
  subst X;simp only[SV.val,Value.agg.injEq] at r;simp at r;rcases J with ⟨_,x,c,e⟩|⟨g,c,ab,e,_⟩
  ·have:=r.2.1.trans e;simp at this;exact this.2.1
  ·have:=r.2.1.trans e;simp at this;exact this.2.1
 have U:∀W,Below w.heap.size w W->II F W (.slice o.x3 o.n3 o.c3) s.m.out:=λW t=>by
  obtain⟨fv,tv,ov,u,r,J,G,M,L⟩:=C;simp only[SV.val,Value.agg.injEq] at r;simp at r;rw[r.2.2.2.1];exact L.keep (λb a=>t.block b (h.fix b a).1) dP
 generalize p:w.alloc (.cells #[I_ 0,bG,bG,bG,I_ 0] 35)=f;have q:Below w.heap.size w f:=by rw[<-p];exact(eh _ w).alloc cL _
 have ae:f.heap.size=w.heap.size+1:=by rw[<-p];simp
 have Y:f.heap[w.heap.size]?=some (.cells #[I_ 0,bG,bG,bG,I_ 0] 35 (0,0)):=by rw[<-p];exact aN _ _ rfl _
 refine SR w sb o _ N k0 k1 k2 k3 k4 ?_;rw[p];generalize j:(f.alloc (.cells o.cells 53)).alloc (.cells #[I_ 0,bG,bG,bG,I_ 0] 35)=d;have z:Below f.heap.size f d:=by rw[<-j];exact((eh _ f).alloc cL _).alloc s_ _
 have ad:d.heap.size=f.heap.size+2:=by rw[<-j];simp
 have y:d.heap[f.heap.size]?=some (.cells o.cells 53 (0,0)):=by rw[<-j];exact iF _ _ _
 have P:d.heap[f.heap.size+1]?=some (.cells #[I_ 0,bG,bG,bG,I_ 0] 35 (0,0)):=by rw[<-j];exact fR _ _ _
 refine AQ f o (λm w'=>(∃c,w'.heap[w.heap.size]?=some (.cells c 35 (0,0))/\c.size=5)/\Below w.heap.size w (dW w' w.heap.size m)/\m.t=s.m_/\m.q=s.stop/\m.n1=0/\m.n2=0/\qY w.heap.size (dW w' w.heap.size m) (.slice m.x3 m.n3 m.c3) s.m.out)
  (λm W=>Below d.heap.size d W/\m.t=s.m_/\m.q=s.stop/\m.n1=0/\m.n2=0/\qY d.heap.size W (.slice m.x3 m.n3 m.c3) s.m.out)
  (λx n c W=>n=0/\Below d.heap.size d W) (λx n c x2 Z c2 W=>n=0/\Z=0/\Below d.heap.size d W) (λW t=>?_) (λx n c W E=>?_) (λx n c x2 Z c2 W E=>?_) (λm W E=>?_)
 ·rw[j] at t;refine(EO W o D).mono ?_;rintro e w' ⟨rfl,a⟩;have H:Below d.heap.size d W:=⟨t.os,t.tape,t.output,by rw[t.heap];exact en _,λk _=>by rw[t.heap]⟩
  exact⟨none,0,0,rfl,rfl,H.trans (a.mono H.size)⟩
 ·obtain⟨rfl,a⟩:=E;refine⟨by rw[a.block _ o_];exact y,(LB W o D).mono ?_⟩
  rintro e w' ⟨rfl,A⟩;exact⟨none,0,0,rfl,rfl,rfl,a.trans (A.mono a.size)⟩
 ·obtain⟨rfl,rfl,a⟩:=E;have B:Below w.heap.size w W:=q.trans ((z.mono q.size).trans (a.mono o_))
  refine⟨by rw[a.block _ o_];exact y,(xQ (U W B) ho).mono ?_⟩
  rintro e w' ⟨x3,n3,c3,rfl,hO,A⟩;refine⟨x3,n3,c3,rfl,a.trans (A.mono a.size),e1,e2,rfl,rfl,?_⟩;obtain⟨x,c,K,I⟩:=hO;refine⟨x,c,K,λi S=>?_⟩
  obtain⟨g,O,T,a3,Q⟩:=I i S;exact⟨g,O,T,em a.size a3,Q⟩
 ·obtain⟨a,J,G,M,L,q5⟩:=E;have aa:=a.size;refine⟨by rw[a.block _ o_];exact y,⟨_,by rw[a.block _ o_];exact P,s_⟩,⟨_,by rw[dH _ _ _ _ o_,a.block _ o_,z.block _ o_];exact Y,s_⟩,?_,J,G,M,L,?_⟩
  ·have B:Below w.heap.size w W:=q.trans ((z.mono q.size).trans (a.mono o_))
   exact mR m (mR m B o_) cL
  ·have hq:=q5.keep (w':=dW (dW W (f.heap.size+1) m) w.heap.size m) (λk K I=>by rw[dH _ _ _ _ o_,dH _ _ _ _ o_]) (by rw[(gZ _ _ _).1,(gZ _ _ _).1];exact en _)
   obtain⟨x,c,K,I⟩:=hq;refine⟨x,c,K,λi S=>?_⟩
   obtain⟨g,O,T,a3,Q⟩:=I i S;exact⟨g,O,T,o_,Q⟩
def OP(w:aG)(sb:Nat)(f:Int)
 (n:Hid (Calls prog 78 #[.pointer (some (aH sb 5)),I_ f] (w.alloc (.cells #[I_ 0,bG,bG,bG,I_ 0] 53)) λe w'=>e=aX (.tuple #[I_ 0,.bool false])/\Below (w.heap.size+1) (w.alloc (.cells #[I_ 0,bG,bG,bG,I_ 0] 53)) w')):
 Calls prog 47 #[.pointer (some (aH sb 5)),I_ f] w λe w'=>e=aX (.tuple #[mD.val,.bool false])/\Below w.heap.size w w':=by
 go_in
 go_wp2_with fail;refine n.mono ?_;rintro e b ⟨rfl,j⟩;have c:Below w.heap.size w b:=((eh w.heap.size w).alloc cL _).trans (j.mono o_)
 have h:b.heap[w.heap.size]?=some (.cells #[I_ 0,bG,bG,bG,I_ 0] 53 (0,0)):=(j.block _ o_).trans (aN _ _ rfl _)
 have a:(b.alloc (.cells #[I_ 0,bG,bG,bG,I_ 0] 53)).heap[w.heap.size]?=some (.cells #[I_ 0,bG,bG,bG,I_ 0] 53 (0,0)):=by rw[ek _ _ _ (aC h)];exact h
 have d:(b.alloc (.cells #[I_ 0,bG,bG,bG,I_ 0] 53)).heap[b.heap.size]?=some (.cells #[I_ 0,bG,bG,bG,I_ 0] 53 (0,0)):=aN _ _ rfl _;have F:=aA (i:=0) a rfl;have y:=aA (i:=1) a rfl;have t:=aA (i:=2) a rfl;have E:=aA (i:=3) a rfl;have u:=aA (i:=4) a rfl;have r:=aD (i:=0) a;have x:=aD (i:=1) a;have G:=aD (i:=2) a;have J:=aD (i:=3) a;have I:=aD (i:=4) a;have C:=aA (i:=0) d rfl;have z:=aA (i:=1) d rfl;have o:=aA (i:=2) d rfl;have p:=aA (i:=3) d rfl;have H:=aA (i:=4) d rfl;have N:=aC a;have q:w.heap.size≠b.heap.size:=by have:=aC h;omega
 have m:=aB (jV (W:=b.alloc (.cells #[I_ 0,bG,bG,bG,I_ 0] 53)) (s:=mD) a s_ rfl)
 have k:=aB (mR mD (c.alloc c.size (.cells #[I_ 0,bG,bG,bG,I_ 0] 53)) cL);unfold dW mD at m k;clear j c h a d n;go_wp2_with fail;have g:=m;have l:=k;clear m k F y t E u r x G J I z o p H C;refine bodyPost_ret (v:=.tuple #[mD.val,.bool false]) ?_ rfl ⟨rfl,l⟩;generalize (((((b.alloc (.cells #[I_ 0,bG,bG,bG,I_ 0] 53)).setCell (aH w.heap.size 0) (I_ 0)).setCell (aH w.heap.size 1) (bG)).setCell (aH w.heap.size 2) (bG)).setCell (aH w.heap.size 3) (bG)).setCell (aH w.heap.size 4) (I_ 0)=M at g ⊢
 obtain⟨L,A,B,D,K⟩:=g;simp[results,results47,go_sem,L,A,B,D,K,SV.val,mD]
def L8(w:aG)(sb:Nat)(d:Int)(P:Bool->World->Prop)
 (l:Hid (Calls prog 24 #[aZ sb,I_ d] w λe w'=>∃v ok,e=aX (.tuple #[SV.val v,.bool ok])/\(ok=true->(∃c,(w'.alloc (.cells v.cells 53)).heap[sb]?=some (.cells c 59 (0,0))/\5<=c.size)/\P true (dW (w'.alloc (.cells v.cells 53)) sb v))/\(ok=false->P false (w'.alloc (.cells v.cells 53))))):
 Calls prog 7 #[aZ sb,I_ d] w λe w'=>∃b,e=aX (.bool b)/\P b w':=by
 go_in
 go_wp2_with fail;refine l.mono ?_;rintro e k ⟨v,ok,rfl,j,h⟩;clear l;have f:(k.alloc (.cells v.cells 53)).heap[k.heap.size]?=some (.cells v.cells 53 (0,0)):=aN _ _ rfl _;unfold SV.cells at f;unfold SV.val;cases ok with
 |false=>
  have g:=aB (h rfl);unfold SV.cells at g;clear j h;go_wp2
  go_ret;exact⟨_,rfl,g⟩
 |true=>
  obtain⟨⟨c,a,o⟩,m⟩:=j rfl;have g:=aB m;unfold dW at g;unfold SV.cells at g a;have z:=aA (i:=0) f rfl;have y:=aA (i:=1) f rfl;have p:=aA (i:=2) f rfl;have q:=aA (i:=3) f rfl;have D:=aA (i:=4) f rfl;have B:=aA (i:=0) a (ez o_)
  have x:=aA (i:=1) a (ez o_)
  have s:=aA (i:=2) a (ez o_)
  have A:=aA (i:=3) a (ez o_)
  have t:=aA (i:=4) a (ez o_)
  have r:=aD (i:=0) a;have u:=aD (i:=1) a;have C:=aD (i:=2) a;have F:=aD (i:=3) a;have E:=aD (i:=4) a;have n:=aC a;clear j h m a f;go_wp2
  go_ret;exact⟨_,rfl,g⟩
end Go.Proofs.YtlflgmdcghfngaaGreatDoor
