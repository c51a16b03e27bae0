/- How a state that is kept lies in memory. -/
import Derived.Test.YtddnpoiiimjpcaaGreatDoorP28
set_option linter.defProp false
set_option maxRecDepth 100000
set_option maxHeartbeats 4000000
namespace Go.Proofs.YtddnpoiiimjpcaaGreatDoor
open Hs
open _root_.Go.Proofs.Tryz
open Go.RowKit
structure V7(fp:fN)(F:cC)(w:aH)(v:FVal)(f:aJ):Prop where
 fn:ZG fp F w v.fp f.fn
 nx:v.nx=Iv0 f.next
 ln:v.ln=Iv0 f.line
 sp:fA F w v.sp f.seen
 vars:PVs F w v.vv f.vars
 varsB:∀a∈f.vars,aK a<=200
 ops:PVs F w v.ov f.ops
 opsB:∀a∈f.ops,aK a<=200
def V7.keep{d:fN}{F G:cC}{w w':aH}{v:FVal}{f:aJ}(h:V7 d F w v f)(a:∀b,F b->w'.heap[b]?=w.heap[b]?)(c:∀b,F b->G b):V7 d G w' v f:=
 ⟨h.fn.keep a c,h.nx,h.ln,fA.keep a c h.sp,(h.vars.keep a).mono c,h.varsB,(h.ops.keep a).mono c,h.opsB⟩
def uN(fp:fN)(F:cC)(w:aH):List FVal->List aJ->Prop
 |[],[]=>True
 |v::vs,f::fs=>V7 fp F w v f/\uN fp F w vs fs
 |_,_=>False
def uN.keep{c:fN}{F G:cC}{w w':aH}(a:∀b,F b->w'.heap[b]?=w.heap[b]?)(d:∀b,F b->G b):∀{vs:List FVal} {fs:List aJ},uN c F w vs fs->uN c G w' vs fs
 |[],[],_=>trivial
 |_::_,_::_,⟨f,e⟩=>⟨f.keep a d,uN.keep a d e⟩
 |[],_::_,h=>h.elim
 |_::_,[],h=>h.elim
def uN.length{a:fN}{F:cC}{w:aH}:∀{vs:List FVal} {fs:List aJ},uN a F w vs fs->vs.length=fs.length
 |[],[],_=>rfl
 |_::_,_::_,⟨_,h⟩=>by simp[uN.length h]
 |[],_::_,h=>h.elim
 |_::_,[],h=>h.elim
def uN.get{c:fN}{F:cC}{w:aH}:∀{vs:List FVal} {fs:List aJ},uN c F w vs fs->∀(i:Nat) v f,vs[i]?=some v->fs[i]?=some f->V7 c F w v f
 |[],[],_,i,v,f,a,_=>by simp at a
 |_::_,_::_,⟨h,_⟩,0,v,f,a,b=>by simp at a b;subst a;subst b;exact h
 |_::_,_::_,⟨_,h⟩,i+1,v,f,a,b=>uN.get h i v f (by simpa using a) (by simpa using b)
 |[],_::_,h,_,_,_,_,_=>h.elim
 |_::_,[],h,_,_,_,_,_=>h.elim
def US(F:cC)(w:aH)(v:aQ)(fvs:List FVal):Prop:=
 (fvs=[]/\∃x c,v=.slice x 0 c)\/∃g c cur,v=.slice (some (aL g 0)) fvs.length c/\F g/\w.heap[g]?=some (.cells cur 131 (0,0))/\fvs.length<=c/\cur.toList.take (fvs.length*6)=gG fvs
def US.keep{F G:cC}{w w':aH}{v:aQ}{a:List FVal}(h:US F w v a)(f:∀b,F b->w'.heap[b]?=w.heap[b]?)(l:∀b,F b->G b):US G w' v a:=by
 rcases h with h|⟨g,c,d,j,e,k,i⟩
 ·exact Y4 h
 ·exact Y3 ⟨g,c,d,j,l g e,by rw[f g e];exact k,i⟩
def GQ(F:cC)(w:aH)(v:aQ)(l:cO):Prop:=
 (l=[]/\v=bV)\/∃g c cur,v=.slice (some (aL g 0)) l.length c/\F g/\w.heap[g]?=some (.cells cur 9 (0,0))/\l.length<=c/\cur.toList.take l.length=lS l
def GQ.keep{F G:cC}{w w':aH}{v:aQ}{l:cO}(h:GQ F w v l)(e:∀b,F b->w'.heap[b]?=w.heap[b]?)(k:∀b,F b->G b):GQ G w' v l:=by
 rcases h with h|⟨g,c,a,i,d,j,f⟩
 ·exact Y4 h
 ·exact Y3 ⟨g,c,a,i,k g d,by rw[e g d];exact j,f⟩
def nO(fp:fN)(F:cC)(w:aH)(v:aQ)(s:cD):Prop:=
 ∃fv tv outv fvs,v=.agg #[Iv0 s.time,fv,tv,outv,Iv0 s.stop]/\US F w fv fvs/\uN fp F w fvs s.m.frames/\qQ F w tv s.m.tape/\GQ F w outv s.m.out
def nO.keep{f:fN}{F G:cC}{w w':aH}{v:aQ}{s:cD}(h:nO f F w v s)(c:∀b,F b->w'.heap[b]?=w.heap[b]?)(d:∀b,F b->G b):nO f G w' v s:=by
 obtain⟨n,i,a,e,k,g,m,j,l⟩:=h;exact⟨n,i,a,e,k,g.keep c d,m.keep c d,j.keep c d,l.keep c d⟩
def iW.kept{c:fN}{F G:cC}{base:Nat}{w:aH}(b:∀k,F k->G k):∀{vs:List FVal} {fs:List aJ},iW false c F base w vs fs->(∀v∈vs,∀k∈(v.ownX false),G k)->uN c G w vs fs
 |[],[],_,_=>trivial
 |v::_,_::_,⟨a,i⟩,d=>by
  have f:=d v (j0 ..);obtain⟨⟨q,o,p⟩,l⟩:=a.vars;obtain⟨⟨r,g,n⟩,j⟩:=a.ops;exact⟨⟨a.fn.keep (fun _ _=>rfl) b,a.nx,a.ln,fA.keep (fun _ _=>rfl) b a.sp,PVs.ofRow o (p.mono b) fun k e=>f k (by simp[FVal.ownX,e]),l,PVs.ofRow g (n.mono b) fun k e=>f k (by simp[FVal.ownX,e]),j⟩,iW.kept b i fun u m=>d u (b8 _ m)⟩
 |[],_::_,h,_=>h.elim
 |_::_,[],h,_=>h.elim
def cW.kept{x:fN}{F G:cC}{base:Nat}{w:aH}{sb gf i d c:Nat}{r a:aQ}{b:List FVal}{m:cT}(h:cW false x F base w sb gf i (Iv0 d) r a (Iv0 c) b m)(y:∀k,F k->G k)(B:∀k∈aP false sb gf a b,k≠sb->G k):
 nO x G w (.agg #[Iv0 d,.slice (some (aL gf 0)) b.length i,r,a,Iv0 c]) ⟨d,m,c⟩:=by
 obtain⟨E,H⟩:=Z9.1 h.nodup;have o:∀k,k∈gf::(a.ownBlock.toList++bW false b)->k≠sb:=fun k l e=>E (by rw[<-e];exact l)
 have p:∀k,k∈gf::(a.ownBlock.toList++bW false b)->G k:=fun k l=>B k (b8 _ l) (o k l)
 refine⟨_,r,a,b,rfl,?_,iW.kept y h.frs fun v D k l=>p k ?_,h.tape.keep (fun _ _=>rfl) y,?_⟩
 ·rcases h.row.2 with ⟨f,_⟩|⟨t,g,j,f,u,n,q,A,z,s⟩
  ·cases f
  ·cases f;exact Y3 ⟨gf,i,j,rfl,p gf (by simp),n,q,s⟩
 ·have C:k∈bW false b:=s9.2 ⟨v,D,l⟩;simp[C]
 ·rcases h.out.2 with ⟨f,u⟩|⟨t,g,j,f,u,n,q,A,z,s⟩
  ·exact Y4 ⟨i7 u,f⟩
  ·exact Y3 ⟨t,g,j,f,p t (by rw[f];simp[Value.ownBlock]),n,q,by simpa using s⟩
def Kept.setCell{own:List Nat}{w W:aH}(h:Kept own w W)(p:Addr)(x:aQ)(b:p.block∈own):Kept own w (W.setCell p x):=
 ⟨h.os,h.tape,h.output,by simpa using h.size,fun k c a=>by rw[Y6 _ _ _ _ fun e=>a (by rw[e];exact b),h.block k c a]⟩
def OR(w w2:aH)(b a x0 n c0:Nat)(H t z:aQ)(P:Value->World->Prop)(A:Nat->Nat->World->Prop)(C E:Nat->Nat->Nat->World->Prop)(D1 D2:Nat->Nat->Nat->Option Addr->Nat->Nat->World->Prop)(O:Nat->Nat->Option Addr->Nat->Nat->World->Prop)(hn:n<=100)
 (aa:H=.slice (some (aL x0 0)) n c0) (T:∃xa xl xc,z=.slice xa xl xc) (Z:∃N Y J,t=.slice N Y J)
 (hW:(w.alloc (.cells #[Iv0 b,H,t,z,Iv0 a] 60)).alloc (.cells #[Iv0 0,bV,bV,bV,Iv0 0] 60)=w2)
 (HC:Hid (Calls prog 165 #[H] w2 fun e o=>∃g cap,e=bE (.slice (some (aL g 0)) n cap)/\A g cap o))
 (HA:Hid (∀g cap W,A g cap W->(∃u,W.cell? (aL w.heap.size 1)=some u)/\W.frozen? (aL w.heap.size 1)=false/\w.heap.size<W.heap.size/\C g cap 0 (W.setCell (aL w.heap.size 1) (.slice (some (aL g 0)) n cap))))
 (HR:Hid (∀g cap j W,C g cap j W->W.cell? (aL w.heap.size 1)=some (.slice (some (aL g 0)) n cap)/\w.heap.size<W.heap.size/\g<W.heap.size))
 (HV:Hid (∀g cap j W,C g cap j W->j<n->∃x l c,W.cell? (aL g (j*6+4))=some (.slice x l c)/\Calls prog 166 #[.slice x l c] W fun e o=>∃h f,e=bE (.slice h l f)/\D1 g cap j h l f o))
 (U:Hid (∀g cap j x l c W,D1 g cap j x l c W->(∃u,W.cell? (aL g (j*6+4))=some u)/\W.frozen? (aL g (j*6+4))=false/\g<W.heap.size/\E g cap j (W.setCell (aL g (j*6+4)) (.slice x l c))))
 (HE:Hid (∀g cap j W,E g cap j W->∃x l c,W.cell? (aL g (j*6+5))=some (.slice x l c)/\g<W.heap.size/\Calls prog 166 #[.slice x l c] W fun e o=>∃h f,e=bE (.slice h l f)/\D2 g cap j h l f o))
 (I:Hid (∀g cap j x l c W,D2 g cap j x l c W->(∃u,W.cell? (aL g (j*6+5))=some u)/\W.frozen? (aL g (j*6+5))=false/\g<W.heap.size/\C g cap (j+1) (W.setCell (aL g (j*6+5)) (.slice x l c))))
 (HO:Hid (∀g cap W,C g cap n W->W.cell? (aL w.heap.size 3)=some z/\Calls prog 53 #[z] W fun e o=>∃h G f,e=bE (.slice h G f)/\O g cap h G f o))
 (HF:Hid (∀g cap x l c W,O g cap x l c W->(W.cell? (aL w.heap.size 0)=some (Iv0 b)/\W.cell? (aL w.heap.size 1)=some (.slice (some (aL g 0)) n cap)/\W.cell? (aL w.heap.size 2)=some t/\(∃u,W.cell? (aL w.heap.size 3)=some u)/\W.cell? (aL w.heap.size 4)=some (Iv0 a)/\W.frozen? (aL w.heap.size 3)=false/\w.heap.size+1<W.heap.size)/\
   (W.heap[w.heap.size+1]?=some (.cells #[Iv0 0,bV,bV,bV,Iv0 0] 60 (0,0)))))
 (HP:Hid (∀g cap x l c W W',O g cap x l c W->Kept [w.heap.size,w.heap.size+1] W W'->W'.heap.size=W.heap.size->P (.agg #[Iv0 b,.slice (some (aL g 0)) n cap,t,.slice x l c,Iv0 a]) W')):
 Calls prog 122 #[.agg #[Iv0 b,H,t,z,Iv0 a]] w fun e o=>∃v,e=bE v/\P v o:=by
 obtain⟨xa,xl,xc,rfl⟩:=T;obtain⟨N,Y,J,rfl⟩:=Z;subst aa;have HW:=aB hW;clear hW;go_in
 go_wp2_with fail;rw[HW.out];refine HC.mono ?_;rintro e w3 ⟨g,cap,rfl,h3⟩;obtain⟨⟨u3,a1⟩,a2,a3,X⟩:=HA _ _ _ h3;obtain⟨b1,b2,b3⟩:=HR _ _ _ _ X;have H4:=aB X;clear h3 X;generalize B:w3.setCell (aL w.heap.size 1) (.slice (some (aL g 0)) n cap)=w4 at H4 b1 b2 b3;have L:=aB B;clear B;go_wp2_with fail;rw[L.out];go_wp2_with fail;go_loopg [3,4,12] n (fun gk _ _ i wr=>∃j:Nat,j+gk=n/\i=Iv0 j/\C g cap j wr)
 case atStart=>exact⟨0,by omega,rfl,H4⟩
 case round=>
  obtain⟨j,hj,rfl,F⟩:=hrel;obtain⟨b1,b2,b3⟩:=HR _ _ _ _ F;by_cases M:j<n
  ·obtain⟨m,rfl⟩:∃m,gk=m+1:=⟨gk-1,by omega⟩
   obtain⟨x,l,c,c1,k⟩:=HV _ _ _ _ F M;have r:=aB k;have e1:(0:Int)<=(j:Int):=by omega
   have e2:(j:Int)<(n:Int):=by omega
   clear F k;go_wp2_with fail;refine r.mono ?_;rintro e q ⟨h,f,rfl,s⟩;obtain⟨⟨u5,d1⟩,d2,d3,h6⟩:=U _ _ _ _ _ _ _ s;obtain⟨y,l2,c2,y1,y2,p⟩:=HE _ _ _ _ h6;have D:=aB p;have ai:q.cell? (aL g (j*6+5))=some (.slice y l2 c2):=by simpa [go_sem] using y1
   clear s h6 p y1 y2;go_wp2_with fail;refine D.mono ?_;rintro e w7 ⟨y',d',rfl,h7⟩;obtain⟨⟨u7,f1⟩,f2,f3,h8⟩:=I _ _ _ _ _ _ _ h7;have H8:=aB h8;clear h7 h8;go_wp2
   go_roundg m
   case measure=>omega
   case rel=>exact⟨j+1,by omega,by go_num,H8⟩
  ·have K:j=n:=by omega
   subst K;obtain⟨o1,k⟩:=HO _ _ _ F;have r:=aB k;clear F k;go_wp2_with fail;refine r.mono ?_;rintro e q ⟨h,G,f,rfl,s⟩;obtain⟨⟨p0,p1,p2,⟨u3,p3⟩,p4,pf,pl⟩,d⟩:=HF _ _ _ _ _ _ s;have Q:q.cell? (aL (w.heap.size+1) 0)=some (Iv0 0):=aA d rfl;have ac:q.cell? (aL (w.heap.size+1) 1)=some (bV):=aA d rfl;have S:q.cell? (aL (w.heap.size+1) 2)=some (bV):=aA d rfl;have V:q.cell? (aL (w.heap.size+1) 3)=some (bV):=aA d rfl;have ab:q.cell? (aL (w.heap.size+1) 4)=some (Iv0 0):=aA d rfl;have ah:=aE (i:=0) d;have aj:=aE (i:=1) d;have ag:=aE (i:=2) d;have ae:=aE (i:=3) d;have af:=aE (i:=4) d;have H5:=aB s;clear s d;have ad:w.heap.size<q.heap.size:=by omega
   go_wp2_with fail;refine⟨rfl,.agg #[Iv0 b,.slice (some (aL g 0)) j cap,.slice N Y J,.slice h G f,Iv0 a],?_,_,rfl,HP _ _ _ _ _ _ _ H5 ?_ (by simp)⟩
   ·simp[results,results122,go_sem,Q,ac,S,V,ab]
   ·exact((((((Kept.refl _ _).setCell _ _ (by simp)).setCell _ _ (by simp)).setCell _ _ (by simp)).setCell _ _ (by simp)).setCell _ _ (by simp)).setCell _ _ (by simp)
def F6(a b:List FVal)(v:FVal)(i:Nat)(c:i<6):(gG (a++v::b))[a.length*6+i]?=v.cells[i]?:=by
 rw[jM,j1 (by rw[eH];omega),eH,s7]
 show (v.cells++gG b)[i]?=_
 rw[l7 (by exact c)]
def XX(a b:List FVal)(v v':FVal)(i:Nat)(x:aQ)(d:i<6)(c:v'.cells=v.cells.set i x):(gG (a++v::b)).set (a.length*6+i) x=gG (a++v'::b):=by
 rw[jM,jM,List.set_append_right _ _ (by rw[eH];omega),eH,s7]
 show gG a++(v.cells++gG b).set i x=gG a++(v'.cells++gG b)
 rw[List.set_append_left _ _ (by exact d),c]
structure CI(w:aH)(time stop n g cap:Nat)(tv xo:aQ)(fvs':List FVal)(own:List Nat)(W:aH):Prop where
 row:W.ownsRow (w.heap.size+2) 131 6 (.slice (some (aL g 0)) n cap) n (gG fvs')
 nodup:(g::own).Nodup
 rng:∀k∈g::own,w.heap.size+2<=k/\k<W.heap.size
 bel:Below w.heap.size w W
 b1:W.heap[w.heap.size]?=some (.cells #[Iv0 time,.slice (some (aL g 0)) n cap,tv,xo,Iv0 stop] 60 (0,0))
 b2:W.heap[w.heap.size+1]?=some (.cells #[Iv0 0,bV,bV,bV,Iv0 0] 60 (0,0))
section
variable {w:aH} {time stop n g cap:Nat} {tv xo:aQ} {own:List Nat} {W W':aH} {a b:List FVal} {v v':FVal}
def CI.cell(h:CI w time stop n g cap tv xo (a++v::b) own W)(i:Nat)(d:i<6):W.cell? (aL g (a.length*6+i))=v.cells[i]?/\W.frozen? (aL g (a.length*6+i))=false/\g<W.heap.size:=by
 refine⟨?_,h.row.frozenAt _,(h.rng g (by simp)).2⟩
 have c:=h.row.1;rw[eH,Y5,Y9] at c;rw[h.row.cellAt (a.length*6+i) (by omega),F6 a b v i d]
def CI.grow{a:List FVal}(h:CI w time stop n g cap tv xo a own W)(d:Below W.heap.size W W')(o:Option Nat)(i:∀k,o=some k->W.heap.size<=k/\k<W'.heap.size):CI w time stop n g cap tv xo a (own++o.toList) W':=by
 have j:=h.bel.size;have p:=aD h.b1;have l:=aD h.b2;refine⟨iS h.row d,?_,fun k b=>?_,h.bel.trans (d.mono j),by rw[d.block _ p];exact h.b1,by rw[d.block _ l];exact h.b2⟩
 ·rw[<-l9];refine m9.2 ⟨h.nodup,by cases o<;>simp,fun x q y m e=>?_⟩
  subst e;have f:o=some x:=by simpa using m
  have:=(h.rng x q).2;have:=(i x f).1;omega
 ·rw[<-l9] at b;rcases Z2.1 b with b|b
  ·exact⟨(h.rng k b).1,Y7 (h.rng k b).2 d.size⟩
  ·have c:o=some k:=by simpa using b
   have:=(i k c).1;exact⟨by omega,(i k c).2⟩
def CI.set(h:CI w time stop n g cap tv xo (a++v::b) own W)(i:Nat)(e:i<6)(x:aQ)(d:v'.cells=v.cells.set i x):CI w time stop n g cap tv xo (a++v'::b) own (W.setCell (aL g (a.length*6+i)) x):=by
 have f:=(h.rng g (by simp)).1
 have c:∀k,k≠g->(W.setCell (aL g (a.length*6+i)) x).heap[k]?=W.heap[k]?:=fun k c=>Y6 _ _ _ _ c
 refine⟨?_,h.nodup,fun k c=>⟨(h.rng k c).1,by simpa using (h.rng k c).2⟩,h.bel.setCell (by show w.heap.size<=g;omega) _,by rw[c _ (by omega)];exact h.b1,by rw[c _ (by omega)];exact h.b2⟩
 rw[<-XX a b v v' i x e d];exact(h.row.stored _ _).1
def CI.keep{a:List FVal}(h:CI w time stop n g cap tv xo a own W):w.heap.size<W.heap.size/\w.heap.size+1<W.heap.size:=⟨aD h.b1,aD h.b2⟩
end
structure PK(fp:fN)(F:cC)(base:Nat)(w:aH)(gf cap:Nat)(tv outv:aQ)(fvs:List FVal)(m:cT):Prop where
 row:w.ownsRow base 131 6 (.slice (some (aL gf 0)) fvs.length cap) fvs.length (gG fvs)
 frs:iW false fp F base w fvs m.frames
 tape:qQ F w tv m.tape
 out:w.ownsRow base 9 1 outv m.out.length (lS m.out)
 nodup:(gf::(outv.ownBlock.toList++bW false fvs)).Nodup
 rng:∀k∈gf::(outv.ownBlock.toList++bW false fvs),base<=k/\k<w.heap.size
def PVs.cells{F:cC}{w:aH}{v:aQ}{l:List aI}(h:PVs F w v l)(p:l.length<=1000000):
 ∃x c,v=.slice x l.length c/\Calls prog 166 #[.slice x l.length c] w fun e a=>∃d b n,e=bE (.slice d l.length b)/\a.ownsRow w.heap.size 142 1 (.slice d l.length b) l.length n/\gF F w n l/\Below w.heap.size w a:=by
 rcases h.row with ⟨rfl,rfl⟩|⟨g,f,m,rfl,y,r,i,s⟩
 ·refine⟨none,0,rfl,(rZ w).mono ?_⟩;rintro e a ⟨rfl,rfl⟩;exact⟨none,0,[],rfl,World.ownsRow_nil _ _ _ _,gF.nil _ _,Y8 _ _⟩
 ·refine⟨_,_,rfl,(sA g 0 l.length f m w (by rw[i.1];omega) p (fun j u q=>by rw[x9];exact s j u q) (nW i)).mono ?_⟩
  rintro e a ⟨t,rfl,k,o⟩;obtain⟨d,b,rfl⟩:=cY k;exact⟨d,b,m,rfl,k,i,o⟩
def lL{a:fN}{F:cC}{base:Nat}{w w':aH}{vs:List FVal}{fs:List aJ}(h:iW false a F base w vs fs)(f:∀b,F b->w'.heap[b]?=w.heap[b]?)(d:∀k∈bW false vs,w'.heap[k]?=w.heap[k]?):iW false a F base w' vs fs:=
 h.keep f eD fun v e k c=>d k (s9.2 ⟨v,e,c⟩)
def JB(us:List FVal)(v:FVal):bW false (us++[v])=bW false us++(v.ownX false):=by simp[bW]
def iL{w:aH}{base a:Nat}{e:TypeId}{b:Nat}{v:aQ}{n:Nat}{xs:List Value}(h:w.ownsRow base e b v n xs)(j:a<=base):w.ownsRow a e b v n xs:=by
 refine⟨h.1,?_⟩;rcases h.2 with h|⟨g,d,c,i,f,k⟩
 ·exact Y4 h
 ·exact Y3 ⟨g,d,c,i,Z4 j f,k⟩
def Y1(fp:fN)(F:cC)(w:aH)(time stop n:Nat)(tv xo:aQ)(fvs:List FVal)(frames:List aJ)(g cap j:Nat)(W:aH):Prop:=
 ∃us:List FVal,us.length=j/\CI w time stop n g cap tv xo (us++fvs.drop j) (bW false us) W/\iW false fp F (w.heap.size+2) W us (frames.take j)
def Y2(fp:fN)(F:cC)(w:aH)(time stop n:Nat)(tv xo:aQ)(fvs:List FVal)(frames:List aJ)(g cap j:Nat)(W:aH):Prop:=
 ∃(us:List FVal) (v:FVal) (f:aJ) (x:aQ),us.length=j/\fvs[j]?=some v/\frames[j]?=some f/\CI w time stop n g cap tv xo (us++{ v with vv:=x }::fvs.drop (j+1)) (bW false us++x.ownBlock.toList) W/\iW false fp F (w.heap.size+2) W us (frames.take j)/\kZ F (w.heap.size+2) W x f.vars
def TA{N:fN}{F:cC}{w:aH}{v:aQ}{s:cD}(h:nO N F w v s)(V:∀k,F k->k<w.heap.size)(bh:s.m.frames≠[])(bx:s.m.frames.length<=16)(hb:∀f∈s.m.frames,f.vars.length<=90001/\f.ops.length<=99000)(bv:s.m.out.length<=50):
 Calls prog 122 #[v] w fun e E=>∃v',e=bE v'/\∃gf cap tv I a,v'=.agg #[Iv0 s.time,.slice (some (aL gf 0)) a.length cap,tv,I,Iv0 s.stop]/\Below w.heap.size w E/\PK N F w.heap.size E gf cap tv I a s.m:=by
 obtain⟨fv,tv,T,a,rfl,bc,O,ba,ay⟩:=h;have ak:=O.length
 have Y:0<a.length:=by
  rw[ak];exact v7.2 bh
 rcases bc with ⟨e,_⟩|⟨x0,c0,bt,rfl,bp,bf,br,bn⟩
 ·rw[e] at Y;simp at Y
 have av:∃ta tl tc,tv=.slice ta tl tc:=by
  rcases ba with ⟨_,x,c,e⟩|⟨g,o,c,e,_⟩
  ·exact⟨_,_,_,e⟩
  ·exact⟨_,_,_,e⟩
 have bb:∃xa xl xc,T=.slice xa xl xc:=by
  rcases ay with ⟨_,e⟩|⟨g,c,cu,e,_⟩
  ·exact⟨_,_,_,e⟩
  ·exact⟨_,_,_,e⟩
 generalize X:(w.alloc (.cells #[Iv0 s.time,.slice (some (aL x0 0)) a.length c0,tv,T,Iv0 s.stop] 60)).alloc (.cells #[Iv0 0,bV,bV,bV,Iv0 0] 60)=w2;have az:Below w.heap.size w w2:=by rw[<-X];exact((Y8 _ w).alloc dH _).alloc (by simp) _
 have bj:w2.heap.size=w.heap.size+2:=by rw[<-X];simp
 have bi:w2.heap[w.heap.size]?=some (.cells #[Iv0 s.time,.slice (some (aL x0 0)) a.length c0,tv,T,Iv0 s.stop] 60 (0,0)):=by
  rw[<-X,Z3 _ _ _ (by simp)];exact aU _ _ rfl _
 have bl:w2.heap[w.heap.size+1]?=some (.cells #[Iv0 0,bV,bV,bV,Iv0 0] 60 (0,0)):=by
  rw[<-X];exact aU _ _ (by simp) _
 have be:∀b,F b->w2.heap[b]?=w.heap[b]?:=fun b hb=>az.block b (V b hb)
 have ad:∀{W:aH},Below w.heap.size w W->∀b,F b->W.heap[b]?=w.heap[b]?:=fun hb b q=>hb.block b (V b q)
 have aa:∀u∈gG a,u.oneCell'=true:=by
  have au:∀(vs:List FVal) (K:List aJ),uN N F w vs K->∀u∈gG vs,u.oneCell'=true:=by
   intro vs;induction vs with
   |nil=>intro K _ u hu;cases hu
   |cons v vs ih=>
    intro K O u hu;cases K with
    |nil=>exact O.elim
    |cons f K=>
     obtain⟨J,h2⟩:=O;rcases Z2.1 hu with hu|hu
     ·obtain⟨bw,gc,cp,bu,M,_⟩:=J.fn;obtain⟨p,hp⟩:=J.sp.form
      have bq:∃x n c,v.vv=.slice x n c:=by
       rcases J.vars.row with ⟨_,e⟩|⟨g,c,xs,e,_⟩<;>exact⟨_,_,_,e⟩
      have bk:∃x n c,v.ov=.slice x n c:=by
       rcases J.ops.row with ⟨_,e⟩|⟨g,c,xs,e,_⟩<;>exact⟨_,_,_,e⟩
      obtain⟨x1,n1,c1,e2⟩:=bq;obtain⟨x2,n2,c2,e3⟩:=bk;simp only[FVal.cells,M,J.nx,J.ln,hp,e2,e3,Z6,e7,or_false] at hu;rcases hu with rfl|rfl|rfl|rfl|rfl|rfl<;>rfl
     ·exact ih K h2 u hu
  exact au a s.m.frames O
 have L:∀j (C:j<a.length),∃v f,a[j]?=some v/\s.m.frames[j]?=some f/\V7 N F w v f/\f∈s.m.frames/\a.drop j=v::a.drop (j+1)/\s.m.frames.take (j+1)=s.m.frames.take j++[f]:=fun j C=>by
  have ai:j<s.m.frames.length:=by omega
  refine⟨a[j],s.m.frames[j],Z8 C,Z8 ai,O.get j _ _ (Z8 C) (Z8 ai),e8 ai,aq_ C,i6 ai⟩
 have hR:∀g cap j W,Y1 N F w s.time s.stop a.length tv T a s.m.frames g cap j W->W.cell? (aL w.heap.size 1)=some (.slice (some (aL g 0)) a.length cap)/\w.heap.size<W.heap.size/\g<W.heap.size:=fun g cap j W H=>by
  obtain⟨m,_,i,_⟩:=H;exact⟨aA i.b1 rfl,aD i.b1,(i.rng g (by simp)).2⟩
 refine(OR w w2 s.time s.stop x0 a.length c0 (.slice (some (aL x0 0)) a.length c0) tv T
  (fun v' E=>∃gf cap tv I a,v'=.agg #[Iv0 s.time,.slice (some (aL gf 0)) a.length cap,tv,I,Iv0 s.stop]/\Below w.heap.size w E/\PK N F w.heap.size E gf cap tv I a s.m)
  (fun g cap W=>W.ownsRow (w.heap.size+2) 131 6 (.slice (some (aL g 0)) a.length cap) a.length (gG a)/\Below w2.heap.size w2 W)
  (Y1 N F w s.time s.stop a.length tv T a s.m.frames) (Y2 N F w s.time s.stop a.length tv T a s.m.frames)
  (fun g cap j x l c W=>∃m v f,m.length=j/\a[j]?=some v/\s.m.frames[j]?=some f/\CI w s.time s.stop a.length g cap tv T (m++v::a.drop (j+1)) (bW false m++(Value.slice x l c).ownBlock.toList) W/\iW false N F (w.heap.size+2) W m (s.m.frames.take j)/\kZ F (w.heap.size+2) W (.slice x l c) f.vars)
  (fun g cap j x l c W=>∃m v f y,m.length=j/\a[j]?=some v/\s.m.frames[j]?=some f/\CI w s.time s.stop a.length g cap tv T (m++{ v with vv:=y }::a.drop (j+1)) (bW false m++y.ownBlock.toList++(Value.slice x l c).ownBlock.toList) W/\iW false N F (w.heap.size+2) W m (s.m.frames.take j)/\kZ F (w.heap.size+2) W y f.vars/\kZ F (w.heap.size+2) W (.slice x l c) f.ops)
  (fun g cap x l c W=>∃m,m.length=a.length/\CI w s.time s.stop a.length g cap tv T m (bW false m++(Value.slice x l c).ownBlock.toList) W/\iW false N F (w.heap.size+2) W m s.m.frames/\W.ownsRow (w.heap.size+2) 9 1 (.slice x l c) s.m.out.length (lS s.m.out))
  (by omega) rfl bb av X ?_ (fun g cap W H=>?_) hR (fun g cap j W H C=>?_) (fun g cap j x l c W H=>?_) (fun g cap j W H=>?_) (fun g cap j x l c W H=>?_) (fun g cap W H=>?_) (fun g cap x l c W H=>?_) (fun g cap x l c W W' H r Q=>?_))
 ·refine(ES x0 0 a.length c0 (gG a) w2 (by rw[eH]) (by omega) (fun j u C=>?_) aa).mono ?_
  ·rw[x9];rw[<-bn,i8] at C;split at C
   ·exact aA ((be x0 bp).trans bf) (by simpa using C)
   ·cases C
  ·rintro e E ⟨v',rfl,B,t⟩;rw[bj] at B;rcases B.2 with ⟨r1,r2⟩|⟨g,cp,cu,r1,_⟩
   ·omega
   ·rw[r1] at B ⊢
    exact⟨g,cp,rfl,B,t⟩
 ·obtain⟨B,t⟩:=H;have hg:=B.lt g rfl;have aj:W.heap[w.heap.size]?=_:=(t.block _ (by omega)).trans bi
  have ax:W.heap[w.heap.size+1]?=_:=(t.block _ (by omega)).trans bl
  refine⟨⟨_,aA aj rfl⟩,aE aj,aD aj,[],rfl,⟨?_,by simp[bW],fun k r=>?_,?_,aT aj,?_⟩,trivial⟩
  ·exact bA B fun k e=>Y6 _ _ _ _ (by cases e;show g≠w.heap.size;omega)
  ·simp[bW] at r;subst r;exact⟨hg.1,by simpa using hg.2⟩
  ·exact(az.trans (t.mono (by omega))).setCell dH _
  ·rw[Y6 _ _ _ _ (by show w.heap.size+1≠w.heap.size;omega)];exact ax
 ·obtain⟨m,rfl,i,A⟩:=H;obtain⟨v,f,M,e2,hv,af,e3,e4⟩:=L m.length C;rw[e3] at i;obtain⟨c1,c2,c3⟩:=i.cell 4 (by omega)
  have aq:=hv.keep (ad i.bel) eD;obtain⟨x,c,e5,ar⟩:=aq.vars.cells (by have:=(hb f af).1;omega)
  refine⟨x,f.vars.length,c,c1.trans (by rw[<-e5];rfl),ar.mono ?_⟩
  rintro e E ⟨x',c',ys,he,B,hr,t⟩;have S:∀k,(Value.slice x' f.vars.length c').ownBlock=some k->W.heap.size<=k/\k<E.heap.size:=fun k r=>B.lt k r
  have Q:=i.keep;refine⟨x',c',he,m,v,f,rfl,M,e2,i.grow t _ S,lL A (fun b q=>t.block b (Y7 (V b q) i.bel.size)) (fun k r=>t.block k (i.rng k (b8 _ r)).2),⟨ys,iL B (by omega),hr.keep fun b q=>t.block b (Y7 (V b q) i.bel.size)⟩,hv.varsB⟩
 ·obtain⟨m,v,f,rfl,M,e2,i,A,U⟩:=H;obtain⟨c1,c2,c3⟩:=i.cell 4 (by omega)
  have D:∀k∈bW false m++(Value.slice x l c).ownBlock.toList,k≠g:=fun k r e=>(Z9.1 i.nodup).1 (by rw[<-e];exact r)
  have z:∀k,k≠g->(W.setCell (aL g (m.length*6+4)) (.slice x l c)).heap[k]?=W.heap[k]?:=fun k r=>Y6 _ _ _ _ r
  have ag:∀b,F b->b≠g:=fun b q e=>by have J:=V b q;have h2:=(i.rng g (by simp)).1;omega
  refine⟨⟨_,c1⟩,c2,c3,m,v,f,_,rfl,M,e2,i.set 4 (by omega) _ rfl,lL A (fun b q=>z b (ag b q)) (fun k r=>z k (D k (j2 _ r))),U.keep (fun b q=>z b (ag b q)) eD fun k r=>z k (D k (by simp[r]))⟩
 ·obtain⟨m,v,f,x,rfl,M,e2,i,A,U⟩:=H;obtain⟨c1,c2,c3⟩:=i.cell 5 (by omega)
  have C:m.length<a.length:=(j4.1 M).1;obtain⟨v',f',ac,P,hv,af,e3,e4⟩:=L m.length C;rw[M] at ac;cases ac;rw[e2] at P;cases P;have aq:=hv.keep (ad i.bel) eD;obtain⟨y,d,e5,ar⟩:=aq.ops.cells (by have:=(hb f af).2;omega)
  refine⟨y,f.ops.length,d,c1.trans (by rw[<-e5];rfl),c3,ar.mono ?_⟩
  rintro e E ⟨y',d',ys,he,B,hr,t⟩;have S:∀k,(Value.slice y' f.ops.length d').ownBlock=some k->W.heap.size<=k/\k<E.heap.size:=fun k r=>B.lt k r
  have Q:=i.keep;have ao:∀b,F b->E.heap[b]?=W.heap[b]?:=fun b q=>t.block b (Y7 (V b q) i.bel.size)
  refine⟨y',d',he,m,v,f,x,rfl,M,e2,i.grow t _ S,lL A ao (fun k r=>t.block k (i.rng k (b8 _ (j2 _ r))).2),U.keep ao eD fun k r=>t.block k (i.rng k (by simp[r])).2,⟨ys,iL B (by omega),hr.keep ao⟩,hv.opsB⟩
 ·obtain⟨m,v,f,y,rfl,M,e2,i,A,U,bm⟩:=H;obtain⟨c1,c2,c3⟩:=i.cell 5 (by omega)
  have C:m.length<a.length:=(j4.1 M).1;obtain⟨v',f',ac,P,hv,af,e3,e4⟩:=L m.length C;rw[M] at ac;cases ac;rw[e2] at P;cases P;have D:∀k∈bW false m++y.ownBlock.toList++(Value.slice x l c).ownBlock.toList,k≠g:=fun k r e=>(Z9.1 i.nodup).1 (by rw[<-e];exact r)
  have z:∀k,k≠g->(W.setCell (aL g (m.length*6+5)) (.slice x l c)).heap[k]?=W.heap[k]?:=fun k r=>Y6 _ _ _ _ r
  have ag:∀b,F b->b≠g:=fun b q e=>by have J:=V b q;have h2:=(i.rng g (by simp)).1;omega
  have ap:∀b,F b->(W.setCell (aL g (m.length*6+5)) (.slice x l c)).heap[b]?=W.heap[b]?:=fun b q=>z b (ag b q)
  have ab:=i.set (v':={ v with vv:=y,ov:=.slice x l c }) 5 (by omega) (.slice x l c) rfl
  have ah:=hv.keep (ad (ab.bel)) eD;refine⟨⟨_,c1⟩,c2,c3,m++[{ v with vv:=y,ov:=.slice x l c }],by simp,?_,?_⟩
  ·have e5:bW false (m++[{ v with vv:=y,ov:=.slice x l c }])=bW false m++y.ownBlock.toList++(Value.slice x l c).ownBlock.toList:=by
    rw[JB,m8];rfl
   have e6:m++[{ v with vv:=y,ov:=.slice x l c }]++a.drop (m.length+1)=m++{ v with vv:=y,ov:=.slice x l c }::a.drop (m.length+1):=by simp
   rw[e5,e6];exact ab
  ·rw[e4];refine(lL A ap (fun k r=>z k (D k (by simp[r])))).snoc ⟨ah.fn,ah.nx,ah.ln,ah.sp,U.keep ap eD fun k r=>z k (D k (by simp[r])),bm.keep ap eD fun k r=>z k (D k (by simp[r]))⟩
 ·obtain⟨m,Z,i,A⟩:=H;rw[List.drop_of_length_le dH,List.append_nil] at i;rw[ak,j7 dH] at A;have Q:=i.keep;have aw:=ay.keep (ad i.bel) eD;refine⟨aA i.b1 rfl,?_⟩
  have al:∀x' l' c' (E:aH),E.ownsRow W.heap.size 9 1 (.slice x' l' c') s.m.out.length (lS s.m.out)->Below W.heap.size W E->∃m,m.length=a.length/\CI w s.time s.stop a.length g cap tv T m (bW false m++(Value.slice x' l' c').ownBlock.toList) E/\iW false N F (w.heap.size+2) E m s.m.frames/\E.ownsRow (w.heap.size+2) 9 1 (.slice x' l' c') s.m.out.length (lS s.m.out):=fun x' l' c' E B t=>
   ⟨m,Z,i.grow t _ fun k r=>B.lt k r,lL A (fun b q=>t.block b (Y7 (V b q) i.bel.size)) (fun k r=>t.block k (i.rng k (b8 _ r)).2),iL B (by omega)⟩
  rcases aw with ⟨M,rfl⟩|⟨go,co,cu,rfl,J,h2,h3,h4⟩
  ·refine(sB W).mono ?_;rintro e E ⟨rfl,rfl⟩;exact⟨none,0,0,rfl,al _ _ _ _ (by rw[M];exact World.ownsRow_nil _ _ _ _) (Y8 _ _)⟩
  ·refine(sC go 0 s.m.out.length co (lS s.m.out) W (by simp[lS]) (by omega) (fun j u C=>?_) (fun u hu=>?_)).mono ?_
   ·rw[x9];rw[<-h4,i8] at C;split at C
    ·exact aA h2 (by simpa using C)
    ·cases C
   ·obtain⟨y,_,rfl⟩:=ac_.1 hu;rfl
   ·rintro e E ⟨v',rfl,B,t⟩;obtain⟨x',c',rfl⟩:=cY B;exact⟨x',_,c',rfl,al _ _ _ _ B t⟩
 ·obtain⟨m,Z,i,A,B⟩:=H;exact⟨⟨aA i.b1 rfl,aA i.b1 rfl,aA i.b1 rfl,⟨_,aA i.b1 rfl⟩,aA i.b1 rfl,aE i.b1,aD i.b2⟩,i.b2⟩
 ·obtain⟨m,Z,i,A,B⟩:=H
  have bg:∀k∈g::(bW false m++(Value.slice x l c).ownBlock.toList),k∉[w.heap.size,w.heap.size+1]:=fun k r hm=>by
   have:=(i.rng k r).1;simp at hm;omega
  have am:∀k∈g::(bW false m++(Value.slice x l c).ownBlock.toList),W'.heap[k]?=W.heap[k]?:=fun k G=>r.block k (i.rng k G).2 (bg k G)
  have bo:∀b,F b->W'.heap[b]?=W.heap[b]?:=fun b q=>r.block b (Y7 (V b q) i.bel.size) (by have:=V b q;simp;omega)
  have bd:Below w.heap.size w W':=⟨r.os.trans i.bel.os,r.tape.trans i.bel.tape,r.output.trans i.bel.output,by rw[Q];exact i.bel.size,fun k G=>by
   rw[r.block k (Y7 G i.bel.size) (by simp;omega),i.bel.block k G]⟩
  have an:∀k,k∈g::((Value.slice x l c).ownBlock.toList++bW false m)↔k∈g::(bW false m++(Value.slice x l c).ownBlock.toList):=fun k=>by simp[or_comm]
  have ae:∀(u:List FVal) (K:List aJ),iW false N F (w.heap.size+2) W' u K->iW false N F w.heap.size W' u K:=by
   intro u;induction u with
   |nil=>intro K h;cases K with
    |nil=>trivial
    |cons=>exact h.elim
   |cons v vs ih=>intro K h;cases K with
    |nil=>exact h.elim
    |cons f K=>
     obtain⟨J,h2⟩:=h;obtain⟨⟨xs,a1,a2⟩,a3⟩:=J.vars;obtain⟨⟨ys,b1,b2⟩,b3⟩:=J.ops;exact⟨⟨J.fn,J.nx,J.ln,J.sp,⟨⟨xs,iL a1 (by omega),a2⟩,a3⟩,⟨⟨ys,iL b1 (by omega),b2⟩,b3⟩⟩,ih K h2⟩
  refine⟨g,cap,tv,.slice x l c,m,by rw[Z],bd,⟨?_,ae _ _ (lL A bo fun k G=>am k (by simp[G])),ba.keep (fun b q=>by rw[bd.block b (V b q)]) eD,?_,?_,fun k G=>?_⟩⟩
  ·rw[Z];exact iL (bA i.row fun k e=>by cases e;exact am g (by simp)) (by omega)
  ·exact iL (bA B fun k e=>am k (by simp[e])) (by omega)
  ·have:=i.nodup;rw[Z9] at this ⊢
   refine⟨fun hm=>this.1 (by simpa [or_comm] using hm),?_⟩
   exact(List.perm_append_comm.nodup_iff).1 this.2
  ·have:=i.rng k ((an k).1 G);exact⟨by omega,by rw[Q];exact this.2⟩
def WR(w:aH)(b a:Nat)(j h i:aQ)(r:a≠0)(f:∃x l c,j=.slice x l c)(d:∃x l c,h=.slice x l c)(g:∃x l c,i=.slice x l c):
 Calls prog 87 #[.agg #[Iv0 b,j,h,i,Iv0 a]] w fun e k=>e=bE (.tuple #[.agg #[Iv0 0,bV,bV,bV,Iv0 0],.bool false])/\Below w.heap.size w k:=by
 obtain⟨y,u,n,rfl⟩:=f;obtain⟨s,v,p,rfl⟩:=d;obtain⟨m,o,q,rfl⟩:=g;have t:¬(a:Int)=0:=by omega
 go_in
 go_wp2_with fail;refine⟨rfl,.tuple #[.agg #[Iv0 0,bV,bV,bV,Iv0 0],.bool false],?_,rfl,((Y8 _ w).alloc dH _).alloc (by simp) _⟩
 simp[results,results87,go_sem]
def WQ(w Z:aH)(a:Nat)(y u v:aQ)(P:Value->World->Prop)(A:Nat->Nat->Nat->Value->Value->World->Prop)(B:Nat->World->Prop)(ht:a<=1000000)(G:∃x l c,y=.slice x l c)(F:∃x l c,u=.slice x l c)(D:∃x l c,v=.slice x l c)
 (T:(w.alloc (.cells #[Iv0 a,y,u,v,Iv0 0] 60)).alloc (.cells #[Iv0 0,bV,bV,bV,Iv0 0] 60)=Z)
 (HC:Hid (Calls prog 122 #[.agg #[Iv0 a,y,u,v,Iv0 0]] Z fun e s=>∃p n cap d g,e=bE (.agg #[Iv0 a,.slice (some (aL p 0)) n cap,d,g,Iv0 0])/\(∃x l c,d=.slice x l c)/\(∃x l c,g=.slice x l c)/\A p n cap d g s))
 (HG:Hid (∀p n cap d g W,A p n cap d g W->Calls prog 77 #[bO W.heap.size] (W.alloc (.cells #[Iv0 ((a+1:Nat):Int),.slice (some (aL p 0)) n cap,d,g,Iv0 0] 60)) fun e s=>e=bE (.tuple #[])/\B W.heap.size s))
 (HB:Hid (∀b W,B b W->∃(q:Nat) (f t o:aQ) (r:Nat),W.heap[b]?=some (.cells #[Iv0 q,f,t,o,Iv0 r] 60 (0,0))/\(∃x l c,f=.slice x l c)/\(∃x l c,t=.slice x l c)/\(∃x l c,o=.slice x l c)/\W.heap[w.heap.size+1]?=some (.cells #[Iv0 0,bV,bV,bV,Iv0 0] 60 (0,0))/\b≠w.heap.size+1/\
   ∀W',Kept [w.heap.size+1] W W'->W'.heap.size=W.heap.size->P (.agg #[Iv0 q,f,t,o,Iv0 r]) W')):
 Calls prog 87 #[.agg #[Iv0 a,y,u,v,Iv0 0]] w fun e s=>∃v',e=bE (.tuple #[v',.bool true])/\P v' s:=by
 obtain⟨x1,l1,c1,rfl⟩:=G;obtain⟨x2,l2,c2,rfl⟩:=F;obtain⟨x3,l3,c3,rfl⟩:=D;have HW:=aB T;clear T;go_in
 go_wp2_with fail;rw[HW.out];refine HC.mono ?_;rintro e w3 ⟨p,n,cap,d,g,rfl,⟨y2,m2,d2,rfl⟩,⟨y3,m3,d3,rfl⟩,J⟩;have k:=aB (HG _ _ _ _ _ _ J);generalize hb:w3.heap.size=b at k;clear J;rw[show ((a+1:Nat):Int)=(a:Int)+1 by omega] at k
 go_wp2_with fail;refine k.mono ?_;rintro e j ⟨rfl,M⟩;obtain⟨q,f,t,o,r,m,⟨N,S,O,rfl⟩,⟨U,Y,V,rfl⟩,⟨K,L,Q,rfl⟩,h,q3,X⟩:=HB _ _ M;have HQ:=aB X;have ah:j.cell? (aL b 0)=some (Iv0 q):=aA m rfl;have al:j.cell? (aL b 1)=some (.slice N S O):=aA m rfl;have ae:j.cell? (aL b 2)=some (.slice U Y V):=aA m rfl;have ag:j.cell? (aL b 3)=some (.slice K L Q):=aA m rfl;have ac:j.cell? (aL b 4)=some (Iv0 r):=aA m rfl;have z:j.cell? (aL (w.heap.size+1) 0)=some (Iv0 0):=aA h rfl;have I:j.cell? (aL (w.heap.size+1) 1)=some (bV):=aA h rfl;have C:j.cell? (aL (w.heap.size+1) 2)=some (bV):=aA h rfl;have E:j.cell? (aL (w.heap.size+1) 3)=some (bV):=aA h rfl;have H:j.cell? (aL (w.heap.size+1) 4)=some (Iv0 0):=aA h rfl;have aj:=aE (i:=0) h;have ak:=aE (i:=1) h;have af:=aE (i:=2) h;have ab:=aE (i:=3) h;have ad:=aE (i:=4) h;have aa:=aD m;have ai:=aD h;clear M X m h;go_wp2_with fail;refine⟨rfl,.tuple #[.agg #[Iv0 q,.slice N S O,.slice U Y V,.slice K L Q,Iv0 r],.bool true],?_,_,rfl,HQ _ ?_ (by simp)⟩
 ·simp[results,results87,go_sem,z,I,C,E,H]
 ·exact(((((Kept.refl _ _).setCell _ _ (by simp)).setCell _ _ (by simp)).setCell _ _ (by simp)).setCell _ _ (by simp)).setCell _ _ (by simp)
def sX{w:aH}{base n k:Nat}{t:TypeId}{v:aQ}{a:List Value}(h:w.ownsRow base t k v n a):∃x l c,v=.slice x l c:=by
 obtain⟨x,c,e⟩:=cY h;exact⟨x,n,c,e⟩
def yX.of{w w':aH}{own:List Nat}(h:lB w)(d:Below w.heap.size w w')(i:∀k∈own,w.heap.size<=k):yX own w':=fun W f=>by
 cases c:prog.globalNamed "internal/strconv.uint64pow10" with
 |none=>unfold lB Lib.TabIs World.var? at h;rw[c] at h;cases h
 |some g=>
  have a:g<w.heap.size:=by
   unfold lB Lib.TabIs World.var? at h;rw[c] at h;simp only[Option.bind_some] at h;rcases l6 g w.heap.size with b|b
   ·exact b
   ·rw[r8 (by exact b)] at h
    cases h
  refine h.keep c ?_;rw[f.block g (Y7 a d.size) (fun e=>by have:=i g e;omega),d.block g a]
def nO.form{i:fN}{F:cC}{w:aH}{v:aQ}{s:cD}(h:nO i F w v s):∃b tv xo,v=.agg #[Iv0 s.time,b,tv,xo,Iv0 s.stop]/\(∃x l c,b=.slice x l c)/\(∃x l c,tv=.slice x l c)/\(∃x l c,xo=.slice x l c):=by
 obtain⟨b,tv,xo,m,rfl,a,j,f,d⟩:=h;refine⟨b,tv,xo,rfl,?_,?_,?_⟩
 ·rcases a with ⟨_,x,c,e⟩|⟨g,c,k,e,_⟩<;>exact⟨_,_,_,e⟩
 ·rcases f with ⟨_,x,c,e⟩|⟨g,o,c,e,_⟩<;>exact⟨_,_,_,e⟩
 ·rcases d with ⟨_,e⟩|⟨g,c,n,e,_⟩<;>exact⟨_,_,_,e⟩
def PK.run{t:fN}{F:cC}{base:Nat}{w:aH}{gf g:Nat}{j a:aQ}{c:List FVal}{m:cT}(h:PK t F base w gf g j a c m)(v:∀b,F b->b<base)(f:base<=w.heap.size)(q p:aQ):
 cW false t F base (w.alloc (.cells #[q,.slice (some (aL gf 0)) c.length g,j,a,p] 60)) w.heap.size gf g q j a p c m/\∀k∈aP false w.heap.size gf a c,base<=k:=by
 generalize r:w.alloc (.cells #[q,.slice (some (aL gf 0)) c.length g,j,a,p] 60)=W;have u:Below w.heap.size w W:=by rw[<-r];exact(Y8 _ w).alloc dH _
 have x:W.heap.size=w.heap.size+1:=by rw[<-r];simp
 have n:W.heap[w.heap.size]?=some (.cells #[q,.slice (some (aL gf 0)) c.length g,j,a,p] 60 (0,0)):=by rw[<-r];exact aU _ _ rfl _
 have o:∀b,F b->W.heap[b]?=w.heap[b]?:=fun b s=>u.block b (Y7 (v b s) f)
 have i:∀k∈gf::(a.ownBlock.toList++bW false c),W.heap[k]?=w.heap[k]?:=fun k d=>u.block k (h.rng k d).2
 refine⟨⟨n,bA h.row fun k e=>by cases e;exact i gf (by simp),lL h.frs o fun k d=>i k (by simp[d]),h.tape.keep o eD,bA h.out fun k e=>i k (by simp[e]),?_,fun k d=>?_,fun k d=>?_⟩,fun k d=>?_⟩
 ·exact Z9.2 ⟨fun l=>by have:=(h.rng _ l).2;omega,h.nodup⟩
 ·rcases Z6.1 d with rfl|d
  ·omega
  ·have:=(h.rng k d).2;omega
 ·have y:=v k d;refine⟨by omega,fun l=>?_⟩
  rcases Z6.1 l with rfl|l
  ·omega
  ·have:=(h.rng k l).1;omega
 ·rcases Z6.1 d with rfl|d
  ·exact f
  ·exact(h.rng k d).1
def QJ{N:fN}{F:cC}{w:aH}{v:aQ}{s:cD}{ar:Nat->Option Nat}{C:List eV}{k:Nat}{r:cT × Nat}(ht:jX ar C)(ak:jO C)(h:nO N F w v s)(hF:∀b,F b->b<w.heap.size)(hT:lA N F w C)(hp:lB w)(hs:s.stop=0)
 (hA:fQ ar s.m) (Y:s.m.frames≠[]) (hU:fZ s.m) (ab:s.m.out.length<=50) (an:s.m.tape.length<=17592186044416) (hk:dY C k s.m=some r) (aq:s.time+1<=1000000) (hr:r.2<=1000):
 Calls prog 87 #[v] w fun e J=>∃v',e=bE (.tuple #[v',.bool true])/\Below w.heap.size w J/\∃G,Ext F G w.heap.size/\(∀b,G b->b<J.heap.size)/\nO N G J v' ⟨s.time+1,r.1,bU (s.time+1) r.2⟩:=by
 obtain⟨fv,tv,xo,rfl,f1,f2,f3⟩:=h.form
 have ae:∀f∈s.m.frames,f.vars.length<=90001/\f.ops.length<=99000:=fun f hf=>by
  have hq:∃O,cL ar f O:=by
   obtain⟨b,g,e⟩:=mS Y;rw[e] at hf;have K:=hA.ok.low;have S:=hA.ok.top;rw[e,gE] at K;rw[e,fJ] at S;rcases Z2.1 hf with l|l
   ·exact⟨1,K f l⟩
   ·rw[Z1.1 l];exact⟨0,S g rfl⟩
  obtain⟨O,⟨T,L,hh,_⟩,hn,_,hv⟩:=hq;have l:=(L.ins _ _ (Z8 hn)).2.1;have h2:=L.len;exact⟨hv,by omega⟩
 rw[hs] at h ⊢
 generalize I:(w.alloc (.cells #[Iv0 s.time,fv,tv,xo,Iv0 (0:Nat)] 60)).alloc (.cells #[Iv0 0,bV,bV,bV,Iv0 0] 60)=m;have t:Below w.heap.size w m:=by rw[<-I];exact((Y8 _ w).alloc dH _).alloc (by simp) _
 have ap:m.heap.size=w.heap.size+2:=by rw[<-I];simp
 have aj:m.heap[w.heap.size+1]?=some (.cells #[Iv0 0,bV,bV,bV,Iv0 0] 60 (0,0)):=by
  rw[<-I];exact aU _ _ (by simp) _
 have ai:∀b,F b->b<m.heap.size:=fun b Z=>Y7 (hF b Z) t.size
 have h2:nO N F m (.agg #[Iv0 s.time,fv,tv,xo,Iv0 (0:Nat)]) s:=by
  have:=h.keep (fun b Z=>t.block b (hF b Z)) eD
  exact this
 refine(WQ w m s.time fv tv xo (fun v' J=>Below w.heap.size w J/\∃G,Ext F G w.heap.size/\(∀b,G b->b<J.heap.size)/\nO N G J v' ⟨s.time+1,r.1,bU (s.time+1) r.2⟩)
  (fun z n q p U W=>∃i,n=i.length/\Below m.heap.size m W/\PK N F m.heap.size W z q p U i s.m)
  (fun b W=>∃W0 z q p j i G,(Below m.heap.size m W/\m.heap.size<=b)/\(m.heap.size<=W0/\Ext F G W0)/\cW false N G m.heap.size W b z q (Iv0 ((s.time+1:Nat):Int)) p j (Iv0 (bU (s.time+1) r.2)) i r.1/\∀k∈aP false b z j i,m.heap.size<=k)
  (by omega) f1 f2 f3 I ?_ (fun z n q p U W hq=>?_) (fun b W hq=>?_))
 ·refine(TA h2 ai Y hA.ok.deep ae ab).mono ?_;rintro e J ⟨v',rfl,z,q,p,j,i,rfl,y,L⟩;rw[hs];refine⟨z,i.length,q,p,j,rfl,?_,sX L.out,i,rfl,y,L⟩;rcases L.tape with ⟨_,x,c,e⟩|⟨g,o,c,e,_⟩<;>exact⟨_,_,_,e⟩
 ·obtain⟨i,rfl,y,L⟩:=hq;obtain⟨Q,E⟩:=L.run ai y.size (Iv0 ((s.time+1:Nat):Int)) (Iv0 0);generalize al:W.alloc (.cells #[Iv0 ((s.time+1:Nat):Int),.slice (some (aL z 0)) i.length q,p,U,Iv0 0] 60)=X at Q;have ao:Below W.heap.size W X:=by rw[<-al];exact(Y8 _ W).alloc dH _
  have d:Below m.heap.size m X:=y.trans (ao.mono y.size);have P:Below w.heap.size w X:=t.trans (d.mono t.size);have am:lA N F X C:=hT.keep (fun b Z=>P.block b (hF b Z)) eD
  refine(NK ht ak Q am (yX.of hp P fun k hk=>Z4 t.size (E k hk)) d.size hA hU ab an hk (by omega) hr).mono ?_
  rintro e J ⟨he,D,G,ah,ac,ag,A,M,d1,d2,d3⟩
  have af:∀x∈aP false W.heap.size ah A M,m.heap.size<=x:=fun x hx=>by
   rcases d3 x hx with l|l
   ·exact E x l
   ·exact Z4 d.size l
  refine⟨he,X.heap.size,ah,ac,ag,A,M,G,⟨⟨D.os.trans d.os,D.tape.trans d.tape,D.output.trans d.output,Z4 d.size D.size,fun k a=>?_⟩,y.size⟩,⟨d.size,d1⟩,d2,af⟩
  rw[D.block k (Y7 a d.size) (fun hm=>by have:=E k hm;omega),d.block k a]
 ·obtain⟨W0,z,q,p,j,i,G,⟨g1,g2⟩,⟨g3,g4⟩,V,g6⟩:=hq;have ad:=V.blk;refine⟨_,_,_,_,_,ad,⟨_,_,_,rfl⟩,?_,sX V.out,by rw[g1.block _ (by omega)];exact aj,by omega,fun X B aa=>?_⟩
  ·rcases V.tape with ⟨_,x,c,e⟩|⟨g,o,c,e,_⟩<;>exact⟨_,_,_,e⟩
  ·have u:Below w.heap.size w W:=t.trans (g1.mono t.size);have hS:=V.kept (G:=fun k=>G k\/(k∈aP false b z j i/\k≠b)) (fun _ h=>Y4 h) (fun k a hn=>Y3 ⟨a,hn⟩)
   have H:∀k,(G k\/(k∈aP false b z j i/\k≠b))->k≠w.heap.size+1/\k<W.heap.size:=fun k a=>by
    rcases a with l|⟨l,_⟩
    ·refine⟨?_,(V.apart k l).1⟩;rcases g4.new k l with h3|h3
     ·have:=hF k h3;omega
     ·omega
    ·have:=g6 k l;exact⟨by omega,V.lt k l⟩
   refine⟨⟨B.os.trans u.os,B.tape.trans u.tape,B.output.trans u.output,by rw[aa];exact u.size,fun k a=>?_⟩,fun k=>G k\/(k∈aP false b z j i/\k≠b),⟨fun k a=>Y4 (g4.sub k a),fun k a=>?_⟩,fun k a=>by rw[aa];exact(H k a).2,hS.keep (fun k a=>B.block k (H k a).2 (by simpa using (H k a).1)) eD⟩
   ·rw[B.block k (Y7 a u.size) (by simp;omega),u.block k a]
   ·rcases a with l|⟨l,_⟩
    ·rcases g4.new k l with h3|h3
     ·exact Y4 h3
     ·exact Y3 (by omega)
    ·exact Y3 (by have:=g6 k l;omega)
end Go.Proofs.YtddnpoiiimjpcaaGreatDoor
