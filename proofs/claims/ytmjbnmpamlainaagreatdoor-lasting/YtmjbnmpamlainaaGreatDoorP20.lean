/- Contracts of the program: a session keeps a state: the walk. -/
import Derived.Test.YtmjbnmpamlainaaGreatDoorP19
import Derived.Test.YtmjbnmpamlainaaGreatDoorP18
set_option linter.defProp false
set_option maxRecDepth 100000
set_option maxHeartbeats 4000000
namespace Go.Proofs.YtmjbnmpamlainaaGreatDoor
open Hs
open _root_.Go.Proofs.Tryz
open Go.RowKit
def UX(w:aG)(sb:Nat)(a:Nat)(e:Int)(j h c:Option Addr)(i k d c1 f g:Nat)(P:World->Prop)(t:a%20=0)(u:a<=1000000)
 (q:Hid (∀m,Below w.heap.size w m->Calls prog 52 #[.pointer (some (aH sb 5)),Iv0 a,.agg #[Iv0 a,.slice j i c1,.slice h k f,.slice c d g,Iv0 e]] m fun b w'=>b=aZ (.tuple #[])/\P w')):
 Calls prog 26 #[bH sb,.agg #[Iv0 a,.slice j i c1,.slice h k f,.slice c d g,Iv0 e]] w fun b w'=>b=aZ (.tuple #[])/\P w':=by
 have o:(a:Int)%20=0:=by omega
 have p:(a:Int).tmod 20=0:=by rw[Int.tmod_eq_emod_of_nonneg (by omega)];exact o
 go_in
 go_wp2_with fail;refine(nV a e j h c i k d c1 f g _).mono ?_;rintro b r ⟨rfl,rfl⟩;go_wp2_with fail;go_region_law (go_simp;first|(go_at_call 18;refine(nV a e j h c i k d c1 f g _).mono ?_;rintro b v ⟨rfl,rfl⟩)|(go_at_call 52;refine(q _ ((((co_ _ w).alloc cL _).alloc (by simp) _).alloc (by simp;omega) _).drew).mono ?_;rintro b s ⟨rfl,l⟩;have n:=aB l;clear l))
 all_goals
  go_wp2
  go_end0;exact⟨rfl,n⟩
def C2(w:aG)(sb:Nat)(a:Nat)(e:Int)(j h b:Option Addr)(i k c c1 d f:Nat)(o:a%20≠0)(p:a<=1000000):
 Calls prog 26 #[bH sb,.agg #[Iv0 a,.slice j i c1,.slice h k d,.slice b c f,Iv0 e]] w fun g w'=>g=aZ (.tuple #[])/\Below w.heap.size w w':=by
 have l:¬(a:Int)%20=0:=by omega
 have m:¬(a:Int).tmod 20=0:=by rw[Int.tmod_eq_emod_of_nonneg (by omega)];exact l
 go_in
 go_wp2_with fail;refine(nV a e j h b i k c c1 d f _).mono ?_;rintro g n ⟨rfl,rfl⟩;go_wp2
 go_end0;exact⟨rfl,((co_ _ w).alloc cL _).alloc (by simp) _⟩
def NL(l m:List Ent):kB (l++m)=kB l++kB m:=by
 induction l with
 |nil=>rfl
 |cons x l a=>simp[kB,a]
def NK(l:List Ent):(kB l).length=l.length*6:=by
 induction l with
 |nil=>rfl
 |cons x l a=>simp[kB,a,Ent.cells];omega
def LD:∀(l:List Ent) (i j:Nat) (h:i<l.length),j<6->(kB l)[i*6+j]?=(l[i].cells)[j]?
 |x::l,0,j,h,a=>by
  simp only[kB,Nat.zero_mul,c8_,dL_];rw[cX_ (by simpa [Ent.cells] using a)]
 |x::l,i+1,j,h,a=>by
  have:=LD l i j (by simpa using h) a
  simp only[kB,List.getElem_cons_succ];rw[cN_ (by simp[Ent.cells];omega),<-this]
  congr 1
  simp[Ent.cells];omega
def LC:∀(l:List Ent) (i:Nat) (x:Ent) (h:i<l.length),x.k=l[i].k->kB (l.set i x)=(((((kB l).set (i*6+1) (Iv0 x.a)).set (i*6+2) x.b).set (i*6+3) x.c).set (i*6+4) x.d).set (i*6+5) (Iv0 x.e)
 |y::l,0,x,h,a=>by
  simp only[dL_] at a;simp[kB,Ent.cells,a]
 |y::l,i+1,x,h,a=>by
  have b:=LC l i x (by simpa using h) (by simpa using a)
  have e:∀j,(i+1)*6+j=i*6+j+6:=fun j=>by omega
  simp only[dS_,kB,e,Ent.cells,cP_,dk_];rw[b]
def P7(fp:eQ)(F:bX)(w:aG)(st:Nat->Option bC)(i:Nat)(x:Ent):Prop:=
 x.k=((20*i:Nat):Int)/\∃s,st (20*i)=some s/\jT fp F w (.agg #[Iv0 x.a,x.b,x.c,x.d,Iv0 x.e]) s
def P7.keep{fp:eQ}{F G:bX}{w w':aG}{a:Nat->Option bC}{i:Nat}{x:Ent}(h:P7 fp F w a i x)(c:∀b,F b->w'.heap[b]?=w.heap[b]?)(g:∀b,F b->G b):P7 fp G w' a i x:=by
 obtain⟨e,s,d,f⟩:=h;exact⟨e,s,d,f.keep c g⟩
def P7.ok{fp:eQ}{F:bX}{w:aG}{g:Nat->Option bC}{i:Nat}{x:Ent}(h:P7 fp F w g i x):x.Ok:=by
 obtain⟨_,s,_,f⟩:=h;obtain⟨n,l,m,e,d,j,k⟩:=f.form;simp only[Value.agg.injEq] at e;have b:=congrArg (fun z=>z[1]?) e
 have a:=congrArg (fun z=>z[2]?) e
 have c:=congrArg (fun z=>z[3]?) e
 simp at b a c;subst b a c;exact⟨d,j,k⟩
structure kL(fp:eQ)(F:bX)(w:aG)(sb mb:Nat)(mo:Obj)(st:Nat->Option bC)(s:bC)(n:Nat):Prop where
 blk:∃fv tv ov ev es,w.heap[sb]?=some (.cells #[Iv0 s.time,fv,tv,ov,Iv0 s.stop,ev,.map (some mb)] 57 (0,0))/\jT fp F w (.agg #[Iv0 s.time,fv,tv,ov,Iv0 s.stop]) s/\
  w.ownsRow (sb+1) 115 6 ev n (kB es)/\es.length=n/\(∀i (h:i<es.length),P7 fp F w st i es[i])/\(∀k,F k->ev.ownBlock≠some k)/\ev.ownBlock≠some mb
 now:st s.time=some s
 fix:∀k,F k->k<w.heap.size/\k≠sb/\k≠mb
 map:w.heap[mb]?=some mo/\mb≠sb
def nC(sb:Nat)(w:aG):Option Nat:=match w.heap[sb]? with|some (.cells c _ _)=>(c[5]?).bind Value.ownBlock|_=>none
def oS{sb:Nat}{w w':aG}(h:w'.heap[sb]?=w.heap[sb]?):nC sb w'=nC sb w:=by unfold nC;rw[h]
def nH{sb:Nat}{w:aG}{c:Array Value}{T:TypeId}{z:Nat × Nat}{v:aQ}(h:w.heap[sb]?=some (.cells c T z))(a:c[5]?=some v):nC sb w=v.ownBlock:=by unfold nC;rw[h];simp[a]
structure FS(sb:Nat)(w w':aG):Prop where
 os:w'.os=w.os
 tape:w'.tape=w.tape
 output:w'.output=w.output
 size:w.heap.size<=w'.heap.size
 blk:∀k,k<w.heap.size->k≠sb->nC sb w≠some k->w'.heap[k]?=w.heap[k]?
 row:∀k,nC sb w'=some k->nC sb w=some k\/w.heap.size<=k
def FS.trans{sb:Nat}{a b c:aG}(h:FS sb a b)(k:FS sb b c):FS sb a c:=by
 refine⟨k.os.trans h.os,k.tape.trans h.tape,k.output.trans h.output,cw_ h.size k.size,fun i f j g=>?_,fun i f=>?_⟩
 ·rw[k.blk i (cn_ f h.size) j (fun e=>?_),h.blk i f j g]
  rcases h.row i e with d|d
  ·exact g d
  ·omega
 ·rcases k.row i f with d|d
  ·exact h.row i d
  ·exact ck_ (cw_ h.size d)
def FS.of_below{sb:Nat}{w w':aG}(h:Below w.heap.size w w')(b:sb<w.heap.size):FS sb w w':=
 ⟨h.os,h.tape,h.output,h.size,fun k a _ _=>h.block k a,fun k a=>cl_ (by rw[<-oS (h.block sb b)];exact a)⟩
section
variable {fp:eQ} {F G:bX} {w w':aG} {sb mb n:Nat} {mo:Obj} {st:Nat->Option bC} {s:bC}
def kL.lt(h:kL fp F w sb mb mo st s n):sb<w.heap.size:=by
 obtain⟨_,_,_,_,_,a,_⟩:=h.blk;exact aC a
def kL.row(h:kL fp F w sb mb mo st s n):∀k,nC sb w=some k->sb<k/\k<w.heap.size/\¬F k/\k≠mb:=by
 obtain⟨_,_,_,i,_,c,_,f,_,_,b,d⟩:=h.blk;intro k a;rw[nH c rfl] at a;have:=f.lt k a;exact⟨by omega,this.2,fun g=>b k g a,fun e=>d (by rw[<-e];exact a)⟩
def kL.grow(h:kL fp F w sb mb mo st s n)(d:Below w.heap.size w w')(l:∀k,F k->G k)(o:∀k,G k->F k\/(w.heap.size<=k/\k<w'.heap.size)):kL fp G w' sb mb mo st s n:=by
 have f:=h.lt;obtain⟨C,r,z,q,y,u,p,m,t,x,B,v⟩:=h.blk;have j:∀b,F b->w'.heap[b]?=w.heap[b]?:=fun b g=>d.block b (h.fix b g).1
 refine⟨⟨C,r,z,q,y,by rw[d.block _ f];exact u,p.keep j l,iN m d,t,fun i A=>(x i A).keep j l,fun k a=>?_,v⟩,h.now,fun k a=>?_,by rw[d.block _ (aC h.map.1)];exact h.map⟩
 ·rcases o k a with c|c
  ·exact B k c
  ·intro e;have:=(m.lt k e).2;omega
 ·rcases o k a with c|c
  ·have:=h.fix k c;exact⟨cn_ this.1 d.size,this.2⟩
  ·have:=aC h.map.1;exact⟨c.2,by omega,by omega⟩
def NR{es:List Ent}{base g b:Nat}(h:w.ownsRow base 115 6 (.slice (some (aH g 0)) es.length b) es.length (kB es))(a:∀i (h:i<es.length),es[i].Ok):p8 w g es:=fun i d=>by
 have c:∀j u,j<6->(es[i].cells)[j]?=some u->w.cell? (aH g (i*6+j))=some u:=fun j u e f=>by
  have:=h.cells (g:=g) rfl (i*6+j) u (by rw[LD es i j d e];exact f)
  rw[oZ] at this;exact this
 exact⟨a i d,c 0 _ (by omega) rfl,c 1 _ (by omega) rfl,c 2 _ (by omega) rfl,c 3 _ (by omega) rfl,c 4 _ (by omega) rfl,c 5 _ (by omega) rfl⟩
def YV{es:List Ent}{base g f i:Nat}{W:aG}{a e:Int}{b c d:aQ}(h:w.ownsRow base 115 6 (.slice (some (aH g 0)) es.length f) es.length (kB es))(hi:i<es.length)
 (o:W.heap=(((((w.setCell (aH g (i*6+1)) (Iv0 a)).setCell (aH g (i*6+2)) b).setCell (aH g (i*6+3)) c).setCell (aH g (i*6+4)) d).setCell (aH g (i*6+5)) (Iv0 e)).heap):
 W.ownsRow base 115 6 (.slice (some (aH g 0)) es.length f) es.length (kB (es.set i ⟨es[i].k,a,b,c,d,e⟩)):=by
 rcases h.2 with ⟨j,_⟩|⟨t,k,r,j,s,l,n,q,m,p⟩
 ·cases j
 cases j;refine⟨by simp[NK],ck_ ⟨g,f,_,rfl,s,by rw[o];exact aK (aK (aK (aK (aK l)))),n,q,by simpa using m,?_⟩⟩
 rw[LC es i ⟨es[i].k,a,b,c,d,e⟩ hi rfl,<-p];simp only[dr_,dY_]
end
structure bP_(n:Nat)(key:Int)(at_:Nat)(fd:Bool):Prop where
 le:at_<=n
 lo:∀i,i<at_->((20*i:Nat):Int)<key
 hi:∀i,i<n->at_<=i->key<=((20*i:Nat):Int)
 fnd:fd=true↔at_<n/\((20*at_:Nat):Int)=key
section
variable {fp:eQ} {F G:bX} {w w':aG} {sb mb n:Nat} {mo:Obj} {st:Nat->Option bC} {s:bC}
def tC(h:kL fp F w sb mb mo st s n)(b:Int)(P:n<=1000):
 Calls prog 53 #[.pointer (some (aH sb 5)),Iv0 b] w fun e w'=>∃(d:Nat) (v:Bool),e=aZ (.tuple #[Iv0 d,.bool v])/\Below w.heap.size w w'/\bP_ n b d v:=by
 obtain⟨S,K,O,C,p,E,J,z,D,x,Q,M⟩:=h.blk;have l:∀i (h:i<p.length),p[i].k=((20*i:Nat):Int):=fun i c=>(x i c).1
 have y:w.cell? (aH sb 5)=some C:=aA E rfl;subst D;rcases z.2 with ⟨r,H⟩|⟨g,o,G,r,H,A,L,N⟩
 ·subst r;refine(LF w sb none 0 0 b (fun a f w'=>a=0/\f=false/\w'=w) y ((VD b w).mono ?_)).mono ?_
  ·rintro e w' ⟨rfl,rfl⟩;exact⟨0,false,rfl,rfl,rfl,rfl⟩
  ·rintro e w' ⟨a,f,rfl,rfl,rfl,rfl⟩;exact⟨0,false,rfl,co_ _ _,cU_ _,fun i c=>by omega,fun i c _=>by omega,by simp;omega⟩
 ·subst r;refine(LF w sb (some (aH g 0)) p.length o b (fun a f w'=>∃d:Nat,a=d/\Below w.heap.size w w'/\Found p b d f) y ((VE g o p b w (by omega) (aC A) (NR z fun i c=>(x i c).ok) (fun i j c I B=>by rw[l i c,l j I];omega)).mono ?_)).mono ?_
  ·rintro e w' ⟨a,f,rfl,t,k⟩;exact⟨_,f,rfl,a,rfl,t,k⟩
  ·rintro e w' ⟨_,f,rfl,a,rfl,t,k⟩;refine⟨a,f,rfl,t,k.le,fun i c=>?_,fun i c u=>?_,?_⟩
   ·have:=k.lo i (by have:=k.le;omega) c
    rw[l i (by have:=k.le;omega)] at this;exact this
   ·have:=k.hi i c u;rw[l i c] at this;exact this
   ·rw[k.fnd];constructor
    ·rintro⟨m,q⟩;rw[l _ m] at q;exact⟨m,q⟩
    ·rintro⟨m,q⟩;exact⟨m,by rw[l _ m];exact q⟩
def KY(W:aG)(g a b c d e:Nat)(u v x y z:aQ)(k:Nat)(f:k≠g):(((((W.setCell (aH g a) u).setCell (aH g b) v).setCell (aH g c) x).setCell (aH g d) y).setCell (aH g e) z).heap[k]?=W.heap[k]?:=by
 rw[cm_ _ _ _ _ f,cm_ _ _ _ _ f,cm_ _ _ _ _ f,cm_ _ _ _ _ f,cm_ _ _ _ _ f]
def YT(W:aG)(p q r t o:Addr)(u v x y z:aQ):(((((W.setCell p u).setCell q v).setCell r x).setCell t y).setCell o z).os=W.os/\(((((W.setCell p u).setCell q v).setCell r x).setCell t y).setCell o z).tape=W.tape/\(((((W.setCell p u).setCell q v).setCell r x).setCell t y).setCell o z).output=W.output/\(((((W.setCell p u).setCell q v).setCell r x).setCell t y).setCell o z).heap.size=W.heap.size:=by
 have a:∀(W:aG) (p:Addr) (u:aQ),(W.setCell p u).os=W.os/\(W.setCell p u).tape=W.tape/\(W.setCell p u).output=W.output/\(W.setCell p u).heap.size=W.heap.size:=fun W p u=>⟨rfl,rfl,rfl,by simp⟩
 simp[a]
def K8(h:kL fp F w sb mb mo st s n)(v:aQ)(b:bC)(hv:jT fp F w v b)(hs:st b.time=some b)(hm:b.time%20=0)(hq:b.time/20<n)(hn:n<=1000)(ht:b.time<=1000000):
 Calls prog 52 #[.pointer (some (aH sb 5)),Iv0 b.time,v] w fun e w'=>e=aZ (.tuple #[])/\FS sb w w'/\kL fp F w' sb mb mo st s n:=by
 obtain⟨f',t',o',rfl,⟨K,D,B,rfl⟩,⟨y,E,x,rfl⟩,⟨G,H,C,rfl⟩⟩:=hv.form;obtain⟨fv,tv,ov,ev,t,X,h2,Y,h4,Z,h6,h7⟩:=h.blk;subst h4;have I:=Y;rcases Y.2 with ⟨r1,r2⟩|⟨g,M,p,r1,r2,r3,r4,r5,r6,r7⟩
 ·omega
 subst r1;obtain⟨q,l⟩:∃q,q=w.alloc (.cells #[Iv0 b.time,.slice K D B,.slice y E x,.slice G H C,Iv0 b.stop] 49):=⟨_,rfl⟩;have N:Below w.heap.size w q:=by rw[l];exact(co_ _ _).alloc cL _
 have P:q.heap[w.heap.size]?=some (.cells #[Iv0 b.time,.slice K D B,.slice y E x,.slice G H C,Iv0 b.stop] 49 (0,0)):=by rw[l];exact aO _ _ rfl _
 have aa:q.heap.size=w.heap.size+1:=by rw[l];simp
 refine(EV w sb g t.length M (b.time/20) b.time b.time b.stop K y G D E H B x C (fun w'=>FS sb w w'/\kL fp F w' sb mb mo st s t.length) (fun W=>Below q.heap.size q W) hq ?_ (fun W hW=>?_))
 ·show Calls _ _ _ _ _
  rw[<-l];refine(tC (h.grow N dX (fun _ h=>cl_ h)) b.time hn).mono ?_
  rintro e w' ⟨a,fd,rfl,hb,T⟩
  have e1:a=b.time/20:=by
   refine dP_ ?_ ?_
   ·cases a with
    |zero=>omega
    |succ a=>have:=T.lo a (by omega);omega
   ·rcases cR_ a (b.time/20) with h8|h8
    ·have:=T.hi a (by omega) cL;omega
    ·exact h8
  have e2:fd=true:=T.fnd.2 ⟨by omega,by omega⟩
  exact⟨by rw[e1,e2],hb⟩
 ·have c:Below w.heap.size w W:=N.trans (hW.mono (by omega))
  have m:=h.lt;have S:=h.grow c dX (fun _ h=>cl_ h)
  have Q:=aC r3;have L:W.heap[g]?=some (.cells p 115 (0,0)):=by rw[c.block _ Q];exact r3
  have U:b.time/20*6+5<p.size:=by rw[r6];have:=Nat.mul_le_mul_right 6 r4;omega
  refine⟨S.lt,aA (by rw[c.block _ m];exact X) rfl,aC L,⟨p,L,U⟩,by rw[hW.block _ (by omega)];exact P,fun V r=>?_⟩
  have o:g≠sb:=by have:=(I.lt g rfl).1;omega
  have j:∀k,k≠g->V.heap[k]?=W.heap[k]?:=fun k j=>by rw[r.heap];exact KY W g _ _ _ _ _ _ _ _ _ _ k j
  have J:nC sb W=some g:=nH (by rw[c.block _ m];exact X) rfl
  have A:∀k,F k->k≠g:=fun k j e=>h6 k j (by rw[e];rfl)
  have O:FS sb W V:=by
   obtain⟨a1,a2,a3,a4⟩:=YT W (aH g (b.time/20*6+1)) (aH g (b.time/20*6+2)) (aH g (b.time/20*6+3)) (aH g (b.time/20*6+4)) (aH g (b.time/20*6+5)) (Iv0 b.time) (.slice K D B) (.slice y E x) (.slice G H C) (Iv0 b.stop);refine⟨r.os.trans a1,r.tape.trans a2,r.output.trans a3,by rw[r.heap,a4];exact cy_ _,fun k d hc hr=>j k fun e=>hr (by rw[e];exact J),fun k d=>cl_ ?_⟩
   rw[<-oS (j sb (fun e=>o e.symm))];exact d
  refine⟨(FS.of_below c m).trans O,⟨fv,tv,ov,.slice (some (aH g 0)) t.length M,t.set (b.time/20) ⟨t[b.time/20].k,b.time,.slice K D B,.slice y E x,.slice G H C,b.stop⟩,?_,?_,?_,by simp,fun i hi=>?_,h6,h7⟩,h.now,fun k d=>?_,?_⟩
  ·rw[j sb (fun e=>o e.symm),c.block _ m];exact X
  ·exact h2.keep (fun k d=>by rw[j k (A k d),c.block k (h.fix k d).1]) dX
  ·exact YV (iN I c) hq r.heap
  ·have u:i<t.length:=by simpa using hi
   have f:∀k,F k->V.heap[k]?=w.heap[k]?:=fun k d=>by rw[j k (A k d),c.block k (h.fix k d).1]
   by_cases z:i=b.time/20
   ·subst z;rw[List.getElem_set_self];refine⟨(Z _ u).1,b,?_,hv.keep f dX⟩;rw[show 20*(b.time/20)=b.time by omega];exact hs
   ·rw[List.getElem_set_ne (fun e=>z e.symm)]
    exact(Z i u).keep f dX
  ·have:=h.fix k d;exact⟨by rw[r.heap];simpa using cn_ this.1 c.size,this.2⟩
  ·refine⟨?_,h.map.2⟩;rw[j mb (fun e=>h7 (by rw[e];rfl)),c.block _ (aC h.map.1)];exact h.map.1
end
section
variable {fp:eQ} {F G:bX} {w w':aG} {sb mb n:Nat} {mo:Obj} {st:Nat->Option bC} {s:bC}
def U5{es:List Ent}{base g f i m:Nat}{W:aG}{k0 a e:Int}{b c d:aQ}(j:es.length=m)(h:w.ownsRow base 115 6 (.slice (some (aH g 0)) m f) m (kB es))(hi:i<es.length)(k:es[i].k=k0)
 (l:W.heap=(((((w.setCell (aH g (i*6+1)) (Iv0 a)).setCell (aH g (i*6+2)) b).setCell (aH g (i*6+3)) c).setCell (aH g (i*6+4)) d).setCell (aH g (i*6+5)) (Iv0 e)).heap):
 W.ownsRow base 115 6 (.slice (some (aH g 0)) m f) m (kB (es.set i ⟨k0,a,b,c,d,e⟩)):=by
 subst j k;exact YV h hi l
def K7(h:kL fp F w sb mb mo st s n)(v:aQ)(f:bC)(hv:jT fp F w v f)(hs:st f.time=some f)(hm:f.time%20=0)(hq:f.time/20=n)(hn:n<=1000):
 Calls prog 52 #[.pointer (some (aH sb 5)),Iv0 f.time,v] w fun e w'=>e=aZ (.tuple #[])/\FS sb w w'/\kL fp F w' sb mb mo st s (n+1):=by
 obtain⟨f',t',o',rfl,⟨Y,T,P,rfl⟩,⟨O,U,N,rfl⟩,⟨V,X,Q,rfl⟩⟩:=hv.form;obtain⟨fv,tv,ov,ev,S,h1,h2,h3,h4,h5,h6,h7⟩:=h.blk;have I:=h.lt;have ae:=h3;obtain⟨x,c,rfl⟩:=dE h3;obtain⟨y,B⟩:∃y,y=w.alloc (.cells #[Iv0 f.time,.slice Y T P,.slice O U N,.slice V X Q,Iv0 f.stop] 49):=⟨_,rfl⟩;have C:Below w.heap.size w y:=by rw[B];exact(co_ _ _).alloc cL _
 have ai:y.heap[w.heap.size]?=some (.cells #[Iv0 f.time,.slice Y T P,.slice O U N,.slice V X Q,Iv0 f.stop] 49 (0,0)):=by rw[B];exact aO _ _ rfl _
 have av:y.heap.size=w.heap.size+1:=by rw[B];simp
 have H:∀k,(Value.slice x n c).ownBlock=some k->sb<k/\k<w.heap.size:=fun k j=>by have:=ae.lt k j;exact⟨by omega,this.2⟩
 refine(NE w sb n x c f.time f.time f.stop Y O V T U X P N Q (fun w'=>FS sb w w'/\kL fp F w' sb mb mo st s (n+1)) (fun W=>Below y.heap.size y W)
  (fun g l W=>(∀k,k<y.heap.size->some k≠(Value.slice x n c).ownBlock->W.heap[k]?=y.heap[k]?)/\W.os=w.os/\W.tape=w.tape/\W.output=w.output/\y.heap.size<=W.heap.size/\((Value.slice x n c).ownBlock=some g\/y.heap.size<=g)/\W.ownsRow (sb+1) 115 6 (.slice (some (aH g 0)) (n+1) l) (n+1) (kB S++[Iv0 f.time,Iv0 0,bF,bF,bF,Iv0 0])) (by omega) ?_ (fun W hW=>?_) (fun g l W hW=>?_))
 ·show Calls _ _ _ _ _
  rw[<-B];refine(tC (h.grow C dX (fun _ h=>cl_ h)) f.time hn).mono ?_
  rintro e w' ⟨a,fd,rfl,hb,hf⟩
  have e1:a=n:=by
   refine dP_ hf.le ?_;rcases cR_ a n with m|m
   ·have:=hf.hi a m cL;omega
   ·exact m
  have e2:fd=false:=by
   cases fd with
   |false=>rfl
   |true=>have:=(hf.fnd.1 rfl).1;omega
  exact⟨by rw[e1,e2],hb⟩
 ·have o:Below w.heap.size w W:=C.trans (hW.mono (by omega))
  have ao:=iN ae o;refine⟨cn_ I o.size,aA (by rw[o.block _ I];exact h1) rfl,?_⟩
  refine(WZ _ (sb+1) W.heap.size n (.slice x n c) (kB S) f.time (ao.alloc _) (aO _ _ rfl _) (by omega) (by have:=o.size;simp;omega)).mono ?_
  rintro e w' ⟨g,l,rfl,q1,q2,q3⟩;have aw:=hW.size;have aq:=q2.size;simp only[World.size_alloc] at aq;refine⟨g,l,rfl,fun k j q=>?_,?_,?_,?_,by omega,?_,q1⟩
  ·rw[q2.block k (by simp;omega) q,cq_ _ _ _ (by omega),hW.block k j]
  ·exact q2.os.trans o.os
  ·exact q2.tape.trans o.tape
  ·exact q2.output.trans o.output
  ·rcases q3 with q3|q3
   ·exact cl_ q3
   ·exact ck_ (by rw[q3];simp;omega)
 ·obtain⟨b1,b2,b3,b4,b5,b6,b7⟩:=hW;have ap:=b7;have t:g≠sb:=by have:=(b7.lt g rfl).1;omega
  have aj:g≠w.heap.size:=by
   rcases b6 with m|m
   ·have:=H g m;omega
   ·omega
  rcases b7.2 with ⟨r1,_⟩|⟨g',ar,aa,r1,r2,r3,r4,r5,r6,r7⟩
  ·cases r1
  cases r1
  have u:W.heap[sb]?=some (.cells #[Iv0 s.time,fv,tv,ov,Iv0 s.stop,.slice x n c,.map (some mb)] 57 (0,0)):=by
   rw[b1 sb (by omega) (fun e=>by have:=H sb e.symm;omega),C.block _ I];exact h1
  have am:n*6+5<aa.size:=by rw[r6];omega
  refine⟨by omega,t,aj,by omega,⟨_,aA u rfl⟩,aD u,aC r3,⟨aa,r3,am⟩,by rw[b1 _ (by omega) (fun e=>by have:=H _ e.symm;omega)];exact ai,fun Z M=>?_⟩
  generalize K:W.setCell (aH sb 5) (.slice (some (aH g 0)) (n+1) l)=A at M;have ag:∀k,k≠sb->A.heap[k]?=W.heap[k]?:=fun k j=>by rw[<-K];exact cm_ _ _ _ _ j
  have ad:A.heap[sb]?=some (.cells #[Iv0 s.time,fv,tv,ov,Iv0 s.stop,.slice (some (aH g 0)) (n+1) l,.map (some mb)] 57 (0,0)):=by rw[<-K];exact aK u
  have p:A.os=W.os/\A.tape=W.tape/\A.output=W.output/\A.heap.size=W.heap.size:=by rw[<-K];exact⟨rfl,rfl,rfl,by simp⟩
  have ac:∀k,k≠g->Z.heap[k]?=A.heap[k]?:=fun k j=>by rw[M.heap];exact KY A g _ _ _ _ _ _ _ _ _ _ k j
  obtain⟨a1,a2,a3,a4⟩:=YT A (aH g (n*6+1)) (aH g (n*6+2)) (aH g (n*6+3)) (aH g (n*6+4)) (aH g (n*6+5)) (Iv0 f.time) (.slice Y T P) (.slice O U N) (.slice V X Q) (Iv0 f.stop);have ab:Z.heap.size=W.heap.size:=by rw[M.heap,a4,p.2.2.2]
  have E:∀k,k<w.heap.size->k≠sb->some k≠(Value.slice x n c).ownBlock->Z.heap[k]?=w.heap[k]?:=fun k j q hr=>by
   have ak:k≠g:=fun e=>by
    rcases b6 with m|m
    ·exact hr (by rw[e];exact m.symm)
    ·omega
   rw[ac k ak,ag k q,b1 k (by omega) hr,C.block k j]
  have G:∀k,F k->Z.heap[k]?=w.heap[k]?:=fun k j=>E k (h.fix k j).1 (h.fix k j).2.1 fun e=>h6 k j e.symm
  have an:=aC h.map.1;have r:nC sb w=(Value.slice x n c).ownBlock:=nH h1 rfl;have D:Z.heap[sb]?=some (.cells #[Iv0 s.time,fv,tv,ov,Iv0 s.stop,.slice (some (aH g 0)) (n+1) l,.map (some mb)] 57 (0,0)):=by rw[ac sb (fun e=>t e.symm)];exact ad
  obtain⟨z,hz⟩:∃z:Ent,z=⟨f.time,0,bF,bF,bF,0⟩:=⟨_,rfl⟩
  have J:A.ownsRow (sb+1) 115 6 (.slice (some (aH g 0)) (n+1) l) (n+1) (kB (S++[z])):=by
   rw[NL,hz];exact aW ap fun k e=>ag k (by cases e;exact t)
  have L:(S++[z]).length=n+1:=by simp[h4]
  have al:(S++[z])[n]'(by rw[L];omega)=z:=by rw[dD_ (by omega)];simp
  have af:=U5 (W:=Z) (i:=n) (k0:=f.time) (a:=f.time) (b:=.slice Y T P) (c:=.slice O U N) (d:=.slice V X Q) (e:=f.stop) L J (by rw[L];omega) (by rw[al,hz]) M.heap
  refine⟨⟨M.os.trans (a1.trans (p.1.trans b2)),M.tape.trans (a2.trans (p.2.1.trans b3)),M.output.trans (a3.trans (p.2.2.1.trans b4)),by rw[ab];omega,fun k j q hr=>E k j q (fun e=>hr (by rw[r];exact e.symm)),fun k j=>?_⟩,⟨fv,tv,ov,.slice (some (aH g 0)) (n+1) l,(S++[z]).set n ⟨f.time,f.time,.slice Y T P,.slice O U N,.slice V X Q,f.stop⟩,D,h2.keep G dX,?_,by simp[h4],fun i hi=>?_,fun k j e=>?_,fun e=>?_⟩,h.now,fun k j=>?_,?_⟩
  ·rw[nH D rfl] at j;cases j;rcases b6 with m|m
   ·exact cl_ (by rw[r];exact m)
   ·exact ck_ (by show w.heap.size<=g;omega)
  ·exact af
  ·have au:i<n+1:=by simpa [h4] using hi
   by_cases ah:i=n
   ·subst ah;rw[List.getElem_set_self];refine⟨by show (f.time:Int)=_;omega,f,?_,hv.keep G dX⟩
    rw[show 20*i=f.time by omega];exact hs
   ·rw[List.getElem_set_ne (fun e=>ah e.symm),dH_ (by omega)]
    exact(h5 i (by omega)).keep G dX
  ·have e':g=k:=by simpa [Value.ownBlock] using e
   rcases b6 with m|m
   ·exact h6 k j (by rw[<-e'];exact m)
   ·have:=(h.fix _ j).1;omega
  ·have e':g=mb:=by simpa [Value.ownBlock] using e
   rcases b6 with m|m
   ·exact h7 (by rw[<-e'];exact m)
   ·omega
  ·have:=h.fix k j;exact⟨by rw[ab];omega,this.2⟩
  ·exact⟨by rw[E mb an h.map.2 (fun e=>h7 e.symm)];exact h.map.1,h.map.2⟩
def KI(h:kL fp F w sb mb mo st s n)(v:aQ)(a:bC)(z:jT fp F w v a)(u:st a.time=some a)(D:a.time%20=0->a.time/20<=n)(y:n<=1000)(i:a.time<=1000000):
 Calls prog 26 #[bH sb,v] w fun e w'=>e=aZ (.tuple #[])/\FS sb w w'/\kL fp F w' sb mb mo st s (if a.time%20=0/\a.time/20=n then n+1 else n):=by
 obtain⟨H,G,I,rfl,⟨B,A,q,rfl⟩,⟨x,C,r,rfl⟩,⟨o,p,t,rfl⟩⟩:=z.form;by_cases b:a.time%20=0
 ·refine UX w sb a.time a.stop B x o A C p q r t _ b i fun W g=>?_
  have d:=h.grow g dX (fun _ h=>cl_ h)
  have c:=z.keep (fun k E=>g.block k (h.fix k E).1) dX
  rcases dd_ (D b) with e|e
  ·rw[if_pos ⟨b,e⟩];refine(K7 d _ a c u b e y).mono ?_;rintro e w' ⟨f,j,l⟩;exact⟨f,(FS.of_below g h.lt).trans j,l⟩
  ·rw[if_neg (by omega)]
   refine(K8 d _ a c u b e y i).mono ?_;rintro e w' ⟨f,j,l⟩;exact⟨f,(FS.of_below g h.lt).trans j,l⟩
 ·rw[if_neg (fun e=>b e.1)]
  refine(C2 w sb a.time a.stop B x o A C p q r t b i).mono ?_;rintro e w' ⟨f,m⟩;exact⟨f,FS.of_below m h.lt,h.grow m dX (fun _ h=>cl_ h)⟩
end
def uG:∀(l:List aM) (a v:aM),(cV l a v).2<=9
 |[],_,_=>by simp[cV]
 |i::l,a,v=>by
  unfold cV;have:=uG l (a.l.getD i.n.toNat bR) v;repeat' split
  all_goals first|(simp;done)|exact this
def zX{r:aM × Nat}(h:r.2<=9):(iQ r).2<=9:=by
 unfold iQ;split
 ·split
  ·simp
  ·exact h
 ·exact h
def A6(op:cD)(a b:aM):(eZ op a b).2<=9:=by
 unfold eZ kA jZ;repeat' split
 all_goals first|(simp;done)|(simp only[];split<;>simp)
def F5(op:cD)(a:aM):(fW op a).2<=9:=by
 unfold fW;repeat' split
 all_goals simp
def RP(a b:aM):(dL a b).2<=9:=by
 unfold dL;repeat' split
 all_goals simp
def NB(a:aM):(eK a).2<=9:=by
 unfold eK;repeat' split
 all_goals simp
def NJ(i:aI)(f:aJ):(aL i f).2<=9:=by
 cases i<;>simp only[aL]
 case assign k n=>
  have:=zX (uG (f.pop.many n) (f.vars[k]?.getD bR) f.last);split
  ·simp
  ·exact this
 case unary op=>
  have:=F5 (op++[120]) f.last;split
  ·simp
  ·exact this
 case binary op=>
  have:=A6 op f.pop.last f.last;split
  ·simp
  ·exact this
 case index=>
  have:=RP f.pop.last f.last;split
  ·simp
  ·exact this
 case list n=>
  have:=zX (r:=(bA (f.many n),0)) (by simp)
  split
  ·simp
  ·exact this
 case length=>
  have:=NB f.last;split
  ·simp
  ·exact this
 all_goals (repeat' split)<;>simp
def i6(b:List eU)(i:aI)(a:List aJ)(f:aJ)(t:List Int)(o:cN):(Hs.doI b i a f t o).2<=9:=by
 cases i<;>simp only[Hs.doI]<;>first|exact NJ _ _|skip
 case read=>cases t<;>simp
 case call=>split<;>simp
 case give=>simp
 case print=>split<;>simp
structure Rest(n:Nat)(m:cR):Prop where
 utf:gK m
 out:m.out.length<=50
 tape:m.tape.length<=n
def rG{a:List eU}(o:kK a){n:Nat}:∀(k:Nat) (m:cR) (r:cR × Nat),Rest n m->dQ a k m=some r->Rest n r.1/\r.2<=9
 |0,_,_,_,h=>by cases h
 |k+1,m,r,c,h=>by
  rw[dQ] at h;cases j:m.frames.getLast? with
  |none=>
   rw[j] at h;simp only[Option.some.injEq] at h;subst h;exact⟨c,by simp⟩
  |some f=>
   rw[j] at h;simp only at h;cases e:f.fetch with
   |none=>rw[e] at h;cases h
   |some q=>
    obtain⟨i,g⟩:=q;rw[e] at h;simp only at h
    have d:m.frames=m.frames.dropLast++[f]:=by
     obtain⟨t,s⟩:=List.getLast?_eq_some_iff.1 j;rw[s];simp
    have b:gK ⟨m.frames.dropLast++[f],m.tape,m.out⟩:=by
     have:=c.utf;unfold gK at this ⊢
     rw[<-d];exact this
    have l:Rest n (Hs.doI a i m.frames.dropLast g m.tape m.out).1:=⟨FX o b e,ZJ c.out,cw_ ST c.tape⟩;have p:=i6 a i m.frames.dropLast g m.tape m.out;split at h
    ·simp only[Option.some.injEq] at h;subst h;exact⟨l,p⟩
    ·split at h
     ·simp only[Option.some.injEq] at h;subst h;exact⟨l,p⟩
     ·exact rG o k _ _ l h
def KH{a:List eU}(d:kK a){n:Nat}{m0:cR}(g:Rest n m0):∀(t:Nat) (s:bC),fA a m0 t=some s->Rest n s.m/\s.stop<=9
 |0,s,h=>by
  rw[fA] at h;cases b:dQ a jP m0 with
  |none=>rw[b] at h;cases h
  |some r=>
   rw[b] at h;simp only[du_,Option.some.injEq] at h;subst h;obtain⟨c,i⟩:=rG d _ _ _ g b;exact⟨c,by simp only[bZ];split<;>omega⟩
 |t+1,s,h=>by
  rw[fA] at h;cases e:fA a m0 t with
  |none=>rw[e] at h;cases h
  |some f=>
   rw[e] at h;simp only at h;split at h
   ·cases b:dQ a jP f.m with
    |none=>rw[b] at h;cases h
    |some r=>
     rw[b] at h;simp only[du_,Option.some.injEq] at h;subst h;obtain⟨c,i⟩:=rG d _ _ _ (KH d g t f e).1 b;exact⟨c,by simp only[bZ];split<;>omega⟩
   ·cases h
end Go.Proofs.YtmjbnmpamlainaaGreatDoor
