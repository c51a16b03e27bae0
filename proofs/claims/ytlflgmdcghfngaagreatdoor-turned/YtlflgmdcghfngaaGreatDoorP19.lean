/- Contracts of the program: the state at a moment: the walk. -/
import Derived.Test.YtlflgmdcghfngaaGreatDoorP18
set_option linter.defProp false
set_option maxRecDepth 100000
set_option maxHeartbeats 4000000
namespace Go.Proofs.YtlflgmdcghfngaaGreatDoor
open Hs
open _root_.Go.Proofs.Tryz
open Go.RowKit
variable{sb:Nat}{w w':aG}
def NR:Array Value:= #[I_ 0,bG,bG,bG,I_ 0]
def cs_(w:aG)(sb K0:Nat)(g:Int)(I:Nat->Nat->SV->Bool->World->Prop)(R:SV->Bool->World->Prop)
 (Y:Hid (Calls prog 47 #[.pointer (some (aH sb 5)),I_ g] (w.alloc (.cells NR 53)) λe w'=>∃v ok,e=aX (.tuple #[SV.val v,.bool ok])/\I K0 w'.heap.size v ok (w'.alloc (.cells v.cells 53))))
 (C:Hid (∀gk b v ok W,I gk b v ok W->W.heap[b]?=some (.cells v.cells 53 (0,0))/\w.heap.size≠b/\W.heap[w.heap.size]?=some (.cells NR 53 (0,0))))
 (L:Hid (∀gk b v W,I gk b v true W->(v.t:Int)<g->∃j,gk=j+1/\Calls prog 48 #[aZ sb,v.val] (W.alloc (.cells v.cells 53)) λe w'=>∃D ok,e=aX (.tuple #[SV.val D,.bool ok])/\(∃c,w'.heap[b]?=some (.cells c 53 (0,0))/\c.size=5)/\I j b D ok (dW w' b D)))
 (N:Hid (∀gk b v W,I gk b v true W->g<=(v.t:Int)->R v true (dW (W.alloc (.cells v.cells 53)) w.heap.size v))) (o:Hid (∀gk b v W,I gk b v false W->R v false (dW W w.heap.size v))):
 Calls prog 24 #[aZ sb,I_ g] w λe w'=>∃v ok,e=aX (.tuple #[SV.val v,.bool ok])/\R v ok w':=by
 unfold NR at Y C;go_in
 go_wp2_with fail;refine Y.mono ?_;rintro e w1 ⟨v0,ae,rfl,h1⟩;have H1:=aB h1;unfold SV.cells at H1;unfold SV.val;clear h1 Y;go_wp2_with fail;go_loopg [7] K0 (λgk s7 wr=>∃v ok,s7=.bool ok/\I gk w1.heap.size v ok wr)
 case atStart=>exact⟨_,_,rfl,H1⟩
 case round=>
  obtain⟨v,ok,rfl,E⟩:=hrel;obtain⟨d,ab,h⟩:=C _ _ _ _ _ E;unfold SV.cells at d;have u:=aA (i:=0) d rfl;have y:=aA (i:=1) d rfl;have t:=aA (i:=2) d rfl;have x:=aA (i:=3) d rfl;have z:=aA (i:=4) d rfl;have B:=aC d;have lz:=aC h;cases ok
  ·have S:=aA (i:=0) h rfl;have X:=aA (i:=1) h rfl;have z2:=aA (i:=2) h rfl;have V:=aA (i:=3) h rfl;have P:=aA (i:=4) h rfl;have M:=aD (i:=0) h;have K:=aD (i:=1) h;have H:=aD (i:=2) h;have O:=aD (i:=3) h;have J:=aD (i:=4) h;have A:=aB (jV (W:=wr) (s:=v) h s_ rfl)
   have q:=aB (o _ _ _ _ E);unfold dW at A q;clear E C L N o d h;go_wp2_with fail;have l:=A;have m:=q;clear A q S X z2 V P M K H O J u y t x z;generalize ((((wr.setCell (aH w.heap.size 0) (I_ v.t)).setCell (aH w.heap.size 1) (.slice v.x1 v.n1 v.c1)).setCell (aH w.heap.size 2) (.slice v.x2 v.n2 v.c2)).setCell (aH w.heap.size 3) (.slice v.x3 v.n3 v.c3)).setCell (aH w.heap.size 4) (I_ v.q)=W3 at l m ⊢
   obtain⟨c0,T,Q,U,Z⟩:=l;exact bodyPost_ret (v:=.tuple #[v.val,.bool false]) (by simp[results,results24,go_sem,c0,T,Q,U,Z,SV.val]) rfl ⟨_,_,rfl,m⟩
  ·have HT:=aB (oC v.t v.q v.x1 v.x2 v.x3 v.n1 v.n2 v.n3 v.c1 v.c2 v.c3 wr);have p:=aB E;clear E;go_wp2_with fail;refine HT.mono ?_;rintro e G ⟨rfl,rfl⟩;clear HT;by_cases hv:(v.t:Int)<g
   ·obtain⟨j,rfl,hN⟩:=L _ _ _ _ p hv;have r:=aB hN;unfold SV.cells SV.val at r;clear hN;generalize n:wr.alloc (.cells #[I_ v.t,.slice v.x1 v.n1 v.c1,.slice v.x2 v.n2 v.c2,.slice v.x3 v.n3 v.c3,I_ v.q] 53)=G at r ⊢
    have a:G.heap[w1.heap.size]?=some (.cells #[I_ v.t,.slice v.x1 v.n1 v.c1,.slice v.x2 v.n2 v.c2,.slice v.x3 v.n3 v.c3,I_ v.q] 53 (0,0)):=by rw[<-n,ek _ _ _ B];exact d
    clear u y t x z;have u:=aA (i:=0) a rfl;have y:=aA (i:=1) a rfl;have t:=aA (i:=2) a rfl;have x:=aA (i:=3) a rfl;have z:=aA (i:=4) a rfl;have F:=aC a;clear d a n p C L N o h;go_wp2_with fail;refine r.mono ?_;rintro e w6 ⟨D,ok,rfl,⟨c,k,ac⟩,h6⟩;have H6:=aB h6;unfold dW at H6;clear r u y t x z h6;have u:=aA (i:=0) k (ez o_)
    have y:=aA (i:=1) k (ez o_)
    have t:=aA (i:=2) k (ez o_)
    have x:=aA (i:=3) k (ez o_)
    have z:=aA (i:=4) k (ez o_)
    have M:=aD (i:=0) k;have K:=aD (i:=1) k;have H:=aD (i:=2) k;have O:=aD (i:=3) k;have J:=aD (i:=4) k;have aa:=aC k;clear k;go_wp2
    go_roundg j
    case measure=>omega
    case rel=>exact⟨D,ok,rfl,H6⟩
   ·have q:=aB (N _ _ _ _ p o_)
    have f:(wr.alloc (.cells v.cells 53)).heap[w.heap.size]?=some (.cells #[I_ 0,bG,bG,bG,I_ 0] 53 (0,0)):=by rw[ek _ _ _ lz];exact h
    have a:(wr.alloc (.cells v.cells 53)).heap[w1.heap.size]?=some (.cells #[I_ v.t,.slice v.x1 v.n1 v.c1,.slice v.x2 v.n2 v.c2,.slice v.x3 v.n3 v.c3,I_ v.q] 53 (0,0)):=by rw[ek _ _ _ B];exact d
    unfold SV.cells at q f a;generalize n:wr.alloc (.cells #[I_ v.t,.slice v.x1 v.n1 v.c1,.slice v.x2 v.n2 v.c2,.slice v.x3 v.n3 v.c3,I_ v.q] 53)=G at q f a ⊢
    clear u y t x z;have u:=aA (i:=0) a rfl;have y:=aA (i:=1) a rfl;have t:=aA (i:=2) a rfl;have x:=aA (i:=3) a rfl;have z:=aA (i:=4) a rfl;have F:=aC a;have ad:=aC f;have S:=aA (i:=0) f rfl;have X:=aA (i:=1) f rfl;have z2:=aA (i:=2) f rfl;have V:=aA (i:=3) f rfl;have P:=aA (i:=4) f rfl;have M:=aD (i:=0) f;have K:=aD (i:=1) f;have H:=aD (i:=2) f;have O:=aD (i:=3) f;have J:=aD (i:=4) f;have A:=aB (jV (W:=G) (s:=v) f s_ rfl)
    unfold dW at A q;clear C L N o p d h f a n;go_wp2_with fail;have l:=A;have m:=q;clear A q S X z2 V P M K H O J u y t x z;generalize ((((G.setCell (aH w.heap.size 0) (I_ v.t)).setCell (aH w.heap.size 1) (.slice v.x1 v.n1 v.c1)).setCell (aH w.heap.size 2) (.slice v.x2 v.n2 v.c2)).setCell (aH w.heap.size 3) (.slice v.x3 v.n3 v.c3)).setCell (aH w.heap.size 4) (I_ v.q)=W3 at l m ⊢
    obtain⟨c0,T,Q,U,Z⟩:=l;exact bodyPost_ret (v:=.tuple #[v.val,.bool true]) (by simp[results,results24,go_sem,c0,T,Q,U,Z,SV.val]) rfl ⟨_,_,rfl,m⟩
def WZ(w:aG)(sb:Nat)(a:Nat)(e:Int)(j h c:Option Addr)(i k d c1 f g:Nat)(P:World->Prop)(t:a%20=0)(u:a<=1000000)
 (q:Hid (∀m,Below w.heap.size w m->Calls prog 64 #[.pointer (some (aH sb 5)),I_ a,.agg #[I_ a,.slice j i c1,.slice h k f,.slice c d g,I_ e]] m λb w'=>b=aX (.tuple #[])/\P w')):
 Calls prog 33 #[aZ sb,.agg #[I_ a,.slice j i c1,.slice h k f,.slice c d g,I_ e]] w λb w'=>b=aX (.tuple #[])/\P w':=by
 have o:(a:Int)%20=0:=o_
 have p:(a:Int).tmod 20=0:=by rw[Int.tmod_eq_emod_of_nonneg o_];exact o
 go_in
 go_wp2_with fail;refine(oC a e j h c i k d c1 f g _).mono ?_;rintro b r ⟨rfl,rfl⟩;go_wp2_with fail;go_region_law (go_simp;first|(go_at_call 43;refine(oC a e j h c i k d c1 f g _).mono ?_;rintro b v ⟨rfl,rfl⟩)|(go_at_call 64;refine(q _ ((((eh _ w).alloc cL _).alloc s_ _).alloc t_ _).drew).mono ?_;rintro b s ⟨rfl,l⟩;have n:=aB l;clear l))
 all_goals
  go_wp2
  go_end0;exact⟨rfl,n⟩
def L5(w:aG)(sb:Nat)(a:Nat)(e:Int)(j h b:Option Addr)(i k c c1 d f:Nat)(o:a%20≠0)(p:a<=1000000):
 Calls prog 33 #[aZ sb,.agg #[I_ a,.slice j i c1,.slice h k d,.slice b c f,I_ e]] w λg w'=>g=aX (.tuple #[])/\Below w.heap.size w w':=by
 have l:¬(a:Int)%20=0:=o_
 have m:¬(a:Int).tmod 20=0:=by rw[Int.tmod_eq_emod_of_nonneg o_];exact l
 go_in
 go_wp2_with fail;refine(oC a e j h b i k c c1 d f _).mono ?_;rintro g n ⟨rfl,rfl⟩;go_wp2
 go_end0;exact⟨rfl,((eh _ w).alloc cL _).alloc s_ _⟩
def OX(l m:List Ent):kA (l++m)=kA l++kA m:=by
 induction l with
 |nil=>rfl
 |cons x l a=>simp[kA,a]
def OW(l:List Ent):(kA l).length=l.length*6:=by
 induction l with
 |nil=>rfl
 |cons x l a=>simp[kA,a,Ent.cells];omega
def MI:∀(l:List Ent) (i j:Nat) (h:i<l.length),j<6->(kA l)[i*6+j]?=(l[i].cells)[j]?
 |x::l,0,j,h,a=>by
  simp only[kA,Nat.zero_mul,ge,kn];rw[hQ (by simpa [Ent.cells] using a)]
 |x::l,i+1,j,h,a=>by
  have:=MI l i j (by simpa using h) a
  simp only[kA,List.getElem_cons_succ];rw[gl (by simp[Ent.cells];omega),<-this]
  congr 1
  simp[Ent.cells];omega
def MH:∀(l:List Ent) (i:Nat) (x:Ent) (h:i<l.length),x.k=l[i].k->kA (l.set i x)=(((((kA l).set (i*6+1) (I_ x.a)).set (i*6+2) x.b).set (i*6+3) x.c).set (i*6+4) x.d).set (i*6+5) (I_ x.e)
 |y::l,0,x,h,a=>by
  simp only[kn] at a;simp[kA,Ent.cells,a]
 |y::l,i+1,x,h,a=>by
  have b:=MH l i x (by simpa using h) (by simpa using a)
  have e:∀j,(i+1)*6+j=i*6+j+6:=λj=>by omega
  simp only[ki,kA,e,Ent.cells,gb,ij];rw[b]
def Z5(fp:eK)(F:bY)(w:aG)(st:Nat->Option aW)(i:Nat)(x:Ent):Prop:=
 x.k=((20*i:Nat):Int)/\∃s,st (20*i)=some s/\jC fp F w (.agg #[I_ x.a,x.b,x.c,x.d,I_ x.e]) s
def Z5.keep{fp:eK}{F G:bY}{a:Nat->Option aW}{i:Nat}{x:Ent}(h:Z5 fp F w a i x)(c:∀b,F b->w'.heap[b]?=w.heap[b]?)(g:∀b,F b->G b):Z5 fp G w' a i x:=by
 obtain⟨e,s,d,f⟩:=h;exact⟨e,s,d,f.keep c g⟩
def Z5.ok{fp:eK}{F:bY}{g:Nat->Option aW}{i:Nat}{x:Ent}(h:Z5 fp F w g i x):x.Ok:=by
 obtain⟨_,s,_,f⟩:=h;obtain⟨n,l,m,e,d,j,k⟩:=f.form;simp only[Value.agg.injEq] at e;have b:=congrArg (λz=>z[1]?) e
 have a:=congrArg (λz=>z[2]?) e
 have c:=congrArg (λz=>z[3]?) e
 simp at b a c;subst b a c;exact⟨d,j,k⟩
structure jD(fp:eK)(F:bY)(w:aG)(sb mb:Nat)(mo:Obj)(st:Nat->Option aW)(s:aW)(n:Nat):Prop where
 blk:∃fv tv ov ev es,w.heap[sb]?=some (.cells #[I_ s.m_,fv,tv,ov,I_ s.stop,ev,.map (some mb)] 59 (0,0))/\jC fp F w (.agg #[I_ s.m_,fv,tv,ov,I_ s.stop]) s/\
  w.ownsRow (sb+1) 145 6 ev n (kA es)/\es.length=n/\(∀i (h:i<es.length),Z5 fp F w st i es[i])/\(∀k,F k->ev.ownBlock≠some k)/\ev.ownBlock≠some mb
 now:st s.m_=some s
 fix:∀k,F k->k<w.heap.size/\k≠sb/\k≠mb
 map:w.heap[mb]?=some mo/\mb≠sb
def nD(sb:Nat)(w:aG):Option Nat:=match w.heap[sb]? with|some (.cells c _ _)=>(c[5]?).bind Value.ownBlock|_=>none
def nL(h:w'.heap[sb]?=w.heap[sb]?):nD sb w'=nD sb w:=by unfold nD;rw[h]
def nK{c:Array Value}{T:TypeId}{z:Nat × Nat}{v:aQ}(h:w.heap[sb]?=some (.cells c T z))(a:c[5]?=some v):nD sb w=v.ownBlock:=by unfold nD;rw[h];simp[a]
structure FS(sb:Nat)(w w':aG):Prop where
 os:w'.os=w.os
 tape:w'.tape=w.tape
 output:w'.output=w.output
 size:w.heap.size<=w'.heap.size
 blk:∀k,k<w.heap.size->k≠sb->nD sb w≠some k->w'.heap[k]?=w.heap[k]?
 row:∀k,nD sb w'=some k->nD sb w=some k\/w.heap.size<=k
def FS.trans{a b c:aG}(h:FS sb a b)(k:FS sb b c):FS sb a c:=by
 refine⟨k.os.trans h.os,k.tape.trans h.tape,k.output.trans h.output,em h.size k.size,λi f j g=>?_,λi f=>?_⟩
 ·rw[k.blk i (ej f h.size) j (λe=>?_),h.blk i f j g]
  rcases h.row i e with d|d
  ·exact g d
  ·omega
 ·rcases k.row i f with d|d
  ·exact h.row i d
  ·exact d6 (em h.size d)
def FS.of_below(h:Below w.heap.size w w')(b:sb<w.heap.size):FS sb w w':=
 ⟨h.os,h.tape,h.output,h.size,λk a _ _=>h.block k a,λk a=>d7 (by rw[<-nL (h.block sb b)];exact a)⟩
section
variable {fp:eK} {F G:bY} {w w':aG} {sb mb n:Nat} {mo:Obj} {st:Nat->Option aW} {s:aW}
def jD.lt(h:jD fp F w sb mb mo st s n):sb<w.heap.size:=by
 obtain⟨_,_,_,_,_,a,_⟩:=h.blk;exact aC a
def jD.row(h:jD fp F w sb mb mo st s n):∀k,nD sb w=some k->sb<k/\k<w.heap.size/\¬F k/\k≠mb:=by
 obtain⟨_,_,_,i,_,c,_,f,_,_,b,d⟩:=h.blk;intro k a;rw[nK c rfl] at a;have:=f.lt k a;exact⟨o_,this.2,λg=>b k g a,λe=>d (by rw[<-e];exact a)⟩
def jD.grow(h:jD fp F w sb mb mo st s n)(d:Below w.heap.size w w')(l:∀k,F k->G k)(o:∀k,G k->F k\/(w.heap.size<=k/\k<w'.heap.size)):jD fp G w' sb mb mo st s n:=by
 have f:=h.lt;obtain⟨C,r,z,q,y,u,p,m,t,x,B,v⟩:=h.blk;have j:∀b,F b->w'.heap[b]?=w.heap[b]?:=λb g=>d.block b (h.fix b g).1
 refine⟨⟨C,r,z,q,y,by rw[d.block _ f];exact u,p.keep j l,iO m d,t,λi A=>(x i A).keep j l,λk a=>?_,v⟩,h.now,λk a=>?_,by rw[d.block _ (aC h.map.1)];exact h.map⟩
 ·rcases o k a with c|c
  ·exact B k c
  ·intro e;have:=(m.lt k e).2;omega
 ·rcases o k a with c|c
  ·have:=h.fix k c;exact⟨ej this.1 d.size,this.2⟩
  ·have:=aC h.map.1;exact⟨c.2,o_,o_⟩
def PD{es:List Ent}{b_ g b:Nat}(h:w.ownsRow b_ 145 6 (.slice (some (aH g 0)) es.length b) es.length (kA es))(a:∀i (h:i<es.length),es[i].Ok):bc_ w g es:=λi d=>by
 have c:∀j u,j<6->(es[i].cells)[j]?=some u->w.cell? (aH g (i*6+j))=some u:=λj u e f=>by
  have:=h.cells (g:=g) rfl (i*6+j) u (by rw[MI es i j d e];exact f)
  rw[pH] at this;exact this
 exact⟨a i d,c 0 _ o_ rfl,c 1 _ o_ rfl,c 2 _ o_ rfl,c 3 _ o_ rfl,c 4 _ o_ rfl,c 5 _ o_ rfl⟩
def E4{es:List Ent}{b_ g f i:Nat}{W:aG}{a e:Int}{b c d:aQ}(h:w.ownsRow b_ 145 6 (.slice (some (aH g 0)) es.length f) es.length (kA es))(hi:i<es.length)
 (o:W.heap=(((((w.setCell (aH g (i*6+1)) (I_ a)).setCell (aH g (i*6+2)) b).setCell (aH g (i*6+3)) c).setCell (aH g (i*6+4)) d).setCell (aH g (i*6+5)) (I_ e)).heap):
 W.ownsRow b_ 145 6 (.slice (some (aH g 0)) es.length f) es.length (kA (es.set i ⟨es[i].k,a,b,c,d,e⟩)):=by
 rcases h.2 with ⟨j,_⟩|⟨t,k,r,j,s,l,n,q,m,p⟩
 ·cases j
 cases j;refine⟨by simp[OW],d6 ⟨g,f,_,rfl,s,by rw[o];exact aK (aK (aK (aK (aK l)))),n,q,by simpa using m,?_⟩⟩
 rw[MH es i ⟨es[i].k,a,b,c,d,e⟩ hi rfl,<-p];simp only[jy,jz]
end
structure c6_(n:Nat)(key:Int)(at_:Nat)(fd:Bool):Prop where
 le:at_<=n
 lo:∀i,i<at_->((20*i:Nat):Int)<key
 hi:∀i,i<n->at_<=i->key<=((20*i:Nat):Int)
 fnd:fd=true↔at_<n/\((20*at_:Nat):Int)=key
section
variable {fp:eK} {F G:bY} {w w':aG} {sb mb n:Nat} {mo:Obj} {st:Nat->Option aW} {s:aW}
def tT(h:jD fp F w sb mb mo st s n)(b:Int)(P:n<=1000):
 Calls prog 78 #[.pointer (some (aH sb 5)),I_ b] w λe w'=>∃(d:Nat) (v:Bool),e=aX (.tuple #[I_ d,.bool v])/\Below w.heap.size w w'/\c6_ n b d v:=by
 obtain⟨S,K,O,C,p,E,J,z,D,x,Q,M⟩:=h.blk;have l:∀i (h:i<p.length),p[i].k=((20*i:Nat):Int):=λi c=>(x i c).1
 have y:=aA (i:=5) E rfl;subst D;rcases z.2 with ⟨r,H⟩|⟨g,o,G,r,H,A,L,N⟩
 ·subst r;refine(MK w sb none 0 0 b (λa f w'=>a=0/\f=false/\w'=w) y ((XF b w).mono ?_)).mono ?_
  ·rintro e w' ⟨rfl,rfl⟩;exact⟨0,false,rfl,rfl,rfl,rfl⟩
  ·rintro e w' ⟨a,f,rfl,rfl,rfl,rfl⟩;exact⟨0,false,rfl,eh _ _,ft _,λi c=>by omega,λi c _=>by omega,t_⟩
 ·subst r;refine(MK w sb (some (aH g 0)) p.length o b (λa f w'=>∃d:Nat,a=d/\Below w.heap.size w w'/\Found p b d f) y ((XG g o p b w o_ (aC A) (PD z λi c=>(x i c).ok) (λi j c I B=>by rw[l i c,l j I];omega)).mono ?_)).mono ?_
  ·rintro e w' ⟨a,f,rfl,t,k⟩;exact⟨_,f,rfl,a,rfl,t,k⟩
  ·rintro e w' ⟨_,f,rfl,a,rfl,t,k⟩;refine⟨a,f,rfl,t,k.le,λi c=>?_,λi c u=>?_,?_⟩
   ·have:=k.lo i (by have:=k.le;omega) c
    rw[l i (by have:=k.le;omega)] at this;exact this
   ·have:=k.hi i c u;rw[l i c] at this;exact this
   ·rw[k.fnd];constructor
    ·rintro⟨m,q⟩;rw[l _ m] at q;exact⟨m,q⟩
    ·rintro⟨m,q⟩;exact⟨m,by rw[l _ m];exact q⟩
def MC(W:aG)(g a b c d e:Nat)(u v x y z:aQ)(k:Nat)(f:k≠g):(((((W.setCell (aH g a) u).setCell (aH g b) v).setCell (aH g c) x).setCell (aH g d) y).setCell (aH g e) z).heap[k]?=W.heap[k]?:=by
 rw[ei _ _ _ _ f,ei _ _ _ _ f,ei _ _ _ _ f,ei _ _ _ _ f,ei _ _ _ _ f]
def D9(W:aG)(p q r t o:Addr)(u v x y z:aQ):(((((W.setCell p u).setCell q v).setCell r x).setCell t y).setCell o z).os=W.os/\(((((W.setCell p u).setCell q v).setCell r x).setCell t y).setCell o z).tape=W.tape/\(((((W.setCell p u).setCell q v).setCell r x).setCell t y).setCell o z).output=W.output/\(((((W.setCell p u).setCell q v).setCell r x).setCell t y).setCell o z).heap.size=W.heap.size:=by
 have a:∀(W:aG) (p:Addr) (u:aQ),(W.setCell p u).os=W.os/\(W.setCell p u).tape=W.tape/\(W.setCell p u).output=W.output/\(W.setCell p u).heap.size=W.heap.size:=λW p u=>⟨rfl,rfl,rfl,s_⟩
 simp[a]
def S4(h:jD fp F w sb mb mo st s n)(v:aQ)(b:aW)(hv:jC fp F w v b)(hs:st b.m_=some b)(hm:b.m_%20=0)(hq:b.m_/20<n)(hn:n<=1000)(ht:b.m_<=1000000):
 Calls prog 64 #[.pointer (some (aH sb 5)),I_ b.m_,v] w λe w'=>e=aX (.tuple #[])/\FS sb w w'/\jD fp F w' sb mb mo st s n:=by
 obtain⟨f',t',o',rfl,⟨K,D,B,rfl⟩,⟨y,E,x,rfl⟩,⟨G,H,C,rfl⟩⟩:=hv.form;obtain⟨fv,tv,ov,ev,t,X,h2,Y,h4,Z,h6,h7⟩:=h.blk;subst h4;have I:=Y;rcases Y.2 with ⟨r1,r2⟩|⟨g,M,p,r1,r2,r3,r4,r5,r6,r7⟩
 ·omega
 subst r1;obtain⟨q,l⟩:=E_ (w.alloc (.cells #[I_ b.m_,.slice K D B,.slice y E x,.slice G H C,I_ b.stop] 53));have N:Below w.heap.size w q:=by rw[l];exact(eh _ _).alloc cL _
 have P:q.heap[w.heap.size]?=some (.cells #[I_ b.m_,.slice K D B,.slice y E x,.slice G H C,I_ b.stop] 53 (0,0)):=by rw[l];exact aN _ _ rfl _
 have aa:q.heap.size=w.heap.size+1:=by rw[l];simp
 refine(FW w sb g t.length M (b.m_/20) b.m_ b.m_ b.stop K y G D E H B x C (λw'=>FS sb w w'/\jD fp F w' sb mb mo st s t.length) (λW=>Below q.heap.size q W) hq ?_ (λW hW=>?_))
 ·show Calls _ _ _ _ _
  rw[<-l];refine(tT (h.grow N dP (λ_ h=>d7 h)) b.m_ hn).mono ?_
  rintro e w' ⟨a,fd,rfl,hb,T⟩
  have e1:a=b.m_/20:=by
   refine jw ?_ ?_
   ·cases a with
    |zero=>omega
    |succ a=>have:=T.lo a o_;omega
   ·rcases fu a (b.m_/20) with h8|h8
    ·have:=T.hi a o_ cL;omega
    ·exact h8
  have e2:fd=true:=T.fnd.2 ⟨o_,o_⟩
  exact⟨by rw[e1,e2],hb⟩
 ·have c:Below w.heap.size w W:=N.trans (hW.mono o_)
  have m:=h.lt;have S:=h.grow c dP (λ_ h=>d7 h)
  have Q:=aC r3;have L:W.heap[g]?=some (.cells p 145 (0,0)):=by rw[c.block _ Q];exact r3
  have U:b.m_/20*6+5<p.size:=by rw[r6];have:=Nat.mul_le_mul_right 6 r4;omega
  refine⟨S.lt,aA (by rw[c.block _ m];exact X) rfl,aC L,⟨p,L,U⟩,by rw[hW.block _ o_];exact P,λV r=>?_⟩
  have o:g≠sb:=by have:=(I.lt g rfl).1;omega
  have j:∀k,k≠g->V.heap[k]?=W.heap[k]?:=λk j=>by rw[r.heap];exact MC W g _ _ _ _ _ _ _ _ _ _ k j
  have J:nD sb W=some g:=nK (by rw[c.block _ m];exact X) rfl
  have A:∀k,F k->k≠g:=λk j e=>h6 k j (by rw[e];rfl)
  have O:FS sb W V:=by
   obtain⟨a1,a2,a3,a4⟩:=D9 W (aH g (b.m_/20*6+1)) (aH g (b.m_/20*6+2)) (aH g (b.m_/20*6+3)) (aH g (b.m_/20*6+4)) (aH g (b.m_/20*6+5)) (I_ b.m_) (.slice K D B) (.slice y E x) (.slice G H C) (I_ b.stop);refine⟨r.os.trans a1,r.tape.trans a2,r.output.trans a3,by rw[r.heap,a4];exact en _,λk d hc hr=>j k λe=>hr (by rw[e];exact J),λk d=>d7 ?_⟩
   rw[<-nL (j sb (λe=>o e.symm))];exact d
  refine⟨(FS.of_below c m).trans O,⟨fv,tv,ov,.slice (some (aH g 0)) t.length M,t.set (b.m_/20) ⟨t[b.m_/20].k,b.m_,.slice K D B,.slice y E x,.slice G H C,b.stop⟩,?_,?_,?_,s_,λi hi=>?_,h6,h7⟩,h.now,λk d=>?_,?_⟩
  ·rw[j sb (λe=>o e.symm),c.block _ m];exact X
  ·exact h2.keep (λk d=>by rw[j k (A k d),c.block k (h.fix k d).1]) dP
  ·exact E4 (iO I c) hq r.heap
  ·have u:i<t.length:=by simpa using hi
   have f:∀k,F k->V.heap[k]?=w.heap[k]?:=λk d=>by rw[j k (A k d),c.block k (h.fix k d).1]
   by_cases z:i=b.m_/20
   ·subst z;rw[List.getElem_set_self];refine⟨(Z _ u).1,b,?_,hv.keep f dP⟩;rw[show 20*(b.m_/20)=b.m_ by omega];exact hs
   ·rw[List.getElem_set_ne (λe=>z e.symm)]
    exact(Z i u).keep f dP
  ·have:=h.fix k d;exact⟨by rw[r.heap];simpa using ej this.1 c.size,this.2⟩
  ·refine⟨?_,h.map.2⟩;rw[j mb (λe=>h7 (by rw[e];rfl)),c.block _ (aC h.map.1)];exact h.map.1
end
section
variable {fp:eK} {F G:bY} {w w':aG} {sb mb n:Nat} {mo:Obj} {st:Nat->Option aW} {s:aW}
def s9{es:List Ent}{b_ g f i m:Nat}{W:aG}{k0 a e:Int}{b c d:aQ}(j:es.length=m)(h:w.ownsRow b_ 145 6 (.slice (some (aH g 0)) m f) m (kA es))(hi:i<es.length)(k:es[i].k=k0)
 (l:W.heap=(((((w.setCell (aH g (i*6+1)) (I_ a)).setCell (aH g (i*6+2)) b).setCell (aH g (i*6+3)) c).setCell (aH g (i*6+4)) d).setCell (aH g (i*6+5)) (I_ e)).heap):
 W.ownsRow b_ 145 6 (.slice (some (aH g 0)) m f) m (kA (es.set i ⟨k0,a,b,c,d,e⟩)):=by
 subst j k;exact E4 h hi l
def S2(h:jD fp F w sb mb mo st s n)(v:aQ)(f:aW)(hv:jC fp F w v f)(hs:st f.m_=some f)(hm:f.m_%20=0)(hq:f.m_/20=n)(hn:n<=1000):
 Calls prog 64 #[.pointer (some (aH sb 5)),I_ f.m_,v] w λe w'=>e=aX (.tuple #[])/\FS sb w w'/\jD fp F w' sb mb mo st s (n+1):=by
 obtain⟨f',t',o',rfl,⟨Y,T,P,rfl⟩,⟨O,U,N,rfl⟩,⟨V,X,Q,rfl⟩⟩:=hv.form;obtain⟨fv,tv,ov,ev,S,h1,h2,h3,h4,h5,h6,h7⟩:=h.blk;have I:=h.lt;have ae:=h3;obtain⟨x,c,rfl⟩:=dE h3;obtain⟨y,B⟩:=E_ (w.alloc (.cells #[I_ f.m_,.slice Y T P,.slice O U N,.slice V X Q,I_ f.stop] 53));have C:Below w.heap.size w y:=by rw[B];exact(eh _ _).alloc cL _
 have ai:y.heap[w.heap.size]?=some (.cells #[I_ f.m_,.slice Y T P,.slice O U N,.slice V X Q,I_ f.stop] 53 (0,0)):=by rw[B];exact aN _ _ rfl _
 have av:y.heap.size=w.heap.size+1:=by rw[B];simp
 have H:∀k,(Value.slice x n c).ownBlock=some k->sb<k/\k<w.heap.size:=λk j=>by have:=ae.lt k j;exact⟨o_,this.2⟩
 refine(OQ w sb n x c f.m_ f.m_ f.stop Y O V T U X P N Q (λw'=>FS sb w w'/\jD fp F w' sb mb mo st s (n+1)) (λW=>Below y.heap.size y W)
  (λg l W=>(∀k,k<y.heap.size->some k≠(Value.slice x n c).ownBlock->W.heap[k]?=y.heap[k]?)/\W.os=w.os/\W.tape=w.tape/\W.output=w.output/\y.heap.size<=W.heap.size/\((Value.slice x n c).ownBlock=some g\/y.heap.size<=g)/\W.ownsRow (sb+1) 145 6 (.slice (some (aH g 0)) (n+1) l) (n+1) (kA S++[I_ f.m_,I_ 0,bG,bG,bG,I_ 0])) o_ ?_ (λW hW=>?_) (λg l W hW=>?_))
 ·show Calls _ _ _ _ _
  rw[<-B];refine(tT (h.grow C dP (λ_ h=>d7 h)) f.m_ hn).mono ?_
  rintro e w' ⟨a,fd,rfl,hb,hf⟩
  have e1:a=n:=by
   refine jw hf.le ?_;rcases fu a n with m|m
   ·have:=hf.hi a m cL;omega
   ·exact m
  have e2:fd=false:=by
   cases fd with
   |false=>rfl
   |true=>have:=(hf.fnd.1 rfl).1;omega
  exact⟨by rw[e1,e2],hb⟩
 ·have o:Below w.heap.size w W:=C.trans (hW.mono o_)
  have ao:=iO ae o;refine⟨ej I o.size,aA (by rw[o.block _ I];exact h1) rfl,?_⟩
  refine(ZD _ (sb+1) W.heap.size n (.slice x n c) (kA S) f.m_ (ao.alloc _) (aN _ _ rfl _) o_ (by have:=o.size;simp;omega)).mono ?_
  rintro e w' ⟨g,l,rfl,q1,q2,q3⟩;have aw:=hW.size;have aq:=q2.size;simp only[World.size_alloc] at aq;refine⟨g,l,rfl,λk j q=>?_,?_,?_,?_,o_,?_,q1⟩
  ·rw[q2.block k t_ q,ek _ _ _ o_,hW.block k j]
  ·exact q2.os.trans o.os
  ·exact q2.tape.trans o.tape
  ·exact q2.output.trans o.output
  ·rcases q3 with q3|q3
   ·exact d7 q3
   ·exact d6 (by rw[q3];simp;omega)
 ·obtain⟨b1,b2,b3,b4,b5,b6,b7⟩:=hW;have ap:=b7;have t:g≠sb:=by have:=(b7.lt g rfl).1;omega
  have aj:g≠w.heap.size:=by
   rcases b6 with m|m
   ·have:=H g m;omega
   ·omega
  rcases b7.2 with ⟨r1,_⟩|⟨g',ar,aa,r1,r2,r3,r4,r5,r6,r7⟩
  ·cases r1
  cases r1
  have u:W.heap[sb]?=some (.cells #[I_ s.m_,fv,tv,ov,I_ s.stop,.slice x n c,.map (some mb)] 59 (0,0)):=by
   rw[b1 sb o_ (λe=>by have:=H sb e.symm;omega),C.block _ I];exact h1
  have am:n*6+5<aa.size:=by rw[r6];omega
  refine⟨o_,t,aj,o_,⟨_,aA u rfl⟩,aD u,aC r3,⟨aa,r3,am⟩,by rw[b1 _ o_ (λe=>by have:=H _ e.symm;omega)];exact ai,λZ M=>?_⟩
  generalize K:W.setCell (aH sb 5) (.slice (some (aH g 0)) (n+1) l)=A at M;have ag:∀k,k≠sb->A.heap[k]?=W.heap[k]?:=λk j=>by rw[<-K];exact ei _ _ _ _ j
  have ad:A.heap[sb]?=some (.cells #[I_ s.m_,fv,tv,ov,I_ s.stop,.slice (some (aH g 0)) (n+1) l,.map (some mb)] 59 (0,0)):=by rw[<-K];exact aK u
  have p:A.os=W.os/\A.tape=W.tape/\A.output=W.output/\A.heap.size=W.heap.size:=by rw[<-K];exact⟨rfl,rfl,rfl,s_⟩
  have ac:∀k,k≠g->Z.heap[k]?=A.heap[k]?:=λk j=>by rw[M.heap];exact MC A g _ _ _ _ _ _ _ _ _ _ k j
  obtain⟨a1,a2,a3,a4⟩:=D9 A (aH g (n*6+1)) (aH g (n*6+2)) (aH g (n*6+3)) (aH g (n*6+4)) (aH g (n*6+5)) (I_ f.m_) (.slice Y T P) (.slice O U N) (.slice V X Q) (I_ f.stop);have ab:Z.heap.size=W.heap.size:=by rw[M.heap,a4,p.2.2.2]
  have E:∀k,k<w.heap.size->k≠sb->some k≠(Value.slice x n c).ownBlock->Z.heap[k]?=w.heap[k]?:=λk j q hr=>by
   have ak:k≠g:=λe=>by
    rcases b6 with m|m
    ·exact hr (by rw[e];exact m.symm)
    ·omega
   rw[ac k ak,ag k q,b1 k o_ hr,C.block k j]
  have G:∀k,F k->Z.heap[k]?=w.heap[k]?:=λk j=>E k (h.fix k j).1 (h.fix k j).2.1 λe=>h6 k j e.symm
  have an:=aC h.map.1;have r:nD sb w=(Value.slice x n c).ownBlock:=nK h1 rfl;have D:Z.heap[sb]?=some (.cells #[I_ s.m_,fv,tv,ov,I_ s.stop,.slice (some (aH g 0)) (n+1) l,.map (some mb)] 59 (0,0)):=by rw[ac sb (λe=>t e.symm)];exact ad
  obtain⟨z,hz⟩:∃z:Ent,z=⟨f.m_,0,bG,bG,bG,0⟩:=⟨_,rfl⟩
  have J:A.ownsRow (sb+1) 145 6 (.slice (some (aH g 0)) (n+1) l) (n+1) (kA (S++[z])):=by
   rw[OX,hz];exact aY ap λk e=>ag k (by cases e;exact t)
  have L:(S++[z]).length=n+1:=by simp[h4]
  have al:(S++[z])[n]'(by rw[L];omega)=z:=by rw[km o_];simp
  have af:=s9 (W:=Z) (i:=n) (k0:=f.m_) (a:=f.m_) (b:=.slice Y T P) (c:=.slice O U N) (d:=.slice V X Q) (e:=f.stop) L J (by rw[L];omega) (by rw[al,hz]) M.heap
  refine⟨⟨M.os.trans (a1.trans (p.1.trans b2)),M.tape.trans (a2.trans (p.2.1.trans b3)),M.output.trans (a3.trans (p.2.2.1.trans b4)),by rw[ab];omega,λk j q hr=>E k j q (λe=>hr (by rw[r];exact e.symm)),λk j=>?_⟩,⟨fv,tv,ov,.slice (some (aH g 0)) (n+1) l,(S++[z]).set n ⟨f.m_,f.m_,.slice Y T P,.slice O U N,.slice V X Q,f.stop⟩,D,h2.keep G dP,?_,by simp[h4],λi hi=>?_,λk j e=>?_,λe=>?_⟩,h.now,λk j=>?_,?_⟩
  ·rw[nK D rfl] at j;cases j;rcases b6 with m|m
   ·exact d7 (by rw[r];exact m)
   ·exact d6 (by show w.heap.size<=g;omega)
  ·exact af
  ·have au:i<n+1:=by simpa [h4] using hi
   by_cases ah:i=n
   ·subst ah;rw[List.getElem_set_self];refine⟨by show (f.m_:Int)=_;omega,f,?_,hv.keep G dP⟩
    rw[show 20*i=f.m_ by omega];exact hs
   ·rw[List.getElem_set_ne (λe=>ah e.symm),jq o_]
    exact(h5 i o_).keep G dP
  ·have e':g=k:=by simpa [Value.ownBlock] using e
   rcases b6 with m|m
   ·exact h6 k j (by rw[<-e'];exact m)
   ·have:=(h.fix _ j).1;omega
  ·have e':g=mb:=by simpa [Value.ownBlock] using e
   rcases b6 with m|m
   ·exact h7 (by rw[<-e'];exact m)
   ·omega
  ·have:=h.fix k j;exact⟨by rw[ab];omega,this.2⟩
  ·exact⟨by rw[E mb an h.map.2 (λe=>h7 e.symm)];exact h.map.1,h.map.2⟩
def LK(h:jD fp F w sb mb mo st s n)(v:aQ)(a:aW)(z:jC fp F w v a)(u:st a.m_=some a)(D:a.m_%20=0->a.m_/20<=n)(y:n<=1000)(i:a.m_<=1000000):
 Calls prog 33 #[aZ sb,v] w λe w'=>e=aX (.tuple #[])/\FS sb w w'/\jD fp F w' sb mb mo st s (if a.m_%20=0/\a.m_/20=n then n+1 else n):=by
 obtain⟨H,G,I,rfl,⟨B,A,q,rfl⟩,⟨x,C,r,rfl⟩,⟨o,p,t,rfl⟩⟩:=z.form;by_cases b:a.m_%20=0
 ·refine WZ w sb a.m_ a.stop B x o A C p q r t _ b i λW g=>?_
  have d:=h.grow g dP (λ_ h=>d7 h)
  have c:=z.keep (λk E=>g.block k (h.fix k E).1) dP
  rcases ii (D b) with e|e
  ·rw[if_pos ⟨b,e⟩];refine(S2 d _ a c u b e y).mono ?_;rintro e w' ⟨f,j,l⟩;exact⟨f,(FS.of_below g h.lt).trans j,l⟩
  ·rw[if_neg o_]
   refine(S4 d _ a c u b e y i).mono ?_;rintro e w' ⟨f,j,l⟩;exact⟨f,(FS.of_below g h.lt).trans j,l⟩
 ·rw[if_neg (λe=>b e.1)]
  refine(L5 w sb a.m_ a.stop B x o A C p q r t b i).mono ?_;rintro e w' ⟨f,m⟩;exact⟨f,FS.of_below m h.lt,h.grow m dP (λ_ h=>d7 h)⟩
end
def vB:∀(l:List aM) (a v:aM),(cW l a v).2<=9
 |[],_,_=>by simp[cW]
 |i::l,a,v=>by
  unfold cW;have:=vB l (a.l.getD i.n.toNat bS) v;repeat' split
  all_goals first|(simp;done)|exact this
def AT{r:aM × Nat}(h:r.2<=9):(iS r).2<=9:=by
 unfold iS;split
 ·split
  ·simp
  ·exact h
 ·exact h
def J6(op:cC)(a b:aM):(fA op a b).2<=9:=by
 unfold fA jZ jY;repeat' split
 all_goals first|(simp;done)|(simp only[];split<;>simp)
def O2(op:cC)(a:aM):(fW op a).2<=9:=by
 unfold fW;repeat' split
 all_goals simp
def TL(a b:aM):(dL a b).2<=9:=by
 unfold dL;repeat' split
 all_goals simp
def OO(a:aM):(eL a).2<=9:=by
 unfold eL;repeat' split
 all_goals simp
def OV(i:aI)(f:aJ):(aL i f).2<=9:=by
 cases i<;>simp only[aL]
 case assign k n=>
  have:=AT (vB (f.pop.many n) (f.g_[k]?.getD bS) f.last);split
  ·simp
  ·exact this
 case unary op=>
  have:=O2 (op++[120]) f.last;split
  ·simp
  ·exact this
 case binary op=>
  have:=J6 op f.pop.last f.last;split
  ·simp
  ·exact this
 case index=>
  have:=TL f.pop.last f.last;split
  ·simp
  ·exact this
 case list n=>
  have:=AT (r:=(bB (f.many n),0)) s_
  split
  ·simp
  ·exact this
 case length=>
  have:=OO f.last;split
  ·simp
  ·exact this
 all_goals (repeat' split)<;>simp
def aM_(b:List eV)(i:aI)(a:List aJ)(f:aJ)(t:List Int)(o:cN):(Hs.doI b i a f t o).2<=9:=by
 cases i<;>simp only[Hs.doI]<;>first|exact OV _ _|skip
 case read=>cases t<;>simp
 case call=>split<;>simp
 case give=>simp
 case print=>split<;>simp
structure Rest(n:Nat)(m:cS):Prop where
 utf:gK m
 out:m.out.length<=50
 tape:m.tape.length<=n
def rW{a:List eV}(o:kK a){n:Nat}:∀(k:Nat) (m:cS) (r:cS × Nat),Rest n m->dR a k m=some r->Rest n r.1/\r.2<=9
 |0,_,_,_,h=>by cases h
 |k+1,m,r,c,h=>by
  rw[dR] at h;cases j:m.f_.getLast? with
  |none=>
   rw[j] at h;simp only[Option.some.injEq] at h;subst h;exact⟨c,s_⟩
  |some f=>
   rw[j] at h;simp only at h;cases e:f.fetch with
   |none=>rw[e] at h;cases h
   |some q=>
    obtain⟨i,g⟩:=q;rw[e] at h;simp only at h
    have d:m.f_=m.f_.dropLast++[f]:=by
     obtain⟨t,s⟩:=List.getLast?_eq_some_iff.1 j;rw[s];simp
    have b:gK ⟨m.f_.dropLast++[f],m.tape,m.out⟩:=by
     have:=c.utf;unfold gK at this ⊢
     rw[<-d];exact this
    have l:Rest n (Hs.doI a i m.f_.dropLast g m.tape m.out).1:=⟨GW o b e,G3 c.out,em US c.tape⟩;have p:=aM_ a i m.f_.dropLast g m.tape m.out;split at h
    ·simp only[Option.some.injEq] at h;subst h;exact⟨l,p⟩
    ·split at h
     ·simp only[Option.some.injEq] at h;subst h;exact⟨l,p⟩
     ·exact rW o k _ _ l h
def LI{a:List eV}(d:kK a){n:Nat}{m0:cS}(g:Rest n m0):∀(t:Nat) (s:aW),fB a m0 t=some s->Rest n s.m/\s.stop<=9
 |0,s,h=>by
  rw[fB] at h;cases b:dR a jP m0 with
  |none=>rw[b] at h;cases h
  |some r=>
   rw[b] at h;simp only[ir,Option.some.injEq] at h;subst h;obtain⟨c,i⟩:=rW d _ _ _ g b;exact⟨c,by simp only[cA];split<;>omega⟩
 |t+1,s,h=>by
  rw[fB] at h;cases e:fB a m0 t with
  |none=>rw[e] at h;cases h
  |some f=>
   rw[e] at h;simp only at h;split at h
   ·cases b:dR a jP f.m with
    |none=>rw[b] at h;cases h
    |some r=>
     rw[b] at h;simp only[ir,Option.some.injEq] at h;subst h;obtain⟨c,i⟩:=rW d _ _ _ (LI d g t f e).1 b;exact⟨c,by simp only[cA];split<;>omega⟩
   ·cases h
def MM(s:ByteArray)(w:aG)(c:s.size<=281474976710656):Calls prog 31 #[.string s] w λe w'=>e=aX (.string s)/\Below w.heap.size w w':=by
 have d:=aB (stringslite_Clone s w c);go_in
 go_wp2_with fail;refine d.mono ?_;rintro e f ⟨rfl,a⟩;have b:=aB a;clear a;go_wp2
 go_ret;exact⟨rfl,b⟩
def WT(a:ByteArray)(b p:Nat)(w:aG)(A:fX w)(J:a.size<=281474976710656)(K:w.cell? (aH b 0)=some (.string a))(t:w.heap[p]?=some (.cells #[bG] 76 (0,0))):
 Calls prog 29 #[aZ b,aZ p] w λe w'=>
  (cE a.data.toList=(0,0)/\e=aX (.tuple #[])/\∃o v r,Below w.heap.size w o/\cO a.data.toList=.ok r/\FSl (Btw w.heap.size o.heap.size) o v r/\w'=o.setCell (aH p 0) v)\/
  ((cE a.data.toList).1≠0/\e=cU (cE a.data.toList).1 (cE a.data.toList).2/\Below w.heap.size w w'):=by
 have C:=aB (MM a w J);have D:Hid (∀W,Below w.heap.size w W->Calls prog 30 #[.string a] W (yZ a.data.toList W)):=λW E=>LO a W (A.below E) (by unfold maxLen;omega)
 have y:=aB t;have I:=aC t;clear A t;go_in
 go_wp2_with fail;refine C.mono ?_;rintro e o ⟨rfl,n⟩;have m:=aB (D o n);have d:=aB n;clear D C n;go_wp2_with fail;refine m.mono ?_;rintro e u ⟨f,⟨q,v,r,rfl,B,s⟩|⟨q,rfl⟩⟩
 ·have l:=d.trans (f.mono d.size);have h:u.heap[p]?=some (.cells #[bG] 76 (0,0)):=by rw[l.block _ I];exact y
  have M:=aA h (i:=0) rfl;have L:=aD h (i:=0);have N:=aC h
  obtain⟨x,c,rfl⟩:∃x c,v=.slice x r.length c:=by
   rcases s with ⟨rfl,rfl⟩|⟨g,F,H,O,rfl,_⟩
   ·exact⟨none,0,rfl⟩
   ·exact⟨_,_,rfl⟩
  have j:=aB (ff q (ff B (ff l (s.grow (G:=Btw w.heap.size u.heap.size) (λ_ _=>rfl) (λk z=>⟨em d.size z.1,z.2⟩)))))
  clear q B s f l h m d y;go_wp2
  go_end0;exact d7 ⟨j.1,rfl,u,_,r,j.2.2.1,j.2.1,j.2.2.2,rfl⟩
 ·have j:=aB (ff q (d.trans (f.mono d.size)));clear q f m d y;go_wp2_with fail;exact⟨rfl,d6 ⟨j.1,rfl,j.2⟩⟩
def as_(w:aG):(Instr.makeMap 57 none).run prog w=.ok (.map (some w.heap.size)) (w.alloc (.map #[] 0)):=rfl
def TO(w:aG)(p:ByteArray)(x:Option Addr)(n c:Nat)(P:Value->World->Prop)(A:World->Prop)(S:Nat->Value->Value->Value->Nat->World->Prop)
 (u:Hid (Calls prog 28 #[.func (.func 29) #[] #[aZ w.heap.size,aZ (w.heap.size+1)]] ((w.alloc (.cells #[.string p] 9)).alloc (.cells #[bG] 76)) λe w'=>(e=aX (.tuple #[I_ 0,I_ 0])/\A w')\/∃k l:Nat,k≠0/\e=aX (.tuple #[I_ k,I_ l])/\P (.tuple #[.pointer none,I_ k,I_ l]) w'))
 (t:Hid (∀W,A W->∃r y z,W.cell? (aH (w.heap.size+1) 0)=some (.slice r y z)/\w.heap.size+1<W.heap.size/\Calls prog 32 #[.slice r y z,.slice x n c] W λe w'=>∃(a:Nat) (j h b:Option Addr) (i m d c1 f g q:Nat),e=aX (.agg #[I_ a,.slice j i c1,.slice h m f,.slice b d g,I_ q])/\S a (.slice j i c1) (.slice h m f) (.slice b d g) q w'))
 (B:Hid (∀(a:Nat) (j h b:Option Addr) (i m d c1 f g q:Nat) W,S a (.slice j i c1) (.slice h m f) (.slice b d g) q W->Calls prog 33 #[aZ (W.heap.size+1),.agg #[I_ a,.slice j i c1,.slice h m f,.slice b d g,I_ q]] ((W.alloc (.map #[] 0)).alloc (.cells #[I_ a,.slice j i c1,.slice h m f,.slice b d g,I_ q,bG,.map (some W.heap.size)] 59)) λe w'=>e=aX (.tuple #[])/\P (.tuple #[aZ (W.heap.size+1),I_ 0,I_ 0]) w')):
 Calls prog 11 #[.string p,.slice x n c] w λe w'=>∃v,e=aX v/\P v w':=by
 have H:=vZ;have G:=as_;go_in
 go_wp2_with fail;refine u.mono ?_;rintro e M (⟨rfl,o⟩|⟨k,l,O,rfl,o⟩)
 ·obtain⟨r,y,z,K,T,D⟩:=t _ o;have F:=aB D;clear o D u t;go_wp2_with fail;refine F.mono ?_;rintro e Q ⟨a,j,h,b,i,m,d,c1,f,g,q,rfl,C⟩;have s:=aB (B _ _ _ _ _ _ _ _ _ _ _ _ C);clear C B F K;go_wp2_with fail;refine s.mono ?_;rintro e N ⟨rfl,E⟩;have I:=aB E;clear E;go_wp2
  go_ret3
  exact⟨_,rfl,I⟩
 ·have L:=aB o;have J:¬(k:Int)=0:=o_
  clear o u t B;go_wp2
  go_ret3
  exact⟨_,rfl,L⟩
structure Good(ks:List aE):Prop where
 fl:ks.length<=90000
 ok:∀f∈ks,jI ks 2001 f
 lit:∀f∈ks,∀k∈f.y_,nC k
 kl:∀f∈ks,f.y_.length<=40000
 main:fZ ks (dG ks [109,97,105,110])=some 0
 utf:kK (dC ks 2001)
noncomputable def bT(ks:List aE)(tape:List Int):Nat->Option aW:=fB (dC ks 2001) (gD ks 2001 tape)
def Good.rest0{ks:List aE}(h:Good ks)(a:List Int):Rest a.length (gD ks 2001 a):=by
 refine⟨?_,by simp[gD],by simp[gD]⟩
 intro f c;simp only[gD,ew] at c;subst c;refine⟨?_,λv b=>by simp at b,λv b=>by simp at b⟩
 show xV ((dC ks 2001)[dG ks [109,97,105,110]]?.getD ⟨[],[]⟩)
 cases d:(dC ks 2001)[dG ks [109,97,105,110]]? with
 |none=>exact⟨λv b=>by simp at b,λv b=>by simp at b⟩
 |some f=>exact h.utf f (gy d)
def Good.first{ks:List aE}(h:Good ks)(a:List Int):∃r,dR (dC ks 2001) jP (gD ks 2001 a)=some r/\r.2<=9/\bT ks a 0=some ⟨0,r.1,cA 0 r.2⟩:=by
 obtain⟨r,b,_⟩:=qI (mH h.ok) (vY h.ok h.main a);exact⟨r,b,(rW h.utf _ _ _ (h.rest0 a) b).2,by simp[bT,fB,b]⟩
def cp_(a b:aQ)(W:aG):(callFunc 29 #[a,b]).run prog W=.ok (.enter 29 #[a,b]) W:=k_
def a2_(src:cC)(tape:List Int)(w:aG)(v:aQ)(w':aG):Prop:=
 Below w.heap.size w w'/\
 ((cE src=(0,0)/\∃ks fp G sb mb,cO src=.ok ks/\v=.tuple #[aZ sb,I_ 0,I_ 0]/\w.heap.size<=sb/\w.heap.size<=mb/\lZ fp G w' (dC ks 2001)/\∃s,jD fp G w' sb mb (.map #[] 0) (bT ks tape) s 1/\s.m_=0/\∀b,G b->Nw w b)\/
  ((cE src).1≠0/\v=.tuple #[.pointer none,I_ (cE src).1,I_ (cE src).2]))
def FY(j:ByteArray)(tv:aQ)(s:List Int)(w:aG)(hT:fX w)(hp:kE w)(hs:j.size<=281474976710656)(ht:H9 w tv s)(ap:s.length<=17592186044416)
 (hg:∀t,cO j.data.toList=.ok t->cE j.data.toList=(0,0)->Good t):
 Calls prog 11 #[.string j,tv] w λe w'=>∃v,e=aX v/\a2_ j.data.toList s w v w':=by
 obtain⟨tx,tn,tc,rfl⟩:∃x n c,tv=.slice x n c:=by
  rcases ht with ⟨_,rfl⟩|⟨g,o,c,rfl,_⟩
  ·exact⟨_,_,_,rfl⟩
  ·exact⟨_,_,_,rfl⟩
 obtain⟨m,C⟩:=E_ ((w.alloc (.cells #[.string j] 9)).alloc (.cells #[bG] 76));have ab:Below w.heap.size w m:=by rw[C];exact((eh _ _).alloc cL _).alloc s_ _
 have au:m.heap.size=w.heap.size+2:=by rw[C];simp
 have ao:m.heap[w.heap.size]?=some (.cells #[.string j] 9 (0,0)):=by rw[C];exact iF _ _ _
 have ad:m.heap[w.heap.size+1]?=some (.cells #[bG] 76 (0,0)):=by rw[C];exact fR _ _ _
 generalize Q:cE j.data.toList=rd at*
 refine(TO w j tx tn tc (λv w'=>a2_ j.data.toList s w v w')
  (λW=>rd=(0,0)/\∃lo A L B t,cO j.data.toList=.ok t/\Below w.heap.size w W/\W.cell? (aH (w.heap.size+1) 0)=some (.slice A L B)/\w.heap.size+1<W.heap.size/\FSl (Btw lo W.heap.size) W (.slice A L B) t)
  (λa v1 v2 v3 q W=>rd=(0,0)/\∃(t:List aE) (Z:eK) (G:bY) (r:cS × Nat),cO j.data.toList=.ok t/\Below w.heap.size w W/\(∀b,G b->b<W.heap.size/\Nw w b)/\lZ Z G W (dC t 2001)/\a=0/\q=cA 0 r.2/\jC Z G W (.agg #[I_ ((0:Nat):Int),v1,v2,v3,I_ (cA 0 r.2)]) ⟨0,r.1,cA 0 r.2⟩/\bT t s 0=some ⟨0,r.1,cA 0 r.2⟩)
  ?_ (λW hA=>?_) (λa x1 x2 x3 n1 n2 n3 c1 c2 c3 q W hS=>?_))
 ·show Calls _ _ _ _ _
  rw[<-C]
  refine(sZ 29 (some (aH w.heap.size 0)) (some (aH (w.heap.size+1) 0)) m
   (λW=>rd=(0,0)/\∃A L B t w1,cO j.data.toList=.ok t/\Below (m.heap.size+2) ((m.alloc (.cells #[I_ 0] 39)).alloc (.cells #[I_ 0] 3)) w1/\FSl (Btw (m.heap.size+2) w1.heap.size) w1 (.slice A L B) t/\W=w1.setCell (aH (w.heap.size+1) 0) (.slice A L B))
   (λk l=>rd=(k,l)) (λW=>cp_ _ _ W) (λW hW=>?_)).mono ?_
  ·have y:Below m.heap.size m W:=by rw[hW];exact((eh _ _).alloc cL _).alloc s_ _
   have Y:W.heap.size=m.heap.size+2:=by rw[hW];simp
   have hK:W.heap[m.heap.size]?=some (.cells #[I_ 0] 39 (0,0)):=by rw[hW];exact iF _ _ _
   have hI:W.heap[m.heap.size+1]?=some (.cells #[I_ 0] 3 (0,0)):=by rw[hW];exact fR _ _ _
   refine(WT j w.heap.size (w.heap.size+1) W ((hT.below ab).below y) hs (aA (by rw[y.block _ o_];exact ao) rfl) (by rw[y.block _ o_];exact ad)).mono ?_
   rintro e w' (⟨N,F,w1,v,t,I,u,h3,P⟩|⟨N,F,I⟩)
   ·obtain⟨A,B,rfl⟩:∃x c,v=.slice x t.length c:=by
     rcases h3 with ⟨rfl,rfl⟩|⟨g,av,ar,us,rfl,_⟩
     ·exact⟨none,0,rfl⟩
     ·exact⟨_,_,rfl⟩
    have ac:∀k,m.heap.size<=k->k<W.heap.size->w'.heap[k]?=W.heap[k]?:=λk z ah=>by
     rw[P,ei _ _ _ _ (show k≠w.heap.size+1 by omega),I.block k ah]
    refine d7 ⟨F,by rw[ac _ cL o_];exact hK,by rw[ac _ o_ o_];exact hI,by rw[<-Q];exact N,A,_,B,t,w1,u,?_,?_,P⟩
    ·rw[<-hW,<-Y];exact I
    ·rw[<-Y];exact h3
   ·refine d6 ⟨_,_,N,F,I,?_⟩;rw[<-Q]
  ·rintro e w' (⟨F,w1,⟨N,A,L,B,t,w0,I,u,h3,P⟩,h5⟩|⟨k,l,z,F,K,hE⟩)
   ·refine d7 ⟨F,N,m.heap.size+2,A,L,B,t,I,?_⟩;have al:Below w.heap.size w w0:=ab.trans ((((eh m.heap.size m).alloc cL _).alloc s_ _).mono o_ |>.trans (u.mono o_))
    have ai:w'.heap.size=w0.heap.size:=by rw[h5,P];simp
    have ak:=u.size;simp only[World.size_alloc] at ak
    have ag:∀k,k≠w.heap.size+1->k≠m.heap.size->k≠m.heap.size+1->w'.heap[k]?=w0.heap[k]?:=λk q1 q2 q3=>by
     rw[h5,ei _ _ _ _ (show k≠m.heap.size+1 from q3),ei _ _ _ _ (show k≠m.heap.size from q2),P,ei _ _ _ _ (show k≠w.heap.size+1 from q1)]
    have hB:w'.heap[w.heap.size+1]?=some (.cells #[.slice A L B] 76 (0,0)):=by
     rw[h5,ei _ _ _ _ (show w.heap.size+1≠m.heap.size+1 by omega),ei _ _ _ _ (show w.heap.size+1≠m.heap.size by omega),P]
     have:w0.heap[w.heap.size+1]?=some (.cells #[bG] 76 (0,0)):=by
      rw[u.block _ o_,ek _ _ _ t_,ek _ _ _ o_];exact ad
     rw[aK this];rfl
    refine⟨?_,aA hB rfl,o_,?_⟩
    ·rw[h5,P];exact((al.setCell (show w.heap.size<=w.heap.size+1 by omega) _).setCell (show w.heap.size<=m.heap.size by omega) _).setCell (show w.heap.size<=m.heap.size+1 by omega) _
    ·exact h3.grow (λb K=>ag b (by have:=K.1;omega) (by have:=K.1;omega) (by have:=K.1;omega)) (λb K=>⟨K.1,by rw[ai];exact K.2⟩)
   ·refine d6 ⟨k,l,z,F,ab.trans (K.mono o_),d6 ?_⟩
    rw[Q,hE];exact⟨z,rfl⟩
 ·obtain⟨N,lo,A,L,B,t,I,u,h3,P,h5⟩:=hA;refine⟨A,L,B,h3,P,?_⟩;have h:=hg t I N;obtain⟨r,aj,aq,am⟩:=h.first s
  refine(YI (lo:=lo) (d:=2001) _ _ W h5 h.fl h.ok h.lit (λf X=>em (h.kl f X) o_) h.main ?_ ap (hp.below u) h.utf aj o_).mono ?_
  ·rcases ht with ht|⟨g,o,c,e,af,hc⟩
   ·exact d7 ht
   ·exact d6 ⟨g,o,c,e,ej af u.size,λi hi=>⟨(u.cell (p:=(aH g (o+i))) af).trans (hc i hi).1,(hc i hi).2⟩⟩
  ·rintro e w' ⟨v',F,K,Z,G,V,J,S⟩;obtain⟨f',t',o',rfl,⟨x1,n1,c1,rfl⟩,⟨x2,n2,c2,rfl⟩,⟨x3,n3,c3,rfl⟩⟩:=S.form;exact⟨0,x1,x2,x3,n1,n2,n3,c1,c2,c3,_,F,N,t,Z,G,r,I,u.trans (K.mono u.size),λb O=>⟨(V b O).1,(V b O).2.nw.of u⟩,J,rfl,rfl,S,am⟩
 ·obtain⟨N,t,Z,G,r,I,u,V,J,rfl,rfl,S,T⟩:=hS;obtain⟨M,E⟩:=E_ ((W.alloc (.map #[] 0)).alloc (.cells #[I_ ((0:Nat):Int),.slice x1 n1 c1,.slice x2 n2 c2,.slice x3 n3 c3,I_ (cA 0 r.2),bG,.map (some W.heap.size)] 59));have y:Below W.heap.size W M:=by rw[E];exact((eh _ _).alloc cL _).alloc s_ _
  have Y:M.heap.size=W.heap.size+2:=by rw[E];simp
  have hM:M.heap[W.heap.size]?=some (.map #[] 0):=by rw[E];exact iF _ _ _
  have hB:M.heap[W.heap.size+1]?=some (.cells #[I_ ((0:Nat):Int),.slice x1 n1 c1,.slice x2 n2 c2,.slice x3 n3 c3,I_ (cA 0 r.2),bG,.map (some W.heap.size)] 59 (0,0)):=by rw[E];exact fR _ _ _
  rw[<-E];have U:=S.keep (λk z=>y.block k (V k z).1) dP
  have ae:jD Z G M (W.heap.size+1) W.heap.size (.map #[] 0) (bT t s) ⟨0,r.1,cA 0 r.2⟩ 0:=by
   refine⟨⟨_,_,_,bG,[],hB,U,World.ownsRow_nil _ _ _ _,rfl,λi hi=>by simp at hi,λk z e=>?_,λe=>?_⟩,T,λk z=>?_,hM,o_⟩
   ·simp[Value.ownBlock] at e
   ·simp[Value.ownBlock] at e
   ·have:=V k z;exact⟨o_,o_,o_⟩
  refine(LK ae _ ⟨0,r.1,cA 0 r.2⟩ U T (λ_=>by simp) o_ s_).mono ?_
  rintro e w' ⟨F,X,an⟩;have aa:=J.keep (λk z=>y.block k (V k z).1) dP
  refine⟨F,?_,d7 ⟨by rw[Q];exact N,t,Z,G,W.heap.size+1,W.heap.size,I,rfl,by have:=u.size;omega,u.size,?_,⟨0,r.1,cA 0 r.2⟩,by simpa using an,rfl,λb O=>(V b O).2⟩⟩
  ·have D:Below w.heap.size w M:=u.trans (y.mono u.size);have H:nD (W.heap.size+1) M=none:=by rw[nK hB rfl];rfl
   exact⟨X.os.trans D.os,X.tape.trans D.tape,X.output.trans D.output,em D.size X.size,λk z=>by
    have:=u.size;rw[X.blk k o_ o_ (by rw[H];simp),D.block k z]⟩
  ·refine aa.keep (λk z=>?_) dP
   have H:nD (W.heap.size+1) M=none:=by rw[nK hB rfl];rfl
   have:=V k z;exact X.blk k o_ o_ (by rw[H];simp)
end Go.Proofs.YtlflgmdcghfngaaGreatDoor
