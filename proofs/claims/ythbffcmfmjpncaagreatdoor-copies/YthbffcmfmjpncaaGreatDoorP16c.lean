/- All states of a run: plain facts that its being in memory needs. -/
import Derived.Test.YthbffcmfmjpncaaGreatDoorB08c
import Derived.Test.YthbffcmfmjpncaaGreatDoorP15c
set_option linter.defProp false
set_option maxRecDepth 100000
set_option maxHeartbeats 4000000
namespace Go.Proofs.YthbffcmfmjpncaaGreatDoor
open Hs
open _root_.Go.Proofs.Tryz
open Go.RowKit
variable{a:List Int}{L:List Nat}{ks:List aC}{i n sb:Nat}{F:Nat->Prop}{v:Value}{c w w':World}{s:bZ}
def tE:∀(l:List aJ) (a v:aJ),(cM l a v).2<=9
 |[],_,_=>by simp[cM]
 |i::l,a,v=>by
  unfold cM;have:=tE l (a.l.getD i.n.toNat bL) v;repeat' split
  all_goals first|(simp;done)|exact this
def yM{r:aJ × Nat}(h:r.2<=9):(iH r).2<=9:=by
 unfold iH;split
 ·split
  ·simp
  ·exact h
 ·exact h
def YF(op:List UInt8)(a b:aJ):(eN op a b).2<=9:=by
 unfold eN jH jG;repeat' split
 all_goals first|(simp;done)|(simp only[];split<;>simp)
def ZP(op:List UInt8)(a:aJ):(fH op a).2<=9:=by
 unfold fH;repeat' split
 all_goals simp
def QL(a b:aJ):(dB a b).2<=9:=by
 unfold dB;repeat' split
 all_goals simp
def LW(a:aJ):(eD a).2<=9:=by
 unfold eD;repeat' split
 all_goals simp
def MC(i:aH)(f:aI):(aO i f).2<=9:=by
 cases i<;>simp only[aO]
 case assign k n=>
  have:=yM (tE (f.pop.many n) (f.g_[k]?.getD bL) f.last);split
  ·simp
  ·exact this
 case unary op=>
  have:=ZP (op++[120]) f.last;split
  ·simp
  ·exact this
 case binary op=>
  have:=YF op f.pop.last f.last;split
  ·simp
  ·exact this
 case index=>
  have:=QL f.pop.last f.last;split
  ·simp
  ·exact this
 case list n=>
  have:=yM (r:=(aT (f.many n),0)) s_
  split
  ·simp
  ·exact this
 case length=>
  have:=LW f.last;split
  ·simp
  ·exact this
 all_goals (repeat' split)<;>simp
def P6(b:List dQ)(i:aH)(a:List aI)(f:aI)(t:List Int)(o:List (List UInt8)):(bY b i a f t o).2<=9:=by
 cases i<;>simp only[bY]<;>first|exact MC _ _|skip
 case read=>cases t<;>simp
 case call=>split<;>simp
 case give=>simp
 case print=>split<;>simp
structure Rest(n:Nat)(m:bX):Prop where
 utf:fS m
 out:m.out.length<=50
 tape:m.tape.length<=n
def pZ{a:List dQ}(o:jS a):∀(k:Nat) (m:bX) (r:bX × Nat),Rest n m->dV a k m=some r->Rest n r.1/\r.2<=9
 |0,_,_,_,h=>by cases h
 |k+1,m,r,c,h=>by
  rw[dV] at h;cases j:m.f_.getLast? with
  |none=>
   rw[j] at h;simp only[Option.some.injEq] at h;subst h;exact⟨c,s_⟩
  |some f=>
   rw[j] at h;simp only at h;cases e:f.fetch with
   |none=>rw[e] at h;cases h
   |some q=>
    obtain⟨i,g⟩:=q;rw[e] at h;simp only at h
    have d:m.f_=m.f_.dropLast++[f]:=by
     obtain⟨t,s⟩:=List.getLast?_eq_some_iff.1 j;rw[s];simp
    have b:fS ⟨m.f_.dropLast++[f],m.tape,m.out⟩:=by
     have:=c.utf;unfold fS at this ⊢
     rw[<-d];exact this
    have l:Rest n (bY a i m.f_.dropLast g m.tape m.out).1:=⟨EJ o b e,XQ c.out,em RK c.tape⟩;have p:=P6 a i m.f_.dropLast g m.tape m.out;split at h
    ·simp only[Option.some.injEq] at h;subst h;exact⟨l,p⟩
    ·split at h
     ·simp only[Option.some.injEq] at h;subst h;exact⟨l,p⟩
     ·exact pZ o k _ _ l h
def IP{a:List dQ}(d:jS a){m0:bX}(g:Rest n m0):∀(t:Nat) (s:bZ),fN a m0 t=some s->Rest n s.m/\s.stop<=9
 |0,s,h=>by
  rw[fN] at h;cases b:dV a jV m0 with
  |none=>rw[b] at h;cases h
  |some r=>
   rw[b] at h;simp only[ii,Option.some.injEq] at h;subst h;obtain⟨c,i⟩:=pZ d _ _ _ g b;exact⟨c,by simp only[bS];split<;>omega⟩
 |t+1,s,h=>by
  rw[fN] at h;cases e:fN a m0 t with
  |none=>rw[e] at h;cases h
  |some f=>
   rw[e] at h;simp only at h;split at h
   ·cases b:dV a jV f.m with
    |none=>rw[b] at h;cases h
    |some r=>
     rw[b] at h;simp only[ii,Option.some.injEq] at h;subst h;obtain⟨c,i⟩:=pZ d _ _ _ (IP d g t f e).1 b;exact⟨c,by simp only[bS];split<;>omega⟩
   ·cases h
def TR(w:World)(sb:Nat)(a:Nat)(e:Int)(k i c:Option Addr)(j l d c1 f g:Nat)(P:World->Prop)(t:a%20=0)(u:a<=1000000)
 (q:Hid (∀W',Below w.heap.size w W'->Calls prog 69 #[.pointer (some ⟨sb,5,none⟩),.int .i64 a,.agg #[.int .i64 a,.slice k j c1,.slice i l f,.slice c d g,.int .i64 e]] W' λb w'=>b=.returned (.tuple #[])/\P w')):
 Calls prog 37 #[.pointer (some ⟨sb,0,none⟩),.agg #[.int .i64 a,.slice k j c1,.slice i l f,.slice c d g,.int .i64 e]] w λb w'=>b=.returned (.tuple #[])/\P w':=by
 have o:(a:Int)%20=0:=o_
 have p:(a:Int).tmod 20=0:=by rw[Int.tmod_eq_emod_of_nonneg o_];exact o
 go_enter func37,ntmps37;go_wp2_with fail;refine(BC a e k i c j l d c1 f g _).mono ?_;rintro b r ⟨rfl,rfl⟩;go_wp2_with fail;go_region_law (go_simp;first|(go_at_call 62;refine(BC a e k i c j l d c1 f g _).mono ?_;rintro b v ⟨rfl,rfl⟩)|(go_at_call 69;refine(q.out _ ((((eh _ w).alloc (d7 _) _).alloc s_ _).alloc t_ _).drew).mono ?_;rintro b s ⟨rfl,m⟩;have n:=aB m;clear m))
 all_goals
  go_wp2_with fail;go_end0;exact⟨rfl,n.out⟩
def YU(w:World)(sb:Nat)(a:Nat)(e:Int)(k i b:Option Addr)(j l c c1 d f:Nat)(p:a%20≠0)(q:a<=1000000):
 Calls prog 37 #[.pointer (some ⟨sb,0,none⟩),.agg #[.int .i64 a,.slice k j c1,.slice i l d,.slice b c f,.int .i64 e]] w λg w'=>g=.returned (.tuple #[])/\Below w.heap.size w w':=by
 have m:¬(a:Int)%20=0:=o_
 have n:¬(a:Int).tmod 20=0:=by rw[Int.tmod_eq_emod_of_nonneg o_];exact m
 go_enter func37,ntmps37;go_wp2_with fail;refine(BC a e k i b j l c c1 d f _).mono ?_;rintro g o ⟨rfl,rfl⟩;go_wp2_with fail;go_end0;exact⟨rfl,((eh _ w).alloc (d7 _) _).alloc s_ _⟩
def MF(l m:List Ent):jI (l++m)=jI l++jI m:=by
 induction l with
 |nil=>rfl
 |cons x l a=>simp[jI,a]
def ME(l:List Ent):(jI l).length=l.length*6:=by
 induction l with
 |nil=>rfl
 |cons x l a=>simp[jI,a,Ent.cells];omega
def JJ:∀(l:List Ent) (i j:Nat) (h:i<l.length),j<6->(jI l)[i*6+j]?=(l[i].cells)[j]?
 |x::l,0,j,h,a=>by
  simp only[jI,Nat.zero_mul,gz,jw];rw[gy (by simpa [Ent.cells] using a)]
 |x::l,i+1,j,h,a=>by
  have:=JJ l i j (by simpa using h) a
  simp only[jI,List.getElem_cons_succ];rw[gh (by simp[Ent.cells];omega),<-this]
  congr 1
  simp[Ent.cells];omega
def JI:∀(l:List Ent) (i:Nat) (x:Ent) (h:i<l.length),x.k=l[i].k->jI (l.set i x)=(((((jI l).set (i*6+1) (.int .i64 x.a)).set (i*6+2) x.b).set (i*6+3) x.c).set (i*6+4) x.d).set (i*6+5) (.int .i64 x.e)
 |y::l,0,x,h,a=>by
  simp only[jw] at a;simp[jI,Ent.cells,a]
 |y::l,i+1,x,h,a=>by
  have b:=JI l i x (by simpa using h) (by simpa using a)
  have e:∀j,(i+1)*6+j=i*6+j+6:=λj=>by omega
  simp only[ju,jI,e,Ent.cells,fh,gv];rw[b]
def G9(fp:Nat->Value)(F:Nat->Prop)(w:World)(st:Nat->Option bZ)(i:Nat)(x:Ent):Prop:=
 x.k=((20*i:Nat):Int)/\∃s,st (20*i)=some s/\oA fp F w (.agg #[.int .i64 x.a,x.b,x.c,x.d,.int .i64 x.e]) s
def G9.keep{a:Nat->Value}{G:Nat->Prop}{c:Nat->Option bZ}{x:Ent}(h:G9 a F w c i x)(d:∀b,F b->w'.heap[b]?=w.heap[b]?)(j:∀b,F b->G b):G9 a G w' c i x:=by
 obtain⟨f,s,e,g⟩:=h;exact⟨f,s,e,g.keep d j⟩
def G9.ok{d:Nat->Value}{j:Nat->Option bZ}{x:Ent}(h:G9 d F w j i x):x.Ok:=by
 obtain⟨_,s,_,g⟩:=h;obtain⟨o,m,n,e,f,k,l⟩:=g.form;simp only[Value.agg.injEq] at e;have b:=congrArg (λz=>z[1]?) e
 have a:=congrArg (λz=>z[2]?) e
 have c:=congrArg (λz=>z[3]?) e
 simp at b a c;subst b a c;exact⟨f,k,l⟩
structure kV(fp:Nat->Value)(F:Nat->Prop)(w:World)(sb mb:Nat)(mo:Obj)(st:Nat->Option bZ)(s:bZ)(n:Nat):Prop where
 blk:∃fv tv ov ev es,w.heap[sb]?=some (.cells #[.int .i64 s.m_,fv,tv,ov,.int .i64 s.stop,ev,.map (some mb)] 78 (0,0))/\oA fp F w (.agg #[.int .i64 s.m_,fv,tv,ov,.int .i64 s.stop]) s/\
  w.ownsRow (sb+1) 202 6 ev n (jI es)/\es.length=n/\(∀i (h:i<es.length),G9 fp F w st i es[i])/\(∀k,F k->ev.ownBlock≠some k)/\ev.ownBlock≠some mb
 now:st s.m_=some s
 fix:∀k,F k->k<w.heap.size/\k≠sb/\k≠mb
 map:w.heap[mb]?=some mo/\mb≠sb
def mB(sb:Nat)(w:World):Option Nat:=match w.heap[sb]? with|some (.cells c _ _)=>(c[5]?).bind Value.ownBlock|_=>none
def oV(h:w'.heap[sb]?=w.heap[sb]?):mB sb w'=mB sb w:=by unfold mB;rw[h]
def mF{c:Array Value}{T:TypeId}{z:Nat × Nat}(h:w.heap[sb]?=some (.cells c T z))(a:c[5]?=some v):mB sb w=v.ownBlock:=by unfold mB;rw[h];simp[a]
structure Fz(sb:Nat)(w w':World):Prop where
 os:w'.os=w.os
 tape:w'.tape=w.tape
 output:w'.output=w.output
 size:w.heap.size<=w'.heap.size
 blk:∀k,k<w.heap.size->k≠sb->mB sb w≠some k->w'.heap[k]?=w.heap[k]?
 row:∀k,mB sb w'=some k->mB sb w=some k\/w.heap.size<=k
def Fz.refl(sb:Nat)(w:World):Fz sb w w:=⟨rfl,rfl,rfl,d7 _,λ_ _ _ _=>rfl,λ_ h=>d6 h⟩
def Fz.trans{a b:World}(h:Fz sb a b)(k:Fz sb b c):Fz sb a c:=by
 refine⟨k.os.trans h.os,k.tape.trans h.tape,k.output.trans h.output,em h.size k.size,λi f j g=>?_,λi f=>?_⟩
 ·rw[k.blk i (el f h.size) j (λe=>?_),h.blk i f j g]
  rcases h.row i e with d|d
  ·exact g d
  ·omega
 ·rcases k.row i f with d|d
  ·exact h.row i d
  ·exact d5 (em h.size d)
def Fz.of_below(h:Below w.heap.size w w')(b:sb<w.heap.size):Fz sb w w':=
 ⟨h.os,h.tape,h.output,h.size,λk a _ _=>h.block k a,λk a=>d6 (by rw[<-oV (h.block sb b)];exact a)⟩
section
variable {fp:Nat->Value} {F G:Nat->Prop} {w w':World} {sb mb n:Nat} {mo:Obj} {st:Nat->Option bZ} {s:bZ}
def kV.lt(h:kV fp F w sb mb mo st s n):sb<w.heap.size:=by
 obtain⟨_,_,_,_,_,a,_⟩:=h.blk;exact aD a
def kV.row(h:kV fp F w sb mb mo st s n):∀k,mB sb w=some k->sb<k/\k<w.heap.size/\¬F k/\k≠mb:=by
 obtain⟨_,_,_,i,_,c,_,f,_,_,b,d⟩:=h.blk;intro k a;rw[mF c rfl] at a;have:=f.lt k a;exact⟨o_,this.2,λg=>b k g a,λe=>d (by rw[<-e];exact a)⟩
def kV.grow(h:kV fp F w sb mb mo st s n)(d:Below w.heap.size w w')(l:∀k,F k->G k)(o:∀k,G k->F k\/(w.heap.size<=k/\k<w'.heap.size)):kV fp G w' sb mb mo st s n:=by
 have f:=h.lt;obtain⟨C,r,z,q,y,u,p,m,t,x,B,v⟩:=h.blk;have j:∀b,F b->w'.heap[b]?=w.heap[b]?:=λb g=>d.block b (h.fix b g).1
 refine⟨⟨C,r,z,q,y,by rw[d.block _ f];exact u,p.keep j l,iW m d,t,λi A=>(x i A).keep j l,λk a=>?_,v⟩,h.now,λk a=>?_,by rw[d.block _ (aD h.map.1)];exact h.map⟩
 ·rcases o k a with c|c
  ·exact B k c
  ·intro e;have:=(m.lt k e).2;omega
 ·rcases o k a with c|c
  ·have:=h.fix k c;exact⟨el this.1 d.size,this.2⟩
  ·have:=aD h.map.1;exact⟨c.2,o_,o_⟩
def Z3{a:List Ent}{b_ g d:Nat}(h:w.ownsRow b_ 202 6 (.slice (some ⟨g,0,none⟩) a.length d) a.length (jI a))(b:∀i (h:i<a.length),a[i].Ok):S9 w g a:=λi e=>by
 have c:∀j u,j<6->(a[i].cells)[j]?=some u->w.cell? ⟨g,i*6+j,none⟩=some u:=λj u f k=>by
  have:=h.cells (g:=g) rfl (i*6+j) u (by rw[JJ a i j e f];exact k)
  rw[AR] at this;exact this
 exact⟨b i e,c 0 _ o_ rfl,c 1 _ o_ rfl,c 2 _ o_ rfl,c 3 _ o_ rfl,c 4 _ o_ rfl,c 5 _ o_ rfl⟩
def XC{f:List Ent}{b_ g j i:Nat}{W:World}{a e:Int}{b c d:Value}(h:w.ownsRow b_ 202 6 (.slice (some ⟨g,0,none⟩) f.length j) f.length (jI f))(t:i<f.length)
 (p:W.heap=(((((w.setCell ⟨g,i*6+1,none⟩ (.int .i64 a)).setCell ⟨g,i*6+2,none⟩ b).setCell ⟨g,i*6+3,none⟩ c).setCell ⟨g,i*6+4,none⟩ d).setCell ⟨g,i*6+5,none⟩ (.int .i64 e)).heap):
 W.ownsRow b_ 202 6 (.slice (some ⟨g,0,none⟩) f.length j) f.length (jI (f.set i ⟨f[i].k,a,b,c,d,e⟩)):=by
 rcases h.2 with ⟨k,_⟩|⟨v,l,s,k,u,m,o,r,n,q⟩
 ·cases k
 cases k;refine⟨by simp[ME],d5 ⟨g,j,_,rfl,u,by rw[p];exact aQ (aQ (aQ (aQ (aQ m)))),o,r,by simpa using n,?_⟩⟩
 rw[JI f i ⟨f[i].k,a,b,c,d,e⟩ t rfl,<-q];simp only[jn,jo]
end
structure ad_(n:Nat)(key:Int)(at_:Nat)(fd:Bool):Prop where
 le:at_<=n
 lo:∀i,i<at_->((20*i:Nat):Int)<key
 hi:∀i,i<n->at_<=i->key<=((20*i:Nat):Int)
 fnd:fd=true↔at_<n/\((20*at_:Nat):Int)=key
section
variable {fp:Nat->Value} {F G:Nat->Prop} {w w':World} {sb mb n:Nat} {mo:Obj} {st:Nat->Option bZ} {s:bZ}
def IR(h:kV fp F w sb mb mo st s n)(b:Int)(P:n<=1000):
 Calls prog 106 #[.pointer (some ⟨sb,5,none⟩),.int .i64 b] w λe w'=>∃(d:Nat) (v:Bool),e=.returned (.tuple #[.int .i64 d,.bool v])/\Below w.heap.size w w'/\ad_ n b d v:=by
 obtain⟨S,K,O,C,p,E,J,z,D,x,Q,M⟩:=h.blk;have l:∀i (h:i<p.length),p[i].k=((20*i:Nat):Int):=λi c=>(x i c).1
 have y:w.cell? ⟨sb,5,none⟩=some C:=aA E rfl;subst D;rcases z.2 with ⟨r,H⟩|⟨g,o,G,r,H,A,L,N⟩
 ·subst r;refine(JL w sb none 0 0 b (λa f w'=>a=0/\f=false/\w'=w) y ((TV b w).mono ?_)).mono ?_
  ·rintro e w' ⟨rfl,rfl⟩;exact⟨0,false,rfl,rfl,rfl,rfl⟩
  ·rintro e w' ⟨a,f,rfl,rfl,rfl,rfl⟩;exact⟨0,false,rfl,eh _ _,ft _,λi c=>by omega,λi c _=>by omega,t_⟩
 ·subst r;refine(JL w sb (some ⟨g,0,none⟩) p.length o b (λa f w'=>∃d:Nat,a=d/\Below w.heap.size w w'/\Found p b d f) y ((TW g o p b w o_ (aD A) (Z3 z λi c=>(x i c).ok) (λi j c I B=>by rw[l i c,l j I];omega)).mono ?_)).mono ?_
  ·rintro e w' ⟨a,f,rfl,t,k⟩;exact⟨_,f,rfl,a,rfl,t,k⟩
  ·rintro e w' ⟨_,f,rfl,a,rfl,t,k⟩;refine⟨a,f,rfl,t,k.le,λi c=>?_,λi c u=>?_,?_⟩
   ·have:=k.lo i (by have:=k.le;omega) c
    rw[l i (by have:=k.le;omega)] at this;exact this
   ·have:=k.hi i c u;rw[l i c] at this;exact this
   ·rw[k.fnd];constructor
    ·rintro⟨m,q⟩;rw[l _ m] at q;exact⟨m,q⟩
    ·rintro⟨m,q⟩;exact⟨m,by rw[l _ m];exact q⟩
def JF(W:World)(g a b c d e:Nat)(u v x y z:Value)(k:Nat)(f:k≠g):(((((W.setCell ⟨g,a,none⟩ u).setCell ⟨g,b,none⟩ v).setCell ⟨g,c,none⟩ x).setCell ⟨g,d,none⟩ y).setCell ⟨g,e,none⟩ z).heap[k]?=W.heap[k]?:=by
 rw[ej _ _ _ _ f,ej _ _ _ _ f,ej _ _ _ _ f,ej _ _ _ _ f,ej _ _ _ _ f]
def XA(W:World)(p q r t o:Addr)(u v x y z:Value):(((((W.setCell p u).setCell q v).setCell r x).setCell t y).setCell o z).os=W.os/\(((((W.setCell p u).setCell q v).setCell r x).setCell t y).setCell o z).tape=W.tape/\(((((W.setCell p u).setCell q v).setCell r x).setCell t y).setCell o z).output=W.output/\(((((W.setCell p u).setCell q v).setCell r x).setCell t y).setCell o z).heap.size=W.heap.size:=by
 have a:∀(W:World) (p:Addr) (u:Value),(W.setCell p u).os=W.os/\(W.setCell p u).tape=W.tape/\(W.setCell p u).output=W.output/\(W.setCell p u).heap.size=W.heap.size:=λW p u=>⟨rfl,rfl,rfl,s_⟩
 simp[a]
def C2(h:kV fp F w sb mb mo st s n)(v:Value)(b:bZ)(hv:oA fp F w v b)(hs:st b.m_=some b)(hm:b.m_%20=0)(hq:b.m_/20<n)(hn:n<=1000)(ht:b.m_<=1000000):
 Calls prog 69 #[.pointer (some ⟨sb,5,none⟩),.int .i64 b.m_,v] w λe w'=>e=.returned (.tuple #[])/\Fz sb w w'/\kV fp F w' sb mb mo st s n:=by
 obtain⟨f',t',o',rfl,⟨K,D,B,rfl⟩,⟨y,E,x,rfl⟩,⟨G,H,C,rfl⟩⟩:=hv.form;obtain⟨fv,tv,ov,ev,t,X,h2,Y,h4,Z,h6,h7⟩:=h.blk;subst h4;have I:=Y;rcases Y.2 with ⟨r1,r2⟩|⟨g,M,p,r1,r2,r3,r4,r5,r6,r7⟩
 ·omega
 subst r1;obtain⟨q,l⟩:=E_ (w.alloc (.cells #[.int .i64 b.m_,.slice K D B,.slice y E x,.slice G H C,.int .i64 b.stop] 72));have N:Below w.heap.size w q:=by rw[l];exact(eh _ _).alloc (d7 _) _
 have P:q.heap[w.heap.size]?=some (.cells #[.int .i64 b.m_,.slice K D B,.slice y E x,.slice G H C,.int .i64 b.stop] 72 (0,0)):=by rw[l];exact aS _ _ rfl _
 have aa:q.heap.size=w.heap.size+1:=by rw[l];simp
 refine(DL w sb g t.length M (b.m_/20) b.m_ b.m_ b.stop K y G D E H B x C (λw'=>Fz sb w w'/\kV fp F w' sb mb mo st s t.length) (λW=>Below q.heap.size q W) hq ?_ (λW hW=>?_))
 ·show Calls _ _ _ _ _
  rw[<-l];refine(IR (h.grow N (λ_ h=>h) (λ_ h=>d6 h)) b.m_ hn).mono ?_
  rintro e w' ⟨a,fd,rfl,hb,T⟩
  have e1:a=b.m_/20:=by
   refine Nat.le_antisymm ?_ ?_
   ·cases a with
    |zero=>omega
    |succ a=>have:=T.lo a o_;omega
   ·rcases fk a (b.m_/20) with h8|h8
    ·have:=T.hi a o_ (d7 _);omega
    ·exact h8
  have e2:fd=true:=T.fnd.2 ⟨o_,o_⟩
  exact⟨by rw[e1,e2],hb⟩
 ·have c:Below w.heap.size w W:=N.trans (hW.mono o_)
  have m:=h.lt;have S:=h.grow c (λ_ h=>h) (λ_ h=>d6 h)
  have Q:=aD r3;have L:W.heap[g]?=some (.cells p 202 (0,0)):=by rw[c.block _ Q];exact r3
  have U:b.m_/20*6+5<p.size:=by rw[r6];have:=Nat.mul_le_mul_right 6 r4;omega
  refine⟨S.lt,aA (by rw[c.block _ m];exact X) rfl,aD L,⟨p,L,U⟩,by rw[hW.block _ o_];exact P,λV r=>?_⟩
  have o:g≠sb:=by have:=(I.lt g rfl).1;omega
  have j:∀k,k≠g->V.heap[k]?=W.heap[k]?:=λk j=>by rw[r.heap];exact JF W g _ _ _ _ _ _ _ _ _ _ k j
  have J:mB sb W=some g:=mF (by rw[c.block _ m];exact X) rfl
  have A:∀k,F k->k≠g:=λk j e=>h6 k j (by rw[e];rfl)
  have O:Fz sb W V:=by
   obtain⟨a1,a2,a3,a4⟩:=XA W ⟨g,b.m_/20*6+1,none⟩ ⟨g,b.m_/20*6+2,none⟩ ⟨g,b.m_/20*6+3,none⟩ ⟨g,b.m_/20*6+4,none⟩ ⟨g,b.m_/20*6+5,none⟩ (.int .i64 b.m_) (.slice K D B) (.slice y E x) (.slice G H C) (.int .i64 b.stop);refine⟨r.os.trans a1,r.tape.trans a2,r.output.trans a3,by rw[r.heap,a4];exact d7 _,λk d hc hr=>j k λe=>hr (by rw[e];exact J),λk d=>d6 ?_⟩
   rw[<-oV (j sb (λe=>o e.symm))];exact d
  refine⟨(Fz.of_below c m).trans O,⟨fv,tv,ov,.slice (some ⟨g,0,none⟩) t.length M,t.set (b.m_/20) ⟨t[b.m_/20].k,b.m_,.slice K D B,.slice y E x,.slice G H C,b.stop⟩,?_,?_,?_,s_,λi hi=>?_,h6,h7⟩,h.now,λk d=>?_,?_⟩
  ·rw[j sb (λe=>o e.symm),c.block _ m];exact X
  ·exact h2.keep (λk d=>by rw[j k (A k d),c.block k (h.fix k d).1]) λ_ h=>h
  ·exact XC (iW I c) hq r.heap
  ·have u:i<t.length:=by simpa using hi
   have f:∀k,F k->V.heap[k]?=w.heap[k]?:=λk d=>by rw[j k (A k d),c.block k (h.fix k d).1]
   by_cases z:i=b.m_/20
   ·subst z;rw[List.getElem_set_self];refine⟨(Z _ u).1,b,?_,hv.keep f λ_ h=>h⟩
    rw[show 20*(b.m_/20)=b.m_ by omega];exact hs
   ·rw[List.getElem_set_ne (λe=>z e.symm)]
    exact(Z i u).keep f λ_ h=>h
  ·have:=h.fix k d;exact⟨by rw[r.heap];simpa using el this.1 c.size,this.2⟩
  ·refine⟨?_,h.map.2⟩;rw[j mb (λe=>h7 (by rw[e];rfl)),c.block _ (aD h.map.1)];exact h.map.1
end
section
variable {fp:Nat->Value} {F G:Nat->Prop} {w w':World} {sb mb n:Nat} {mo:Obj} {st:Nat->Option bZ} {s:bZ}
def L3{j:List Ent}{b_ g f i m:Nat}{W:World}{k0 a e:Int}{b c d:Value}(k:j.length=m)(h:w.ownsRow b_ 202 6 (.slice (some ⟨g,0,none⟩) m f) m (jI j))(o:i<j.length)(l:j[i].k=k0)
 (n:W.heap=(((((w.setCell ⟨g,i*6+1,none⟩ (.int .i64 a)).setCell ⟨g,i*6+2,none⟩ b).setCell ⟨g,i*6+3,none⟩ c).setCell ⟨g,i*6+4,none⟩ d).setCell ⟨g,i*6+5,none⟩ (.int .i64 e)).heap):
 W.ownsRow b_ 202 6 (.slice (some ⟨g,0,none⟩) m f) m (jI (j.set i ⟨k0,a,b,c,d,e⟩)):=by
 subst k l;exact XC h o n
def C1(h:kV fp F w sb mb mo st s n)(v:Value)(f:bZ)(hv:oA fp F w v f)(hs:st f.m_=some f)(hm:f.m_%20=0)(hq:f.m_/20=n)(hn:n<=1000):
 Calls prog 69 #[.pointer (some ⟨sb,5,none⟩),.int .i64 f.m_,v] w λe w'=>e=.returned (.tuple #[])/\Fz sb w w'/\kV fp F w' sb mb mo st s (n+1):=by
 obtain⟨f',t',o',rfl,⟨Y,T,P,rfl⟩,⟨O,U,N,rfl⟩,⟨V,X,Q,rfl⟩⟩:=hv.form;obtain⟨fv,tv,ov,ev,S,h1,h2,h3,h4,h5,h6,h7⟩:=h.blk;have I:=h.lt;have ae:=h3;obtain⟨x,c,rfl⟩:=cV h3;obtain⟨y,B⟩:=E_ (w.alloc (.cells #[.int .i64 f.m_,.slice Y T P,.slice O U N,.slice V X Q,.int .i64 f.stop] 72));have C:Below w.heap.size w y:=by rw[B];exact(eh _ _).alloc (d7 _) _
 have ai:y.heap[w.heap.size]?=some (.cells #[.int .i64 f.m_,.slice Y T P,.slice O U N,.slice V X Q,.int .i64 f.stop] 72 (0,0)):=by rw[B];exact aS _ _ rfl _
 have av:y.heap.size=w.heap.size+1:=by rw[B];simp
 have H:∀k,(Value.slice x n c).ownBlock=some k->sb<k/\k<w.heap.size:=λk j=>by have:=ae.lt k j;exact⟨o_,this.2⟩
 refine(LX w sb n x c f.m_ f.m_ f.stop Y O V T U X P N Q (λw'=>Fz sb w w'/\kV fp F w' sb mb mo st s (n+1)) (λW=>Below y.heap.size y W)
  (λg l W=>(∀k,k<y.heap.size->some k≠(Value.slice x n c).ownBlock->W.heap[k]?=y.heap[k]?)/\W.os=w.os/\W.tape=w.tape/\W.output=w.output/\y.heap.size<=W.heap.size/\((Value.slice x n c).ownBlock=some g\/y.heap.size<=g)/\W.ownsRow (sb+1) 202 6 (.slice (some ⟨g,0,none⟩) (n+1) l) (n+1) (jI S++[.int .i64 f.m_,.int .i64 0,.slice none 0 0,.slice none 0 0,.slice none 0 0,.int .i64 0])) o_ ?_ (λW hW=>?_) (λg l W hW=>?_))
 ·show Calls _ _ _ _ _
  rw[<-B];refine(IR (h.grow C (λ_ h=>h) (λ_ h=>d6 h)) f.m_ hn).mono ?_
  rintro e w' ⟨a,fd,rfl,hb,hf⟩
  have e1:a=n:=by
   refine Nat.le_antisymm hf.le ?_;rcases fk a n with m|m
   ·have:=hf.hi a m (d7 _);omega
   ·exact m
  have e2:fd=false:=by
   cases fd with
   |false=>rfl
   |true=>have:=(hf.fnd.1 rfl).1;omega
  exact⟨by rw[e1,e2],hb⟩
 ·have o:Below w.heap.size w W:=C.trans (hW.mono o_)
  have ao:=iW ae o;refine⟨el I o.size,aA (by rw[o.block _ I];exact h1) rfl,?_⟩
  refine(VL _ (sb+1) W.heap.size n (.slice x n c) (jI S) f.m_ (ao.alloc _) (aS _ _ rfl _) o_ (by have:=o.size;simp;omega)).mono ?_
  rintro e w' ⟨g,l,rfl,q1,q2,q3⟩;have aw:=hW.size;have aq:=q2.size;simp only[World.size_alloc] at aq;refine⟨g,l,rfl,λk j q=>?_,?_,?_,?_,o_,?_,q1⟩
  ·rw[q2.block k t_ q,eq _ _ _ o_,hW.block k j]
  ·exact q2.os.trans o.os
  ·exact q2.tape.trans o.tape
  ·exact q2.output.trans o.output
  ·rcases q3 with q3|q3
   ·exact d6 q3
   ·exact d5 (by rw[q3];simp;omega)
 ·obtain⟨b1,b2,b3,b4,b5,b6,b7⟩:=hW;have ap:=b7;have t:g≠sb:=by have:=(b7.lt g rfl).1;omega
  have aj:g≠w.heap.size:=by
   rcases b6 with m|m
   ·have:=H g m;omega
   ·omega
  rcases b7.2 with ⟨r1,_⟩|⟨g',ar,aa,r1,r2,r3,r4,r5,r6,r7⟩
  ·cases r1
  cases r1
  have u:W.heap[sb]?=some (.cells #[.int .i64 s.m_,fv,tv,ov,.int .i64 s.stop,.slice x n c,.map (some mb)] 78 (0,0)):=by
   rw[b1 sb o_ (λe=>by have:=H sb e.symm;omega),C.block _ I];exact h1
  have am:n*6+5<aa.size:=by rw[r6];omega
  refine⟨o_,t,aj,o_,⟨_,aA u rfl⟩,aE u,aD r3,⟨aa,r3,am⟩,by rw[b1 _ o_ (λe=>by have:=H _ e.symm;omega)];exact ai,λZ M=>?_⟩
  generalize K:W.setCell ⟨sb,5,none⟩ (.slice (some ⟨g,0,none⟩) (n+1) l)=A at M;have ag:∀k,k≠sb->A.heap[k]?=W.heap[k]?:=λk j=>by rw[<-K];exact ej _ _ _ _ j
  have ad:A.heap[sb]?=some (.cells #[.int .i64 s.m_,fv,tv,ov,.int .i64 s.stop,.slice (some ⟨g,0,none⟩) (n+1) l,.map (some mb)] 78 (0,0)):=by rw[<-K];exact aQ u
  have p:A.os=W.os/\A.tape=W.tape/\A.output=W.output/\A.heap.size=W.heap.size:=by rw[<-K];exact⟨rfl,rfl,rfl,s_⟩
  have ac:∀k,k≠g->Z.heap[k]?=A.heap[k]?:=λk j=>by rw[M.heap];exact JF A g _ _ _ _ _ _ _ _ _ _ k j
  obtain⟨a1,a2,a3,a4⟩:=XA A ⟨g,n*6+1,none⟩ ⟨g,n*6+2,none⟩ ⟨g,n*6+3,none⟩ ⟨g,n*6+4,none⟩ ⟨g,n*6+5,none⟩ (.int .i64 f.m_) (.slice Y T P) (.slice O U N) (.slice V X Q) (.int .i64 f.stop);have ab:Z.heap.size=W.heap.size:=by rw[M.heap,a4,p.2.2.2]
  have E:∀k,k<w.heap.size->k≠sb->some k≠(Value.slice x n c).ownBlock->Z.heap[k]?=w.heap[k]?:=λk j q hr=>by
   have ak:k≠g:=λe=>by
    rcases b6 with m|m
    ·exact hr (by rw[e];exact m.symm)
    ·omega
   rw[ac k ak,ag k q,b1 k o_ hr,C.block k j]
  have G:∀k,F k->Z.heap[k]?=w.heap[k]?:=λk j=>E k (h.fix k j).1 (h.fix k j).2.1 λe=>h6 k j e.symm
  have an:=aD h.map.1;have r:mB sb w=(Value.slice x n c).ownBlock:=mF h1 rfl;have D:Z.heap[sb]?=some (.cells #[.int .i64 s.m_,fv,tv,ov,.int .i64 s.stop,.slice (some ⟨g,0,none⟩) (n+1) l,.map (some mb)] 78 (0,0)):=by rw[ac sb (λe=>t e.symm)];exact ad
  obtain⟨z,hz⟩:∃z:Ent,z=⟨f.m_,0,.slice none 0 0,.slice none 0 0,.slice none 0 0,0⟩:=⟨_,rfl⟩
  have J:A.ownsRow (sb+1) 202 6 (.slice (some ⟨g,0,none⟩) (n+1) l) (n+1) (jI (S++[z])):=by
   rw[MF,hz];exact aX ap λk e=>ag k (by cases e;exact t)
  have L:(S++[z]).length=n+1:=by simp[h4]
  have al:(S++[z])[n]'(by rw[L];omega)=z:=by rw[kb o_];simp
  have af:=L3 (W:=Z) (i:=n) (k0:=f.m_) (a:=f.m_) (b:=.slice Y T P) (c:=.slice O U N) (d:=.slice V X Q) (e:=f.stop) L J (by rw[L];omega) (by rw[al,hz]) M.heap
  refine⟨⟨M.os.trans (a1.trans (p.1.trans b2)),M.tape.trans (a2.trans (p.2.1.trans b3)),M.output.trans (a3.trans (p.2.2.1.trans b4)),by rw[ab];omega,λk j q hr=>E k j q (λe=>hr (by rw[r];exact e.symm)),λk j=>?_⟩,⟨fv,tv,ov,.slice (some ⟨g,0,none⟩) (n+1) l,(S++[z]).set n ⟨f.m_,f.m_,.slice Y T P,.slice O U N,.slice V X Q,f.stop⟩,D,h2.keep G λ_ h=>h,?_,by simp[h4],λi hi=>?_,λk j e=>?_,λe=>?_⟩,h.now,λk j=>?_,?_⟩
  ·rw[mF D rfl] at j;cases j;rcases b6 with m|m
   ·exact d6 (by rw[r];exact m)
   ·exact d5 (by show w.heap.size<=g;omega)
  ·exact af
  ·have au:i<n+1:=by simpa [h4] using hi
   by_cases ah:i=n
   ·subst ah;rw[List.getElem_set_self];refine⟨by show (f.m_:Int)=_;omega,f,?_,hv.keep G λ_ h=>h⟩
    rw[show 20*i=f.m_ by omega];exact hs
   ·rw[List.getElem_set_ne (λe=>ah e.symm),ka o_]
    exact(h5 i o_).keep G λ_ h=>h
  ·have e':g=k:=by simpa [Value.ownBlock] using e
   rcases b6 with m|m
   ·exact h6 k j (by rw[<-e'];exact m)
   ·have:=(h.fix _ j).1;omega
  ·have e':g=mb:=by simpa [Value.ownBlock] using e
   rcases b6 with m|m
   ·exact h7 (by rw[<-e'];exact m)
   ·omega
  ·have:=h.fix k j;exact⟨by rw[ab];omega,this.2⟩
  ·exact⟨by rw[E mb an h.map.2 (λe=>h7 e.symm)];exact h.map.1,h.map.2⟩
def IQ(h:kV fp F w sb mb mo st s n)(v:Value)(a:bZ)(z:oA fp F w v a)(u:st a.m_=some a)(D:a.m_%20=0->a.m_/20<=n)(y:n<=1000)(i:a.m_<=1000000):
 Calls prog 37 #[.pointer (some ⟨sb,0,none⟩),v] w λe w'=>e=.returned (.tuple #[])/\Fz sb w w'/\kV fp F w' sb mb mo st s (if a.m_%20=0/\a.m_/20=n then n+1 else n):=by
 obtain⟨H,G,I,rfl,⟨B,A,q,rfl⟩,⟨x,C,r,rfl⟩,⟨o,p,t,rfl⟩⟩:=z.form;by_cases b:a.m_%20=0
 ·refine TR w sb a.m_ a.stop B x o A C p q r t _ b i λW g=>?_
  have d:=h.grow g (λ_ h=>h) (λ_ h=>d6 h)
  have c:=z.keep (λk E=>g.block k (h.fix k E).1) λ_ h=>h
  rcases g8 (D b) with e|e
  ·rw[if_pos ⟨b,e⟩];refine(C1 d _ a c u b e y).mono ?_;rintro e w' ⟨f,j,l⟩;exact⟨f,(Fz.of_below g h.lt).trans j,l⟩
  ·rw[if_neg o_]
   refine(C2 d _ a c u b e y i).mono ?_;rintro e w' ⟨f,j,l⟩;exact⟨f,(Fz.of_below g h.lt).trans j,l⟩
 ·rw[if_neg (λe=>b e.1)]
  refine(YU w sb a.m_ a.stop B x o A C p q r t b i).mono ?_;rintro e w' ⟨f,m⟩;exact⟨f,Fz.of_below m h.lt,h.grow m (λ_ h=>h) (λ_ h=>d6 h)⟩
end
def F1(s:ByteArray)(w:World)(c:s.size<=281474976710656):Calls prog 35 #[.string s] w λe w'=>e=.returned (.string s)/\Below w.heap.size w w':=by
 have d:=aB (stringslite_Clone s w c);go_enter func35,ntmps35;go_wp2_with fail;refine d.out.mono ?_;rintro e f ⟨rfl,a⟩;have b:=aB a;clear a;go_wp2_with fail;go_ret;exact⟨rfl,b.out⟩
def TN(a:ByteArray)(b p:Nat)(w:World)(A:lG w)(J:a.size<=281474976710656)(K:w.cell? ⟨b,0,none⟩=some (.string a))(t:w.heap[p]?=some (.cells #[.slice none 0 0] 59 (0,0))):
 Calls prog 34 #[.pointer (some ⟨b,0,none⟩),.pointer (some ⟨p,0,none⟩)] w λe w'=>
  (dL a.data.toList=(0,0)/\e=.returned (.tuple #[])/\∃q v ks,Below w.heap.size w q/\cX a.data.toList=.ok ks/\FSl (Btw w.heap.size q.heap.size) q v ks/\w'=q.setCell ⟨p,0,none⟩ v)\/
  ((dL a.data.toList).1≠0/\e=dC (dL a.data.toList).1 (dL a.data.toList).2/\Below w.heap.size w w'):=by
 have C:=aB (F1 a w J);have D:Hid (∀W,Below w.heap.size w W->Calls prog 24 #[.string a] W (IS a.data.toList W)):=λW E=>ZF a W (A.below E) (by unfold maxLen;omega)
 have y:=aB t;have I:=aD t;clear A t;go_enter func34,ntmps34;go_wp2_with fail;refine C.out.mono ?_;rintro e q ⟨rfl,o⟩;have n:=aB (D.out q o);have d:=aB o;clear D C o;go_wp2_with fail;refine n.out.mono ?_;rintro e u ⟨f,⟨r,v,ks,rfl,B,s⟩|⟨r,rfl⟩⟩
 ·have m:=d.out.trans (f.mono d.out.size);have j:u.heap[p]?=some (.cells #[.slice none 0 0] 59 (0,0)):=by rw[m.block _ I];exact y.out
  have M:=aA j (i:=0) rfl;have L:=aE j (i:=0);have N:=aD j
  obtain⟨x,c,rfl⟩:∃x c,v=.slice x ks.length c:=by
   rcases s with ⟨rfl,rfl⟩|⟨g,F,H,O,rfl,_⟩
   ·exact⟨none,0,rfl⟩
   ·exact⟨_,_,rfl⟩
  have l:=aB (ez r (ez B (ez m (s.grow (G:=Btw w.heap.size u.heap.size) (λ_ _=>rfl) (λk z=>⟨em d.out.size z.1,z.2⟩)))))
  clear r B s f m j n d y;go_wp2_with fail;go_end0;exact d6 ⟨l.out.1,rfl,u,_,ks,l.out.2.2.1,l.out.2.1,l.out.2.2.2,rfl⟩
 ·have l:=aB (ez r (d.out.trans (f.mono d.out.size)));clear r f n d y;go_wp2_with fail;exact⟨rfl,d5 ⟨l.out.1,rfl,l.out.2⟩⟩
def N9(w:World):(Instr.makeMap 76 none).run prog w=.ok (.map (some w.heap.size)) (w.alloc (.map #[] 0)):=rfl
def QM(w:World)(r:ByteArray)(x:Option Addr)(n c:Nat)(P:Value->World->Prop)(A:World->Prop)(S:Nat->Value->Value->Value->Nat->World->Prop)
 (y:Hid (Calls prog 22 #[.func (.func 34) #[] #[.pointer (some ⟨w.heap.size,0,none⟩),.pointer (some ⟨w.heap.size+1,0,none⟩)]] ((w.alloc (.cells #[.string r] 9)).alloc (.cells #[.slice none 0 0] 59)) λe w'=>(e=.returned (.tuple #[.int .i64 0,.int .i64 0])/\A w')\/∃k l:Nat,k≠0/\e=.returned (.tuple #[.int .i64 k,.int .i64 l])/\P (.tuple #[.pointer none,.int .i64 k,.int .i64 l]) w'))
 (u:Hid (∀W,A W->∃s z B,W.cell? ⟨w.heap.size+1,0,none⟩=some (.slice s z B)/\w.heap.size+1<W.heap.size/\Calls prog 36 #[.slice s z B,.slice x n c] W λe w'=>∃(a:Nat) (m i b:Option Addr) (j o d c1 f g q:Nat),e=.returned (.agg #[.int .i64 a,.slice m j c1,.slice i o f,.slice b d g,.int .i64 q])/\S a (.slice m j c1) (.slice i o f) (.slice b d g) q w'))
 (C:Hid (∀(a:Nat) (m i b:Option Addr) (j o d c1 f g q:Nat) W,S a (.slice m j c1) (.slice i o f) (.slice b d g) q W->Calls prog 37 #[.pointer (some ⟨W.heap.size+1,0,none⟩),.agg #[.int .i64 a,.slice m j c1,.slice i o f,.slice b d g,.int .i64 q]] ((W.alloc (.map #[] 0)).alloc (.cells #[.int .i64 a,.slice m j c1,.slice i o f,.slice b d g,.int .i64 q,.slice none 0 0,.map (some W.heap.size)] 78)) λe w'=>e=.returned (.tuple #[])/\P (.tuple #[.pointer (some ⟨W.heap.size+1,0,none⟩),.int .i64 0,.int .i64 0]) w')):
 Calls prog 17 #[.string r,.slice x n c] w λe w'=>∃v,e=.returned v/\P v w':=by
 have I:=O0;have H:=N9;go_enter func17,ntmps17;go_wp2_with fail;refine y.out.mono ?_;rintro e N (⟨rfl,p⟩|⟨k,l,Q,rfl,p⟩)
 ·obtain⟨s,z,B,L,U,E⟩:=u.out _ p;have G:=aB E;clear p E y u;go_wp2_with fail;refine G.out.mono ?_;rintro e T ⟨a,m,i,b,j,o,d,c1,f,g,q,rfl,D⟩;have t:=aB (C.out _ _ _ _ _ _ _ _ _ _ _ _ D);clear D C G L;go_wp2_with fail;refine t.out.mono ?_;rintro e O ⟨rfl,F⟩;have J:=aB F;clear F;go_wp2_with fail;go_ret3
  exact⟨_,rfl,J.out⟩
 ·have M:=aB p;have K:¬(k:Int)=0:=o_
  clear p y u C;go_wp2_with fail;go_ret3
  exact⟨_,rfl,M.out⟩
structure Good(ks:List aC):Prop where
 fl:ks.length<=90000
 ok:∀f∈ks,kB ks 2001 f
 lit:∀f∈ks,∀k∈f.y_,mL k
 kl:∀f∈ks,f.y_.length<=90000
 main:fP ks (dA ks [109,97,105,110])=some 0
 utf:jS (dS ks 2001)
noncomputable def dH(ks:List aC)(tape:List Int):Nat->Option bZ:=fN (dS ks 2001) (iD ks 2001 tape)
def Good.rest0(h:Good ks)(a:List Int):Rest a.length (iD ks 2001 a):=by
 refine⟨?_,by simp[iD],by simp[iD]⟩
 intro f c;simp only[iD,et] at c;subst c;refine⟨?_,λv b=>by simp at b,λv b=>by simp at b⟩
 show vS ((dS ks 2001)[dA ks [109,97,105,110]]?.getD ⟨[],[]⟩)
 cases d:(dS ks 2001)[dA ks [109,97,105,110]]? with
 |none=>exact⟨λv b=>by simp at b,λv b=>by simp at b⟩
 |some f=>exact h.utf f (g9 d)
def Good.first(h:Good ks)(a:List Int):∃r,dV (dS ks 2001) jV (iD ks 2001 a)=some r/\r.2<=9/\dH ks a 0=some ⟨0,r.1,bS 0 r.2⟩:=by
 obtain⟨r,b,_⟩:=oS (lM h.ok) (tX h.ok h.main a);exact⟨r,b,(pZ h.utf _ _ _ (h.rest0 a) b).2,by simp[dH,fN,b]⟩
def i7(a b:Value)(W:World):(callFunc 34 #[a,b]).run prog W=.ok (.enter 34 #[a,b]) W:=k_
def R6(src:List UInt8)(tape:List Int)(w:World)(v:Value)(w':World):Prop:=
 Below w.heap.size w w'/\
 ((dL src=(0,0)/\∃ks fp G sb mb,cX src=.ok ks/\v=.tuple #[.pointer (some ⟨sb,0,none⟩),.int .i64 0,.int .i64 0]/\w.heap.size<=sb/\w.heap.size<=mb/\lE fp G w' (dS ks 2001)/\∃s,kV fp G w' sb mb (.map #[] 0) (dH ks tape) s 1/\s.m_=0)\/
  ((dL src).1≠0/\v=.tuple #[.pointer none,.int .i64 (dL src).1,.int .i64 (dL src).2]))
def VQ(j:ByteArray)(tv:Value)(s:List Int)(w:World)(hT:lG w)(hp:kI w)(hs:j.size<=281474976710656)(ht:XT w tv s)(an:s.length<=17592186044416)
 (hg:∀ks,cX j.data.toList=.ok ks->dL j.data.toList=(0,0)->Good ks):
 Calls prog 17 #[.string j,tv] w λe w'=>∃v,e=.returned v/\R6 j.data.toList s w v w':=by
 obtain⟨tx,tn,tc,rfl⟩:∃x n c,tv=.slice x n c:=by
  rcases ht with ⟨_,rfl⟩|⟨g,o,c,rfl,_⟩
  ·exact⟨_,_,_,rfl⟩
  ·exact⟨_,_,_,rfl⟩
 obtain⟨m,B⟩:=E_ ((w.alloc (.cells #[.string j] 9)).alloc (.cells #[.slice none 0 0] 59));have X:Below w.heap.size w m:=by rw[B];exact((eh _ _).alloc (d7 _) _).alloc s_ _
 have aq:m.heap.size=w.heap.size+2:=by rw[B];simp
 have am:m.heap[w.heap.size]?=some (.cells #[.string j] 9 (0,0)):=by rw[B];exact oM _ _ _
 have ab:m.heap[w.heap.size+1]?=some (.cells #[.slice none 0 0] 59 (0,0)):=by rw[B];exact lO _ _ _
 generalize O:dL j.data.toList=rd at*
 refine(QM w j tx tn tc (λv w'=>R6 j.data.toList s w v w')
  (λW=>rd=(0,0)/\∃lo z K A ks,cX j.data.toList=.ok ks/\Below w.heap.size w W/\W.cell? ⟨w.heap.size+1,0,none⟩=some (.slice z K A)/\w.heap.size+1<W.heap.size/\FSl (Btw lo W.heap.size) W (.slice z K A) ks)
  (λa v1 v2 v3 q W=>rd=(0,0)/\∃(ks:List aC) (U:Nat->Value) (G:Nat->Prop) (r:bX × Nat),cX j.data.toList=.ok ks/\Below w.heap.size w W/\(∀b,G b->b<W.heap.size)/\lE U G W (dS ks 2001)/\a=0/\q=bS 0 r.2/\oA U G W (.agg #[.int .i64 ((0:Nat):Int),v1,v2,v3,.int .i64 (bS 0 r.2)]) ⟨0,r.1,bS 0 r.2⟩/\dH ks s 0=some ⟨0,r.1,bS 0 r.2⟩)
  ?_ (λW hA=>?_) (λa x1 x2 x3 n1 n2 n3 c1 c2 c3 q W hS=>?_))
 ·show Calls _ _ _ _ _
  rw[<-B]
  refine(QV 34 (some ⟨w.heap.size,0,none⟩) (some ⟨w.heap.size+1,0,none⟩) m
   (λW=>rd=(0,0)/\∃z K A ks Y,cX j.data.toList=.ok ks/\Below (m.heap.size+2) ((m.alloc (.cells #[.int .i64 0] 22)).alloc (.cells #[.int .i64 0] 3)) Y/\FSl (Btw (m.heap.size+2) Y.heap.size) Y (.slice z K A) ks/\W=Y.setCell ⟨w.heap.size+1,0,none⟩ (.slice z K A))
   (λk l=>rd=(k,l)) (λW=>i7 _ _ W) (λW hW=>?_)).mono ?_
  ·have u:Below m.heap.size m W:=by rw[hW];exact((eh _ _).alloc (d7 _) _).alloc s_ _
   have T:W.heap.size=m.heap.size+2:=by rw[hW];simp
   have hK:W.heap[m.heap.size]?=some (.cells #[.int .i64 0] 22 (0,0)):=by rw[hW];exact oM _ _ _
   have hI:W.heap[m.heap.size+1]?=some (.cells #[.int .i64 0] 3 (0,0)):=by rw[hW];exact lO _ _ _
   refine(TN j w.heap.size (w.heap.size+1) W ((hT.below X).below u) hs (aA (by rw[u.block _ o_];exact am) rfl) (by rw[u.block _ o_];exact ab)).mono ?_
   rintro e w' (⟨M,E,Y,v,ks,H,t,Z,N⟩|⟨M,E,H⟩)
   ·obtain⟨z,A,rfl⟩:∃x c,v=.slice x ks.length c:=by
     rcases Z with ⟨rfl,rfl⟩|⟨g,ar,ap,us,rfl,_⟩
     ·exact⟨none,0,rfl⟩
     ·exact⟨_,_,rfl⟩
    have aa:∀k,m.heap.size<=k->k<W.heap.size->w'.heap[k]?=W.heap[k]?:=λk y af=>by
     rw[N,ej _ _ _ _ (show k≠w.heap.size+1 by omega),H.block k af]
    refine d6 ⟨E,by rw[aa _ (d7 _) o_];exact hK,by rw[aa _ o_ o_];exact hI,by rw[<-O];exact M,z,_,A,ks,Y,t,?_,?_,N⟩
    ·rw[<-hW,<-T];exact H
    ·rw[<-T];exact Z
   ·refine d5 ⟨_,_,M,E,H,?_⟩;rw[<-O]
  ·rintro e w' (⟨E,Y,⟨M,z,K,A,ks,w0,H,t,Z,N⟩,h5⟩|⟨k,l,y,E,J,hE⟩)
   ·refine d6 ⟨E,M,m.heap.size+2,z,K,A,ks,H,?_⟩;have aj:Below w.heap.size w w0:=X.trans ((((eh m.heap.size m).alloc (d7 _) _).alloc s_ _).mono o_ |>.trans (t.mono o_))
    have ag:w'.heap.size=w0.heap.size:=by rw[h5,N];simp
    have ai:=t.size;simp only[World.size_alloc] at ai
    have ae:∀k,k≠w.heap.size+1->k≠m.heap.size->k≠m.heap.size+1->w'.heap[k]?=w0.heap[k]?:=λk q1 q2 q3=>by
     rw[h5,ej _ _ _ _ (show k≠m.heap.size+1 from q3),ej _ _ _ _ (show k≠m.heap.size from q2),N,ej _ _ _ _ (show k≠w.heap.size+1 from q1)]
    have hB:w'.heap[w.heap.size+1]?=some (.cells #[.slice z K A] 59 (0,0)):=by
     rw[h5,ej _ _ _ _ (show w.heap.size+1≠m.heap.size+1 by omega),ej _ _ _ _ (show w.heap.size+1≠m.heap.size by omega),N]
     have:w0.heap[w.heap.size+1]?=some (.cells #[.slice none 0 0] 59 (0,0)):=by
      rw[t.block _ o_,eq _ _ _ t_,eq _ _ _ o_];exact ab
     rw[aQ this];rfl
    refine⟨?_,aA hB rfl,o_,?_⟩
    ·rw[h5,N];exact((aj.setCell (show w.heap.size<=w.heap.size+1 by omega) _).setCell (show w.heap.size<=m.heap.size by omega) _).setCell (show w.heap.size<=m.heap.size+1 by omega) _
    ·exact Z.grow (λb J=>ae b (by have:=J.1;omega) (by have:=J.1;omega) (by have:=J.1;omega)) (λb J=>⟨J.1,by rw[ag];exact J.2⟩)
   ·refine d5 ⟨k,l,y,E,X.trans (J.mono o_),d5 ?_⟩
    rw[O,hE];exact⟨y,rfl⟩
 ·obtain⟨M,lo,z,K,A,ks,H,t,Z,N,h5⟩:=hA;refine⟨z,K,A,Z,N,?_⟩;have f:=hg ks H M;obtain⟨r,ah,ao,ak⟩:=f.first s
  refine(UU (lo:=lo) (d:=2001) _ _ W h5 f.fl f.ok f.lit f.kl f.main ?_ an (hp.below t) f.utf ah o_).mono ?_
  ·rcases ht with ht|⟨g,o,c,e,ad,hc⟩
   ·exact d6 ht
   ·exact d5 ⟨g,o,c,e,el ad t.size,λi hi=>⟨(t.cell (p:=⟨g,o+i,none⟩) ad).trans (hc i hi).1,(hc i hi).2⟩⟩
  ·rintro e w' ⟨v',E,J,U,G,hG,I,P⟩;obtain⟨f',t',o',rfl,⟨x1,n1,c1,rfl⟩,⟨x2,n2,c2,rfl⟩,⟨x3,n3,c3,rfl⟩⟩:=P.form;exact⟨0,x1,x2,x3,n1,n2,n3,c1,c2,c3,_,E,M,ks,U,G,r,H,t.trans (J.mono t.size),hG,I,rfl,rfl,P,ak⟩
 ·obtain⟨M,ks,U,G,r,H,t,hG,I,rfl,rfl,P,Q⟩:=hS;obtain⟨L,D⟩:=E_ ((W.alloc (.map #[] 0)).alloc (.cells #[.int .i64 ((0:Nat):Int),.slice x1 n1 c1,.slice x2 n2 c2,.slice x3 n3 c3,.int .i64 (bS 0 r.2),.slice none 0 0,.map (some W.heap.size)] 78));have u:Below W.heap.size W L:=by rw[D];exact((eh _ _).alloc (d7 _) _).alloc s_ _
  have T:L.heap.size=W.heap.size+2:=by rw[D];simp
  have hM:L.heap[W.heap.size]?=some (.map #[] 0):=by rw[D];exact oM _ _ _
  have hB:L.heap[W.heap.size+1]?=some (.cells #[.int .i64 ((0:Nat):Int),.slice x1 n1 c1,.slice x2 n2 c2,.slice x3 n3 c3,.int .i64 (bS 0 r.2),.slice none 0 0,.map (some W.heap.size)] 78 (0,0)):=by rw[D];exact lO _ _ _
  rw[<-D];have S:=P.keep (λk y=>u.block k (hG k y)) λ_ h=>h
  have ac:kV U G L (W.heap.size+1) W.heap.size (.map #[] 0) (dH ks s) ⟨0,r.1,bS 0 r.2⟩ 0:=by
   refine⟨⟨_,_,_,.slice none 0 0,[],hB,S,World.ownsRow_nil _ _ _ _,rfl,λi hi=>by simp at hi,λk y e=>?_,λe=>?_⟩,Q,λk y=>?_,hM,o_⟩
   ·simp[Value.ownBlock] at e
   ·simp[Value.ownBlock] at e
   ·have:=hG k y;exact⟨o_,o_,o_⟩
  refine(IQ ac _ ⟨0,r.1,bS 0 r.2⟩ S Q (λ_=>by simp) o_ s_).mono ?_
  rintro e w' ⟨E,hf,al⟩;have V:=I.keep (λk y=>u.block k (hG k y)) (λ_ h=>h)
  refine⟨E,?_,d6 ⟨by rw[O];exact M,ks,U,G,W.heap.size+1,W.heap.size,H,rfl,by have:=t.size;omega,t.size,?_,⟨0,r.1,bS 0 r.2⟩,by simpa using al,rfl⟩⟩
  ·have C:Below w.heap.size w L:=t.trans (u.mono t.size);have F:mB (W.heap.size+1) L=none:=by rw[mF hB rfl];rfl
   exact⟨hf.os.trans C.os,hf.tape.trans C.tape,hf.output.trans C.output,em C.size hf.size,λk y=>by
    have:=t.size;rw[hf.blk k o_ o_ (by rw[F];simp),C.block k y]⟩
  ·refine V.keep (λk y=>?_) λ_ h=>h
   have F:mB (W.heap.size+1) L=none:=by rw[mF hB rfl];rfl
   have:=hG k y;exact hf.blk k o_ o_ (by rw[F];simp)
def o8:prog.globalNamed "internal/strconv.uint64pow10"=some 1:=k_
def kI.low(h:kI w)(a:∀k,k<11->w'.heap[k]?=w.heap[k]?):kI w':=h.keep o8 (a _ d_)
def oA.sv{b:Nat->Value}{a:bZ}(h:oA b F w v a):∃s:SV,v=s.val/\s.t=a.m_/\s.q=a.stop:=by
 obtain⟨f,t,o,rfl,⟨l,k,e,rfl⟩,⟨j,m,g,rfl⟩,⟨c,d,i,rfl⟩⟩:=h.form;exact⟨⟨a.m_,l,j,c,k,m,d,e,g,i,a.stop⟩,rfl,rfl,rfl⟩
section
variable {fp:Nat->Value} {F G:Nat->Prop} {w w':World} {sb mb n n':Nat} {mo:Obj} {st:Nat->Option bZ} {s:bZ}
def kV.same(h:kV fp F w sb mb mo st s n)(d:w.heap.size<=w'.heap.size)(c:∀k,F k\/k=sb\/k=mb\/mB sb w=some k->w'.heap[k]?=w.heap[k]?):kV fp F w' sb mb mo st s n:=by
 obtain⟨z,m,v,e,t,f,j,u,o,q,y,p⟩:=h.blk;have g:∀b,F b->w'.heap[b]?=w.heap[b]?:=λb l=>c b (d6 l)
 have r:mB sb w=e.ownBlock:=mF f rfl;refine⟨⟨z,m,v,e,t,by rw[c sb (d5 (d6 rfl))];exact f,j.keep g λ_ h=>h,aX u λk a=>c k (d5 (d5 (d5 (by rw[r];exact a)))),o,λi x=>(q i x).keep g λ_ h=>h,y,p⟩,h.now,λk a=>⟨el (h.fix k a).1 d,(h.fix k a).2⟩,by rw[c mb (d5 (d5 (d6 rfl)))];exact h.map.1,h.map.2⟩
def Fz.other{b:Nat}(h:Fz sb w w')(m:w.heap.size<=b)(j:sb<w.heap.size){c:World}(d:c.heap.size=w'.heap.size)(a:c.os=w'.os/\c.tape=w'.tape/\c.output=w'.output)(f:∀k,k≠b->c.heap[k]?=w'.heap[k]?):Fz sb w c:=
 ⟨a.1.trans h.os,a.2.1.trans h.tape,a.2.2.trans h.output,by rw[d];exact h.size,λk i g l=>by rw[f k o_];exact h.blk k i g l,λk e=>h.row k (by rw[<-oV (f sb o_)];exact e)⟩
end
structure Live(fp:Nat->Value)(F:Nat->Prop)(w:World)(sb mb:Nat)(mo:Obj)(ks:List aC)(tape:List Int)(s:bZ)(n:Nat)(L:List Nat):Prop where
 ses:kV fp F w sb mb mo (dH ks tape) s n
 tab:lE fp F w (dS ks 2001)
 pow:kI w
 low:11<=sb/\11<=mb
 hn:s.m_/20<n
 loc:∀b∈L,11<=b/\b<w.heap.size/\¬F b/\mB sb w≠some b/\b≠sb/\b≠mb
section
variable {fp:Nat->Value} {F G:Nat->Prop} {w w':World} {sb mb n n':Nat} {mo:Obj} {ks:List aC} {tape:List Int} {s:bZ} {L:List Nat}
def Live.row(h:Live fp F w sb mb mo ks tape s n L){k:Nat}(a:mB sb w=some k):sb<k/\k<w.heap.size/\¬F k/\k≠mb:=h.ses.row k a
def Live.keep(h:Live fp F w sb mb mo ks tape s n L)(L':List Nat)(f:∀b∈L',b∈L)(g:w.heap.size<=w'.heap.size)(c:∀k,k<w.heap.size->k∉L'->w'.heap[k]?=w.heap[k]?):Live fp F w' sb mb mo ks tape s n L:=by
 have l:=h.ses.lt;have e:w'.heap[sb]?=w.heap[sb]?:=c sb l λa=>(h.loc sb (f sb a)).2.2.2.2.1 rfl
 have m:∀b,F b->w'.heap[b]?=w.heap[b]?:=λb i=>c b (h.ses.fix b i).1 λa=>(h.loc b (f b a)).2.2.1 i
 refine⟨h.ses.same g λk d=>?_,h.tab.keep m λ_ h=>h,h.pow.low λk d=>c k (by have:=h.low;omega) λa=>by have:=(h.loc k (f k a)).1;omega,h.low,h.hn,λb i=>?_⟩
 ·rcases d with j|rfl|rfl|j
  ·exact m k j
  ·exact e
  ·exact c _ (aD h.ses.map.1) λa=>(h.loc _ (f _ a)).2.2.2.2.2 rfl
  ·exact c k (h.row j).2.1 λa=>(h.loc k (f k a)).2.2.2.1 j
 ·obtain⟨r,t,o,q,p⟩:=h.loc b i;exact⟨r,el t g,o,by rw[oV e];exact q,p⟩
def Live.alloc(h:Live fp F w sb mb mo ks tape s n L)(o:Obj):Live fp F (w.alloc o) sb mb mo ks tape s n (w.heap.size::L):=by
 have a:Live fp F (w.alloc o) sb mb mo ks tape s n L:=h.keep [] (λb c=>by cases c) s_ λk d _=>eq _ _ _ d
 refine⟨a.ses,a.tab,a.pow,a.low,a.hn,λb c=>?_⟩
 rcases en.1 c with rfl|c
 ·have f:=h.ses.lt;have i:=h.low;refine⟨o_,s_,λg=>by have:=(h.ses.fix _ g).1;omega,λe=>?_,o_,by have:=aD h.ses.map.1;omega⟩
  rw[oV (eq _ _ _ f)] at e;have:=(h.row e).2.1;omega
 ·exact a.loc b c
def Live.drop(h:Live fp F w sb mb mo ks tape s n L){L':List Nat}(c:∀b∈L',b∈L):Live fp F w sb mb mo ks tape s n L':=⟨h.ses,h.tab,h.pow,h.low,h.hn,λb a=>h.loc b (c b a)⟩
def Live.fs(h:Live fp F w sb mb mo ks tape s n L)(d:Fz sb w w')(m:kV fp G w' sb mb mo (dH ks tape) s n')(f:Ext F G w.heap.size)(p:n<=n'):Live fp G w' sb mb mo ks tape s n' L:=by
 have q:∀b,F b->w'.heap[b]?=w.heap[b]?:=λb c=>d.blk b (h.ses.fix b c).1 (h.ses.fix b c).2.1 λe=>(h.row e).2.2.1 c
 refine⟨m,h.tab.keep q f.sub,h.pow.low λk t=>d.blk k (by have:=h.low;have:=h.ses.lt;omega) (by have:=h.low;omega) λe=>by have:=(h.row e).1;have:=h.low;omega,h.low,el h.hn p,λb c=>?_⟩
 obtain⟨i,j,l,g,o⟩:=h.loc b c;refine⟨i,el j d.size,λr=>?_,λe=>?_,o⟩
 ·rcases f.new b r with a|a
  ·exact l a
  ·omega
 ·rcases d.row b e with a|a
  ·exact g a
  ·omega
def Live.blk(h:Live fp F w sb mb mo ks tape s n L)(c:Fz sb w w'){b:Nat}(e:b∈L):w'.heap[b]?=w.heap[b]?:=by
 obtain⟨g,d,i,a,f,j⟩:=h.loc b e;exact c.blk b d f a
def Live.stR(h:Live fp F w sb mb mo ks tape s n L)(d:Fz sb w w')(g:Ext F G w.heap.size){v:Value}{c:bZ}(f:oA fp F w v c):oA fp G w' v c:=
 f.keep (λb a=>d.blk b (h.ses.fix b a).1 (h.ses.fix b a).2.1 λe=>(h.row e).2.2.1 a) g.sub
def Good.sta(b:Good ks){t:Nat}{a:bZ}(h:dH ks tape t=some a):SK (fP ks) a/\a.m_=t/\Rest tape.length a.m/\a.stop<=9:=by
 obtain⟨e,c⟩:=CH (lM b.ok) (tX b.ok b.main tape) t a h;obtain⟨f,d⟩:=IP b.utf (b.rest0 tape) t a h;exact⟨e,c,f,d⟩
def Live.count(e:Good ks)(h:Live fp F w sb mb mo ks tape s n L):n<=26:=by
 obtain⟨_,_,_,_,i,_,_,_,g,c,_⟩:=h.ses.blk;rcases jq n with d|d
 ·omega
 obtain⟨_,j,a,_⟩:=c (n-1) o_
 obtain⟨b,f,_⟩:=e.sta a;have:=b.m_;omega
def Good.next(c:Good ks){a:bZ}{t:Nat}(h:dH ks tape t=some a)(d:a.stop=0):∃r,dV (dS ks 2001) jV a.m=some r/\r.2<=9/\dH ks tape (a.m_+1)=some ⟨a.m_+1,r.1,bS (a.m_+1) r.2⟩:=by
 obtain⟨f,e,g,i⟩:=c.sta h;obtain⟨r,b,_⟩:=oS (lM c.ok) (f.ok d).1;refine⟨r,b,(pZ c.utf _ _ _ g b).2,?_⟩;unfold dH at h ⊢
 rw[e,fN,h];simp[d,b]
def AU:SV:=⟨0,none,none,none,0,0,0,0,0,0,0⟩
def S4(fp:Nat->Value)(F:Nat->Prop)(w:World)(sb mb:Nat)(mo:Obj)(ks:List aC)(tape:List Int)(s:bZ)(n:Nat)(L:List Nat)(σ:bZ)(v':SV)(ok:Bool)(w':World):Prop:=
 ∃G n',n<=n'/\Ext F G w.heap.size/\Fz sb w w'/\Live fp G w' sb mb mo ks tape s n' L/\(ok=true->σ.stop=0/\∃σ',dH ks tape (σ.m_+1)=some σ'/\σ'.m_=σ.m_+1/\oA fp G w' v'.val σ'/\σ'.m_/20<n')/\(ok=false->σ.stop≠0)
def YR(O:Good ks)(h:Live fp F w sb mb mo ks tape s n L)(ap:tape.length<=17592186044416)(v:SV)(d:bZ)(hv:oA fp F w v.val d)(T:dH ks tape d.m_=some d)(ai:d.m_/20<n):
 Calls prog 60 #[.pointer (some ⟨sb,0,none⟩),v.val] w λe w'=>∃v' ok,e=.returned (.tuple #[SV.val v',.bool ok])/\S4 fp F w sb mb mo ks tape s n L d v' ok w':=by
 obtain⟨t,l⟩:=E_ ((w.alloc (.cells v.cells 72)).alloc (.cells #[.int .i64 0,.slice none 0 0,.slice none 0 0,.slice none 0 0,.int .i64 0] 72));have c:Below w.heap.size w t:=by rw[l];exact((eh _ _).alloc (d7 _) _).alloc s_ _
 have am:t.heap.size=w.heap.size+2:=by rw[l];simp
 have K:t.heap[w.heap.size+1]?=some (.cells #[.int .i64 0,.slice none 0 0,.slice none 0 0,.slice none 0 0,.int .i64 0] 72 (0,0)):=by rw[l];exact lO _ _ _
 have y:∀b,F b->b<w.heap.size:=λb a=>(h.ses.fix b a).1
 have p:=h.ses.lt;have ak:=aD h.ses.map.1;obtain⟨z,ao,H,aq⟩:=O.sta T;have aj:=h.count O;by_cases E:d.stop=0
 ·obtain⟨r,ad,al,P⟩:=O.next T E
  refine CM w sb v (S4 fp F w sb mb mo ks tape s n L d)
   (λf ok W=>ok=true/\Below t.heap.size t W/\∃o,Ext F o t.heap.size/\(∀b,o b->b<W.heap.size)/\oA fp o W f.val ⟨d.m_+1,r.1,bS (d.m_+1) r.2⟩) ?_ (λf W I=>?_) (λf W I=>?_)
  ·show Calls _ _ _ _ _
   rw[<-l];refine(TP (lM O.ok) O.utf (hv.keep (λb a=>c.block b (y b a)) λ_ h=>h) (λb a=>el (y b a) c.size) (h.tab.keep (λb a=>c.block b (y b a)) λ_ h=>h) (h.pow.below c) E (z.ok E).1 (z.ok E).2 H.utf H.out (by have:=H.tape;omega) ad (by have:=z.m_;omega) o_).mono ?_
   rintro e w' ⟨v',rfl,a,o,G,M,X⟩;obtain⟨f,rfl,_⟩:=X.sv;exact⟨f,true,rfl,rfl,a,o,G,M,X⟩
  ·cases I.1
  ·obtain⟨_,a,o,G,M,X⟩:=I;have aa:=a.size;obtain⟨x,A⟩:=E_ (W.alloc (.cells f.cells 72));have B:Below W.heap.size W x:=by rw[A];exact(eh _ _).alloc (d7 _) _
   have an:x.heap.size=W.heap.size+1:=by rw[A];simp
   have ah:x.heap[W.heap.size]?=some (.cells f.cells 72 (0,0)):=by rw[A];exact aS _ _ rfl _
   have i:Below w.heap.size w x:=c.trans ((a.mono c.size).trans (B.mono o_))
   show Calls _ _ _ _ _
   rw[<-A]
   have m:kV fp o x sb mb mo (dH ks tape) s n:=h.ses.grow i G.sub λk u=>by
    rcases G.new k u with j|j
    ·exact d6 j
    ·exact d5 ⟨o_,by have:=M k u;omega⟩
   refine(IQ m f.val ⟨d.m_+1,r.1,bS (d.m_+1) r.2⟩ (X.keep (λb g=>B.block b (M b g)) λ_ h=>h) P (λhm=>by simp only at hm ⊢;omega) o_ (by have:=z.m_;simp only;omega)).mono ?_
   rintro e w' ⟨he,Y,ae⟩;have D:mB sb x=mB sb w:=oV (i.block _ p);have J:∀k,w.heap.size<=k->k<x.heap.size->w'.heap[k]?=x.heap[k]?:=λk j Q=>Y.blk k Q o_ λe=>by rw[D] at e;have:=(h.row e).2.1;omega
   refine⟨he,by rw[J _ o_ o_];exact ah,⟨_,by rw[J _ o_ o_,B.block _ o_,a.block _ o_];exact K,s_⟩,o_,?_⟩
   obtain⟨Z,z2,z3,z4⟩:=iN w' (w.heap.size+1) f;have ac:Fz sb w w':=(Fz.of_below i p).trans Y;have N:Fz sb w (fA w' (w.heap.size+1) f):=ac.other (b:=w.heap.size+1) o_ p Z ⟨z2,z3,z4⟩ λk u=>dZ _ _ _ k u
   have af:¬o (w.heap.size+1):=λhq=>by
    rcases G.new _ hq with j|j
    ·have:=y _ j;omega
    ·omega
   have S:∀k,o k\/k=sb\/k=mb\/mB sb w'=some k->(fA w' (w.heap.size+1) f).heap[k]?=w'.heap[k]?:=λk u=>dZ _ _ _ k (by
    rintro rfl;rcases u with j|j|j|j
    ·exact af j
    ·omega
    ·omega
    ·rcases Y.row _ j with Q|Q
     ·rw[D] at Q;have:=(h.row Q).2.1;omega
     ·omega)
   have ab:=ae.same (by rw[Z];exact d7 _) S
   have C:Ext F o w.heap.size:=⟨G.sub,λk u=>(G.new k u).imp_right λj=>by omega⟩
   refine⟨o,_,?_,C,N,h.fs N ab C ?_,λ_=>⟨E,⟨d.m_+1,r.1,bS (d.m_+1) r.2⟩,P,rfl,?_,?_⟩,λe=>by cases e⟩
   ·split<;>omega
   ·split<;>omega
   ·refine X.keep (λb g=>?_) λ_ h=>h
    have ag:=M b g;have V:b≠sb:=(m.fix b g).2.1;rw[S b (d6 g),Y.blk b o_ V (λe=>(m.row b e).2.2.1 g),B.block b ag]
   ·simp only;split<;>omega
 ·refine CM w sb v (S4 fp F w sb mb mo ks tape s n L d) (λf ok W=>ok=false/\f=AU/\Below t.heap.size t W) ?_ (λf W I=>?_) (λf W I=>?_)
  ·show Calls _ _ _ _ _
   rw[<-l];obtain⟨fv,tv,xo,he,f1,f2,f3⟩:=hv.form;rw[he];refine(ZV t d.m_ d.stop fv tv xo E f1 f2 f3).mono ?_;rintro e w' ⟨rfl,a⟩;exact⟨AU,false,rfl,rfl,rfl,a⟩
  ·obtain⟨_,rfl,a⟩:=I;have aa:=a.size;refine⟨⟨_,by rw[a.block _ o_];exact K,s_⟩,?_⟩
   obtain⟨Z,z2,z3,z4⟩:=iN W (w.heap.size+1) AU
   have i:Below w.heap.size w (fA W (w.heap.size+1) AU):=by
    have U:Below w.heap.size w W:=c.trans (a.mono c.size);exact⟨z2.trans U.os,z3.trans U.tape,z4.trans U.output,by rw[Z];exact U.size,λk u=>by rw[dZ _ _ _ k o_];exact U.block k u⟩
   have q:=i.alloc i.size (.cells AU.cells 72);exact⟨F,n,d7 _,Ext.refl _ _,Fz.of_below q p,h.fs (Fz.of_below q p) (h.ses.grow q (λ_ h=>h) λ_ h=>d6 h) (Ext.refl _ _) (d7 _),λe=>(by cases e),λ_=>E⟩
  ·cases I.1
end
def G7(st:Nat->Option bZ)(p:bZ->Bool)(s τ:bZ)(fd:Bool):Prop:=
 (fd=false/\τ=s/\s.stop≠0)\/(fd=true/\s.m_<τ.m_/\st τ.m_=some τ/\(∀t x,s.m_<t->t<τ.m_->st t=some x->p x=false)/\(p τ=true\/τ.stop≠0))
structure But(L:List Nat)(w w':World):Prop where
 os:w'.os=w.os
 tape:w'.tape=w.tape
 output:w'.output=w.output
 size:w.heap.size<=w'.heap.size
 blk:∀k,k<w.heap.size->k∉L->w'.heap[k]?=w.heap[k]?
def But.below(h:Below w.heap.size w w')(L:List Nat):But L w w':=⟨h.os,h.tape,h.output,h.size,λk a _=>h.block k a⟩
def But.alloc(w:World)(o:Obj)(L:List Nat):But L w (w.alloc o):=But.below ((eh _ w).alloc (d7 _) o) L
def But.drew(w:World)(L:List Nat):But L w w.drew:=⟨rfl,rfl,rfl,d7 _,λ_ _ _=>rfl⟩
def But.put(w:World)(b:Nat)(o:Obj):But [b] w (w.putObj b o):=⟨rfl,rfl,rfl,s_,λk _ a=>World.putObj_heap_other (by simpa using a)⟩
def But.set5(w:World)(b:Nat)(s:SV):But [b] w (fA w b s):=by
 obtain⟨e,c,f,d⟩:=iN w b s;exact⟨c,f,d,by rw[e];exact d7 _,λk _ a=>dZ _ _ _ k (by simpa using a)⟩
def But.set(w:World)(b:Nat)(v:Value):But [b] w (w.setCell ⟨b,0,none⟩ v):=⟨rfl,rfl,rfl,s_,λk _ a=>ej _ _ _ _ (by simpa using a)⟩
def But.trans{M:List Nat}{a b:World}(h:But L a b)(k:But M b c):But (L++M) a c:=
 ⟨k.os.trans h.os,k.tape.trans h.tape,k.output.trans h.output,em h.size k.size,λi e d=>by
   rw[eo,not_or] at d;rw[k.blk i (el e h.size) d.2,h.blk i e d.1]⟩
def Fz.but(h:Fz sb c w)(a:But L w w')(f:∀b∈L,c.heap.size<=b)(j:sb<c.heap.size):Fz sb c w':=by
 have n:=h.size;have l:w'.heap[sb]?=w.heap[sb]?:=a.blk sb o_ λd=>by have:=f sb d;omega
 exact⟨a.os.trans h.os,a.tape.trans h.tape,a.output.trans h.output,em h.size a.size,λk i g m=>by rw[a.blk k o_ λd=>by have:=f k d;omega];exact h.blk k i g m,λk e=>h.row k (by rw[<-oV l];exact e)⟩
def oA.but{c:Nat->Value}{f:Obj}{e:bZ}{L':List Nat}(l:oA c F w v e)(h:Live c F w sb i f ks a s n L)(g:But L' w w')(j:∀b∈L',b∈L):oA c F w' v e:=
 l.keep (λb d=>g.blk b (h.ses.fix b d).1 λk=>(h.loc b (j b k)).2.2.1 d) λ_ h=>h
def Live.but{e:Nat->Value}{d:Nat}{c:Obj}{L':List Nat}(h:Live e F w sb d c ks a s n L)(f:But L' w w')(g:∀b∈L',b∈L):Live e F w' sb d c ks a s n L:=h.keep L' g f.size f.blk
def kV.cells{f:Nat->Value}{j:Nat}{i:Obj}{p:Nat->Option bZ}(h:kV f F w sb j i p s n):∃a:SV,oA f F w a.val s/\w.cell? ⟨sb,0,none⟩=some (.int .i64 a.t)/\w.cell? ⟨sb,1,none⟩=some (.slice a.x1 a.n1 a.c1)/\w.cell? ⟨sb,2,none⟩=some (.slice a.x2 a.n2 a.c2)/\w.cell? ⟨sb,3,none⟩=some (.slice a.x3 a.n3 a.c3)/\w.cell? ⟨sb,4,none⟩=some (.int .i64 a.q)/\∃c,w.heap[sb]?=some (.cells c 78 (0,0))/\5<=c.size:=by
 obtain⟨z,v,y,u,x,b,g,_⟩:=h.blk;obtain⟨e,d,o,t⟩:=g.sv;refine⟨e,by rw[<-d];exact g,?_⟩
 simp only[SV.val,Value.agg.injEq] at d;simp at d;obtain⟨q,r,k,m,l⟩:=d;rw[q,r,k,m,l] at b;exact⟨aA b rfl,aA b rfl,aA b rfl,aA b rfl,aA b rfl,_,b,s_⟩
def kV.go{l:Nat->Value}{m:Nat}{q:Obj}{o:Nat->Option bZ}{τ:bZ}{v:SV}(h:kV l F w sb m q o s n)(A:oA l F w v.val τ)(p:o τ.m_=some τ):kV l F (fA w sb v) sb m q o τ n/\Fz sb w (fA w sb v)/\mB sb (fA w sb v)=mB sb w:=by
 obtain⟨Q,O,P,f,H,u,N,I,D,G,L,E⟩:=h.blk;obtain⟨M,e,z,x⟩:=A.sv;obtain rfl:=SV.val_inj e;obtain⟨t,B,J,C⟩:=iN w sb v
 have j:(fA w sb v).heap[sb]?=some (.cells #[.int .i64 v.t,.slice v.x1 v.n1 v.c1,.slice v.x2 v.n2 v.c2,.slice v.x3 v.n3 v.c3,.int .i64 v.q,f,.map (some m)] 78 (0,0)):=by
  have r:=wN (s:=v) u;simp only[List.setIfInBounds_toArray,List.set_cons_zero,ju] at r;exact r
 have y:∀b,F b->(fA w sb v).heap[b]?=w.heap[b]?:=λb j=>dZ _ _ _ _ (h.fix b j).2.1
 have c:mB sb w=f.ownBlock:=mF u rfl;have d:mB sb (fA w sb v)=f.ownBlock:=mF j rfl;have g:∀k,f.ownBlock=some k->(fA w sb v).heap[k]?=w.heap[k]?:=λk a=>dZ _ _ _ _ (by have:=(h.row k (by rw[c];exact a)).1;omega)
 refine⟨⟨⟨_,_,_,f,H,by rw[<-z,<-x];exact j,?_,aX I g,D,λi K=>(G i K).keep y λ_ h=>h,L,E⟩,p,λk a=>?_,by rw[dZ _ _ _ _ h.map.2];exact h.map.1,h.map.2⟩,⟨B,J,C,by rw[t];exact d7 _,λk _ a _=>dZ _ _ _ _ a,λk a=>d6 ?_⟩,?_⟩
 ·have:=A.keep y λ_ h=>h
  unfold SV.val at this;rw[<-z,<-x];exact this
 ·have:=h.fix k a;exact⟨by rw[t];exact this.1,this.2⟩
 ·rw[c,<-d];exact a
 ·rw[c,d]
def Live.go{c:Nat->Value}{g:Obj}{τ:bZ}{v:SV}(h:Live c F w sb i g ks a s n L)(p:oA c F w v.val τ)(e:dH ks a τ.m_=some τ)(o:τ.m_/20<n):Live c F (fA w sb v) sb i g ks a τ n L/\Fz sb w (fA w sb v):=by
 obtain⟨m,j,q⟩:=h.ses.go p e;obtain⟨l,_⟩:=iN w sb v;have f:=h.low;refine⟨⟨m,h.tab.keep (λb d=>dZ _ _ _ _ (h.ses.fix b d).2.1) λ_ h=>h,h.pow.low λk r=>dZ _ _ _ _ o_,h.low,o,λb d=>?_⟩,j⟩
 have:=h.loc b d;rw[l,q];exact this
structure MCtx where
 fp:Nat->Value
 sb:Nat
 mb:Nat
 mo:Obj
 ks:List aC
 tape:List Int
 s:bZ
 p:bZ->Bool
 bb:Nat
 fv:Value
 w:World
 L:List Nat
 le:Nat->Bool->Prop
def MCtx.bf(C:MCtx):Nat:=C.w.heap.size
def MCtx.bt(C:MCtx):Nat:=C.w.heap.size+1
def MCtx.bo(C:MCtx):Nat:=C.w.heap.size+1+1
def MCtx.all(C:MCtx):List Nat:=(C.w.heap.size+3+1)::(C.w.heap.size+3)::C.bo::C.bt::C.bf::C.L
noncomputable def MCtx.st(C:MCtx):Nat->Option bZ:=dH C.ks C.tape
structure Mvg(C:MCtx)(L:List Nat)(F:Nat->Prop)(n k:Nat)(fd:Bool)(W:World):Prop where
 live:Live C.fp F W C.sb C.mb C.mo C.ks C.tape C.s n L
 mem:∀b∈C.all,b∈L
 cf:W.heap[C.bf]?=some (.cells #[C.fv] 85 (0,0))
 cb:W.heap[C.bb]?=some (.cells #[.pointer (some ⟨C.sb,0,none⟩)] 32 (0,0))/\C.bb∈C.L
 ct:∃s2 τ,W.heap[C.bt]?=some (.cells (SV.cells s2) 72 (0,0))/\oA C.fp F W s2.val τ/\C.st k=some τ/\k/20<n
 co:W.heap[C.bo]?=some (.cells #[.bool fd] 4 (0,0))
 le:C.le k fd
 fr:Fz C.sb C.w W/\C.sb<C.w.heap.size/\∀b∈C.L,b<C.w.heap.size
section
variable {C:MCtx} {L L':List Nat} {F G:Nat->Prop} {n n' k:Nat} {fd:Bool} {W W':World}
def Mvg.lt(h:Mvg C L F n k fd W):C.w.heap.size+3+1<W.heap.size:=(h.live.loc _ (h.mem _ (by simp[MCtx.all]))).2.1
def Mvg.but(h:Mvg C L F n k fd W)(e:But L' W W')(f:∀b∈L',b∈L/\C.bo<b):Mvg C L F n k fd W':=by
 have c:=h.fr.2.1;have l:=h.lt;have d:∀b,b<=C.bo->W'.heap[b]?=W.heap[b]?:=λb g=>e.blk b (by simp only[MCtx.bo] at g;omega) λa=>by have:=(f b a).2;omega
 obtain⟨m,q,o,p,r,i⟩:=h.ct;have j:=h.fr.2.2 _ h.cb.2;refine⟨h.live.but e λb a=>(f b a).1,h.mem,by rw[d _ (by simp only[MCtx.bo,MCtx.bf];omega)];exact h.cf,⟨by rw[d _ (by simp only[MCtx.bo];omega)];exact h.cb.1,h.cb.2⟩,⟨m,q,by rw[d _ (by simp only[MCtx.bo,MCtx.bt];omega)];exact o,p.but h.live e λb a=>(f b a).1,r,i⟩,by rw[d _ (d7 _)];exact h.co,h.le,h.fr.1.but e (λb a=>by have:=(f b a).2;simp only[MCtx.bo] at this;omega) c,c,h.fr.2.2⟩
def Mvg.more(h:Mvg C L F n k fd W)(a:Live C.fp F W C.sb C.mb C.mo C.ks C.tape C.s n L')(c:∀b∈C.all,b∈L'):Mvg C L' F n k fd W:=⟨a,c,h.cf,h.cb,h.ct,h.co,h.le,h.fr⟩
def Mvg.alloc(h:Mvg C L F n k fd W)(o:Obj):Mvg C (W.heap.size::L) F n k fd (W.alloc o):=
 (h.but (L':=[]) (But.alloc W o []) λb a=>by cases a).more (h.live.alloc o) λb c=>fe _ (h.mem b c)
def Mvg.fs(h:Mvg C L F n k fd W)(c:Fz C.sb W W')(d:Live C.fp G W' C.sb C.mb C.mo C.ks C.tape C.s n' L)(m:Ext F G W.heap.size)(p:n<=n'):Mvg C L G n' k fd W':=by
 have a:∀b∈L,W'.heap[b]?=W.heap[b]?:=λb l=>h.live.blk c l
 obtain⟨e,i,f,g,j,o⟩:=h.ct;exact⟨d,h.mem,by rw[a _ (h.mem _ (by simp[MCtx.all]))];exact h.cf,⟨by rw[a _ (h.mem _ (by simp[MCtx.all,h.cb.2]))];exact h.cb.1,h.cb.2⟩,⟨e,i,by rw[a _ (h.mem _ (by simp[MCtx.all]))];exact f,h.live.stR c m g,j,o_⟩,by rw[a _ (h.mem _ (by simp[MCtx.all]))];exact h.co,h.le,h.fr.1.trans c,h.fr.2⟩
def Mvg.set(h:Mvg C L F n k fd W){v:SV}{a:bZ}(q:oA C.fp F W v.val a)(j:C.st a.m_=some a)(p:a.m_/20<n)(l:C.le a.m_ true):Mvg C L F n a.m_ true ((fA W C.bt v).setCell ⟨C.bo,0,none⟩ (.bool true)):=by
 have d:But ([C.bt]++[C.bo]) W ((fA W C.bt v).setCell ⟨C.bo,0,none⟩ (.bool true)):=(But.set5 W C.bt v).trans (But.set _ _ _);have g:∀b∈[C.bt]++[C.bo],b∈L:=λb i=>h.mem b (by simp at i;rcases i with rfl|rfl<;>simp[MCtx.all])
 have f:=h.fr.2.1;have w:=h.lt;have o:=h.fr.2.2 _ h.cb.2;obtain⟨s,x,r,y,t,u⟩:=h.ct;have c:C.bt≠C.bo:=by simp only[MCtx.bt,MCtx.bo];omega
 refine⟨h.live.but d g,h.mem,by rw[d.blk _ (by simp only[MCtx.bf];omega) (by simp only[MCtx.bf,MCtx.bt,MCtx.bo,fh,gv,en,ff,or_false];omega)];exact h.cf,⟨by rw[d.blk _ o_ (by simp only[MCtx.bt,MCtx.bo,fh,gv,en,ff,or_false];omega)];exact h.cb.1,h.cb.2⟩,⟨v,a,?_,q.but h.live d g,j,p⟩,?_,l,h.fr.1.but d (λb i=>by simp[MCtx.bt,MCtx.bo] at i;omega) f,f,h.fr.2.2⟩
 ·rw[ej _ _ _ _ c];exact CO r rfl
 ·have m:(fA W C.bt v).heap[C.bo]?=some (.cells #[.bool fd] 4 (0,0)):=by rw[dZ _ _ _ _ (λe=>c e.symm)];exact h.co
  exact aQ m
end
def fwd(s:bZ)(k:Nat)(fd:Bool):Prop:=s.m_<=k/\(fd=true↔s.m_<k)
def EU(C:MCtx)(k:Nat):Prop:=∀t x,C.s.m_<t->t<=k->C.st t=some x->C.p x=false
def r8(C:MCtx)(M:List Nat)(t:Nat)(s':SV)(W:World):Prop:=∃F n σ k fd,Mvg C M F n k fd W/\oA C.fp F W s'.val σ/\C.st σ.m_=some σ/\σ.m_=k+1/\σ.m_/20<n/\W.heap[t]?=some (.cells s'.cells 72 (0,0))/\C.w.heap.size+3+1<t/\EU C k
def s7(C:MCtx)(t:Nat)(s':SV)(W:World):Prop:=∃F n σ,Mvg C (t::C.all) F n σ.m_ true W/\oA C.fp F W s'.val σ/\C.st σ.m_=some σ/\σ.m_/20<n/\W.heap[t]?=some (.cells s'.cells 72 (0,0))/\C.w.heap.size+3+1<t/\EU C σ.m_
def k9(C:MCtx)(W:World):Prop:=∃F n k fd τ,Mvg C C.all F n k fd W/\C.st k=some τ/\G7 C.st C.p C.s τ fd
section
variable {C:MCtx}
def p8:∀b∈[C.w.heap.size+3+1],C.bo<b:=λb a=>by simp at a;simp only[MCtx.bo];omega
def Mvg.put{L:List Nat}{F:Nat->Prop}{n k:Nat}{c:Bool}{W:World}(h:Mvg C L F n k c W)(o:Obj):Mvg C L F n k c (W.putObj (C.w.heap.size+3+1) o):=
 h.but (But.put _ _ _) λb a=>⟨h.mem b (by simp at a;simp[MCtx.all,a]),p8 b a⟩
def Mvg.putS{L:List Nat}{F:Nat->Prop}{n k:Nat}{d:Bool}{W:World}{c:bZ}{v:Value}(h:Mvg C L F n k d W)(e:oA C.fp F W v c)(o:Obj):oA C.fp F (W.putObj (C.w.heap.size+3+1) o) v c:=
 e.but h.live (But.put _ _ _) λb a=>h.mem b (by simp at a;simp[MCtx.all,a])
def r8.put{M:List Nat}{t:Nat}{a:SV}{W:World}(h:r8 C M t a W)(o:Obj):r8 C M t a (W.putObj (C.w.heap.size+3+1) o):=by
 obtain⟨F,n,l,k,c,b,d,j,e,g,m,f,i⟩:=h;exact⟨F,n,l,k,c,b.put o,b.putS d o,j,e,g,by rw[World.putObj_heap_other o_];exact m,f,i⟩
def s7.put{t:Nat}{a:SV}{W:World}(h:s7 C t a W)(o:Obj):s7 C t a (W.putObj (C.w.heap.size+3+1) o):=by
 obtain⟨F,n,j,b,e,i,g,c,f,d⟩:=h;exact⟨F,n,j,b.put o,b.putS e o,i,g,by rw[World.putObj_heap_other o_];exact c,f,d⟩
def k9.put{W:World}(h:k9 C W)(o:Obj):k9 C (W.putObj (C.w.heap.size+3+1) o):=by
 obtain⟨F,n,k,a,d,c,b,e⟩:=h;exact⟨F,n,k,a,d,c.put o,b,e⟩
def EU.succ{k:Nat}{a:bZ}(h:EU C k)(g:a.m_=k+1)(b:C.st a.m_=some a)(e:C.p a=false):EU C a.m_:=λt x f i c=>by
 rcases fk k t with d|d
 ·obtain rfl:t=a.m_:=o_
  rw[b] at c;cases c;exact e
 ·exact h t x f d c
def Mvg.next{L:List Nat}{F:Nat->Prop}{n k:Nat}{l:Bool}{W:World}(p:Good C.ks)(o:C.le=fwd C.s)(m:C.tape.length<=17592186044416)(h:Mvg C L F n k l W)(v:SV)(c:bZ)(O:oA C.fp F W v.val c)(d:C.st c.m_=some c)(j:c.m_=k)(g:c.m_/20<n)(K:EU C k):
 Calls prog 60 #[.pointer (some ⟨C.sb,0,none⟩),v.val] W λe w'=>∃i ok,e=.returned (.tuple #[SV.val i,.bool ok])/\(∀b∈L,w'.heap[b]?=W.heap[b]?)/\
  ∃G n',Mvg C L G n' k l w'/\(ok=true->∃a,oA C.fp G w' i.val a/\C.st a.m_=some a/\a.m_=k+1/\a.m_/20<n'/\i.t=k+1/\k<500)/\(ok=false->G7 C.st C.p C.s c l):=by
 refine(YR p h.live m v c O d g).mono ?_;rintro e w' ⟨i,ok,rfl,G,n',D,y,u,B,E,M⟩;refine⟨i,ok,rfl,λb z=>h.live.blk u z,G,n',h.fs u B y D,λe=>?_,λe=>?_⟩
 ·obtain⟨_,a,q,Q,r,I⟩:=E e;obtain⟨T,N,V,_⟩:=r.sv;obtain rfl:=SV.val_inj N;have S:=(p.sta q).1.m_;exact⟨a,r,by rw[Q];exact q,o_,I,o_,o_⟩
 ·have s:=M e;have f:=h.le;rw[o] at f;subst j;cases l with
  |true=>
   exact d5 ⟨rfl,f.2.1 rfl,d,λt x P X H=>K t x P o_ H,d5 s⟩
  |false=>
   have U:¬C.s.m_<c.m_:=λA=>by have:=f.2.2 A;cases this
   have J:C.s.m_=c.m_:=by have:=f.1;omega
   have w:=h.live.ses.now;unfold MCtx.st at d;rw[J,d] at w;cases w;exact d6 ⟨rfl,rfl,s⟩
end
def VJ{C:MCtx}(Y:Good C.ks)(B:C.le=fwd C.s)(L:C.tape.length<=17592186044416)(s0:SV)(S:World)(ac:S.heap.size=C.w.heap.size+3)
 (hM:∀E,Mvg C C.all F n C.s.m_ false ((S.alloc (.deferred (some []))).alloc (.loop E))) (ae:∀E,oA C.fp F ((S.alloc (.deferred (some []))).alloc (.loop E)) s0.val C.s):
 S8 prog 59 #[.pointer (some ⟨C.bb,0,none⟩)] S (λt=>r8 C (t::C.all) t) (s7 C) (λ_=>k9 C):=by
 intro E Rdy Don hR ag _ M hY;rw[ac] at hR ag hY ⊢
 have l:=hM E;have hs:=ae E;generalize (S.alloc (.deferred (some []))).alloc (.loop E)=f at l hs M ⊢
 have j:=l.live.ses.now;have i:EU C C.s.m_:=λt x o J _=>by omega
 have g:∀b,b=C.w.heap.size+3\/b=C.w.heap.size+3+1->b∈C.all:=λb a=>by rcases a with rfl|rfl<;>simp[MCtx.all]
 obtain⟨s1,V,k0,k1,k2,k3,k4,_⟩:=l.live.ses.cells;have ad:=l.lt;have Q:∀b∈C.all,b<f.heap.size:=λb a=>(l.live.loc b a).2.1
 refine(QF (C.w.heap.size+3+1) C.bb C.sb s1 f
  (λgk b m ok wr=>Rdy wr/\(ok=true->r8 C (b::C.all) b m wr/\gk+m.t=502)/\(ok=false->k9 C wr))
  (λgk b m wr=>Rdy wr/\s7 C b m wr/\gk+m.t=502)
  (λwr=>(k9 C wr/\Rdy wr)\/(k9 C wr/\Don wr)) (aA l.cb.1 rfl) (aD l.cb.1) l.live.ses.lt k0 k1 k2 k3 k4 (501-C.s.m_) ?_ (λc hc=>?_) (λgk b m wr h=>?_) (λgk b m wr h=>?_) (λgk b m wr h=>?_)).mono ?_
 ·have H:=l.but (L':=[]) (But.drew f []) λb a=>by cases a
  refine(H.next Y B L s1 C.s (V.but l.live (But.drew f []) λb a=>by cases a) j rfl l.live.hn i).mono ?_
  rintro e y ⟨u,ok,rfl,z,G,s,o,J,D⟩;have A:=o.lt;refine⟨u,ok,rfl,hR f _ M ?_ ?_,λe=>?_,λe=>?_⟩
  ·rw[eq _ _ _ o_];exact z _ (g _ (d6 rfl))
  ·rw[eq _ _ _ o_];exact z _ (g _ (d5 rfl))
  ·obtain⟨r,O,W,P,q4,q5,q6⟩:=J e;refine⟨⟨G,s,r,C.s.m_,false,o.alloc _,?_,W,P,q4,aS _ _ rfl _,A,i⟩,o_⟩
   exact O.but o.live (But.alloc _ _ []) λb a=>by cases a
  ·have:=o.but (L':=[]) (But.alloc y (.cells u.cells 72) []) λb a=>by cases a
   exact⟨G,s,C.s.m_,false,C.s,this,j,D e⟩
 ·have H:=(l.but (L':=[]) (But.drew f []) λb a=>by cases a).alloc (.cells c 72)
  have ah:But [] f (f.drew.alloc (.cells c 72)):=(But.drew f []).trans (But.alloc _ _ []);refine(H.next Y B L s1 C.s (V.but l.live ah λb a=>by cases a) j rfl l.live.hn i).mono ?_
  rintro e y ⟨u,ok,rfl,z,G,s,o,J,D⟩;have A:=o.lt;have p:y.heap[f.heap.size]?=some (.cells c 72 (0,0)):=by rw[z f.heap.size (fu ..)];exact aS f.drew _ rfl _
  have d:∀b∈C.all,(fA y f.heap.size u).heap[b]?=f.heap[b]?:=λb a=>by
   have:=Q b a;rw[dZ _ _ _ _ o_,z b (fe _ a)];exact eq f.drew _ _ this
  have q:∀b∈[f.heap.size],b∈(f.heap.size::C.all)/\C.bo<b:=λb a=>by
   obtain rfl:=et.1 a;exact⟨fu ..,by simp only[MCtx.bo];omega⟩
  have N:Mvg C (f.heap.size::C.all) G s C.s.m_ false (fA y f.heap.size u):=o.but (But.set5 _ _ _) q;refine⟨u,ok,rfl,p,hR f _ M (d _ (g _ (d6 rfl))) (d _ (g _ (d5 rfl))),λe=>?_,λe=>?_⟩
  ·obtain⟨r,O,W,P,q4,q5,q6⟩:=J e;exact⟨⟨G,s,r,C.s.m_,false,N,O.but o.live (But.set5 _ _ _) λb a=>(q b a).1,W,P,q4,CO p hc,ad,i⟩,o_⟩
  ·exact⟨G,s,C.s.m_,false,C.s,N.more (N.live.drop λb a=>fe _ a) (λ_ h=>h),j,D e⟩
 ·obtain⟨hr,Z,_⟩:=h;obtain⟨Z,X⟩:=Z rfl;obtain⟨fn,U,v,T,hy,aa⟩:=hY b m wr Z hr;refine⟨?_,fn,U,v,T,hy,aa.mono ?_⟩
  ·obtain⟨F,n,K,k,fd,_,_,_,_,_,h6,_⟩:=Z;exact h6
  ·rintro e W' (⟨rfl,hB,ab⟩|⟨rfl,hE,hD⟩)
   ·exact d6 ⟨rfl,ab,hB,X⟩
   ·exact d5 ⟨rfl,d5 ⟨hE,hD⟩⟩
 ·exact d6 ⟨h.2.2 rfl,h.1⟩
 ·obtain⟨hr,⟨F,n,K,o,J,D,h4,h5,h6,h7⟩,X⟩:=h
  have aj:m.t=K.m_:=by
   obtain⟨s2,e1,e2,_⟩:=J.sv;obtain rfl:=SV.val_inj e1;exact e2
  have ai:=(Y.sta D).1.m_;refine⟨aA o.cb.1 rfl,h5,gk-1,o_,?_⟩
  refine(o.next Y B L m K J D rfl h4 h7).mono ?_
  rintro e y ⟨u,ok,rfl,z,G,s,O,W,P⟩;have p:y.heap[b]?=some (.cells m.cells 72 (0,0)):=by rw[z b (fu ..)];exact h5
  have q:∀x∈[b],x∈(b::C.all)/\C.bo<x:=λx w=>by
   obtain rfl:=et.1 w;exact⟨fu ..,by simp only[MCtx.bo];omega⟩
  have d:∀x∈[C.w.heap.size+3,C.w.heap.size+3+1],(fA y b u).heap[x]?=wr.heap[x]?:=λx w=>by
   have af:x∈C.all:=by simp at w;rcases w with rfl|rfl<;>simp[MCtx.all]
   rw[dZ _ _ _ _ (by simp at w;omega),z x (fe _ af)]
  have I:Mvg C (b::C.all) G s K.m_ true (fA y b u):=O.but (But.set5 _ _ _) q;refine⟨u,ok,rfl,⟨_,p,rfl⟩,hR wr _ hr (d _ s_) (d _ s_),λe=>?_,λe=>?_⟩
  ·obtain⟨r,a1,a2,a3,a4,a5,a6⟩:=W e;exact⟨⟨G,s,r,K.m_,true,I,a1.but O.live (But.set5 _ _ _) λx w=>(q x w).1,a2,a3,a4,CO p rfl,h6,h7⟩,o_⟩
  ·exact⟨G,s,K.m_,true,K,I.more (I.live.drop λx w=>fe _ w) (λ_ h=>h),D,P e⟩
 ·rintro e W' ⟨rfl,h|h⟩
  ·exact⟨⟨_,rfl⟩,0,h.1,d6 h.2⟩
  ·exact⟨⟨_,rfl⟩,0,h.1,d5 h.2⟩
def p6(args:Array Value)(W:World):(callFunc 59 args).run prog W=.ok (.enter 59 args) W:=(enters_of func59 k_ rfl) args W
def i8(args:Array Value)(W:World):(callFunc 32 args).run prog W=.ok (.enter 32 args) W:=(enters_of func32 k_ rfl) args W
section
variable {fp:Nat->Value} {F:Nat->Prop} {w:World} {sb mb n:Nat} {mo:Obj} {ks:List aC} {tape:List Int} {s:bZ} {L:List Nat}
def S6(fp:Nat->Value)(sb mb:Nat)(mo:Obj)(ks:List aC)(tape:List Int)(L:List Nat)(T:bZ->Bool->Prop)(w:World)(b:Bool)(w':World):Prop:=∃G n' τ,Live fp G w' sb mb mo ks tape τ n' L/\T τ b/\Fz sb w w'
def y8(fp:Nat->Value)(sb mb:Nat)(mo:Obj)(ks:List aC)(tape:List Int)(s:bZ)(p:bZ->Bool)(gn:Nat)(lf:Array Value):Prop:=
 ∀(F:Nat->Prop) (n:Nat) (L:List Nat) (W:World) (v:SV) (σ:bZ),Live fp F W sb mb mo ks tape s n L->oA fp F W v.val σ->dH ks tape σ.m_=some σ->Calls prog gn (#[v.val]++lf) W λe W'=>e=.returned (.bool (p σ))/\Below W.heap.size W W'
def QO(hg:Good ks)(av:tape.length<=17592186044416)(h:Live fp F w sb mb mo ks tape s n L)(bb:Nat)(au:bb∈L)(ab:w.heap[bb]?=some (.cells #[.pointer (some ⟨sb,0,none⟩)] 32 (0,0)))
 (p:bZ->Bool) (J:Nat) (U:Array Value) (ak:∀K W,(callFunc J K).run prog W=.ok (.enter J K) W) (af:y8 fp sb mb mo ks tape s p J U):
 Calls prog 30 #[.pointer (some ⟨sb,0,none⟩),.func (.func 59) #[] #[.pointer (some ⟨bb,0,none⟩)],.func (.func J) #[] U] w λe w'=>∃b,e=.returned (.bool b)/\S6 fp sb mb mo ks tape L (G7 (dH ks tape) p s) w b w':=by
 obtain⟨s0,ao,k0,k1,k2,k3,k4,_⟩:=h.ses.cells;have H:=h.ses.lt;obtain⟨C,j⟩:∃C:MCtx,C=⟨fp,sb,mb,mo,ks,tape,s,p,bb,.func (.func J) #[] U,w,L,fwd s⟩:=⟨_,rfl⟩;have ae:Good C.ks:=by rw[j];exact hg
 have d:C.w=w:=by rw[j]
 have al:C.s=s:=by rw[j]
 have aa:C.p=p:=by rw[j]
 have D:C.st=dH ks tape:=by rw[j];rfl
 have E:C.le=fwd C.s:=by rw[j]
 refine C5 (τ:=Nat) w sb 59 J #[.pointer (some ⟨bb,0,none⟩)] U s0 (λb w'=>S6 fp sb mb mo ks tape L (G7 (dH ks tape) p s) w b w')
  (λt=>r8 C (t::C.all) t) (s7 C) (λt y b W=>r8 C (b::t::C.all) t y W/\W.heap[b]?=some (.cells y.cells 72 (0,0))/\C.w.heap.size+3+1<b) (λ_=>k9 C) H k0 k1 k2 k3 k4 p6 ak
  (λt y b W r h=>?_) (λt y W r h=>?_) (λ_ W r h=>?_) (λt y W h=>?_) (λt y b W h=>?_) (λ_ W hE=>?_) (λG v=>?_)
 ·obtain⟨g,N,q⟩:=h;rw[<-d];exact⟨g.put _,by rw[World.putObj_heap_other o_];exact N,q⟩
 ·rw[<-d];exact h.put _
 ·rw[<-d];exact h.put _
 ·obtain⟨F,n,X,k,fd,g,N,q,h4,h5,h6,h7,h8⟩:=h;have hl:=g.lt;rw[<-d];refine⟨⟨⟨F,n,X,k,fd,g.alloc _,N.but g.live (But.alloc _ _ []) λb a=>(by cases a),q,h4,h5,by rw[eq _ _ _ (aD h6)];exact h6,h7,h8⟩,aS _ _ rfl _,hl⟩,hl⟩
 ·obtain⟨⟨F,n,X,k,fd,g,N,q,h4,h5,h6,h7,h8⟩,h9,ap⟩:=h;have hl:=g.lt;have S:=g.cf;have A:=g.co;obtain⟨s2,τ,a1,a2,a3,a4⟩:=g.ct;have o:=g.le;rw[E] at o;have f:=g.set N q h5 (by rw[E];exact⟨by have:=o.1;omega,by simp;have:=o.1;omega⟩)
  have z:C.bt=w.heap.size+1:=by rw[<-d];rfl
  have u:C.bo=w.heap.size+1+1:=by rw[<-d];rfl
  have an:C.bf=w.heap.size:=by rw[<-d];rfl
  rw[d] at hl h7 ap;rw[an] at S;rw[u] at A;rw[z] at a1;have aw:C.fv=.func (.func J) #[] U:=by rw[j]
  rw[aw] at S;refine⟨h9,S,⟨_,a1,by simp[SV.cells]⟩,⟨_,A⟩,o_,o_,o_,?_⟩
  have Q:But ([C.bt]++[C.bo]) W ((fA W C.bt y).setCell ⟨C.bo,0,none⟩ (.bool true)):=(But.set5 W C.bt y).trans (But.set _ _ _);have I:=N.but g.live Q λx hm=>g.mem x (by simp at hm;rcases hm with rfl|rfl<;>simp[MCtx.all])
  have P:((fA W C.bt y).setCell ⟨C.bo,0,none⟩ (.bool true)).heap[t]?=some (.cells y.cells 72 (0,0)):=by
   rw[Q.blk t (aD h6) (by simp[z,u];omega)];exact h6
  have T:∀x,x=w.heap.size+3\/x=w.heap.size+3+1->((fA W C.bt y).setCell ⟨C.bo,0,none⟩ (.bool true)).heap[x]?=W.heap[x]?:=λx hx=>Q.blk x o_ (by simp[z,u];omega)
  rw[<-u,<-z];generalize (fA W C.bt y).setCell ⟨C.bo,0,none⟩ (.bool true)=V at f I P T ⊢
  have ar:=f.lt;rw[d] at ar;have m:=f.live;rw[j] at m I;have ag:=q;rw[D] at ag;refine(af F n _ V y X m I ag).mono ?_;rintro e W' ⟨rfl,a⟩;refine⟨p X,rfl,⟨by rw[a.block _ o_];exact T _ (d6 rfl),by rw[a.block _ o_];exact T _ (d5 rfl)⟩,λhp=>?_,λhp=>?_⟩
  ·refine⟨F,n,X.m_,true,X,(f.but (But.below a []) λb a=>by cases a).more ((f.live.but (But.below a []) λb a=>(by cases a)).drop λx hx=>by simp[hx]) (λ_ h=>h),q,d5 ⟨rfl,by have:=o.1;omega,q,λt' x q1 q2 q3=>h8 t' x q1 o_ q3,d6 (by rw[aa];exact hp)⟩⟩
  ·refine⟨F,n,X,(f.but (But.below a []) λb a=>by cases a).more ((f.live.but (But.below a []) λb a=>(by cases a)).drop λx hx=>fe _ hx) (λx hx=>fe _ hx),?_,q,h5,by rw[a.block _ (aD P)];exact P,by rw[d];exact h7,h8.succ h4 q (by rw[aa];exact hp)⟩
   rw[j];exact I.but m (But.below a []) λb a=>by cases a
 ·obtain⟨F,n,k,fd,τ,g,N,q⟩:=hE;obtain⟨s2,ai,a1,a2,a3,a4⟩:=g.ct;obtain rfl:ai=τ:=by rw[N] at a3;cases a3;rfl
  have O:=(ae.sta a3).2.1;have A:=g.co;have hl:=g.lt;have m:=g.live;have ah:=g.fr.1;have Y:=g.fr.2.2;have z:C.bt=w.heap.size+1:=by rw[<-d];rfl
  have u:C.bo=w.heap.size+1+1:=by rw[<-d];rfl
  rw[z] at a1;rw[u] at A;rw[d] at hl;rw[j] at m ah Y;rw[D] at a3;rw[j] at a2;obtain⟨_,_,_,_,_,_,_,c,ax,aq⟩:=m.ses.cells;refine⟨s2,fd,a1,A,⟨c,_,ax,aq⟩,?_⟩;obtain⟨g1,g2⟩:=m.go a2 (by rw[O];exact a3) (by rw[O];exact a4)
  have aj:∀b∈[w.heap.size+3],b∈C.all:=λb a=>by
   obtain rfl:=et.1 a;simp[MCtx.all,d]
  rw[D,aa,al] at q;rw[j] at aj;refine⟨F,n,ai,(g1.but (But.put _ (w.heap.size+3) _) aj).drop λb a=>by simp[MCtx.all,a],q,(ah.trans g2).but (But.put _ (w.heap.size+3) _) (λb a=>?_) H⟩
  obtain rfl:=et.1 a;show w.heap.size<=w.heap.size+3
  omega
 ·have ad:G.heap.size=w.heap.size+3:=by rw[v];simp
  have am:∀b,F b->b<w.heap.size:=λb a=>(h.ses.fix b a).1
  have B:∀i,Below w.heap.size w ((G.alloc (.deferred (some []))).alloc (.loop i)):=λi=>by
   rw[v];exact(((((eh _ w).alloc (d7 _) _).alloc (by simp only[World.size_alloc];omega) _).alloc (by simp only[World.size_alloc];omega) _).alloc (by simp only[World.size_alloc];omega) _).alloc (by simp only[World.size_alloc];omega) _
  have ac:∀i,oA fp F ((G.alloc (.deferred (some []))).alloc (.loop i)) s0.val s:=λi=>ao.keep (λb a=>(B i).block b (am b a)) λ_ h=>h
  have Z:∀i k,k<G.heap.size->((G.alloc (.deferred (some []))).alloc (.loop i)).heap[k]?=G.heap[k]?:=λi k hk=>by rw[eq _ _ _ (by simp only[World.size_alloc];omega),eq _ _ _ hk]
  have M:C.bb=bb:=by rw[j]
  rw[<-M];refine VJ (C:=C) (F:=F) (n:=n) ae E (by rw[j];exact av) s0 G (by rw[d];exact ad) (λi=>?_) (λi=>?_)
  clear M
  ·have l:=((((h.alloc (.cells #[.func (.func J) #[] U] 85)).alloc (.cells s0.cells 72)).alloc (.cells #[.bool false] 4)).alloc (.deferred (some []))).alloc (.loop i);simp only[World.size_alloc] at l;rw[<-v] at l;have Y:∀b∈L,b<w.heap.size:=λb a=>(h.loc b a).2.1
   have c1:G.heap[w.heap.size]?=some (.cells #[.func (.func J) #[] U] 85 (0,0)):=by
    rw[v,eq _ _ _ (by simp only[World.size_alloc];omega),eq _ _ _ (by simp only[World.size_alloc];omega)];exact aS _ _ rfl _
   have c2:G.heap[w.heap.size+1]?=some (.cells s0.cells 72 (0,0)):=by
    rw[v,eq _ _ _ (by simp only[World.size_alloc];omega)];exact aS _ _ (by simp only[World.size_alloc]) _
   have c3:G.heap[w.heap.size+1+1]?=some (.cells #[.bool false] 4 (0,0)):=by
    rw[v];exact aS _ _ (by simp only[World.size_alloc]) _
   rw[j];exact⟨l,λ_ h=>h,by rw[Z i _ (by simp only[MCtx.bf];omega)];exact c1,⟨by rw[(B i).block _ (aD ab)];exact ab,au⟩,⟨s0,s,by rw[Z i _ (by simp only[MCtx.bt];omega)];exact c2,ac i,h.ses.now,h.hn⟩,by rw[Z i _ (by simp only[MCtx.bo];omega)];exact c3,⟨d7 _,s_⟩,Fz.of_below (B i) H,H,Y⟩
  ·rw[j];exact ac i
def NI(v:SV)(W:World):Calls prog 32 (#[v.val]++ #[]) W λe W'=>e=.returned (.bool true)/\Below W.heap.size W W':=by
 show Calls _ _ #[v.val] _ _
 unfold SV.val;go_enter func32,ntmps32;go_wp2_with fail;go_ret;exact⟨rfl,(eh _ W).alloc (d7 _) _⟩
def C0(sb:Nat)(W:World):Calls prog 31 #[.pointer (some ⟨sb,0,none⟩)] W λe W'=>e=.returned (.func (.func 59) #[] #[.pointer (some ⟨W.heap.size,0,none⟩)])/\W'=W.alloc (.cells #[.pointer (some ⟨sb,0,none⟩)] 32):=by
 have b:∀(a:Value) (w:World),(Instr.makeFunc (.func 59) #[] #[a]).run prog w=.ok (.func (.func 59) #[] #[a]) w:=λ_ _=>rfl
 go_enter func31,ntmps31;go_wp2_with fail;go_ret;exact⟨rfl,rfl⟩
def YO(sb:Nat)(w:World)(P:Bool->World->Prop)
 (a:Hid (Calls prog 30 #[.pointer (some ⟨sb,0,none⟩),.func (.func 59) #[] #[.pointer (some ⟨w.heap.size,0,none⟩)],.func (.func 32) #[] #[]] (w.alloc (.cells #[.pointer (some ⟨sb,0,none⟩)] 32)) λe w'=>∃b,e=.returned (.bool b)/\P b w')):
 Calls prog 12 #[.pointer (some ⟨sb,0,none⟩)] w λe w'=>∃b,e=.returned (.bool b)/\P b w':=by
 have d:=aB (C0 sb w);go_enter func12,ntmps12;go_wp2_with fail;refine d.out.mono ?_;rintro e g ⟨rfl,rfl⟩;clear d;go_wp2_with fail;refine a.out.mono ?_;rintro e i ⟨b,rfl,c⟩;have f:=aB c;clear c a;go_wp2_with fail;go_ret;exact⟨b,rfl,f.out⟩
def J8(i:Good ks)(c:tape.length<=17592186044416)(h:Live fp F w sb mb mo ks tape s n L):
 Calls prog 12 #[.pointer (some ⟨sb,0,none⟩)] w λe w'=>∃b,e=.returned (.bool b)/\S6 fp sb mb mo ks tape L (G7 (dH ks tape) (λ_=>true) s) w b w':=by
 refine YO sb w _ ((QO i c (h.alloc (.cells #[.pointer (some ⟨sb,0,none⟩)] 32)) w.heap.size (fu ..) (aS _ _ rfl _) (λ_=>true) 32 #[] i8 λF n L W v m _ _ _=>NI v W).mono ?_)
 rintro e w' ⟨b,rfl,G,d,k,j,f,l⟩;have a:Below w.heap.size w (w.alloc (.cells #[.pointer (some ⟨sb,0,none⟩)] 32)):=(eh _ w).alloc (d7 _) _;exact⟨b,rfl,G,d,k,j.drop λb g=>fe _ g,f,(Fz.of_below a h.ses.lt).trans l⟩
end
end Go.Proofs.YthbffcmfmjpncaaGreatDoor
