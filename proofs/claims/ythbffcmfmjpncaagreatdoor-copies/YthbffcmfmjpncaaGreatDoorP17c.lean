/- Contracts of the program: the moment is told where there is no frame. -/
import Derived.Test.YthbffcmfmjpncaaGreatDoorB09c
import Derived.Test.YthbffcmfmjpncaaGreatDoorP16c
set_option linter.defProp false
set_option maxRecDepth 100000
set_option maxHeartbeats 4000000
namespace Go.Proofs.YthbffcmfmjpncaaGreatDoor
open Hs
open _root_.Go.Proofs.Tryz
open Go.RowKit
variable{a:List Int}{ks:List aC}{w:World}
def IC(b_:Nat)(w:World)(v:Value)(l:List (List UInt8)):Prop:=∃x c,v=.slice x l.length c/\∀i (h:i<l.length),∃g,x=some ⟨g,0,none⟩/\w.cell? ⟨g,i,none⟩=some (.string (bs l[i]))/\b_<=g/\g<w.heap.size
def IC.keep{b_:Nat}{w':World}{v:Value}{l:List (List UInt8)}(h:IC b_ w v l)(f:∀k,b_<=k->k<w.heap.size->w'.heap[k]?=w.heap[k]?)(n:w.heap.size<=w'.heap.size):IC b_ w' v l:=by
 obtain⟨x,c,j,d⟩:=h;refine⟨x,c,j,λi o=>?_⟩
 obtain⟨g,e,m,a,b⟩:=d i o;exact⟨g,e,by rw[World.cell?_of_block (f g a b)];exact m,a,el b n⟩
def MZ{F:Nat->Prop}{v:Value}{l:List (List UInt8)}(h:JU F w v l)(B:l.length<=1000000):
 Calls prog 58 #[v] w λe b=>∃x n c,e=.returned (.slice x n c)/\IC w.heap.size b (.slice x n c) l/\Below w.heap.size w b:=by
 rcases h with ⟨rfl,rfl⟩|⟨g,c,A,rfl,E,C,H,z⟩
 ·refine(sZ w).mono ?_;rintro e b ⟨rfl,rfl⟩;exact⟨none,0,0,rfl,⟨none,0,rfl,λi k=>by simp at k⟩,eh _ _⟩
 ·refine(tA g 0 l.length c (lZ l) w (by simp[lZ]) B (λj u a=>?_) (λu q=>?_)).mono ?_
  ·rw[gz];refine aA C ?_;rw[<-z,fm] at a;split at a
   ·rw[Array.getElem?_toList] at a;exact a
   ·cases a
  ·simp only[lZ,ia] at q;obtain⟨x,_,rfl⟩:=q;rfl
  ·rintro e b ⟨D,rfl,f,y⟩;obtain⟨x,m,rfl⟩:=cV f;refine⟨x,_,m,rfl,⟨x,m,rfl,λi k=>?_⟩,y⟩
   rcases f.2 with ⟨d,r⟩|⟨p,o,s,d,r,t,G⟩
   ·simp only[Value.slice.injEq] at d;omega
   ·cases d;refine⟨p,rfl,?_,r,aD t⟩;have:=f.cells (g:=p) rfl i (.string (bs l[i])) (by simp[lZ,k])
    rw[AR] at this;exact this
def TU(w:World)(s:SV)(h:s.n1=0):Calls prog 93 #[s.val] w λe a=>e=.returned (.pointer none)/\Below w.heap.size w a:=by
 obtain⟨t,g,c,i,d,j,k,l,b,f,q⟩:=s;subst h;unfold SV.val;go_enter func93,ntmps93;go_wp2_with fail;go_ret;exact⟨rfl,(eh _ _).alloc (d7 _) _⟩
def XZ(w:World)(s:SV)(h:s.n1=0):Calls prog 57 #[s.val] w λe d=>e=.returned (.slice none 0 0)/\Below w.heap.size w d:=by
 have a:=aB λW=>TU W s h
 have g:=aB λW=>AnyF.slices_SortFunc_none (P:=prog) (ρ:=sortL_ren) { sortL with } none 0 (.func (.func 97) #[] #[]) W
 obtain⟨t,r,o,i,p,x,j,l,m,n,q⟩:=s;subst h;unfold SV.val at a;unfold SV.val;go_enter func57,ntmps57;go_wp2_with fail;refine(a.out _).mono ?_;rintro e c ⟨rfl,b⟩;have f:=aB b;clear b a;go_wp2_with fail;go_loopg [3,4] 1 (λk v s wr=>v=.slice none 0 0/\s=.pointer none/\wr=c)
 case atStart=>exact⟨rfl,rfl,rfl⟩
 case round=>
  obtain⟨rfl,rfl,rfl⟩:=hrel;go_wp2_with fail;refine(g.out _).mono ?_;rintro e u ⟨rfl,rfl⟩;go_wp2_with fail;go_ret;exact⟨rfl,((eh _ _).alloc (d7 _) _).trans (f.out.mono s_)⟩
def TO(w:World)(s:SV)(h:s.n1=0):Calls prog 56 #[s.val] w λe b=>e=.returned (.slice none 0 0)/\Below w.heap.size w b:=by
 obtain⟨t,o,m,d,n,p,f,g,j,l,q⟩:=s;subst h;unfold SV.val;go_enter func56,ntmps56;go_wp2_with fail;go_loopg [3,9] 1 (λk v i wr=>v=.slice none 0 0/\i=.int .i64 0/\Below w.heap.size w wr)
 case atStart=>exact⟨rfl,rfl,(eh _ _).alloc (d7 _) _⟩
 case round=>
  obtain⟨rfl,rfl,a⟩:=hrel;have c:=aB a;clear a;go_wp2_with fail;go_ret;exact⟨rfl,c.out⟩
def M6(w:World)(sb:Nat)(s:SV)(P:SV->World->Prop)(I:sb<w.heap.size)
 (k0:w.cell? ⟨sb,0,none⟩=some (.int .i64 s.t)) (p:w.cell? ⟨sb,1,none⟩=some (.slice s.x1 s.n1 s.c1)) (F:w.cell? ⟨sb,2,none⟩=some (.slice s.x2 s.n2 s.c2)) (t:w.cell? ⟨sb,3,none⟩=some (.slice s.x3 s.n3 s.c3)) (J:w.cell? ⟨sb,4,none⟩=some (.int .i64 s.q))
 (g:Hid (Calls prog 29 #[s.val] (w.alloc (.cells #[.int .i64 0,.slice none 0 0,.slice none 0 0,.slice none 0 0,.int .i64 0] 40)) λe f=>∃m:SV,e=.returned m.val/\(∃c,f.heap[w.heap.size]?=some (.cells c 40 (0,0))/\c.size=5)/\P m (fA f w.heap.size m))):
 Calls prog 10 #[.pointer (some ⟨sb,0,none⟩)] w λe f=>∃m:SV,e=.returned m.val/\P m f:=by
 unfold SV.val at g;go_enter func10,ntmps10;go_wp2_with fail;refine g.out.mono ?_;rintro e l ⟨m,rfl,⟨c,a,O⟩,n⟩;have x:=aA (i:=0) a (ex o_)
 have C:=aA (i:=1) a (ex o_)
 have r:=aA (i:=2) a (ex o_)
 have L:=aA (i:=3) a (ex o_)
 have B:=aA (i:=4) a (ex o_)
 have q:=aE (i:=0) a;have u:=aE (i:=1) a;have E:=aE (i:=2) a;have H:=aE (i:=3) a;have G:=aE (i:=4) a;have M:=aD a;have o:=oU (W:=l) (s:=m) a o_ rfl
 have j:=aB o;have k:=aB n;unfold fA at j k;clear o n a g k0 p F t J;go_wp2_with fail;have b:=j.out;have d:=k.out;clear j k x C r L B q u E H G;generalize ((((l.setCell ⟨w.heap.size,0,none⟩ (.int .i64 m.t)).setCell ⟨w.heap.size,1,none⟩ (.slice m.x1 m.n1 m.c1)).setCell ⟨w.heap.size,2,none⟩ (.slice m.x2 m.n2 m.c2)).setCell ⟨w.heap.size,3,none⟩ (.slice m.x3 m.n3 m.c3)).setCell ⟨w.heap.size,4,none⟩ (.int .i64 m.q)=N at b d ⊢
 obtain⟨K,y,A,D,z⟩:=b;exact bodyPost_ret (v:=.agg #[.int .i64 m.t,.slice m.x1 m.n1 m.c1,.slice m.x2 m.n2 m.c2,.slice m.x3 m.n3 m.c3,.int .i64 m.q]) (by simp[results,results10,go_sem,K,y,A,D,z]) rfl ⟨m,rfl,d⟩
def EQ{W:World}{b:Nat}(s:SV)(h:Below w.heap.size w W)(g:w.heap.size<=b):Below w.heap.size w (fA W b s):=by
 obtain⟨e,c,f,d⟩:=iN W b s;exact⟨c.trans h.os,f.trans h.tape,d.trans h.output,by rw[e];exact h.size,λk a=>by rw[dZ _ _ _ k o_];exact h.block k a⟩
def M7{fp:Nat->Value}{F:Nat->Prop}{sb mb n:Nat}{mo:Obj}{st:Nat->Option bZ}{s:bZ}(h:kV fp F w sb mb mo st s n)(X:s.m.f_=[])(ho:s.m.out.length<=1000000):
 Calls prog 10 #[.pointer (some ⟨sb,0,none⟩)] w λe p=>∃m:SV,e=.returned m.val/\Below w.heap.size w p/\m.t=s.m_/\m.q=s.stop/\m.n1=0/\m.n2=0/\IC w.heap.size p (.slice m.x3 m.n3 m.c3) s.m.out:=by
 obtain⟨o,D,k0,k1,k2,k3,k4,_⟩:=h.cells;have O:=h.lt;obtain⟨ac,e0,e1,e2⟩:=D.sv;obtain rfl:=SV.val_inj e0
 have E:o.n1=0:=by
  obtain⟨fv,tv,ov,y,t,K,H,N,M⟩:=D;rw[X] at H
  have Y:y=[]:=by
   cases y with
   |nil=>rfl
   |cons v l=>exact H.elim
  subst Y;simp only[SV.val,Value.agg.injEq] at t;simp at t;rcases K with ⟨_,x,c,e⟩|⟨g,c,ab,e,_⟩
  ·have:=t.2.1.trans e;simp at this;exact this.2.1
  ·have:=t.2.1.trans e;simp at this;exact this.2.1
 have V:∀W,Below w.heap.size w W->JU F W (.slice o.x3 o.n3 o.c3) s.m.out:=λW u=>by
  obtain⟨fv,tv,ov,y,t,K,H,N,M⟩:=D;simp only[SV.val,Value.agg.injEq] at t;simp at t;rw[t.2.2.2.1];exact M.keep (λb a=>u.block b (h.fix b a).1) λ_ h=>h
 generalize q:w.alloc (.cells #[.int .i64 0,.slice none 0 0,.slice none 0 0,.slice none 0 0,.int .i64 0] 40)=f;have r:Below w.heap.size w f:=by rw[<-q];exact(eh _ w).alloc (d7 _) _
 have ae:f.heap.size=w.heap.size+1:=by rw[<-q];simp
 have Z:f.heap[w.heap.size]?=some (.cells #[.int .i64 0,.slice none 0 0,.slice none 0 0,.slice none 0 0,.int .i64 0] 40 (0,0)):=by rw[<-q];exact aS _ _ rfl _
 refine M6 w sb o _ O k0 k1 k2 k3 k4 ?_;rw[q];generalize j:(f.alloc (.cells o.cells 72)).alloc (.cells #[.int .i64 0,.slice none 0 0,.slice none 0 0,.slice none 0 0,.int .i64 0] 40)=d;have A:Below f.heap.size f d:=by rw[<-j];exact((eh _ f).alloc (d7 _) _).alloc s_ _
 have ad:d.heap.size=f.heap.size+2:=by rw[<-j];simp
 have z:d.heap[f.heap.size]?=some (.cells o.cells 72 (0,0)):=by rw[<-j];exact oM _ _ _
 have Q:d.heap[f.heap.size+1]?=some (.cells #[.int .i64 0,.slice none 0 0,.slice none 0 0,.slice none 0 0,.int .i64 0] 40 (0,0)):=by rw[<-j];exact lO _ _ _
 refine PY f o (λm p=>(∃c,p.heap[w.heap.size]?=some (.cells c 40 (0,0))/\c.size=5)/\Below w.heap.size w (fA p w.heap.size m)/\m.t=s.m_/\m.q=s.stop/\m.n1=0/\m.n2=0/\IC w.heap.size (fA p w.heap.size m) (.slice m.x3 m.n3 m.c3) s.m.out)
  (λm W=>Below d.heap.size d W/\m.t=s.m_/\m.q=s.stop/\m.n1=0/\m.n2=0/\IC d.heap.size W (.slice m.x3 m.n3 m.c3) s.m.out)
  (λx n c W=>n=0/\Below d.heap.size d W) (λx n c x2 n2 c2 W=>n=0/\n2=0/\Below d.heap.size d W) (λW u=>?_) (λx n c W G=>?_) (λx n c x2 n2 c2 W G=>?_) (λm W G=>?_)
 ·rw[j] at u;refine(TO W o E).mono ?_;rintro e p ⟨rfl,a⟩;have I:Below d.heap.size d W:=⟨u.os,u.tape,u.output,by rw[u.heap];exact d7 _,λk _=>by rw[u.heap]⟩
  exact⟨none,0,0,rfl,rfl,I.trans (a.mono I.size)⟩
 ·obtain⟨rfl,a⟩:=G;refine⟨by rw[a.block _ o_];exact z,(XZ W o E).mono ?_⟩
  rintro e p ⟨rfl,B⟩;exact⟨none,0,0,rfl,rfl,rfl,a.trans (B.mono a.size)⟩
 ·obtain⟨rfl,rfl,a⟩:=G;have C:Below w.heap.size w W:=r.trans ((A.mono r.size).trans (a.mono o_))
  refine⟨by rw[a.block _ o_];exact z,(MZ (V W C) ho).mono ?_⟩
  rintro e p ⟨x3,n3,c3,rfl,hO,B⟩;refine⟨x3,n3,c3,rfl,a.trans (B.mono a.size),e1,e2,rfl,rfl,?_⟩;obtain⟨x,c,L,J⟩:=hO;refine⟨x,c,L,λi T=>?_⟩
  obtain⟨g,P,U,a3,S⟩:=J i T;exact⟨g,P,U,em a.size a3,S⟩
 ·obtain⟨a,K,H,N,M,q5⟩:=G;have aa:=a.size;refine⟨by rw[a.block _ o_];exact z,⟨_,by rw[a.block _ o_];exact Q,s_⟩,⟨_,by rw[dZ _ _ _ _ o_,a.block _ o_,A.block _ o_];exact Z,s_⟩,?_,K,H,N,M,?_⟩
  ·have C:Below w.heap.size w W:=r.trans ((A.mono r.size).trans (a.mono o_))
   exact EQ m (EQ m C o_) (d7 _)
  ·have hq:=q5.keep (w':=fA (fA W (f.heap.size+1) m) w.heap.size m) (λk L J=>by rw[dZ _ _ _ _ o_,dZ _ _ _ _ o_]) (by rw[(iN _ _ _).1,(iN _ _ _).1];exact d7 _)
   obtain⟨x,c,L,J⟩:=hq;refine⟨x,c,L,λi T=>?_⟩
   obtain⟨g,P,U,a3,S⟩:=J i T;exact⟨g,P,U,o_,S⟩
def XN{l:List UInt8}(b:cX l=.ok ks)(e:dL l=(0,0)):Good ks:=by
 obtain⟨g,d⟩:=LH b e;have a:=GC b;have h:=(kY b).len;exact⟨o_,g,a,λf c=>by have:=((kY b).mem c).y_.len;omega,d,TE a⟩
def KU:∀(d t:Nat) (z:bZ),dH ks a (t+1+d)=some z->∃x,dH ks a t=some x/\x.stop=0
 |0,t,z,h=>by
  unfold dH at h ⊢
  rw[iz,fN] at h;cases b:fN (dS ks 2001) (iD ks 2001 a) t with
  |none=>rw[b] at h;cases h
  |some x=>
   rw[b] at h;simp only at h;split at h
   ·rename_i e;exact⟨x,rfl,e⟩
   ·cases h
 |d+1,t,z,h=>by
  obtain⟨x,c,_⟩:=KU 0 (t+1+d) z (by rw[show t+1+d+1+0=t+1+(d+1) by omega];exact h)
  exact KU d t x c
def J9{t u:Nat}{z:bZ}(h:dH ks a u=some z)(b:t<u):∃x,dH ks a t=some x/\x.stop=0:=KU (u-t-1) t z (by rw[show t+1+(u-t-1)=u by omega];exact h)
def C6{s τ:bZ}{b:Bool}(k:dH ks a s.m_=some s)(h:G7 (dH ks a) (λ_=>true) s τ b):(b=true/\τ.m_=s.m_+1/\s.stop=0)\/(b=false/\τ=s/\s.stop≠0):=by
 rcases h with ⟨f,e,d⟩|⟨f,e,d,i,_⟩
 ·exact d5 ⟨f,e,d⟩
 ·refine d6 ⟨f,?_,?_⟩
  ·rcases fk (s.m_+1) τ.m_ with g|g
   ·obtain⟨x,c,_⟩:=J9 d g;have:=i _ x o_ g c
    cases this
   ·omega
  ·obtain⟨x,c,j⟩:=J9 d e;rw[k] at c;cases c;exact j
def Below.fs{W b:World}{sb:Nat}(h:Below w.heap.size w W)(a:Fz sb W b)(f:w.heap.size<=sb)(d:∀k,mB sb W=some k->sb<k):Below w.heap.size w b:=
 ⟨a.os.trans h.os,a.tape.trans h.tape,a.output.trans h.output,em h.size a.size,λk c=>by
   have:=h.size;rw[a.blk k o_ o_ λe=>by have:=d k e;omega];exact h.block k c⟩
def PC(w:World)(j:List UInt8)(T:Nat)(h:List (List UInt8))(hE:xP j T h)(hT:lG w)(hp:kI w)(aa:11<=w.heap.size):
 Calls prog 21 #[.string (bs j)] w λe o=>∃x n c,e=.returned (.tuple #[.slice x n c,.int .i64 T,.bool true])/\IC w.heap.size o (.slice x n c) h/\Below w.heap.size w o:=by
 obtain⟨N,V,l,D,I⟩:=hE;have U:=XN l D;have d:dH N [] T=some ⟨T,⟨[],V,h⟩,1⟩:=I;have E:=U.sta d;have K:T<=500:=E.1.m_
 have Q:j.length<=2000:=by
  unfold cX at l;split at l
  ·cases l
  ·omega
 refine(LK w (bs j) T K (λm W=>IC w.heap.size W (.slice m.x3 m.n3 m.c3) h/\Below w.heap.size w W)
  (λt A W=>∃u G y B n s,Live u G W A y B N [] s n []/\s.m_=t/\t<=T/\w.heap.size<=A/\Below w.heap.size w W)
  (λA W=>∃u G y B n,Live u G W A y B N [] ⟨T,⟨[],V,h⟩,1⟩ n []/\Below w.heap.size w W) ?_ (λt A W hL=>?_) (λA W hM=>?_)).mono ?_
 ·refine(VQ (bs j) (.slice none 0 0) [] w hT hp (by rw[gJ];omega) (d6 ⟨rfl,rfl⟩) s_ (λM r f=>?_)).mono ?_
  ·rw[jR] at r f;exact XN r f
  ·rintro e o ⟨v,rfl,C,Z⟩;rw[jR] at Z;rcases Z with ⟨_,M,u,G,A,y,F,rfl,L,P,q4,s,q5,q6⟩|⟨p,_⟩
   ·rw[l] at F;cases F;exact⟨A,rfl,u,G,y,_,1,s,⟨q5,q4,hp.below C,⟨o_,o_⟩,o_,λb C=>by cases C⟩,q6,o_,L,C⟩
   ·rw[D] at p;exact absurd rfl p
 ·obtain⟨u,G,y,B,n,s,r,f,h3,X,h5⟩:=hL;refine(J8 U s_ r).mono ?_
  rintro e o ⟨b,rfl,O,S,τ,F,L,P⟩;have z:Below w.heap.size w o:=Below.fs h5 P X λk J=>(r.row J).1
  have a:=r.ses.now;rcases C6 a L with ⟨rfl,Y,H⟩|⟨rfl,rfl,H⟩
  ·refine d6 ⟨?_,rfl,u,O,y,B,S,τ,F,o_,?_,X,z⟩
   all_goals
    refine Nat.lt_of_le_of_ne h3 λe=>?_
    rw[f,e,d] at a;cases a;exact absurd H s_
  ·have ht:t=T:=by
    rcases fk t T with h6|h6
    ·obtain⟨x,h7,h8⟩:=J9 d h6;rw[<-f,a] at h7;cases h7;exact absurd h8 H
    ·omega
   subst ht;rw[f,d] at a;cases a;exact d5 ⟨rfl,rfl,u,O,y,B,S,F,z⟩
 ·obtain⟨u,G,y,B,n,r,f⟩:=hM;refine(M7 r.ses rfl (by have:=E.2.2.1.out;simp only at this ⊢;omega)).mono ?_
  rintro e o ⟨m,rfl,C,e1,Y,H,e4,ho⟩;refine⟨m,rfl,e1,Y,H,λq=>⟨?_,?_⟩⟩
  ·have p:IC w.heap.size o (.slice m.x3 m.n3 m.c3) h:=by
    obtain⟨x,c,a1,a2⟩:=ho;refine⟨x,c,a1,λi hi=>?_⟩
    obtain⟨g,b1,b2,b3,b4⟩:=a2 i hi;exact⟨g,b1,b2,em f.size b3,b4⟩
   refine p.keep (λk _ J=>?_) ?_
   ·exact eq o (.cells m.cells 40) k J
   ·show o.heap.size<=(o.alloc (.cells m.cells 40)).heap.size
    simp
  ·have p:=(f.trans (C.mono f.size)).alloc (f.trans (C.mono f.size)).size (.cells m.cells 40);exact⟨p.os,p.tape,p.output,p.size,p.block⟩
 ·rintro e o ⟨m,rfl,r,f⟩;exact⟨_,_,_,rfl,r,f⟩
def vF(n:Int)(c: -9223372036854775808<=n)(b:n<=9223372036854775807)(w:World)(d:kI w):
 Calls prog 20 #[.int .i64 n] w λe f=>e=.returned (.string (bs (cK n)))/\Below w.heap.size w f:=by
 refine(strconv_Itoa n c b w d).mono ?_;rintro e h ⟨rfl,g,i,a⟩;exact⟨by rw[sS n c b];rfl,DP a⟩
def yJ(n:Int)(o: -9223372036854775808<=n)(m:n<=9223372036854775807)(w:World)(b:kI w):
 Calls prog 19 #[.int .i64 n] w λe l=>e=.returned (.string (bs (cS n)))/\Below w.heap.size w l:=by
 by_cases g:n= -9223372036854775808
 ·subst g;go_enter func19,ntmps19;go_wp2_with fail;go_ret;exact⟨k_,eh _ _⟩
 ·by_cases p:n<0
  ·have s:wrap64 (-n)= -n:=by unfold wrap64;omega
   have i:cK (-n)=dO n.natAbs:=by
    unfold cK dO;rw[if_neg o_,show (-n).natAbs=n.natAbs by omega];rfl
   have j:cS n=[40,45]++(dO n.natAbs++[41]):=by unfold cS;rw[if_neg g,if_pos p]
   have d:=aB (vF (-n) o_ o_ w b)
   rw[i] at d;rw[j];have q:=nS n.natAbs;generalize dO n.natAbs=c at*;have r:(bs c).size=c.length:=gJ c;clear b i j;go_enter func19,ntmps19;go_wp2_with fail;refine d.out.mono ?_;rintro e k ⟨rfl,a⟩;have f:=aB a;clear a;go_wp2_with fail;go_ret;refine⟨?_,f.out⟩;show Ending.returned (.string (bs [40,45]++bs c++bs [41]))=_
   rw[iK,iK,fo];rfl
  ·have d:=aB (vF n o m w b);clear b;go_enter func19,ntmps19;go_wp2_with fail;refine d.out.mono ?_;rintro e k ⟨rfl,a⟩;have f:=aB a;clear a;go_wp2_with fail;go_ret;refine⟨?_,f.out⟩;unfold cS cK;rw[if_neg g,if_neg o_,if_neg o_];rfl
end Go.Proofs.YthbffcmfmjpncaaGreatDoor
namespace Go.Proofs.YthbffcmfmjpncaaGreatDoor.Hs
def eA:Nat->Nat->List UInt8->Except Nat (List aP)
 |0,_,_=>.error 0
 |f+1,n,l=>
  if l.length=0 then .ok [⟨101,[],n⟩]
  else if (bJ l).ok then
   cH [⟨(bJ l).sort,(bJ l).x_,n⟩] (eA f (n+(l.take ((bJ l).size+blankL l.length (l.drop (bJ l).size))).count 10) (l.drop ((bJ l).size+blankL l.length (l.drop (bJ l).size))))
  else .error n
def GD(a b:List UInt8):aU (a++b)=aU a+b.count 10:=by unfold aU;rw[List.count_append];omega
def tK(f:Nat):∀(a l:List UInt8),cU f a l=eA f (aU a) l:=by
 induction f with
 |zero=>intro a l;rfl
 |succ f c=>
  intro a l;rw[eA];by_cases h:l.length=0
  ·rw[if_pos h,kW _ _ _ h]
  ·rw[if_neg h];cases b:(bJ l).ok
   ·rw[kX _ _ _ h b];rfl
   ·rw[gV _ _ _ h b _ rfl,c,GD];rfl
def DI(ts:List aP)(x:Except Nat (List aP)):Except Nat (List aP):=ts.foldr (λt x=>cH [t] x) x
def ZQ(ts:List aP)(x:Except Nat (List aP)):DI ts x=cH ts x:=by
 induction ts with
 |nil=>exact(qU x).symm
 |cons t ts a=>show cH [t] (DI ts x)=_;rw[a,<-lB];rfl
def cpA:List UInt8:=[102,117,110,99,32,102,40,112,41,32,123,32,112,91,48,93,32,61,32,55,59,32,114,101,116,117,114,110,32,112,59,32,125,10,102,117,110,99,32,109,97,105,110,40,41,32,123,10,118,97,114,32,97,32,61,32]
def cpB:List UInt8:=[44,32,91,49,44,32,50,93,93,59,10,118,97,114,32,98,32,61,32,97,59,10,118,97,114,32,99,32,61,32,91,97,44,32,98,93,59,10,118,97,114,32,100,32,61,32,102,40,97,41,59,10,98,91,49,93,91,48,93,32]
def uC:List UInt8:=[59,10,99,91,48,93,91,49,93,32,61,32,91,93,59,10,112,114,105,110,116,32,97,59,32,112,114,105,110,116,32,98,59,32,112,114,105,110,116,32,99,59,32,112,114,105,110,116,32,100,59,10,125]
def TA:List aP:=[⟨107,[102,117,110,99],1⟩,⟨110,[102],1⟩,⟨112,[40],1⟩,⟨110,[112],1⟩,⟨112,[41],1⟩,⟨112,[123],1⟩,⟨110,[112],1⟩,⟨112,[91],1⟩,⟨48,[48],1⟩,⟨112,[93],1⟩,⟨112,[61],1⟩,⟨48,[55],1⟩,⟨112,[59],1⟩,⟨107,[114,101,116,117,114,110],1⟩,⟨110,[112],1⟩,⟨112,[59],1⟩,⟨112,[125],1⟩,⟨107,[102,117,110,99],2⟩,⟨110,[109,97,105,110],2⟩,⟨112,[40],2⟩,⟨112,[41],2⟩,⟨112,[123],2⟩,⟨107,[118,97,114],3⟩,⟨110,[97],3⟩,⟨112,[61],3⟩]
def tpB:List aP:=[⟨112,[44],3⟩,⟨112,[91],3⟩,⟨48,[49],3⟩,⟨112,[44],3⟩,⟨48,[50],3⟩,⟨112,[93],3⟩,⟨112,[93],3⟩,⟨112,[59],3⟩,⟨107,[118,97,114],4⟩,⟨110,[98],4⟩,⟨112,[61],4⟩,⟨110,[97],4⟩,⟨112,[59],4⟩,⟨107,[118,97,114],5⟩,⟨110,[99],5⟩,⟨112,[61],5⟩,⟨112,[91],5⟩,⟨110,[97],5⟩,⟨112,[44],5⟩,⟨110,[98],5⟩,⟨112,[93],5⟩,⟨112,[59],5⟩,⟨107,[118,97,114],6⟩,⟨110,[100],6⟩,⟨112,[61],6⟩,⟨110,[102],6⟩,⟨112,[40],6⟩,⟨110,[97],6⟩,⟨112,[41],6⟩,⟨112,[59],6⟩,⟨110,[98],7⟩,⟨112,[91],7⟩,⟨48,[49],7⟩,⟨112,[93],7⟩,⟨112,[91],7⟩,⟨48,[48],7⟩,⟨112,[93],7⟩]
def SZ:List aP:=[⟨112,[59],7⟩,⟨110,[99],8⟩,⟨112,[91],8⟩,⟨48,[48],8⟩,⟨112,[93],8⟩,⟨112,[91],8⟩,⟨48,[49],8⟩,⟨112,[93],8⟩,⟨112,[61],8⟩,⟨112,[91],8⟩,⟨112,[93],8⟩,⟨112,[59],8⟩,⟨107,[112,114,105,110,116],9⟩,⟨110,[97],9⟩,⟨112,[59],9⟩,⟨107,[112,114,105,110,116],9⟩,⟨110,[98],9⟩,⟨112,[59],9⟩,⟨107,[112,114,105,110,116],9⟩,⟨110,[99],9⟩,⟨112,[59],9⟩,⟨107,[112,114,105,110,116],9⟩,⟨110,[100],9⟩,⟨112,[59],9⟩,⟨112,[125],10⟩]
def V7(f:Nat)(r:List UInt8):eA (f+1+25) 1 (cpA++91::r)=DI TA (eA (f+1) 3 (91::r)):=k_
def V6(f:Nat)(r:List UInt8):eA (f+1+37) 3 (cpB++61::32::r)=DI tpB (eA (f+1) 7 (61::32::r)):=k_
def V0(f:Nat):eA (f+25) 7 uC=DI SZ (eA f 10 []):=k_
def wM(k:Nat)(t:aP):aP:=⟨t.sort,t.x_,t.l_+k⟩
def LC(k:Nat):Except Nat (List aP)->Except Nat (List aP)
 |.ok l=>.ok (l.map (wM k))
 |.error 0=>.error 0
 |.error (n+1)=>.error (n+1+k)
def qK(k:Nat)(ts:List aP)(x:Except Nat (List aP)):LC k (cH ts x)=cH (ts.map (wM k)) (LC k x):=by
 rcases x with (_|n)|l<;>simp[cH,LC]
def xV(k f:Nat):∀(n:Nat) (l:List UInt8),eA f (n+1+k) l=LC k (eA f (n+1) l):=by
 induction f with
 |zero=>intro n l;rfl
 |succ f a=>
  intro n l;rw[eA,eA];by_cases h:l.length=0
  ·rw[if_pos h,if_pos h];rfl
  ·rw[if_neg h,if_neg h];cases b:(bJ l).ok
   ·rfl
   ·rw[if_pos rfl,if_pos rfl,qK];generalize (List.take ((bJ l).size+blankL l.length (List.drop (bJ l).size l)) l).count 10=c;rw[show n+1+k+c=(n+c)+1+k by omega,a (n+c),show n+1+c=n+c+1 by omega];rfl
def vO(x:Int)(r:List UInt8)(n:Nat):blankL n (cS x++r)=0:=by
 obtain⟨d,s,e,a⟩:=LU x;rw[e];cases n with
 |zero=>rfl
 |succ n=>
  have b:¬(d.toNat=32\/d.toNat=9\/d.toNat=10)/\d≠47:=by
   rcases a with a|rfl
   ·unfold cB at a;simp only[fq,decide_eq_true_eq] at a;refine⟨o_,?_⟩
    rintro rfl;revert a;decide
   ·decide
  rw[fh,gH,if_neg b.1,if_neg];intro f;obtain⟨t,c⟩:=jg.1 f;simp only[fh,List.cons.injEq] at c;exact b.2 c.1.symm
def EZ(f n:Nat)(x:Int)(r:List UInt8):eA (f+1) n (91::(cS x++r))=cH [⟨112,[91],n⟩] (eA f n (cS x++r)):=by
 have a:bJ (91::(cS x++r))=⟨112,[91],1,true⟩:=rfl;rw[eA,if_neg s_,a,if_pos rfl]
 simp only[List.drop_succ_cons,jm,vO,iz,ib,jl];rfl
def NX(f n:Nat)(x:Int)(r:List UInt8):eA (f+1) n (61::32::(cS x++r))=cH [⟨112,[61],n⟩] (eA f n (cS x++r)):=by
 have a:bJ (61::32::(cS x++r))=⟨112,[61],1,true⟩:=rfl;rw[eA,if_neg s_,a,if_pos rfl]
 have b:blankL (61::32::(cS x++r)).length (List.drop 1 (61::32::(cS x++r)))=1:=by
  rw[List.drop_succ_cons,jm,ek,gH,if_pos d_,vO]
 simp only[b];rfl
def uI(j:Nat)(x:Int)(g: -9223372036854775808<=x)(d:x<=9223372036854775807)(a:List UInt8)(e:iA a):
 ∃k,k<=(cS x).length/\∀f,eA (f+k) (0+1+j) (cS x++a)=cH ((oZ x).map (wM j)) (eA f (0+1+j) a):=by
 obtain⟨k,c,h⟩:=KG x g d [] a e s_
 refine⟨k,c,λf=>?_⟩
 have b:=h f;rw[tK,tK,pA _ (cQ s_ (VH x))] at b
 rw[xV,show (0+1:Nat)=1 from rfl,show eA (f+k) 1 (cS x++a)=_ from b,qK,<-xV j f 0 a]
def iC(x y:Int):List UInt8:=cpA++91::(cS x++(cpB++61::32::(cS y++uC)))
def KX(x y:Int):List aP:=TA++⟨112,[91],3⟩::((oZ x).map (wM 2)++(tpB++⟨112,[61],7⟩::((oZ y).map (wM 6)++(SZ++[⟨101,[],10⟩]))))
def K8(r:List UInt8):iA (44::r):=by
 intro x y h;obtain⟨rfl,rfl⟩:=List.cons.inj h;exact⟨d_,d_,d_,rfl⟩
def K7(r:List UInt8):iA (59::r):=by
 intro x y h;obtain⟨rfl,rfl⟩:=List.cons.inj h;exact⟨d_,d_,d_,rfl⟩
def FW(x y:Int)(d: -9223372036854775808<=x)(a:x<=9223372036854775807)(b: -9223372036854775808<=y)(c:y<=9223372036854775807):
 fJ (iC x y)=.ok (KX x y):=by
 obtain⟨e,i,l⟩:=uI 2 x d a (cpB++61::32::(cS y++uC)) (K8 _);obtain⟨f,h,j⟩:=uI 6 y b c uC (K7 _);have m:blankL (iC x y).length (iC x y)=0:=rfl;unfold fJ;rw[m,jl,jm,tK]
 have k:(iC x y).length=57+(cS x).length+60+2+(cS y).length+53:=by
  unfold iC;simp only[ei,ek,show cpA.length=56 from rfl,show cpB.length=60 from rfl,show uC.length=53 from rfl];omega
 obtain⟨g,n⟩:∃g,(iC x y).length+1=(((((g+1+25)+f)+1+37)+e)+1+25):=by
  refine⟨31+((cS x).length-e)+24+((cS y).length-f)+28,?_⟩;rw[k];omega
 rw[n];show eA _ 1 (iC x y)=_
 unfold iC;rw[V7,EZ,show (3:Nat)=0+1+2 from rfl,l,show (0+1+2:Nat)=3 from rfl,V6,NX,show (7:Nat)=0+1+6 from rfl,j,show (0+1+6:Nat)=7 from rfl,V0,eA,if_pos r_]
 simp only[ZQ,<-lB];unfold KX;simp only[cH,fo,fh,gv]
noncomputable def DV(ts:List aP):Option bZ:=
 match jX ts with
 |.error _=>none
 |.ok (ks,_)=>if kQ 2001 ks=(0,0) then AO (dS ks 2001) 100 200 0 (iD ks 2001 []) else none
def ML{a:List UInt8}{ts:List aP}{t:Nat}{b:List (List UInt8)}(m:a.length<=2000)(k:∀c∈a,c.toNat<128)(j:fJ a=.ok ts)
 (h:DV ts=some ⟨t,⟨[],[],b⟩,1⟩):xP a t b:=by
 unfold DV at h;cases f:jX ts with
 |error e=>rw[f] at h;cases h
 |ok r=>
  obtain⟨g,q⟩:=r;rw[f] at h;simp only at h;split at h
  ·rename_i l
   have d:cX a=.ok g:=by
    unfold cX;rw[if_neg o_,CJ _ _ _ k,j]
    simp only[f]
   have:=CX (m0:=iD g 2001 []) (by have:=JS;omega) 200 0 _ h λr i=>by rw[fN,i];rfl
   exact⟨g,[],d,by unfold dL;rw[d];exact l,this⟩
  ·cases h
noncomputable def oX(x y:Int):List (List UInt8):=
 [gF (aT [aW x,aT [aW 1,aW 2]]),gF (aT [aW x,aT [aW y,aW 2]]),gF (aT [aT [aW x,aT []],aT [aW x,aT [aW 1,aW 2]]]),gF (aT [aW 7,aT [aW 1,aW 2]])]
def oJ(d:List UInt8):Int:=(((cD 0 d).getD 0:Nat):Int)
def LA(j:Nat):Option Bool->List UInt8->List aP
 |none,d=>[⟨48,d,j⟩]
 |some true,d=>[⟨112,[40],j⟩,⟨112,[45],j⟩,⟨48,d,j⟩,⟨112,[41],j⟩]
 |some false,_=>[⟨112,[40],j⟩,⟨112,[45],j⟩,⟨48,dO 9223372036854775807,j⟩,⟨112,[45],j⟩,⟨48,dO 1,j⟩,⟨112,[41],j⟩]
def KZ:Option Bool->List UInt8->Int
 |none,d=>oJ d
 |some true,d=>jB (-oJ d)
 |some false,_=> -9223372036854775808
def toksC(a b:Option Bool)(dx dy:List UInt8):List aP:=TA++⟨112,[91],3⟩::(LA 3 a dx++(tpB++⟨112,[61],7⟩::(LA 7 b dy++(SZ++[⟨101,[],10⟩]))))
def V8(a b:Option Bool)(d c:List UInt8):DV (toksC a b d c)=some ⟨12,⟨[],[],oX (KZ a d) (KZ b c)⟩,1⟩:=by
 rcases a with _|_|_<;>rcases b with _|_|_<;>kernel_rfl
def sR(n:Nat)(h:n<=iE):oJ (dO n)=n:=by unfold oJ;rw[sW n h];rfl
def vC(j:Nat)(x:Int)(c: -9223372036854775808<=x)(b:x<=9223372036854775807):∃a,(oZ x).map (wM j)=LA (1+j) a (dO x.natAbs)/\KZ a (dO x.natAbs)=x:=by
 unfold oZ;split
 ·rename_i h;exact⟨some false,rfl,h.symm⟩
 ·split
  ·rename_i d h;refine⟨some true,rfl,?_⟩;show jB (-oJ _)=x
   rw[sR _ (by unfold iE;omega)]
   unfold jB;omega
  ·refine⟨none,rfl,?_⟩;show oJ _=x
   rw[sR _ (by unfold iE;omega)];omega
def OL(x y:Int):∀c∈iC x y,c.toNat<128:=by
 unfold iC;exact fU d_ (fU (a:=[91]) d_ (fU (yL x) (fU d_ (fU (a:=[61,32]) d_ (fU (yL y) d_)))))
def OM(x y:Int):(iC x y).length<=1000:=by
 unfold iC;have a:=nP x;have b:=nP y;simp only[ei,ek,show cpA.length=56 from rfl,show cpB.length=60 from rfl,show uC.length=53 from rfl];omega
def EM(x y:Int)(f: -9223372036854775808<=x)(c:x<=9223372036854775807)(d: -9223372036854775808<=y)(e:y<=9223372036854775807):xP (iC x y) 12 (oX x y):=by
 obtain⟨a,g,j⟩:=vC 2 x f c;obtain⟨b,i,k⟩:=vC 6 y d e;refine ML (by have:=OM x y;omega) (OL x y) (FW x y f c d e) ?_
 have h:=V8 a b (dO x.natAbs) (dO y.natAbs);rw[j,k] at h;rw[<-h];unfold KX toksC;rw[g,i]
def AP(x:Int):List UInt8:=[91]++cK x++[44,32,91,49,44,32,50,93,93]
def UJ(x y:Int):oX x y=[AP x,[91]++cK x++[44,32,91]++cK y++[44,32,50,93,93],[91,91]++cK x++[44,32,91,93,93,44,32]++AP x++[93],[91,55,44,32,91,49,44,32,50,93,93]]:=by
 have b:cK 1=[49]:=rfl;have a:cK 2=[50]:=rfl;have c:cK 7=[55]:=rfl;unfold oX AP gF;simp[iU,eU,aT,aW,b,a,c]
end Go.Proofs.YthbffcmfmjpncaaGreatDoor.Hs
