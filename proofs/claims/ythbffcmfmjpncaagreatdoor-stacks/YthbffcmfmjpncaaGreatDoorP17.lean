/- Contracts of the program: the moment is told where there is no frame. -/
import Derived.Test.YthbffcmfmjpncaaGreatDoorP16
set_option linter.defProp false
set_option maxRecDepth 100000
set_option maxHeartbeats 4000000
namespace Go.Proofs.YthbffcmfmjpncaaGreatDoor
open Hs
open _root_.Go.Proofs.Tryz
open Go.RowKit
variable{l:List (Value × Value)}{ks:List aC}{a b b_ n sb:Nat}{F:Nat->Prop}{v:Value}{w w':World}{s:bI}
def pN(b_:Nat)(w:World)(v:Value)(l:List (List UInt8)):Prop:=∃x c,v=.slice x l.length c/\∀i (h:i<l.length),∃g,x=some ⟨g,0,none⟩/\w.cell? ⟨g,i,none⟩=some (.string (bs l[i]))/\b_<=g/\g<w.heap.size
def pN.keep{l:List (List UInt8)}(h:pN b_ w v l)(f:∀k,b_<=k->k<w.heap.size->w'.heap[k]?=w.heap[k]?)(n:w.heap.size<=w'.heap.size):pN b_ w' v l:=by
 obtain⟨x,c,j,d⟩:=h;refine⟨x,c,j,λi o=>?_⟩
 obtain⟨g,e,m,a,b⟩:=d i o;exact⟨g,e,by rw[World.cell?_of_block (f g a b)];exact m,a,el b n⟩
def vU{l:List (List UInt8)}(h:EX F w v l)(B:l.length<=1000000):
 Calls prog 58 #[v] w λe b=>∃x n c,e=.returned (.slice x n c)/\pN w.heap.size b (.slice x n c) l/\Below w.heap.size w b:=by
 rcases h with ⟨rfl,rfl⟩|⟨g,c,A,rfl,E,C,H,z⟩
 ·refine(tJ w).mono ?_;rintro e b ⟨rfl,rfl⟩;exact⟨none,0,0,rfl,⟨none,0,rfl,λi k=>by simp at k⟩,ei _ _⟩
 ·refine(tK g 0 l.length c (mE l) w (by simp[mE]) B (λj u a=>?_) (λu q=>?_)).mono ?_
  ·rw[gq];refine aA C ?_;rw[<-z,fu] at a;split at a
   ·rw[Array.getElem?_toList] at a;exact a
   ·cases a
  ·simp only[mE,ia] at q;obtain⟨x,_,rfl⟩:=q;rfl
  ·rintro e b ⟨D,rfl,f,y⟩;obtain⟨x,m,rfl⟩:=cU f;refine⟨x,_,m,rfl,⟨x,m,rfl,λi k=>?_⟩,y⟩
   rcases f.2 with ⟨d,r⟩|⟨p,o,s,d,r,t,G⟩
   ·simp only[Value.slice.injEq] at d;omega
   ·cases d;refine⟨p,rfl,?_,r,aD t⟩;have:=f.cells (g:=p) rfl i (.string (bs l[i])) (by simp[mE,k])
    rw[oA] at this;exact this
def UH(w:World)(s:SV)(h:s.n1=0):Calls prog 93 #[s.val] w λe a=>e=.returned (.pointer none)/\Below w.heap.size w a:=by
 obtain⟨t,g,c,i,d,j,k,l,b,f,q⟩:=s;subst h;unfold SV.val;go_enter func93,ntmps93;go_wp2_with fail;go_ret;exact⟨rfl,(ei _ _).alloc (eh _) _⟩
def IP(w:World)(s:SV)(h:s.n1=0):Calls prog 57 #[s.val] w λe d=>e=.returned (.slice none 0 0)/\Below w.heap.size w d:=by
 have a:=aB λW=>UH W s h
 have g:=aB λW=>AnyF.slices_SortFunc_none (P:=prog) (ρ:=sortL_ren) { sortL with } none 0 (.func (.func 97) #[] #[]) W
 obtain⟨t,r,o,i,p,x,j,l,m,n,q⟩:=s;subst h;unfold SV.val at a;unfold SV.val;go_enter func57,ntmps57;go_wp2_with fail;refine(a.out _).mono ?_;rintro e c ⟨rfl,b⟩;have f:=aB b;clear b a;go_wp2_with fail;go_loopg [3,4] 1 (λk v s wr=>v=.slice none 0 0/\s=.pointer none/\wr=c)
 case atStart=>exact⟨rfl,rfl,rfl⟩
 case round=>
  obtain⟨rfl,rfl,rfl⟩:=hrel;go_wp2_with fail;refine(g.out _).mono ?_;rintro e u ⟨rfl,rfl⟩;go_wp2_with fail;go_ret;exact⟨rfl,((ei _ _).alloc (eh _) _).trans (f.out.mono s_)⟩
def CM(w:World)(s:SV)(h:s.n1=0):Calls prog 56 #[s.val] w λe b=>e=.returned (.slice none 0 0)/\Below w.heap.size w b:=by
 obtain⟨t,o,m,d,n,p,f,g,j,l,q⟩:=s;subst h;unfold SV.val;go_enter func56,ntmps56;go_wp2_with fail;go_loopg [3,9] 1 (λk v i wr=>v=.slice none 0 0/\i=.int .i64 0/\Below w.heap.size w wr)
 case atStart=>exact⟨rfl,rfl,(ei _ _).alloc (eh _) _⟩
 case round=>
  obtain⟨rfl,rfl,a⟩:=hrel;have c:=aB a;clear a;go_wp2_with fail;go_ret;exact⟨rfl,c.out⟩
def QA(w:World)(sb:Nat)(s:SV)(P:SV->World->Prop)(I:sb<w.heap.size)
 (k0:w.cell? ⟨sb,0,none⟩=some (.int .i64 s.t)) (p:w.cell? ⟨sb,1,none⟩=some (.slice s.x1 s.n1 s.c1)) (F:w.cell? ⟨sb,2,none⟩=some (.slice s.x2 s.n2 s.c2)) (t:w.cell? ⟨sb,3,none⟩=some (.slice s.x3 s.n3 s.c3)) (J:w.cell? ⟨sb,4,none⟩=some (.int .i64 s.q))
 (g:Hid (Calls prog 29 #[s.val] (w.alloc (.cells #[.int .i64 0,.slice none 0 0,.slice none 0 0,.slice none 0 0,.int .i64 0] 40)) λe f=>∃m:SV,e=.returned m.val/\(∃c,f.heap[w.heap.size]?=some (.cells c 40 (0,0))/\c.size=5)/\P m (dS f w.heap.size m))):
 Calls prog 10 #[.pointer (some ⟨sb,0,none⟩)] w λe f=>∃m:SV,e=.returned m.val/\P m f:=by
 unfold SV.val at g;go_enter func10,ntmps10;go_wp2_with fail;refine g.out.mono ?_;rintro e l ⟨m,rfl,⟨c,a,O⟩,n⟩;have x:=aA (i:=0) a (e7 o_)
 have C:=aA (i:=1) a (e7 o_)
 have r:=aA (i:=2) a (e7 o_)
 have L:=aA (i:=3) a (e7 o_)
 have B:=aA (i:=4) a (e7 o_)
 have q:=aE (i:=0) a;have u:=aE (i:=1) a;have E:=aE (i:=2) a;have H:=aE (i:=3) a;have G:=aE (i:=4) a;have M:=aD a;have o:=nA (W:=l) (s:=m) a o_ rfl
 have j:=aB o;have k:=aB n;unfold dS at j k;clear o n a g k0 p F t J;go_wp2_with fail;have b:=j.out;have d:=k.out;clear j k x C r L B q u E H G;generalize ((((l.setCell ⟨w.heap.size,0,none⟩ (.int .i64 m.t)).setCell ⟨w.heap.size,1,none⟩ (.slice m.x1 m.n1 m.c1)).setCell ⟨w.heap.size,2,none⟩ (.slice m.x2 m.n2 m.c2)).setCell ⟨w.heap.size,3,none⟩ (.slice m.x3 m.n3 m.c3)).setCell ⟨w.heap.size,4,none⟩ (.int .i64 m.q)=N at b d ⊢
 obtain⟨K,y,A,D,z⟩:=b;exact bodyPost_ret (v:=.agg #[.int .i64 m.t,.slice m.x1 m.n1 m.c1,.slice m.x2 m.n2 m.c2,.slice m.x3 m.n3 m.c3,.int .i64 m.q]) (by simp[results,results10,go_sem,K,y,A,D,z]) rfl ⟨m,rfl,d⟩
def lX{W:World}(s:SV)(h:Below w.heap.size w W)(g:w.heap.size<=b):Below w.heap.size w (dS W b s):=by
 obtain⟨e,c,f,d⟩:=fP W b s;exact⟨c.trans h.os,f.trans h.tape,d.trans h.output,by rw[e];exact h.size,λk a=>by rw[cV _ _ _ k o_];exact h.block k a⟩
def P7{fp:Nat->Value}{mb:Nat}{mo:Obj}{st:Nat->Option bI}(h:kC fp F w sb mb mo st s n)(X:s.m.f_=[])(ho:s.m.out.length<=1000000):
 Calls prog 10 #[.pointer (some ⟨sb,0,none⟩)] w λe p=>∃m:SV,e=.returned m.val/\Below w.heap.size w p/\m.t=s.m_/\m.q=s.stop/\m.n1=0/\m.n2=0/\pN w.heap.size p (.slice m.x3 m.n3 m.c3) s.m.out:=by
 obtain⟨o,D,k0,k1,k2,k3,k4,_⟩:=h.cells;have O:=h.lt;obtain⟨ac,e0,e1,e2⟩:=D.sv;obtain rfl:=SV.val_inj e0
 have E:o.n1=0:=by
  obtain⟨fv,tv,ov,y,t,K,H,N,M⟩:=D;rw[X] at H
  have Y:y=[]:=by
   cases y with
   |nil=>rfl
   |cons v l=>exact H.elim
  subst Y;simp only[SV.val,Value.agg.injEq] at t;simp at t;rcases K with ⟨_,x,c,e⟩|⟨g,c,ab,e,_⟩
  ·have:=t.2.1.trans e;simp at this;exact this.2.1
  ·have:=t.2.1.trans e;simp at this;exact this.2.1
 have V:∀W,Below w.heap.size w W->EX F W (.slice o.x3 o.n3 o.c3) s.m.out:=λW u=>by
  obtain⟨fv,tv,ov,y,t,K,H,N,M⟩:=D;simp only[SV.val,Value.agg.injEq] at t;simp at t;rw[t.2.2.2.1];exact M.keep (λb a=>u.block b (h.fix b a).1) λ_ h=>h
 generalize q:w.alloc (.cells #[.int .i64 0,.slice none 0 0,.slice none 0 0,.slice none 0 0,.int .i64 0] 40)=f;have r:Below w.heap.size w f:=by rw[<-q];exact(ei _ w).alloc (eh _) _
 have ae:f.heap.size=w.heap.size+1:=by rw[<-q];simp
 have Z:f.heap[w.heap.size]?=some (.cells #[.int .i64 0,.slice none 0 0,.slice none 0 0,.slice none 0 0,.int .i64 0] 40 (0,0)):=by rw[<-q];exact aL _ _ rfl _
 refine QA w sb o _ O k0 k1 k2 k3 k4 ?_;rw[q];generalize j:(f.alloc (.cells o.cells 72)).alloc (.cells #[.int .i64 0,.slice none 0 0,.slice none 0 0,.slice none 0 0,.int .i64 0] 40)=d;have A:Below f.heap.size f d:=by rw[<-j];exact((ei _ f).alloc (eh _) _).alloc s_ _
 have ad:d.heap.size=f.heap.size+2:=by rw[<-j];simp
 have z:d.heap[f.heap.size]?=some (.cells o.cells 72 (0,0)):=by rw[<-j];exact jS _ _ _
 have Q:d.heap[f.heap.size+1]?=some (.cells #[.int .i64 0,.slice none 0 0,.slice none 0 0,.slice none 0 0,.int .i64 0] 40 (0,0)):=by rw[<-j];exact gS _ _ _
 refine yQ f o (λm p=>(∃c,p.heap[w.heap.size]?=some (.cells c 40 (0,0))/\c.size=5)/\Below w.heap.size w (dS p w.heap.size m)/\m.t=s.m_/\m.q=s.stop/\m.n1=0/\m.n2=0/\pN w.heap.size (dS p w.heap.size m) (.slice m.x3 m.n3 m.c3) s.m.out)
  (λm W=>Below d.heap.size d W/\m.t=s.m_/\m.q=s.stop/\m.n1=0/\m.n2=0/\pN d.heap.size W (.slice m.x3 m.n3 m.c3) s.m.out)
  (λx n c W=>n=0/\Below d.heap.size d W) (λx n c x2 n2 c2 W=>n=0/\n2=0/\Below d.heap.size d W) (λW u=>?_) (λx n c W G=>?_) (λx n c x2 n2 c2 W G=>?_) (λm W G=>?_)
 ·rw[j] at u;refine(CM W o E).mono ?_;rintro e p ⟨rfl,a⟩;have I:Below d.heap.size d W:=⟨u.os,u.tape,u.output,by rw[u.heap];exact eh _,λk _=>by rw[u.heap]⟩
  exact⟨none,0,0,rfl,rfl,I.trans (a.mono I.size)⟩
 ·obtain⟨rfl,a⟩:=G;refine⟨by rw[a.block _ o_];exact z,(IP W o E).mono ?_⟩
  rintro e p ⟨rfl,B⟩;exact⟨none,0,0,rfl,rfl,rfl,a.trans (B.mono a.size)⟩
 ·obtain⟨rfl,rfl,a⟩:=G;have C:Below w.heap.size w W:=r.trans ((A.mono r.size).trans (a.mono o_))
  refine⟨by rw[a.block _ o_];exact z,(vU (V W C) ho).mono ?_⟩
  rintro e p ⟨x3,n3,c3,rfl,hO,B⟩;refine⟨x3,n3,c3,rfl,a.trans (B.mono a.size),e1,e2,rfl,rfl,?_⟩;obtain⟨x,c,L,J⟩:=hO;refine⟨x,c,L,λi T=>?_⟩
  obtain⟨g,P,U,a3,S⟩:=J i T;exact⟨g,P,U,em a.size a3,S⟩
 ·obtain⟨a,K,H,N,M,q5⟩:=G;have aa:=a.size;refine⟨by rw[a.block _ o_];exact z,⟨_,by rw[a.block _ o_];exact Q,s_⟩,⟨_,by rw[cV _ _ _ _ o_,a.block _ o_,A.block _ o_];exact Z,s_⟩,?_,K,H,N,M,?_⟩
  ·have C:Below w.heap.size w W:=r.trans ((A.mono r.size).trans (a.mono o_))
   exact lX m (lX m C o_) (eh _)
  ·have hq:=q5.keep (w':=dS (dS W (f.heap.size+1) m) w.heap.size m) (λk L J=>by rw[cV _ _ _ _ o_,cV _ _ _ _ o_]) (by rw[(fP _ _ _).1,(fP _ _ _).1];exact eh _)
   obtain⟨x,c,L,J⟩:=hq;refine⟨x,c,L,λi T=>?_⟩
   obtain⟨g,P,U,a3,S⟩:=J i T;exact⟨g,P,U,o_,S⟩
def AV{l:List UInt8}(b:cW l=.ok ks)(e:cH l=(0,0)):Good ks:=by
 obtain⟨g,d⟩:=LL b e;have a:=GE b;have h:=(lA b).len;exact⟨o_,g,a,λf c=>by have:=((lA b).mem c).y_.len;omega,d,TO a⟩
def LB{a:List Int}:∀(d t:Nat) (z:bI),cG ks a (t+1+d)=some z->∃x,cG ks a t=some x/\x.stop=0
 |0,t,z,h=>by
  unfold cG at h ⊢
  rw[Nat.add_zero,dR] at h;cases b:dR (cP ks 2001) (eU ks 2001 a) t with
  |none=>rw[b] at h;cases h
  |some x=>
   rw[b] at h;simp only at h;split at h
   ·rename_i e;exact⟨x,rfl,e⟩
   ·cases h
 |d+1,t,z,h=>by
  obtain⟨x,c,_⟩:=LB 0 (t+1+d) z (by rw[show t+1+d+1+0=t+1+(d+1) by omega];exact h)
  exact LB d t x c
def XT{a:List Int}{t u:Nat}{z:bI}(h:cG ks a u=some z)(b:t<u):∃x,cG ks a t=some x/\x.stop=0:=LB (u-t-1) t z (by rw[show t+1+(u-t-1)=u by omega];exact h)
def JN{a:List Int}{τ:bI}{b:Bool}(k:cG ks a s.m_=some s)(h:L2 (cG ks a) (λ_=>true) s τ b):(b=true/\τ.m_=s.m_+1/\s.stop=0)\/(b=false/\τ=s/\s.stop≠0):=by
 rcases h with ⟨f,e,d⟩|⟨f,e,d,i,_⟩
 ·exact d6 ⟨f,e,d⟩
 ·refine d7 ⟨f,?_,?_⟩
  ·rcases fo (s.m_+1) τ.m_ with g|g
   ·obtain⟨x,c,_⟩:=XT d g;have:=i _ x o_ g c
    cases this
   ·omega
  ·obtain⟨x,c,j⟩:=XT d e;rw[k] at c;cases c;exact j
def Below.fs{W b:World}(h:Below w.heap.size w W)(a:Fz sb W b)(f:w.heap.size<=sb)(d:∀k,mG sb W=some k->sb<k):Below w.heap.size w b:=
 ⟨a.os.trans h.os,a.tape.trans h.tape,a.output.trans h.output,em h.size a.size,λk c=>by
   have:=h.size;rw[a.blk k o_ o_ λe=>by have:=d k e;omega];exact h.block k c⟩
def PJ(w:World)(j:List UInt8)(T:Nat)(h:List (List UInt8))(hE:xW j T h)(hT:iQ w)(hp:jW w)(aa:11<=w.heap.size):
 Calls prog 21 #[.string (bs j)] w λe o=>∃x n c,e=.returned (.tuple #[.slice x n c,.int .i64 T,.bool true])/\pN w.heap.size o (.slice x n c) h/\Below w.heap.size w o:=by
 obtain⟨N,V,l,D,I⟩:=hE;have U:=AV l D;have d:cG N [] T=some ⟨T,⟨[],V,h⟩,1⟩:=I;have E:=U.sta d;have K:T<=500:=E.1.m_
 have Q:j.length<=2000:=by
  unfold cW at l;split at l
  ·cases l
  ·omega
 refine(LO w (bs j) T K (λm W=>pN w.heap.size W (.slice m.x3 m.n3 m.c3) h/\Below w.heap.size w W)
  (λt A W=>∃u G y B n s,Live u G W A y B N [] s n []/\s.m_=t/\t<=T/\w.heap.size<=A/\Below w.heap.size w W)
  (λA W=>∃u G y B n,Live u G W A y B N [] ⟨T,⟨[],V,h⟩,1⟩ n []/\Below w.heap.size w W) ?_ (λt A W hL=>?_) (λA W hM=>?_)).mono ?_
 ·refine(DU (bs j) (.slice none 0 0) [] w hT hp (by rw[gB];omega) (d7 ⟨rfl,rfl⟩) s_ (λM r f=>?_)).mono ?_
  ·rw[fT] at r f;exact AV r f
  ·rintro e o ⟨v,rfl,C,Z⟩;rw[fT] at Z;rcases Z with ⟨_,M,u,G,A,y,F,rfl,L,P,q4,s,q5,q6⟩|⟨p,_⟩
   ·rw[l] at F;cases F;exact⟨A,rfl,u,G,y,_,1,s,⟨q5,q4,hp.below C,⟨o_,o_⟩,o_,λb C=>by cases C⟩,q6,o_,L,C⟩
   ·rw[D] at p;exact absurd rfl p
 ·obtain⟨u,G,y,B,n,s,r,f,h3,X,h5⟩:=hL;refine(OM U s_ r).mono ?_
  rintro e o ⟨b,rfl,O,S,τ,F,L,P⟩;have z:Below w.heap.size w o:=Below.fs h5 P X λk J=>(r.row J).1
  have a:=r.ses.now;rcases JN a L with ⟨rfl,Y,H⟩|⟨rfl,rfl,H⟩
  ·refine d7 ⟨?_,rfl,u,O,y,B,S,τ,F,o_,?_,X,z⟩
   all_goals
    refine Nat.lt_of_le_of_ne h3 λe=>?_
    rw[f,e,d] at a;cases a;exact absurd H s_
  ·have ht:t=T:=by
    rcases fo t T with h6|h6
    ·obtain⟨x,h7,h8⟩:=XT d h6;rw[<-f,a] at h7;cases h7;exact absurd h8 H
    ·omega
   subst ht;rw[f,d] at a;cases a;exact d6 ⟨rfl,rfl,u,O,y,B,S,F,z⟩
 ·obtain⟨u,G,y,B,n,r,f⟩:=hM;refine(P7 r.ses rfl (by have:=E.2.2.1.out;simp only at this ⊢;omega)).mono ?_
  rintro e o ⟨m,rfl,C,e1,Y,H,e4,ho⟩;refine⟨m,rfl,e1,Y,H,λq=>⟨?_,?_⟩⟩
  ·have p:pN w.heap.size o (.slice m.x3 m.n3 m.c3) h:=by
    obtain⟨x,c,a1,a2⟩:=ho;refine⟨x,c,a1,λi hi=>?_⟩
    obtain⟨g,b1,b2,b3,b4⟩:=a2 i hi;exact⟨g,b1,b2,em f.size b3,b4⟩
   refine p.keep (λk _ J=>?_) ?_
   ·exact en o (.cells m.cells 40) k J
   ·show o.heap.size<=(o.alloc (.cells m.cells 40)).heap.size
    simp
  ·have p:=(f.trans (C.mono f.size)).alloc (f.trans (C.mono f.size)).size (.cells m.cells 40);exact⟨p.os,p.tape,p.output,p.size,p.block⟩
 ·rintro e o ⟨m,rfl,r,f⟩;exact⟨_,_,_,rfl,r,f⟩
open Go.RowKit Go.Sort
def YY(x y a b:ByteArray)(w:World):
 Calls prog 97 #[.agg #[.string x,.string a],.agg #[.string y,.string b]] w λe d=>e=.returned (.int .i64 (Lib.compareBytes x.data.toList y.data.toList))/\∃q c,d=grow (w.drewN q) c:=by
 go_enter func97,ntmps97;go_wp2_with fail;refine(strings_Compare x y _).mono ?_;rintro e f ⟨rfl,rfl⟩;go_wp2_with fail;go_ret;refine⟨rfl,0,#[Obj.cells #[.string x,.string a] 80,Obj.cells #[.string y,.string b] 80],?_⟩;rw[alloc_eq_grow,alloc_eq_grow,grow_grow];rfl
def YP:∀a:List UInt8,Lib.compareBytes a a=0
 |[]=>rfl
 |a::l=>by rw[Lib.compareBytes,if_neg (UInt8.lt_irrefl a),if_neg (UInt8.lt_irrefl a)];exact YP l
def sN:∀a b:List UInt8,Lib.compareBytes b a= -Lib.compareBytes a b
 |[],[]=>rfl
 |[],_::_=>rfl
 |_::_,[]=>rfl
 |a::l,b::m=>by
  rw[Lib.compareBytes,Lib.compareBytes];by_cases c:a<b
  ·rw[if_pos c,if_neg (UInt8.lt_asymm c),if_pos c];rfl
  ·by_cases d:b<a
   ·rw[if_pos d,if_neg c,if_pos d]
   ·rw[if_neg c,if_neg d,if_neg c,if_neg d];exact sN l m
def SP:∀a b:List UInt8,Lib.compareBytes a b=0->a=b
 |[],[],_=>rfl
 |[],_::_,h=>by simp[Lib.compareBytes] at h
 |_::_,[],h=>by simp[Lib.compareBytes] at h
 |a::l,b::m,h=>by
  rw[Lib.compareBytes] at h;by_cases c:a<b
  ·rw[if_pos c] at h;cases h
  ·by_cases d:b<a
   ·rw[if_neg c,if_pos d] at h;cases h
   ·rw[if_neg c,if_neg d] at h;obtain rfl:a=b:=kg (iz.1 d) (iz.1 c);rw[SP l m h]
def vW:∀a b c:List UInt8,Lib.compareBytes a b<0->Lib.compareBytes b c<0->Lib.compareBytes a c<0
 |[],[],_,h,_=>by simp[Lib.compareBytes] at h
 |_::_,[],_,h,_=>by simp[Lib.compareBytes] at h
 |_,_::_,[],_,h=>by simp[Lib.compareBytes] at h
 |[],_::_,_::_,_,_=>by simp[Lib.compareBytes]
 |a::l,b::m,c::n,h,k=>by
  rw[Lib.compareBytes] at h k ⊢
  by_cases f:a<b
  ·by_cases d:b<c
   ·rw[if_pos (UInt8.lt_trans f d)];decide
   ·rw[if_neg d] at k;by_cases e:c<b
    ·rw[if_pos e] at k;omega
    ·obtain rfl:b=c:=kg (iz.1 e) (iz.1 d);rw[if_pos f];decide
  ·rw[if_neg f] at h;by_cases d:b<a
   ·rw[if_pos d] at h;omega
   ·obtain rfl:a=b:=kg (iz.1 d) (iz.1 f);rw[if_neg d] at h;by_cases e:a<c
    ·rw[if_pos e];decide
    ·rw[if_neg e] at k ⊢
     by_cases g:c<a
     ·rw[if_pos g] at k;omega
     ·rw[if_neg g] at k ⊢
      exact vW l m n h k
def j6:SWO (λx y:List UInt8=>decide (Lib.compareBytes x y<0)):=by
 refine⟨λx=>by simp[YP],λx y z h k=>?_,λx y z h k=>?_⟩
 ·simp only[decide_eq_true_eq] at h k ⊢
  exact vW x y z h k
 ·simp only[decide_eq_false_iff_not] at h k ⊢
  intro a;by_cases e:Lib.compareBytes x y=0
  ·rw[SP x y e] at a;exact k a
  ·have b:Lib.compareBytes y x<0:=by rw[sN x y];omega
   exact k (vW y x z b a)
def VF(x y:List UInt8)(h:decide (Lib.compareBytes x y<0)=false)(k:decide (Lib.compareBytes y x<0)=false):x=y:=by
 simp only[decide_eq_false_iff_not] at h k;rw[sN x y] at k;exact SP x y o_
def lF(l:List (Value × Value)):List Value:=l.flatMap λp=>[p.1,p.2]
def yZ(l:List (Value × Value))(p:Value × Value):lF (l++[p])=lF l++[p.1,p.2]:=by simp[lF]
def lC(l:List (List UInt8 × Nat)):List (Value × Value):=l.map λp=>(Value.string (bs p.1),Value.int .i64 p.2)
def m9:(prog.info? 87).map (λi=>(i.zero,i.size,i.bytes))=some (some (.agg #[.string ⟨#[]⟩,.int .i64 0]),2,24):=k_
def Q8(w:World)(a b:Value):∀j u,([a,b]:List Value)[j]?=some u->(w.alloc (.cells #[a,b] 87)).cell? ((⟨w.heap.size,0,none⟩:Addr).add j)=some u:=by
 intro j u c;exact World.news_of_block (cs:= #[a,b]) (aL _ _ rfl _) j u c
def b8(x:ByteArray)(n:Int):∀u∈([.string x,.int .i64 n]:List Value),u.oneCell'=true:=by
 intro u a;simp at a;rcases a with rfl|rfl<;>rfl
def TZ(w:World)(s:SV)(gf:Nat)(l:List (List UInt8 × Nat))(hx:s.x1=some ⟨gf,0,none⟩)(hn:s.n1=l.length)(hl:l.length<=16)
 (P:Hid (∀W,Below w.heap.size w W->∀j (h:j<l.length),gf<W.heap.size/\∃n B C E I H G D K,W.cell? ⟨gf,j*6,none⟩=some (.pointer (some ⟨n,0,none⟩))/\W.cell? ⟨gf,j*6+1,none⟩=some (.int .i64 B)/\W.cell? ⟨gf,j*6+2,none⟩=some (.int .i64 (l[j].2:Nat))/\W.cell? ⟨gf,j*6+3,none⟩=some (.pointer C)/\W.cell? ⟨gf,j*6+4,none⟩=some (.slice E I H)/\W.cell? ⟨gf,j*6+5,none⟩=some (.slice G D K)/\W.cell? ⟨n,0,none⟩=some (.string (bs l[j].1))/\n<w.heap.size)):
 Calls prog 56 #[s.val] w λe Z=>∃x c,e=.returned (.slice x l.length c)/\Z.ownsRow w.heap.size 87 2 (.slice x l.length c) l.length (lF (lC l))/\Below w.heap.size w Z:=by
 obtain⟨i0,hi,O,T,Q⟩:=info_parts m9;obtain⟨t,x1,x2,x3,n1,n2,n3,c1,c2,c3,q⟩:=s;subst hx hn;unfold SV.val;go_enter func56,ntmps56;go_wp2_with fail;go_loopg [3,9] l.length (λgk v i wr=>∃j:Nat,j+gk=l.length/\i=.int .i64 j/\(∃y d,v=.slice y j d)/\wr.ownsRow w.heap.size 87 2 v j (lF (lC (l.take j)))/\Below w.heap.size w wr)
 case atStart=>exact⟨0,o_,rfl,⟨none,0,rfl⟩,World.ownsRow_nil _ _ _ _,(ei _ _).alloc (eh _) _⟩
 case round=>
  obtain⟨j,hj,rfl,⟨y,d,rfl⟩,b,a⟩:=hrel;by_cases z:j<l.length
  ·obtain⟨m,rfl⟩:∃m,gk=m+1:=⟨gk-1,o_⟩
   obtain⟨k0,n,B,C,E,I,H,G,D,K,k1,k2,k3,k4,k5,k6,U,k8⟩:=P.out wr a j z;have N:=a.size;have F:=aB b;have J:=aB a;clear b a;have e1:(0:Int)<=(j:Int):=o_
   have e2:(j:Int)<(l.length:Int):=o_
   go_wp2_with fail;generalize f:wr.alloc (.cells #[.pointer (some ⟨n,0,none⟩),.int .i64 B,.int .i64 (l[j].2:Nat),.pointer C,.slice E I H,.slice G D K] 136)=o;have p:o.heap[wr.heap.size]?=some (.cells #[.pointer (some ⟨n,0,none⟩),.int .i64 B,.int .i64 (l[j].2:Nat),.pointer C,.slice E I H,.slice G D K] 136 (0,0)):=by rw[<-f];exact aL _ _ rfl _
   have Y:wr.heap.size<o.heap.size:=by rw[<-f];simp
   have a0:=aA (i:=0) p rfl;have a2:=aA (i:=2) p rfl;have a7:o.cell? ⟨n,0,none⟩=some (.string (bs l[j].1)):=by rw[<-f];exact(World.cell?_of_block (en wr _ n o_)).trans U
   have u:Hid (o.drew.ownsRow w.heap.size 87 2 (.slice y j d) j (lF (lC (l.take j)))):=aB (by rw[<-f];exact F.out.alloc _)
   have S:Hid (Below w.heap.size w o):=aB (by rw[<-f];exact J.out.alloc N _)
   have A:lC (l.take (j+1))=lC (l.take j)++[(.string (bs l[j].1),.int .i64 (l[j].2:Nat))]:=by
    rw[gx z];simp only[lC,gh,fe,ga]
   have L:=aB A;clear p k1 k2 k3 k4 k5 k6 U k0 f F J A P;generalize l[j].1=nm at*;generalize l[j].2=ln at*;go_region_law (refine step_append_lies _ r_ _ _ 35 r_ w.heap.size 87 i0 _ 2 24 underlying35 hi O T Q rfl d_ (.slice y j d) j _ r_ (u.out.alloc _) ⟨o.heap.size,0,none⟩ 1 1 [.string (bs nm),.int .i64 (ln:Nat)] r_ r_ (Q8 o.drew _ _) (b8 _ _) d_ (by unfold maxLen;omega) o_ t_ (o.heap.size+1) s_ ?_;intro g5 V w5 r g X aa)
   all_goals
    go_wp2_with fail;go_roundg m
    case measure=>omega
    case rel=>
     refine⟨j+1,o_,by go_num,⟨_,_,rfl⟩,by rw[L.out,yZ];exact r,?_⟩
     exact(S.out.drew.alloc t_ _).grown g t_ λk hk=>(u.out.lt k hk).1
  ·have M:j=l.length:=o_
   subst M;rw[gy (eh _)] at b;have F:=aB b;have J:=aB a;clear b a P;go_wp2_with fail;go_ret;exact⟨_,_,rfl,F.out,J.out⟩
def ZV(w:World)(s:SV)(gf n:Nat)(b:Option Addr)(f:s.x1=some ⟨gf,0,none⟩)(g:s.n1=n+1)(c:n<=1000)(v:w.cell? ⟨gf,n*6+3,none⟩=some (.pointer b))(a:gf<w.heap.size):
 Calls prog 93 #[s.val] w λe i=>e=.returned (.pointer b)/\Below w.heap.size w i:=by
 obtain⟨t,C,r,j,B,u,k,d,o,p,q⟩:=s;simp only at f g;subst f g;unfold SV.val;have A:(((n+1:Nat):Int)==0)=false:=t_
 have y:=aB λ(W:World) l=>uT w.heap.size gf n d W l c
 go_enter func93,ntmps93;go_wp2_with fail;refine(y.out _ ?_).mono ?_
 ·simp[go_sem]
 rintro e z ⟨rfl,m,rfl⟩
 have x:((w.alloc (.cells #[.int .i64 t,.slice (some ⟨gf,0,none⟩) (n+1) d,.slice r u o,.slice j k p,.int .i64 q] 72)).drewN m).cell? ⟨gf,n*6+3,none⟩=some (.pointer b):=by
  show (w.alloc _).cell? _=_
  rw[World.cell?_of_block (en _ _ _ a)];exact v
 go_wp2_with fail;go_ret;refine⟨rfl,((ei w.heap.size w).alloc (eh _) _).trans ⟨rfl,rfl,rfl,eh _,λ_ _=>rfl⟩⟩
def lL(val:List UInt8->List UInt8)(l:List (List UInt8)):List (Value × Value):=l.map λx=>(Value.string (bs x),Value.string (bs (val x)))
def m6:(prog.info? 80).map (λi=>(i.zero,i.size,i.bytes))=some (some (.agg #[.string ⟨#[]⟩,.string ⟨#[]⟩]),2,32):=k_
def P9(w:World)(a b:Value):∀j u,([a,b]:List Value)[j]?=some u->(w.alloc (.cells #[a,b] 80)).cell? ((⟨w.heap.size,0,none⟩:Addr).add j)=some u:=by
 intro j u c;exact World.news_of_block (cs:= #[a,b]) (aL _ _ rfl _) j u c
def Z8(x y:ByteArray):∀u∈([.string x,.string y]:List Value),u.oneCell'=true:=by
 intro u a;simp at a;rcases a with rfl|rfl<;>rfl
def YX(w B:World)(F:Nat->Prop)(s:SV)(gf n:Nat)(p0:Option Addr)(e_:List (List UInt8))(j:List UInt8->List UInt8)(S:Option Addr->Nat->World->Prop)
 (hx:s.x1=some ⟨gf,0,none⟩) (hn:s.n1=n+1) (au:n<=1000) (u:w.alloc (.cells s.cells 72)=B) (hF:∀b,F b->b<w.heap.size) (hs:eE F w (.pointer p0) e_) (hl:e_.length<=90001)
 (HS:Hid (Calls prog 93 #[s.val] B λe G=>e=.returned (.pointer p0)/\Below B.heap.size B G))
 (HV:Hid (∀W a x l,Below B.heap.size B W->e_=a++x::l->∃g4 n4 c4 t z,W.cell? ⟨gf,n*6+4,none⟩=some (.slice (some ⟨g4,0,none⟩) n4 c4)/\gf<W.heap.size/\l.length<n4/\W.cell? ⟨g4,l.length,none⟩=some (.iface t z)/\g4<W.heap.size/\Calls prog 94 #[.iface t z] W λe G=>e=.returned (.string (bs (j x)))/\Below W.heap.size W G))
 (HO:Hid (∀W y d,W.ownsRow B.heap.size 80 2 (.slice y e_.length d) e_.length (lF (lL j e_))->Below B.heap.size B W->Calls prog 96 #[.slice y e_.length d,.func (.func 97) #[] #[]] W λe G=>e=.returned (.tuple #[])/\S y d G)):
 Calls prog 57 #[s.val] w λe G=>∃y d,e=.returned (.slice y e_.length d)/\S y d G:=by
 obtain⟨i0,hi,ae,ap,aj⟩:=info_parts m6;obtain⟨t,x1,x2,x3,n1,n2,n3,c1,c2,c3,q⟩:=s;simp only at hx hn;subst hx hn;unfold SV.cells at u;unfold SV.val at HS;unfold SV.val;have A:B.heap[w.heap.size]?=some (.cells #[.int .i64 t,.slice (some ⟨gf,0,none⟩) (n+1) c1,.slice x2 n2 c2,.slice x3 n3 c3,.int .i64 q] 72 (0,0)):=by rw[<-u];exact aL _ _ rfl _
 have ay:B.heap.size=w.heap.size+1:=by rw[<-u];simp
 have T:Below w.heap.size w B:=by rw[<-u];exact(ei _ w).alloc (eh _) _
 have HW:=aB u;have af:=aB hs;have HF:=aB hF;have ai:=aB T;have am:=aB A;have c0:=aA (i:=0) A rfl;have ao:=aA (i:=1) A rfl;have ag:=aA (i:=2) A rfl;have aw:=aA (i:=3) A rfl;have O:=aA (i:=4) A rfl;clear u hs hF T A;go_enter func57,ntmps57;go_wp2_with fail;rw[HW.out];go_wp2_with fail;refine HS.out.mono ?_;rintro e w1 ⟨rfl,Z⟩;have al:=aB Z;clear Z HS c0 ao ag aw O;go_wp2_with fail;go_loopg [3,4] e_.length (λgk v p wr=>∃a r,e_=a++r/\r.length=gk/\eE F w p r/\(∃y d,v=.slice y a.length d)/\wr.ownsRow B.heap.size 80 2 v a.length (lF (lL j a))/\Below B.heap.size B wr)
 case atStart=>exact⟨[],e_,rfl,rfl,af.out,⟨none,0,rfl⟩,World.ownsRow_nil _ _ _ _,al.out⟩
 case round=>
  obtain⟨a,r,N,U,K,⟨y,d,rfl⟩,D,f⟩:=hrel;cases r with
  |nil=>
   rw[jx] at N;subst N;have ar:_=Value.pointer none:=K;subst ar;have HX:=aB (HO.out wr y d D f);clear D f HO HV K;go_wp2_with fail;refine HX.out.mono ?_;rintro e w2 ⟨rfl,h2⟩;have H2:=aB h2;clear h2;go_wp2_with fail;go_ret;exact⟨_,_,rfl,H2.out⟩
  |cons x l=>
   obtain⟨b,o,rfl,ad,Y,M⟩:=K;obtain⟨po,rfl⟩:=M.form;obtain⟨m,rfl⟩:∃m,gk=m+1:=⟨gk-1,by simp at U;omega⟩
   obtain⟨g4,n4,c4,ty,z,v1,v2,v3,v4,v5,ah⟩:=HV.out wr a x l f N;have X:=HF.out b ad;have C:wr.heap[b]?=some (.cells #[.string (bs x),.int .i64 l.length,.pointer po] 177 (0,0)):=by rw[f.block b o_,ai.out.block b X];exact Y
   have k0:=aA (i:=0) C rfl;have k1:=aA (i:=1) C rfl;have k2:=aA (i:=2) C rfl;have an:=aD C;have P:wr.heap[w.heap.size]?=_:=(f.block _ o_).trans am.out
   have kb:=aA (i:=1) P rfl;have ab:=f.size;have ba:a.length<=90001:=by have:=congrArg List.length N;simp at this;omega
   have ak:=aB D;have HB:=aB f;clear D f Y C P;have e1:(0:Int)<=(l.length:Int):=o_
   have e2:(l.length:Int)<(n4:Int):=o_
   have HT:Hid (∀W,aQ wr W->Calls prog 95 #[.pointer (some ⟨w.heap.size,0,none⟩)] W λe G=>e=.returned (.pointer (some ⟨gf,n*6,none⟩))/\aQ wr G):=aB λW u=>(uT w.heap.size gf n c1 W (bB u.heap kb) au).mono λe G ⟨he,q,hq⟩=>⟨he,by rw[hq];exact u.trans (aQ.drewN _ _)⟩
   have HR:Hid (∀W,aQ wr W->Calls prog 94 #[.iface ty z] W λe G=>e=.returned (.string (bs (j x)))/\Below wr.heap.size wr G):=aB λW u=>by
    have aq:Below B.heap.size B W:=HB.out.trans ⟨u.os,u.tape,u.output,by rw[u.heap];exact eh _,λk _=>by rw[u.heap]⟩
    obtain⟨bb,bc,O,bd,z',r1,r2,r3,r4,r5,r6⟩:=HV.out W a x l aq N;rw[bB u.heap v1] at r1;cases r1;rw[bB u.heap v4] at r4;cases r4;refine r6.mono λe G ⟨he,hb⟩=>⟨he,?_⟩
    exact Below.trans (b:=W) ⟨u.os,u.tape,u.output,by rw[u.heap];exact eh _,λk _=>by rw[u.heap]⟩ (by rw[<-u.heap];exact hb)
   have K0:=aB k0;have K1:=aB k1;have K2:=aB k2;have V1:=aB v1;have V4:=aB v4;clear ah HV HO kb v2 v5
   have aa:Hid (∀(W:World) (g c:Nat),W.ownsRow B.heap.size 80 2 (.slice (some ⟨g,0,none⟩) (a.length+1) c) (a.length+1) (lF (lL j a)++[.string (bs x),.string (bs (j x))])->W.ownsRow B.heap.size 80 2 (.slice (some ⟨g,0,none⟩) (a.length+1) c) (a++[x]).length (lF (lL j (a++[x])))):=aB λW g c h=>by
    have e:lL j (a++[x])=lL j a++[(.string (bs x),.string (bs (j x)))]:=by simp[lL]
    rw[e,yZ,ej];exact h
   generalize j x=tx at*;go_wp2_with fail;go_region_law (first|(refine step_append_lies _ r_ _ _ 36 r_ B.heap.size 80 i0 _ 2 32 underlying36 hi ae ap aj rfl d_ (.slice y a.length d) a.length _ r_ (Q.out.alloc _) ⟨w2.heap.size,0,none⟩ 1 1 [.string (bs x),.string (bs tx)] r_ r_ (P9 w2 _ _) (Z8 _ _) d_ (by unfold maxLen;omega) o_ t_ (w2.heap.size+1) s_ ?_;intro g5 V w5 J E az be)|(go_simp;first|(go_at_call 95;refine(HT.out _ (aQ.drew _)).mono ?_;rintro e w1 ⟨rfl,I⟩;have d0:=bB I.heap K0.out;have d1:=bB I.heap K1.out;have d2:=bB I.heap V1.out;have d3:=bB I.heap V4.out)|(go_at_call 94;refine(HR.out _ I).mono ?_;rintro e w2 ⟨rfl,H⟩;have d4:=(World.cell?_of_block (H.block b an)).trans K0.out;have ax:=H.size;have Q:=aB (gX ak.out H))))
   all_goals
    have L:Below B.heap.size B w5:=((HB.out.trans (H.mono ab)).alloc o_ _).grown E t_ λk hk=>(Q.out.lt k hk).1
    have k5:w5.cell? ⟨b,2,none⟩=some (.pointer po):=(World.cell?_of_block ((L.block b o_).trans (HB.out.block b o_).symm)).trans K2.out
    have H5:=aB L;have ac:=aB J;have av:=aB M;clear L J E M H;go_wp2_with fail;go_roundg m
    case measure=>omega
    case rel=>exact⟨a++[x],l,by rw[N];simp,by simp at U;omega,av.out,⟨some ⟨g5,0,none⟩,V,s_⟩,aa.out _ _ _ ac.out,H5.out⟩
def fV(b_:Nat)(w:World)(v:Value)(l:List (Value × Value)):Prop:=∃x c,v=.slice x l.length c/\∀i (h:i<l.length),∃g,x=some ⟨g,0,none⟩/\w.cell? ⟨g,i*2,none⟩=some l[i].1/\w.cell? ⟨g,i*2+1,none⟩=some l[i].2/\b_<=g/\g<w.heap.size
def fV.keep(h:fV b_ w v l)(d:∀k,b_<=k->k<w.heap.size->w'.heap[k]?=w.heap[k]?)(o:w.heap.size<=w'.heap.size):fV b_ w' v l:=by
 obtain⟨x,c,m,f⟩:=h;refine⟨x,c,m,λi p=>?_⟩
 obtain⟨g,e,n,j,a,b⟩:=f i p;exact⟨g,e,by rw[World.cell?_of_block (d g a b)];exact n,by rw[World.cell?_of_block (d g a b)];exact j,a,el b o⟩
def pL:∀(l:List (Value × Value)) (i:Nat) (h:i<l.length),(lF l)[i*2]?=some l[i].1/\(lF l)[i*2+1]?=some l[i].2
 |[],_,h=>by simp at h
 |p::l,0,_=>⟨rfl,rfl⟩
 |p::l,i+1,h=>by
  have:=pL l i (by simpa using h)
  rw[show (i+1)*2=i*2+1+1 by omega]
  exact this
def B6{T:TypeId}{x:Option Addr}{c:Nat}(h:w.ownsRow b_ T 2 (.slice x l.length c) l.length (lF l)):fV b_ w (.slice x l.length c) l:=by
 refine⟨x,c,rfl,λi f=>?_⟩
 rcases h.2 with ⟨e,a⟩|⟨g,m,j,e,a,k,n⟩
 ·omega
 ·cases e;have b:=h.cells (g:=g) rfl (i*2) _ (pL l i f).1;have d:=h.cells (g:=g) rfl (i*2+1) _ (pL l i f).2;rw[oA] at b d;exact⟨g,rfl,b,d,a,aD k⟩
def gC(l:List (List UInt8)):List (List UInt8):=l.mergeSort λx y=> !decide (Lib.compareBytes y x<0)
def lR(l:List (List UInt8)):(gC l).length=l.length:=by simp[gC]
def rM(val:List UInt8->List UInt8)(x:List UInt8):List Value:=[.string (bs x),.string (bs (val x))]
def LF(W:World)(b_:Nat)(y:Option Addr)(d:Nat)(e_:List (List UInt8))(a:List UInt8->List UInt8)(h:W.ownsRow b_ 80 2 (.slice y e_.length d) e_.length (lF (lL a e_)))(Q:e_.length<=90001):
 Calls prog 96 #[.slice y e_.length d,.func (.func 97) #[] #[]] W λe t=>e=.returned (.tuple #[])/\fV b_ t (.slice y e_.length d) (lL a (gC e_))/\Below b_ W t:=by
 have D:(lL a e_).length=e_.length:=by simp[lL]
 have f:(lL a (gC e_)).length=e_.length:=by simp[lL,lR]
 rcases h.2 with ⟨E,B⟩|⟨g,K,L,E,B,s,N⟩
 ·have e:e_=[]:=ge B;subst e;refine(AnyF.slices_SortFunc_none (P:=prog) (ρ:=sortL_ren) { sortL with } y d (.func (.func 97) #[] #[]) W).mono ?_
  rintro e t ⟨rfl,rfl⟩;exact⟨rfl,⟨y,d,by rw[f],λi b=>by rw[f] at b;simp at b⟩,ei _ _⟩
 ·cases E
  have G:HoldsK (rM a) 2 W g 0 e_.toArray:=λj I=>by
   rw[size_flatK,List.size_toArray] at I;refine⟨?_,aE s⟩;rw[get_flatK _ _ _ _ (by simpa using I)]
   have b:j/2<(lL a e_).length:=by rw[D];omega
   obtain⟨r,u⟩:=pL (lL a e_) (j/2) b;have C:e_.toArray[j/2]! =e_[j/2]'(by omega):=by simp[getElem!_pos,show j/2<e_.length by omega]
   rw[C];rcases Nat.mod_two_eq_zero_or_one j with o|o
   ·have:=h.cells (g:=g) rfl j _ (by rw[show j=j/2*2 by omega];exact r)
    rw[oA] at this;rw[o,gq,this];simp[lL,rM]
   ·have:=h.cells (g:=g) rfl j _ (by rw[show j=j/2*2+1 by omega];exact u)
    rw[oA] at this;rw[o,gq,this];simp[lL,rM]
  have A:e_.length=e_.toArray.size:=s_
  have F:=AnyQ.slices_SortFunc_total (P:=prog) (ρ:=sortL_ren) { sortL with } 2 isAgg80 sizeOf80 (rM a) (λ_=>rfl) (λx v J=>by simp[rM] at J;rcases J with rfl|rfl<;>rfl) (λx y=>Lib.compareBytes x y) j6 97 #[] g 0 d e_.toArray W
   (enters_of func97 k_ rfl) (λm l M _ x y=>by
     have:=YY (bs x) (bs y) (bs (a x)) (bs (a y)) (sortWorldK (rM a) 2 W g 0 m M l);rw[fT,fT] at this;exact this) G (aD s) t_ VF
  rw[<-A] at F;refine F.mono ?_;rintro e t ⟨rfl,n,l,rfl⟩;have H:HoldsK (rM a) 2 (putRowK (rM a) 2 (Go.Sort.ahead W n) g 0 (gC e_).toArray) g 0 (gC e_).toArray:=holdsK_putRowK (rM a) 2 (Go.Sort.ahead W n) g 0 e_.toArray _ G (by simp[lR])
  have q:g<(putRowK (rM a) 2 (Go.Sort.ahead W n) g 0 (gC e_).toArray).heap.size:=by rw[size_putRowK];exact aD s
  refine⟨rfl,⟨some ⟨g,0,none⟩,d,by rw[f],λi b=>?_⟩,?_⟩
  ·rw[f] at b;have p:i<(gC e_).toArray.size:=by simp[lR,b]
   have C:(gC e_).toArray[i]! =(gC e_)[i]'(by rw[lR];exact b):=by simp[getElem!_pos,lR,b]
   have r:=H.cell (i:=i) (c:=0) p o_
   have u:=H.cell (i:=i) (c:=1) p o_
   rw[C] at r u;refine⟨g,rfl,?_,?_,B,?_⟩
   ·show (grow (putRowK (rM a) 2 (Go.Sort.ahead W n) g 0 (gC e_).toArray) l).cell? ⟨g,i*2,none⟩=_
    rw[cell?_grow _ _ ⟨g,i*2,none⟩ q];simpa [lL,rM] using r.1
   ·show (grow (putRowK (rM a) 2 (Go.Sort.ahead W n) g 0 (gC e_).toArray) l).cell? ⟨g,i*2+1,none⟩=_
    rw[cell?_grow _ _ ⟨g,i*2+1,none⟩ q];simpa [lL,rM] using u.1
   ·show g<(grow (putRowK (rM a) 2 (Go.Sort.ahead W n) g 0 (gC e_).toArray) l).heap.size
    rw[size_grow];omega
  ·refine⟨rfl,rfl,rfl,?_,λk O=>?_⟩
   ·show W.heap.size<=(grow (putRowK (rM a) 2 (Go.Sort.ahead W n) g 0 (gC e_).toArray) l).heap.size
    rw[size_grow,size_putRowK];exact Nat.le_add_right _ _
   ·show (grow (putRowK (rM a) 2 (Go.Sort.ahead W n) g 0 (gC e_).toArray) l).heap[k]?=W.heap[k]?
    have z:k≠g:=o_
    have w:k<W.heap.size:=by have:=aD s;omega
    rw[heap_grow_old _ _ (by rw[size_putRowK];exact w)]
    simp only[putRowK,putRow,mapBlock,Array.getElem?_modify];rw[if_neg (Ne.symm z)];rfl
def FA.cells{x:Option Addr}{c:Nat}{a:List FVal}(h:FA F w (.slice x n c) a)(i:Nat)(b:i<a.length):∃g,x=some ⟨g,0,none⟩/\n=a.length/\F g/\∀j u,j<6->a[i].cells[j]?=some u->w.cell? ⟨g,i*6+j,none⟩=some u:=by
 rcases h with ⟨rfl,_⟩|⟨g,s,m,k,f,q,t,l⟩
 ·simp at b
 ·cases k;refine⟨g,rfl,rfl,f,λj u r p=>?_⟩
  refine aA q ?_;have e:a=a.take i++a[i]::a.drop (i+1):=by rw[<-jz b,gz]
  have o:(a.take i).length=i:=by rw[gr];omega
  have d:=RD (a.take i) (a.drop (i+1)) a[i] j r;rw[<-e,o,p,<-l,List.getElem?_take_of_lt o_,Array.getElem?_toList] at d
  exact d
def PVs.sl{l:List aJ}(h:PVs F w v l):∃x n c,v=.slice x n c:=by
 rcases h with ⟨_,e⟩|⟨g,b,a,e,_⟩<;>exact⟨_,_,_,e⟩
section
variable {fp:Nat->Value} {F:Nat->Prop} {w:World} {s1:SV} {s:bI}
def kY.parts(h:kY fp F w s1.val s):∃a,FA F w (.slice s1.x1 s1.n1 s1.c1) a/\uQ fp F w a s.m.f_/\EX F w (.slice s1.x3 s1.n3 s1.c3) s.m.out:=by
 obtain⟨j,f,i,a,b,d,e,g,c⟩:=h;simp only[SV.val,Value.agg.injEq] at b;simp at b;rw[b.2.1,b.2.2.2.1];exact⟨a,d,e,c⟩
def kY.none(h:kY fp F w s1.val s)(f:s.m.f_=[]):s1.n1=0:=by
 obtain⟨a,j,i,_⟩:=h.parts;have b:=i.length;rw[f] at b;have:a=[]:=ge b;subst this;rcases j with ⟨_,x,c,e⟩|⟨g,c,d,e,_⟩
 ·simp at e;exact e.2.1
 ·simp at e;exact e.2.1
def kY.frame(h:kY fp F w s1.val s)(i:Nat)(k:i<s.m.f_.length):∃g v,s1.x1=some ⟨g,0,Option.none⟩/\s1.n1=s.m.f_.length/\F g/\FrS fp F w v s.m.f_[i]/\∀j u,j<6->v.cells[j]?=some u->w.cell? ⟨g,i*6+j,Option.none⟩=some u:=by
 obtain⟨f,e,a,_⟩:=h.parts;have l:=a.length;obtain⟨g,b,m,c,d⟩:=e.cells i o_
 exact⟨g,_,b,o_,c,a.get i _ _ (fi o_) (fi k),d⟩
def ZO(h:kY fp F w s1.val s)(r:∀b,F b->b<w.heap.size)(D:s.m.f_.length<=16):
 Calls prog 56 #[s1.val] w λe k=>∃x n c,e=.returned (.slice x n c)/\fV w.heap.size k (.slice x n c) (lC (bY s.m.f_))/\Below w.heap.size w k:=by
 have a:(bY s.m.f_).length=s.m.f_.length:=by simp[bY]
 have u:(lC (bY s.m.f_)).length=(bY s.m.f_).length:=by simp[lC]
 by_cases o:s.m.f_=[]
 ·refine(CM w s1 (h.none o)).mono ?_;rintro e k ⟨rfl,l⟩;exact⟨Option.none,0,0,rfl,⟨Option.none,0,by rw[o];rfl,λi A=>by rw[o] at A;simp[lC,bY] at A⟩,l⟩
 ·have m:0<s.m.f_.length:=ib.2 o;obtain⟨Q,v,B,O,e3,_,_⟩:=h.frame 0 m;refine(TZ w s1 Q (bY s.m.f_) B (by rw[a];exact O) (by rw[a];exact D) λW y j q=>?_).mono ?_
  ·rw[a] at q;have t:=h.keep (w':=W) (λb l=>y.block b (r b l)) λ_ h=>h
   obtain⟨g,v,C,a2,N,f,d⟩:=t.frame j q;rw[B] at C;cases C;obtain⟨V,Z,M,P,E,T,K,_⟩:=f.fn;obtain⟨p,U⟩:=eE.form f.sp;obtain⟨I,L,Y,G⟩:=PVs.sl f.g_;obtain⟨X,H,S,J⟩:=PVs.sl f.ops;refine⟨el (r _ N) y.size,V,s.m.f_[j].next,p,I,L,Y,X,H,S,d 0 _ o_ ?_,d 1 _ o_ ?_,d 2 _ o_ ?_,d 3 _ o_ ?_,d 4 _ o_ ?_,d 5 _ o_ ?_,?_,r _ T⟩
   ·rw[<-E];rfl
   ·rw[<-f.nx];rfl
   ·rw[show ((bY s.m.f_)[j]'(by rw[a];exact q)).2=s.m.f_[j].l_ by simp[bY],<-f.ln];rfl
   ·rw[<-U];rfl
   ·rw[<-G];rfl
   ·rw[<-J];rfl
   ·rw[show ((bY s.m.f_)[j]'(by rw[a];exact q)).1=s.m.f_[j].fn.name by simp[bY]]
    exact aA K rfl
  ·rintro e k ⟨x,c,rfl,z,l⟩;refine⟨x,_,c,rfl,?_,l⟩;rw[<-u] at z ⊢
   exact B6 z
noncomputable def KE(f:aI)(x:List UInt8):List UInt8:=cD (f.g_[dL f.e_ x]?.getD bN)
noncomputable def pQ(s:bI):List (Value × Value):=match s.m.f_.getLast? with
 |Option.none=>[]
 |some f=>lL (KE f) (gC f.e_)
def N6{a l:List (List UInt8)}{x:List UInt8}(h:(a++x::l).Nodup):dL (a++x::l) x=l.length:=by
 induction a with
 |nil=>simp[dL]
 |cons y a b=>
  rw[gb,ey] at h;rw[gb,dL,if_neg λe=>h.1 (by rw[e];simp)]
  exact b h.2
def L8(h:kY fp F w s1.val s)(A:∀b,F b->b<w.heap.size)(hd:s.m.f_.length<=16)(hp:jW w)(S:kD s.m)(ht:∀x∈s.m.f_,x.e_.length<=x.g_.length):
 Calls prog 57 #[s1.val] w λe E=>∃x n c,e=.returned (.slice x n c)/\fV w.heap.size E (.slice x n c) (pQ s)/\Below w.heap.size w E:=by
 by_cases L:s.m.f_=[]
 ·refine(IP w s1 (h.none L)).mono ?_;rintro e E ⟨rfl,B⟩;refine⟨Option.none,0,0,rfl,?_,B⟩;unfold pQ;rw[L];exact⟨Option.none,0,rfl,λi Q=>by simp at Q⟩
 ·obtain⟨n,hn⟩:∃n,s.m.f_.length=n+1:=⟨s.m.f_.length-1,by have:=ib.2 L;omega⟩
  have r:s.m.f_.getLast?=some (s.m.f_[n]'(by omega)):=by
   rw[List.getLast?_eq_getElem?,show s.m.f_.length-1=n by omega];exact fi _
  obtain⟨M,v,H,e2,T,Y,a5⟩:=h.frame n o_
  have k:s.m.f_[n]'(by omega)∈s.m.f_:=fm _
  obtain⟨⟨I,j⟩,_⟩:=S _ k;have aa:=ht _ k;obtain⟨p,Z⟩:=eE.form Y.sp;have K:pQ s=lL (KE (s.m.f_[n]'(by omega))) (gC (s.m.f_[n]'(by omega)).e_):=by unfold pQ;rw[r]
  rw[K];have J:∀W,Below w.heap.size w W->kY fp F W s1.val s:=λW G=>h.keep (λb B=>G.block b (A b B)) λ_ h=>h
  generalize D:w.alloc (.cells s1.cells 72)=m;have a:Below w.heap.size w m:=by rw[<-D];exact(ei _ w).alloc (eh _) _
  have o:w.heap.size<=m.heap.size:=a.size;refine(YX w m F s1 M n p (s.m.f_[n]'(by omega)).e_ (KE (s.m.f_[n]'(by omega))) (λy d W=>fV m.heap.size W (.slice y (s.m.f_[n]'(by omega)).e_.length d) (lL (KE (s.m.f_[n]'(by omega))) (gC (s.m.f_[n]'(by omega)).e_))/\Below m.heap.size m W) H o_ o_ D A (by rw[<-Z];exact Y.sp) j ?_ (λW ab x l G N=>?_) (λW y d hO G=>?_)).mono ?_
  ·refine ZV m s1 M n p H o_ o_ ?_ (el (A _ T) o)
   rw[World.cell?_of_block (a.block M (A _ T))];exact a5 3 _ o_ (by rw[<-Z];rfl)
  ·have f:Below w.heap.size w W:=a.trans (G.mono o);obtain⟨g,v',X,d2,d3,O,d5⟩:=(J W f).frame n o_
   rw[H] at X;cases X
   have q:l.length<(s.m.f_[n]'(by omega)).g_.length:=by
    have:=congrArg List.length N;simp at this;omega
   obtain⟨x4,n4,c4,V⟩:=PVs.sl O.g_;have C:=O.g_;rw[V] at C;obtain⟨g4,u,f1,f2,f3,f4,f5,f6,U⟩:=C.get l.length q;obtain⟨t,z,rfl⟩:=U.form;refine⟨g4,n4,c4,t,z,d5 4 _ o_ (by rw[<-f1,<-V];rfl),el (A _ T) f.size,o_,f6,f4,?_⟩
   have he:KE (s.m.f_[n]'(by omega)) x=cD ((s.m.f_[n]'(by omega)).g_[l.length]'q):=by
    unfold KE;rw[N,N6 (by rw[<-N];exact I),fi q];rfl
   rw[he];exact pD F 200 _ _ W U (λb B=>el (A b B) f.size) (hp.below f) (O.varsB _ (fm _)) o_
  ·refine(LF W m.heap.size y d _ _ hO j).mono ?_;rintro e E ⟨rfl,h1,P⟩;exact⟨rfl,h1,G.trans P⟩
  ·rintro e E ⟨y,d,rfl,⟨x,c,g1,g2⟩,P⟩;refine⟨_,_,_,rfl,⟨x,c,g1,λi Q=>?_⟩,a.trans (P.mono o)⟩
   obtain⟨g,k1,k2,k3,k4,k5⟩:=g2 i Q;exact⟨g,k1,k2,k3,o_,k5⟩
end
structure oX(b_:Nat)(w:World)(m:SV)(s:bI):Prop where
 t:m.t=s.m_
 q:m.q=s.stop
 stack:fV b_ w (.slice m.x1 m.n1 m.c1) (lC (bY s.m.f_))
 g_:fV b_ w (.slice m.x2 m.n2 m.c2) (pQ s)
 out:pN b_ w (.slice m.x3 m.n3 m.c3) s.m.out
def oX.keep{m:SV}(h:oX b_ w m s)(a:∀k,b_<=k->k<w.heap.size->w'.heap[k]?=w.heap[k]?)(b:w.heap.size<=w'.heap.size):oX b_ w' m s:=
 ⟨h.t,h.q,h.stack.keep a b,h.g_.keep a b,h.out.keep a b⟩
def fV.low(h:fV a w v l)(d:b<=a):fV b w v l:=by
 obtain⟨x,c,k,f⟩:=h;refine⟨x,c,k,λi o=>?_⟩
 obtain⟨g,e,n,j,m,p⟩:=f i o;exact⟨g,e,n,j,em d m,p⟩
def pN.low{l:List (List UInt8)}(h:pN a w v l)(d:b<=a):pN b w v l:=by
 obtain⟨x,c,k,f⟩:=h;refine⟨x,c,k,λi o=>?_⟩
 obtain⟨g,e,n,j,m⟩:=f i o;exact⟨g,e,n,em d j,m⟩
def oX.low{m:SV}(h:oX a w m s)(c:b<=a):oX b w m s:=⟨h.t,h.q,h.stack.low c,h.g_.low c,h.out.low c⟩
def b9{P:Nat->Value}{mb:Nat}{U:Obj}{st:Nat->Option bI}(h:kC P F w sb mb U st s n)(O:s.m.f_.length<=16)(hp:jW w)(K:kD s.m)(Y:∀x∈s.m.f_,x.e_.length<=x.g_.length)(ho:s.m.out.length<=1000000):
 Calls prog 10 #[.pointer (some ⟨sb,0,none⟩)] w λe o=>∃m:SV,e=.returned m.val/\Below w.heap.size w o/\oX w.heap.size o m s:=by
 obtain⟨A,z,k0,Q,k2,k3,k4,_⟩:=h.cells;have J:=h.lt;obtain⟨T,S,e1,e2⟩:=z.sv;obtain rfl:=SV.val_inj S;have t:∀b,F b->b<w.heap.size:=λb a=>(h.fix b a).1
 have r:∀W,Below w.heap.size w W->kY P F W A.val s:=λW q=>z.keep (λb a=>q.block b (t b a)) λ_ h=>h
 generalize p:w.alloc (.cells #[.int .i64 0,.slice none 0 0,.slice none 0 0,.slice none 0 0,.int .i64 0] 40)=i;have D:Below w.heap.size w i:=by rw[<-p];exact(ei _ w).alloc (eh _) _
 have aa:i.heap.size=w.heap.size+1:=by rw[<-p];simp
 have N:i.heap[w.heap.size]?=some (.cells #[.int .i64 0,.slice none 0 0,.slice none 0 0,.slice none 0 0,.int .i64 0] 40 (0,0)):=by rw[<-p];exact aL _ _ rfl _
 refine QA w sb A _ J k0 Q k2 k3 k4 ?_;rw[p];generalize j:(i.alloc (.cells A.cells 72)).alloc (.cells #[.int .i64 0,.slice none 0 0,.slice none 0 0,.slice none 0 0,.int .i64 0] 40)=f;have B:Below i.heap.size i f:=by rw[<-j];exact((ei _ i).alloc (eh _) _).alloc s_ _
 have ab:f.heap.size=i.heap.size+2:=by rw[<-j];simp
 have u:f.heap[i.heap.size]?=some (.cells A.cells 72 (0,0)):=by rw[<-j];exact jS _ _ _
 have I:f.heap[i.heap.size+1]?=some (.cells #[.int .i64 0,.slice none 0 0,.slice none 0 0,.slice none 0 0,.int .i64 0] 40 (0,0)):=by rw[<-j];exact gS _ _ _
 have g:∀W,Below f.heap.size f W->Below w.heap.size w W:=λW a=>D.trans ((B.mono D.size).trans (a.mono o_))
 refine yQ i A (λm o=>(∃c,o.heap[w.heap.size]?=some (.cells c 40 (0,0))/\c.size=5)/\Below w.heap.size w (dS o w.heap.size m)/\oX w.heap.size (dS o w.heap.size m) m s)
  (λm W=>Below f.heap.size f W/\oX f.heap.size W m s)
  (λx n c W=>fV f.heap.size W (.slice x n c) (lC (bY s.m.f_))/\Below f.heap.size f W)
  (λx n c G H E W=>fV f.heap.size W (.slice x n c) (lC (bY s.m.f_))/\fV f.heap.size W (.slice G H E) (pQ s)/\Below f.heap.size f W) (λW q=>?_) (λx n c W y=>?_) (λx n c G H E W y=>?_) (λm W y=>?_)
 ·rw[j] at q;have l:Below f.heap.size f W:=⟨q.os,q.tape,q.output,by rw[q.heap];exact eh _,λk _=>by rw[q.heap]⟩
  refine(ZO (r W (g W l)) (λb a=>el (t b a) (g W l).size) O).mono ?_
  rintro e o ⟨x,n,c,rfl,C,a⟩;exact⟨x,n,c,rfl,C.low l.size,l.trans (a.mono l.size)⟩
 ·obtain⟨C,a⟩:=y;refine⟨by rw[a.block _ o_];exact u,(L8 (r W (g W a)) (λb d=>el (t b d) (g W a).size) O (hp.below (g W a)) K Y).mono ?_⟩
  rintro e o ⟨G,H,E,rfl,L,d⟩;exact⟨G,H,E,rfl,C.keep (λk _ v=>d.block k v) d.size,L.low a.size,a.trans (d.mono a.size)⟩
 ·obtain⟨C,L,a⟩:=y;obtain⟨ac,_,_,M⟩:=(r W (g W a)).parts;refine⟨by rw[a.block _ o_];exact u,(vU M ho).mono ?_⟩
  rintro e o ⟨Z,n3,c3,rfl,hO,d⟩;exact⟨Z,n3,c3,rfl,a.trans (d.mono a.size),e1,e2,C.keep (λk _ v=>d.block k v) d.size,L.keep (λk _ v=>d.block k v) d.size,hO.low a.size⟩
 ·obtain⟨a,X⟩:=y;have V:=a.size;refine⟨by rw[a.block _ o_];exact u,⟨_,by rw[a.block _ o_];exact I,s_⟩,⟨_,by rw[cV _ _ _ _ o_,a.block _ o_,B.block _ o_];exact N,s_⟩,?_,?_⟩
  ·exact lX m (lX m (g W a) o_) (eh _)
  ·exact(X.keep (w':=dS (dS W (i.heap.size+1) m) w.heap.size m) (λk h1 h2=>by rw[cV _ _ _ _ o_,cV _ _ _ _ o_]) (by rw[(fP _ _ _).1,(fP _ _ _).1];exact eh _)).low o_
end Go.Proofs.YthbffcmfmjpncaaGreatDoor
