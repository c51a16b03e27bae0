import Derived.Test.YthlhecfcnfjecaaGreatDoorP15
import Derived.Test.YthlhecfcnfjecaaGreatDoorP26
import Derived.Test.YthlhecfcnfjecaaGreatDoorP14
set_option linter.all false
set_option maxRecDepth 100000
set_option maxHeartbeats 0
open List renaming length->aA
open Go.World renaming setCell->c9
open Option renaming some->Wy
open Go renaming Value->Xa,TypeId->Xd
namespace Go.Proofs.YthlhecfcnfjecaaGreatDoor
open Hs
open _root_.Go.Proofs.Tryz
open Go.RowKit Go.Sort
variable{j:List Nat}{B P n:Nat}{s:Option Addr}{t w:aN}{r:aX}
section
variable {α:Type} {k:Nat} {e:Xd} {R:List Xa->α->Prop} {w:aN} {l:List α}
def Own.Bj{g b:Nat}{a:Array Xa}(q:w.heap[g]?=Wy (bO a e))(m:a.size=b*k)(n:aA l<=b)(x:b<=maxLen)(o:∀i (h:i<aA l),∃c:List Xa,aA c=k/\R c l[i]/\∀j u,c[j]?=Wy u->dR w g (i*k+j) u):Own k e R w (P_ (Wy (aL g 0)) (aA l) b) l:=by
 have v:aA l*k<=a.size:=by rw[m];exact im _ n
 have d:aA (a.toList.take (aA l*k))=aA l*k:=G_;refine⟨a.toList.take (aA l*k),⟨d,G_⟩,d,λi f=>?_⟩;have ⟨c,h1,h2,h3⟩:=o i f;have r:i*k+k<=aA l*k:=by rw[<-Nat.succ_mul];exact im _ f
 have:((a.toList.take (aA l*k)).drop (i*k)).take k=c:=by refine List.ext_getElem G_ λj t p=>?_;have s:=h3 j c[j] (ey p);grind[cells_of_cell?]
 grind
theorem Eb{f:α->Xa×Xa}(h:∀a,R [(f a).1,(f a).2] a):∀l:List α,kZ 2 R (pT (l.map f)) l|[]=>kZ.nil|a::l=>(kZ.one (k:=2) (a:=a) rfl (h a)).append (Eb h l)
theorem Gq{f:α->Xa}(h:∀a,R [f a] a):∀l:List α,kZ 1 R (l.map f) l|[]=>kZ.nil|a::l=>(kZ.one (k:=1) (a:=a) rfl (h a)).append (Gq h l)
theorem Fz.of{b:Nat}{v:aX}{a:List Xa}(h:w.ownsRow b e k v (aA l) a)(c:kZ k R a l):Fz k e R (b<=·) w v l:=⟨⟨a,⟨h.1,h.2.imp id G_⟩,c⟩,λx q=>(h.lt x q).1⟩
end
def QY(W:aN)(o:Nat)(y:Option Addr)(d:Nat)(a:cY)(m:bQ->bQ)(h:W.ownsRow o 137 2 (P_ y (aA a) d) (aA a) (pT (UP m a)))(X:aA a<=90001):Calls prog 172 #[P_ y (aA a) d,.func (.func 173) #[] #[]] W λe w'=>e=fA/\Fz 2 137 vN (o<=·) w' (P_ y (aA a) d) ((oO a).map λx=>(x,m x))/\Below o W w':=by
 have p:aA ((oO a).map λx=>(x,m x))=aA a:=by simp[T6]
 have J:=Fz.of (l:=a) (R:=λc x=>c=BV m x) h (Eb (f:=λx=>(Q_ (bs x),Q_ (bs (m x)))) (λ_=>aJ) a);rcases h.2 with ⟨s,E⟩|⟨g,I,L,s,E,r,S,K,G,T⟩;have e:a=[]:=(by grind);subst e;cases s;apply mJ (AnyF.slices_SortFunc_none (P:=prog) (ρ:=sortL_ren) {sortL with} none 0 (.func (.func 173) #[] #[]) W);exact⟨aJ,⟨by rw[show oO []=[] by grind];exact .nil,λb q=>by cases q⟩,dv _ _⟩;cases s;have D:HoldsK (BV m) 2 W g 0 a.toArray:=λj z=>by rw[size_flatK,List.size_toArray]at z;refine⟨?_,aF r⟩;rw[get_flatK _ _ _ _ Z];obtain⟨V,_,c,e,rfl,A⟩:=J.row.cell (i:=j/2) Z;grind[BV]
 have t:aA a=a.toArray.size:=s_;have A:=AnyQ.slices_SortFunc_total (P:=prog) (ρ:=sortL_ren) {sortL with} 2 isAgg135 sizeOf135 (BV m) (λ_=>rfl) (λx v F=>by simp[BV]at F;rcases F with rfl|rfl<;>rfl) (λx y=>Lib.compareBytes x y) Kr 173 #[] g 0 d a.toArray W (s_) ((by grind[z7,BV,jT,CmpLays])) D (G_) Z M8;rw[<-t]at A;apply A.mono;rintro e w' ⟨rfl,n,C,rfl⟩;have N:HoldsK (BV m) 2 (putRowK (BV m) 2 (Go.Sort.ahead W n) g 0 (oO a).toArray) g 0 (oO a).toArray:=holdsK_putRowK (BV m) 2 (Go.Sort.ahead W n) g 0 a.toArray _ D G_;have w:g<(putRowK (BV m) 2 (Go.Sort.ahead W n) g 0 (oO a).toArray).heap.size:=by rw[size_putRowK];exact aH r
 have H:∀k,k<H_ W->(grow (putRowK (BV m) 2 (Go.Sort.ahead W n) g 0 (oO a).toArray) C).heap[k]?=if g=k then (W.heap[k]?).map (onCells (putCells id 0 (flatK (BV m) 2 (oO a).toArray)))else W.heap[k]?:=λk q=>by rw[heap_grow_old _ _ (by rw[size_putRowK];exact q)];simp only[putRowK,putRow,mapBlock,Array.getElem?_modify];rfl
 refine⟨aJ,⟨?_,λb q=>by cases q;exact E⟩,aJ,aJ,aJ,?_,λk q=>?_⟩;have B:=H g (aH r);rw[ec rfl,r]at B;rw[<-p];refine Own.Bj B (by simp[putCells,G]) Z K λi M=>⟨_,rfl,rfl,λj u q=>?_⟩;rw[p]at M;have z:j<2:=G_;show (grow (putRowK (BV m) 2 (Go.Sort.ahead W n) g 0 (oO a).toArray) C).cell? (aL g (i*2+j))=_;rw[cell?_grow _ _ (aL g (i*2+j)) w,<-q];have Q:=(N.cell (i:=i) (c:=j) G_ z).1;grind[BV];grind[size_grow,size_putRowK,sortWorldK];grind[oO,sortWorldK,ltOf]
open Go.RowKit
theorem Z9:∀a b:bQ,fC a b=decide (Lib.compareBytes a b<0)|[],[]=>rfl|[],_::_=>rfl|_::_,[]=>rfl|a::l,b::m=>by rw[fC,Lib.compareBytes,Z9 l m];grind[UInt8.lt_iff_toNat_lt]
def SD(a b:bQ×bQ):Prop:=¬Lib.compareBytes b.1 a.1<0
theorem SD.trans{a b c:bQ×bQ}(h:SD a b)(k:SD b c):SD a c:=λq=>by unfold SD at h k;have d:=uR a.1 b.1;by_cases e:Lib.compareBytes b.1 a.1=0;grind[ZY];exact k (CH _ _ _ q Z)
theorem PI(x:bQ×bQ):∀l,List.Pairwise (λa b=>SD b a) l->(yI x l).Perm (x::l)/\List.Pairwise (λa b=>SD b a) (yI x l)|[],_=>(by grind[yI])|y::l,h=>by obtain⟨e,c⟩:=List.pairwise_cons.1 h;obtain⟨d,f⟩:=PI x l c;grind[yI,Z9,List.pairwise_cons,uR,SD,SD.trans]
def D8(l:List (bQ×aE)):(lL l).Perm (l.map λb=>(b.1,cM b.2))/\(lL l).Pairwise SD:=by
 have:∀(l:List (bQ×aE)) r,List.Pairwise (λa b=>SD b a) r->(l.foldl (λr b=>yI (b.1,cM b.2) r) r).Perm ((l.map λb=>(b.1,cM b.2))++r)/\List.Pairwise (λa b=>SD b a) (l.foldl (λr b=>yI (b.1,cM b.2) r) r):=by intro l;induction l with|nil=>simp|cons a l c=>grind[PI]
 have ⟨h1,h2⟩:=this l [] .nil;grind[lL]
def UU{f:aI}(k:f.e_.Nodup)(o:aA f.e_<=aA f.g_):lL (f.e_.reverse.zip f.g_)=(oO f.e_).map λx=>(x,IM f x):=by
 obtain⟨j,g⟩:=D8 (f.e_.reverse.zip f.g_);have e:(f.e_.reverse.zip f.g_).map (λb=>(b.1,cM b.2))=f.e_.reverse.map λx=>(x,IM f x):=by refine List.ext_getElem G_ λi h _=>?_;simp at h;have d:=ku (aA f.e_-1-i) f.e_;rw[jg Z]at d;have:=VL (d▸k);rw[d,jq]at this;simp[IM,this,show aA f.e_-(aA f.e_-1-i+1)=i by omega,show i<aA f.g_ by omega]
 have n:((oO f.e_).map λx=>(x,IM f x)).Perm (f.e_.reverse.map λx=>(x,IM f x)):=(by grind[List.mergeSort_perm,List.reverse_perm,oO]);have d:(oO f.e_).Pairwise λx y=>(!decide (Lib.compareBytes y x<0))=true:=List.pairwise_mergeSort (λa b c j g=>?_) (λa b=>?_) f.e_;refine List.Perm.eq_of_pairwise (le:=SD) (λa b p l m q=>?_) g ((by grind[SD])) (G_);grind[uR,ZY,SD];simpa [SD]using SD.trans (a:=(a,[])) (b:=(b,[])) (c:=(c,[])) (by simpa [SD]using j) (by simpa [SD]using g);grind[uR]
theorem Fz.up{d:Type}{e:Xd}{R:List Xa->d->Prop}{l:List d}(h:Fz n e R (B<=·) w r l)(i:P<=B)(f:∀g,B<=g->g<H_ w->t.heap[g]?=w.heap[g]?):Fz n e R (P<=·) t r l:=⟨h.row.h_ (λg q=>f g (h.i_ g q) (h.row.lt g q)) s_,(by grind[Fz.i_])⟩
section
variable {fp:iJ} {F:bL} {w:aN} {s1:SV} {s:bW}
def Ke(h:pA fp F w s1.val s)(k:∀b,F b->b<H_ w)(o:aA s.m.f_<=16):Calls prog 113 #[s1.val] w λe w'=>∃x n c,e=bR (P_ x n c)/\Fz 2 135 i8 (H_ w<=·) w' (P_ x n c) (sJ s.m.f_)/\R_ w w':=by
 have f:aA (sJ s.m.f_)=aA s.m.f_:=by simp[sJ]
 by_cases a:s.m.f_=[];refine sa (F8 w s1 (h.none a)) λw' m=>?_;exact⟨Option.none,0,0,aJ,⟨by rw[a];exact .nil,λb q=>by cases q⟩,m⟩;have hpos:=List.length_pos_iff.2 a;have ⟨gf,v,e1,e2,e3,_,_⟩:=h.frame 0 hpos;refine(F7 w s1 gf (sJ s.m.f_) e1 Z Z λW l j i=>?_).mono ?_;.rw[f]at i;have d:=h.h_ (w':=W) (lm) LR;have ⟨g,v,a1,a2,a3,a4,a5⟩:=d.frame j i;rw[e1]at a1;cases a1;have ⟨fb,gc,cap,cur,b1,b2,b3,_⟩:=a4.fn;have ⟨p,b4⟩:=gX.form a4.sp;have ⟨x4,n4,c4,b5⟩:=vg.sl a4.g_;have ⟨x5,n5,c5,b6⟩:=vg.sl a4.ops;refine⟨eh (k _ a3) l.size,fb,s.m.f_[j].next,p,x4,n4,c4,x5,n5,c5,a5 0 _ Z ?_,a5 1 _ Z ?_,a5 2 _ Z ?_,a5 3 _ Z ?_,a5 4 _ Z ?_,a5 5 _ Z ?_,?_,k _ b2⟩;rw[<-b1];rfl;rw[<-a4.nx];rfl;grind[sJ,Ca.ln,j_.cells];rw[<-b4];rfl;rw[<-b5];rfl;rw[<-b6];rfl;grind[sJ,aB]
 grind[Fz.of,Eb,VP,i8]
noncomputable def IK(s:bW):List (bQ×bQ):=match s.m.f_.getLast? with|Option.none=>[]|some f=>(oO f.e_).map λx=>(x,IM f x)
def Mh(h:pA fp F w s1.val s)(C:∀b,F b->b<H_ w)(N:aA s.m.f_<=16)(K:oY w)(D:lI s.m)(H:∀x∈s.m.f_,aA x.e_<=aA x.g_):Calls prog 114 #[s1.val] w λe w'=>∃x n c,e=bR (P_ x n c)/\Fz 2 137 vN (H_ w<=·) w' (P_ x n c) (IK s)/\R_ w w':=by
 by_cases L:s.m.f_=[];refine sa (z8 w s1 (h.none L)) λw' r=>?_;exact⟨Option.none,0,0,aJ,⟨by grind[IK,Own.nil],λb q=>by cases q⟩,r⟩;have ⟨n,hn⟩:∃n,aA s.m.f_=n+1:=⟨aA s.m.f_-1,by grind[List.length_pos_iff]⟩;have i:s.m.f_.getLast?=Wy (s.m.f_[n]'Z):=by grind
 have ⟨gf,v,e1,e2,e3,a4,a5⟩:=h.frame n Z;have f:s.m.f_[n]'Z∈s.m.f_:=(by simp);have ⟨⟨hno,a⟩,_⟩:=D _ f;replace a:_<=90001:=em a Z;have G:=H _ f;have ⟨p,b4⟩:=gX.form a4.sp;rw[show IK s=(oO (s.m.f_[n]'Z).e_).map λx=>(x,IM (s.m.f_[n]'Z) x) by unfold IK;rw[i]];have A:∀W,R_ w W->pA fp F W s1.val s:=λW B=>h.h_ (lm) s_;generalize E:eF w s1.cells 55=j;have o:R_ w j:=by grind[eo,dv]
 have hz0:=o.size;refine(z6 w j F s1 gf n p (s.m.f_[n]'Z).e_ (IM (s.m.f_[n]'Z)) (λy d W=>Fz 2 137 vN (H_ j<=·) W (P_ y (s.m.f_[n]'Z).e_.length d) ((oO (s.m.f_[n]'Z).e_).map λx=>(x,IM (s.m.f_[n]'Z) x))/\R_ j W) e1 Z Z E C (by rw[<-b4];exact a4.sp) a ?_ (λW I x l B P=>?_) λW y d J B=>?_).mono ?_;refine Oz j s1 gf n p e1 Z Z ?_ (G_);grind[World.cell?_of_block,ef,j_.cells];have hbw:=o.trans (B.mono hz0);have ⟨g,v',d1,d2,d3,d4,d5⟩:=(A W hbw).frame n Z;rw[e1]at d1;cases d1;have k:aA l<(s.m.f_[n]'Z).g_.length:=by grind
 have ⟨x4,n4,c4,b5⟩:=vg.sl d4.g_;have m:=d4.g_;rw[b5]at m;have ⟨g4,u,f1,f2,f3,f4,f5,f6,f7⟩:=m.get (aA l) k;obtain⟨t,z,rfl⟩:=f7.form;refine⟨g4,n4,c4,t,z,d5 4 _ Z (by rw[<-f1,<-b5];rfl),eh (C _ e3) hbw.size,Z,f6,f4,?_⟩;have M:IM (s.m.f_[n]'Z) x=cM ((s.m.f_[n]'Z).g_[aA l]'k):=by grind[IM,VL]
 rw[M];exact uD F 200 _ _ W f7 (λb r=>eh (C b r) hbw.size) (K.below hbw) (d4.Ba _ (s_)) Z;apply (QY W (H_ j) y d _ _ J a).mono;grind[Below.trans];grind[Fz.up,Below.trans,Below.mono]
end
def TB{F:bL}{l:cY}(h:CN F w r l)(f:aA l<=1000000):Calls prog 115 #[r] w λe w'=>∃x n c,e=bR (P_ x n c)/\Fz 1 9 AZ (H_ w<=·) w' (P_ x n c) l/\R_ w w':=by rcases h with ⟨rfl,rfl⟩|⟨g,c,d,rfl,i,o,k,m⟩;apply mJ (yZ w);exact⟨none,0,0,aJ,⟨.nil,λb q=>by cases q⟩,dv _ _⟩;refine(zA g 0 (aA l) c (pB l) w (by simp[pB]) f (λj u p=>?_) λu a=>?_).mono ?_;grind[aB];simp [pB]at a;obtain⟨x,_,rfl⟩:=a;rfl;grind[fV,Fz.of,Gq,pB,AZ]
structure Cu(b:Nat)(w:aN)(m:SV)(t:Nat)(d:fK):Prop where
 t:m.t=t
 q:m.q=d.stop
 st:Fz 2 135 i8 (b<=·) w (.slice m.x1 m.n1 m.c1) d.stack
 va:Fz 2 137 vN (b<=·) w (.slice m.x2 m.n2 m.c2) (lL d.g_)
 ou:Fz 1 9 AZ (b<=·) w (.slice m.x3 m.n3 m.c3) d.out
theorem C7{s:bW}(a:lI s.m)(b:∀x∈s.m.f_,aA x.e_<=aA x.g_):IK s=lL (Hs.sy s.m s.stop).g_:=by unfold IK Hs.sy;cases h:s.m.f_.getLast? with|none=>rfl|some f=>exact(UU (a f (G_)).1.1 (G_)).symm
def Hh{D:iJ}{F:bL}{J:Obj}{st:Nat->Option bW}{s:bW}(h:kR D F w B P J st s n)(C:aA s.m.f_<=16)(V:oY w)(z:lI s.m)(K:∀x∈s.m.f_,aA x.e_<=aA x.g_)(X:aA s.m.out<=1000000):Calls prog 22 #[aY B] w λe w'=>∃m:SV,e=bR m.val/\R_ w w'/\Cu (H_ w) w' m s.m_ (Hs.sy s.m s.stop):=by
 have ⟨s1,hs1,k0,k1,k2,k3,k4,_⟩:=h.cells;have v:=h.lt;have ⟨s1',e0,e1,e2⟩:=hs1.sv;obtain rfl:=SV.val_inj e0;have hFw:=λb a=>(h.fix b a).1;have o:∀W,R_ w W->pA D F W s1.val s:=λW p=>hs1.h_ (lm) s_;generalize t:eF w #[Y 0,bP,bP,bP,Y 0] 75=i;have u:R_ w i:=by grind[eo,dv]
 have Q:H_ i=H_ w+1:=by rw[<-t];simp
 have ab:i.heap[H_ w]?=Wy (bO #[Y 0,bP,bP,bP,Y 0] 75):=by grind[aV]
 apply Of w B s1 _ v k0 k1 k2 k3 k4;rw[t];generalize l:eF (eF i s1.cells 55) #[Y 0,bP,bP,bP,Y 0] 75=d;have A:R_ i d:=by rw[<-l];exact((dv _ i).alloc (Z) _).alloc s_ _
 have T:H_ d=H_ i+2:=by rw[<-l];simp
 have aa:d.heap[H_ i]?=Wy (bO s1.cells 55):=by grind[tR]
 have I:d.heap[H_ i+1]?=Wy (bO #[Y 0,bP,bP,bP,Y 0] 75):=by grind[pL]
 have f:∀W,R_ d W->R_ w W:=λW a=>u.trans ((A.mono u.size).trans (a.mono Z));refine XA i s1 (λm w'=>(∃c,w'.heap[H_ w]?=Wy (bO c 75)/\c.size=5)/\R_ w (iC w' (H_ w) m)/\Cu (H_ w) (iC w' (H_ w) m) m s.m_ (Hs.sy s.m s.stop)) (λm W=>R_ d W/\Cu (H_ d) W m s.m_ (Hs.sy s.m s.stop)) (λx n c W=>Fz 2 135 i8 (H_ d<=·) W (P_ x n c) (sJ s.m.f_)/\R_ d W) (λx n c G H E W=>Fz 2 135 i8 (H_ d<=·) W (P_ x n c) (sJ s.m.f_)/\Fz 2 137 vN (H_ d<=·) W (P_ G H E) (IK s)/\R_ d W) (λW p=>?_) (λx n c W r=>?_) (λx n c G H E W r=>?_) (λm W r=>?_);rw[l]at p;have q:R_ d W:=⟨p.os,p.tape,p.output,pi,λk _=>by rw[p.heap]⟩;apply (Ke (o W (f W q)) (λb a=>eh (hFw b a) (f W q).size) C).mono;grind[Fz.up,Below.size,Below.trans,Below.mono];have ⟨hP,a⟩:=r;refine⟨lm,(Mh (o W (f W a)) (λb j=>eh (hFw b j) (f W a).size) C (V.below (f W a)) z K).mono ?_⟩;grind[Fz.up,ef,Below.size,Below.trans,Below.mono];have ⟨hP,hV,a⟩:=r;have ⟨v_,_,_,hso⟩:=(o W (f W a)).parts;refine⟨lm,(TB hso X).mono ?_⟩;rintro e w' ⟨L,M,c3,rfl,S,j⟩;exact⟨L,M,c3,aJ,a.trans (j.mono a.size),e1,e2,hP.up (Z) λk _ N=>j.block k N,by grind[C7,Fz.up,ef],S.up a.size s_⟩;have ⟨a,hM⟩:=r;have y:∀g,H_ d<=g->g<H_ W->(iC (iC W (H_ i+1) m) (H_ w) m).heap[g]?=W.heap[g]?:=λg h1 h2=>by rw[gH _ _ _ _ Z,gH _ _ _ _ Z]
 exact⟨lm,lm,(by grind[gH,ef]),(by grind[AI]),hM.t,hM.q,hM.st.up Z y,hM.va.up Z y,hM.ou.up Z y⟩
def Own.two{f:Type}{k:Nat}{o:Xd}{R:List Xa->f->Prop}{y:Option Addr}{d:Nat}{l:List f}(h:Own k o R w (P_ s n P) l)(q:Own k o R w (P_ y B d) l)(p:t.heap=w.heap){i:Nat}(r:i<aA l):∃g e b a,s=Wy (aL g 0)/\y=Wy (aL e 0)/\R b l[i]/\R a l[i]/\(∀j u,b[j]?=Wy u->dR t g (i*k+j) u)/\∀j u,a[j]?=Wy u->dR t e (i*k+j) u:=by grind[Own.cell,eN]
def O7(W f:aN)(a b:SV)(k:List (bQ×Nat))(l:List (bQ×bQ))(m:cY)(hl:aA k<=1000000/\aA l<=1000000/\aA m<=1000000) (S:b.t=a.t) (M:b.q=a.q) (n1:a.n1=aA k) (n2:a.n2=aA l) (K:a.n3=aA m) (y:b.n1=aA k) (u:b.n2=aA l) (w:b.n3=aA m) (A:(W.alloc (bO a.cells 75)).alloc (bO b.cells 75)=f) (G:Hid (Own 2 135 i8 f (P_ a.x1 a.n1 a.c1) k/\Own 2 135 i8 f (P_ b.x1 b.n1 b.c1) k)) (J:Hid (Own 2 137 vN f (P_ a.x2 a.n2 a.c2) l/\Own 2 137 vN f (P_ b.x2 b.n2 b.c2) l)) (E:Hid (Own 1 9 AZ f (P_ a.x3 a.n3 a.c3) m/\Own 1 9 AZ f (P_ b.x3 b.n3 b.c3) m)):Calls prog 23 #[a.val,b.val] W λe w'=>e=bR (.bool true)/\bZ f w':=by
 have ⟨at_,ax1,ax2,ax3,an1,an2,an3,ac1,ac2,ac3,aq⟩:=a;have ⟨bt,bx1,bx2,bx3,bn1,bn2,bn3,bc1,bc2,bc3,bq⟩:=b;simp only at S M n1 n2 K y u w G J E;subst S M n1 n2 K y u w;unfold SV.cells at A;have r:f.heap[W.heap.size]?=Wy (bO #[Y bt,P_ ax1 (aA k) ac1,P_ ax2 (aA l) ac2,P_ ax3 (aA m) ac3,Y bq] 75):=by grind[ed,bI]
 have s:f.heap[W.heap.size+1]?=Wy (bO #[Y bt,P_ bx1 (aA k) bc1,P_ bx2 (aA l) bc2,P_ bx3 (aA m) bc3,Y bq] 75):=by rw[<-A];exact bI _ _ s_
 have HW:=O A;have t:Hid (∀V:aN,bZ f V->∀{b:Nat}{c:Array Xa},f.heap[b]?=Wy (bO c 75)->∀{i v},c[i]?=Wy v->V.cell? (aL b i)=Wy v):=(by grind[O,bZ.heap,aB]);have D:=O r;have C:=O s;have a0:=aB (i:=0) r aJ;have H:=aB (i:=1) r aJ;have I:=aB (i:=2) r aJ;have N:=aB (i:=3) r aJ;have a4:=aB (i:=4) r aJ;have b0:=aB (i:=0) s aJ;have B:=aB (i:=1) s aJ;have F:=aB (i:=2) s aJ;have L:=aB (i:=3) s aJ;have b4:=aB (i:=4) s aJ;clear A r s;unfold SV.val;go_in;go_wp;rw[HW];go_wp;clear a0 H I N a4 b0 B F L b4;go_loopg [5] (aA k) (λgk i wr=>∃j:Nat,j+gk=aA k/\i=Y j/\bZ f wr);case atStart=>grind[bZ.refl]
 case round=>
  obtain⟨j,X,rfl,d⟩:=hrel;have H:=t _ d D (i:=1) aJ;have B:=t _ d C (i:=1) aJ;have p:=O d;by_cases n:j<aA k
  .obtain⟨g,P,_,_,rfl,rfl,rfl,rfl,o,q⟩:=G.1.two G.2 d.heap n;have z:=o 0 _ aJ;have c1:=o 1 _ aJ;have x:=q 0 _ aJ;have d1:=q 1 _ aJ;have Q:(j:Int)<(aA k:Int):=Z;rw[gu]at z x;clear d o q;go_wp;go_quiet (fail);go_wp2;go_roundg (gk-1);case measure=>exact Z
   case rel=>exact⟨j+1,Z,ll,p.trans (bZ.drewN _ _)⟩
  have T:¬(j:Int)<(aA k:Int):=Z;clear d;go_wp;clear H B;go_loopg [6] (aA l) (λgk i wr=>∃j:Nat,j+gk=aA l/\i=Y j/\bZ f wr);case atStart=>exact⟨0,Z,rfl,p⟩
  case round=>
   clear p;obtain⟨j,X,rfl,d⟩:=hrel;have I:=t _ d D (i:=2) aJ;have F:=t _ d C (i:=2) aJ;have p:=O d;by_cases n:j<aA l
   .obtain⟨g,P,_,_,rfl,rfl,rfl,rfl,o,q⟩:=J.1.two J.2 d.heap n;have z:=o 0 _ aJ;have c1:=o 1 _ aJ;have x:=q 0 _ aJ;have d1:=q 1 _ aJ;have Q:(j:Int)<(aA l:Int):=Z;rw[gu]at z x;clear d o q;go_wp;go_quiet (fail);go_wp2;go_roundg (gk-1);case measure=>exact Z
    case rel=>exact⟨j+1,Z,ll,p.trans (bZ.drewN _ _)⟩
   have T:¬(j:Int)<(aA l:Int):=Z;clear d;go_wp;clear I F;go_loopg [7] (aA m) (λgk i wr=>∃j:Nat,j+gk=aA m/\i=Y j/\bZ f wr);case atStart=>exact⟨0,Z,rfl,p⟩
   case round=>
    clear p;obtain⟨j,X,rfl,d⟩:=hrel;have N:=t _ d D (i:=3) aJ;have L:=t _ d C (i:=3) aJ;have p:=O d;by_cases n:j<aA m
    .obtain⟨g,P,_,_,rfl,rfl,rfl,rfl,o,q⟩:=E.1.two E.2 d.heap n;have z:=o 0 _ aJ;have x:=q 0 _ aJ;have Q:(j:Int)<(aA m:Int):=Z;rw[gu,Nat.mul_one]at z x;clear d o q;go_wp;go_quiet (fail);go_wp2;go_roundg (gk-1);case measure=>exact Z
     case rel=>exact⟨j+1,Z,ll,p.trans (bZ.drewN _ _)⟩
    have T:¬(j:Int)<(aA m:Int):=Z;clear d;go_wp2;go_ret;exact⟨aJ,p⟩
def Jc(n:Nat)(w:aN)(k:n<=1000000):Calls prog 64 #[Y n] w λe w'=>∃s,e=bR (Q_ s)/\R_ w w':=by have j:∀a b c d e f:Int,(convert 193 9 (P_ (Wy (aL (H_ w) 0)) 6 6)).run prog (eF w #[.int .u8 a,.int .u8 b,.int .u8 c,.int .u8 d,.int .u8 e,.int .u8 f] 5)=.ok (Q_ (strOfNums [a,b,c,d,e,f])) (eF w #[.int .u8 a,.int .u8 b,.int .u8 c,.int .u8 d,.int .u8 e,.int .u8 f] 5):=λa b c d e f=>run_convert_bytes_arg _ 193 5 underlying193 underlying5 (H_ w) 0 6 6 [a,b,c,d,e,f] rfl (λi g=>by match i,g with|0,_|1,_|2,_|3,_|4,_|5,_=>simp[go_sem]) 9 underlying9;go_in;go_wp2;go_ret;exact⟨_,aJ,mn⟩
def tq.al{a:aN}(h:tq j a w)(o:Obj):tq j a (w.alloc o):=⟨h.os,h.tape,h.output,em h.size s_,(by grind[ed,tq.i_])⟩
def tq.wo(h:tq j t w){b i:Nat}{v:aX}(c:b∈j\/H_ t<=b):tq j t (c9 w (aL b i) v):=⟨h.os,h.tape,h.output,em h.size s_,(by grind[ej,tq.i_])⟩
def tq.grow{c:aN}{r:Option Nat}(h:tq j c w)(a:w.grownBy t r)(g:∀b,r=Wy b->b∈j\/H_ c<=b):tq j c t:=⟨a.os.trans h.os,a.tape.trans h.tape,a.output.trans h.output,em h.size a.size,λk d f=>(a.block k (eh d h.size) G_).trans (h.i_ k d f)⟩
structure Rw(k:Nat)(ty:Xd)(L:List Nat)(w0:aN)(N:Nat)(w:aN)(v:aX):Prop where
 own:∃l:List Unit,Own k ty (λ_ _=>True) w v l/\aA l<=N
 i_:∀b,v.ownBlock=Wy b->b∈L\/w0.heap.size<=b
section
variable {k k' N M:Nat} {ty t':Xd} {L:List Nat} {w0 w w':aN} {v v':aX}
theorem Rw.nil:Rw k ty L w0 N w (bP):=⟨⟨[],.nil,s_⟩,λb e=>by cases e⟩
def Rw.of{a:Type}{R:List Xa->a->Prop}{l:List a}(h:Own k ty R w v l)(d:aA l<=N)(c:∀b,v.ownBlock=Wy b->b∈L\/H_ w0<=b):Rw k ty L w0 N w v:=by exact⟨⟨List.replicate (aA l) (),(by grind[Own,kZ]),G_⟩,c⟩
theorem Rw.tag(h:Rw k ty L w0 N w v){b:Nat}(c:v.ownBlock=Wy b):∃a,w.heap[b]?=Wy (.cells a ty):=by obtain⟨l,⟨f,⟨-,d⟩,-⟩,-⟩:=h.own;rcases d with ⟨rfl,-⟩|⟨g,e,a,rfl,-,q,-⟩;cases c;cases c;grind
theorem Rw.h_(h:Rw k ty L w0 N w v)(e:∀(b:Nat) (a:Array Xa),w.heap[b]?=Wy (Obj.cells a ty)->w'.heap[b]?=w.heap[b]?):Rw k ty L w0 N w' v:=by obtain⟨l,d,c⟩:=h.own;exact⟨⟨l,d.h_ ((by grind[Rw.tag])) s_,c⟩,h.i_⟩
theorem Rw.al(h:Rw k ty L w0 N w v)(o:Obj):Rw k ty L w0 N (w.alloc o) v:=(by grind[Rw.h_,ed])
def Rw.wo(h:Rw k ty L w0 N w v){b i:Nat}{u:aX}{a:Array Xa}(c:w.heap[b]?=Wy (.cells a t' (0,0)))(d:t'≠ty):Rw k ty L w0 N (c9 w (aL b i) u) v:=(by grind[Rw.h_,ej])
def Rw.grow(h:Rw k ty L w0 N w v)(c:Rw k' t' L w0 M w v')(a:t'≠ty)(b:w.grownBy w' v'.ownBlock):Rw k ty L w0 N w' v:=(by grind[Rw.h_,World.grownBy.block,Rw.tag])
def Rw.sl(h:Rw k ty L w0 N w v):∃x n c,v=P_ x n c/\n<=N:=by grind[Rw.own,Own.slice]
def Rw.mono(h:Rw k ty L w0 N w v)(c:N<=M):Rw k ty L w0 M w v:=by obtain⟨l,b,a⟩:=h.own;exact⟨G_,h.i_⟩
def Rw.put{x:Option Addr}{n c i:Nat}(h:Rw k ty L w0 N w (P_ x n c))(z:i<n):∃g a,x=Wy (aL g 0)/\w.heap[g]?=Wy (bO a ty)/\n*k<=a.size/\(g∈L\/H_ w0<=g)/\∀j u,Rw k ty L w0 N (c9 w (aL g j) u) (P_ x n c):=by obtain⟨l,⟨y,d,r⟩,b⟩:=h.own;obtain⟨o,f⟩:=d;rcases f with ⟨e,s⟩|⟨g,m,a,e,-,q,p,A,t,v⟩;grind;cases e;refine⟨g,a,aJ,q,G_,h.i_ g rfl,λj u=>⟨⟨l,⟨_,(World.ownsRow.stored ⟨o,G_⟩ j u).1,G_,s_⟩,b⟩,h.i_⟩⟩
end
def Hl:yg 81 72 1 24:=.of underlying81 (z:=bP) k_ rfl d_
def N_:yg 82 73 1 24:=.of underlying82 (z:=bP) k_ rfl d_
def RM:yg 83 52 1 24:=.of underlying83 (z:=bP) k_ rfl d_
def A_:List (Nat×Xd):=[(2,135),(2,137),(1,9),(1,72),(1,73),(1,52)]
structure tH(L:List Nat)(w:aN)(m:SV)(N:Nat)(W:aN)(c:Array Xa)(r:List Xa):Prop where
 but:tq L w W
 mo:W.heap[w.heap.size]?=Wy (.cells m.cells 75)
 p4:W.heap[w.heap.size+1]?=Wy (.cells #[Y 0,bP,bP,bP] 85)
 p5:W.heap[w.heap.size+1+1]?=Wy (.cells c 85)
 row:∀(i:Nat) (t:Nat × Xd) (v:aX),A_[i]?=Wy t->r[i]?=Wy v->Rw t.1 t.2 L w N W v
section
variable {L:List Nat} {w W W':aN} {m:SV} {N M i:Nat} {c:Array Xa} {r:List Xa} {t:Nat × Xd} {v v':aX}
theorem Gv{j:Nat}{a:Nat×Xd}(h:A_[i]?=Wy t)(c:A_[j]?=Wy a)(b:j≠i):t.2≠a.2:=λe=>b ((List.getElem?_inj (l:=A_.map (·.2)) G_ d_).1 G_)
theorem US(h:A_[i]?=Wy t):t.2≠75/\t.2≠85:=(by grind[A_])
theorem tH.al(h:tH L w m N W c r)(o:Obj):tH L w m N (W.alloc o) c r:=⟨h.but.al o,(by grind[ed,tH.mo]),(by grind[ed,tH.p4]),(by grind[ed,tH.p5]),(by grind[Rw.al,tH.row])⟩
def tH.mono(h:tH L w m N W c r)(d:N<=M):tH L w m M W c r:=⟨h.but,h.mo,h.p4,h.p5,λi t v a b=>(h.row i t v a b).mono d⟩
theorem tH.app(h:tH L w m N W c r)(g:A_[i]?=Wy t)(z:r[i]?=Wy v){l:List Unit}(A:Own t.1 t.2 (λ_ _=>True) W' v' l)(B:aA l<=M)(s:W.grownBy W' v.ownBlock)(d:v'.ownBlock=v.ownBlock\/v'.ownBlock=Wy (H_ W))(f:N<=M):tH L w m M W' c (r.set i v'):=by have n:=h.row i t v g z;have k:∀(b:Nat) (x:Array Xa) (o:Xd),W.heap[b]?=Wy (Obj.cells x o)->t.2≠o->W'.heap[b]?=W.heap[b]?:=(by grind[World.grownBy.block,Rw.tag]);have ⟨n1,n2⟩:=US g;refine⟨h.but.grow s n.i_,(by grind[tH.mo]),(by grind[tH.p4]),(by grind[tH.p5]),λj p u y a=>?_⟩;rw[jx]at a;split at a;split at a;cases a;exact⟨G_,λb q=>d.elim (λe=>n.i_ b (e▸q)) λe=>by rw[e]at q;cases q;exact .inr h.but.size⟩;grind;exact((h.row j p u y a).h_ (by grind[Gv])).mono f
theorem tH.put{x:Option Addr}{n A j:Nat}(h:tH L w m N W c r)(d:A_[i]?=Wy t)(q:r[i]?=Wy (P_ x n A))(s:j<n):∃g a,x=Wy (aL g 0)/\W.heap[g]?=Wy (bO a t.2)/\n*t.1<=a.size/\∀p u,tH L w m N (c9 W (aL g p) u) c r:=by have ⟨g,a,e,q1,q2,q3,q4⟩:=(h.row i t _ d q).put s;have ⟨n1,n2⟩:=US d;have k:∀(b:Nat) (o:Array Xa) (f:Xd),W.heap[b]?=Wy (Obj.cells o f)->t.2≠f->∀p u,(c9 W (aL g p) u).heap[b]?=W.heap[b]?:=(by grind[ej]);refine⟨g,a,e,q1,q2,λp u=>⟨h.but.wo q3,(by grind[tH.mo]),(by grind[tH.p4]),(by grind[tH.p5]),λj l y v z=>?_⟩⟩;by_cases B:j=i;grind;exact(h.row j l y v z).h_ (by grind[Gv])
theorem tH.st(h:tH L w m N W c r)(p:Nat)(u:aX):tH L w m N (c9 W (aL (H_ w+1+1) p) u) (c.setIfInBounds p u) r:=by have a:∀b,b≠H_ w+1+1->(c9 W (aL (H_ w+1+1) p) u).heap[b]?=W.heap[b]?:=(by grind[ej]);exact⟨h.but.wo (Z),(by grind[tH.mo]),(by grind[tH.p4]),aP h.p5,λi t v d e=>(h.row i t v d e).wo h.p5 (by grind[A_])⟩
end
section
variable {L:List Nat} {w W:aN} {m:SV} {N i:Nat} {c:Array Xa} {r:List Xa} {t:Nat × Xd}
theorem tH.Cp{x:Option Addr}{n b j:Nat}(h:tH L w m N W c r)(k:A_[i]?=Wy t)(e:r[i]?=Wy (P_ x n b))(f:j<n):∃g,x=Wy (aL g 0)/\(∀p,p<n*t.1->∃u,dR W g p u)/\(∀p,W.frozen? (aL g p)=false)/\g<H_ W/\(∀p u,tH L w m N (c9 W (aL g p) u) c r)/\∀p u a d,tH L w m N (c9 (c9 W (aL g p) u) (aL g a) d) c r:=by grind[tH.put,aB,aF]
end
def EH(L:List Nat)(w:aN)(m:SV)(n:Nat)(hn:n<=1000000)(h1:Rw 2 135 L w 1000000 w (P_ m.x1 m.n1 m.c1))(h2:Rw 2 137 L w 1000000 w (P_ m.x2 m.n2 m.c2))(h3:Rw 1 9 L w 1000000 w (P_ m.x3 m.n3 m.c3)):Calls prog 24 #[m.val,Y n] w λe w'=>∃B q E A r D G u F,e=bR (.agg #[Y n,P_ B q E,P_ A r D,P_ G u F])/\tq L w w':=by
 have HW:=O λW=>Jc n W hn;have ⟨_,a1,c1',e1,hn1⟩:=h1.sl;have ⟨_,a2,c2',e2,hn2⟩:=h2.sl;have ⟨_,a3,c3',e3,hn3⟩:=h3.sl;cases e1;cases e2;cases e3;have aa:Hid (∀w1,Below ((eF (eF (eF w m.cells 75) (#[Y 0,bP,bP,bP]) 85) #[Y n,bP,bP,bP] 85).heap.size) (eF (eF (eF w m.cells 75) #[Y 0,bP,bP,bP] 85) #[Y n,bP,bP,bP] 85) w1->tH L w m 1000000 w1 #[Y n,bP,bP,bP] [P_ m.x1 m.n1 m.c1,P_ m.x2 m.n2 m.c2,P_ m.x3 m.n3 m.c3,bP,bP,bP]):=λw1 hb=>by have hbw:=((((dv (H_ w) w).alloc (Z) _).alloc s_ _).alloc la _).trans (hb.mono la);have k:∀{k ty N v},Rw k ty L w N w v->Rw k ty L w N w1 v:=(by grind[Rw.h_,ef]);refine⟨.below hbw _,(hb.block _ la).trans ?_,(hb.block _ s_).trans ?_,(hb.block _ s_).trans (bI _ _ s_),λi t v X V=>?_⟩;grind[ed,bI];rw[ed _ _ _ s_];exact bI _ _ s_;grind[Rw.nil,A_]
 have ⟨mt,B,A,G,q,r,u,E,D,F,mq⟩:=m;simp only[SV.cells]at aa hn1 hn2 hn3;unfold SV.val;go_in;go_wp2_with fail;apply (HW _).mono;rintro e w1 ⟨s,rfl,hb⟩;have p:=O (aa w1 hb);have k1:dR w1 (H_ w) 1 (P_ B q E):=aB p.mo aJ;have kl:=aH p.mo;go_wp2;go_loopg [8] q (λgk i wr=>∃j:Nat,j+gk=q/\i=Y j/\tH L w ⟨mt,B,A,G,q,r,u,E,D,F,mq⟩ 1000000 wr #[Y n,bP,bP,bP] [P_ B q E,P_ A r D,P_ G u F,bP,bP,bP]);case atStart=>grind[dw]
 case round=>
  obtain⟨j,hj,rfl,c⟩:=hrel;by_cases I:j<q
  .obtain⟨g,rfl,X,V,q3,-,q4⟩:=c.Cp (i:=0) rfl rfl I;have ⟨z0,z1⟩:=X (j*2) Z;have ⟨z2,z3⟩:=X (j*2+1) Z;have f0:=V (j*2);have f1:=V (j*2+1);have e2:(j:Int)<(q:Int):=Z;have HP:=O q4;go_wp2;go_roundg (gk-1);case measure=>exact Z
   case rel=>exact⟨j+1,Z,ll,G_⟩
  have e2:¬(j:Int)<(q:Int):=Z;have p:=O c;have k2:dR wr (H_ w) 2 (P_ A r D):=aB c.mo aJ;have kl:=aH c.mo;go_wp2;go_loopg [10] r (λgk i wr=>∃j:Nat,j+gk=r/\i=Y j/\tH L w ⟨mt,B,A,G,q,r,u,E,D,F,mq⟩ 1000000 wr #[Y n,bP,bP,bP] [P_ B q E,P_ A r D,P_ G u F,bP,bP,bP]);case atStart=>exact⟨0,Z,rfl,p⟩
  case round=>
   obtain⟨j,hj,rfl,c⟩:=hrel;by_cases I:j<r
   .obtain⟨g,rfl,X,V,q3,-,q4⟩:=c.Cp (i:=1) rfl rfl I;have ⟨z0,z1⟩:=X (j*2) Z;have ⟨z2,z3⟩:=X (j*2+1) Z;have f0:=V (j*2);have f1:=V (j*2+1);have e2:(j:Int)<(r:Int):=Z;have HP:=O q4;go_wp2;go_roundg (gk-1);case measure=>exact Z
    case rel=>exact⟨j+1,Z,ll,HP _ _ _ _⟩
   have e2:¬(j:Int)<(r:Int):=Z;have p:=O c;have k3:dR wr (H_ w) 3 (P_ G u F):=aB c.mo aJ;go_wp2;go_loopg [12] u (λgk i wr=>∃j:Nat,j+gk=u/\i=Y j/\tH L w ⟨mt,B,A,G,q,r,u,E,D,F,mq⟩ 1000000 wr #[Y n,bP,bP,bP] [P_ B q E,P_ A r D,P_ G u F,bP,bP,bP]);case atStart=>exact⟨0,Z,rfl,p⟩
   case round=>
    obtain⟨j,hj,rfl,c⟩:=hrel;by_cases I:j<u
    .obtain⟨g,rfl,X,V,q3,q4,-⟩:=c.Cp (i:=2) rfl rfl I;have ⟨z0,z1⟩:=X j Z;have f0:=V j;have e2:(j:Int)<(u:Int):=Z;have HP:=O q4;go_wp2;go_roundg (gk-1);case measure=>exact Z
     case rel=>exact⟨j+1,Z,ll,HP _ _⟩
    have e2:¬(j:Int)<(u:Int):=Z;have p:=O c;go_wp2;go_loopg [7,9,11,13] 65 (λgk a b o i wr=>∃(j:Nat) (P J Q:aX),j+gk=65/\i=Y j/\tH L w ⟨mt,B,A,G,q,r,u,E,D,F,mq⟩ (1000000+6*j) wr #[Y n,P,J,Q] [a,b,o,P,J,Q]);case atStart=>exact⟨0,_,_,_,Z,rfl,p⟩
    case round=>
     obtain⟨j,P,J,Q,hj,rfl,c⟩:=hrel;obtain⟨a1,a2,a3,rfl,-⟩:=(c.row 0 _ _ rfl rfl).sl;obtain⟨b1,b2,b3,rfl,-⟩:=(c.row 1 _ _ rfl rfl).sl;obtain⟨o1,o2,o3,rfl,-⟩:=(c.row 2 _ _ rfl rfl).sl;obtain⟨s1,s2,s3,rfl,-⟩:=(c.row 3 _ _ rfl rfl).sl;obtain⟨v1,v2,v3,rfl,-⟩:=(c.row 4 _ _ rfl rfl).sl;obtain⟨p1,p2,p3,rfl,-⟩:=(c.row 5 _ _ rfl rfl).sl;have p:=O c;have y0:dR wr (H_ w+1+1) 0 (Y n):=aB c.p5 aJ;have y1:dR wr (H_ w+1+1) 1 (P_ s1 s2 s3):=aB c.p5 aJ;have y2:dR wr (H_ w+1+1) 2 (P_ v1 v2 v3):=aB c.p5 aJ;have y3:dR wr (H_ w+1+1) 3 (P_ p1 p2 p3):=aB c.p5 aJ;have y4:=aF (i:=1) c.p5;have y5:=aF (i:=2) c.p5;have y6:=aF (i:=3) c.p5;have yl:=aH c.p5;by_cases I:j<=64
     .have e2:(j:Int)<=64:=Z;go_upto_region 21 with fail;go_cut [67] (λx S=>(∃b,x=.bool b)/\S=wr);case first=>go_wp;all_goals go_meet;simp
      case rest=>
       obtain⟨⟨b,rfl⟩,rfl⟩:=hcut;go_upto_if 67 with fail;go_cut [] (λS=>∃P J Q,tH L w ⟨mt,B,A,G,q,r,u,E,D,F,mq⟩ (1000000+6*j+3) S #[Y n,P,J,Q] [P_ a1 a2 a3,P_ b1 b2 b3,P_ o1 o2 o3,P,J,Q]);case first=>
        cases b;.go_wp;go_meet;case rel=>exact⟨_,_,_,p.mono Z⟩
        go_upto_region 22 with fail;go_cut [] (λS=>∃z,tH L w ⟨mt,B,A,G,q,r,u,E,D,F,mq⟩ (1000000+6*j+1) S #[Y n,z,P_ v1 v2 v3,P_ p1 p2 p3] [P_ a1 a2 a3,P_ b1 b2 b3,P_ o1 o2 o3,z,P_ v1 v2 v3,P_ p1 p2 p3]);case first=>have ⟨l,hl,hll⟩:=((p.al (bO #[P_ a1 a2 a3] 72)).row 3 _ _ rfl rfl).own;have y0:dR wc (H_ w+1+1) 1 _:=aB p.p5 aJ;have yl:=Z;go_wp2_with (at_builtin;refine mP r_ Hl r_ r_ hl r_ (Src.one (b:=H_ wc) (a:=()) (bI wc _ rfl) rfl trivial lu) la lr ?_;intro v' w2 H T d;obtain⟨X,V,q3,rfl⟩:=gI H;have C:=O ((p.al _).app (M:=1000000+6*j+1) (i:=3) aJ aJ H la T d Z);have x0:dR w2 (H_ w+1+1) 1 _:=aB C.p5 aJ;have B:=aF (i:=1) C.p5;have A:=aH C.p5);go_meet;case rel=>exact⟨_,C.st 1 _⟩
        case rest=>
         have ⟨z,hz⟩:=hcut;have C:=O hz;go_upto_region 23 with fail;go_cut [] (λS=>∃y,tH L w ⟨mt,B,A,G,q,r,u,E,D,F,mq⟩ (1000000+6*j+2) S #[Y n,z,y,P_ p1 p2 p3] [P_ a1 a2 a3,P_ b1 b2 b3,P_ o1 o2 o3,z,y,P_ p1 p2 p3]);case first=>have ⟨l,hl,hll⟩:=((C.al (bO #[P_ b1 b2 b3] 73)).row 4 _ _ rfl rfl).own;have y0:dR wc (H_ w+1+1) 2 _:=aB C.p5 aJ;have yl:=aH C.p5;go_wp2_with (at_builtin;refine mP r_ N_ r_ r_ hl r_ (Src.one (b:=H_ wc) (a:=()) (bI wc _ rfl) rfl trivial lu) la lr ?_;intro v' w2 H T d;obtain⟨X,V,q3,rfl⟩:=gI H;have K:=O ((C.al _).app (M:=1000000+6*j+2) (i:=4) aJ aJ H la T d Z);have x0:dR w2 (H_ w+1+1) 2 _:=aB K.p5 aJ;have B:=aF (i:=2) K.p5;have A:=aH K.p5);go_meet;case rel=>exact⟨_,K.st 2 _⟩
         case rest=>have ⟨y,hz⟩:=hcut;have K:=O hz;have ⟨l,hl,hll⟩:=((K.al (bO #[P_ o1 o2 o3] 52)).row 5 _ _ rfl rfl).own;have y0:dR wc (H_ w+1+1) 3 _:=aB K.p5 aJ;have yl:=aH K.p5;go_wp2_with (at_builtin;refine mP r_ RM r_ r_ hl r_ (Src.one (b:=H_ wc) (a:=()) (bI wc _ rfl) rfl trivial lu) la lr ?_;intro v' w2 H T d;obtain⟨X,V,q3,rfl⟩:=gI H;have C:=O ((K.al _).app (M:=1000000+6*j+3) (i:=5) aJ aJ H la T d Z);have x0:dR w2 (H_ w+1+1) 3 _:=aB C.p5 aJ;have B:=aF (i:=3) C.p5;have A:=aH C.p5);go_meet;case rel=>exact⟨_,_,_,C.st 3 _⟩
       case rest=>
        have ⟨P,J,Q,c⟩:=hcut;have p:=O c;go_upto_region 25 with fail;go_cut [7] (λz S=>tH L w ⟨mt,B,A,G,q,r,u,E,D,F,mq⟩ (1000000+6*j+4) S #[Y n,P,J,Q] [z,P_ b1 b2 b3,P_ o1 o2 o3,P,J,Q]);case first=>have ⟨l,hl,hll⟩:=((p.al (bO #[Q_ s,Y n] 135)).row 0 _ _ rfl rfl).own;go_wp2_with (at_builtin;refine mP r_ Ft r_ r_ hl r_ (Src.one (b:=H_ wc) (a:=()) (bI wc _ rfl) rfl trivial lu) la lr ?_;intro v' w2 H T d);go_meet;case rel=>exact(p.al _).app (i:=0) aJ aJ H la T d Z
        case rest=>
         have C:=O hcut;go_upto_region 26 with fail;go_cut [9] (λz S=>tH L w ⟨mt,B,A,G,q,r,u,E,D,F,mq⟩ (1000000+6*j+5) S #[Y n,P,J,Q] [u7,z,P_ o1 o2 o3,P,J,Q]);case first=>have ⟨l,hl,hll⟩:=((C.al (bO #[Q_ s,Q_ s] 137)).row 1 _ _ rfl rfl).own;go_wp2_with (at_builtin;refine mP r_ Gm r_ r_ hl r_ (Src.one (b:=H_ wc) (a:=()) (bI wc _ rfl) rfl trivial lu) la lr ?_;intro v' w2 H T d);go_meet;case rel=>exact(C.al _).app (i:=1) aJ aJ H la T d Z
         case rest=>
          have K:=O hcut;have ⟨l,hl,hll⟩:=((K.al (bO #[Q_ s] 9)).row 2 _ _ rfl rfl).own;go_wp2_with (at_builtin;refine mP r_ P7 r_ r_ hl r_ (Src.one (b:=H_ wc) (a:=()) (bI wc _ rfl) rfl trivial lu) la lr ?_;intro v' w2 H T d);go_roundg (gk-1);case measure=>exact Z
          case rel=>exact⟨j+1,P,J,Q,Z,ll,(K.al _).app (i:=2) rfl rfl H la T d Z⟩
     have e2:¬(j:Int)<=64:=Z;have z0:dR wr (H_ w+1) 0 (Y 0):=aB p.p4 aJ;have z1:dR wr (H_ w+1) 1 (bP):=aB p.p4 aJ;have z2:dR wr (H_ w+1) 2 (bP):=aB p.p4 aJ;have z3:dR wr (H_ w+1) 3 (bP):=aB p.p4 aJ;have f:=λi=>aF (i:=i) p.p4;have f0:=f 0;have f1:=f 1;have f2:=f 2;have f3:=f 3;have zl:=Z;have HFIN:=O ((((p.but.wo (i:=0) (v:=Y n) (b:=H_ w+1) (Z)).wo (i:=1) (v:=P_ s1 s2 s3) (b:=H_ w+1) (Z)).wo (i:=2) (v:=P_ v1 v2 v3) (b:=H_ w+1) (Z)).wo (i:=3) (v:=P_ p1 p2 p3) (b:=H_ w+1) (Z));go_wp2;apply bodyPost_ret (v:=.agg #[Y n,P_ s1 s2 s3,P_ v1 v2 v3,P_ p1 p2 p3]) (by simp[results,results24,go_sem,z0,z1,z2,z3]) rfl;exact⟨s_,HFIN⟩
def OM(w:aN)(d:dR w B 0 (P_ s n P))(a:n<=1000):Calls prog 66 #[aY B] w λe w'=>e=bR (Y ((n:Int)-1))/\w'=w:=by go_wp2;go_ret;simp
def OK(w:aN)(t:Int)(f:w.cell? (aL B 0)=Wy (.slice s n P))(j:w.cell? (aL B 1)=Wy r)(g:w.frozen? (aL B 1)=false)(d:n<=1000):Calls prog 26 #[aY B,Y t] w λe w'=>(0<=t/\t<n/\e=bR (.bool true)/\w'=c9 w (aL B 1) (Y t))\/(¬(0<=t/\t<n)/\e=bR (.bool false)/\w'=w):=by
 have a:=O (OM w f d);by_cases i:t<0;.go_in;go_wp2;go_ret;exact .inr ⟨Z,rfl,rfl⟩
 by_cases k:t<=(n:Int)-1;.have e:¬t>(n:Int)-1:=Z;go_in;go_wp2_with (apply mJ a);go_ret;exact .inl ⟨Z,Z,rfl,rfl⟩
 have e:t>(n:Int)-1:=Z;go_in;go_wp2_with (apply mJ a);go_ret;exact .inr ⟨Z,rfl,rfl⟩
