import Derived.Test.YtjhbbdpfkccohaaGreatDoorP20
import Derived.Test.YtjhbbdpfkccohaaGreatDoorP19
set_option linter.all false
set_option maxRecDepth 100000
set_option maxHeartbeats 4000000
open List renaming length->Ty
open Go.World renaming setCell->Tz
open Option renaming some->Ua
open Go renaming Value->Uf,TypeId->Ui
namespace Go.Proofs.YtjhbbdpfkccohaaGreatDoor
open Hs
open _root_.Go.Proofs.Tryz
open Go.RowKit Go.Sort
variable{j:List Nat}{E Z n:Nat}{s:Option Addr}{t w:aN}{r:aW}
section
variable {α:Type} {k:Nat} {e:Ui} {R:List Uf->α->Prop} {w:aN} {l:List α}
def Own.Av{g b:Nat}{a:Array Uf}(s:w.heap[g]?=Ua (cD a e))(m:a.size=b*k)(o:Ty l<=b)(A:b<=maxLen)(p:∀i (h:i<Ty l),∃c:List Uf,Ty c=k/\R c l[i]/\∀j u,c[j]?=Ua u->dP w g (i*k+j) u):Own k e R w (P_ (Ua (aL g 0)) (Ty l) b) l:=by
 have z:Ty l*k<=a.size:=by rw[m];exact ic _ o
 have d:Ty (a.toList.take (Ty l*k))=Ty l*k:=G_
 refine⟨a.toList.take (Ty l*k),⟨d,G_⟩,d,λi f=>?_⟩
 obtain⟨c,y,r,n⟩:=p i f;have t:i*k+k<=Ty l*k:=by rw[<-Nat.succ_mul];exact ic _ f
 have:((a.toList.take (Ty l*k)).drop (i*k)).take k=c:=by
  refine List.ext_getElem G_ λj x q=>?_
  have v:=n j c[j] (fe q);grind [cells_of_cell?]
 grind
theorem De{f:α->Uf × Uf}(h:∀a,R [(f a).1,(f a).2] a):∀l:List α,lA 2 R (pU (l.map f)) l
 |[]=>lA.nil
 |a::l=>(lA.one (k:=2) (a:=a) rfl (h a)).append (De h l)
theorem DR{f:α->Uf}(h:∀a,R [f a] a):∀l:List α,lA 1 R (l.map f) l
 |[]=>lA.nil
 |a::l=>(lA.one (k:=1) (a:=a) rfl (h a)).append (DR h l)
theorem Fz.of{b:Nat}{v:aW}{a:List Uf}(h:w.ownsRow b e k v (Ty l) a)(c:lA k R a l):Fz k e R (b<=·) w v l:=⟨⟨a,⟨h.1,h.2.imp id G_⟩,c⟩,λx q=>(h.lt x q).1⟩
end
def PY(W:aN)(o:Nat)(y:Option Addr)(d:Nat)(a:cY)(m:bP->bP)(h:W.ownsRow o 135 2 (P_ y (Ty a) d) (Ty a) (pU (PK m a)))(U:Ty a<=90001):
 Calls prog 171 #[P_ y (Ty a) d,.func (.func 172) #[] #[]] W λe w'=>e=fD/\Fz 2 135 vN (o<=·) w' (P_ y (Ty a) d) ((oF a).map λx=>(x,m x))/\Below o W w':=by
 have p:Ty ((oF a).map λx=>(x,m x))=Ty a:=by simp[p7]
 have J:=Fz.of (l:=a) (R:=λc x=>c=BU m x) h (De (f:=λx=>(Q_ (bs x),Q_ (bs (m x)))) (λ_=>aJ) a)
 rcases h.2 with ⟨s,E⟩|⟨g,I,L,s,E,r,Q,K,G,S⟩
 .have e:a=[]:=(by grind)
  subst e;cases s;refine oN (AnyF.slices_SortFunc_none (P:=prog) (ρ:=sortL_ren) { sortL with } none 0 (.func (.func 172) #[] #[]) W) ?_
  exact⟨aJ,⟨by rw[show oF []=[] by grind];exact .nil,λb q=>by cases q⟩,dz _ _⟩
 cases s
 have D:HoldsK (BU m) 2 W g 0 a.toArray:=λj z=>by rw[size_flatK,List.size_toArray]at z;refine⟨?_,aF r⟩;rw[get_flatK _ _ _ _ aD];obtain⟨T,_,c,e,rfl,A⟩:=J.row.cell (i:=j/2) aD;grind [BU]
 have t:Ty a=a.toArray.size:=s_
 have A:=AnyQ.slices_SortFunc_total (P:=prog) (ρ:=sortL_ren) { sortL with } 2 isAgg135 sizeOf135 (BU m) (λ_=>rfl) (λx v F=>by simp[BU]at F;rcases F with rfl|rfl<;>rfl) (λx y=>Lib.compareBytes x y) Kd 172 #[] g 0 d a.toArray W
  (s_) ((by grind [Z7,BU,jT,CmpLays])) D (G_) aD J0
 rw[<-t]at A;apply A.mono
 rintro e w' ⟨rfl,n,C,rfl⟩;have N:HoldsK (BU m) 2 (putRowK (BU m) 2 (Go.Sort.ahead W n) g 0 (oF a).toArray) g 0 (oF a).toArray:=holdsK_putRowK (BU m) 2 (Go.Sort.ahead W n) g 0 a.toArray _ D G_
 have w:g<(putRowK (BU m) 2 (Go.Sort.ahead W n) g 0 (oF a).toArray).heap.size:=by rw[size_putRowK];exact aH r
 have H:∀k,k<H_ W->(grow (putRowK (BU m) 2 (Go.Sort.ahead W n) g 0 (oF a).toArray) C).heap[k]?=if g=k then (W.heap[k]?).map (onCells (putCells id 0 (flatK (BU m) 2 (oF a).toArray)))else W.heap[k]?:=λk q=>by
  rw[heap_grow_old _ _ (by rw[size_putRowK];exact q)]
  simp only[putRowK,putRow,mapBlock,Array.getElem?_modify];rfl
 refine⟨aJ,⟨?_,λb q=>by cases q;exact E⟩,aJ,aJ,aJ,?_,λk q=>?_⟩
 .have B:=H g (aH r);rw[ef rfl,r]at B;rw[<-p];refine Own.Av B (by simp[putCells,G]) aD K λi M=>⟨_,rfl,rfl,λj u q=>?_⟩
  rw[p]at M;have z:j<2:=G_
  show (grow (putRowK (BU m) 2 (Go.Sort.ahead W n) g 0 (oF a).toArray) C).cell? (aL g (i*2+j))=_
  rw[cell?_grow _ _ (aL g (i*2+j)) w,<-q];have O:=(N.cell (i:=i) (c:=j) G_ z).1
  grind [BU]
 .grind [size_grow,size_putRowK,sortWorldK]
 grind [oF,sortWorldK,ltOf]
open Go.RowKit
theorem V7:∀a b:bP,fE a b=decide (Lib.compareBytes a b<0)
 |[],[]=>rfl
 |[],_::_=>rfl
 |_::_,[]=>rfl
 |a::l,b::m=>by rw[fE,Lib.compareBytes,V7 l m];grind [UInt8.lt_iff_toNat_lt]
def QV(a b:bP × bP):Prop:=¬Lib.compareBytes b.1 a.1<0
theorem QV.trans{a b c:bP × bP}(h:QV a b)(k:QV b c):QV a c:=λq=>by
 unfold QV at h k;have d:=uP a.1 b.1;by_cases e:Lib.compareBytes b.1 a.1=0
 .grind [YT]
 exact k (CF _ _ _ q aD)
theorem OG(x:bP × bP):∀l,List.Pairwise (λa b=>QV b a) l->(yI x l).Perm (x::l)/\List.Pairwise (λa b=>QV b a) (yI x l)
 |[],_=>(by grind [yI])
 |y::l,h=>by obtain⟨e,c⟩:=List.pairwise_cons.1 h;obtain⟨d,f⟩:=OG x l c;grind [yI,V7,List.pairwise_cons,uP,QV,QV.trans]
def ZY(l:List (bP × aE)):(lL l).Perm (l.map λb=>(b.1,cM b.2))/\(lL l).Pairwise QV:=by
 have:∀(l:List (bP × aE)) r,List.Pairwise (λa b=>QV b a) r->(l.foldl (λr b=>yI (b.1,cM b.2) r) r).Perm ((l.map λb=>(b.1,cM b.2))++r)/\List.Pairwise (λa b=>QV b a) (l.foldl (λr b=>yI (b.1,cM b.2) r) r):=by
  intro l;induction l with
  |nil=>simp
  |cons a l c=>
   grind [OG]
 obtain⟨e,d⟩:=this l [] .nil;grind [lL]
def TU{f:aI}(k:f.e_.Nodup)(o:Ty f.e_<=Ty f.g_):lL (f.e_.reverse.zip f.g_)=(oF f.e_).map λx=>(x,FO f x):=by
 obtain⟨j,g⟩:=ZY (f.e_.reverse.zip f.g_)
 have e:(f.e_.reverse.zip f.g_).map (λb=>(b.1,cM b.2))=f.e_.reverse.map λx=>(x,FO f x):=by
  refine List.ext_getElem G_ λi h _=>?_
  simp at h;have d:=kg (Ty f.e_-1-i) f.e_;rw[iw aD]at d;have:=UK (d▸k);rw[d,ji]at this;simp[FO,this,show Ty f.e_-(Ty f.e_-1-i+1)=i by omega,show i<Ty f.g_ by omega]
 have n:((oF f.e_).map λx=>(x,FO f x)).Perm (f.e_.reverse.map λx=>(x,FO f x)):=(by grind [List.mergeSort_perm,List.reverse_perm,oF])
 have d:(oF f.e_).Pairwise λx y=>(!decide (Lib.compareBytes y x<0))=true:=List.pairwise_mergeSort (λa b c j g=>?_) (λa b=>?_) f.e_
 .refine List.Perm.eq_of_pairwise (le:=QV) (λa b p l m q=>?_) g ((by grind [QV])) (G_)
  grind [uP,YT,QV]
 .simpa [QV]using QV.trans (a:=(a,[])) (b:=(b,[])) (c:=(c,[])) (by simpa [QV]using j) (by simpa [QV]using g)
 grind [uP]
theorem Fz.up{d:Type}{e:Ui}{R:List Uf->d->Prop}{l:List d}(h:Fz n e R (E<=·) w r l)(i:Z<=E)(f:∀g,E<=g->g<H_ w->t.heap[g]?=w.heap[g]?):Fz n e R (Z<=·) t r l:=
 ⟨h.row.h_ (λg q=>f g (h.i_ g q) (h.row.lt g q)) s_,(by grind [Fz.i_])⟩
section
variable {fp:iU} {F:bN} {w:aN} {s1:SV} {s:dB}
def o7(h:pC fp F w s1.val s)(l:∀b,F b->b<H_ w)(P:Ty s.m.f_<=16):
 Calls prog 112 #[s1.val] w λe w'=>∃x n c,e=bY (P_ x n c)/\Fz 2 133 W8 (H_ w<=·) w' (P_ x n c) (kJ s.m.f_)/\R_ w w':=by
 have k:Ty (kJ s.m.f_)=Ty s.m.f_:=by simp[kJ]
 by_cases f:s.m.f_=[]
 .refine rf (B9 w s1 (h.none f)) λw' B=>?_
  exact⟨Option.none,0,0,aJ,⟨by rw[f];exact .nil,λb q=>by cases q⟩,B⟩
 have hpos :=List.length_pos_iff.2 f;obtain⟨I,v,m,S,U,_,_⟩:=h.frame 0 hpos;refine(B8 w s1 I (kJ s.m.f_) m aD aD λW D j r=>?_).mono ?_
 .rw[k]at r;have i:=h.h_ (w':=W) (ku) MW
  obtain⟨g,v,o,V,G,d,a⟩:=i.frame j r;rw[m]at o;cases o;obtain⟨M,T,E,H,t,K,Q,_⟩:=d.fn;obtain⟨p,L⟩:=gQ.form d.sp;obtain⟨z,C,O,u⟩:=tw.sl d.g_;obtain⟨N,y,J,A⟩:=tw.sl d.ops;refine⟨ej (l _ G) D.size,M,s.m.f_[j].next,p,z,C,O,N,y,J,a 0 _ aD ?_,a 1 _ aD ?_,a 2 _ aD ?_,a 3 _ aD ?_,a 4 _ aD ?_,a 5 _ aD ?_,?_,l _ K⟩
  .rw[<-t];rfl
  .rw[<-d.nx];rfl
  .grind [kJ,Ax.ln,j_.cells]
  .rw[<-L];rfl
  .rw[<-u];rfl
  .rw[<-A];rfl
  grind [kJ,aA]
 grind [Fz.of,De,PZ,W8]
noncomputable def GT(s:dB):List (bP × bP):=match s.m.f_.getLast? with
 |Option.none=>[]
 |some f=>(oF f.e_).map λx=>(x,FO f x)
def Qf(h:pC fp F w s1.val s)(C:∀b,F b->b<H_ w)(hd:Ty s.m.f_<=16)(V:pA w)(D:lI s.m)(P:∀x∈s.m.f_,Ty x.e_<=Ty x.g_):
 Calls prog 113 #[s1.val] w λe w'=>∃x n c,e=bY (P_ x n c)/\Fz 2 135 vN (H_ w<=·) w' (P_ x n c) (GT s)/\R_ w w':=by
 by_cases Y:s.m.f_=[]
 .refine rf (Z8 w s1 (h.none Y)) λw' r=>?_
  exact⟨Option.none,0,0,aJ,⟨by grind [GT,Own.nil],λb q=>by cases q⟩,r⟩
 obtain⟨n,hn⟩:∃n,Ty s.m.f_=n+1:=⟨Ty s.m.f_-1,by grind [List.length_pos_iff]⟩
 have i:s.m.f_.getLast?=Ua (s.m.f_[n]'aD):=by grind
 obtain⟨M,v,G,e2,e3,L,a5⟩:=h.frame n aD;have f:s.m.f_[n]'aD∈s.m.f_:=(by simp)
 obtain⟨⟨N,a⟩,_⟩:=D _ f;replace a:_<=90001:=eo a aD
 have O:=P _ f;obtain⟨p,b4⟩:=gQ.form L.sp;rw[show GT s=(oF (s.m.f_[n]'aD).e_).map λx=>(x,FO (s.m.f_[n]'aD) x) by unfold GT;rw[i]]
 have A:∀W,R_ w W->pC fp F W s1.val s:=λW B=>h.h_ (ku) s_
 generalize H:eH w s1.cells 57=j;have o:R_ w j:=by grind [ep,dz]
 have hz0 :=o.size;refine(Z5 w j F s1 M n p (s.m.f_[n]'aD).e_ (FO (s.m.f_[n]'aD)) (λy d W=>Fz 2 135 vN (H_ j<=·) W (P_ y (s.m.f_[n]'aD).e_.length d) ((oF (s.m.f_[n]'aD).e_).map λx=>(x,FO (s.m.f_[n]'aD) x))/\R_ j W) G aD aD H C (by rw[<-b4];exact L.sp) a ?_ (λW T x l B hs=>?_) λW y d U B=>?_).mono ?_
 .refine s6 j s1 M n p G aD aD ?_ (G_)
  grind [World.cell?_of_block,eg,j_.cells]
 .have hbw :=o.trans (B.mono hz0);obtain⟨g,v',K,d2,d3,E,Z⟩:=(A W hbw).frame n aD;rw[G]at K;cases K
  have k:Ty l<(s.m.f_[n]'aD).g_.length:=by grind
  obtain⟨x4,Q,c4,I⟩:=tw.sl E.g_;have m:=E.g_;rw[I]at m;obtain⟨X,u,S,f2,f3,f4,f5,f6,J⟩:=m.get (Ty l) k;obtain⟨t,z,rfl⟩:=J.form;refine⟨X,Q,c4,t,z,Z 4 _ aD (by rw[<-S,<-I];rfl),ej (C _ e3) hbw.size,aD,f6,f4,?_⟩
  have he:FO (s.m.f_[n]'aD) x=cM ((s.m.f_[n]'aD).g_[Ty l]'k):=by grind [FO,UK]
  rw[he];exact uB F 200 _ _ W J (λb r=>ej (C b r) hbw.size) (V.below hbw) (E.zt _ (s_)) aD
 .apply (PY W (H_ j) y d _ _ U a).mono
  grind [Below.trans]
 grind [Fz.up,Below.trans,Below.mono]
end
def RS{F:bN}{l:cY}(h:CJ F w r l)(f:Ty l<=1000000):
 Calls prog 114 #[r] w λe w'=>∃x n c,e=bY (P_ x n c)/\Fz 1 9 AZ (H_ w<=·) w' (P_ x n c) l/\R_ w w':=by
 rcases h with ⟨rfl,rfl⟩|⟨g,c,d,rfl,i,o,k,m⟩
 .refine oN (yZ w) ?_;exact⟨none,0,0,aJ,⟨.nil,λb q=>by cases q⟩,dz _ _⟩
 refine(zA g 0 (Ty l) c (pD l) w (by simp[pD]) f (λj u p=>?_) λu a=>?_).mono ?_
 .grind [aA]
 .simp [pD]at a;obtain⟨x,_,rfl⟩:=a;rfl
 grind [fW,Fz.of,DR,pD,AZ]
structure Bq(b:Nat)(w:aN)(m:SV)(t:Nat)(d:gC):Prop where
 t:m.t=t
 q:m.q=d.stop
 st:Fz 2 133 W8 (b<=·) w (.slice m.x1 m.n1 m.c1) d.stack
 va:Fz 2 135 vN (b<=·) w (.slice m.x2 m.n2 m.c2) (lL d.g_)
 ou:Fz 1 9 AZ (b<=·) w (.slice m.x3 m.n3 m.c3) d.out
theorem ZQ{s:dB}(a:lI s.m)(b:∀x∈s.m.f_,Ty x.e_<=Ty x.g_):GT s=lL (Hs.rz s.m s.stop).g_:=by
 unfold GT Hs.rz;cases h:s.m.f_.getLast? with
 |none=>rfl
 |some f=>exact(TU (a f (G_)).1.1 (G_)).symm
def Mu{I:iU}{F:bN}{S:Obj}{st:Nat->Option dB}{s:dB}(h:kZ I F w E Z S st s n)(H:Ty s.m.f_<=16)(hp:pA w)(B:lI s.m)(T:∀x∈s.m.f_,Ty x.e_<=Ty x.g_)(ho:Ty s.m.out<=1000000):
 Calls prog 21 #[bF E] w λe w'=>∃m:SV,e=bY m.val/\R_ w w'/\Bq (H_ w) w' m s.m_ (Hs.rz s.m s.stop):=by
 obtain⟨v,u,k0,N,k2,Y,k4,_⟩:=h.cells;have A:=h.lt;obtain⟨Q,P,e1,e2⟩:=u.sv;obtain rfl:=SV.val_inj P;have hFw :=λb a=>(h.fix b a).1
 have o:∀W,R_ w W->pC I F W v.val s:=λW p=>u.h_ (ku) s_
 generalize y:eH w #[I_ 0,bO,bO,bO,I_ 0] 73=i;have z:R_ w i:=by grind [ep,dz]
 have aa:H_ i=H_ w+1:=by rw[<-y];simp
 have ae:i.heap[H_ w]?=Ua (cD #[I_ 0,bO,bO,bO,I_ 0] 73):=by grind [aZ]
 refine Rr w E v _ A k0 N k2 Y k4 ?_;rw[y];generalize l:eH (eH i v.cells 57) #[I_ 0,bO,bO,bO,I_ 0] 73=d;have D:R_ i d:=by rw[<-l];exact((dz _ i).alloc (aD) _).alloc s_ _
 have ab:H_ d=H_ i+2:=by rw[<-l];simp
 have ac:d.heap[H_ i]?=Ua (cD v.cells 57):=by grind [tP]
 have O:d.heap[H_ i+1]?=Ua (cD #[I_ 0,bO,bO,bO,I_ 0] 73):=by grind [pM]
 have f:∀W,R_ d W->R_ w W:=λW a=>z.trans ((D.mono z.size).trans (a.mono aD))
 refine VX i v (λm w'=>(∃c,w'.heap[H_ w]?=Ua (cD c 73)/\c.size=5)/\R_ w (jR w' (H_ w) m)/\Bq (H_ w) (jR w' (H_ w) m) m s.m_ (Hs.rz s.m s.stop))
  (λm W=>R_ d W/\Bq (H_ d) W m s.m_ (Hs.rz s.m s.stop))
  (λx n c W=>Fz 2 133 W8 (H_ d<=·) W (P_ x n c) (kJ s.m.f_)/\R_ d W)
  (λx n c L J K W=>Fz 2 133 W8 (H_ d<=·) W (P_ x n c) (kJ s.m.f_)/\Fz 2 135 vN (H_ d<=·) W (P_ L J K) (GT s)/\R_ d W) (λW p=>?_) (λx n c W t=>?_) (λx n c L J K W t=>?_) (λm W t=>?_)
 .rw[l]at p;have r:R_ d W:=⟨p.os,p.tape,p.output,nz,λk _=>by rw[p.heap]⟩
  apply (o7 (o W (f W r)) (λb a=>ej (hFw b a) (f W r).size) H).mono
  grind [Fz.up,Below.size,Below.trans,Below.mono]
 .obtain⟨M,a⟩:=t;refine⟨ku,(Qf (o W (f W a)) (λb j=>ej (hFw b j) (f W a).size) H (hp.below (f W a)) B T).mono ?_⟩
  grind [Fz.up,eg,Below.size,Below.trans,Below.mono]
 .obtain⟨M,hV,a⟩:=t;obtain⟨ad,_,_,G⟩:=(o W (f W a)).parts;refine⟨ku,(RS G ho).mono ?_⟩
  rintro e w' ⟨U,V,c3,rfl,hO,j⟩;exact⟨U,V,c3,aJ,a.trans (j.mono a.size),e1,e2,M.up (aD) λk _ X=>j.block k X,by grind [ZQ,Fz.up,eg],hO.up a.size s_⟩
 obtain⟨a,q⟩:=t;have C:∀g,H_ d<=g->g<H_ W->(jR (jR W (H_ i+1) m) (H_ w) m).heap[g]?=W.heap[g]?:=λg h1 h2=>by rw[gZ _ _ _ _ aD,gZ _ _ _ _ aD]
 exact⟨ku,ku,(by grind [gZ,eg]),(by grind [AH]),q.t,q.q,q.st.up aD C,q.va.up aD C,q.ou.up aD C⟩
def Own.two{f:Type}{k:Nat}{o:Ui}{R:List Uf->f->Prop}{y:Option Addr}{d:Nat}{l:List f}(h:Own k o R w (P_ s n Z) l)(q:Own k o R w (P_ y E d) l)(p:t.heap=w.heap){i:Nat}(r:i<Ty l):
 ∃g e b a,s=Ua (aL g 0)/\y=Ua (aL e 0)/\R b l[i]/\R a l[i]/\(∀j u,b[j]?=Ua u->dP t g (i*k+j) u)/\∀j u,a[j]?=Ua u->dP t e (i*k+j) u:=by
 grind [Own.cell,eO]
def Tv{Z_:Prop}(Y_:Z_:=by
 clear hw q1 q2;go_wp2_with fail;go_quiet (fail)
 go_wp2
 go_roundg (gk-1)
 case measure=>exact aD
 case rel=>exact⟨j+1,aD,la,HH.trans (bV.drewN _ _)⟩):Z_:=Y_
def K7(W f:aN)(a b:SV)(l:List (bP × Nat))(m:List (bP × bP))(k:cY)(hl:Ty l<=1000000/\Ty m<=1000000/\Ty k<=1000000)
 (et:b.t=a.t) (eq:b.q=a.q) (n1:a.n1=Ty l) (n2:a.n2=Ty m) (n3:a.n3=Ty k) (w:b.n1=Ty l) (x:b.n2=Ty m) (z:b.n3=Ty k)
 (A:(W.alloc (cD a.cells 73)).alloc (cD b.cells 73)=f)
 (H:Hid (Own 2 133 W8 f (P_ a.x1 a.n1 a.c1) l/\Own 2 133 W8 f (P_ b.x1 b.n1 b.c1) l)) (X:Hid (Own 2 135 vN f (P_ a.x2 a.n2 a.c2) m/\Own 2 135 vN f (P_ b.x2 b.n2 b.c2) m)) (G:Hid (Own 1 9 AZ f (P_ a.x3 a.n3 a.c3) k/\Own 1 9 AZ f (P_ b.x3 b.n3 b.c3) k)):
 Calls prog 22 #[a.val,b.val] W λe w'=>e=bY (.bool true)/\bV f w':=by
 obtain⟨aa,K,Q,J,ae,ab,ad,M,C,O,aq⟩:=a;obtain⟨bt,L,P,T,ag,ac,af,D,F,Y,bq⟩:=b;simp only at et eq n1 n2 n3 w x z H X G;subst et eq n1 n2 n3 w x z;unfold SV.cells at A;have r:f.heap[W.heap.size]?=Ua (cD #[I_ bt,P_ K (Ty l) M,P_ Q (Ty m) C,P_ J (Ty k) O,I_ bq] 73):=by grind [eh,bM]
 have s:f.heap[W.heap.size+1]?=Ua (cD #[I_ bt,P_ L (Ty l) D,P_ P (Ty m) F,P_ T (Ty k) Y,I_ bq] 73):=by rw[<-A];exact bM _ _ s_
 have HW:=aB A;have t:Hid (∀V:aN,bV f V->∀{b:Nat} {c:Array Uf},f.heap[b]?=Ua (cD c 73)->∀{i v},c[i]?=Ua v->V.cell? (aL b i)=Ua v):=(by grind [aB,bV.heap,aA])
 have B:=aB r;have S:=aB s;have a0:=aA (i:=0) r aJ;have I:=aA (i:=1) r aJ;have N:=aA (i:=2) r aJ;have a3:=aA (i:=3) r aJ;have a4:=aA (i:=4) r aJ;have b0:=aA (i:=0) s aJ;have E:=aA (i:=1) s aJ;have U:=aA (i:=2) s aJ;have Z:=aA (i:=3) s aJ;have b4:=aA (i:=4) s aJ;clear A r s;unfold SV.val;go_in
 go_wp2_with fail;rw[HW];go_wp2_with fail;clear a0 I N a3 a4 b0 E U Z b4;go_loopg [5] (Ty l) (λgk i wr=>∃j:Nat,j+gk=Ty l/\i=I_ j/\bV f wr)
 case atStart=>grind [bV.refl]
 case round=>
  obtain⟨j,hj,rfl,d⟩:=hrel;have I:=t _ d B (i:=1) aJ;have E:=t _ d S (i:=1) aJ;have q:=aB d;by_cases n:j<Ty l
  .obtain⟨g,g',_,_,rfl,rfl,rfl,rfl,p,o⟩:=H.1.two H.2 d.heap n;have y:=p 0 _ aJ;have c1:=p 1 _ aJ;have u:=o 0 _ aJ;have d1:=o 1 _ aJ;have e2:(j:Int)<(Ty l:Int):=aD;rw[gu]at y u;clear d p o;go_wp2_with fail;go_quiet (fail)
   go_wp2
   go_roundg (gk-1)
   case measure=>exact aD
   case rel=>exact⟨j+1,aD,la,q.trans (bV.drewN _ _)⟩
  have e3:¬(j:Int)<(Ty l:Int):=aD;clear d;go_wp2_with fail;clear I E;go_loopg [6] (Ty m) (λgk i wr=>∃j:Nat,j+gk=Ty m/\i=I_ j/\bV f wr)
  case atStart=>exact⟨0,aD,rfl,q⟩
  case round=>
   clear q;obtain⟨j,hj,rfl,d⟩:=hrel;have N:=t _ d B (i:=2) aJ;have U:=t _ d S (i:=2) aJ;have q:=aB d;by_cases n:j<Ty m
   .obtain⟨g,g',_,_,rfl,rfl,rfl,rfl,p,o⟩:=X.1.two X.2 d.heap n;have y:=p 0 _ aJ;have c1:=p 1 _ aJ;have u:=o 0 _ aJ;have d1:=o 1 _ aJ;have e2:(j:Int)<(Ty m:Int):=aD;rw[gu]at y u;clear d p o;go_wp2_with fail;go_quiet (fail)
    go_wp2
    go_roundg (gk-1)
    case measure=>exact aD
    case rel=>exact⟨j+1,aD,la,q.trans (bV.drewN _ _)⟩
   have e3:¬(j:Int)<(Ty m:Int):=aD;clear d;go_wp2_with fail;clear N U;go_loopg [7] (Ty k) (λgk i wr=>∃j:Nat,j+gk=Ty k/\i=I_ j/\bV f wr)
   case atStart=>exact⟨0,aD,rfl,q⟩
   case round=>
    clear q;obtain⟨j,hj,rfl,d⟩:=hrel;have a3:=t _ d B (i:=3) aJ;have Z:=t _ d S (i:=3) aJ;have q:=aB d;by_cases n:j<Ty k
    .obtain⟨g,g',_,_,rfl,rfl,rfl,rfl,p,o⟩:=G.1.two G.2 d.heap n;have y:=p 0 _ aJ;have u:=o 0 _ aJ;have e2:(j:Int)<(Ty k:Int):=aD;rw[gu,Nat.mul_one]at y u;clear d p o;go_wp2_with fail;go_quiet (fail)
     go_wp2
     go_roundg (gk-1)
     case measure=>exact aD
     case rel=>exact⟨j+1,aD,la,q.trans (bV.drewN _ _)⟩
    have e3:¬(j:Int)<(Ty k:Int):=aD;clear d;go_wp2
    go_ret;exact⟨aJ,q⟩
def Ks(n:Nat)(w:aN)(k:n<=1000000):
 Calls prog 63 #[I_ n] w λe w'=>∃s,e=bY (Q_ s)/\R_ w w':=by
 have j:∀a b c d e f:Int,(convert 191 9 (P_ (Ua (aL (H_ w) 0)) 6 6)).run prog (eH w #[.int .u8 a,.int .u8 b,.int .u8 c,.int .u8 d,.int .u8 e,.int .u8 f] 5)=.ok (Q_ (strOfNums [a,b,c,d,e,f])) (eH w #[.int .u8 a,.int .u8 b,.int .u8 c,.int .u8 d,.int .u8 e,.int .u8 f] 5):=λa b c d e f=>
  run_convert_bytes_arg _ 191 5 underlying191 underlying5 (H_ w) 0 6 6 [a,b,c,d,e,f] rfl (λi g=>by
   match i,g with
   |0,_|1,_|2,_|3,_|4,_|5,_=>simp[go_sem]) 9 underlying9
 go_in
 go_wp2
 go_ret;exact⟨_,aJ,lr⟩
def td.al{a:aN}(h:td j a w)(o:Obj):td j a (w.alloc o):=
 ⟨h.os,h.tape,h.output,eo h.size s_,(by grind [eh,td.i_])⟩
def td.vi(h:td j t w){b i:Nat}{v:aW}(c:b∈j\/H_ t<=b):td j t (Tz w (aL b i) v):=
 ⟨h.os,h.tape,h.output,eo h.size s_,(by grind [em,td.i_])⟩
def td.grow{c:aN}{r:Option Nat}(h:td j c w)(a:w.grownBy t r)(g:∀b,r=Ua b->b∈j\/H_ c<=b):td j c t:=
 ⟨a.os.trans h.os,a.tape.trans h.tape,a.output.trans h.output,eo h.size a.size,λk d f=>(a.block k (ej d h.size) G_).trans (h.i_ k d f)⟩
structure Rw(k:Nat)(ty:Ui)(L:List Nat)(w0:aN)(N:Nat)(w:aN)(v:aW):Prop where
 own:∃l:List Unit,Own k ty (λ_ _=>True) w v l/\Ty l<=N
 i_:∀b,v.ownBlock=Ua b->b∈L\/w0.heap.size<=b
section
variable {k k' N M:Nat} {ty t':Ui} {L:List Nat} {w0 w w':aN} {v v':aW}
theorem Rw.nil:Rw k ty L w0 N w (bO):=⟨⟨[],.nil,s_⟩,λb e=>by cases e⟩
def Rw.of{a:Type}{R:List Uf->a->Prop}{l:List a}(h:Own k ty R w v l)(d:Ty l<=N)(c:∀b,v.ownBlock=Ua b->b∈L\/H_ w0<=b):Rw k ty L w0 N w v:=by exact⟨⟨List.replicate (Ty l) (),(by grind [Own,lA]),G_⟩,c⟩
theorem Rw.tag(h:Rw k ty L w0 N w v){b:Nat}(c:v.ownBlock=Ua b):∃a,w.heap[b]?=Ua (.cells a ty):=by
 obtain⟨l,⟨f,⟨-,d⟩, -⟩, -⟩:=h.own;rcases d with ⟨rfl, -⟩|⟨g,e,a,rfl, -,q, -⟩
 .cases c
 cases c;grind
theorem Rw.h_(h:Rw k ty L w0 N w v)(e:∀(b:Nat) (a:Array Uf),w.heap[b]?=Ua (Obj.cells a ty)->w'.heap[b]?=w.heap[b]?):Rw k ty L w0 N w' v:=by obtain⟨l,d,c⟩:=h.own;exact⟨⟨l,d.h_ ((by grind [Rw.tag])) s_,c⟩,h.i_⟩
theorem Rw.al(h:Rw k ty L w0 N w v)(o:Obj):Rw k ty L w0 N (w.alloc o) v:=(by grind [Rw.h_,eh])
def Rw.vi(h:Rw k ty L w0 N w v){b i:Nat}{u:aW}{a:Array Uf}(c:w.heap[b]?=Ua (.cells a t' (0,0)))(d:t'≠ty):Rw k ty L w0 N (Tz w (aL b i) u) v:=
 (by grind [Rw.h_,em])
def Rw.grow(h:Rw k ty L w0 N w v)(c:Rw k' t' L w0 M w v')(a:t'≠ty)(b:w.grownBy w' v'.ownBlock):Rw k ty L w0 N w' v:=
 (by grind [Rw.h_,World.grownBy.block,Rw.tag])
def Rw.sl(h:Rw k ty L w0 N w v):∃x n c,v=P_ x n c/\n<=N:=by grind [Rw.own,Own.slice]
def Rw.mono(h:Rw k ty L w0 N w v)(c:N<=M):Rw k ty L w0 M w v:=by obtain⟨l,b,a⟩:=h.own;exact⟨G_,h.i_⟩
def Rw.put{x:Option Addr}{n c i:Nat}(h:Rw k ty L w0 N w (P_ x n c))(z:i<n):∃g a,x=Ua (aL g 0)/\w.heap[g]?=Ua (cD a ty)/\n*k<=a.size/\(g∈L\/H_ w0<=g)/\∀j u,Rw k ty L w0 N (Tz w (aL g j) u) (P_ x n c):=by
 obtain⟨l,⟨y,d,r⟩,b⟩:=h.own;obtain⟨o,f⟩:=d;rcases f with ⟨e,s⟩|⟨g,m,a,e, -,q,p,A,t,v⟩
 .grind
 cases e;refine⟨g,a,aJ,q,G_,h.i_ g rfl,λj u=>⟨⟨l,⟨_,(World.ownsRow.stored ⟨o,G_⟩ j u).1,G_,s_⟩,b⟩,h.i_⟩⟩
end
def Lc:xb 79 70 1 24:=.of underlying79 (z:=bO) k_ rfl d_
def Ly:xb 80 71 1 24:=.of underlying80 (z:=bO) k_ rfl d_
def Iy:xb 81 54 1 24:=.of underlying81 (z:=bO) k_ rfl d_
def zq:List (Nat × Ui):=[(2,133),(2,135),(1,9),(1,70),(1,71),(1,54)]
structure tG(L:List Nat)(w:aN)(m:SV)(N:Nat)(W:aN)(c:Array Uf)(r:List Uf):Prop where
 but:td L w W
 mo:W.heap[w.heap.size]?=Ua (.cells m.cells 73)
 p4:W.heap[w.heap.size+1]?=Ua (.cells #[I_ 0,bO,bO,bO] 83)
 p5:W.heap[w.heap.size+1+1]?=Ua (.cells c 83)
 row:∀(i:Nat) (t:Nat × Ui) (v:aW),zq[i]?=Ua t->r[i]?=Ua v->Rw t.1 t.2 L w N W v
section
variable {L:List Nat} {w W W':aN} {m:SV} {N M i:Nat} {c:Array Uf} {r:List Uf} {t:Nat × Ui} {v v':aW}
theorem Eh{j:Nat}{a:Nat × Ui}(h:zq[i]?=Ua t)(c:zq[j]?=Ua a)(b:j≠i):t.2≠a.2:=λe=>
 b ((List.getElem?_inj (l:=zq.map (·.2)) G_ d_).1 G_)
def TR(h:zq[i]?=Ua t):t.2≠73/\t.2≠83:=(by grind [zq])
theorem tG.al(h:tG L w m N W c r)(o:Obj):tG L w m N (W.alloc o) c r:=
 ⟨h.but.al o,(by grind [eh,tG.mo]),(by grind [eh,tG.p4]),(by grind [eh,tG.p5]),(by grind [Rw.al,tG.row])⟩
def tG.mono(h:tG L w m N W c r)(d:N<=M):tG L w m M W c r:=⟨h.but,h.mo,h.p4,h.p5,λi t v a b=>(h.row i t v a b).mono d⟩
def tG.app(h:tG L w m N W c r)(g:zq[i]?=Ua t)(z:r[i]?=Ua v){l:List Unit}(A:Own t.1 t.2 (λ_ _=>True) W' v' l)(B:Ty l<=M)(s:W.grownBy W' v.ownBlock)(d:v'.ownBlock=v.ownBlock\/v'.ownBlock=Ua (H_ W))(f:N<=M):tG L w m M W' c (r.set i v'):=by
 have n:=h.row i t v g z;have k:∀(b:Nat) (x:Array Uf) (o:Ui),W.heap[b]?=Ua (Obj.cells x o)->t.2≠o->W'.heap[b]?=W.heap[b]?:=(by grind [World.grownBy.block,Rw.tag])
 obtain⟨C,D⟩:=TR g;refine⟨h.but.grow s n.i_,(by grind [tG.mo]),(by grind [tG.p4]),(by grind [tG.p5]),λj p u y a=>?_⟩
 rw[jp]at a;split at a
 .split at a
  .cases a;exact⟨G_,λb q=>d.elim (λe=>n.i_ b (e▸q)) λe=>by rw[e]at q;cases q;exact .inr h.but.size⟩
  grind
 exact((h.row j p u y a).h_ (by grind [Eh])).mono f
theorem tG.put{x:Option Addr}{n C j:Nat}(h:tG L w m N W c r)(d:zq[i]?=Ua t)(v:r[i]?=Ua (P_ x n C))(z:j<n):∃g a,x=Ua (aL g 0)/\W.heap[g]?=Ua (cD a t.2)/\n*t.1<=a.size/\∀p u,tG L w m N (Tz W (aL g p) u) c r:=by
 obtain⟨g,a,e,q,D,s,F⟩:=(h.row i t _ d v).put z;obtain⟨G,H⟩:=TR d;have k:∀(b:Nat) (o:Array Uf) (f:Ui),W.heap[b]?=Ua (Obj.cells o f)->t.2≠f->∀p u,(Tz W (aL g p) u).heap[b]?=W.heap[b]?:=(by grind [em])
 refine⟨g,a,e,q,D,λp u=>⟨h.but.vi s,(by grind [tG.mo]),(by grind [tG.p4]),(by grind [tG.p5]),λj l y A B=>?_⟩⟩
 by_cases E:j=i
 .grind
 exact(h.row j l y A B).h_ (by grind [Eh])
theorem tG.st(h:tG L w m N W c r)(p:Nat)(u:aW):tG L w m N (Tz W (aL (H_ w+1+1) p) u) (c.setIfInBounds p u) r:=by
 have a:∀b,b≠H_ w+1+1->(Tz W (aL (H_ w+1+1) p) u).heap[b]?=W.heap[b]?:=(by grind [em])
 exact⟨h.but.vi (aD),(by grind [tG.mo]),(by grind [tG.p4]),aP h.p5,λi t v d e=>(h.row i t v d e).vi h.p5 (by grind [zq])⟩
end
section
variable {L:List Nat} {w W:aN} {m:SV} {N i:Nat} {c:Array Uf} {r:List Uf} {t:Nat × Ui}
def tG.Bh{x:Option Addr}{n b j:Nat}(h:tG L w m N W c r)(k:zq[i]?=Ua t)(e:r[i]?=Ua (P_ x n b))(f:j<n):∃g,x=Ua (aL g 0)/\(∀p,p<n*t.1->∃u,dP W g p u)/\(∀p,W.frozen? (aL g p)=false)/\g<H_ W/\(∀p u,tG L w m N (Tz W (aL g p) u) c r)/\∀p u a d,tG L w m N (Tz (Tz W (aL g p) u) (aL g a) d) c r:=by grind [tG.put,aA,aF]
end
def EB(L:List Nat)(w:aN)(m:SV)(n:Nat)(hn:n<=1000000)(h1:Rw 2 133 L w 1000000 w (P_ m.x1 m.n1 m.c1))(h2:Rw 2 135 L w 1000000 w (P_ m.x2 m.n2 m.c2))(h3:Rw 1 9 L w 1000000 w (P_ m.x3 m.n3 m.c3)):
 Calls prog 23 #[m.val,I_ n] w λe w'=>∃B q E A r D G u F,e=bY (.agg #[I_ n,P_ B q E,P_ A r D,P_ G u F])/\td L w w':=by
 have HW:=aB λW=>Ks n W hn
 obtain⟨_,a1,af,e1,ab⟩:=h1.sl;obtain⟨_,a2,ae,Z,ad⟩:=h2.sl;obtain⟨_,a3,ag,e3,ac⟩:=h3.sl;cases e1;cases Z;cases e3
 have aa:Hid (∀w1,Below ((eH (eH (eH w m.cells 73) (#[I_ 0,bO,bO,bO]) 83) #[I_ n,bO,bO,bO] 83).heap.size) (eH (eH (eH w m.cells 73) #[I_ 0,bO,bO,bO] 83) #[I_ n,bO,bO,bO] 83) w1->
  tG L w m 1000000 w1 #[I_ n,bO,bO,bO] [P_ m.x1 m.n1 m.c1,P_ m.x2 m.n2 m.c2,P_ m.x3 m.n3 m.c3,bO,bO,bO]):=λw1 hb=>by
  have hbw :=((((dz (H_ w) w).alloc (aD) _).alloc s_ _).alloc kj _).trans (hb.mono kj)
  have k:∀{k ty N v},Rw k ty L w N w v->Rw k ty L w N w1 v:=(by grind [Rw.h_,eg])
  refine⟨.below hbw _,(hb.block _ kj).trans ?_,(hb.block _ s_).trans ?_,(hb.block _ s_).trans (bM _ _ s_),λi t v X U=>?_⟩
  .grind [eh,bM]
  .rw[eh _ _ _ s_];exact bM _ _ s_
  grind [Rw.nil,zq]
 obtain⟨mt,B,A,G,q,r,u,E,D,F,Y⟩:=m;simp only[SV.cells]at aa ab ad ac;unfold SV.val;go_in
 go_wp2_with fail;apply (HW _).mono
 rintro e w1 ⟨s,rfl,hb⟩;have p:=aB (aa w1 hb);have k1:dP w1 (H_ w) 1 (P_ B q E):=aA p.mo aJ;have kl:=aH p.mo;go_wp2
 go_loopg [8] q (λgk i wr=>∃j:Nat,j+gk=q/\i=I_ j/\tG L w ⟨mt,B,A,G,q,r,u,E,D,F,Y⟩ 1000000 wr #[I_ n,bO,bO,bO] [P_ B q E,P_ A r D,P_ G u F,bO,bO,bO])
 case atStart=>grind [d7]
 case round=>
  obtain⟨j,hj,rfl,c⟩:=hrel;by_cases I:j<q
  .obtain⟨g,rfl,X,U,q3, -,q4⟩:=c.Bh (i:=0) rfl rfl I;obtain⟨z0,z1⟩:=X (j*2) aD;obtain⟨z2,z3⟩:=X (j*2+1) aD;have f0:=U (j*2);have f1:=U (j*2+1);have Z:(j:Int)<(q:Int):=aD;have HP:=aB q4;go_wp2
   go_roundg (gk-1)
   case measure=>exact aD
   case rel=>exact⟨j+1,aD,la,G_⟩
  have Z:¬(j:Int)<(q:Int):=aD;have p:=aB c;have k2:dP wr (H_ w) 2 (P_ A r D):=aA c.mo aJ;have kl:=aH c.mo;go_wp2
  go_loopg [10] r (λgk i wr=>∃j:Nat,j+gk=r/\i=I_ j/\tG L w ⟨mt,B,A,G,q,r,u,E,D,F,Y⟩ 1000000 wr #[I_ n,bO,bO,bO] [P_ B q E,P_ A r D,P_ G u F,bO,bO,bO])
  case atStart=>exact⟨0,aD,rfl,p⟩
  case round=>
   obtain⟨j,hj,rfl,c⟩:=hrel;by_cases I:j<r
   .obtain⟨g,rfl,X,U,q3, -,q4⟩:=c.Bh (i:=1) rfl rfl I;obtain⟨z0,z1⟩:=X (j*2) aD;obtain⟨z2,z3⟩:=X (j*2+1) aD;have f0:=U (j*2);have f1:=U (j*2+1);have Z:(j:Int)<(r:Int):=aD;have HP:=aB q4;go_wp2
    go_roundg (gk-1)
    case measure=>exact aD
    case rel=>exact⟨j+1,aD,la,HP _ _ _ _⟩
   have Z:¬(j:Int)<(r:Int):=aD;have p:=aB c;have k3:dP wr (H_ w) 3 (P_ G u F):=aA c.mo aJ;go_wp2
   go_loopg [12] u (λgk i wr=>∃j:Nat,j+gk=u/\i=I_ j/\tG L w ⟨mt,B,A,G,q,r,u,E,D,F,Y⟩ 1000000 wr #[I_ n,bO,bO,bO] [P_ B q E,P_ A r D,P_ G u F,bO,bO,bO])
   case atStart=>exact⟨0,aD,rfl,p⟩
   case round=>
    obtain⟨j,hj,rfl,c⟩:=hrel;by_cases I:j<u
    .obtain⟨g,rfl,X,U,q3,q4, -⟩:=c.Bh (i:=2) rfl rfl I;obtain⟨z0,z1⟩:=X j aD;have f0:=U j;have Z:(j:Int)<(u:Int):=aD;have HP:=aB q4;go_wp2
     go_roundg (gk-1)
     case measure=>exact aD
     case rel=>exact⟨j+1,aD,la,HP _ _⟩
    have Z:¬(j:Int)<(u:Int):=aD;have p:=aB c;go_wp2
    go_loopg [7,9,11,13] 65 (λgk a b o i wr=>∃(j:Nat) (O J P:aW),j+gk=65/\i=I_ j/\tG L w ⟨mt,B,A,G,q,r,u,E,D,F,Y⟩ (1000000+6*j) wr #[I_ n,O,J,P] [a,b,o,O,J,P])
    case atStart=>exact⟨0,_,_,_,aD,rfl,p⟩
    case round=>
     obtain⟨j,O,J,P,hj,rfl,c⟩:=hrel;obtain⟨a1,a2,a3,rfl, -⟩:=(c.row 0 _ _ rfl rfl).sl;obtain⟨b1,b2,b3,rfl, -⟩:=(c.row 1 _ _ rfl rfl).sl;obtain⟨o1,o2,o3,rfl, -⟩:=(c.row 2 _ _ rfl rfl).sl;obtain⟨s1,s2,s3,rfl, -⟩:=(c.row 3 _ _ rfl rfl).sl;obtain⟨v1,v2,v3,rfl, -⟩:=(c.row 4 _ _ rfl rfl).sl;obtain⟨p1,p2,p3,rfl, -⟩:=(c.row 5 _ _ rfl rfl).sl;have p:=aB c;have y0:dP wr (H_ w+1+1) 0 (I_ n):=aA c.p5 aJ;have y1:dP wr (H_ w+1+1) 1 (P_ s1 s2 s3):=aA c.p5 aJ;have y2:dP wr (H_ w+1+1) 2 (P_ v1 v2 v3):=aA c.p5 aJ;have y3:dP wr (H_ w+1+1) 3 (P_ p1 p2 p3):=aA c.p5 aJ;have y4:=aF (i:=1) c.p5;have y5:=aF (i:=2) c.p5;have y6:=aF (i:=3) c.p5;have yl:=aH c.p5;by_cases I:j<=64
     .have Z:(j:Int)<=64:=aD;go_upto_region 21 with fail
      go_cut [67] (λx Q=>(∃b,x=.bool b)/\Q=wr)
      case first=>
       go_wp2_with fail
       all_goals
        go_meet
        simp
      case rest=>
       obtain⟨⟨b,rfl⟩,rfl⟩:=hcut;go_upto_if 67 with fail
       go_cut [] (λQ=>∃O J P,tG L w ⟨mt,B,A,G,q,r,u,E,D,F,Y⟩ (1000000+6*j+3) Q #[I_ n,O,J,P] [P_ a1 a2 a3,P_ b1 b2 b3,P_ o1 o2 o3,O,J,P])
       case first=>
        cases b
        .go_wp2_with fail;go_meet
         case rel=>exact⟨_,_,_,p.mono aD⟩
        go_upto_region 22 with fail
        go_cut [] (λQ=>∃z,tG L w ⟨mt,B,A,G,q,r,u,E,D,F,Y⟩ (1000000+6*j+1) Q #[I_ n,z,P_ v1 v2 v3,P_ p1 p2 p3] [P_ a1 a2 a3,P_ b1 b2 b3,P_ o1 o2 o3,z,P_ v1 v2 v3,P_ p1 p2 p3])
        case first=>
         obtain⟨l,T,V⟩:=((p.al (cD #[P_ a1 a2 a3] 70)).row 3 _ _ rfl rfl).own;have y0:dP wc (H_ w+1+1) 1 _:=aA p.p5 aJ;have yl:=aD;go_wp2_with (at_builtin;refine nN r_ Lc r_ r_ T r_ (Src.one (b:=H_ wc) (a:=()) (bM wc _ rfl) rfl trivial lb) kj kz ?_;intro v' w2 H S d;obtain⟨X,U,q3,rfl⟩:=gI H;have C:=aB ((p.al _).app (M:=1000000+6*j+1) (i:=3) aJ aJ H kj S d aD);have x0:dP w2 (H_ w+1+1) 1 _:=aA C.p5 aJ;have B:=aF (i:=1) C.p5;have A:=aH C.p5)
         go_meet
         case rel=>exact⟨_,C.st 1 _⟩
        case rest=>
         obtain⟨z,hz⟩:=hcut;have C:=aB hz;go_upto_region 23 with fail
         go_cut [] (λQ=>∃y,tG L w ⟨mt,B,A,G,q,r,u,E,D,F,Y⟩ (1000000+6*j+2) Q #[I_ n,z,y,P_ p1 p2 p3] [P_ a1 a2 a3,P_ b1 b2 b3,P_ o1 o2 o3,z,y,P_ p1 p2 p3])
         case first=>
          obtain⟨l,T,V⟩:=((C.al (cD #[P_ b1 b2 b3] 71)).row 4 _ _ rfl rfl).own;have y0:dP wc (H_ w+1+1) 2 _:=aA C.p5 aJ;have yl:=aH C.p5;go_wp2_with (at_builtin;refine nN r_ Ly r_ r_ T r_ (Src.one (b:=H_ wc) (a:=()) (bM wc _ rfl) rfl trivial lb) kj kz ?_;intro v' w2 H S d;obtain⟨X,U,q3,rfl⟩:=gI H;have K:=aB ((C.al _).app (M:=1000000+6*j+2) (i:=4) aJ aJ H kj S d aD);have x0:dP w2 (H_ w+1+1) 2 _:=aA K.p5 aJ;have B:=aF (i:=2) K.p5;have A:=aH K.p5)
          go_meet
          case rel=>exact⟨_,K.st 2 _⟩
         case rest=>
          obtain⟨y,hz⟩:=hcut;have K:=aB hz;obtain⟨l,T,V⟩:=((K.al (cD #[P_ o1 o2 o3] 54)).row 5 _ _ rfl rfl).own;have y0:dP wc (H_ w+1+1) 3 _:=aA K.p5 aJ;have yl:=aH K.p5;go_wp2_with (at_builtin;refine nN r_ Iy r_ r_ T r_ (Src.one (b:=H_ wc) (a:=()) (bM wc _ rfl) rfl trivial lb) kj kz ?_;intro v' w2 H S d;obtain⟨X,U,q3,rfl⟩:=gI H;have C:=aB ((K.al _).app (M:=1000000+6*j+3) (i:=5) aJ aJ H kj S d aD);have x0:dP w2 (H_ w+1+1) 3 _:=aA C.p5 aJ;have B:=aF (i:=3) C.p5;have A:=aH C.p5)
          go_meet
          case rel=>exact⟨_,_,_,C.st 3 _⟩
       case rest=>
        obtain⟨O,J,P,c⟩:=hcut;have p:=aB c;go_upto_region 25 with fail
        go_cut [7] (λz Q=>tG L w ⟨mt,B,A,G,q,r,u,E,D,F,Y⟩ (1000000+6*j+4) Q #[I_ n,O,J,P] [z,P_ b1 b2 b3,P_ o1 o2 o3,O,J,P])
        case first=>
         obtain⟨l,T,V⟩:=((p.al (cD #[Q_ s,I_ n] 133)).row 0 _ _ rfl rfl).own;go_wp2_with (at_builtin;refine nN r_ Ds r_ r_ T r_ (Src.one (b:=H_ wc) (a:=()) (bM wc _ rfl) rfl trivial lb) kj kz ?_;intro v' w2 H S d)
         go_meet
         case rel=>exact(p.al _).app (i:=0) aJ aJ H kj S d aD
        case rest=>
         have C:=aB hcut;go_upto_region 26 with fail
         go_cut [9] (λz Q=>tG L w ⟨mt,B,A,G,q,r,u,E,D,F,Y⟩ (1000000+6*j+5) Q #[I_ n,O,J,P] [u7,z,P_ o1 o2 o3,O,J,P])
         case first=>
          obtain⟨l,T,V⟩:=((C.al (cD #[Q_ s,Q_ s] 135)).row 1 _ _ rfl rfl).own;go_wp2_with (at_builtin;refine nN r_ Dy r_ r_ T r_ (Src.one (b:=H_ wc) (a:=()) (bM wc _ rfl) rfl trivial lb) kj kz ?_;intro v' w2 H S d)
          go_meet
          case rel=>exact(C.al _).app (i:=1) aJ aJ H kj S d aD
         case rest=>
          have K:=aB hcut;obtain⟨l,T,V⟩:=((K.al (cD #[Q_ s] 9)).row 2 _ _ rfl rfl).own;go_wp2_with (at_builtin;refine nN r_ M3 r_ r_ T r_ (Src.one (b:=H_ wc) (a:=()) (bM wc _ rfl) rfl trivial lb) kj kz ?_;intro v' w2 H S d)
          go_roundg (gk-1)
          case measure=>exact aD
          case rel=>exact⟨j+1,O,J,P,aD,la,(K.al _).app (i:=2) rfl rfl H kj S d aD⟩
     have Z:¬(j:Int)<=64:=aD;have z0:dP wr (H_ w+1) 0 (I_ 0):=aA p.p4 aJ;have z1:dP wr (H_ w+1) 1 (bO):=aA p.p4 aJ;have z2:dP wr (H_ w+1) 2 (bO):=aA p.p4 aJ;have z3:dP wr (H_ w+1) 3 (bO):=aA p.p4 aJ;have f:=λi=>aF (i:=i) p.p4
     have f0:=f 0;have f1:=f 1;have f2:=f 2;have f3:=f 3;have zl:=aD;have HFIN:=aB ((((p.but.vi (i:=0) (v:=I_ n) (b:=H_ w+1) (aD)).vi (i:=1) (v:=P_ s1 s2 s3) (b:=H_ w+1) (aD)).vi (i:=2) (v:=P_ v1 v2 v3) (b:=H_ w+1) (aD)).vi (i:=3) (v:=P_ p1 p2 p3) (b:=H_ w+1) (aD));go_wp2
     refine bodyPost_ret (v:=.agg #[I_ n,P_ s1 s2 s3,P_ v1 v2 v3,P_ p1 p2 p3]) (by simp[results,results23,go_sem,z0,z1,z2,z3]) rfl ?_
     exact⟨s_,HFIN⟩
def x9(w:aN)(d:dP w E 0 (P_ s n Z))(a:n<=1000):Calls prog 65 #[bF E] w λe w'=>e=bY (I_ ((n:Int)-1))/\w'=w:=by
 go_wp2
 go_ret;simp
def v7(w:aN)(t:Int)(f:w.cell? (aL E 0)=Ua (.slice s n Z))(j:w.cell? (aL E 1)=Ua r)(g:w.frozen? (aL E 1)=false)(d:n<=1000):
 Calls prog 25 #[bF E,I_ t] w λe w'=>(0<=t/\t<n/\e=bY (.bool true)/\w'=Tz w (aL E 1) (I_ t))\/(¬(0<=t/\t<n)/\e=bY (.bool false)/\w'=w):=by
 have a:=aB (x9 w f d);by_cases i:t<0
 .go_in
  go_wp2
  go_ret;exact .inr ⟨aD,rfl,rfl⟩
 by_cases k:t<=(n:Int)-1
 .have e:¬t>(n:Int)-1:=aD;go_in
  go_wp2_with (refine oN a ?_)
  go_ret;exact .inl ⟨aD,aD,rfl,rfl⟩
 have e:t>(n:Int)-1:=aD;go_in
 go_wp2_with (refine oN a ?_)
 go_ret;exact .inr ⟨aD,rfl,rfl⟩
