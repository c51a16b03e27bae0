import Derived.Test.YthnhjhlinlhflaaGreatDoorP11
set_option linter.all false
set_option maxRecDepth 100000
set_option maxHeartbeats 0
open List renaming length->aA
open Go.World renaming setCell->c9,alloc->h_,cell?->i9,ownsRow_nil->Wh
open Go renaming bodyPost_ret->Wi,Calls->Wn
open Option renaming some->Wj,none->Wk
open Bool renaming false->Wl,true->Wm
open Go.Value renaming slice->Wz,string->WD,int->Xd
open Go.Obj renaming cells->Xe
namespace Go.Proofs.YthnhjhlinlhflaaGreatDoor
open Hs _root_.Go.Proofs.Tryz Go.RowKit
variable{R:List aD}{Q i:Nat}{x:aD}{S s t:aL}{T:aU}{F:bI}
def LA(d:Nat)(F:bI)(w:aL)(av:aU)(l:List aD):Prop:=LV d F w av l\/(l=[]/\∃x c,av=Wz x 0 c)
def LA.j_{d:Nat}{w w':aL}{v:aU}(h:LA d F w v R)(a:∀b,F b->w'.heap[b]?=w.heap[b]?):LA d F w' v R:=by grind[LV.j_,LA]
def LA.mono{d:Nat}{G:bI}{w:aL}{v:aU}{l:List aD}(h:LA d F w v l)(c:∀b,F b->G b)(a:d<=Q):LA Q G w v l:=by grind[LV.mono,LA]
def LA.slice{d:Nat}{w:aL}{v:aU}{l:List aD}(h:LA d F w v l):∃x c,v=Wz x (aA l) c:=by grind[LV.slice,LA]
def LA.cons{d:Nat}(h:LA d F S T (x::R)):∃e g o c f,d=e+1/\T=Wz (Wj (aJ g o)) (aA R+1) c/\aA R+1<=c/\F g/\i9 S (aJ g o)=Wj (Y x.c_)/\i9 S (aJ g (o+1))=Wj (Y x.n)/\i9 S (aJ g (o+2))=Wj (WD (bs x.s))/\i9 S (aJ g (o+3))=Wj f/\LV e F S f x.l/\LA d F S (Wz (Wj (aJ g (o+4))) (aA R) (c-1)) R:=by
 rcases h with h|⟨h,_⟩;cases d with|zero=>exact ep h.1 s_|succ d=>rcases h with ⟨h,_⟩|⟨g,o,b,k,r,q,n,m,a,l⟩;grind;have ⟨f,k0,k1,k2,k3,k4⟩:=l 0 s_;simp at k0 k1 k2 k3 k4;refine⟨d,g,o,b,f,i_,q,n,m,by simp[World.cell?,a,k0],by simp[World.cell?,a,k1],by simp[World.cell?,a,k2],by simp[World.cell?,a,k3],k4,?_⟩;by_cases p:R=[];grind[LA];refine ea (dv ⟨g,o+4,b-1,k,p,i_,G_,m,a,λj s=>?_⟩);have ⟨kv',q0,q1,q2,q3,q4⟩:=l (j+1) G_;grind
 grind
abbrev JP(w:aL)(g o:Nat)(v0 v1 v2 v3:aU):aL:=c9 (c9 (c9 (c9 w (aJ g o) v0) (aJ g (o+1)) v1) (aJ g (o+2)) v2) (aJ g (o+3)) v3
theorem tZ(w:aL)(h:i≠Q)(o:Nat)(d c b a:aU):(JP w Q o d c b a).heap[i]?=w.heap[i]?:=by grind[eh]
def CE{a:Array Value}{f:TypeId}(h:S.heap[Q]?=Wj (Xe a f))(o:Nat)(e d c b:aU):(JP S Q o e d c b).heap[Q]?=Wj (Xe ((((a.setIfInBounds o e).setIfInBounds (o+1) d).setIfInBounds (o+2) c).setIfInBounds (o+3) b) f):=(by grind[aN])
def LV.setRow{b g a:Nat}{n:List Value}{m:aD}(h:S.ownsRow b 131 4 (Wz (Wj (aJ g 0)) (aA R) a) (aA R) n)(k:mS Q F S n R)(M:i<aA R)(D:LV Q F S T m.l)(L:∀q,F q->q≠g):LV (Q+1) (λq=>F q\/q=g) (JP S g (i*4) (Y m.c_) (Y m.n) (WD (bs m.s)) T) (Wz (Wj (aJ g 0)) (aA R) a) (R.set i m):=by
 rcases h.2 with ⟨e,_⟩|⟨J,s,c,E,K,G,P,H,y,I⟩;cases e;cases E;have A:aA (R.set i m)=aA R:=List.length_set;have t:∀{x:aU}{v:List aD},LV Q F S x v->LV Q (λq=>F q\/q=g) (JP S g (i*4) (Y m.c_) (Y m.n) (WD (bs m.s)) T) x v:=λB=>(B.j_ (by grind[tZ])).mono (G_) (Z);refine dv ⟨g,0,a,_,?_,by rw[A],Z,dv rfl,CE G _ _ _ _ _,λj u=>?_⟩;grind;have p:j<aA R:=Z;have ⟨kj,k0,k1,k2,k3,k4⟩:=k.2 j p;have N:=k.1;have C:=y;have q:∀r,r<4->c[j*4+r]?=n[j*4+r]?:=λr k=>by grind
 by_cases o:j=i
 .subst o;rw[show (R.set j m)[j]'u=m by simp];refine⟨T,?_,?_,?_,?_,t D⟩;all_goals simp[Array.getElem?_setIfInBounds,C]
  all_goals exact Z
 rw[show (R.set i m)[j]'u=R[j] by grind];have z:∀r,r<4->((((c.setIfInBounds (i*4) (Y m.c_)).setIfInBounds (i*4+1) (Y m.n)).setIfInBounds (i*4+2) (WD (bs m.s))).setIfInBounds (i*4+3) T)[0+j*4+r]?=n[j*4+r]?:=λr k=>by rw[io Z,io Z,io Z,io Z,gp];grind
 exact⟨kj,(z 0 Z).trans k0,G_,G_,G_,t k4⟩
def yO{a:aD}(h:x∈a.l):aI x<=aI a:=by have:=BH a.l h;grind[dG]
theorem EK(a:aD):aA a.l<=aI a:=by grind[jS,dG]
structure C4(w:aL)(a b:aD)(lv lv':aU)(w1:aL):Prop where
 rP:cB w w1
 b0:w1.heap[w.heap.size]?=Wj (Xe #[Y a.c_,Y a.n,WD (bs a.s),lv] 131)
 b1:w1.heap[w.heap.size+1]?=Wj (Xe #[Y b.c_,Y b.n,WD (bs b.s),lv'] 131)
 b2:w1.heap[w.heap.size+1+1]?=Wj (Xe #[Y 0,Y 0,WD ⟨#[]⟩,bR] 131)
def Ox(p:bS)(F:bI)(u v:aU)(a b:aD)(w:aL)(h:RX F w u a)(h':RX F w v b)(hF:∀b,F b->b<H_ w)(ab:aI a<=1000000)(ag:aI b<=1000000)(P:nM a)(X:nM b):Wn prog 187 #[WD (bs p),u,v] w (DD F w (dH p a b)):=by
 obtain⟨d,lv,ar,rfl,rfl,hl,M⟩:=RJ h h';obtain⟨x,c,rfl⟩:=hl.slice;obtain⟨x',c',rfl⟩:=M.slice;have f:=bA p;have ⟨r,g⟩:∃r,r=dH p a b:=(by simp);rw[<-g];unfold dH at g;have HS:Hid (Wn prog 235 #[.agg #[Y a.c_,Y a.n,WD (bs a.s),Wz x (aA a.l) c],.agg #[Y b.c_,Y b.n,WD (bs b.s),Wz x' (aA b.l) c']] (h_ (h_ (h_ w (Xe #[Y a.c_,Y a.n,WD (bs a.s),Wz x (aA a.l) c] 131)) (Xe #[Y b.c_,Y b.n,WD (bs b.s),Wz x' (aA b.l) c'] 131)) (Xe #[Y 0,Y 0,WD ⟨#[]⟩,bR] 131)) λe w'=>e=bP (.bool (cZ a b))/\C4 w a b (Wz x (aA a.l) c) (Wz x' (aA b.l) c') w'):=by
  have hb:cB w (h_ (h_ (h_ w (Xe #[Y a.c_,Y a.n,WD (bs a.s),Wz x (aA a.l) c] 131)) (Xe #[Y b.c_,Y b.n,WD (bs b.s),Wz x' (aA b.l) c'] 131)) (Xe #[Y 0,Y 0,WD ⟨#[]⟩,bR] 131)):=by go_grown
  refine(x9 d F _ _ a b _ qa qa (λq n=>ef (hF q n) hb.size) ?_ ?_ ?_ ?_).mono ?_;have:=EK a;exact Z;have:=EK b;exact Z;intro y hy;have:=yO hy;exact Z;intro y hy;have:=yO hy;exact Z;rintro e w' ⟨rfl,J⟩;refine⟨i_,hb.trans (J.mono hb.size),?_,?_,?_⟩;grind[ej,ed,bV];rw[J.block _ s_,ed _ _ _ s_,bV _ _ s_];rw[J.block _ s_,bV _ _ s_]
 have HR:=O g;have ah:=O f;have aa:=O P;have W:=O X;have HL:=O hl;have ad:=O M;have U:=O hF;clear g f P X hl M hF;go_in;go_wp;refine rB HS λw1 hT=>?_;obtain⟨g0,av,aw,an,aq,al,ap,ax,au⟩:=mE hT.b0;obtain⟨g1,ak,ao,am,ba,ai,az,ay,aj⟩:=mE hT.b1;obtain⟨A,k,j,l,i,H,D,E,G⟩:=mE hT.b2;have o:=O hT;have n2:¬(H_ w)+1+1=H_ w1:=Z;have f:=ah.out;have g:=HR.out;by_cases o0:p=[61,61]
 .rw[ec o0]at g;have e0:((bs p).toList==[61,61])=Wm:=G_;have m:=O g;clear g f o0;generalize cZ a b=sb at*;cases sb;.go_wp2_with (go_at_call 132;apply pN (jM _ _));exact Wi (v:=fS (cS 1 0 []) 0) la rfl ⟨⟨_,qt,0,by grind[dz,RV.no]⟩,mr⟩
  go_wp2_with (go_at_call 132;apply pN (jM _ _));exact Wi (v:=fS (cS 1 1 []) 0) la rfl ⟨⟨_,qt,0,by grind[dz,RV.yes]⟩,mr⟩
 rw[dy o0]at g;have e0:((bs p).toList==[61,61])=Wl:=G_;by_cases o1:p=[33,61]
 .rw[ec o1]at g;have e1:((bs p).toList==[33,61])=Wm:=G_;have m:=O g;clear g f o1;generalize cZ a b=sb at*;cases sb;.go_wp2_with (go_at_call 132;apply pN (jM _ _));exact Wi (v:=fS (cS 1 1 []) 0) la rfl ⟨⟨_,qt,0,qm⟩,mr⟩
  go_wp2_with (go_at_call 132;apply pN (jM _ _));exact Wi (v:=fS (cS 1 0 []) 0) la rfl ⟨⟨_,qt,0,qp⟩,mr⟩
 rw[dy o1]at g;have e1:((bs p).toList==[33,61])=Wl:=G_;generalize cZ a b=sb at*;by_cases B:a.c_≠b.c_\/a.c_=1
 .rw[ec B]at g;have m:=O g;by_cases Q:a.c_=b.c_
  .have f0:((a.c_:Int) !=(b.c_:Int))=Wl:=G_;have f1:((a.c_:Int)==1)=Wm:=G_;clear g f B Q;go_wp2;exact Wi (v:=fS (cS 0 0 []) 2) mg rfl ⟨⟨_,qt,0,ou⟩,Below.vj o.rP Z _ _ _ _⟩
  have f0:((a.c_:Int) !=(b.c_:Int))=Wm:=G_;clear g f B Q;go_wp2;exact Wi (v:=fS (cS 0 0 []) 2) mg rfl ⟨⟨_,qt,0,ou⟩,Below.vj o.rP Z _ _ _ _⟩
 rw[dy B]at g;have f0:((a.c_:Int) !=(b.c_:Int))=Wl:=G_;have f1:((a.c_:Int)==1)=Wl:=by simp;exact Z
 by_cases C:a.c_=0
 .rw[ec C]at g;have f2:((a.c_:Int)==0)=Wm:=by simp[C]
  have HI:=O (y9 p 0 F a.n b.n w1 aa.lo aa.hi W.lo W.hi);have m:=O g;clear g f C;rw[<-m]at HI;go_wp21;apply HI.mono;rintro e w2 ⟨⟨u2,rfl,ac⟩,t⟩;obtain⟨af,rfl,z⟩:=ac;obtain⟨y2,T,rfl⟩:=z.slice;have b2:=(t.block (H_ w+1+1) A).trans o.b2;have K:=O (z.j_ (w':=(c9 (c9 (c9 (c9 w2 (aJ (H_ w+1+1) 0) (Y r.1.c_)) (aJ (H_ w+1+1) 1) (Y r.1.n)) (aJ (H_ w+1+1) 2) (WD (bs r.1.s))) (aJ (H_ w+1+1) 3) (Wz y2 (aA r.1.l) T))) λq n=>dK _ (by have:=U q n;exact Z) _ _ _ _);have I:=O (o.rP.trans (t.mono o.rP.size));clear z t k j l i H D E G A n2;have ⟨A,k,j,l,i,H,D,E,G⟩:=mE b2;clear b2;go_wp2;exact Wi (v:=fS (.agg #[Y r.1.c_,Y r.1.n,WD (bs r.1.s),Wz y2 (aA r.1.l) T]) r.2) (by simp[results,results187,go_sem,k,j,l,i]) rfl ⟨⟨_,rfl,0,_,rfl,K.mono (λ_ h=>ea h) kB⟩,Below.vj I Z _ _ _ _⟩
 rw[dy C]at g;have f2:((a.c_:Int)==0)=Wl:=by simp;exact Z
 by_cases V:p=[43]
 .rw[ec V]at g;have e2:((bs p).toList==[43])=Wm:=by rw[f,V];rfl
  have HJ:=O (VJ F _ _ a b w1 ⟨d,_,i_,HL.j_ λq n=>o.rP.block q (U q n)⟩ ⟨d,_,i_,ad.j_ λq n=>o.rP.block q (U q n)⟩ (λq n=>ef (U q n) o.rP.size) ab ag);rw[<-g]at HJ;clear g f V;go_wp21;apply HJ.mono;rintro e w2 ⟨⟨u2,rfl,d2,af,rfl,z⟩,t⟩;obtain⟨y2,T,rfl⟩:=z.slice;have ae:Hid (∀q,tu F w1 w2 q->q≠H_ w+1+1):=λq n=>by rcases n with n|n;have:=U q n;exact Z;have:=n.1;exact Z
  have b2:=(t.block (H_ w+1+1) A).trans o.b2;have K:=O (z.j_ (w':=(c9 (c9 (c9 (c9 w2 (aJ (H_ w+1+1) 0) (Y r.1.c_)) (aJ (H_ w+1+1) 1) (Y r.1.n)) (aJ (H_ w+1+1) 2) (WD (bs r.1.s))) (aJ (H_ w+1+1) 3) (Wz y2 (aA r.1.l) T))) λq n=>dK _ (ae q n) _ _ _ _);have I:=O (o.rP.trans (t.mono o.rP.size));clear z t k j l i H D E G A n2;have ⟨A,k,j,l,i,H,D,E,G⟩:=mE b2;clear b2;go_wp2;exact Wi (v:=fS (.agg #[Y r.1.c_,Y r.1.n,WD (bs r.1.s),Wz y2 (aA r.1.l) T]) r.2) (by simp[results,results187,go_sem,k,j,l,i]) rfl ⟨⟨_,rfl,d2,_,rfl,K.mono (λq n=>by rcases n with n|n;exact ea n;exact dv ⟨em o.rP.size n.1,by simpa using n.2⟩) kB⟩,Below.vj I Z _ _ _ _⟩
 rw[dy V]at g;have e2:((bs p).toList==[43])=Wl:=by rw[f];simpa using V
 by_cases s:a.c_=2;rotate_left
 .have f3:((a.c_:Int)==2)=Wl:=by simp;exact Z
  rw[dy Z,dy Z]at g;have m:=O g;clear g f s;go_wp2;exact Wi (v:=fS (cS 0 0 []) 2) mg rfl ⟨⟨_,qt,0,ou⟩,Below.vj o.rP Z _ _ _ _⟩
 have f3:((a.c_:Int)==2)=Wm:=by simp[s]
 by_cases S:p=[60]
 .have e3:((bs p).toList==[60])=Wm:=by rw[f,S];rfl
  rw[ec ⟨s,S⟩]at g;have m:=O g;clear g f s S;have L:Hid (Op.bytesLess (bs a.s).toList (bs b.s).toList=jA a.s b.s):=by show _=_;rw[bA,bA,sL]
  generalize jA a.s b.s=sl at*;go_wp21;rw[L];cases sl;.go_wp2_with (go_at_call 132;apply pN (jM _ _));exact Wi (v:=fS (cS 1 0 []) 0) la rfl ⟨⟨_,qt,0,qp⟩,(Below.vj o.rP Z _ _ _ _).alloc nt _⟩
  go_wp2_with (go_at_call 132;apply pN (jM _ _));exact Wi (v:=fS (cS 1 1 []) 0) la rfl ⟨⟨_,qt,0,qm⟩,(Below.vj o.rP Z _ _ _ _).alloc nt _⟩
 have e3:((bs p).toList==[60])=Wl:=by rw[f];simpa using S
 rw[dy λh=>S h.2]at g;by_cases N:p=[60,61]
 .have e4:((bs p).toList==[60,61])=Wm:=by rw[f,N];rfl
  rw[ec ⟨s,N⟩]at g;have m:=O g;clear g f s N;have L:Hid ((Op.bytesLess (bs a.s).toList (bs b.s).toList||(bs a.s).toList==(bs b.s).toList)=!jA b.s a.s):=by show _=_;rw[bA,bA,sL,EL]
  generalize jA b.s a.s=sl at*;go_wp21;rw[L];cases sl;.go_wp2_with (go_at_call 132;apply pN (jM _ _));exact Wi (v:=fS (cS 1 1 []) 0) la rfl ⟨⟨_,qt,0,qm⟩,(Below.vj o.rP Z _ _ _ _).alloc nt _⟩
  go_wp2_with (go_at_call 132;apply pN (jM _ _));exact Wi (v:=fS (cS 1 0 []) 0) la rfl ⟨⟨_,qt,0,qp⟩,(Below.vj o.rP Z _ _ _ _).alloc nt _⟩
 have e4:((bs p).toList==[60,61])=Wl:=by rw[f];simpa using N
 rw[dy λh=>N h.2]at g;have m:=O g;clear g f s N;go_wp2;exact Wi (v:=fS (cS 0 0 []) 2) mg rfl ⟨⟨_,qt,0,ou⟩,Below.vj o.rP Z _ _ _ _⟩
def Tc:(prog.info? 9).map (λi=>(i.zero,i.size,i.bytes))=Wj (Wj (WD ⟨#[]⟩),1,16):=k_
def Mg(w:aL)(u0:aU):∀j u,([u0]:List Value)[j]?=Wj u->i9 (h_ w (Xe #[u0] 9)) ((⟨w.heap.size,0,Wk⟩:Addr).add j)=Wj u:=by intro j u a;match j,a with|0,a=>simp at a;subst a;simp[Addr.add]|j+1,a=>simp at a
def BJ(l:cU):List Value:=l.map λx=>Value.string (bs x)
def G6(l:cU)(x:bS):BJ (l++[x])=BJ l++[WD (bs x)]:=by simp[BJ]
def X2(s:bS)(k n:Nat):(bs s).extract k (k+n)=bs ((s.drop k).take n):=by grind[UA,kH,ByteArray.data_extract,bs]
def IU(s:bS)(w:aL)(X:aA s<=1000000):Wn prog 167 #[WD (bs s)] w λe p=>∃v,e=bP v/\p.ownsRow (H_ w) 9 1 v (aA (eD s)) (BJ (eD s))/\cB w p:=by
 have ⟨i0,hi,hii⟩:=ki.1 Tc;have l:i0.zero=Wj (WD ⟨#[]⟩):=(by grind);have m:i0.size=1:=(by grind);have o:i0.bytes=16:=(by grind);have Q:=O hi;have A:=O l;have B:=O m;have y:=O o;clear hi hii l m o;have L:=iU s;go_in;go_wp2;go_loopg [3,4,5] (aA s) (λgk P N _ wr=>∃(k:Nat) (a:cU),k+gk=aA s/\aA a<=k/\N=Y k/\Hid (a++eD (s.drop k)=eD s)/\Hid (wr.ownsRow (H_ w) 9 1 P (aA a) (BJ a))/\cB w wr);case atStart=>exact⟨0,[],Z,s_,rfl,rfl,Wh _ _ _ _,dw _ _⟩
 case round=>
  obtain⟨k,a,U,K,rfl,E,b,F⟩:=hrel;have i:=O F;clear F;by_cases H:k<aA s
  .have n:=O (LK (bs s) k wr Z Z);have f:=yM (s.drop k);rw[kH]at n;rw[List.length_drop]at f;have j:s.drop k≠[]:=λe=>by have:=ey List.length e;grind
   by_cases r:bW (s.drop k)=0
   .have D:Hid (eD s=a):=by grind[gI]
    rw[r]at n;clear r j f;go_wp2_with fail;refine rB n λI z=>?_;obtain rfl:=z.symm;go_wp2;go_ret;exact⟨_,i_,by rw[D];exact b.out,i⟩
   have ⟨c,hcc⟩:∃c,c=bW (s.drop k):=(by simp);rw[<-hcc]at n r f;have t:Hid ((a++[(s.drop k).take c])++eD (s.drop (k+c))=eD s):=by grind[kO,List.drop_drop]
   have C:=X2 s k c;have T:((c:Int)==0)=Wl:=G_;have ⟨x,hx⟩:∃x,x=(s.drop k).take c:=(by simp);rw[<-hx]at t C;have S:1<=c:=Z;clear hcc j r hx E;go_wp;refine rB n λI z=>?_;obtain rfl:=z.symm;go_wp2_with (at_builtin;refine wpList_append_own _ r_ _ _ 51 r_ (H_ w) 9 i0 _ 1 16 underlying51 Q A B y rfl d_ _ (aA a) (BJ a) r_ (b.out.alloc _) (aJ (H_ wr) 0) 1 1 [WD (bs x)] r_ r_ (Mg _ _) (by intro u G;simp at G;subst G;rfl) ky Z (by have:=i.size;simp;exact Z) ?_);intro J p d g _;have M:=i.trans ⟨g.os.trans i_,g.tape.trans i_,g.output.trans i_,em s_ g.size,λq V=>(g.block q (by have:=i.size;simp;exact Z) λe=>by have:=cA b.out q e.symm;exact Z).trans (ed _ _ _ (by have:=i.size;exact Z))⟩;have W:Hid (p.ownsRow (H_ w) 9 1 J (aA (a++[x])) (BJ (a++[x]))):=by show World.ownsRow _ _ _ _ _ _ _;rw[G6,et];exact Z
   clear d g;go_wp2;go_roundg (gk-c);case measure=>exact Z
   grind[dz]
  have D:Hid (eD s=a):=by grind[gI,eD]
  go_wp2;go_ret;exact⟨_,i_,by rw[D];exact b.out,i⟩
def VI(F:bI)(v:aU)(a:aD)(w:aL)(h:RX F w v a)(u:aI a<=1000000):Wn prog 106 #[v] w (DD F w (dO a)):=by
 obtain⟨d,L,rfl,t⟩:=h;obtain⟨x,c,rfl⟩:=t.slice;have m:=dG a;have n:=jS a.l;have H:aA a.l<=1000000:=Z;have o:aA a.s<=1000000:=Z;have ⟨r,hr⟩:∃r,r=dO a:=(by simp);rw[<-hr];unfold dO at hr;clear t m n;by_cases i:a.c_=3
 .rw[ec i]at hr;have l:=O hr;have G:((a.c_:Int)==3)=Wm:=by simp[i]
  clear hr i;go_in;go_wp2_with (go_at_call 108;apply pN (iL _ _));exact Wi (v:=fS (cS 0 (aA a.l) []) 0) (by simp[results,results106,go_sem]) rfl ⟨⟨_,by rw[l],0,nj⟩,by go_grown⟩
 rw[dy i]at hr;have G:((a.c_:Int)==3)=Wl:=G_;by_cases k:a.c_=2
 .rw[ec k]at hr;have l:=O hr;have B:((a.c_:Int)==2)=Wm:=by simp[k]
  have I:=qK a.s;have C:=O (IU a.s (h_ (h_ w (Xe #[Y a.c_,Y a.n,WD (bs a.s),Wz x (aA a.l) c] 131)) (Xe #[Y 0,Y 0,WD ⟨#[]⟩,bR] 131)) o);clear hr i k;generalize eD a.s=s at*;go_in;go_wp;apply C.mono;rintro e J ⟨A,rfl,b,f⟩;obtain⟨y,q,rfl⟩:∃y q,A=Wz y (aA s) q:=by rcases b.2 with ⟨rfl,K⟩|⟨g,z,D,rfl,_⟩;grind;simp
  have p:=(f.block (H_ w+1) s_).trans (bV _ _ s_);have ⟨g1,a10,a11,a12,a13,z10,z11,z12,z13⟩:=mE p;have j:Hid (cB w (h_ (h_ w (Xe #[Y a.c_,Y a.n,WD (bs a.s),Wz x (aA a.l) c] 131)) (Xe #[Y 0,Y 0,WD ⟨#[]⟩,bR] 131))):=by show Below _ _ _;go_grown
  have E:=O (j.trans (f.mono j.size));clear f b p;go_wp2_with (go_at_call 108;apply pN (iL _ _));exact Wi (v:=fS (cS 0 (aA s) []) 0) (by simp[results,results106,go_sem,a10,a11,a12,a13,g1]) rfl ⟨⟨_,by rw[l],0,nj⟩,(by grind[eo,Below.vj,dz,Below.size])⟩
 rw[dy k]at hr;have l:=O hr;have B:((a.c_:Int)==2)=Wl:=G_;clear hr i k;go_in;go_wp2;exact Wi (v:=fS (cS 0 0 []) 2) (by simp[results,results106,go_sem];rfl) rfl ⟨⟨_,by rw[l],0,oi⟩,by go_grown⟩
def Up(w:aL)(u0 u1 u2 u3:aU):∀j u,([u0,u1,u2,u3]:List Value)[j]?=Wj u->i9 (h_ w (Xe #[u0,u1,u2,u3] 131)) ((⟨H_ w,0,Wk⟩:Addr).add j)=Wj u:=by intro j u a;match j,a with|0,a=>simp at a;subst a;simp[Addr.add]|1,a=>simp at a;subst a;simp[Addr.add]|2,a=>simp at a;subst a;simp[Addr.add]|3,a=>simp at a;subst a;simp[Addr.add]|j+4,a=>simp at a
def X8{j:Array Oper}{e:List Oper}{o:Oper}{a:Act}{Q:Exit->Act->World->Prop}{w:aL}(n:o.guard=Wk)(s x:Operand) (M:o.op=.call {callee:=.builtin .append,args:=#[s,x],argTypes:=#[129,129]}) (c:Nat) (v:aU) (l:List aD) (m:aD) (t:List Value) (d:Nat) (F:bI) (P:a.eval s=v) (g:w.ownsRow c 131 4 v (aA l) t) (N:mS d F w t l) (B C:Int) (E:ByteArray) (u:aU) (J:B=m.c_) (L:C=m.n) (I:E=bs m.s) (A:Nat) (z:A=H_ w) (S:a.eval x=Wz (Wj (aJ A 0)) 1 1) (U:LV d F w u m.l) (V:∀b,F b->b<H_ w/\v.ownBlock≠Wj b) (D:aA l<=1000000000) (r:c<=H_ w) (h:∀k f H,f.ownsRow c 131 4 k (aA (l++[m])) H->mS d F f H (l++[m])->w.grownBy f v.ownBlock->wpList prog j Q e (a.put o.dst k) f):wpList prog j Q (o::e) a (h_ w (Xe #[Y B,Y C,WD E,u] 131)):=by subst J L I z;have ⟨i0,hi,hii⟩:=ki.1 i7;have hz0:=(gh hii).1;have hz1:=(gh (gh hii).2).1;have hz2:=(gh (gh hii).2).2;have G:=mS.one (d:=d) (F:=F) (w:=w) (a:=m) U;refine wpList_append_own _ n s x 129 M c 131 i0 _ 4 56 underlying129 hi hz0 hz1 hz2 i_ d_ v (aA l) t P (g.alloc _) (aJ (H_ w) 0) 1 1 [Y m.c_,Y m.n,WD (bs m.s),u] S rfl (Up _ _ _ _ _) G.A1 ky Z ku ?_;intro k f y i _;have p:w.grownBy f v.ownBlock:=⟨i.os.trans i_,i.tape.trans i_,i.output.trans i_,em s_ i.size,λq K T=>(i.block q ku T).trans (ed _ _ _ K)⟩;exact h k f _ G_ ((N.append G).j_ nk) p
def VK(F:bI)(u v:aU)(a b:aD)(w:aL)(h:RX F w u a)(P:RX F w v b)(q:∀b,F b->b<H_ w)(L:aI a<=1000000)(K:a.c_≠2):Wn prog 185 #[u,v] w (DD F w (bY a b)):=by
 obtain⟨d,lv,M,rfl,rfl,z,m⟩:=RJ h P;obtain⟨x,c,rfl⟩:=z.slice;obtain⟨J,D,rfl⟩:=m.slice;have s:=dG a;have t:=jS a.l;have f:Hid (cB w (h_ (h_ (h_ w (Xe #[Y a.c_,Y a.n,WD (bs a.s),Wz x (aA a.l) c] 131)) (Xe #[Y b.c_,Y b.n,WD (bs b.s),Wz J (aA b.l) D] 131)) (Xe #[Y 0,Y 0,WD ⟨#[]⟩,bR] 131))):=by show Below _ _ _;go_grown
 have ⟨r,hr⟩:∃r,r=bY a b:=(by simp);rw[<-hr];unfold bY kU at hr;rw[dy K]at hr;have X:((a.c_:Int)==2)=Wl:=G_;by_cases G:a.c_<2;.rw[ec (ea G)]at hr;have i:=O hr;have N:decide ((a.c_:Int)<2)=Wm:=(by grind);go_in;go_wp2;exact Wi (v:=fS (cS 0 0 []) 2) mf rfl ⟨⟨_,by rw[i],0,rh⟩,f⟩
 have N:decide ((a.c_:Int)<2)=Wl:=(by grind);by_cases H:b.c_=0;rotate_left;.rw[ec (dv H)]at hr;have i:=O hr;have Q:((b.c_:Int) !=0)=Wm:=G_;go_in;go_wp2;exact Wi (v:=fS (cS 0 0 []) 2) mf rfl ⟨⟨_,by rw[i],0,rh⟩,f⟩
 have Q:((b.c_:Int) !=0)=Wl:=G_;rw[dy Z]at hr;clear H G K s t;by_cases n:b.n<0\/(aA a.l:Int)<=b.n
 .rw[ec n]at hr;have i:=O hr;by_cases A:b.n<0;.have f2:=im A;go_in;go_wp2;exact Wi (v:=fS (cS 0 0 []) 4) mf rfl ⟨⟨_,by rw[i],0,rh⟩,f⟩
  have f2:=gi A;have U:decide (b.n≥(aA a.l:Int))=Wm:=(by grind);clear hr z m q n A;go_in;go_wp2;exact Wi (v:=fS (cS 0 0 []) 4) mf rfl ⟨⟨_,by rw[i],0,oi⟩,f⟩
 rw[dy n]at hr;have ⟨k,hk⟩:∃k:Nat,b.n=k:=(by grind);have j:k<aA a.l:=Z;rw[hk,Int.toNat_natCast,List.getD,ew j,jf]at hr;obtain⟨e,g,o,kv,rfl,-,rfl,I,C,W,c1,c2,c3,l⟩:=z.elem k j;have T:=q g C;have S:g<H_ w+1+1:=Z;obtain⟨y,E,rfl⟩:=l.slice;have B:=O l;have i:=O hr;have V:=O q;rw[hk];have f2:=gi Z;have U:=Z;go_in;go_wp;have p:cB w (h_ (h_ (h_ w (Xe #[Y a.c_,Y a.n,WD (bs a.s),Wz (Wj (aJ g o)) (aA a.l) c] 131)) (Xe #[Y b.c_,Y k,WD (bs b.s),Wz J (aA b.l) D] 131)) (Xe #[Y a.l[k].c_,Y a.l[k].n,WD (bs a.l[k].s),Wz y a.l[k].l.length E] 131)):=by go_grown
 refine Wi (v:=fS (.agg #[Y a.l[k].c_,Y a.l[k].n,WD (bs a.l[k].s),Wz y a.l[k].l.length E]) 0) (by simp[results,results185,go_sem]) rfl ⟨⟨_,by rw[i],e,?_⟩,p⟩;rw[i];exact⟨_,i_,(B.j_ lm).mono (λ_ h=>ea h) (Z)⟩
def Hg(B:Nat)(w1:aL)(cs:cU)(gk:Nat)(lv iv:aU)(wr:aL):Prop:=∃(k:Nat) (xs:List Value),k+gk=aA cs/\iv=Y k/\Hid (wr.ownsRow B 131 4 lv (aA ((cs.take k).map bT)) xs)/\Hid (mS 0 (λ_=>False) wr xs ((cs.take k).map bT))/\Hid (Below B w1 wr)
def E0(F:bI)(u v:aU)(a b:aD)(w:aL)(h:RX F w u a)(h':RX F w v b)(ai:aI a<=1000000)(hs:a.c_=2)(P:a.l=[]):Wn prog 185 #[u,v] w (DD F w (bY a b)):=by
 obtain⟨d,lv,ak,rfl,rfl,hl,S⟩:=RJ h h';rw[P]at hl;obtain rfl:=hl.isNil;obtain⟨x',c',rfl⟩:=S.slice;have af:=dG a;have ad:aA a.s<=1000000:=Z;have ⟨r,m⟩:∃r,r=bY a b:=(by simp);rw[<-m];unfold bY kU at m;rw[ec hs]at m;have e2:((a.c_:Int)==2)=Wm:=G_;have f0:decide ((a.c_:Int)<2)=Wl:=(by grind);by_cases h1:b.c_=0;rotate_left;.rw[ec (dv h1)]at m;have t:=O m;have f1:((b.c_:Int) !=0)=Wm:=G_;go_in;go_wp2;exact Wi (v:=fS (cS 0 0 []) 2) mf rfl ⟨⟨_,by rw[t],0,rh⟩,by go_grown⟩
 have f1:((b.c_:Int) !=0)=Wl:=G_;rw[dy Z]at m;have al:=qK a.s;have HC:=O (IU a.s (h_ (h_ (h_ w (Xe #[Y a.c_,Y a.n,WD (bs a.s),bR] 131)) (Xe #[Y b.c_,Y b.n,WD (bs b.s),Wz x' (aA b.l) c'] 131)) (Xe #[Y 0,Y 0,WD ⟨#[]⟩,bR] 131)) ad);have M:Hid (cB w (h_ (h_ (h_ w (Xe #[Y a.c_,Y a.n,WD (bs a.s),bR] 131)) (Xe #[Y b.c_,Y b.n,WD (bs b.s),Wz x' (aA b.l) c'] 131)) (Xe #[Y 0,Y 0,WD ⟨#[]⟩,bR] 131))):=by show Below _ _ _;go_grown
 have HR:=O m;clear m hl S h1 hs af P;generalize eD a.s=f at*;go_in;go_wp;apply HC.mono;rintro e H ⟨v1,rfl,l,D⟩;obtain⟨y,cy,rfl⟩:∃y cy,v1=Wz y (aA f) cy:=by rcases l.2 with ⟨rfl,X⟩|⟨g,z,o,rfl,_⟩;grind;simp
 have V:=(D.block (H_ w+1) s_).trans ((ed _ _ _ s_).trans (bV _ _ s_));have T:=(D.block (H_ w+1+1) s_).trans (bV _ _ s_);have Q:=O V;have K:=O T;have g2:=aH T;have N:=O (M.trans (D.mono M.size));have HOWN:=O l;go_wp2;go_loopg [6,8,9] (aA f) (λgk lv iv _ wr=>Hg (H_ H) H f gk lv iv wr);case atStart=>exact⟨0,[],Z,rfl,Wh _ _ _ _,mS.nil _ _ _,dw _ _⟩
 case round=>
  obtain⟨k,xs,hk,rfl,l,x,G⟩:=hrel;by_cases aj:k<aA f
  .obtain⟨j,rfl⟩:∃j,gk=j+1:=⟨gk-1,Z⟩;obtain⟨g,rfl,ac,ab⟩:∃g,y=Wj (aJ g 0)/\g<H_ H/\i9 H (aJ g k)=Wj (WD (bs f[k])):=by
    rcases HOWN.2 with ⟨_,X⟩|⟨g,z,o,e1,e2,e3,e4,e5,e6,e7⟩;exact Z;cases e1;refine⟨g,i_,G_,?_⟩;have h1:o.toList[k]?=Wj (WD (bs f[k])):=by
     have W:(o.toList.take (aA f*1))[k]?=(BJ f)[k]?:=by rw[e7]
     grind[BJ]
    simp[World.cell?,e3,<-Array.getElem?_toList,h1]
   have ah:i9 wr (aJ g k)=Wj (WD (bs f[k])):=by rw[G.out.cell (by exact ac)];exact ab
   have hz:=G.out.size;have I:Hid ((f.take (k+1)).map bT=(f.take k).map bT++[bT f[k]]):=by grind[List.take_succ_eq_append_getElem]
   have ae:aA ((f.take k).map bT)<=1000000000:=G_;generalize f[k]=ck at*;generalize (f.take k).map bT=l0 at*;go_wp2_with (first|(go_at_call 131;apply pN (IS _ _))|(at_builtin;(refine X8 r_ _ _ r_ (H_ H) _ l0 (bT ck) xs 0 (λ_=>False) r_ ((l.out.alloc _).alloc _) (x.out.j_ s_) _ _ _ _ r_ r_ r_ (H_ wr+1+1) s_ r_ (LV.empty _ _ _) (s_) ae ku ?_)));intro v' w' ys C A L;have ag:=G.out.trans ⟨L.os.trans i_,L.tape.trans i_,L.output.trans i_,em ku L.size,λq hq=>(L.block q ku λe=>by have:=cA l.out q e.symm;exact Z).trans ((ed _ _ _ ku).trans (ed _ _ _ Z))⟩;have HO:Hid (w'.ownsRow (H_ H) 131 4 v' (aA ((f.take (k+1)).map bT)) ys):=by rw[I,et];exact C
   have aa:Hid (mS 0 (λ_=>False) w' ys ((f.take (k+1)).map bT)):=by rw[I];exact A
   go_wp2;go_roundg j;case measure=>exact Z
   case rel=>exact⟨k+1,ys,Z,lj,HO,aa,ag⟩
  have c:=l.out;have n:=x.out;rw[ij Z]at c n;have p:aA (f.map bT)=aA f:=List.length_map _;obtain⟨yl,U,rfl⟩:∃yl U,u6=Wz yl (aA f) U:=by rw[p]at c;rcases c.2 with ⟨rfl,X⟩|⟨g,z,o,rfl,_⟩;exact⟨Wk,0,by rw[X]⟩;exact⟨_,_,i_⟩
  have V:=(G.out.block (H_ w+1) Z).trans Q;have T:=(G.out.block (H_ w+1+1) Z).trans K;have ⟨g1,a10,a11,a12,a13,z10,z11,z12,z13⟩:=mE V;have ⟨g2',a20,a21,a22,a23,z20,z21,z22,z23⟩:=mE T;have E:=O (N.trans (G.out.mono N.size));have m:=HR.out;rw[p]at m;by_cases W:b.n<0\/(aA f:Int)<=b.n
  .rw[ec W]at m;have t:=O m;by_cases J:b.n<0;.have f2:=im J;go_wp2;exact Wi (v:=fS (cS 0 0 []) 4) oj rfl ⟨⟨_,by rw[t],0,by rw[t];exact RV.nil _ _ _⟩,Below.vj E Z _ _ _ _⟩
   have f2:=gi J;have f3:decide (b.n≥(aA f:Int))=Wm:=im Z;clear m W J c n V T;go_wp2;exact Wi (v:=fS (cS 0 0 []) 4) oj rfl ⟨⟨_,by rw[t],0,by rw[t];exact RV.nil _ _ _⟩,Below.vj E Z _ _ _ _⟩
  rw[dy W]at m;have ⟨i,hi⟩:∃i:Nat,b.n=i:=⟨b.n.toNat,Z⟩;have B:i<aA f:=Z;rw[hi,Int.toNat_natCast,List.getD,iz,ew B,iu,jf]at m;have t:=O m;rw[hi]at a11;obtain⟨s,rfl,d0,d1,d2,d3⟩:∃s,yl=Wj (aJ s 0)/\i9 wr (aJ s (i*4))=Wj (Y 2)/\i9 wr (aJ s (i*4+1))=Wj (Y 0)/\i9 wr (aJ s (i*4+2))=Wj (WD (bs f[i]))/\i9 wr (aJ s (i*4+3))=Wj (bR):=by
   have ⟨kv,k0,k1,k2,k3,k4⟩:=n.2 i (by rw[p];exact B);rw[show (f.map bT)[i]'(by rw[p];exact B)=bT f[i] by simp]at k0 k1 k2 k4;rw[show kv=bR from k4.isNil]at k3;rw[p]at c;rcases c.2 with ⟨_,X⟩|⟨s,z,o,e1,e3,e4,e5,e6,e7,e8⟩;exact Z;cases e1;have q:∀j,j<4->i9 wr (aJ s (i*4+j))=xs[i*4+j]?:=λj hj=>by
    have J:o.toList[i*4+j]?=xs[i*4+j]?:=by rw[<-e8,jj,ec Z]
    simp[World.cell?,e4,<-Array.getElem?_toList,J]
   exact⟨s,i_,(q 0 Z).trans k0,(q 1 Z).trans k1,(q 2 Z).trans k2,(q 3 Z).trans k3⟩
  have f2:=gi Z;have f3:=gi Z;generalize f[i]=ci at*;go_wp2;exact Wi (v:=fS (cS 2 0 ci) 0) (by simp[results,results185,go_sem,a20,a21,a22,a23]) rfl ⟨⟨_,by rw[t],0,by rw[t];exact RV.str _ _ _ _⟩,Below.vj E Z _ _ _ _⟩
def E1(F:bI)(u v:aU)(a b:aD)(w:aL)(h:RX F w u a)(f:RX F w v b)(g:∀b,F b->b<H_ w)(c:aI a<=1000000)(d:a.c_=2->a.l=[]):Wn prog 185 #[u,v] w (DD F w (bY a b)):=by by_cases e:a.c_=2;exact E0 F u v a b w h f c e (d e);exact VK F u v a b w h f g c e
structure MG(w:aL)(F:bI)(wi v:aD)(lv lv':aU)(r:aD × Nat)(pv sv:aU)(wc:aL):Prop where
 rP:cB w wc
 b0:wc.heap[w.heap.size]?=Wj (Xe #[Y wi.c_,Y wi.n,WD (bs wi.s),lv] 131)
 b2:wc.heap[w.heap.size+1+1]?=Wj (Xe #[Y 0,Y 0,WD ⟨#[]⟩,bR] 131)
 st:sv=Y r.2
 x:∃nb lx dx,pv=aW nb/\w.heap.size+1+1+1<=nb/\wc.heap[nb]?=Wj (Xe #[Y r.1.c_,Y r.1.n,WD (bs r.1.s),lx] 131)/\LV dx (λq=>F q\/(w.heap.size+1+1+1<=q/\q≠nb/\q<wc.heap.size)) wc lx r.1.l
def MG.after{v:aD}{f:aU}{r:aD×Nat}{i:aU}(n:∀b,F b->b<S.heap.size)(g:cB S s) (l:s.heap=(h_ (h_ (h_ S (Xe #[Y x.c_,Y x.n,WD (bs x.s),T] 131)) (Xe #[Y v.c_,Y v.n,WD (bs v.s),f] 131)) (Xe #[Y 0,Y 0,WD ⟨#[]⟩,bR] 131)).heap) (c:cB s t) (h:LV Q (tu F s t) t i r.1.l):MG S F x v T f r (aW t.heap.size) (Y r.2) (h_ t (Xe #[Y r.1.c_,Y r.1.n,WD (bs r.1.s),i] 131)):=by
 have p:s.heap.size=S.heap.size+1+1+1:=by rw[l];simp
 have o:=c.size;refine⟨(g.trans (c.mono g.size)).alloc Z _,?_,?_,rfl,t.heap.size,i,Q,rfl,Z,bV _ _ rfl,?_⟩;grind[ed,ej,bV];rw[ed _ _ _ Z,c.block _ Z,l,bV _ _ s_];refine(h.j_ (by grind[ed,tu])).mono (λq j=>?_) (Z);rcases j with j|j;grind;exact dv ⟨Z,Z,ku⟩
def MG.before{v:aD}{d:aU}{r:aD×Nat}{i:aU}(o:∀b,F b->b<S.heap.size)(m:cB S s) (j:s.heap=(h_ (h_ (h_ (h_ S (Xe #[Y x.c_,Y x.n,WD (bs x.s),T] 131)) (Xe #[Y v.c_,Y v.n,WD (bs v.s),d] 131)) (Xe #[Y 0,Y 0,WD ⟨#[]⟩,bR] 131)) (Xe #[Y 0,Y 0,WD ⟨#[]⟩,bR] 131)).heap) (e:cB s t) (h:LV Q (tu F s t) t i r.1.l):MG S F x v T d r (aW (S.heap.size+1+1+1)) (Y r.2) (c9 (c9 (c9 (c9 t (aJ (S.heap.size+1+1+1) 0) (Y r.1.c_)) (aJ (S.heap.size+1+1+1) 1) (Y r.1.n)) (aJ (S.heap.size+1+1+1) 2) (WD (bs r.1.s))) (aJ (S.heap.size+1+1+1) 3) i):=by
 have p:s.heap.size=S.heap.size+1+1+1+1:=by rw[j];simp
 have n:t.heap[S.heap.size+1+1+1]?=Wj (Xe #[Y 0,Y 0,WD ⟨#[]⟩,bR] 131):=by rw[e.block _ Z,j,bV _ _ s_]
 refine⟨(by grind[Below.vj,Below.trans,Below.mono]),?_,?_,rfl,S.heap.size+1+1+1,i,Q,rfl,Z,pG n _ _ _ _,?_⟩;grind[dK,ej,ed,bV];rw[dK _ Z,e.block _ Z,j,ed _ _ _ s_,bV _ _ s_];refine(h.j_ λq g=>dK _ ?_ _ _ _ _).mono (λq g=>?_) (Z);grind[tu];rcases g with g|g;grind;exact dv ⟨Z,Z,ku⟩
def Du(is:List aD):Prop:=∀(d:Nat) (F:bI) (ov av vv:aU) (wi v:aD) (w:aL),RV d F w ov wi->LA d F w av is->RV d F w vv v->(∀b,F b->b<w.heap.size)->aI wi<=1000000->aA is<=1000000->Wn prog 260 #[ov,av,vv] w (DD F w (cI is wi v))
def Me(h:LV Q (λq=>F q\/(H_ S+1+1+1<=q/\q≠i/\q<H_ s)) s T R)(f:cB s t)(e:∀q,F q->q<H_ s):LV Q (λq=>F q\/(H_ S+1+1+1<=q/\q≠i/\q<H_ s)) t T R:=(by grind[LV.j_,ej])
def RD:Du []:=by
 intro d F s t u a v w h k o l z i;obtain⟨y,rfl,m⟩:=h;obtain⟨j,rfl,b⟩:=o;obtain⟨x,c,rfl⟩:=m.slice;obtain⟨g,e,rfl⟩:=b.slice;obtain⟨p,r,rfl⟩:=k.slice;have n:=O b;have q:=O l;go_in;go_wp;have f:cB w (h_ (h_ (h_ w (Xe #[Y a.c_,Y a.n,WD (bs a.s),Wz x (aA a.l) c] 131)) (Xe #[Y v.c_,Y v.n,WD (bs v.s),Wz g (aA v.l) e] 131)) (Xe #[Y v.c_,Y v.n,WD (bs v.s),Wz g (aA v.l) e] 131)):=by go_grown
 exact Wi (v:=fS (.agg #[Y v.c_,Y v.n,WD (bs v.s),Wz g (aA v.l) e]) 0) (by simp[results,results260,go_sem]) rfl ⟨⟨_,rfl,d,_,rfl,(n.j_ lm).mono (λ_ h=>ea h) (Z)⟩,f⟩
def ML(i:aD)(t:List aD)(IH:Du t):Du (i::t):=by
 intro d F ov av vv a v w h hA hv D hc ae;obtain⟨lv,rfl,E⟩:=h;obtain⟨bv,rfl,A⟩:=hv;obtain⟨x,c,rfl⟩:=E.slice;obtain⟨x',c',rfl⟩:=A.slice;obtain⟨e,g,o,ca,kv,rfl,rfl,bo,aw,i0,i1,i2,i3,H,B⟩:=hA.cons;have br:=D g aw;have bt:g<w.heap.size+1:=Z;have cb:g<w.heap.size+1+1:=Z;have bq:aA a.l<=1000000:=by grind[EK]
 have bp:aA t+1<=1000000:=Z;have ⟨r,f⟩:∃r,r=cI (i::t) a v:=(by simp);rw[<-f];rw[cI]at f;have af:=O IH;clear hA ae IH;by_cases h3:a.c_=3;rotate_left;.rw[ec (ea h3)]at f;have C:=O f;have f3:((a.c_:Int) !=3)=Wm:=G_;clear f E A D h3 B H;go_enter func260,ntmps260;go_wp;exact Wi (v:=fS (cS 0 0 []) 2) nh rfl ⟨⟨_,rl,0,oi⟩,by go_grown⟩
 have f3:((a.c_:Int) !=3)=Wl:=G_;by_cases h0:i.c_=0;rotate_left;.rw[ec (dv h0)]at f;have C:=O f;have f0:((i.c_:Int) !=0)=Wm:=G_;clear f E A D h3 h0 B H;go_enter func260,ntmps260;go_wp;exact Wi (v:=fS (cS 0 0 []) 2) nh rfl ⟨⟨_,rl,0,oi⟩,by go_grown⟩
 have f0:((i.c_:Int) !=0)=Wl:=G_;rw[dy Z]at f;clear h3 h0;by_cases h2:i.n<0\/(aA a.l:Int)<=i.n
 .rw[ec h2]at f;have C:=O f;by_cases hn:i.n<0;.have f2:decide (i.n<0)=Wm:=(by grind);clear f E A D h2 hn B H;go_enter func260,ntmps260;go_wp;exact Wi (v:=fS (cS 0 0 []) 4) nh rfl ⟨⟨_,rl,0,oi⟩,by go_grown⟩
  have f2:decide (i.n<0)=Wl:=(by grind);have f4:decide (i.n≥(aA a.l:Int))=Wm:=(by grind);clear f E A D h2 hn B H;go_enter func260,ntmps260;go_wp;exact Wi (v:=fS (cS 0 0 []) 4) nh rfl ⟨⟨_,rl,0,by rw[C.out];exact RV.nil _ _ _⟩,by go_grown⟩
 rw[dy h2]at f;have ⟨k,hk⟩:∃k:Nat,i.n=k:=⟨i.n.toNat,Z⟩;have U:k<aA a.l:=Z;rw[hk,Int.toNat_natCast,List.getD,ew U,jf]at f;rw[hk]at i1;obtain⟨e',gl,ol,kl,ba,-,rfl,cc,bd,l0,l1,l2,l3,K⟩:=E.elem k U;obtain rfl:e=e':=Z;have bl:=D gl bd;have bn:gl<w.heap.size+1:=Z;have bj:gl<w.heap.size+1+1:=Z;obtain⟨yl,bh,rfl⟩:=K.slice;have au:aI a.l[k]<=1000000:=by have:=yO (ga U);exact Z
 have ⟨ad,sq⟩:∃ad:Option Addr,(if ca=1 then Wj (⟨g,o,Wk⟩:Addr)else Wj ⟨g,o+4,Wk⟩)=ad:=⟨_,rfl⟩;have ah:LA (e+1) F w (Wz ad (aA t) (ca-1)) t:=by by_cases h1:ca=1;have ht:t=[]:=kk.1 Z;subst ht;exact dv ⟨rfl,_,_,rfl⟩;rw[dy h1]at sq;subst sq;exact B
 have bc:(1:Int)<=(aA t:Int)+1:=Z;have ar:(aA t:Int)+1<=(ca:Int):=Z;have HX:Hid (∀w1,Below w.heap.size w w1->Wn prog 260 #[.agg #[Xd .i64 a.l[k].c_,Xd .i64 a.l[k].n,WD (bs a.l[k].s),Wz yl a.l[k].l.length bh],Wz ad (aA t) (ca-1),.agg #[Xd .i64 v.c_,Xd .i64 v.n,WD (bs v.s),Wz x' (aA v.l) c']] w1 (DD F w1 (cI t a.l[k] v))):=λw1 S=>af.out (e+1) F _ _ _ a.l[k] v w1 ⟨_,rfl,(K.j_ λq b=>S.block q (D q b)).mono (λ_ h=>h) (Nat.le_succ e)⟩ (ah.j_ λq b=>S.block q (D q b)) ⟨_,rfl,A.j_ λq b=>S.block q (D q b)⟩ (λq b=>ef (D q b) S.size) au Z;have J:Hid (Below w.heap.size w (h_ (h_ (h_ w (Xe #[Xd .i64 a.c_,Xd .i64 a.n,WD (bs a.s),Wz (Wj ⟨gl,ol,Wk⟩) (aA a.l) c] 131)) (Xe #[Xd .i64 v.c_,Xd .i64 v.n,WD (bs v.s),Wz x' (aA v.l) c'] 131)) (Xe #[Xd .i64 0,Xd .i64 0,WD ⟨#[]⟩,Wz Wk 0 0] 131))):=by show Below _ _ _;go_grown
 have HL:=O E;have X:=O D;have HR:=O f;have f2:=gi Z;have f4:=gi Z;clear f E A D h2 hk B ah H ba K af;generalize a.l[k]=ok at*;generalize cI t ok v=N at*;go_enter func260,ntmps260;go_wp;go_cut [9,10] (λpv sv wc=>MG w F a v (Wz (Wj ⟨gl,ol,Wk⟩) (aA a.l) c) (Wz x' (aA v.l) c') N pv sv wc);case first=>go_region_law (go_simp;go_at_call 260;refine(HX.out _ (by first|exact J.out.drew|exact(J.out.alloc ku _).drew)).mono ?_;rintro e M ⟨⟨u2,rfl,d2,lx,rfl,z⟩,p⟩;obtain⟨y2,c2,rfl⟩:=z.slice;have ⟨hc2,hf2⟩:=wk p;have bw:=p.size;have T:=O z;have I:=O p;clear z p);all_goals go_wp;go_meet;case rel=>first|exact MG.after X.out J.out.drew rfl I.out T.out|exact MG.before X.out (J.out.alloc ku _).drew rfl I.out T.out
 case rest=>
  obtain⟨nb,lx,dx,rfl,bu,aa,z⟩:=hcut.x;have ax:=hcut.st;subst ax;obtain⟨yx,cx,rfl⟩:=z.slice;have ⟨g0,a00,a01,a02,a03,z00,z01,z02,z03⟩:=mE hcut.b0;have ⟨g2,a20,a21,a22,a23,z20,z21,z22,z23⟩:=mE hcut.b2;have ⟨gx,ax0,ax1,ax2,ax3,zx0,zx1,zx2,zx3⟩:=mE aa;have P:=O hcut;have bf:=O aa;have T:=O z;have f:=HR.out;clear hcut aa z HX HR J i0 i1 i2 i3 l0 l1 l2 l3 sq bc ar;by_cases hz:N.2=0;rotate_left
  .rw[ec hz]at f;have C:=O f;have f5:((N.2:Int) !=0)=Wm:=by simp;exact Z
   clear f hz;go_wp;exact Wi (v:=fS (cS 0 0 []) N.2) (by simp[results,results260,go_sem,a20,a21,a22,a23];rfl) rfl ⟨⟨_,rl,0,by rw[C.out];exact RV.nil _ _ _⟩,Below.vj P.out.rP Z _ _ _ _⟩
  rw[dy Z]at f;have C:=O f;have f5:((N.2:Int) !=0)=Wl:=by simp;exact Z
  have aj:=O (HL.out.j_ λq b=>P.out.rP.block q (X.out q b));have an:Hid (∀q,F q->q<wc.heap.size/\(Value.slice Wk 0 0).ownBlock≠Wj q):=λq b=>⟨ef (X.out q b) P.out.rP.size,ng⟩;clear f hz HL;go_wp2_with (at_builtin;refine xR r_ _ _ r_ wc.heap.size (Wz Wk 0 0) [] a.l [] (e+1) F r_ (Wh _ _ _ _) (mS.nil _ _ _) _ r_ aj.out an.out ku (fk _) (λ_=>rfl) ?_);intro v1 M ys L V hg aq;have p:Below wc.heap.size wc M:=⟨hg.os,hg.tape,hg.output,hg.size,λq b=>hg.block q b ng⟩;obtain⟨n,s,u,rfl,ai,l,bi,ay,bb⟩:∃n s u,v1=Wz (Wj ⟨n,0,Wk⟩) (aA a.l) s/\wc.heap.size<=n/\M.heap[n]?=Wj (Xe u 131 (0,0))/\aA a.l<=s/\u.size=s*4/\u.toList.take (aA a.l*4)=ys:=by rcases L.2 with ⟨_,h0⟩|⟨n,s,u,e1,e2,e3,e4,e5,e6,e7⟩;exact Z;exact⟨n,s,u,e1,e2,e3,e4,e6,e7⟩
  have bm:=aH l;have b:∀j,j<4->∃y,i9 M ⟨n,k*4+j,Wk⟩=Wj y:=λj hj=>⟨u[k*4+j]'Z,by simp[World.cell?,l]⟩;have ⟨y0,q0⟩:=b 0 Z;have ⟨y1,q1⟩:=b 1 Z;have ⟨y2,q2⟩:=b 2 Z;have ⟨y3,q3⟩:=b 3 Z;rw[hQ]at q0;have p0:M.frozen? ⟨n,k*4,Wk⟩=Wl:=aE l;have p1:M.frozen? ⟨n,k*4+1,Wk⟩=Wl:=aE l;have p2:M.frozen? ⟨n,k*4+2,Wk⟩=Wl:=aE l;have p3:M.frozen? ⟨n,k*4+3,Wk⟩=Wl:=aE l;have bx:=(p.block nb gx).trans bf.out;have b2:=(p.block (w.heap.size+1+1) g2).trans P.out.b2;have I:=O (P.out.rP.trans (p.mono P.out.rP.size));have bg:=O (Me T.out p λq b=>ef (X.out q b) P.out.rP.size);have be:=O L;have ap:=O V;have ag:=O b2;clear p L V hg aq b l ay bb a00 a01 a02 a03 z00 z01 z02 z03 a20 a21 a22 a23 z20 z21 z22 z23 ax0 ax1 ax2 ax3 zx0 zx1 zx2 zx3 aj an;have ⟨g2',a20,a21,a22,a23,z20,z21,z22,z23⟩:=mE b2;have ⟨gx',ax0,ax1,ax2,ax3,zx0,zx1,zx2,zx3⟩:=mE bx;have n1:¬nb=n:=Z;have n2:¬n=nb:=Z;have n3:¬n=w.heap.size+1+1:=Z;have n4:¬w.heap.size+1+1=n:=Z;clear b2 bx;go_wp;have ao:=O (LV.setRow be.out (ap.out.mono (G:=λq=>F q\/(w.heap.size+1+1+1<=q/\q≠nb/\q<wc.heap.size)) (λ_ h=>ea h) (Nat.le_add_right (e+1) dx)) U (m:=N.1) (bg.out.mono (λ_ h=>h) (Nat.le_add_left dx (e+1))) (λq b=>by rcases b with b|b;have:=X.out q b;have:=P.out.rP.size;exact Z;exact Z));have ak:=O P.out.rP.size;have ⟨W,hW⟩:∃W,W=JP M n (k*4) (Xd .i64 N.1.c_) (Xd .i64 N.1.n) (WD (bs N.1.s)) (Wz yx (aA N.1.l) cx):=⟨_,rfl⟩;have al:Below w.heap.size w W:=by rw[hW];have Q:=em P.out.rP.size ai;exact(((I.out.setCell Q _).setCell Q _).setCell Q _).setCell Q _
  have zb:(h_ W (Xe #[Xd .i64 3,Xd .i64 0,WD (bs []),Wz (Wj ⟨n,0,Wk⟩) (aA a.l) s] 131)).heap[w.heap.size+1+1]?=Wj (Xe #[Xd .i64 0,Xd .i64 0,WD ⟨#[]⟩,Wz Wk 0 0] 131 (0,0)):=by rw[ed _ _ _ (by rw[hW];simp[World.setCell];exact Z),hW,tZ _ n4];exact ag.out
  rw[<-hW]at ao;have az:Hid (W.heap.size=M.heap.size):=by show _=_;rw[hW];simp[World.setCell]
  have am:=O al;show Wn _ _ _ (JP M n (k*4) _ _ _ _) _;rw[<-hW];clear al hW a20 a21 a22 a23 z20 z21 z22 z23 ax0 ax1 ax2 ax3 zx0 zx1 zx2 zx3 q0 q1 q2 q3 p0 p1 p2 p3 g2';apply (DW (Wj ⟨n,0,Wk⟩) (aA a.l) s _).mono;rintro e' w3 ⟨rfl,ab⟩;rw[<-ab]at zb;have ⟨g2',a20,a21,a22,a23,z20,z21,z22,z23⟩:=mE zb;have ac:=O ab;clear zb ab;go_wp21;refine Wi (v:=fS (.agg #[Xd .i64 3,Xd .i64 0,WD (bs []),Wz (Wj ⟨n,0,Wk⟩) (aA a.l) s]) 0) (by simp[results,results260,go_sem,a20,a21,a22,a23]) rfl ⟨⟨_,rl,e+1+dx+1,?_⟩,?_⟩;rw[C.out];have hz:=az.out;have E:∀q,(F q\/(w.heap.size+1+1+1<=q/\q≠nb/\q<wc.heap.size))\/q=n->q≠w.heap.size+1+1/\q<W.heap.size:=λq b=>by have:=I.out.size;rcases b with (b|b)|rfl;have:=X.out q b;exact Z;have:=ak.out;exact Z;exact Z
  refine⟨_,rfl,LV.mono (λq b=>?_) (ao.out.j_ λq b=>(dK _ (E q b).1 _ _ _ _).trans (by rw[ac.out];exact ed _ _ _ (E q b).2)) (fk _)⟩;have:=(E q b).2;have hs:(c9 (c9 (c9 (c9 w3 ⟨w.heap.size+1+1,0,Wk⟩ (Xd .i64 3)) ⟨w.heap.size+1+1,1,Wk⟩ (Xd .i64 0)) ⟨w.heap.size+1+1,2,Wk⟩ (WD (bs []))) ⟨w.heap.size+1+1,3,Wk⟩ (Wz (Wj ⟨n,0,Wk⟩) (aA a.l) s)).heap.size=W.heap.size+1:=by rw[ac.out];simp[World.setCell]
  rcases b with (b|b)|rfl;exact ea b;exact dv ⟨Z,Z⟩;exact dv ⟨by have:=ak.out;exact Z,Z⟩;refine Below.vj ?_ Z _ _ _ _;rw[ac.out];exact am.out.alloc am.out.size _
def BD:∀a,Du a|[]=>RD|i::t=>ML i t (BD t)
