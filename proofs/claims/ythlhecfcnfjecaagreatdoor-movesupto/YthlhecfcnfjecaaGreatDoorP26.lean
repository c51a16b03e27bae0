import Derived.Test.YthlhecfcnfjecaaGreatDoorP25
set_option linter.all false
set_option maxRecDepth 100000
set_option maxHeartbeats 0
open List renaming length->aA
open Go.World renaming cell?_of_block->Wv
open Option renaming some->Wy
open Go renaming Value->Xa
open Go.Value renaming pointer->Xo,tuple->Xp,bool->Xr
namespace Go.Proofs.YthlhecfcnfjecaaGreatDoor
open Hs _root_.Go.Proofs.Tryz Go.RowKit
def pT(l:List (Xa×Xa)):List Xa:=l.flatMap λp=>[p.1,p.2]
def FU(l:List (Xa×Xa))(p:Xa×Xa):pT (l++[p])=pT l++[p.1,p.2]:=by simp[pT]
def VP(l:List (bQ×Nat)):List (Xa×Xa):=l.map λp=>(Value.string (bs p.1),Value.int .i64 p.2)
def Ho:(prog.info? 135).map (λi=>(i.zero,i.size,i.bytes))=Wy (Wy (.agg #[Q_ ⟨#[]⟩,Y 0]),2,24):=k_
def Km(w:aN)(a b:aX):∀j u,([a,b]:List Xa)[j]?=Wy u->(eF w #[a,b] 135).cell? ((⟨H_ w,0,none⟩:Addr).add j)=Wy u:=by grind[World.news_of_block,aV]
def Le(x:ByteArray)(n:Int):∀u∈([Q_ x,Y n]:List Xa),u.oneCell'=true:=by intro u a;simp at a;rcases a with rfl|rfl<;>rfl
def F7(w:aN)(s:SV)(o:Nat)(l:List (bQ×Nat))(hx:s.x1=Wy (aL o 0))(hn:s.n1=aA l)(hl:aA l<=16) (L:Hid (∀W,R_ w W->∀j (h:j<aA l),o<W.heap.size/\∃r H A C D F J B I,W.cell? (aL o (j*6))=Wy (aY r)/\W.cell? (aL o (j*6+1))=Wy (Y H)/\W.cell? (aL o (j*6+2))=Wy (Y (l[j].2:Nat))/\W.cell? (aL o (j*6+3))=Wy (Xo A)/\W.cell? (aL o (j*6+4))=Wy (P_ C D F)/\W.cell? (aL o (j*6+5))=Wy (P_ J B I)/\W.cell? (aL r 0)=Wy (Q_ (bs l[j].1))/\r<w.heap.size)):Calls prog 113 #[s.val] w λe w'=>∃x c,e=bR (P_ x (aA l) c)/\w'.ownsRow w.heap.size 135 2 (P_ x (aA l) c) (aA l) (pT (VP l))/\R_ w w':=by
 have ⟨i0,hi,hz0,hz1,hz2⟩:=info_parts Ho;have ⟨t,x1,x2,x3,n1,n2,n3,c1,c2,c3,q⟩:=s;subst hx hn;unfold SV.val;go_in;go_wp2;go_loopg [3,9] (aA l) (λgk v i wr=>∃j:Nat,j+gk=aA l/\i=Y j/\(∃y d,v=P_ y j d)/\wr.ownsRow w.heap.size 135 2 v j (pT (VP (l.take j)))/\R_ w wr);case atStart=>grind[World.ownsRow_nil,eo,dv,pT,VP]
 case round=>
  obtain⟨j,hj,rfl,⟨y,d,rfl⟩,b,a⟩:=hrel;by_cases K:j<aA l
  .obtain⟨m,rfl⟩:∃m,gk=m+1:=⟨gk-1,Z⟩;have ⟨k0,r,H,A,C,D,F,J,B,I,k1,k2,k3,k4,k5,k6,k7,k8⟩:=L wr a j K;have P:=a.size;have G:=O b;have E:=O a;clear b a;have e1:(0:Int)<=(j:Int):=Z;have e2:(j:Int)<(aA l:Int):=Z;go_wp;generalize f:wr.alloc (bO #[aY r,Y H,Y (l[j].2:Nat),Xo A,P_ C D F,P_ J B I] 113)=n;have p:n.heap[wr.heap.size]?=Wy (bO #[aY r,Y H,Y (l[j].2:Nat),Xo A,P_ C D F,P_ J B I] 113):=by rw[<-f];exact aV _ _ aJ _
   have X:wr.heap.size<n.heap.size:=G_;have a0:=aB (i:=0) p aJ;have a2:=aB (i:=2) p aJ;have a7:n.cell? (aL r 0)=Wy (Q_ (bs l[j].1)):=by grind[Wv,ed]
   have z:Hid (n.drew.ownsRow w.heap.size 135 2 (P_ y j d) j (pT (VP (l.take j)))):=O (by rw[<-f];exact G.alloc _);have S:Hid (R_ w n):=O (by rw[<-f];exact E.alloc P _);have u:VP (l.take (j+1))=VP (l.take j)++[(Q_ (bs l[j].1),Y (l[j].2:Nat))]:=by grind[List.take_succ_eq_append_getElem,VP]
   have M:=O u;clear p k1 k2 k3 k4 k5 k6 k7 k0 f G E u L;generalize l[j].1=nm at*;generalize l[j].2=ln at*;go_region_law (refine step_append_lies _ r_ _ _ 72 r_ w.heap.size 135 i0 _ 2 24 underlying72 hi hz0 hz1 hz2 rfl d_ (P_ y j d) j _ r_ (z.alloc _) (aL n.heap.size 0) 1 1 [Q_ (bs nm),Y (ln:Nat)] r_ r_ (Km n.drew _ _) (Le _ _) d_ lg Z la (n.heap.size+1) s_ ?_;intro g5 T w5 Q g V aa);all_goals
    go_wp2;go_roundg m;case measure=>exact Z
    case rel=>refine⟨j+1,Z,ll,s_,by rw[M,FU];exact Z,?_⟩;exact(S.drew.alloc la _).grown g la λk hk=>(z.lt k hk).1
  have N:j=aA l:=Z;subst N;rw[ii (Z)]at b;have G:=O b;have E:=O a;clear b a L;go_wp2;go_ret;exact⟨_,_,aJ,G,E⟩
def Oz(w:aN)(s:SV)(a n:Nat)(b:Option Addr)(d:s.x1=Wy (aL a 0))(f:s.n1=n+1)(c:n<=1000)(p:dR w a (n*6+3) (Xo b))(g:a<H_ w):Calls prog 170 #[s.val] w λe w'=>e=bR (Xo b)/\R_ w w':=by
 have ⟨t,x1,x2,x3,n1,n2,n3,c1,c2,c3,q⟩:=s;simp only at d f;subst d f;unfold SV.val;have o:(((n+1:Nat):Int)==0)=false:=G_;have l:=O λ(W:aN) i=>AS (H_ w) a n c1 W i c;go_in;go_wp;refine(l _ ?_).mono ?_;simp;rintro e m ⟨rfl,j,rfl⟩;have k:dR ((eF w #[Y t,P_ (Wy (aL a 0)) (n+1) c1,P_ x2 n2 c2,P_ x3 n3 c3,Y q] 55).drewN j) a (n*6+3) (Xo b):=by show (w.alloc _).cell? _=_;grind[Wv,ed]
 go_wp2;go_ret;refine⟨aJ,((dv (H_ w) w).alloc (Z) _).trans ⟨rfl,rfl,rfl,s_,λ_ _=>rfl⟩⟩
def UP(val:bQ->bQ)(l:cY):List (Xa×Xa):=l.map λx=>(Value.string (bs x),Value.string (bs (val x)))
def Nu:(prog.info? 137).map (λi=>(i.zero,i.size,i.bytes))=Wy (Wy (.agg #[Q_ ⟨#[]⟩,Q_ ⟨#[]⟩]),2,32):=k_
def Lu(w:aN)(a b:aX):∀j u,([a,b]:List Xa)[j]?=Wy u->(eF w #[a,b] 137).cell? ((⟨H_ w,0,none⟩:Addr).add j)=Wy u:=by grind[World.news_of_block,aV]
def Sc(x y:ByteArray):∀u∈([Q_ x,Q_ y]:List Xa),u.oneCell'=true:=by intro u a;simp at a;rcases a with rfl|rfl<;>rfl
def z6(w D:aN)(F:bL)(s:SV)(N n:Nat)(p0:Option Addr)(f:cY)(u:bQ->bQ)(S:Option Addr->Nat->World->Prop) (hx:s.x1=Wy (aL N 0)) (hn:s.n1=n+1) (av:n<=1000) (B:w.alloc (bO s.cells 55)=D) (hF:∀b,F b->b<w.heap.size) (hs:gX F w (Xo p0) f) (hl:aA f<=90001) (HS:Hid (Calls prog 170 #[s.val] D λe w'=>e=bR (Xo p0)/\R_ D w')) (HV:Hid (∀W a x l,R_ D W->f=a++x::l->∃g4 n4 c4 t z,W.cell? (aL N (n*6+4))=Wy (P_ (Wy (aL g4 0)) n4 c4)/\N<W.heap.size/\aA l<n4/\W.cell? (aL g4 (aA l))=Wy (dI t z)/\g4<W.heap.size/\Calls prog 171 #[dI t z] W λe w'=>e=bR (Q_ (bs (u x)))/\R_ W w')) (HO:Hid (∀W y d,W.ownsRow D.heap.size 137 2 (P_ y (aA f) d) (aA f) (pT (UP u f))->R_ D W->Calls prog 172 #[P_ y (aA f) d,.func (.func 173) #[] #[]] W λe w'=>e=fA/\S y d w')):Calls prog 114 #[s.val] w λe w'=>∃y d,e=bR (P_ y (aA f) d)/\S y d w':=by
 have ⟨i0,hi,hz0,hz1,hz2⟩:=info_parts Nu;obtain⟨t,x1,x2,x3,n1,n2,n3,c1,c2,c3,q⟩:=s;simp only at hx hn;subst hx hn;unfold SV.cells at B;unfold SV.val at HS;unfold SV.val;have A:D.heap[w.heap.size]?=Wy (bO #[Y t,P_ (Wy (aL N 0)) (n+1) c1,P_ x2 n2 c2,P_ x3 n3 c3,Y q] 55):=by grind[aV]
 have az:D.heap.size=w.heap.size+1:=by rw[<-B];simp
 have X:R_ w D:=by grind[eo,dv]
 have HW:=O B;have aj:=O hs;have HF:=O hF;have al:=O X;have ao:=O A;have c0:=aB (i:=0) A aJ;have aq:=aB (i:=1) A aJ;have ak:=aB (i:=2) A aJ;have ax:=aB (i:=3) A aJ;have Q:=aB (i:=4) A aJ;clear B hs hF X A;go_in;go_wp;rw[HW];go_wp;apply HS.mono;rintro e w1 ⟨rfl,ae⟩;have an:=O ae;clear ae HS c0 aq ak ax Q;go_wp2;go_loopg [3,4] (aA f) (λgk v p wr=>∃a r,f=a++r/\aA r=gk/\gX F w p r/\(∃y d,v=P_ y (aA a) d)/\wr.ownsRow D.heap.size 137 2 v (aA a) (pT (UP u a))/\R_ D wr);case atStart=>exact⟨[],f,aJ,aJ,aj,⟨none,0,aJ⟩,World.ownsRow_nil _ _ _ _,an⟩
 case round=>
  obtain⟨a,r,P,aa,K,⟨y,d,rfl⟩,E,j⟩:=hrel;cases r with|nil=>rw[List.append_nil]at P;subst P;have au:=K;subst au;have HX:=O (HO wr y d E j);clear E j HO HV K;go_wp;apply HX.mono;rintro e w2 ⟨rfl,h2⟩;have H2:=O h2;clear h2;go_wp2;go_ret;exact⟨_,_,aJ,H2⟩|cons x l=>
   obtain⟨b,o,rfl,ai,ad,M⟩:=K;obtain⟨po,rfl⟩:=M.form;obtain⟨m,rfl⟩:∃m,gk=m+1:=⟨gk-1,by simp at aa;exact Z⟩;have ⟨g4,n4,c4,ty,z,v1,v2,v3,v4,v5,hwr⟩:=HV wr a x l j P;have ac:=HF b ai;have C:wr.heap[b]?=Wy (bO #[Q_ (bs x),Y (aA l),Xo po] 293):=by rw[j.block b Z,al.block b ac];exact ad
   have k0:=aB (i:=0) C aJ;have k1:=aB (i:=1) C aJ;have k2:=aB (i:=2) C aJ;have ap:=aH C;have T:=(j.block _ Z).trans ao;have kb:=aB (i:=1) T aJ;have ag:=j.size;have bb:aA a<=90001:=by have:=fe List.length P;simp at this;exact Z
   have am:=O E;have HB:=O j;clear E j ad C T;have e1:(0:Int)<=(aA l:Int):=Z;have e2:(aA l:Int)<(n4:Int):=Z;have HT:Hid (pV wr w.heap.size N (n*6)):=O λW B=>(AS w.heap.size N n c1 W (eN B.heap kb) av).mono λe w' ⟨he,q,hq⟩=>⟨he,by rw[hq];exact B.trans (bZ.drewN _ _)⟩;have HR:Hid (∀W,bZ wr W->Calls prog 171 #[dI ty z] W λe w'=>e=bR (Q_ (bs (u x)))/\R_ wr w'):=O λW B=>by have ar:R_ D W:=HB.trans ⟨B.os,B.tape,B.output,by rw[B.heap];exact fh _,λk _=>by rw[B.heap]⟩;obtain⟨bc,bd,Q,be,z',r1,r2,r3,r4,r5,r6⟩:=HV W a x l ar P;rw[eN B.heap v1]at r1;cases r1;rw[eN B.heap v4]at r4;cases r4;refine r6.mono λe w' ⟨he,hb⟩=>⟨he,?_⟩;exact Below.trans (b:=W) ⟨B.os,B.tape,B.output,by rw[B.heap];exact fh _,λk _=>by rw[B.heap]⟩ (by rw[<-B.heap];exact hb)
   have K0:=O k0;have K1:=O k1;have K2:=O k2;have V1:=O v1;have V4:=O v4;clear hwr HV HO kb v2 v5;have af:Hid (∀(W:aN) (g c:Nat),W.ownsRow D.heap.size 137 2 (P_ (Wy (aL g 0)) (aA a+1) c) (aA a+1) (pT (UP u a)++[Q_ (bs x),Q_ (bs (u x))])->W.ownsRow D.heap.size 137 2 (P_ (Wy (aL g 0)) (aA a+1) c) (aA (a++[x])) (pT (UP u (a++[x])))):=O λW g c h=>by
    have e:UP u (a++[x])=UP u a++[(Q_ (bs x),Q_ (bs (u x)))]:=by simp[UP]
    rw[e,FU,et];exact h
   generalize u x=tx at*;go_wp2;go_region_law (first|(refine step_append_lies _ r_ _ _ 73 r_ D.heap.size 137 i0 _ 2 32 underlying73 hi hz0 hz1 hz2 rfl d_ (.slice y (aA a) d) (aA a) _ r_ (V.alloc _) (aL w2.heap.size 0) 1 1 [.string (bs x),.string (bs tx)] r_ r_ (Lu w2 _ _) (Sc _ _) d_ lg Z la (w2.heap.size+1) s_ ?_;intro g5 ab w5 J G ba bf)|(go_simp;first|(go_at_call 153;apply (HT _ (bZ.drew _)).mono;rintro e w1 ⟨rfl,I⟩;have d0:=eN I.heap K0;have d1:=eN I.heap K1;have d2:=eN I.heap V1;have d3:=eN I.heap V4)|(go_at_call 171;apply (HR _ I).mono;rintro e w2 ⟨rfl,H⟩;have d4:=(Wv (H.block b ap)).trans K0;have ay:=H.size;have V:=O (jZ am H))));all_goals
    have L:=((HB.trans (H.mono ag)).alloc Z _).grown G la λk hk=>(V.lt k hk).1;have k5:=(Wv ((L.block b Z).trans (HB.block b Z).symm)).trans K2;have H5:=O L;have ah:=O J;have aw:=O M;clear L J G M H;go_wp2;go_roundg m;case measure=>exact Z
    case rel=>exact⟨a++[x],l,by rw[P];simp,by simp at aa;exact Z,aw,⟨Wy (aL g5 0),ab,s_⟩,af _ _ _ ah,H5⟩
open Go.RowKit Go.Sort
def oO(l:cY):cY:=l.mergeSort λx y=>!decide (Lib.compareBytes y x<0)
def T6(l:cY):aA (oO l)=aA l:=by simp[oO]
def BV(val:bQ->bQ)(x:bQ):List Xa:=[.string (bs x),.string (bs (val x))]
def CU.cells{F:bL}{w:aN}{x:Option Addr}{n c:Nat}{a:List j_}(h:CU F w (.slice x n c) a)(i:Nat)(l:i<aA a):∃g,x=Wy (aL g 0)/\n=aA a/\F g/\∀j u,j<6->a[i].cells[j]?=Wy u->w.cell? (aL g (i*6+j))=Wy u:=by rcases h with ⟨rfl,_⟩|⟨g,o,f,d,b,k,p,q⟩;simp at l;cases d;refine⟨g,aJ,aJ,b,λj u m r=>?_⟩;apply aB k;have e:a=a.take i++a[i]::a.drop (i+1):=s_;have s:=YF (a.take i) (a.drop (i+1)) a[i] j m;grind
def vg.sl{F:bL}{w:aN}{v:aX}{l:List aE}(h:vg F w v l):∃x n c,v=P_ x n c:=by rcases h with ⟨_,e⟩|⟨g,b,a,e,_⟩<;>exact⟨_,_,_,e⟩
section
variable {fp:iJ} {F:bL} {w:aN} {s1:SV} {s:bW}
def pA.parts(h:pA fp F w s1.val s):∃a,CU F w (P_ s1.x1 s1.n1 s1.c1) a/\yJ fp F w a s.m.f_/\CN F w (P_ s1.x3 s1.n3 s1.c3) s.m.out:=by grind[SV.val,pA]
def pA.none(h:pA fp F w s1.val s)(a:s.m.f_=[]):s1.n1=0:=by grind[pA,SV.val,CU,yJ]
def pA.frame(h:pA fp F w s1.val s)(i:Nat)(a:i<aA s.m.f_):∃g v,s1.x1=Wy ⟨g,0,Option.none⟩/\s1.n1=aA s.m.f_/\F g/\Ca fp F w v s.m.f_[i]/\∀j u,j<6->v.cells[j]?=Wy u->w.cell? ⟨g,i*6+j,Option.none⟩=Wy u:=by have ⟨v_,h1,h2,_⟩:=h.parts;have b:=h2.length;have ⟨g,e1,e2,e3,e4⟩:=h1.cells i Z;exact⟨g,_,e1,Z,e3,h2.get i _ _ (ey Z) (ey a),e4⟩
noncomputable def IM(f:aI)(x:bQ):bQ:=cM (f.g_[dP f.e_ x]?.getD aZ)
theorem VL{a l:cY}{x:bQ}(h:(a++x::l).Nodup):dP (a++x::l) x=aA l:=by induction a with|nil=>simp[dP]|cons y a b=>grind[dP]
end
def XK(w:aN)(C g n G f j:Nat)(D:Bool)(u:Int)(a:SV)(H:C<H_ w)(q:g<H_ w)(hn:n<=1000) (x:dR w C 5 (P_ (Wy (aL g 0)) n G)) (z:dR w g (j*6+1) (Y a.t)) (t:dR w g (j*6+2) (P_ a.x1 a.n1 a.c1)) (A:dR w g (j*6+3) (P_ a.x2 a.n2 a.c2)) (B:dR w g (j*6+4) (P_ a.x3 a.n3 a.c3)) (p:dR w g (j*6+5) (Y a.q)) (hj:(D=true/\f=j)\/(D=false/\f=j+1)) (aa:j<n) (Q:Hid (Calls prog 95 #[Xo (Wy (aL C 5)),Y u] (eF w #[Y 0,bP,bP,bP,Y 0] 55) λe w'=>e=bR (Xp #[Y f,Xr D])/\Below (H_ w+1) (eF w #[Y 0,bP,bP,bP,Y 0] 55) w')):Calls prog 116 #[Xo (Wy (aL C 5)),Y u] w λe w'=>e=bR (Xp #[a.val,Xr true])/\R_ w w':=by
 have HC:=O (du x (du z (du t (du A (du B p)))));clear x z t A B p;go_in;go_wp;refine sa Q λo F=>?_;have m:R_ w o:=((dv (H_ w) w).alloc (Z) _).trans (F.mono Z);have c:o.heap[H_ w]?=Wy (bO #[Y 0,bP,bP,bP,Y 0] 55):=(F.block _ Z).trans (aV _ _ rfl _);obtain⟨x,z,t,A,B,p⟩:=HC.out;have k:∀(b i:Nat) (v:aX),b<H_ w->dR w b i v->dR o b i v:=λb i v E hv=>(Wv (m.block b E)).trans hv;have d5:=k _ _ _ H x;have d1:=k _ _ _ q z;have N:=k _ _ _ q t;have P:=k _ _ _ q A;have d4:=k _ _ _ q B;have d6:=k _ _ _ q p;have z0:=aB (i:=0) c aJ;have z1:=aB (i:=1) c aJ;have T:=aB (i:=2) c aJ;have z3:=aB (i:=3) c aJ;have V:=aB (i:=4) c aJ;have S:=aF (i:=0) c;have X:=aF (i:=1) c;have f2:=aF (i:=2) c;have f3:=aF (i:=3) c;have f4:=aF (i:=4) c;have lz:=aH c;have y:=O (mN (W:=o) (s:=a) c s_ rfl);have r:=O (AI a m lZ);unfold iC at y r;have q1:(0:Int)<=(j:Int):=Z;have q2:(j:Int)<(n:Int):=Z;clear F m c k HC x z t A B p Q;rcases hj with ⟨rfl,rfl⟩|⟨rfl,rfl⟩;.go_wp21;have d:=y.out;have l:=r.out;clear y r z0 z1 T z3 V S X f2 f3 f4 d1 N P d4 d5 d6;generalize ((((o.setCell (aL (H_ w) 0) (Y a.t)).setCell (aL (H_ w) 1) (P_ a.x1 a.n1 a.c1)).setCell (aL (H_ w) 2) (P_ a.x2 a.n2 a.c2)).setCell (aL (H_ w) 3) (P_ a.x3 a.n3 a.c3)).setCell (aL (H_ w) 4) (Y a.q)=W3 at d l⊢;obtain⟨M,I,J,K,L⟩:=d;exact bodyPost_ret (v:=Xp #[a.val,Xr true]) pw rfl G_
 have q3:(((j+1:Nat):Int)==0)=false:=G_;go_wp2_with fail;have d:=y.out;have l:=r.out;clear y r z0 z1 T z3 V S X f2 f3 f4 d1 N P d4 d5 d6;generalize ((((o.setCell (aL (H_ w) 0) (Y a.t)).setCell (aL (H_ w) 1) (P_ a.x1 a.n1 a.c1)).setCell (aL (H_ w) 2) (P_ a.x2 a.n2 a.c2)).setCell (aL (H_ w) 3) (P_ a.x3 a.n3 a.c3)).setCell (aL (H_ w) 4) (Y a.q)=W3 at d l⊢;obtain⟨M,I,J,K,L⟩:=d;exact bodyPost_ret (v:=Xp #[a.val,Xr true]) pw rfl G_
section
variable {fp:iJ} {F:bL} {w w':aN} {sb mb n:Nat} {mo:Obj} {st:Nat->Option bW} {s:bW}
end
section
variable {fp:iJ} {F G:bL} {w w':aN} {sb mb n n':Nat} {mo:Obj} {ks:List aC} {tape:List Int} {s:bW} {L:List Nat}
def td.fresh(h:td fp F w sb mb mo ks tape s n L)(a:td fp F w' sb mb mo ks tape s n L)(f:w'.heap[sb]?=w.heap[sb]?){b:Nat}(k:H_ w<=b)(c:b<H_ w'):td fp F w' sb mb mo ks tape s n (b::L):=by refine⟨a.vb,a.tz,a.pow,a.low,a.hn,λx d=>?_⟩;rcases ew.1 d with rfl|d;have j:=h.vb.lt;have i:=h.low;refine⟨Z,c,λg=>by have:=(h.vb.fix _ g).1;exact Z,λe=>?_,Z,by have:=aH h.vb.map.1;exact Z⟩;rw[RD f]at e;have:=(h.row e).2.1;exact Z;exact a.loc x d
def td.yj(h:td fp F w sb mb mo ks tape s n L)(c:td fp F w' sb mb mo ks tape s n L)(e:w'.heap[sb]?=w.heap[sb]?):∀(M:List Nat),(∀b∈M,w.heap.size<=b/\b<w'.heap.size)->td fp F w' sb mb mo ks tape s n (M++L)|[],_=>c|b::M,f=>by have a:=td.yj h c e M G_;have g:=h.fresh c e (f b (js ..)).1 (f b (js ..)).2;exact⟨a.vb,a.tz,a.pow,a.low,a.hn,λx d=>by rcases ew.1 d with rfl|d;exact g.loc x (s_);exact a.loc x d⟩
end
section
variable {fp:iJ} {F:bL} {w w':aN} {sb mb n:Nat} {mo:Obj} {st:Nat->Option bW} {s:bW}
def xT(n:Nat)(key:Int):Nat:=if key<=0 then 0 else min n ((key.toNat-1)/20+1)
def YH(n:Nat)(key:Int):Bool:=decide (0<=key/\key.toNat%20=0/\key.toNat/20<n)
theorem Se{n:Nat}{a:Int}{b:Nat}{c:Bool}(h:Et n a b c):b=xT n a/\c=YH n a:=by
 have f:=h.le;have e:b=xT n a:=by rcases Nat.lt_trichotomy b (if a<=0 then 0 else min n ((a.toNat-1)/20+1))with q|q|q;split at q;exact Z;have:=h.hi b Z (Z);exact Z;exact q;have:=h.lo _ q;grind
 have d:=h.Dm;grind[YH,xT]
def KG(h:kR fp F w sb mb mo st s n)(a:Int)(u:n<=1000)(H:0<n):Calls prog 116 #[Xo (Wy (aL sb 5)),Y a] w λe w'=>∃(v:SV) (ok:Bool),e=bR (Xp #[v.val,Xr ok])/\R_ w w'/\(ok=false->a<0)/\(ok=true->∃(j:Nat) (k:bW),j<n/\((20*j:Nat):Int)<=a/\st (20*j)=Wy k/\pA fp F w' v.val k):=by
 have p:R_ w (eF w #[Y 0,bP,bP,bP,Y 0] 55):=(by grind[eo,dv]);have y:=h.grow p (s_) λ_ h=>ea h;have c:Calls prog 95 #[Xo (Wy (aL sb 5)),Y a] (eF w #[Y 0,bP,bP,bP,Y 0] 55) λe w'=>e=bR (Xp #[Y (xT n a:Nat),Xr (YH n a)])/\Below (H_ w+1) (eF w #[Y 0,bP,bP,bP,Y 0] 55) w':=by apply (DI y a u).mono;grind[Se,World.size_alloc]
 by_cases J:a<0;have E:xT n a=0:=ec Z;have z:YH n a=false:=by unfold YH;grind
 rw[E,z]at c;apply (SE w sb a c).mono;grind;have ⟨j,hj,hjn,hjk⟩:∃j,((YH n a=true/\xT n a=j)\/(YH n a=false/\xT n a=j+1))/\j<n/\((20*j:Nat):Int)<=a:=by by_cases o:0<=a/\a.toNat%20=0/\a.toNat/20<n;refine⟨a.toNat/20,ea ⟨io o,?_⟩,o.2.2,Z⟩;grind[xT];refine⟨min n ((a.toNat-1)/20+1)-1,dz ⟨gh o,?_⟩,Z,?_⟩;grind[xT];exact Z
 have ⟨fv,tv,ov,ev,es,h1,h2,h3,h4,h5,h6,h7⟩:=h.i_;have l:=h.lt;have f:j<aA es:=Z;have ⟨k0,k,hτ,hst⟩:=h5 j f;have ⟨v,ev',ev1,ev2⟩:=hst.sv;have B:=aB (i:=5) h1 aJ;rcases h3.2 with ⟨r,D⟩|⟨g,m,A,r,D,G,I,K⟩;exact Z;subst r;have d:=l6 (es:=es) (by rw[h4];exact h3) λi C=>(h5 i C).ok;have ⟨_,a0,a1,a2,a3,a4,a5⟩:=d j f;simp only[SV.val]at ev';simp at ev';have ⟨b1,b2,b3,b4,b5⟩:=ev';rw[b1]at a1;rw[b2]at a2;rw[b3]at a3;rw[b4]at a4;rw[b5]at a5;refine sa (XK w sb g n m (xT n a) j (YH n a) a v l (G_) u B a1 a2 a3 a4 a5 hj hjn c) λw' t=>?_;refine⟨v,true,aJ,t,s_,λ_=>⟨j,k,hjn,hjk,hτ,?_⟩⟩;have x:v.val=.agg #[Y es[j].a,es[j].b,es[j].c,es[j].d,Y es[j].e]:=by rw[b1,b2,b3,b4,b5];rfl
 rw[x];exact hst.h_ (λb q=>t.block b (h.fix b q).1) s_
end
section
variable {fp:iJ} {F G:bL} {w w':aN} {sb mb n n':Nat} {mo:Obj} {ks:List aC} {tape:List Int} {s:bW} {L:List Nat}
structure Cz(fp:iJ)(sb mb:Nat)(mo:Obj)(ks:List aC)(tape:List Int)(s:bW)(L:List Nat)(w:aN)(F0:bL)(n0:Nat)(m_:Int)(gk b:Nat)(v:SV)(ok:Bool)(W:aN):Prop where
 i_:W.heap[b]?=Wy (.cells v.cells 55)
 hb:w.heap.size<b
 z:W.heap[w.heap.size]?=Wy (.cells VH 55)
 fs:FS sb w W
 now:∃F n,uj F0 F w.heap.size/\n0<=n/\td fp F W sb mb mo ks tape s n (b::w.heap.size::L)/\(ok=true->∃τ,dV ks tape τ.m_=Wy τ/\pA fp F W v.val τ/\τ.m_/20<n/\(τ.m_:Int)<=m_/\501<=gk+τ.m_)
 no:ok=false->m_<0\/dV ks tape m_.toNat=none
def Ge(fp:iJ)(F:bL)(w:aN)(sb mb:Nat)(mo:Obj)(ks:List aC)(tape:List Int)(s:bW)(n:Nat)(L:List Nat)(m_:Int)(v:SV)(ok:Bool)(W:aN):Prop:=∃G n',n<=n'/\uj F G w.heap.size/\FS sb w W/\td fp G W sb mb mo ks tape s n' L/\(ok=true->∃τ,(τ.m_:Int)=m_/\dV ks tape τ.m_=Wy τ/\pA fp G W v.val τ/\τ.m_/20<n')/\(ok=false->m_<0\/dV ks tape m_.toNat=none)
def Th(J:Good ks)(M:aA tape<=17592186044416)(h:td fp F w sb mb mo ks tape s n L)(a:Int):Calls prog 65 #[aY sb,Y a] w λe w'=>∃v ok,e=bR (Xp #[SV.val v,Xr ok])/\Ge fp F w sb mb mo ks tape s n L a v ok w':=by
 have f:=h.vb.lt;have ab:=h.count J;have T:0<n:=by have:=h.hn;exact Z
 have A:=h.alloc (bO VH 55);have Q:R_ w (w.alloc (bO VH 55)):=(by grind[eo,dv]);refine Sj w sb 501 a (Cz fp sb mb mo ks tape s L w F n a) (Ge fp F w sb mb mo ks tape s n L a) ((KG A.vb a Z T).mono ?_) (λgk b v ok W d=>?_) (λgk b v W d hv=>?_) (λgk b v W d hv=>?_) (λgk b v W d=>?_);rintro e V ⟨v,ok,rfl,i,D,h2⟩;change Below _ _ _ at i;rw[World.size_alloc]at i;have c:tq [] (w.alloc (bO VH 55)) V:=⟨i.os,i.tape,i.output,by have:=i.size;exact Z,λk hk _=>i.block k (by simpa using hk)⟩;have hl1:=A.but c SM;have ac:w.heap.size+1<=V.heap.size:=by have:=i.size;simpa using this
 have l:=Q.trans (i.mono Z);have hz:=(i.block _ Z).trans (aV _ _ rfl _);refine⟨v,ok,aJ,aV _ _ aJ _,Z,ri,FS.p_ (l.alloc l.size _) f,⟨F,n,uj.refl _ _,Z,hl1.alloc _,λr=>?_⟩,G_⟩;obtain⟨j,q,j1,j2,j3,j4⟩:=h2 r;have ht:=(J.zy j3).2.1;exact⟨q,G_,j4.but hl1 (tq.alloc _ _ []) (s_),Z,Z,Z⟩;obtain⟨z,u,_,_,p,_⟩:=d.now;have:=d.hb;grind[Cz.i_,Cz.z];obtain⟨z,u,E,o,p,D⟩:=d.now;obtain⟨q,S,X,t3,t4,t5⟩:=D rfl;have K:v.t=q.m_:=by grind[pA,SV.val]
 have aa:=(J.zy S).1.m_;have ae:=aH d.i_;have l:=d.hb;have ad:=Z;have P:td fp z (W.alloc (bO v.cells 55)) sb mb mo ks tape s u (b::w.heap.size::L):=p.but (tq.alloc _ _ []) s_;refine⟨gk-1,Z,(OG J P M v q (X.but p (tq.alloc _ _ []) s_) S t3).mono ?_⟩;rintro e I ⟨v',ok,rfl,G,m,k1,k2,k3,k4,k5,k6⟩;have C:I.heap[b]?=Wy (bO v.cells 55):=by grind[td.i_,ed,Cz.i_]
 have N:I.heap[w.heap.size]?=Wy (bO VH 55):=by grind[td.i_,ed,Cz.z]
 have B:tq [b] I (iC I b v'):=tq.yy _ _ _;have g:∀x∈[b],x∈(b::w.heap.size::L):=(by simp);have H:FS sb w (W.alloc (bO v.cells 55)):=d.fs.but (tq.alloc _ _ []) (s_) f;refine⟨v',ok,aJ,⟨_,C,by simp[SV.cells]⟩,wG C rfl,l,by rw[gH _ _ _ _ Z];exact N,(H.trans k3).but B (G_) f,⟨G,m,E.trans k2 H.size,Z,k4.but B g,λr=>?_⟩,λr=>?_⟩;grind[pA.but];right;cases hq:dV ks tape a.toNat with|none=>rfl|some y=>have ⟨x,hx1,hx2⟩:=D_ hq (t:=q.m_) Z;grind
 have ⟨z,u,E,o,p,D⟩:=d.now;have ⟨q,S,X,t3,t4,t5⟩:=D rfl;have K:v.t=q.m_:=by grind[pA,SV.val]
 have c:tq [w.heap.size] W (iC (W.alloc (bO v.cells 55)) w.heap.size v):=by simpa using (tq.alloc W _ []).trans (tq.yy _ _ _)
 have g:∀x∈[w.heap.size],x∈(b::w.heap.size::L):=(by simp);exact⟨z,u,o,E,d.fs.but c (s_) f,(p.but c g).drop G_,(by grind[pA.but]),s_⟩;have ⟨z,u,E,o,p,D⟩:=d.now;have c:tq [w.heap.size] W (iC W w.heap.size v):=tq.yy _ _ _;have g:∀x∈[w.heap.size],x∈(b::w.heap.size::L):=(by simp);exact⟨z,u,o,E,d.fs.but c (s_) f,(p.but c g).drop G_,s_,λ_=>d.no rfl⟩
def X7(st:Nat->Option bW)(m_:Int)(s τ:bW)(fd:Bool):Prop:=(fd=true/\(τ.m_:Int)=m_/\st τ.m_=Wy τ)\/(fd=false/\τ=s/\(m_<0\/st m_.toNat=none))
def Q3(k:Good ks)(f:aA tape<=17592186044416)(h:td fp F w sb mb mo ks tape s n L)(a:Int):Calls prog 25 #[aY sb,Y a] w λe w'=>∃b,e=bR (Xr b)/\qO fp sb mb mo ks tape L (X7 (dV ks tape) a s) w b w':=by have d:=h.vb.lt;refine Ra w sb a _ ((Th k f h a).mono ?_);rintro e w' ⟨v,ok,rfl,G,j,q,p,m,i,l,r⟩;have c:td fp G (eF w' v.cells 55) sb mb mo ks tape s j L:=i.but (tq.alloc _ _ []) s_;have o:FS sb w (eF w' v.cells 55):=m.but (tq.alloc _ _ []) (s_) d;refine⟨v,ok,aJ,λg=>?_,(by grind[qO,X7])⟩;have ⟨τ,t1,t2,t3,t4⟩:=l g;have ⟨fv,tv,ov,ev,es,b1,_⟩:=c.vb.i_;have ⟨g1,g2⟩:=c.go (t3.but i (tq.alloc _ _ []) s_) t2 t4;grind[FS.trans,qO,X7]
end
