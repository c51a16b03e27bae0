import Derived.Test.YtjhbbdpfkccohaaGreatDoorP18
set_option linter.all false
set_option maxRecDepth 100000
set_option maxHeartbeats 4000000
open List renaming length->Ty
open Go.World renaming cell?->T_
open Option renaming some->Ua
open Go renaming Value->Uf
open Go.Value renaming pointer->Ut
namespace Go.Proofs.YtjhbbdpfkccohaaGreatDoor
open Hs
open _root_.Go.Proofs.Tryz
open Go.RowKit
variable{b t:Nat}{d:aN}
def pU(l:List (Uf × Uf)):List Uf:=l.flatMap λp=>[p.1,p.2]
def FJ(l:List (Uf × Uf))(p:Uf × Uf):pU (l++[p])=pU l++[p.1,p.2]:=by simp[pU]
def PZ(l:List (bP × Nat)):List (Uf × Uf):=l.map λp=>(Value.string (bs p.1),Value.int .i64 p.2)
def Hj:(prog.info? 133).map (λi=>(i.zero,i.size,i.bytes))=Ua (Ua (.agg #[Q_ ⟨#[]⟩,I_ 0]),2,24):=k_
def Oi(w:aN)(a b:aW):∀j u,([a,b]:List Uf)[j]?=Ua u->T_ (eH w #[a,b] 133) ((⟨H_ w,0,none⟩:Addr).add j)=Ua u:=by grind [World.news_of_block,aZ]
def La(x:ByteArray)(n:Int):∀u∈([Q_ x,I_ n]:List Uf),u.oneCell'=true:=by intro u a;simp at a;rcases a with rfl|rfl<;>rfl
def B8(w:aN)(s:SV)(n:Nat)(l:List (bP × Nat))(hx:s.x1=Ua (aL n 0))(hn:s.n1=Ty l)(hl:Ty l<=16)
 (P:Hid (∀W,R_ w W->∀j (h:j<Ty l),n<W.heap.size/\∃r A B D H G F C J,T_ W (aL n (j*6))=Ua (bF r)/\T_ W (aL n (j*6+1))=Ua (I_ A)/\T_ W (aL n (j*6+2))=Ua (I_ (l[j].2:Nat))/\T_ W (aL n (j*6+3))=Ua (Ut B)/\T_ W (aL n (j*6+4))=Ua (P_ D H G)/\T_ W (aL n (j*6+5))=Ua (P_ F C J)/\T_ W (aL r 0)=Ua (Q_ (bs l[j].1))/\r<w.heap.size)):
 Calls prog 112 #[s.val] w λe Z=>∃x c,e=bY (P_ x (Ty l) c)/\Z.ownsRow w.heap.size 133 2 (P_ x (Ty l) c) (Ty l) (pU (PZ l))/\R_ w Z:=by
 obtain⟨i0,hi,O,U,Q⟩:=info_parts Hj;obtain⟨t,x1,x2,x3,n1,n2,n3,c1,c2,c3,q⟩:=s;subst hx hn;unfold SV.val;go_in
 go_wp2
 go_loopg [3,9] (Ty l) (λgk v i wr=>∃j:Nat,j+gk=Ty l/\i=I_ j/\(∃y d,v=P_ y j d)/\wr.ownsRow w.heap.size 133 2 v j (pU (PZ (l.take j)))/\R_ w wr)
 case atStart=>grind [World.ownsRow_nil,ep,dz,pU,PZ]
 case round=>
  obtain⟨j,hj,rfl,⟨y,d,rfl⟩,b,a⟩:=hrel;by_cases N:j<Ty l
  .obtain⟨m,rfl⟩:∃m,gk=m+1:=⟨gk-1,aD⟩;obtain⟨k0,r,A,B,D,H,G,F,C,J,k1,k2,k3,k4,k5,k6,k7,k8⟩:=P wr a j N;have M:=a.size;have E:=aB b;have I:=aB a;clear b a;have e1:(0:Int)<=(j:Int):=aD;have e2:(j:Int)<(Ty l:Int):=aD;go_wp2_with fail;generalize f:wr.alloc (cD #[bF r,I_ A,I_ (l[j].2:Nat),Ut B,P_ D H G,P_ F C J] 111)=o;have p:o.heap[wr.heap.size]?=Ua (cD #[bF r,I_ A,I_ (l[j].2:Nat),Ut B,P_ D H G,P_ F C J] 111):=by rw[<-f];exact aZ _ _ aJ _
   have Y:wr.heap.size<o.heap.size:=G_
   have a0:=aA (i:=0) p aJ;have a2:=aA (i:=2) p aJ;have a7:T_ o (aL r 0)=Ua (Q_ (bs l[j].1)):=by grind [World.cell?_of_block,eh]
   have u:Hid (o.drew.ownsRow w.heap.size 133 2 (P_ y j d) j (pU (PZ (l.take j)))):=aB (by rw[<-f];exact E.alloc _)
   have T:Hid (R_ w o):=aB (by rw[<-f];exact I.alloc M _)
   have z:PZ (l.take (j+1))=PZ (l.take j)++[(Q_ (bs l[j].1),I_ (l[j].2:Nat))]:=by grind [List.take_succ_eq_append_getElem,PZ]
   have K:=aB z;clear p k1 k2 k3 k4 k5 k6 k7 k0 f E I z P;generalize l[j].1=nm at*;generalize l[j].2=ln at*;go_region_law (refine step_append_lies _ r_ _ _ 70 r_ w.heap.size 133 i0 _ 2 24 underlying70 hi O U Q rfl d_ (P_ y j d) j _ r_ (u.alloc _) (aL o.heap.size 0) 1 1 [Q_ (bs nm),I_ (ln:Nat)] r_ r_ (Oi o.drew _ _) (La _ _) d_ kk aD kj (o.heap.size+1) s_ ?_;intro g5 V w5 S g X aa)
   all_goals
    go_wp2
    go_roundg m
    case measure=>exact aD
    case rel=>
     refine⟨j+1,aD,la,s_,by rw[K,FJ];exact aD,?_⟩
     exact(T.drew.alloc kj _).grown g kj λk hk=>(u.lt k hk).1
  have L:j=Ty l:=aD;subst L;rw[hQ (aD)]at b;have E:=aB b;have I:=aB a;clear b a P;go_wp2
  go_ret;exact⟨_,_,aJ,E,I⟩
def s6(w:aN)(s:SV)(a n:Nat)(b:Option Addr)(f:s.x1=Ua (aL a 0))(g:s.n1=n+1)(c:n<=1000)(D:dP w a (n*6+3) (Ut b))(i:a<H_ w):
 Calls prog 169 #[s.val] w λe j=>e=bY (Ut b)/\R_ w j:=by
 obtain⟨t,C,u,k,B,v,l,d,p,r,q⟩:=s;simp only at f g;subst f g;unfold SV.val;have A:(((n+1:Nat):Int)==0)=false:=G_
 have y:=aB λ(W:aN) m=>AR (H_ w) a n d W m c
 go_in
 go_wp2_with fail;refine(y _ ?_).mono ?_
 .simp
 rintro e z ⟨rfl,o,rfl⟩
 have x:dP ((eH w #[I_ t,P_ (Ua (aL a 0)) (n+1) d,P_ u v p,P_ k l r,I_ q] 57).drewN o) a (n*6+3) (Ut b):=by
  show T_ (w.alloc _) _=_
  grind [World.cell?_of_block,eh]
 go_wp2
 go_ret;refine⟨aJ,((dz (H_ w) w).alloc (aD) _).trans ⟨rfl,rfl,rfl,s_,λ_ _=>rfl⟩⟩
def PK(val:bP->bP)(l:cY):List (Uf × Uf):=l.map λx=>(Value.string (bs x),Value.string (bs (val x)))
def Jn:(prog.info? 135).map (λi=>(i.zero,i.size,i.bytes))=Ua (Ua (.agg #[Q_ ⟨#[]⟩,Q_ ⟨#[]⟩]),2,32):=k_
def M_(w:aN)(a b:aW):∀j u,([a,b]:List Uf)[j]?=Ua u->T_ (eH w #[a,b] 135) ((⟨H_ w,0,none⟩:Addr).add j)=Ua u:=by grind [World.news_of_block,aZ]
def He(x y:ByteArray):∀u∈([Q_ x,Q_ y]:List Uf),u.oneCell'=true:=by intro u a;simp at a;rcases a with rfl|rfl<;>rfl
def Z5(w D:aN)(F:bN)(s:SV)(O n:Nat)(p0:Option Addr)(f:cY)(u:bP->bP)(S:Option Addr->Nat->World->Prop)
 (hx:s.x1=Ua (aL O 0)) (hn:s.n1=n+1) (aw:n<=1000) (B:w.alloc (cD s.cells 57)=D) (hF:∀b,F b->b<w.heap.size) (hs:gQ F w (Ut p0) f) (hl:Ty f<=90001)
 (HS:Hid (Calls prog 169 #[s.val] D λe K=>e=bY (Ut p0)/\R_ D K))
 (HV:Hid (∀W a x l,R_ D W->f=a++x::l->∃g4 n4 c4 t z,T_ W (aL O (n*6+4))=Ua (P_ (Ua (aL g4 0)) n4 c4)/\O<W.heap.size/\Ty l<n4/\T_ W (aL g4 (Ty l))=Ua (dH t z)/\g4<W.heap.size/\Calls prog 170 #[dH t z] W λe K=>e=bY (Q_ (bs (u x)))/\R_ W K))
 (HO:Hid (∀W y d,W.ownsRow D.heap.size 135 2 (P_ y (Ty f) d) (Ty f) (pU (PK u f))->R_ D W->Calls prog 171 #[P_ y (Ty f) d,.func (.func 172) #[] #[]] W λe K=>e=fD/\S y d K)):
 Calls prog 113 #[s.val] w λe K=>∃y d,e=bY (P_ y (Ty f) d)/\S y d K:=by
 obtain⟨i0,hi,ag,ar,al⟩:=info_parts Jn;obtain⟨t,x1,x2,x3,n1,n2,n3,c1,c2,c3,q⟩:=s;simp only at hx hn;subst hx hn;unfold SV.cells at B;unfold SV.val at HS;unfold SV.val;have A:D.heap[w.heap.size]?=Ua (cD #[I_ t,P_ (Ua (aL O 0)) (n+1) c1,P_ x2 n2 c2,P_ x3 n3 c3,I_ q] 57):=by grind [aZ]
 have ba:D.heap.size=w.heap.size+1:=by rw[<-B];simp
 have V:R_ w D:=by grind [ep,dz]
 have HW:=aB B;have ah:=aB hs;have HF:=aB hF;have ak:=aB V;have ao:=aB A;have c0:=aA (i:=0) A aJ;have aq:=aA (i:=1) A aJ;have ai:=aA (i:=2) A aJ;have ay:=aA (i:=3) A aJ;have Q:=aA (i:=4) A aJ;clear B hs hF V A;go_in
 go_wp2_with fail;rw[HW];go_wp2_with fail;refine HS.mono ?_;rintro e w1 ⟨rfl,ab⟩;have an:=aB ab;clear ab HS c0 aq ai ay Q;go_wp2
 go_loopg [3,4] (Ty f) (λgk v p wr=>∃a r,f=a++r/\Ty r=gk/\gQ F w p r/\(∃y d,v=P_ y (Ty a) d)/\wr.ownsRow D.heap.size 135 2 v (Ty a) (pU (PK u a))/\R_ D wr)
 case atStart=>exact⟨[],f,aJ,aJ,ah,⟨none,0,aJ⟩,World.ownsRow_nil _ _ _ _,an⟩
 case round=>
  obtain⟨a,r,P,X,L,⟨y,d,rfl⟩,E,j⟩:=hrel;cases r with
  |nil=>
   rw[List.append_nil]at P;subst P;have av:_=Value.pointer none:=L;subst av;have HX:=aB (HO wr y d E j);clear E j HO HV L;go_wp2_with fail;refine HX.mono ?_;rintro e w2 ⟨rfl,h2⟩;have H2:=aB h2;clear h2;go_wp2
   go_ret;exact⟨_,_,aJ,H2⟩
  |cons x l=>
   obtain⟨b,o,rfl,af,aa,N⟩:=L;obtain⟨po,rfl⟩:=N.form;obtain⟨m,rfl⟩:∃m,gk=m+1:=⟨gk-1,by simp at X;exact aD⟩
   obtain⟨g4,n4,c4,ty,z,v1,v2,v3,v4,v5,aj⟩:=HV wr a x l j P;have Z:=HF b af;have C:wr.heap[b]?=Ua (cD #[Q_ (bs x),I_ (Ty l),Ut po] 291):=by rw[j.block b aD,ak.block b Z];exact aa
   have k0:=aA (i:=0) C aJ;have k1:=aA (i:=1) C aJ;have k2:=aA (i:=2) C aJ;have ap:=aH C;have T:wr.heap[w.heap.size]?=_:=(j.block _ aD).trans ao;have kb:=aA (i:=1) T aJ;have ad:=j.size;have bc:Ty a<=90001:=by have:=fg List.length P;simp at this;exact aD
   have am:=aB E;have HB:=aB j;clear E j aa C T;have e1:(0:Int)<=(Ty l:Int):=aD;have e2:(Ty l:Int)<(n4:Int):=aD;have HT:Hid (pW wr w.heap.size O (n*6)):=aB λW B=>(AR w.heap.size O n c1 W (eO B.heap kb) aw).mono λe K ⟨he,q,hq⟩=>⟨he,by rw[hq];exact B.trans (bV.drewN _ _)⟩
   have HR:Hid (∀W,bV wr W->Calls prog 170 #[dH ty z] W λe K=>e=bY (Q_ (bs (u x)))/\R_ wr K):=aB λW B=>by
    have au:R_ D W:=HB.trans ⟨B.os,B.tape,B.output,by rw[B.heap];exact fi _,λk _=>by rw[B.heap]⟩
    obtain⟨bd,be,Q,bf,z',r1,r2,r3,r4,r5,r6⟩:=HV W a x l au P;rw[eO B.heap v1]at r1;cases r1;rw[eO B.heap v4]at r4;cases r4;refine r6.mono λe K ⟨he,hb⟩=>⟨he,?_⟩
    exact Below.trans (b:=W) ⟨B.os,B.tape,B.output,by rw[B.heap];exact fi _,λk _=>by rw[B.heap]⟩ (by rw[<-B.heap];exact hb)
   have K0:=aB k0;have K1:=aB k1;have K2:=aB k2;have V1:=aB v1;have V4:=aB v4;clear aj HV HO kb v2 v5
   have ac:Hid (∀(W:aN) (g c:Nat),W.ownsRow D.heap.size 135 2 (P_ (Ua (aL g 0)) (Ty a+1) c) (Ty a+1) (pU (PK u a)++[Q_ (bs x),Q_ (bs (u x))])->W.ownsRow D.heap.size 135 2 (P_ (Ua (aL g 0)) (Ty a+1) c) (Ty (a++[x])) (pU (PK u (a++[x])))):=aB λW g c h=>by
    have e:PK u (a++[x])=PK u a++[(Q_ (bs x),Q_ (bs (u x)))]:=by simp[PK]
    rw[e,FJ,ew];exact h
   generalize u x=tx at*;go_wp2
   go_region_law (first|(refine step_append_lies _ r_ _ _ 71 r_ D.heap.size 135 i0 _ 2 32 underlying71 hi ag ar al rfl d_ (.slice y (Ty a) d) (Ty a) _ r_ (U.alloc _) (aL w2.heap.size 0) 1 1 [.string (bs x),.string (bs tx)] r_ r_ (M_ w2 _ _) (He _ _) d_ kk aD kj (w2.heap.size+1) s_ ?_;intro g5 Y w5 J G bb bg)|(go_simp;first|(go_at_call 152;refine(HT _ (bV.drew _)).mono ?_;rintro e w1 ⟨rfl,I⟩;have d0:=eO I.heap K0;have d1:=eO I.heap K1;have d2:=eO I.heap V1;have d3:=eO I.heap V4)|(go_at_call 170;refine(HR _ I).mono ?_;rintro e w2 ⟨rfl,H⟩;have d4:=(World.cell?_of_block (H.block b ap)).trans K0;have az:=H.size;have U:=aB (jZ am H))))
   all_goals
    have M:R_ D w5:=((HB.trans (H.mono ad)).alloc aD _).grown G kj λk hk=>(U.lt k hk).1
    have k5:T_ w5 (aL b 2)=Ua (Ut po):=(World.cell?_of_block ((M.block b aD).trans (HB.block b aD).symm)).trans K2;have H5:=aB M;have ae:=aB J;have ax:=aB N;clear M J G N H;go_wp2
    go_roundg m
    case measure=>exact aD
    case rel=>exact⟨a++[x],l,by rw[P];simp,by simp at X;exact aD,ax,⟨Ua (aL g5 0),Y,s_⟩,ac _ _ _ ae,H5⟩
open Go.RowKit Go.Sort
def tF(b_:Nat)(w:aN)(v:aW)(l:List (Uf × Uf)):Prop:=∃x c,v=.slice x (Ty l) c/\∀i (h:i<Ty l),∃g,x=Ua (aL g 0)/\T_ w (aL g (i*2))=Ua l[i].1/\T_ w (aL g (i*2+1))=Ua l[i].2/\b_<=g/\g<w.heap.size
def tF.h_{a:Nat}{w w':aN}{v:aW}{l:List (Uf × Uf)}(h:tF a w v l)(b:∀k,a<=k->k<w.heap.size->w'.heap[k]?=w.heap[k]?)(c:w.heap.size<=w'.heap.size):tF a w' v l:=by grind [World.cell?_of_block,tF]
def oF(l:cY):cY:=l.mergeSort λx y=> !decide (Lib.compareBytes y x<0)
def p7(l:cY):Ty (oF l)=Ty l:=by simp[oF]
def BU(val:bP->bP)(x:bP):List Uf:=[.string (bs x),.string (bs (val x))]
def CO.cells{F:bN}{w:aN}{x:Option Addr}{n:Nat}{a:List j_}(h:CO F w (.slice x n t) a)(i:Nat)(l:i<Ty a):∃g,x=Ua (aL g 0)/\n=Ty a/\F g/\∀j u,j<6->a[i].cells[j]?=Ua u->T_ w (aL g (i*6+j))=Ua u:=by
 rcases h with ⟨rfl,_⟩|⟨g,o,f,d,b,k,p,q⟩
 .simp at l
 cases d;refine⟨g,aJ,aJ,b,λj u m r=>?_⟩
 refine aA k ?_;have e:a=a.take i++a[i]::a.drop (i+1):=s_
 have s:=XB (a.take i) (a.drop (i+1)) a[i] j m;grind
def tw.sl{F:bN}{v:aW}{l:List aE}(h:tw F d v l):∃x n c,v=P_ x n c:=by rcases h with ⟨_,e⟩|⟨g,b,a,e,_⟩<;>exact⟨_,_,_,e⟩
section
variable {fp:iU} {F:bN} {w:aN} {s1:SV} {s:dB}
def pC.parts(h:pC fp F w s1.val s):∃a,CO F w (P_ s1.x1 s1.n1 s1.c1) a/\yJ fp F w a s.m.f_/\CJ F w (P_ s1.x3 s1.n3 s1.c3) s.m.out:=by grind [SV.val,pC]
def pC.none(h:pC fp F w s1.val s)(a:s.m.f_=[]):s1.n1=0:=by grind [pC,SV.val,CO,yJ]
def pC.frame(h:pC fp F w s1.val s)(i:Nat)(k:i<Ty s.m.f_):∃g v,s1.x1=Ua ⟨g,0,Option.none⟩/\s1.n1=Ty s.m.f_/\F g/\Ax fp F w v s.m.f_[i]/\∀j u,j<6->v.cells[j]?=Ua u->T_ w ⟨g,i*6+j,Option.none⟩=Ua u:=by obtain⟨f,e,a,_⟩:=h.parts;have l:=a.length;obtain⟨g,b,m,c,d⟩:=e.cells i aD;exact⟨g,_,b,aD,c,a.get i _ _ (fe aD) (fe k),d⟩
noncomputable def FO(f:aI)(x:bP):bP:=cM (f.g_[dQ f.e_ x]?.getD aY)
noncomputable def Lf(s:dB):List (Uf × Uf):=match s.m.f_.getLast? with
 |Option.none=>[]
 |some f=>PK (FO f) (oF f.e_)
theorem UK{a l:cY}{x:bP}(h:(a++x::l).Nodup):dQ (a++x::l) x=Ty l:=by
 induction a with
 |nil=>simp[dQ]
 |cons y a b=>
  grind [dQ]
end
structure Bp(b_:Nat)(w:aN)(m:SV)(s:dB):Prop where
 t:m.t=s.m_
 q:m.q=s.stop
 stack:tF b_ w (.slice m.x1 m.n1 m.c1) (PZ (kJ s.m.f_))
 g_:tF b_ w (.slice m.x2 m.n2 m.c2) (Lf s)
 out:SK b_ w (.slice m.x3 m.n3 m.c3) s.m.out
def Bp.h_{a:Nat}{w w':aN}{m:SV}{s:dB}(h:Bp a w m s)(b:∀k,a<=k->k<w.heap.size->w'.heap[k]?=w.heap[k]?)(c:w.heap.size<=w'.heap.size):Bp a w' m s:=
 ⟨h.t,h.q,h.stack.h_ b c,h.g_.h_ b c,h.out.h_ b c⟩
def tF.low{v:aW}{l:List (Uf × Uf)}(h:tF t d v l)(c:b<=t):tF b d v l:=by grind [tF]
def SK.low{v:aW}{l:cY}(h:SK t d v l)(c:b<=t):SK b d v l:=by grind [SK]
def Bp.low{m:SV}{s:dB}(h:Bp t d m s)(c:b<=t):Bp b d m s:=⟨h.t,h.q,h.stack.low c,h.g_.low c,h.out.low c⟩
