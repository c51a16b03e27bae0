import Derived.Test.YtjhbbdpfkccohaaGreatDoorP11
set_option linter.all false
set_option maxRecDepth 100000
set_option maxHeartbeats 4000000
open List renaming length->Ty
open Option renaming none->Ub
open Go.Value renaming slice->Uq,string->Ur,int->Ux
open Go.Obj renaming cells->Uy
namespace Go.Proofs.YtjhbbdpfkccohaaGreatDoor
open Hs
open _root_.Go.Proofs.Tryz
open Go.RowKit
variable{k:Nat}{s x z:aN}{i:aW}{t:bN}
structure KX(w:aN)(F:bN)(uz v:aE)(lv lv':aW)(r:aE × Nat)(pv sv:aW)(wc:aN):Prop where
 re:R_ w wc
 b0:wc.heap[w.heap.size]?=some (Uy #[I_ uz.c_,I_ uz.n,Ur (bs uz.s),lv] 130)
 b2:wc.heap[w.heap.size+1+1]?=some (Uy #[I_ 0,I_ 0,Ur ⟨#[]⟩,bO] 130)
 st:sv=I_ r.2
 x:∃nb lx dx,pv=bF nb/\w.heap.size+1+1+1<=nb/\wc.heap[nb]?=some (Uy #[I_ r.1.c_,I_ r.1.n,Ur (bs r.1.s),lx] 130)/\LV dx (λq=>F q\/(w.heap.size+1+1+1<=q/\q≠nb/\q<wc.heap.size)) wc lx r.1.l
def KX.after{a v:aE}{m f:aW}{r:aE × Nat}(n:∀b,t b->b<s.heap.size)(g:R_ s x)
 (l:x.heap=(((s.alloc (Uy #[I_ a.c_,I_ a.n,Ur (bs a.s),m] 130)).alloc (Uy #[I_ v.c_,I_ v.n,Ur (bs v.s),f] 130)).alloc (Uy #[I_ 0,I_ 0,Ur ⟨#[]⟩,bO] 130)).heap)
 (c:R_ x z) (h:LV k (Grow t x z) z i r.1.l):
 KX s t a v m f r (bF z.heap.size) (I_ r.2) (z.alloc (Uy #[I_ r.1.c_,I_ r.1.n,Ur (bs r.1.s),i] 130)):=by
 have p:x.heap.size=s.heap.size+1+1+1:=by rw[l];simp
 have o:=c.size;refine⟨(g.trans (c.mono g.size)).alloc aD _,?_,?_,rfl,z.heap.size,i,k,rfl,aD,bM _ _ rfl,?_⟩
 .grind [eh,eg,bM]
 .rw[eh _ _ _ aD,c.block _ aD,l,bM _ _ s_]
 refine(h.h_ (by grind [eh,Grow])).mono (λq j=>?_) (aD)
 rcases j with j|j
 .grind
 exact ec ⟨aD,aD,kj⟩
def KX.before{a v:aE}{l d:aW}{r:aE × Nat}(o:∀b,t b->b<s.heap.size)(m:R_ s x)
 (j:x.heap=((((s.alloc (Uy #[I_ a.c_,I_ a.n,Ur (bs a.s),l] 130)).alloc (Uy #[I_ v.c_,I_ v.n,Ur (bs v.s),d] 130)).alloc (Uy #[I_ 0,I_ 0,Ur ⟨#[]⟩,bO] 130)).alloc (Uy #[I_ 0,I_ 0,Ur ⟨#[]⟩,bO] 130)).heap)
 (e:R_ x z) (h:LV k (Grow t x z) z i r.1.l):
 KX s t a v l d r (bF (s.heap.size+1+1+1)) (I_ r.2) ((((z.setCell (aL (s.heap.size+1+1+1) 0) (I_ r.1.c_)).setCell (aL (s.heap.size+1+1+1) 1) (I_ r.1.n)).setCell (aL (s.heap.size+1+1+1) 2) (Ur (bs r.1.s))).setCell (aL (s.heap.size+1+1+1) 3) i):=by
 have p:x.heap.size=s.heap.size+1+1+1+1:=by rw[j];simp
 have n:z.heap[s.heap.size+1+1+1]?=some (Uy #[I_ 0,I_ 0,Ur ⟨#[]⟩,bO] 130):=by rw[e.block _ aD,j,bM _ _ s_]
 refine⟨(by grind [Below.tj,Below.trans,Below.mono]),?_,?_,rfl,s.heap.size+1+1+1,i,k,rfl,aD,rC n _ _ _ _,?_⟩
 .grind [dF,eg,eh,bM]
 .rw[dF _ aD,e.block _ aD,j,eh _ _ _ s_,bM _ _ s_]
 refine(h.h_ λq g=>dF _ ?_ _ _ _ _).mono (λq g=>?_) (aD)
 .grind [Grow]
 rcases g with g|g
 .grind
 exact ec ⟨aD,aD,kj⟩
def Cq(is:List aE):Prop:=
 ∀(d:Nat) (F:bN) (ov av vv:aW) (uz v:aE) (w:aN),RV d F w ov uz->LA d F w av is->RV d F w vv v->(∀b,F b->b<w.heap.size)->aK uz<=1000000->Ty is<=1000000->
  Calls prog 260 #[ov,av,vv] w (CL F w (cI is uz v))
def Pw{b:Nat}{l:List aE}(h:LV k (λq=>t q\/(H_ s+1+1+1<=q/\q≠b/\q<H_ x)) x i l)(f:R_ x z)(e:∀q,t q->q<H_ x):LV k (λq=>t q\/(H_ s+1+1+1<=q/\q≠b/\q<H_ x)) z i l:=
 (by grind [LV.h_,eg])
def PI:Cq []:=by
 intro d F s t u a v w h k o l z i;obtain⟨y,rfl,m⟩:=h;obtain⟨j,rfl,b⟩:=o;obtain⟨x,c,rfl⟩:=m.slice;obtain⟨g,e,rfl⟩:=b.slice;obtain⟨p,r,rfl⟩:=k.slice;have n:=aB b;have q:=aB l;go_in
 go_wp2_with fail;have f:R_ w (((w.alloc (Uy #[I_ a.c_,I_ a.n,Ur (bs a.s),Uq x (Ty a.l) c] 130)).alloc (Uy #[I_ v.c_,I_ v.n,Ur (bs v.s),Uq g (Ty v.l) e] 130)).alloc (Uy #[I_ v.c_,I_ v.n,Ur (bs v.s),Uq g (Ty v.l) e] 130)):=by go_grown
 exact bodyPost_ret (v:=fA (.agg #[I_ v.c_,I_ v.n,Ur (bs v.s),Uq g (Ty v.l) e]) 0) (by simp[results,results260,go_sem]) rfl ⟨⟨_,rfl,d,_,rfl,(n.h_ ku).mono (λ_ h=>ed h) (aD)⟩,f⟩
def Th{Z_:Prop}(Y_:Z_:=by
 go_in
 go_wp2
 exact bodyPost_ret (v:=fA (cK 0 0 []) 2) lw rfl ⟨⟨_,by rw[HP.out],0,my⟩,ko⟩):Z_:=Y_
def LD(i:aE)(t:List aE)(IH:Cq t):Cq (i::t):=by
 intro d F ov av vv a v w h hA hv J hc ar;obtain⟨lv,rfl,K⟩:=h;obtain⟨cw,rfl,A⟩:=hv;obtain⟨x,c,rfl⟩:=K.slice;obtain⟨x',c',rfl⟩:=A.slice;obtain⟨e,g,o,ca,kv,rfl,rfl,co,bl,i0,i1,i2,i3,L,B⟩:=hA.cons;have cr:=J g bl;have cs:g<w.heap.size+1:=aD;have cz:g<w.heap.size+1+1:=aD;have cq:Ty a.l<=1000000:=by grind [DU]
 have cp:Ty t+1<=1000000:=aD;obtain⟨r,f⟩:∃r,r=cI (i::t) a v:=(by simp)
 rw[<-f];rw[cI]at f;have au:=aB IH;clear hA ar IH;by_cases h3:a.c_=3
 rotate_left
 .rw[ef (ed h3)]at f;have I:=aB f;have f3:((a.c_:Int) != 3)=true:=G_
  clear f K A J h3 B L;go_enter func260,ntmps260;go_wp2_with fail;exact bodyPost_ret (v:=fA (cK 0 0 []) 2) lw rfl ⟨⟨_,qv,0,my⟩,ko⟩
 have f3:((a.c_:Int) != 3)=false:=G_
 by_cases h0:i.c_=0
 rotate_left
 .rw[ef (ec h0)]at f;have I:=aB f;have f0:((i.c_:Int) != 0)=true:=G_
  clear f K A J h3 h0 B L;go_enter func260,ntmps260;go_wp2_with fail;exact bodyPost_ret (v:=fA (cK 0 0 []) 2) lw rfl ⟨⟨_,qv,0,my⟩,ko⟩
 have f0:((i.c_:Int) != 0)=false:=G_
 rw[ea aD]at f;clear h3 h0;by_cases h2:i.n<0\/(Ty a.l:Int)<=i.n
 .rw[ef h2]at f;have I:=aB f;by_cases hn:i.n<0
  .have f2:decide (i.n<0)=true:=(by grind)
   clear f K A J h2 hn B L;go_enter func260,ntmps260;go_wp2_with fail;exact bodyPost_ret (v:=fA (cK 0 0 []) 4) lw rfl ⟨⟨_,qv,0,my⟩,ko⟩
  have f2:decide (i.n<0)=false:=(by grind)
  have f4:decide (i.n≥(Ty a.l:Int))=true:=(by grind)
  clear f K A J h2 hn B L;go_enter func260,ntmps260;go_wp2_with fail;exact bodyPost_ret (v:=fA (cK 0 0 []) 4) lw rfl ⟨⟨_,qv,0,by rw[I.out];exact RV.nil _ _ _⟩,ko⟩
 rw[ea h2]at f;obtain⟨k,hk⟩:∃k:Nat,i.n=k:=⟨i.n.toNat,aD⟩;have ac:k<Ty a.l:=aD;rw[hk,Int.toNat_natCast,List.getD,fe ac,ir]at f;rw[hk]at i1;obtain⟨e',gl,ol,kl,bt, -,rfl,da,bz,l0,l1,l2,l3,O⟩:=K.elem k ac;obtain rfl:e=e':=aD;have ck:=J gl bz;have cm:gl<w.heap.size+1:=aD;have cj:gl<w.heap.size+1+1:=aD;obtain⟨yl,ch,rfl⟩:=O.slice;have bk:aK a.l[k]<=1000000:=by have:=yC (ge ac);exact aD
 obtain⟨ad,ah⟩:∃ad:Option Addr,(if ca=1 then some (⟨g,o,Ub⟩:Addr)else some ⟨g,o+4,Ub⟩)=ad:=⟨_,rfl⟩
 have ax:LA (e+1) F w (Uq ad (Ty t) (ca-1)) t:=by
  by_cases h1:ca=1
  .have ht:t=[]:=kf.1 aD;subst ht;exact ec ⟨rfl,_,_,rfl⟩
  rw[ea h1]at ah;subst ah;exact B
 have bw:(1:Int)<=(Ty t:Int)+1:=aD;have bi:(Ty t:Int)+1<=(ca:Int):=aD
 have HX:Hid (∀w1,Below w.heap.size w w1->Calls prog 260 #[.agg #[Ux .i64 a.l[k].c_,Ux .i64 a.l[k].n,Ur (bs a.l[k].s),Uq yl a.l[k].l.length ch],Uq ad (Ty t) (ca-1),.agg #[Ux .i64 v.c_,Ux .i64 v.n,Ur (bs v.s),Uq x' (Ty v.l) c']] w1 (CL F w1 (cI t a.l[k] v))):=λw1 V=>
  au.out (e+1) F _ _ _ a.l[k] v w1 ⟨_,rfl,(O.h_ λq b=>V.block q (J q b)).mono (λ_ h=>h) (Nat.le_succ e)⟩ (ax.h_ λq b=>V.block q (J q b)) ⟨_,rfl,A.h_ λq b=>V.block q (J q b)⟩ (λq b=>ej (J q b) V.size) bk aD
 have N:Hid (Below w.heap.size w (((w.alloc (Uy #[Ux .i64 a.c_,Ux .i64 a.n,Ur (bs a.s),Uq (some ⟨gl,ol,Ub⟩) (Ty a.l) c] 130)).alloc (Uy #[Ux .i64 v.c_,Ux .i64 v.n,Ur (bs v.s),Uq x' (Ty v.l) c'] 130)).alloc (Uy #[Ux .i64 0,Ux .i64 0,Ur ⟨#[]⟩,Uq Ub 0 0] 130))):=by show Below _ _ _;go_grown
 have HL:=aB K;have HF:=aB J;have HR:=aB f;have f2:decide ((k:Int)<0)=false:=gi aD;have f4:decide ((k:Int)≥(Ty a.l:Int))=false:=gi aD;clear f K A J h2 hk B ax L bt O au;generalize a.l[k]=ok at*;generalize cI t ok v=S at*;go_enter func260,ntmps260;go_wp2_with fail;go_cut [9,10] (λpv sv wc=>KX w F a v (Uq (some ⟨gl,ol,Ub⟩) (Ty a.l) c) (Uq x' (Ty v.l) c') S pv sv wc)
 case first=>
  go_region_law (go_simp;go_at_call 260;refine(HX.out _ (by first|exact N.out.drew|exact(N.out.alloc kj _).drew)).mono ?_;rintro e Q ⟨⟨u2,rfl,d2,lx,rfl,z⟩,p⟩;obtain⟨y2,c2,rfl⟩:=z.slice;obtain⟨ct,cu⟩:=ve p;have cy:=p.size;have Y:=aB z;have M:=aB p;clear z p)
  all_goals
   go_wp2_with fail;go_meet
   case rel=>first|exact KX.after HF.out N.out.drew rfl M.out Y.out|exact KX.before HF.out (N.out.alloc kj _).drew rfl M.out Y.out
 case rest=>
  obtain⟨nb,lx,dx,rfl,cv,ai,z⟩:=hcut.x;have bm:=hcut.st;subst bm;obtain⟨yx,cx,rfl⟩:=z.slice;obtain⟨g0,ce,cf,bn,bq,bj,bp,cg,bv⟩:=kR hcut.b0;obtain⟨g2,E,D,H,C,ab,X,Z,aa⟩:=kR hcut.b2;obtain⟨gx,ag,am,ap,al,aq,af,ao,aj⟩:=kR ai;have T:=aB hcut;have cc:=aB ai;have Y:=aB z;have f:=HR.out;clear hcut ai z HX HR N i0 i1 i2 i3 l0 l1 l2 l3 ah bw bi;by_cases hz:S.2=0
  rotate_left
  .rw[ef hz]at f;have I:=aB f;have f5:((S.2:Int) != 0)=true:=by simp;exact aD
   clear f hz;go_wp2_with fail;exact bodyPost_ret (v:=fA (cK 0 0 []) S.2) (by simp[results,results260,go_sem,E,D,H,C];rfl) rfl ⟨⟨_,qv,0,by rw[I.out];exact RV.nil _ _ _⟩,Below.tj T.out.re aD _ _ _ _⟩
  rw[ea aD]at f;have I:=aB f;have f5:((S.2:Int) != 0)=false:=by simp;exact aD
  have ba:=aB (HL.out.h_ λq b=>T.out.re.block q (HF.out q b))
  have be:Hid (∀q,F q->q<wc.heap.size/\(Value.slice Ub 0 0).ownBlock≠some q):=λq b=>⟨ej (HF.out q b) T.out.re.size,og⟩
  clear f hz HL;go_wp2_with (at_builtin;refine xH r_ _ _ r_ wc.heap.size (Uq Ub 0 0) [] a.l [] (e+1) F r_ (World.ownsRow_nil _ _ _ _) (mM.nil _ _ _) _ r_ ba.out be.out kj (fi _) (λ_=>rfl) ?_)
  intro v1 Q ys P ae hg bh;have p:Below wc.heap.size wc Q:=⟨hg.os,hg.tape,hg.output,hg.size,λq b=>hg.block q b og⟩
  obtain⟨n,s,u,rfl,ay,l,ci,bo,bu⟩:∃n s u,v1=Uq (some ⟨n,0,Ub⟩) (Ty a.l) s/\wc.heap.size<=n/\Q.heap[n]?=some (Uy u 130 (0,0))/\Ty a.l<=s/\u.size=s*4/\u.toList.take (Ty a.l*4)=ys:=by
   rcases P.2 with ⟨_,h0⟩|⟨n,s,u,e1,e2,e3,e4,e5,e6,e7⟩
   .exact aD
   exact⟨n,s,u,e1,e2,e3,e4,e6,e7⟩
  have cl:=aH l;have b:∀j,j<4->∃y,Q.cell? ⟨n,k*4+j,Ub⟩=some y:=λj hj=>⟨u[k*4+j]'aD,by simp[World.cell?,l]⟩
  obtain⟨y0,q0⟩:=b 0 aD;obtain⟨y1,q1⟩:=b 1 aD;obtain⟨y2,q2⟩:=b 2 aD;obtain⟨y3,q3⟩:=b 3 aD;rw[gu]at q0;have p0:Q.frozen? ⟨n,k*4,Ub⟩=false:=aF l;have p1:Q.frozen? ⟨n,k*4+1,Ub⟩=false:=aF l;have p2:Q.frozen? ⟨n,k*4+2,Ub⟩=false:=aF l;have p3:Q.frozen? ⟨n,k*4+3,Ub⟩=false:=aF l;have bx:=(p.block nb gx).trans cc.out;have b2:=(p.block (w.heap.size+1+1) g2).trans T.out.b2;have M:=aB (T.out.re.trans (p.mono T.out.re.size));have cd:=aB (Pw Y.out p λq b=>ej (HF.out q b) T.out.re.size)
  have cb:=aB P;have bg:=aB ae;have aw:=aB b2;clear p P ae hg bh b l bo bu ce cf bn bq bj bp cg bv E D H C ab X Z aa ag am ap al aq af ao aj ba be;obtain⟨az,E,D,H,C,ab,X,Z,aa⟩:=kR b2;obtain⟨cn,ag,am,ap,al,aq,af,ao,aj⟩:=kR bx;have n1:¬nb=n:=aD;have n2:¬n=nb:=aD;have n3:¬n=w.heap.size+1+1:=aD;have n4:¬w.heap.size+1+1=n:=aD;clear b2 bx;go_wp2_with fail
  have bf:=aB (LV.setRow cb.out (bg.out.mono (G:=λq=>F q\/(w.heap.size+1+1+1<=q/\q≠nb/\q<wc.heap.size)) (λ_ h=>ed h) (Nat.le_add_right (e+1) dx)) ac (m:=S.1) (cd.out.mono (λ_ h=>h) (Nat.le_add_left dx (e+1))) (λq b=>by
   rcases b with b|b
   .have:=HF.out q b;have:=T.out.re.size;exact aD
   exact aD))
  have bb:=aB T.out.re.size;obtain⟨W,hW⟩:=E_ (IQ Q n (k*4) (Ux .i64 S.1.c_) (Ux .i64 S.1.n) (Ur (bs S.1.s)) (Uq yx (Ty S.1.l) cx));have bc:Below w.heap.size w W:=by rw[hW];have U:=eo T.out.re.size ay;exact(((M.out.setCell U _).setCell U _).setCell U _).setCell U _
  have zb:(W.alloc (Uy #[Ux .i64 3,Ux .i64 0,Ur (bs []),Uq (some ⟨n,0,Ub⟩) (Ty a.l) s] 130)).heap[w.heap.size+1+1]?=some (Uy #[Ux .i64 0,Ux .i64 0,Ur ⟨#[]⟩,Uq Ub 0 0] 130 (0,0)):=by rw[eh _ _ _ (by rw[hW];simp[World.setCell];exact aD),hW,tN _ n4];exact aw.out
  rw[<-hW]at bf;have br:Hid (W.heap.size=Q.heap.size):=by show _=_;rw[hW];simp[World.setCell]
  have bd:=aB bc;show Calls _ _ _ (IQ Q n (k*4) _ _ _ _) _
  rw[<-hW];clear bc hW E D H C ab X Z aa ag am ap al aq af ao aj q0 q1 q2 q3 p0 p1 p2 p3 az;refine(CX (some ⟨n,0,Ub⟩) (Ty a.l) s _).mono ?_;rintro e' w3 ⟨rfl,ak⟩;rw[<-ak]at zb;obtain⟨az,E,D,H,C,ab,X,Z,aa⟩:=kR zb;have an:=aB ak;clear zb ak;go_wp2_with fail;refine bodyPost_ret (v:=fA (.agg #[Ux .i64 3,Ux .i64 0,Ur (bs []),Uq (some ⟨n,0,Ub⟩) (Ty a.l) s]) 0) (by simp[results,results260,go_sem,E,D,H,C]) rfl ⟨⟨_,qv,e+1+dx+1,?_⟩,?_⟩
  .rw[I.out];have hz:=br.out
   have K:∀q,(F q\/(w.heap.size+1+1+1<=q/\q≠nb/\q<wc.heap.size))\/q=n->q≠w.heap.size+1+1/\q<W.heap.size:=λq b=>by
    have:=M.out.size;rcases b with (b|b)|rfl
    .have:=HF.out q b;exact aD
    .have:=bb.out;exact aD
    exact aD
   refine⟨_,rfl,LV.mono (λq b=>?_) (bf.out.h_ λq b=>(dF _ (K q b).1 _ _ _ _).trans (by rw[an.out];exact eh _ _ _ (K q b).2)) (fi _)⟩
   have:=(K q b).2;have hs:((((w3.setCell ⟨w.heap.size+1+1,0,Ub⟩ (Ux .i64 3)).setCell ⟨w.heap.size+1+1,1,Ub⟩ (Ux .i64 0)).setCell ⟨w.heap.size+1+1,2,Ub⟩ (Ur (bs []))).setCell ⟨w.heap.size+1+1,3,Ub⟩ (Uq (some ⟨n,0,Ub⟩) (Ty a.l) s)).heap.size=W.heap.size+1:=by rw[an.out];simp[World.setCell]
   rcases b with (b|b)|rfl
   .exact ed b
   .exact ec ⟨aD,aD⟩
   exact ec ⟨by have:=bb.out;exact aD,aD⟩
  refine Below.tj ?_ aD _ _ _ _;rw[an.out];exact bd.out.alloc bd.out.size _
def AQ:∀a,Cq a
 |[]=>PI
 |i::t=>LD i t (AQ t)
