/- Contracts of the program: compile: its walk. -/
import Derived.Test.YtlflgmdcghfngaaGreatDoorP17
import Derived.Test.YtlflgmdcghfngaaGreatDoorP16
set_option linter.defProp false
set_option maxRecDepth 100000
set_option maxHeartbeats 4000000
namespace Go.Proofs.YtlflgmdcghfngaaGreatDoor
open Hs
open _root_.Go.Proofs.Tryz
open Go.RowKit
variable{fs:List aE}{b d:Nat}{W w:aG}{v:aQ}{F:bY}{fp:eK}
def b1_:(prog.info? 111).map (λi=>(i.zero,i.size,i.bytes))=some (some (.pointer none),1,8):=k_
def PM(w:aG)(p n ad:Nat)(P:Value->World->Prop)(H:Nat->World->Prop)(K:Nat->World->Prop)(hn:n<=1000000)
 (H0:Hid (H 0 (w.alloc (.cells #[bG,bG,.pointer none] 177))))
 (Y:Hid (∀j W,H j W->j<n->w.heap.size<W.heap.size/\p<W.heap.size/\∃l t z s r q y h x c M O L,W.cell? (aH p (j*4))=some (I_ l)/\W.cell? (aH p (j*4+1))=some (.string t)/\W.cell? (aH p (j*4+1+1))=some (.slice z s r)/\W.cell? (aH p (j*4+1+1+1))=some (.slice q y h)/\
   W.heap[w.heap.size]?=some (.cells #[.slice x j c,O,L] 177 (0,0))/\W.ownsRow (w.heap.size+1) 111 1 (.slice x j c) j M/\
   ∀W3 F d D,W3=((W.alloc (.cells #[I_ l,.string t,.slice z s r,.slice q y h] 169)).alloc (.cells #[.string t,bG] 130)).alloc (.cells #[aZ (W.heap.size+1)] 111)->
    D.ownsRow (w.heap.size+1) 111 1 (.slice (some (aH F 0)) (j+1) d) (j+1) (M++[aZ (W.heap.size+1)])->W3.grownBy D (Value.slice x j c).ownBlock->((Value.slice x j c).ownBlock=some F\/F=W.heap.size+3)->D.heap[w.heap.size]?=some (.cells #[.slice x j c,O,L] 177 (0,0))->H (j+1) (D.setCell (aH w.heap.size 0) (.slice (some (aH F 0)) (j+1) d))))
 (I:Hid (∀W,H n W->K 0 W))
 (H2:Hid (∀j W,K j W->j<n->w.heap.size<W.heap.size/\p<W.heap.size/\∃l t z s r q y h g c fb,W.cell? (aH p (j*4))=some (I_ l)/\W.cell? (aH p (j*4+1))=some (.string t)/\W.cell? (aH p (j*4+1+1))=some (.slice z s r)/\W.cell? (aH p (j*4+1+1+1))=some (.slice q y h)/\
   W.cell? (aH w.heap.size 0)=some (.slice (some (aH g 0)) n c)/\g<W.heap.size/\W.cell? (aH g j)=some (aZ fb)/\
   ∀W',aU (W.alloc (.cells #[I_ l,.string t,.slice z s r,.slice q y h] 169)) W'->Calls prog 96 #[aZ w.heap.size,.agg #[I_ l,.string t,.slice z s r,.slice q y h]] W' λe f=>∃x n3 c3,e=aX (.slice x n3 c3)/\
    w.heap.size<f.heap.size/\(∃Q h,f.cell? (aH w.heap.size 0)=some (.slice (some (aH Q 0)) n h)/\Q<f.heap.size/\f.cell? (aH Q j)=some (aZ fb))/\g<f.heap.size/\f.cell? (aH g j)=some (aZ fb)/\fb<f.heap.size/\(∃u,f.cell? (aH fb 1)=some u)/\f.frozen? (aH fb 1)=false/\K (j+1) (f.setCell (aH fb 1) (.slice x n3 c3))))
 (H3:Hid (∀W,K n W->Calls prog 97 #[aZ w.heap.size,.string ⟨#[109,97,105,110]⟩] W λe f=>∃v,e=aX (.pointer v)/\P (.pointer v) f)):
 Calls prog 61 #[.slice (some (aH p 0)) n ad] w λe f=>∃v,e=aX v/\P v f:=by
 obtain⟨i0,hi,aa,ae,ab⟩:=info_parts b1_;go_in
 go_wp2_with fail;go_loopg [5,10] n (λgk _ i wr=>∃j:Nat,j+gk=n/\i=I_ j/\H j wr)
 case atStart=>exact⟨0,o_,rfl,H0⟩
 case round=>
  obtain⟨j,hj,rfl,A⟩:=hrel;clear H0;by_cases E:j<n
  ·obtain⟨m,rfl⟩:∃m,gk=m+1:=⟨gk-1,o_⟩
   obtain⟨G,Z,l,t,z,s,r,q,y,h,x,c,M,O,L,d1,d2,d3,d4,N,V,U⟩:=Y _ _ A E;have HO:=aB V;have HB:=aB N;have HK:=aB U;have q0:=aA (i:=0) N rfl;have e1:(0:Int)<=(j:Int):=o_
   have e2:(j:Int)<(n:Int):=o_
   clear A N V U Y;have HN:Hid (∀W:aG,W.heap[wr.heap.size+1+1]?=some (.cells #[aZ (wr.heap.size+1)] 111 (0,0))->∀k v,([aZ (wr.heap.size+1)]:List Value)[k]?=some v->W.cell? ((⟨wr.heap.size+1+1,0,none⟩:Addr).add k)=some v):=λW hW k v hk=>World.news_of_block hW k v (by simpa using hk)
   have HL:Hid ((((wr.alloc (.cells #[I_ l,.string t,.slice z s r,.slice q y h] 169)).alloc (.cells #[.string t,bG] 130)).alloc (.cells #[aZ (wr.heap.size+1)] 111)).heap[wr.heap.size+1+1]?=some (.cells #[aZ (wr.heap.size+1)] 111 (0,0))):=aN _ _ s_ _
   have B:∀v∈([aZ (wr.heap.size+1)]:List Value),v.oneCell'=true:=λv hv=>by simp at hv;rw[hv];rfl
   have HONE:=aB B;clear B;go_wp2_with (at_builtin;refine wpList_append_lies _ r_ _ _ 175 r_ (w.heap.size+1) 111 i0 _ 1 8 underlying175 hi aa ae ab rfl d_ (.slice x j c) j M r_ (((HO.alloc _).alloc _).alloc _) (aH (wr.heap.size+1+1) 0) 1 1 [_] r_ r_ (HN _ HL) HONE d_ (by unfold maxLen;omega) o_ t_ (wr.heap.size+3) s_ ?_)
   intro F d D o b C ac;have T:some w.heap.size≠(Value.slice x j c).ownBlock:=λe=>by have:=(HO.lt _ e.symm).1;omega
   have a:D.heap[w.heap.size]?=some (.cells #[.slice x j c,O,L] 177 (0,0)):=by
    rw[b.block _ t_ T,ek _ _ _ t_,ek _ _ _ t_,ek _ _ _ G];exact HB
   have ag:=aA (i:=0) a rfl;have ai:=aD a (i:=0);have af:=aC a;have HFIN:=aB (HK _ F d D rfl o b C a);clear o b C a ac q0 d1 d2 d3 d4;go_wp2
   go_roundg m
   case measure=>omega
   case rel=>exact⟨j+1,o_,by go_num,HFIN⟩
  ·have X:j=n:=o_
   subst X;have J:=aB (I _ A);clear A I Y;go_wp2_with fail;go_loopg [6,7,27] j (λgk _ _ i wr=>∃k:Nat,k+gk=j/\i=I_ k/\K k wr)
   case atStart=>exact⟨0,o_,rfl,J⟩
   case round=>
    obtain⟨k,aj,rfl,A⟩:=hrel;clear J;by_cases E:k<j
    ·obtain⟨m,rfl⟩:∃m,gk=m+1:=⟨gk-1,o_⟩
     obtain⟨G,Z,l,t,z,s,r,q,y,h,g,c,fb,d1,d2,d3,d4,N,V,U,d8⟩:=H2 _ _ A E;have HX:=aB (d8 _ (aU.drew _));have e1:(0:Int)<=(k:Int):=o_
     have e2:(k:Int)<(j:Int):=o_
     clear A d8 H2 H3;go_wp2_with fail;go_region_law (go_simp;go_at_call 96;refine HX.mono ?_;rintro e w1 ⟨x,n3,c3,rfl,a1,⟨Q,ah,b1,b2,b3⟩,a3,a4,a5,⟨u,a6⟩,a7,a8⟩;have HF:=aB a8;clear a8)
     all_goals
      go_wp2
      go_roundg m
      case measure=>omega
      case rel=>exact⟨k+1,o_,by go_num,HF⟩
    ·have S:k=j:=o_
     subst S;have HX:=aB (H3 _ A);clear A H2 H3;go_wp2_with fail;refine HX.mono ?_;rintro e w1 ⟨v,rfl,h1⟩;have HF:=aB h1;clear h1;go_wp2
     go_ret;exact⟨_,rfl,HF⟩
section
variable {fp:eK} {fb:Nat->Nat} {fs:List aE} {cb lo d:Nat} {F:bY}
def CQ(fp:eK)(fb:Nat->Nat)(nms:cN)(cb:Nat)(F:bY)(w:aG):Prop:=
 (∃fv cv sp,w.heap[cb]?=some (.cells #[fv,cv,sp] 177 (0,0))/\MV fp fb nms F w fv)/\∀k,F k->k<w.heap.size/\k≠cb
def MF(fs:List aE)(d:Nat){f b:aE}{ps:List aE}(a:f.y_=ps++[b]):(fO fs d f).code=bL (bA fs d) (ps.map (·.x_)).reverse b.y_ 0++[.push (bH 0),.give]:=by simp[fO,a]
def aW_(ak:fs.length<=1000000)(ah:∀k,k<fs.length->fp k=aZ (fb k)){w:aG}(h:CQ fp fb (fs.map (·.x_)) cb F w)(f:aE)(v:aQ)(hv:DD (Btw lo cb) w v f)(ae:jI fs d f)(Y:∀k∈f.y_,nC k)(aa:f.y_.length<=90000):
 Calls prog 96 #[aZ cb,v] w λe r=>∃cv,e=aX cv/\∃G q,(∀k,F k->G k)/\CP fp fb (fs.map (·.x_)) cb G r ((fO fs d f).code.map some) q/\r.cell? (aH cb 1)=some cv/\Below cb w r/\∀k,F k->r.heap[k]?=w.heap[k]?:=by
 obtain⟨⟨fv,ao,aw,n,X⟩,u⟩:=h;obtain⟨pv,bv,ps,b,rfl,m,V,ap,ac⟩:=hv;obtain⟨px,pc,rfl⟩:=V.slice;obtain⟨bx,bc,rfl⟩:=ac.sliceC;obtain⟨⟨g,t,O,af,_⟩,E⟩:=ae
 obtain⟨rfl,ad⟩:g=ps/\t=b:=by
  rw[m] at O;have:=ib O rfl;simp at this;exact⟨this.1.symm,this.2.symm⟩
 subst ad;rw[MF fs d m] at E ⊢
 simp only[el,ep,ey] at E;rw[m] at aa;simp only[el,ep,ey] at aa;have Z:=aC n;obtain⟨s,z⟩:=E_ ((w.setCell (aH cb 1) (bG)).setCell (aH cb 2) (.pointer none));have J:Below cb w s:=by rw[z];exact((eh cb w).setCell cL _).setCell cL _
 have Q:s.heap.size=w.heap.size:=by rw[z];simp
 have U:∀k,k≠cb->s.heap[k]?=w.heap[k]?:=λk m=>by rw[z,ei _ _ _ _ m,ei _ _ _ _ m]
 have P:∀k,F k->s.heap[k]?=w.heap[k]?:=λk m=>U k (u k m).2
 have y:s.heap[cb]?=some (.cells #[fv,bG,.pointer none] 177 (0,0)):=by
  rw[z,aK (aK n)];rfl
 have H:CP fp fb (fs.map (·.x_)) cb F s [] []:=by
  refine⟨⟨fv,_,_,y,⟨[],World.ownsRow_nil _ _ _ _,rfl,λi o ho=>by simp at ho⟩,rfl,X.keep P dP o_⟩,λk m=>⟨by rw[Q];exact(u k m).1,(u k m).2,?_⟩⟩
  rw[jF y];simp[Value.ownBlock]
 obtain⟨T,ab⟩:=H.new (.cells #[I_ f.l_,.string (bs f.x_),.slice px g.length pc,.slice bx t.y_.length bc] 169);rw[Q] at T
 refine(Y5 w cb f.l_ (bs f.x_) px bx g.length pc t.y_.length bc (λcv r=>∃G q,(∀k,F k->G k)/\CP fp fb (fs.map (·.x_)) cb G r ((bL (bA fs d) (g.map λa=>a.x_).reverse t.y_ 0++[aI.push (bH 0),aI.give]).map some) q/\r.cell? (aH cb 1)=some cv/\Below cb w r/\∀k,F k->r.heap[k]?=w.heap[k]?)
  (λj W=>∃G,(∀k,F k->G k)/\CP fp fb (fs.map (·.x_)) cb G W [] ((g.take j).map λa=>a.x_).reverse/\Loc cb cb s w.heap.size (.cells #[I_ f.l_,.string (bs f.x_),.slice px g.length pc,.slice bx t.y_.length bc] 169) W)
  (λW=>∃G q,(∀k,F k->G k)/\gX fp fb (fs.map (·.x_)) cb G s ((bL (bA fs d) (g.map λa=>a.x_).reverse t.y_ 0).map some) q W)
  (λW=>∃G q,(∀k,F k->G k)/\gX fp fb (fs.map (·.x_)) cb G s ((bL (bA fs d) (g.map λa=>a.x_).reverse t.y_ 0).map some++[some (aI.push (bH 0))]) q W)
  (λW=>∃G q,(∀k,F k->G k)/\gX fp fb (fs.map (·.x_)) cb G s ((bL (bA fs d) (g.map λa=>a.x_).reverse t.y_ 0).map some++[some (aI.push (bH 0))]++[some aI.give]) q W)
  Z o_ ⟨_,aA n rfl⟩ ⟨_,aA n rfl⟩ (aD n) (aD n) ?_ (λj W D hj=>?_) (λW D=>?_) (λW D=>?_) (λW D=>?_) (λW D=>?_))
 ·show ∃G,_
  rw[<-z];exact⟨F,λ_ h=>h,ab,T⟩
 ·obtain⟨G,C,B,K⟩:=D;rcases V.get with ⟨_,S⟩|⟨pg,an,am,M,au,av,I⟩
  ·rw[S] at hj;simp at hj
  cases am;obtain⟨al,aj⟩:=I j hj;have A:Below cb w W:=J.trans K.fb.bel;refine⟨pg,_,_,rfl,ej (Nat.lt_trans M.2 Z) A.size,(A.cell (p:=(aH pg (j*2))) M.2).trans al,(A.cell (p:=(aH pg (j*2+1))) M.2).trans aj,?_⟩;obtain⟨ai,N⟩:=B.new (.cells #[I_ g[j].l_,.string (bs g[j].x_)] 165);refine(E0 g[j].x_ N t_).mono ?_
  rintro e r ⟨L,q1,q2⟩;refine⟨L,λk=>G k\/k=(W.alloc (.cells #[I_ g[j].l_,.string (bs g[j].x_)] 165)).heap.size,λk m=>d7 (C k m),?_,K.step (ai.fb.trans q2)⟩
  have e9:((g.take (j+1)).map (·.x_)).reverse=g[j].x_::((g.take j).map (·.x_)).reverse:=by
   rw[gu hj,gi,List.reverse_append];rfl
  rw[e9];exact q1
 ·obtain⟨G,C,B,K⟩:=D;rw[gv cL] at B;have A:Below cb w W:=J.trans K.fb.bel;refine⟨aA K.blk rfl,aC K.blk,?_⟩;refine(rN (G4 ak ah d) _ t.y_ [] W B (ac.below A) af (λa ha=>(Y t (by rw[m];simp)).kid ha) (Y t (by rw[m];simp)).len t_ t_).mono ?_
  rintro e r ⟨L,G2,ag,l⟩;exact⟨L,G2,_,λk m=>ag k (C k m),by simpa using l.then K.fb⟩
 ·obtain⟨G,q,C,l⟩:=D;refine(emits (i:=.push (bH 0)) l ⟨_,rfl,PV.num _ _ _ o_ o_,by rw[kZ];omega⟩ t_).mono ?_
  rintro e r ⟨L,h2⟩;exact⟨L,G,q,C,h2⟩
 ·obtain⟨G,q,C,l⟩:=D;refine(emits (i:=.give) l rfl t_).mono ?_
  rintro e r ⟨L,h2⟩;exact⟨L,G,q,C,h2⟩
 ·obtain⟨G,q,C,l⟩:=D;obtain⟨ar,aq,ax,g1,⟨xs,g2,g3⟩,g4,g5⟩:=l.1.blk;obtain⟨x,c,rfl⟩:=dE g2;refine⟨l.1.lt,x,_,c,aA g1 rfl,G,q,C,?_,aA g1 rfl,J.trans l.2.bel,λk m=>?_⟩
  ·have:=l.1;simpa using this
  ·rw[H.fixed l.2 k m,P k m]
end
def a7_(w:aG)(b:Nat):Prop:=∀c,w.heap[b]?≠some (.cells c 130 (0,0))
def eF.notFn:∀{l:cN} {v:aQ},eF F w v l->eF (λb=>F b/\a7_ w b) w v l
 |[],_,h=>h
 |_::_,_,⟨b,o,g,d,a,f⟩=>⟨b,o,g,⟨d,λc e=>by rw[a] at e;cases e⟩,a,eF.notFn f⟩
def VR.notFn:∀{d:Nat} {v:aQ} {a:aM},VR d F w v a->VR d (λb=>F b/\a7_ w b) w v a
 |0,_,_,h=>h.elim
 |d+1,v,a,h=>by
  rcases h with h|h|h|⟨s,l,q,p,k⟩
  ·exact d7 h
  ·exact d6 (d7 h)
  ·exact d6 (d6 (d7 h))
  ·refine d6 (d6 (d6 ⟨s,l,q,p,?_⟩));rcases k with k|⟨g,f,j,y,r,m,z,o⟩
   ·exact d7 k
   ·refine d6 ⟨g,f,j,y,⟨r,λc e=>by rw[m] at e;cases e⟩,m,z,λi t=>?_⟩
    obtain⟨u,n,x⟩:=o i t;exact⟨u,n,VR.notFn x⟩
def lN.notFn{i:aI}(h:lN fp F w v i):lN fp (λb=>F b/\a7_ w b) w v i:=by
 cases i<;>first
  |exact h
  |(obtain⟨e,c,a⟩:=h;exact⟨e,c,a.notFn⟩)
  |(obtain⟨u,c,⟨d,a⟩,f⟩:=h;exact⟨u,c,⟨d,a.notFn⟩,f⟩)
def lN.setFn{G:bY}{u:aQ}{i:aI}{o:Nat}{c:Array Value}(h:lN fp F w v i)(d:w.heap[b]?=some (.cells c 130 (0,0)))(f:∀b,F b->G b):lN fp G (w.setCell (aH b o) u) v i:=
 h.notFn.keep (λk a=>ei _ _ _ _ λe=>a.2 c (by rw[e];exact d)) λk a=>f k a.1
section
variable {fp:eK} {fb:Nat->Nat} {nms:cN} {cb:Nat} {F:bY} {w:aG}
def PQ(a:cC)(h:CQ fp fb nms cb F w)(v:a∈nms)(O:nms.length<=1000000):
 Calls prog 97 #[aZ cb,.string (bs a)] w λe B=>e=aX (fp (nms.findIdx λx=>x==a))/\B=w:=by
 obtain⟨⟨T,L,J,p,C⟩,_⟩:=h;rcases C with ⟨rfl,_⟩|⟨g,q,rfl,H,t,I,b⟩
 ·cases v
 have N:=aC p;have M:=aA (i:=0) p rfl;have u:=aB b;clear p b;go_in
 go_wp2_with fail;go_loopg [6,12] nms.length (λgk _ i wr=>∃j:Nat,j+gk=nms.length/\i=I_ j/\j<=nms.findIdx (λx=>x==a)/\wr=w)
 case atStart=>exact⟨0,o_,rfl,ft _,rfl⟩
 case round=>
  obtain⟨j,S,rfl,f,rfl⟩:=hrel;have s:nms.findIdx (λx=>x==a)<nms.length:=List.findIdx_lt_length_of_exists ⟨a,v,s_⟩
  have o:j<nms.length:=o_
  obtain⟨m,rfl⟩:∃m,gk=m+1:=⟨gk-1,o_⟩
  obtain⟨G,k,Q,x,n⟩:=u j o;rw[k] at G;have E:=aA (i:=0) n rfl;have z:=aC n;have P:(0:Int)<=(j:Int):=o_
  have K:(j:Int)<(nms.length:Int):=o_
  by_cases l:nms[j]=a
  ·have r:nms.findIdx (λx=>x==a)=j:=by
    refine jw (Nat.not_lt.1 λc=>?_) f
    have:=List.not_of_lt_findIdx c;simp[l] at this
   have D:=aB k;rw[l] at E;clear n k u;go_wp2
   go_ret;exact⟨by rw[r,D.out];rfl,rfl⟩
  ·have A:((bs nms[j]).toList==(bs a).toList)=false:=by rw[cI,cI];simpa using l
   have d:j+1<=nms.findIdx (λx=>x==a):=by
    rcases ii f with e|e
    ·have:=ka (w:=s);simp only[<-e] at this;simp at this;exact absurd this l
    ·exact e
   generalize nms[j]=y at*;clear n k;go_wp2
   go_roundg m
   case measure=>omega
   case rel=>exact⟨j+1,o_,by go_num,d,rfl⟩
end
def pP(bl:List Nat)(k:Nat):Nat:=bl[k]?.getD 0
def GC(bl:List Nat)(k:Nat):Value:=aZ (pP bl k)
def qC{a:List Nat}{k:Nat}(h:k<a.length):pP a k=a[k]:=by simp[pP,h]
def CI1(w:aG)(fs:List aE)(j:Nat)(W:aG):Prop:=
 ∃(x:Option Addr) (c:Nat) (bl:List Nat),j<=fs.length/\W.heap[w.heap.size]?=some (.cells #[.slice x j c,bG,.pointer none] 177 (0,0))/\bl.length=j/\W.ownsRow (w.heap.size+1) 111 1 (.slice x j c) j (bl.map λb=>aZ b)/\bl.Nodup/\
  (∀i (h:i<fs.length),∀b,bl[i]?=some b->W.heap[b]?=some (.cells #[.string (bs fs[i].x_),bG] 130 (0,0))/\w.heap.size<b/\b<W.heap.size/\(Value.slice x j c).ownBlock≠some b)/\Below w.heap.size w W
def CI2(w:aG)(fs:List aE)(d j:Nat)(W:aG):Prop:=
 ∃(bl:List Nat) (F:bY),bl.length=fs.length/\(bl.Nodup/\∀b∈bl,w.heap.size<b)/\j<=fs.length/\CQ (GC bl) (pP bl) (fs.map (·.x_)) w.heap.size F W/\Below w.heap.size w W/\∀i (h:i<fs.length),i<j->C9 (GC bl) F W (GC bl i) (fO fs d fs[i])
def CI1.zero(w:aG)(fs:List aE):CI1 w fs 0 (w.alloc (.cells #[bG,bG,.pointer none] 177)):=
 ⟨none,0,[],ft _,aN _ _ rfl _,rfl,World.ownsRow_nil _ _ _ _,List.nodup_nil,λi h b a=>by simp at a,(eh _ _).alloc cL _⟩
def CI1.next{z y:aG}{j n f:Nat}{x:Option Addr}{c:Nat}{q:List Nat}{M O:Obj}(Q:j<fs.length)
 (r:q.length=j) (C:q.Nodup) (p:∀i (h:i<fs.length),∀b,q[i]?=some b->W.heap[b]?=some (.cells #[.string (bs fs[i].x_),bG] 130 (0,0))/\w.heap.size<b/\b<W.heap.size/\(Value.slice x j c).ownBlock≠some b) (u:Below w.heap.size w W) (J:w.heap.size<W.heap.size)
 (o:W.ownsRow (w.heap.size+1) 111 1 (.slice x j c) j (q.map λb=>aZ b))
 (D:z=((W.alloc M).alloc (.cells #[.string (bs fs[j].x_),bG] 130)).alloc O)
 (H:y.ownsRow (w.heap.size+1) 111 1 (.slice (some (aH n 0)) (j+1) f) (j+1) ((q.map λb=>aZ b)++[aZ (W.heap.size+1)]))
 (d:z.grownBy y (Value.slice x j c).ownBlock) (s:(Value.slice x j c).ownBlock=some n\/n=W.heap.size+3)
 (F:y.heap[w.heap.size]?=some (.cells #[.slice x j c,bG,.pointer none] 177 (0,0))):
 CI1 w fs (j+1) (y.setCell (aH w.heap.size 0) (.slice (some (aH n 0)) (j+1) f)):=by
 have K:z.heap.size=W.heap.size+3:=by rw[D];simp
 have N:=d.size;have t:n≠w.heap.size:=by have:=(H.lt n rfl).1;omega
 have v:Below W.heap.size W z:=by rw[D];exact(((eh _ _).alloc cL _).alloc s_ _).alloc t_ _
 refine⟨some (aH n 0),f,q++[W.heap.size+1],Q,?_,by simp[r],?_,?_,λi E b l=>?_,?_⟩
 ·rw[aK F];rfl
 ·rw[gi];exact aY H λk G=>ei _ _ _ _ (by cases G;exact t)
 ·refine gt.2 ⟨C,s_,λa T b l=>?_⟩
  simp at l;obtain⟨i,E,rfl⟩:=List.getElem_of_mem T;have:=(p i o_ _ (fh E)).2.2.1
  omega
 ·rcases fu i q.length with m|m
  ·rw[hQ m] at l;obtain⟨P,L,S,I⟩:=p i E b l;refine⟨?_,L,t_,λe=>?_⟩
   ·rw[ei _ _ _ _ (show b≠w.heap.size by omega),d.block b o_ (λe=>I e.symm),v.block b S];exact P
   ·have B:n=b:=by simpa [Value.ownBlock] using e
    rcases s with h|h
    ·exact I (by rw[<-B];exact h)
    ·omega
  ·rw[gl m] at l
   have A:i=j:=by
    rcases ii m with h|h
    ·omega
    ·rw[gp t_] at l;cases l
   subst A;rw[r,Nat.sub_self] at l;simp at l;subst l;have g:(Value.slice x i c).ownBlock≠some (W.heap.size+1):=λe=>by have:=(o.lt _ e).2;omega
   refine⟨?_,o_,t_,λe=>?_⟩
   ·rw[ei _ _ _ _ (show W.heap.size+1≠w.heap.size by omega),d.block _ o_ (λe=>g e.symm),D,ek _ _ _ s_]
    exact aN _ _ s_ _
   ·have B:n=W.heap.size+1:=by simpa [Value.ownBlock] using e
    rcases s with h|h
    ·exact g (by rw[<-B];exact h)
    ·omega
 ·refine((u.trans (v.mono o_)).trans ?_).setCell cL _
  exact⟨d.os,d.tape,d.output,o_,λk G=>d.block k o_ (λe=>by have:=(o.lt k e.symm).1;omega)⟩
def F1(fs:List aE)(k:Nat)(h:k<(fs.map (·.x_)).length):(fs.map (·.x_))[k]=(fs[k]'(by simpa using h)).x_:=s_
def pH(g j:Nat):(⟨g,0,none⟩:Addr).add j=⟨g,j,none⟩:=by unfold Addr.add;split<;>simp_all
def CI2.zero(n:fs≠[])(h:CI1 w fs fs.length W):CI2 w fs d 0 W:=by
 obtain⟨x,c,f,_,C,y,t,B,q,G⟩:=h;have s:0<fs.length:=gx.2 n;have e:=t;rcases t.2 with ⟨r,F⟩|⟨g,p,E,r,F,I,A,J⟩
 ·omega
 obtain⟨rfl,rfl⟩:x=some (aH g 0)/\c=p:=by simpa using r
 have l:=e.lt g rfl;refine⟨f,λk=>k=g\/k∈f,y,⟨B,λb z=>?_⟩,ft _,⟨⟨_,_,_,C,d6 ⟨g,c,s_,d7 rfl,by simp;exact A,l.2,λk j=>?_⟩⟩,λk j=>?_⟩,G,λi _ m=>by omega⟩
 ·obtain⟨i,m,rfl⟩:=List.getElem_of_mem z;exact(q i o_ f[i] (fh m)).2.1
 ·have o:k<fs.length:=by simpa using j
  have a:k<f.length:=o_
  obtain⟨u,D,v,H⟩:=q k o f[k] (fh a);refine⟨?_,rfl,d6 (by rw[qC a];exact fo a),_,by rw[qC a,u,F1]⟩
  have:=e.cells (g:=g) rfl k (GC f k) (by simp[GC,qC a,a])
  rw[pH] at this;exact this
 ·rcases j with rfl|j
  ·exact⟨l.2,o_⟩
  ·obtain⟨i,m,rfl⟩:=List.getElem_of_mem j;obtain⟨u,D,v,H⟩:=q i o_ f[i] (fh m)
   exact⟨v,o_⟩
def CI2.next{w1:aG}{j:Nat}{a:List Nat}{G:bY}{sn:cN}{cv:aQ}(hj:j<fs.length)(Y:a.length=fs.length)(t:a.Nodup/\∀b∈a,w.heap.size<b)(A:Below w.heap.size w W)(J:∀i (h:i<fs.length),i<j->C9 (GC a) F W (GC a i) (fO fs d fs[i]))
 (s:∀k,F k->G k) (p:CP (GC a) (pP a) (fs.map (·.x_)) w.heap.size G w1 ((fO fs d fs[j]).code.map some) sn) (X:w1.cell? (aH w.heap.size 1)=some cv) (ad:Below w.heap.size W w1) (T:∀k,F k->w1.heap[k]?=W.heap[k]?) (ae:0<(fO fs d fs[j]).code.length):
 CI2 w fs d (j+1) (w1.setCell (aH (pP a j) 1) cv):=by
 have r:j<a.length:=o_
 obtain⟨fv,V,sp,h1,⟨xs,h2,h3⟩,h4,h5⟩:=p.blk
 obtain rfl:V=cv:=by
  have:=aA h1 (i:=1) rfl;rw[X] at this;exact(Option.some.inj this).symm
 have n:j<(fs.map (·.x_)).length:=by simpa using hj
 rcases h5 with ⟨e,_⟩|⟨g,ac,rfl,k1,k2,k3,M⟩
 ·rw[e] at n;simp at n
 obtain⟨m1,m2,m3,x,B⟩:=M j n;have aa:=p.fix _ m3;rcases h2.2 with ⟨_,r2⟩|⟨v,c,P,rfl,r2,Z,r4,r5,r6,r7⟩
 ·rw[List.length_map] at r2;omega
 have Q:v≠pP a j:=λe=>by rw[e,B] at Z;cases Z
 have E:∀k (h:k<(fs.map (·.x_)).length),g≠pP a k:=λk m e=>by
  obtain⟨z1,z2,z3,z,O⟩:=M k m;obtain⟨y1,_⟩:=M 0 o_
  have:=aA O (i:=0) rfl;rw[<-e,y1] at this;cases this
 have f:∀k,k≠pP a j->(w1.setCell (aH (pP a j) 1) (.slice (some (aH v 0)) ((fO fs d fs[j]).code.map some).length c)).heap[k]?=w1.heap[k]?:=λk m=>ei _ _ _ _ m
 have I:(w1.setCell (aH (pP a j) 1) (.slice (some (aH v 0)) ((fO fs d fs[j]).code.map some).length c)).heap[pP a j]?=some (.cells #[.string (bs (fs.map (·.x_))[j]),.slice (some (aH v 0)) ((fO fs d fs[j]).code.map some).length c] 130 (0,0)):=by
  rw[aK B];rfl
 have l:∀i (L:i<a.length),i≠j->pP a i≠pP a j:=λi L D e=>by
  rw[qC L,qC r] at e;exact D ((List.getElem_inj t.1).1 e)
 refine⟨a,λk=>G k\/k=v,Y,t,hj,⟨⟨_,_,_,by rw[f _ (λe=>aa.2.1 e.symm)];exact h1,d6 ⟨g,ac,rfl,d7 k1,k2,by simpa using k3,λk m=>?_⟩⟩,λk m=>?_⟩,?_,λi L D=>?_⟩
 ·obtain⟨z1,z2,z3,z,O⟩:=M k m;refine⟨?_,z2,d7 z3,?_⟩
  ·rw[World.cell?_of_block (f g (E j n))];exact z1
  ·by_cases y:k=j
   ·subst y;exact⟨_,I⟩
   ·exact⟨z,by rw[f _ (l k (by simp at m;omega) y)];exact O⟩
 ·rcases m with m|rfl
  ·have:=p.fix k m;exact⟨by simpa using this.1,this.2.1⟩
  ·have:=h2.lt k rfl;exact⟨by simpa using this.2,o_⟩
 ·exact(A.trans ad).setCell (il (by show w.heap.size<pP a j;rw[qC r];exact t.2 _ (fo r))) _
 ·by_cases o:i=j
  ·subst o;refine⟨pP a i,v,c,P,rfl,d7 m3,?_,d6 rfl,by rw[f _ Q];exact Z,λq N=>?_⟩
   ·rw[I,F1];simp only[List.length_map];rfl
   ·obtain⟨u,u1,u2⟩:=h3.2 q (some (fO fs d fs[i]).code[q]) (by simp[N])
    refine⟨u,?_,lN.setFn u2 B λ_ h=>d7 h⟩
    rw[<-r7] at u1;have ab:q<((fO fs d fs[i]).code.map some).length*1:=by simpa using N
    rw[List.getElem?_take_of_lt ab] at u1;simpa using u1
  ·obtain⟨U,H,K,C,a1,a2,a3,a4,a5,a6⟩:=J i L o_
   obtain rfl:U=pP a i:=by simpa [GC] using a1.symm
   have b3:w1.heap[pP a i]?=_:=(T _ a2).trans a3;have S:w1.heap[H]?=_:=(T _ a4).trans a5;refine⟨pP a i,H,K,C,rfl,d7 (s _ a2),by rw[f _ (l i o_ o)];exact b3,d7 (s _ a4),by rw[f _ (λe=>by rw[e,B] at S;cases S)];exact S,λq N=>?_⟩
   obtain⟨u,u1,u2⟩:=a6 q N;exact⟨u,u1,lN.setFn (u2.keep T s) B λ_ h=>d7 h⟩
def VD{lo:Nat}(v:aQ)(w:aG)(h:FSl (Btw lo w.heap.size) w v fs)(am:fs.length<=90000)(Z:∀f∈fs,jI fs d f)(ad:∀f∈fs,∀k∈f.y_,nC k)(s:∀f∈fs,f.y_.length<=90000)(hm:[109,97,105,110]∈fs.map (·.x_)):
 Calls prog 61 #[v] w λe r=>∃fp F,e=aX (fp (dG fs [109,97,105,110]))/\lZ fp F r (dC fs d)/\Below w.heap.size w r/\∀k,F k->k<r.heap.size:=by
 have L:fs≠[]:=λe=>by rw[e] at hm;simp at hm
 rcases h.cells with ⟨_,e⟩|⟨H,ae,rfl,al,z,ah,hc⟩
 ·exact absurd e L
 refine(PM w H fs.length ae (λv r=>∃fp F,v=fp (dG fs [109,97,105,110])/\lZ fp F r (dC fs d)/\Below w.heap.size w r/\∀k,F k->k<r.heap.size) (CI1 w fs) (CI2 w fs d) o_ (CI1.zero w fs) (λj W E y=>?_) (λW E=>CI2.zero L E) (λj W E y=>?_) (λW E=>?_)).mono ?_
 ·obtain⟨x,c,J,h0,K,V,U,D,C,I⟩:=E;obtain⟨pv,bv,ps,b,Y,e1,e2,e3,m,A,M,B⟩:=hc j y;obtain⟨px,pc,rfl⟩:=A.slice;obtain⟨bx,bc,rfl⟩:=B.sliceC;have a:∀o u,w.cell? (aH H o)=some u->W.cell? (aH H o)=some u:=λo u hu=>by rw[I.cell (p:=(aH H o)) z];exact hu
  exact⟨aC K,ej z I.size,_,_,_,_,_,_,_,_,_,_,_,_,_,a _ _ Y,a _ _ e1,a _ _ e2,a _ _ e3,K,U,λW3 g4 ai w4 a1 a2 a3 a4 a5=>CI1.next y V D C I (aC K) U a1 a2 a3 a4 a5⟩
 ·obtain⟨J,F,K,V,U,D,C,I⟩:=E;obtain⟨pv,bv,ps,b,Y,e1,e2,e3,m,A,M,B⟩:=hc j y;have ag:DD (Btw lo w.heap.size) w (.agg #[I_ fs[j].l_,.string (bs fs[j].x_),pv,bv]) fs[j]:=⟨pv,bv,ps,b,rfl,m,A,M,B⟩;obtain⟨px,pc,rfl⟩:=A.slice;obtain⟨bx,bc,rfl⟩:=B.sliceC;have a:∀o u,w.cell? (aH H o)=some u->W.cell? (aH H o)=some u:=λo u hu=>by rw[C.cell (p:=(aH H o)) z];exact hu
  have ac:=D;obtain⟨⟨fv,cv,sp,q1,q2⟩,q3⟩:=D;have n:j<(fs.map (·.x_)).length:=by simpa using y
  rcases q2 with ⟨e,_⟩|⟨g,c,rfl,k1,k2,k3,k4⟩
  ·rw[e] at n;simp at n
  obtain⟨m1,m2,m3,x,m4⟩:=k4 j n;rw[m2] at m1;have Q:(fs.map (·.x_)).length=fs.length:=s_
  refine⟨aC q1,ej z C.size,_,_,_,_,_,_,_,_,g,c,pP J j,a _ _ Y,a _ _ e1,a _ _ e2,a _ _ e3,by rw[<-Q];exact aA q1 rfl,k3,m1,λW' hS=>?_⟩
  have l:Below W.heap.size W W':=((eh _ _).alloc cL _).trans (hS.below.mono s_)
  have P:CQ (GC J) (pP J) (fs.map (·.x_)) w.heap.size F W':=by
   obtain⟨⟨fv,cv,sp,z1,z2⟩,z3⟩:=ac;exact⟨⟨fv,cv,sp,by rw[l.block _ (aC z1)];exact z1,z2.keep (λk q=>l.block k (z3 k q).1) dP l.size⟩,λk q=>⟨ej (z3 k q).1 l.size,(z3 k q).2⟩⟩
  have aj:=aC q1;refine(aW_ (lo:=lo) (d:=d) o_ (λk _=>rfl) P fs[j] _ (ag.keep (λk q=>(C.trans (l.mono o_)).block k q.2) dP) (Z _ (fo y)) (ad _ (fo y)) (s _ (fo y))).mono ?_
  rintro e r ⟨ab,X,G,sn,af,t,O,T,hF⟩;have N:0<(fO fs d fs[j]).code.length:=by rw[MF fs d m];simp
  have ak:=t;obtain⟨an,aa,ao,y1,⟨xs,y2,y3⟩,y4,y5⟩:=t.blk
  obtain rfl:aa=ab:=by
   have:=aA y1 (i:=1) rfl;rw[O] at this;exact(Option.some.inj this).symm
  obtain⟨x',c',rfl⟩:=dE y2;have S:∀k,F k->r.heap[k]?=W.heap[k]?:=λk q=>by rw[hF k q,l.block k (q3 k q).1]
  rcases y5 with ⟨e,_⟩|⟨g2,c2,rfl,l1,l2,l3,l4⟩
  ·rw[e] at n;simp at n
  obtain⟨n1,n2,n3,x2,n4⟩:=l4 j n;rw[n2] at n1;refine⟨x',_,c',X,t.lt,⟨g2,c2,by rw[<-Q];exact aA y1 rfl,l3,n1⟩,ej k3 (em l.size T.size),?_,aC n4,⟨_,aA n4 rfl⟩,aD n4,?_⟩
  ·rw[World.cell?_of_block (S g k1)];exact m1
  ·exact CI2.next y K V C I af t O ((l.mono o_).trans T) S N
 ·obtain⟨J,F,K,V,U,D,C,I⟩:=E;refine(PQ [109,97,105,110] D hm (by simpa using (by omega:fs.length<=1000000))).mono ?_
  rintro e r ⟨X,rfl⟩;rw[GD] at X;refine⟨_,X,GC J,F,rfl,λk f hf=>?_,C,λk q=>(D.2 k q).1⟩
  have s:k<fs.length:=by
   rcases fu k fs.length with h|h
   ·exact h
   ·rw[gp (by simpa [dC] using h)] at hf;cases hf
  have:f=fO fs d fs[k]:=by simpa [dC,s] using hf.symm
  rw[this];exact I k s s
 ·rintro e r ⟨v,rfl,fp,F,rfl,h⟩;exact⟨fp,F,rfl,h⟩
def WS(w:aG)(D:Option Addr)(N Z:Nat)(Y:Option Addr)(X c1:Nat)(P:Value->World->Prop)(A:Value->World->Prop)(T:Value->Nat->Value->World->Prop)(B:Nat->World->Prop)
 (HC:Hid (Calls prog 61 #[.slice D N Z] (w.alloc (.cells #[I_ 0,bG,bG,bG,I_ 0] 53)) λe g=>∃p,e=aX (.pointer p)/\A (.pointer p) g))
 (HT:Hid (∀p W,A (.pointer p) W->Calls prog 62 #[.slice Y X c1] (W.alloc (.cells #[.pointer p,I_ 0,I_ 0,.pointer none,bG,bG] 118)) λe g=>∃x n c,e=aX (.slice x n c)/\T (.pointer p) W.heap.size (.slice x n c) g))
 (HG:Hid (∀p u x n c W,T (.pointer p) u (.slice x n c) W->Calls prog 63 #[aZ W.heap.size] (W.alloc (.cells #[I_ 0,.slice (some (aH u 0)) 1 1,.slice x n c,bG,I_ 0] 53)) λe g=>e=aX (.tuple #[])/\B W.heap.size g))
 (HB:Hid (∀b W,B b W->∃(q:Nat) (f t o:aQ) (m:Nat),W.heap[b]?=some (.cells #[I_ q,f,t,o,I_ m] 53 (0,0))/\(∃x l c,f=.slice x l c)/\(∃x l c,t=.slice x l c)/\(∃x l c,o=.slice x l c)/\W.heap[w.heap.size]?=some (.cells #[I_ 0,bG,bG,bG,I_ 0] 53 (0,0))/\b≠w.heap.size/\
   ∀r,Kept [w.heap.size] W r->r.heap.size=W.heap.size->P (.agg #[I_ q,f,t,o,I_ m]) r)):
 Calls prog 32 #[.slice D N Z,.slice Y X c1] w λe g=>∃F,e=aX F/\P F g:=by
 go_in
 go_wp2_with fail;refine HC.mono ?_;rintro e w1 ⟨p,rfl,M⟩;have k:=aB (HT _ _ M);generalize ab:w1.heap.size=u at k;clear M;go_wp2_with fail;refine k.mono ?_;rintro e w2 ⟨x,n,c,rfl,G⟩;have j:=aB (HG _ _ _ _ _ _ G);generalize hb:w2.heap.size=b at j;clear G;go_wp2_with fail;refine j.mono ?_;rintro e d ⟨rfl,K⟩;obtain⟨q,f,t,o,m,h,⟨L,H,Q,rfl⟩,⟨I,U,J,rfl⟩,⟨S,E,V,rfl⟩,a,q3,O⟩:=HB _ _ K;have HQ:=aB O;have aa:=aA (i:=0) h rfl;have am:=aA (i:=1) h rfl;have ah:=aA (i:=2) h rfl;have al:=aA (i:=3) h rfl;have af:=aA (i:=4) h rfl;have s:=aA (i:=0) a rfl;have z:=aA (i:=1) a rfl;have v:=aA (i:=2) a rfl;have C:=aA (i:=3) a rfl;have y:=aA (i:=4) a rfl;have ae:=aD (i:=0) a;have ak:=aD (i:=1) a;have ai:=aD (i:=2) a;have ac:=aD (i:=3) a;have ag:=aD (i:=4) a;have aj:=aC h;have ad:=aC a;clear K O h a;go_wp2_with fail;refine⟨rfl,.agg #[I_ q,.slice L H Q,.slice I U J,.slice S E V,I_ m],?_,_,rfl,HQ _ ?_ s_⟩
 ·simp[results,results32,go_sem,s,z,v,C,y]
 ·exact(((((Kept.refl _ _).setCell _ _ s_).setCell _ _ s_).setCell _ _ s_).setCell _ _ s_).setCell _ _ s_
def H9(w:aG)(v:aQ)(l:List Int):Prop:=
 (l=[]/\v=bG)\/∃g o c,v=.slice (some (aH g o)) l.length c/\g<w.heap.size/\∀i (h:i<l.length),w.cell? (aH g (o+i))=some (I_ l[i])/\ -9223372036854775808<=l[i]/\l[i]<=9223372036854775807
def IR(w:aG)(v:aQ)(l:List Int)(h:H9 w v l)(E:l.length<=17592186044416):∃x n c,v=.slice x n c/\Calls prog 62 #[.slice x n c] w λe d=>∃x n c,e=aX (.slice x n c)/\Below w.heap.size w d/\tK (λk=>w.heap.size<=k/\k<d.heap.size) d (.slice x n c) l:=by
 rcases h with ⟨rfl,rfl⟩|⟨g,o,c,rfl,H,y⟩
 ·refine⟨none,0,0,rfl,(KL w).mono ?_⟩;rintro e d ⟨rfl,rfl⟩;exact⟨_,_,_,rfl,eh _ _,d7 ⟨rfl,none,0,rfl⟩⟩
 ·refine⟨_,_,_,rfl,(KM g o l.length c (l.map λn=>Value.int .i64 n) w s_ E (λj u f=>?_) (λu F=>?_)).mono ?_⟩
  ·rw[ji] at f;cases b:l[j]? with
   |none=>rw[b] at f;cases f
   |some n=>
    rw[b] at f;obtain⟨r,rfl⟩:=gq.1 b;rw[(y j r).1];exact f
  ·obtain⟨n,_,rfl⟩:=gz.1 F;rfl
  ·rintro e d ⟨G,rfl,a,B⟩;obtain⟨x,s,rfl⟩:=dE a;refine⟨x,_,s,rfl,B,?_⟩;rcases a.2 with ⟨p,m⟩|⟨t,q,D,p,m,A,C⟩
   ·exact d7 ⟨ja.1 m,x,s,by rw[m]⟩
   ·refine d6 ⟨t,0,q,p,C.1,⟨m,aC A⟩,λi z=>⟨?_,(y i z).2⟩⟩
    have:=a.cells (g:=t) (by rw[p];rfl) i (I_ l[i]) (by simp[z])
    rw[pH] at this;simpa using this
def C9.ptr{f:eV}(h:C9 fp F w v f):∃p,v=.pointer p:=by
 obtain⟨b,_,_,_,a,_⟩:=h;exact⟨_,a⟩
def Kept.below{own:List Nat}{w':aG}{n:Nat}(h:Kept own w w')(d:n<=w.heap.size)(b:∀k∈own,n<=k):Below n w w':=
 ⟨h.os,h.tape,h.output,h.size,λk c=>h.block k o_ λa=>by have:=b k a;omega⟩
def Ty4(w:aG)(b:Nat):Prop:=∃c t,w.heap[b]?=some (.cells c t (0,0))/\(t=133\/t=136\/t=130\/t=228)
section
variable {fp:eK} {F:bY} {w:aG}
def eF.ty:∀{l:cN} {v:aQ},eF F w v l->eF (λb=>F b/\Ty4 w b) w v l
 |[],_,h=>h
 |_::_,_,⟨b,o,e,c,a,d⟩=>⟨b,o,e,⟨c,_,_,a,d7 rfl⟩,a,eF.ty d⟩
def VR.ty:∀{d:Nat} {v:aQ} {a:aM},VR d F w v a->VR d (λb=>F b/\Ty4 w b) w v a
 |0,_,_,h=>h.elim
 |d+1,v,a,h=>by
  rcases h with h|h|h|⟨q,l,o,n,f⟩
  ·exact d7 h
  ·exact d6 (d7 h)
  ·exact d6 (d6 (d7 h))
  ·refine d6 (d6 (d6 ⟨q,l,o,n,?_⟩));rcases f with f|⟨g,c,e,t,p,j,x,m⟩
   ·exact d7 f
   ·refine d6 ⟨g,c,e,t,⟨p,_,_,j,d6 (d7 rfl)⟩,j,x,λi r=>?_⟩
    obtain⟨u,k,s⟩:=m i r;exact⟨u,k,VR.ty s⟩
def lN.ty{v:aQ}{i:aI}(h:lN fp F w v i):lN fp (λb=>F b/\Ty4 w b) w v i:=by
 cases i<;>first
  |exact h
  |(obtain⟨e,c,a⟩:=h;exact⟨e,c,a.ty⟩)
  |(obtain⟨u,c,⟨d,a⟩,f⟩:=h;exact⟨u,c,⟨d,a.ty⟩,f⟩)
def lZ.ty{a:List eV}(h:lZ fp F w a):lZ fp (λb=>F b/\Ty4 w b) w a:=λk f l=>by
 obtain⟨n,m,c,d,q,r,e,j,g,p⟩:=h k f l;refine⟨n,m,c,d,q,⟨r,_,_,e,d6 (d6 (d7 rfl))⟩,e,⟨j,_,_,g,d6 (d6 (d6 rfl))⟩,g,λi o=>?_⟩
 obtain⟨u,u1,u2⟩:=p i o;exact⟨u,u1,u2.ty⟩
end
def New(w:aG)(b:Nat):Prop:=w.heap.size<b\/(b<w.heap.size/\Ty4 w b)
def New.ne(h:New w b):b≠w.heap.size:=by
 rcases h with h|h<;>omega
def Nw(w:aG)(b:Nat):Prop:=w.heap.size<=b\/Ty4 w b
def Nw.of(e:Below w.heap.size w W)(h:Nw W b):Nw w b:=by
 rcases fu b w.heap.size with a|a
 ·rcases h with h|⟨c,t,d,f⟩
  ·have:=e.size;omega
  ·rw[e.block _ a] at d;exact d6 ⟨c,t,d,f⟩
 ·exact d7 a
def New.nw(h:New w b):Nw w b:=by
 rcases h with h|h
 ·exact d7 o_
 ·exact d6 h.2
def YI{lo k:Nat}{j:List Int}{r:cS × Nat}(v tv:aQ)(w:aG)(h:FSl (Btw lo w.heap.size) w v fs)(bd:fs.length<=90000)(Y:∀f∈fs,jI fs d f)(bf:∀f∈fs,∀k∈f.y_,nC k)(bg:∀f∈fs,f.y_.length<=90000)(hm:fZ fs (dG fs [109,97,105,110])=some 0)
 (ht:H9 w tv j) (bh:j.length<=17592186044416) (hp:kE w) (hU:kK (dC fs d)) (q:dR (dC fs d) k (gD fs d j)=some r) (hr:r.2<=1000):
 Calls prog 32 #[v,tv] w λe I=>∃v',e=aX v'/\Below w.heap.size w I/\∃fp G,(∀b,G b->b<I.heap.size/\New w b)/\lZ fp G I (dC fs d)/\jC fp G I v' ⟨0,r.1,cA 0 r.2⟩:=by
 have V:dG fs [109,97,105,110]<fs.length:=by
  unfold fZ at hm;rcases fu (dG fs [109,97,105,110]) fs.length with h|h
  ·exact h
  ·rw[gp h] at hm;cases hm
 have al:[109,97,105,110]∈fs.map (·.x_):=by
  have:=ka (p:=λf:aE=>f.x_==[109,97,105,110]) (xs:=fs) (w:=V)
  exact gz.2 ⟨_,fo V,eq_of_beq this⟩
 obtain⟨x0,c0,rfl⟩:∃x c,v=.slice x fs.length c:=by
  rcases h with ⟨rfl,rfl⟩|⟨g,ad,bm,us,rfl,_⟩
  ·exact⟨none,0,rfl⟩
  ·exact⟨_,_,rfl⟩
 obtain⟨x1,n1,c1,rfl⟩:∃x n c,tv=.slice x n c:=by
  rcases ht with ⟨_,rfl⟩|⟨g,o,c,rfl,_⟩
  ·exact⟨_,_,_,rfl⟩
  ·exact⟨_,_,_,rfl⟩
 generalize ac:(dC fs d)[dG fs [109,97,105,110]]?.getD ⟨[],[]⟩=f0
 have M:(dC fs d)[dG fs [109,97,105,110]]?=some f0:=by
  rw[fh (by simpa [dC] using V)] at ac ⊢
  simpa using ac
 have ar:gD fs d j=⟨[⟨f0,0,0,[],[],[]⟩],j,[]⟩:=by rw[<-ac];rfl
 have ak:=vY Y hm j
 have ax:gK (gD fs d j):=by
  rw[ar];intro f hf;simp at hf;subst hf;exact⟨hU _ (gy M),λv hv=>by simp at hv,λv hv=>by simp at hv⟩
 rw[ar] at ak ax q;obtain⟨s,P⟩:=E_ (w.alloc (.cells #[I_ 0,bG,bG,bG,I_ 0] 53));have N:Below w.heap.size w s:=by rw[P];exact(eh _ _).alloc cL _
 have bn:s.heap.size=w.heap.size+1:=by rw[P];simp
 have af:s.heap[w.heap.size]?=some (.cells #[I_ 0,bG,bG,bG,I_ 0] 53 (0,0)):=by rw[P];exact aN _ _ rfl _
 have ay:FSl (Btw lo s.heap.size) s (.slice x0 fs.length c0) fs:=h.grow (λb z=>N.block b z.2) λb z=>⟨z.1,by have:=z.2;omega⟩
 refine(WS w x0 fs.length c0 x1 n1 c1 (λv' I=>Below w.heap.size w I/\∃fp G,(∀b,G b->b<I.heap.size/\New w b)/\lZ fp G I (dC fs d)/\jC fp G I v' ⟨0,r.1,cA 0 r.2⟩)
  (λp W=>∃fp F,p=fp (dG fs [109,97,105,110])/\lZ fp F W (dC fs d)/\Below s.heap.size s W/\∀k,F k->k<W.heap.size)
  (λp A Q W=>∃fp F,p=fp (dG fs [109,97,105,110])/\lZ fp F W (dC fs d)/\Below s.heap.size s W/\(∀k,F k->k<W.heap.size/\k≠A)/\s.heap.size<=A/\A<W.heap.size/\W.heap[A]?=some (.cells #[p,I_ 0,I_ 0,.pointer none,bG,bG] 118 (0,0))/\tK F W Q j/\∀k,F k->New w k)
  (λb W=>∃fp F A ad Q y E,Below s.heap.size s W/\s.heap.size<=b/\dA false fp F s.heap.size W b A ad (I_ ((0:Nat):Int)) Q y (I_ (cA 0 r.2)) E r.1/\lZ fp F W (dC fs d)/\(∀k∈aR false b A y E,s.heap.size<=k)/\∀k,F k->New w k)
  ?_ (λp W hq=>?_) (λp A x n c W hq=>?_) (λb W hq=>?_))
 ·show Calls _ _ _ _ _
  rw[<-P];refine(VD (lo:=lo) (d:=d) _ s ay bd Y bf bg al).mono ?_;rintro e I ⟨fp,F,he,hT,z,O⟩;obtain⟨p,au⟩:=(hT _ _ M).ptr;exact⟨p,by rw[he,au],fp,F,au.symm,hT,z,O⟩
 ·obtain⟨fp,F,ab,hT,z,O⟩:=hq;have be:=hT.ty
  have hN:∀k,Ty4 W k->New w k:=λk ⟨c,t,u,h2⟩=>by
   rcases Nat.lt_trichotomy k w.heap.size with h|rfl|h
   ·rw[z.block _ o_,N.block _ h] at u;exact d6 ⟨h,c,t,u,h2⟩
   ·rw[z.block _ o_,af] at u
    simp only[Option.some.injEq,Obj.cells.injEq] at u;rw[<-u.2.1] at h2;exact absurd h2 d_
   ·exact d7 h
  generalize H:W.alloc (.cells #[.pointer p,I_ 0,I_ 0,.pointer none,bG,bG] 118)=B;have D:Below W.heap.size W B:=by rw[<-H];exact(eh _ _).alloc cL _
  have az:B.heap.size=W.heap.size+1:=by rw[<-H];simp
  have ae:B.heap[W.heap.size]?=some (.cells #[.pointer p,I_ 0,I_ 0,.pointer none,bG,bG] 118 (0,0)):=by rw[<-H];exact aN _ _ rfl _
  have ai:Below w.heap.size w B:=N.trans ((z.mono o_).trans (D.mono (by have:=z.size;omega)))
  have bi:H9 B (.slice x1 n1 c1) j:=by
   rcases ht with ht|⟨g,o,c,e,hg,hc⟩
   ·exact d7 ht
   ·exact d6 ⟨g,o,c,e,ej hg ai.size,λi hi=>⟨(ai.cell (p:=(aH g (o+i))) hg).trans (hc i hi).1,(hc i hi).2⟩⟩
  obtain⟨x,n,c,e,bl⟩:=IR B _ j bi bh;rw[e];refine bl.mono ?_;rintro e I ⟨x',n',c',he,S,X⟩;have ao:Below W.heap.size W I:=D.trans (S.mono o_)
  refine⟨x',n',c',he,fp,λk=>(F k/\Ty4 W k)\/(B.heap.size<=k/\k<I.heap.size),ab,be.keep (λk q=>ao.block k (O k q.1)) λ_ h=>d7 h,z.trans (ao.mono z.size),λk q=>?_,z.size,by have:=S.size;omega,by rw[S.block _ o_];exact ae,X.keep (λ_ _=>rfl) λ_ h=>d6 h,λk q=>by
   rcases q with u|u
   ·exact hN k u.2
   ·have:=z.size;exact d7 o_⟩
  have:=S.size;rcases q with u|u
  ·have:=O k u.1;omega
  ·omega
 ·obtain⟨fp,F,ab,hT,z,O,bc,bk,bb,X,bj⟩:=hq;generalize H:W.alloc (.cells #[I_ 0,.slice (some (aH A 0)) 1 1,.slice x n c,bG,I_ 0] 53)=B;have D:Below W.heap.size W B:=by rw[<-H];exact(eh _ _).alloc cL _
  have az:B.heap.size=W.heap.size+1:=by rw[<-H];simp
  have ae:B.heap[W.heap.size]?=some (.cells #[I_ 0,.slice (some (aH A 0)) 1 1,.slice x n c,bG,I_ 0] 53 (0,0)):=by rw[<-H];exact aN _ _ rfl _
  have aa:lZ fp F B (dC fs d):=hT.keep (λk q=>D.block k (O k q).1) dP
  have C:aR false W.heap.size A (bG) [⟨.pointer p,I_ 0,I_ 0,.pointer none,bG,bG⟩]=[W.heap.size,A]:=rfl;have T:lA F s.heap.size B (bG) []:=⟨⟨[],World.ownsRow_nil _ _ _ _,gP.nil _ _⟩,λa ha=>by simp at ha⟩
  have ap:dA false fp F s.heap.size B W.heap.size A 1 (I_ ((0:Nat):Int)) (.slice x n c) (bG) (I_ 0) [⟨.pointer p,I_ 0,I_ 0,.pointer none,bG,bG⟩] ⟨[⟨f0,0,0,[],[],[]⟩],j,[]⟩:=by
   refine⟨ae,⟨rfl,d6 ⟨A,1,_,rfl,bc,by rw[D.block _ bk];exact bb,cL,by unfold maxLen;omega,rfl,rfl⟩⟩,⟨⟨?_,rfl,rfl,rfl,T,T⟩,trivial⟩,X.keep (λk q=>D.block k (O k q).1) dP,World.ownsRow_nil _ _ _ _,?_,?_,λk q=>?_⟩
   ·show C9 fp F B (.pointer p) f0
    rw[ab];exact aa _ _ M
   ·rw[C];simp;omega
   ·rw[C];simp;omega
   ·rw[C];have:=O k q;simp;omega
  have m:Below s.heap.size s B:=z.trans (D.mono z.size);have an:Below w.heap.size w B:=N.trans (m.mono o_)
  refine(TP (mH Y) hU ap aa (DC.of hp an λk q=>?_) m.size ak ax s_ t_ q o_ hr).mono ?_
  ·rw[C] at q;have:=z.size;simp at q;omega
  rintro e I ⟨he,Z,G,aw,aj,av,K,U,d1,d2,d3⟩;rw[C] at d3 Z
  have aq:∀x∈aR false W.heap.size aw K U,s.heap.size<=x:=λx hx=>by
   have:=z.size;rcases d3 x hx with u|u
   ·simp at u;omega
   ·omega
  have ba:∀k∈[W.heap.size,A],s.heap.size<=k:=λk q=>by have:=z.size;simp at q;omega
  refine⟨he,fp,G,aw,aj,av,K,U,m.trans (Z.below m.size ba),z.size,d2,?_,aq,λk q=>?_⟩
  ·refine aa.keep (λk q=>Z.block k (ej (O k q).1 D.size) λhm=>?_) d1.sub
   have:=O k q;simp at hm;omega
  ·rcases d1.new k q with u|u
   ·exact bj k u
   ·have:=m.size;exact d7 o_
 ·obtain⟨fp,F,A,ad,Q,y,E,g1,g2,g5,gT,g6,g7⟩:=hq;have am:=g5.blk;refine⟨_,_,_,_,_,am,⟨_,_,_,rfl⟩,?_,vX g5.out,by rw[g1.block _ o_];exact af,o_,λB L ah=>?_⟩
  ·rcases g5.tape with ⟨_,x,c,e⟩|⟨g,o,c,e,_⟩<;>exact⟨_,_,_,e⟩
  ·have m:Below w.heap.size w W:=N.trans (g1.mono o_)
   have hS:=g5.kept (G:=λk=>F k\/(k∈aR false b A y E/\k≠b)) (λ_ h=>d7 h) (λk l hn=>d6 ⟨l,hn⟩)
   have J:∀k,(F k\/(k∈aR false b A y E/\k≠b))->New w k/\k<W.heap.size:=λk l=>by
    rcases l with u|⟨u,_⟩
    ·exact⟨g7 k u,(g5.apart k u).1⟩
    ·have:=g6 k u;exact⟨d7 o_,g5.lt k u⟩
   have ag:∀k,(F k\/(k∈aR false b A y E/\k≠b))->B.heap[k]?=W.heap[k]?:=λk l=>L.block k (J k l).2 (by simpa using (J k l).1.ne)
   refine⟨⟨L.os.trans m.os,L.tape.trans m.tape,L.output.trans m.output,by rw[ah];exact m.size,λk l=>?_⟩,fp,λk=>F k\/(k∈aR false b A y E/\k≠b),λk l=>⟨by rw[ah];exact(J k l).2,(J k l).1⟩,gT.keep (λk l=>ag k (d7 l)) λ_ h=>d7 h,hS.keep ag dP⟩
   rw[L.block k (ej l m.size) t_,m.block k l]
def tE(x y:Int):Int:=if x<y then -1 else if x>y then 1 else 0
def ch_{x y:Int}(h:¬x=y):¬tE x y=0:=by
 unfold tE;split
 ·omega
 ·split<;>omega
def LY(x:Int)(w:aG):Calls prog 149 #[I_ x] w λe a=>e=aX (.bool false)/\a=w:=by
 go_in
 go_wp2
 go_ret;exact⟨s_,rfl⟩
def VE(x y:Int)(w:aG):Calls prog 109 #[I_ x,I_ y] w λe f=>e=aX (I_ (tE x y))/\f=w:=by
 go_in
 go_wp2_with fail;refine(LY x w).mono ?_;rintro e d ⟨rfl,rfl⟩;go_wp2_with fail;refine(LY y d).mono ?_;rintro e g ⟨rfl,rfl⟩;by_cases b:x<y
 ·have a:Hid (tE x y= -1):=by show _=_;unfold tE;rw[if_pos b]
  go_wp2
  go_ret;exact⟨by rw[a.out];rfl,rfl⟩
 ·by_cases c:y<x
  ·have a:Hid (tE x y=1):=by show _=_;unfold tE;rw[if_neg b,if_pos c]
   go_wp2
   go_ret;exact⟨by rw[a.out];rfl,rfl⟩
  ·have a:Hid (tE x y=0):=by show _=_;unfold tE;rw[if_neg b,if_neg c]
   go_wp2
   go_ret;exact⟨by rw[a.out];rfl,rfl⟩
def ML(k f:Int)(a b c d e:aQ)(w:aG)(i:∃x l c,b=.slice x l c)(p:∃x l d,c=.slice x l d)(g:∃x l c,d=.slice x l c)(o:∃n,a=I_ n)(m:∃n,e=I_ n):
 Calls prog 108 #[.agg #[I_ k,a,b,c,d,e],I_ f] w λj h=>j=aX (I_ (tE k f))/\h=w.alloc (.cells #[I_ k,a,b,c,d,e] 145):=by
 obtain⟨_,_,_,rfl⟩:=i;obtain⟨_,_,_,rfl⟩:=p;obtain⟨_,_,_,rfl⟩:=g;obtain⟨_,rfl⟩:=o;obtain⟨_,rfl⟩:=m;go_in
 go_wp2_with fail;refine(VE k f _).mono ?_;rintro e q ⟨rfl,rfl⟩;go_wp2
 go_ret;exact⟨rfl,rfl⟩
def cW_(a b:aQ)(W:aG):(callFunc 108 #[a,b]).run prog W=.ok (.enter 108 #[a,b]) W:=k_
structure Ent where
 k:Int
 a:Int
 b:Value
 c:Value
 d:Value
 e:Int
def Ent.cells(x:Ent):List Value:=[I_ x.k,I_ x.a,x.b,x.c,x.d,I_ x.e]
def kA:List Ent->List Value
 |[]=>[]
 |x::l=>x.cells++kA l
structure Ent.Ok(x:Ent):Prop where
 b:∃y l c,x.b=.slice y l c
 c:∃y l c,x.c=.slice y l c
 d:∃y l c,x.d=.slice y l c
def bc_(w:aG)(g:Nat)(es:List Ent):Prop:=∀i (h:i<es.length),es[i].Ok/\w.cell? (aH g (i*6))=some (I_ es[i].k)/\w.cell? (aH g (i*6+1))=some (I_ es[i].a)/\w.cell? (aH g (i*6+2))=some es[i].b/\w.cell? (aH g (i*6+3))=some es[i].c/\w.cell? (aH g (i*6+4))=some es[i].d/\w.cell? (aH g (i*6+5))=some (I_ es[i].e)
structure Found(es:List Ent)(key:Int)(at_:Nat)(found:Bool):Prop where
 le:at_<=es.length
 lo:∀i (h:i<es.length),i<at_->es[i].k<key
 hi:∀i (h:i<es.length),at_<=i->key<=es[i].k
 fnd:found=true↔∃h:at_<es.length,es[at_].k=key
def XG(g aa:Nat)(es:List Ent)(b:Int)(w:World)(hl:es.length<=100000)(X:g<w.heap.size)(he:bc_ w g es)(hs:∀i j (hi:i<es.length) (hj:j<es.length),i<=j->es[i].k<=es[j].k):
 Calls prog 107 #[.slice (some ⟨g,0,none⟩) es.length aa,.int .i64 b,.func (.func 108) #[] #[]] w λe w'=>∃G fd,e=.returned (.tuple #[.int .i64 (G:Nat),.bool fd])/\Below w.heap.size w w'/\Found es b G fd:=by
 have HE:=aB he;have Y:=aB hs;clear he hs;have af:=cW_;go_enter func107,ntmps107;go_wp2_with fail;go_loopg [9,10,11] es.length (λgk iv jv _ wr=>∃i j:Nat,iv=.int .i64 i/\jv=.int .i64 j/\i<=j/\j<=es.length/\j-i<=gk/\Below w.heap.size w wr/\(∀k (h:k<es.length),k<i->es[k].k<b)/\(∀k (h:k<es.length),j<=k->b<=es[k].k))
 case atStart=>exact⟨0,es.length,rfl,rfl,o_,o_,o_,eh _ _,λk h v=>by omega,λk h v=>by omega⟩
 case round=>
  obtain⟨i,j,rfl,rfl,ad,hj,ae,m,d,c⟩:=hrel;by_cases ac:i<j
  ·have n:=aB (ff d c);have hm:(i+j)/2<es.length:=o_
   obtain⟨y,x,A,s,t,q,z⟩:=HE.out _ hm;have a:∀o u,w.cell? ⟨g,o,none⟩=some u->wr.cell? ⟨g,o,none⟩=some u:=λo u hu=>by rw[m.cell (p:=⟨g,o,none⟩) X];exact hu
   have x:=a _ _ x;have A:=a _ _ A;have s:=a _ _ s;have t:=a _ _ t;have q:=a _ _ q;have z:=a _ _ z;have ab:g<wr.heap.size:=ej X m.size;have r:=aB m;have H:Hid (∀k (h:k<es.length),(k<=(i+j)/2->es[k].k<=es[(i+j)/2].k)/\((i+j)/2<=k->es[(i+j)/2].k<=es[k].k)):=λk h=>⟨λv=>Y.out _ _ h hm v,λv=>Y.out _ _ hm h v⟩
   obtain⟨I,T,N,L⟩:=y.b;obtain⟨W,U,E,S⟩:=y.c;obtain⟨M,Q,F,V⟩:=y.d;rw[L] at s;rw[S] at t;rw[V] at q;generalize es[(i+j)/2].k=mk at*;generalize es[(i+j)/2].a=P at*;generalize es[(i+j)/2].e=O at*;clear d c m L S V a;have J:=aB (ML mk b (.int .i64 P) (.slice I T N) (.slice W U E) (.slice M Q F) (.int .i64 O) wr ⟨_,_,_,rfl⟩ ⟨_,_,_,rfl⟩ ⟨_,_,_,rfl⟩ ⟨_,rfl⟩ ⟨_,rfl⟩);go_wp2_with fail;refine J.out.mono ?_;rintro e w1 ⟨rfl,rfl⟩;have l:=aB (r.out.trans (((eh _ wr).alloc (en _) (.cells #[.int .i64 mk,.int .i64 P,.slice I T N,.slice W U E,.slice M Q F,.int .i64 O] 145)).mono r.out.size));clear r J x A s t q z;by_cases f:mk<b
   ·have D:tE mk b= -1:=by unfold tE;rw[if_pos f]
    rw[D];have C:=aB f;clear f D;go_wp2_with fail;go_roundg ((gk-1))
    case measure=>omega
    case rel=>
     refine⟨(i+j)/2+1,j,by go_num,rfl,o_,hj,o_,l.out,λk h v=>?_,n.out.2⟩
     exact Int.lt_of_le_of_lt ((H.out k h).1 o_) C.out
   ·have D:0<=tE mk b:=by unfold tE;rw[if_neg f];split<;>omega
    have C:=aB f;clear f;go_wp2_with fail;go_roundg (gk-1)
    case measure=>omega
    case rel=>
     refine⟨i,(i+j)/2,rfl,by go_num,o_,o_,o_,l.out,n.out.1,λk h v=>?_⟩
     have:=(H.out k h).2 v;have:=C.out;omega
  ·obtain rfl:i=j:=o_
   by_cases Z:i<es.length
   ·have n:=aB (ff d c);obtain⟨y,x,A,s,t,q,z⟩:=HE.out _ Z;have a:∀o u,w.cell? ⟨g,o,none⟩=some u->wr.cell? ⟨g,o,none⟩=some u:=λo u hu=>by rw[m.cell (p:=⟨g,o,none⟩) X];exact hu
    have x:=a _ _ x;have A:=a _ _ A;have s:=a _ _ s;have t:=a _ _ t;have q:=a _ _ q;have z:=a _ _ z;have ab:g<wr.heap.size:=ej X m.size;have r:=aB m;obtain⟨I,T,N,L⟩:=y.b;obtain⟨W,U,E,S⟩:=y.c;obtain⟨M,Q,F,V⟩:=y.d;rw[L] at s;rw[S] at t;rw[V] at q;obtain⟨mk,B⟩:=E_ (es[i].k);rw[<-B] at x;have K:=aB B;generalize es[i].a=P at*;generalize es[i].e=O at*;clear d c m L S V a B y HE Y;have J:=aB (ML mk b (.int .i64 P) (.slice I T N) (.slice W U E) (.slice M Q F) (.int .i64 O) wr ⟨_,_,_,rfl⟩ ⟨_,_,_,rfl⟩ ⟨_,_,_,rfl⟩ ⟨_,rfl⟩ ⟨_,rfl⟩);go_wp2_with fail;refine J.out.mono ?_;rintro e w1 ⟨rfl,rfl⟩;have l:=aB (r.out.trans (((eh _ wr).alloc (en _) (.cells #[.int .i64 mk,.int .i64 P,.slice I T N,.slice W U E,.slice M Q F,.int .i64 O] 145)).mono r.out.size));clear r J x A s t q z;by_cases f:mk=b
    ·have D:tE mk b=0:=by unfold tE;rw[if_neg o_,if_neg o_]
     rw[D];have C:=aB f;clear f D;go_wp2_with fail;go_ret2
     refine⟨i,true,rfl,l.out,il Z,n.out.1,n.out.2,?_⟩;simp only[true_iff];exact⟨Z,K.out.symm.trans C.out⟩
    ·have D:(tE mk b==0)=false:=by simpa using ch_ f
     have C:=aB f;clear f;go_wp2_with fail;go_ret2
     refine⟨i,false,rfl,l.out,il Z,n.out.1,n.out.2,?_⟩;simp only[Bool.false_eq_true,false_iff];rintro⟨_,e⟩;exact C.out (K.out.trans e)
   ·have n:=aB (ff d c);have r:=aB m;clear d c m HE Y;go_wp2_with fail;go_ret2
    refine⟨i,false,rfl,r.out,o_,n.out.1,n.out.2,?_⟩
    simp only[Bool.false_eq_true,false_iff];rintro⟨h,_⟩;omega
def XF(a:Int)(w:aG):
 Calls prog 107 #[bG,I_ a,.func (.func 108) #[] #[]] w λe b=>e=aX (.tuple #[I_ 0,.bool false])/\b=w:=by
 go_in
 go_wp2_with fail;go_loopg [9,10,11] 0 (λ_ c d _ wr=>c=I_ 0/\d=I_ 0/\wr=w)
 case atStart=>exact⟨rfl,rfl,rfl⟩
 case round=>
  obtain⟨rfl,rfl,rfl⟩:=hrel;go_wp2
  go_ret2
  exact⟨rfl,rfl⟩
def b2_:(prog.info? 145).map (λi=>(i.zero,i.size,i.bytes))=some (some (.agg #[I_ 0,I_ 0,bG,bG,bG,I_ 0]),6,96):=k_
def MK(w:aG)(sb:Nat)(x:Option Addr)(n c:Nat)(b:Int)(P:Int->Bool->World->Prop)(k:w.cell? (aH sb 5)=some (.slice x n c))
 (i:Hid (Calls prog 107 #[.slice x n c,I_ b,.func (.func 108) #[] #[]] w λe d=>∃a f,e=aX (.tuple #[I_ a,.bool f])/\P a f d)):
 Calls prog 78 #[.pointer (some (aH sb 5)),I_ b] w λe d=>∃a f,e=aX (.tuple #[I_ a,.bool f])/\P a f d:=by
 go_in
 go_wp2_with fail;refine i.mono ?_;rintro e j ⟨a,f,rfl,g⟩;have h:=aB g;clear g;go_wp2
 go_ret2
 exact⟨a,f,rfl,h⟩
def FW(w:aG)(sb g n y b:Nat)(j a e:Int)(t r k:Option Addr)(s v l c1 m p:Nat)(P Q:World->Prop)(E:b<n)
 (F:Hid (Calls prog 78 #[.pointer (some (aH sb 5)),I_ j] (w.alloc (.cells #[I_ a,.slice t s c1,.slice r v m,.slice k l p,I_ e] 53)) λq x=>q=aX (.tuple #[I_ b,.bool true])/\Q x))
 (B:Hid (∀W,Q W->sb<W.heap.size/\W.cell? (aH sb 5)=some (.slice (some (aH g 0)) n y)/\g<W.heap.size/\(∃c,W.heap[g]?=some (.cells c 145 (0,0))/\b*6+5<c.size)/\W.heap[w.heap.size]?=some (.cells #[I_ a,.slice t s c1,.slice r v m,.slice k l p,I_ e] 53 (0,0))/\
   ∀C,aU (((((W.setCell (aH g (b*6+1)) (I_ a)).setCell (aH g (b*6+2)) (.slice t s c1)).setCell (aH g (b*6+3)) (.slice r v m)).setCell (aH g (b*6+4)) (.slice k l p)).setCell (aH g (b*6+5)) (I_ e)) C->P C)):
 Calls prog 64 #[.pointer (some (aH sb 5)),I_ j,.agg #[I_ a,.slice t s c1,.slice r v m,.slice k l p,I_ e]] w λq x=>q=aX (.tuple #[])/\P x:=by
 go_in
 go_wp2_with fail;refine F.mono ?_;rintro q z ⟨rfl,D⟩;obtain⟨U,q2,X,⟨c,f,G⟩,d,A⟩:=B _ D;have H:=aB A;have T:=aA d (i:=0) rfl;have I:=aA d (i:=1) rfl;have k2:=aA d (i:=2) rfl;have N:=aA d (i:=3) rfl;have V:=aA d (i:=4) rfl;have hl:=aC d;have h:∀o,o<=b*6+5->∃u,z.cell? (aH g o)=some u:=λo Z=>⟨c[o]'(by omega),by rw[cell_of_row z g o c _ _ f];exact ez o_⟩
 obtain⟨u1,m1⟩:=h (b*6+1) o_
 obtain⟨u2,J⟩:=h (b*6+2) o_
 obtain⟨u3,K⟩:=h (b*6+3) o_
 obtain⟨u4,m4⟩:=h (b*6+4) o_
 obtain⟨u5,m5⟩:=h (b*6+5) o_
 have S:=aD f (i:=b*6+1);have M:=aD f (i:=b*6+2);have z3:=aD f (i:=b*6+3);have O:=aD f (i:=b*6+4);have L:=aD f (i:=b*6+5);have e1:(0:Int)<=(b:Int):=o_
 have Y:(b:Int)<(n:Int):=o_
 clear D f G d A h B;go_wp2_with fail;go_region
 all_goals
  go_wp2
  go_end0;exact⟨rfl,H _ (aU.drew _)⟩
def ZD(w:aG)(b_ b n:Nat)(v:aQ)(xs:List Value)(h:Int)(a:w.ownsRow b_ 145 6 v n xs)(u:w.heap[b]?=some (.cells #[I_ h,I_ 0,bG,bG,bG,I_ 0] 145 (0,0)))(N:n<=100000)(k:b_<=w.heap.size):
 Calls prog 99 #[v,I_ n,.slice (some (aH b 0)) 1 1] w λe t=>∃g l,e=aX (.slice (some (aH g 0)) (n+1) l)/\t.ownsRow b_ 145 6 (.slice (some (aH g 0)) (n+1) l) (n+1) (xs++[I_ h,I_ 0,bG,bG,bG,I_ 0])/\w.grownBy t v.ownBlock/\(v.ownBlock=some g\/g=w.heap.size):=by
 obtain⟨C,I,p,r,s⟩:=info_parts b2_;obtain⟨x,c,rfl⟩:=dE a;have F:=aB a;have H:=aB (World.news_of_block u);have j:∀v∈([I_ h,I_ 0,bG,bG,bG,I_ 0]:List Value),v.oneCell'=true:=λv y=>by simp at y;rcases y with rfl|rfl|rfl|rfl<;>rfl
 have HONE:=aB j
 have J:(x=none/\n=0/\c=0)\/(∃g,x=some (aH g 0)/\n<c)\/∃g,x=some (aH g 0)/\c=n:=by
  rcases a.2 with ⟨o,K⟩|⟨g,l,E,o,K,M,A,_⟩
  ·cases o;exact d7 ⟨rfl,rfl,rfl⟩
  ·cases o;rcases ii A with e|e
   ·exact d6 (d6 ⟨g,rfl,e.symm⟩)
   ·exact d6 (d7 ⟨g,rfl,e⟩)
 clear a j u;rcases J with ⟨rfl,rfl,rfl⟩|⟨B,rfl,G⟩|⟨B,rfl,rfl⟩
 all_goals
  go_in
  go_wp2_with (at_builtin;refine wpList_append_lies _ r_ _ _ 54 r_ b_ 145 C _ 6 96 underlying54 I p r s rfl d_ _ _ xs r_ F (aH b 0) 1 1 [I_ h,I_ 0,bG,bG,bG,I_ 0] r_ r_ (H) HONE d_ (by unfold maxLen;omega) o_ k w.heap.size rfl ?_)
  intro D m L f d i z;have q:=aB (ff f (ff d i));clear f d i;go_wp2
  go_ret;exact⟨D,m,rfl,q.1,q.2.1,q.2.2⟩
def OQ(w:aG)(sb n:Nat)(x:Option Addr)(c:Nat)(h a e:Int)(A r y:Option Addr)(t v z c1 q s:Nat)(P Q:World->Prop)(R:Nat->Nat->World->Prop)(hn:n<=100000)
 (D:Hid (Calls prog 78 #[.pointer (some (aH sb 5)),I_ h] (w.alloc (.cells #[I_ a,.slice A t c1,.slice r v q,.slice y z s,I_ e] 53)) λm p=>m=aX (.tuple #[I_ n,.bool false])/\Q p))
 (F:Hid (∀W,Q W->sb<W.heap.size/\W.cell? (aH sb 5)=some (.slice x n c)/\Calls prog 99 #[.slice x n c,I_ n,.slice (some (aH W.heap.size 0)) 1 1] (W.alloc (.cells #[I_ h,I_ 0,bG,bG,bG,I_ 0] 145)) λe p=>∃g b,e=aX (.slice (some (aH g 0)) (n+1) b)/\R g b p))
 (B:Hid (∀g b W,R g b W->sb<W.heap.size/\g≠sb/\g≠w.heap.size/\sb≠w.heap.size/\(∃u,W.cell? (aH sb 5)=some u)/\W.frozen? (aH sb 5)=false/\g<W.heap.size/\(∃d,W.heap[g]?=some (.cells d 145 (0,0))/\n*6+5<d.size)/\W.heap[w.heap.size]?=some (.cells #[I_ a,.slice A t c1,.slice r v q,.slice y z s,I_ e] 53 (0,0))/\
   ∀G,aU ((((((W.setCell (aH sb 5) (.slice (some (aH g 0)) (n+1) b)).setCell (aH g (n*6+1)) (I_ a)).setCell (aH g (n*6+2)) (.slice A t c1)).setCell (aH g (n*6+3)) (.slice r v q)).setCell (aH g (n*6+4)) (.slice y z s)).setCell (aH g (n*6+5)) (I_ e)) G->P G)):
 Calls prog 64 #[.pointer (some (aH sb 5)),I_ h,.agg #[I_ a,.slice A t c1,.slice r v q,.slice y z s,I_ e]] w λm p=>m=aX (.tuple #[])/\P p:=by
 go_in
 go_wp2_with fail;refine D.mono ?_;rintro m w0 ⟨rfl,I⟩;obtain⟨O,M,E⟩:=F _ I;have l:=aB E;clear I E F D;go_wp2_with fail;refine l.mono ?_;rintro m H ⟨g,b,rfl,J⟩;obtain⟨q1,U,T,X,⟨v5,g4⟩,g5,Z,⟨d,j,N⟩,f,C⟩:=B _ _ _ J;have V:=aB C;have k0:=aA f (i:=0) rfl;have k1:=aA f (i:=1) rfl;have k2:=aA f (i:=2) rfl;have k3:=aA f (i:=3) rfl;have k4:=aA f (i:=4) rfl;have hl:=aC f;have k:∀o,o<=n*6+5->∃u,H.cell? (aH g o)=some u:=λo ho=>⟨d[o]'(by omega),by rw[cell_of_row H g o d _ _ j];exact ez o_⟩
 obtain⟨u1,m1⟩:=k (n*6+1) o_
 obtain⟨u2,m2⟩:=k (n*6+2) o_
 obtain⟨u3,m3⟩:=k (n*6+3) o_
 obtain⟨u4,m4⟩:=k (n*6+4) o_
 obtain⟨u5,m5⟩:=k (n*6+5) o_
 have z1:=aD j (i:=n*6+1);have z2:=aD j (i:=n*6+2);have z3:=aD j (i:=n*6+3);have Y:=aD j (i:=n*6+4);have z5:=aD j (i:=n*6+5);have e1:(0:Int)<=(n:Int):=o_
 have e2:(n:Int)<((n+1:Nat):Int):=o_
 have S:¬sb=g:=λe=>U e.symm
 have K:¬w.heap.size=g:=λe=>T e.symm
 have L:¬w.heap.size=sb:=λe=>X e.symm
 clear J j N f C k B O M l;go_wp2_with fail;go_region
 all_goals
  go_wp2
  go_end0;exact⟨rfl,V _ (aU.drew _)⟩
def oC(a e:Int)(f i g:Option Addr)(c h j c1 b d:Nat)(w:aG):Calls prog 43 #[.agg #[I_ a,.slice f c c1,.slice i h b,.slice g j d,I_ e]] w λl k=>l=aX (I_ a)/\k=w.alloc (.cells #[I_ a,.slice f c c1,.slice i h b,.slice g j d,I_ e] 53):=by
 go_in
 go_wp2
 go_ret;exact⟨rfl,rfl⟩
end Go.Proofs.YtlflgmdcghfngaaGreatDoor
