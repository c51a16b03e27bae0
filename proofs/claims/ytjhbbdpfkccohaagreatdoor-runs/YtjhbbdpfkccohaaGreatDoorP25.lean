import Derived.Test.YtjhbbdpfkccohaaGreatDoorP24
import Derived.Test.YtjhbbdpfkccohaaGreatDoorP23
set_option linter.all false
set_option maxRecDepth 100000
set_option maxHeartbeats 4000000
open List renaming length->Ty
open Go.World renaming cell?->T_
open Option renaming some->Ua
open Bool renaming true->Ud
open Go renaming Calls->Ue,Value->Uf,World->Ug,TypeId->Ui,Addr->Uj
open Go.Proofs.Tryz renaming prog->Un
open Go.Value renaming slice->Uq,string->Ur,pointer->Ut,tuple->Uu,bool->Uw
open Go.Obj renaming cells->Uy
namespace Go.Proofs.YtjhbbdpfkccohaaGreatDoor
open Hs
open _root_.Go.Proofs.Tryz
open Go.RowKit
variable{m:List Int}{x:Nat}{c:Prop}{N:aN}{y:aW}
def zj(sb rb:Nat)(pv:aW):Array Uf:= #[bF sb,bF rb,I_ 0,pv]
def AG_{m:SV}{t:Ui}(h:N.heap[x]?=Ua (cD m.cells t)):dP N x 0 (I_ m.t)/\dP N x 1 (P_ m.x1 m.n1 m.c1)/\dP N x 2 (P_ m.x2 m.n2 m.c2)/\dP N x 3 (P_ m.x3 m.n3 m.c3)/\dP N x 4 (I_ m.q):=
 ⟨aA h rfl,aA h rfl,aA h rfl,aA h rfl,aA h rfl⟩
def Hz:xb 32 83 4 80:=.of underlying32 (z:=.agg #[I_ 0,bO,bO,bO]) k_ rfl d_
structure T4(L M:List Nat)(w W V:aN):Prop where
 but:td L w V
 new:∀g,w.heap.size<=g->g<W.heap.size->g∉M->V.heap[g]?=W.heap[g]?
 sz:W.heap.size<=V.heap.size
section
variable {L M M':List Nat} {w W V V':aN} {pb sb rb k:Nat} {pv v':aW}
def T4.wr(h:T4 L M w W V)(e:∀g∈M',H_ w<=g)(a:td M' V V'):T4 L (M++M') w W V':=
 ⟨⟨a.os.trans h.but.os,a.tape.trans h.but.tape,a.output.trans h.but.output,eo h.but.size a.size,λg d i=>(a.i_ g (ej d h.but.size) λq=>by have:=e g q;exact aD).trans (h.but.i_ g d i)⟩,
   λg f b c=>(a.i_ g (ej b h.sz) λq=>c qy).trans (h.new g f b λq=>c qy),eo h.sz a.size⟩
def T4.re(h:T4 L M w W V)(a:R_ V V'):T4 L M w W V':=by simpa using h.wr (M':=[]) s_ (.below a _)
structure Y5(L:List Nat)(w W:aN)(pb sb rb k:Nat)(V:aN)(pv:aW):Prop where
 i_:V.heap[pb]?=Ua (Uy (zj sb rb pv) 34)
 row:Rw 4 83 L w k V pv
 side:∀b,pv.ownBlock=Ua b->b<w.heap.size\/W.heap.size<=b
def Y5.but(h:Y5 L w W pb sb rb k V pv)(f:pb<w.heap.size)(a:∀g∈M,w.heap.size<=g/\g<W.heap.size)(d:td M V V'):Y5 L w W pb sb rb k V' pv:=by
 obtain⟨l,c,e⟩:=h.row.own;refine⟨(d.i_ pb (aH h.i_) λq=>by have:=a pb q;exact aD).trans h.i_,⟨⟨l,c.h_ (λb q=>d.i_ b (c.lt b q) λi=>?_) λ_ _ q=>q,e⟩,h.row.i_⟩,h.side⟩
 have:=a b i;have:=h.side b q;exact aD
def Y5.nw(h:Y5 L w W pb sb rb k V pv)(d:T4 L M w W V)(a:pb<H_ w)(b:∀g∈M',H_ w<=g/\g<H_ W)(c:td M' V V'):T4 L (M++M') w W V'/\Y5 L w W pb sb rb k V' pv:=⟨d.wr (λg q=>(b g q).1) c,h.but a b c⟩
def Y5.app(h:Y5 L w W pb sb rb k V pv)(a:T4 L M w W V){l:List Unit}(o:Own 4 83 (λ_ _=>True) V' v' l)(p:Ty l<=k+1)(d:V.grownBy V' pv.ownBlock)(c:v'.ownBlock=pv.ownBlock\/v'.ownBlock=Ua (H_ V))(i:pb∈L)(m:pb<H_ w):
 V'.heap[pb]?=Ua (cD (zj sb rb pv) 34)/\Y5 L w W pb sb rb (k+1) (V'.setCell (aL pb 3) v') v'/\T4 L M w W (V'.setCell (aL pb 3) v'):=by
 have f:V'.heap[pb]?=Ua (cD (zj sb rb pv) 34):=(d.block pb (aH h.i_) λe=>by obtain⟨t,q⟩:=h.row.tag e.symm;rw[h.i_]at q;cases q).trans h.i_
 have r:Rw 4 83 L w (k+1) V' v':=⟨⟨l,o,p⟩,λb q=>c.elim (λe=>h.row.i_ b (e▸q)) λe=>by rw[e]at q;cases q;exact .inr a.but.size⟩
 refine⟨f,⟨aP f,r.vi f d_,λb q=>c.elim (λe=>h.side b (e▸q)) λe=>by rw[e]at q;cases q;exact .inr a.sz⟩,(a.but.grow d h.row.i_).vi (.inl i),λg n j s=>?_,eo a.sz (eo d.size s_)⟩
 rw[em _ _ _ _ (by show g≠pb;exact aD),d.block g (ej j a.sz) λe=>by have:=h.side g e.symm;exact aD]
 exact a.new g n j s
end
def U0(Y_:c:=by
 obtain⟨S,hS,HT⟩:∃S:Ug->Prop,S=(λw'=>(dP w' (H_ w1) 0 (I_ m.t)/\dP w' (H_ w1) 1 (P_ m.x1 m.n1 m.c1)/\dP w' (H_ w1) 2 (P_ m.x2 m.n2 m.c2)/\dP w' (H_ w1) 3 (P_ m.x3 m.n3 m.c3)/\dP w' (H_ w1) 4 (I_ m.q))/\dP w' pb 1 (bF rb)/\dP w' rb 0 (P_ (Ua (aL gm 0)) nm cm)/\dP w' rb 1 (I_ at_)/\dP w' gm (at_*6) (I_ d.t)/\dP w' gm (at_*6+1) (P_ d.x1 d.n1 d.c1)/\dP w' gm (at_*6+2) (P_ d.x2 d.n2 d.c2)/\dP w' gm (at_*6+3) (P_ d.x3 d.n3 d.c3)/\dP w' gm (at_*6+4) (I_ d.q))/\Hid (∀w',R_ W w'->S w'):=⟨_,rfl,λw' q=>by obtain⟨-,r1, -, -,r2,r3,r4,r5,r6,r7,r8, -⟩:=HC w' (HBW.trans (q.mono HBW.size));exact⟨AG_ (HQ w' q),r1,r2,r3,r4,r5,r6,r7,r8⟩⟩
 refine wp_region_held_drew (S:=S) k_ (HT _ H3.drew) (λhHeld=>?_)
 subst hS;refine eU 0 ?_;refine eU 1 ?_;refine eU 2 ?_;refine eU 3 ?_;refine eU 4 ?_;refine eU 5 ?_;refine eU 6 ?_;refine eU 7 ?_;refine eU 8 ?_;refine eU 9 ?_;refine eU 10 ?_;refine eU 11 ?_;refine eU 12 ?_;refine eU 13 ?_;refine eU 14 ?_;refine eU 15 ?_;refine eU 16 ?_;refine eU 17 ?_;refine sN 18 (λK hK=>?_)
 go_simp;go_at_call 22
 refine rf (HMS _ H3.drew) λw4 hb4=>?_
 have HX:=aB (H3.drew.trans (hb4.mono H3.size));clear hb4;go_wp2_with fail;refine hK.out _ _ (HT _ HX) (λ_=>?_)
 clear hK K;refine eU 19 ?_;refine wpAnyH_done k_ ?_ _
 go_wp2_with fail;go_meet
 case rel=>exact⟨aJ,HX⟩):c:=Y_
def T9(Y_:c:=by
 obtain⟨S,hS,HT⟩:∃S:Ug->Prop,S=(λw'=>(dP w' (H_ w1) 0 (I_ m.t)/\dP w' (H_ w1) 1 (P_ m.x1 m.n1 m.c1)/\dP w' (H_ w1) 2 (P_ m.x2 m.n2 m.c2)/\dP w' (H_ w1) 3 (P_ m.x3 m.n3 m.c3)/\dP w' (H_ w1) 4 (I_ m.q))/\dP w' pb 2 (I_ 0)/\dP w' pb 3 (P_ px pn pc))/\Hid (∀V,td Lm wc V->S V):=⟨_,rfl,λV q=>by
  have h1:=(q.i_ _ (by have:=HI.1.sz;exact aD) λq=>hnw (by assumption)).trans HBM.out
  have h2:=(q.i_ _ (aH HI.2.i_) λq=>by have:=(HL _ q).1;exact aD).trans HI.2.i_
  exact⟨AG_ h1,aA h2 aJ,aA h2 aJ⟩⟩
 refine wp_region_held_drew (S:=S) k_ (HT _ (.drew _ _)) (λhHeld=>?_)
 subst hS;refine eU 0 ?_;refine eU 1 ?_;refine eU 2 ?_;refine eU 3 ?_;refine eU 4 ?_;refine eU 5 ?_;refine eU 6 ?_;refine eU 7 ?_;refine eU 8 ?_;refine eU 9 ?_;refine eU 10 ?_;refine Az 11 12 (λK hK=>?_) (λK hK=>?_)
 .go_simp;apply (HWR _ (dz _ _).drew).mono
  rintro e w5 ⟨x1,n1,c1,x2,n2,c2,x3,n3,c3,rfl,hb5⟩;have H6:=aB (td.trans (.drew wc []) hb5);rw[ie]at H6;clear hb5;go_wp2_with fail;refine hK.out _ _ (HT _ H6) (λhHeld=>?_)
  clear hK K;refine sN 12 (λK hK=>?_)
  go_simp;refine hK.out _ _ (HT _ (H6.al _)) (λhHeld=>?_)
  clear hK K;refine sN 13 (λK hK=>?_)
  go_simp;have H7:=aB (H6.al (cD #[I_ (pn:Nat),P_ x1 n1 c1,P_ x2 n2 c2,P_ x3 n3 c3] 83));refine hK.out _ _ (HT _ H7) (λ_=>?_)
  clear hK K;refine wpAnyH_done k_ ?_ _
  go_wp2_with fail;go_meet
  case rel=>exact⟨_,_,_,_,_,_,_,_,_,_,aJ,bM _ _ aJ,λb q=>by have:=HRW b q;have:=H6.size;exact aD,HI.2.nw HI.1 hpl HL H7⟩
 go_simp;refine hK.out _ _ (HT _ (.below (((dz _ _).alloc mJ _).drew) _)) (λhHeld=>?_)
 clear hK K;refine sN 11 (λK hK=>?_)
 go_simp;apply (HWR _ (((dz _ _).alloc mJ _).drew)).mono
 rintro e w5 ⟨x1,n1,c1,x2,n2,c2,x3,n3,c3,rfl,hb5⟩;have hy:w5.heap[H_ wc]?=Ua (cD #[I_ 0,bO,bO,bO] 83):=(hb5.i_ _ s_ λq=>by have:=(HL _ q).2;have:=HI.1.sz;exact aD).trans (bM wc _ rfl)
 have H6:=aB (td.trans (L:=[]) (.below (((dz _ _).alloc mJ _).drew) []) hb5);rw[ie]at H6;obtain⟨-,y0,y1,y2,y3,y4,y5,y6,y7⟩:=kR hy;have yl:=aH hy;have HY:=aB hy;clear hb5 hy;go_wp2_with fail;refine hK.out _ _ (HT _ H6) (λhHeld=>?_)
 clear hK K;refine sN 13 (λK hK=>?_)
 go_simp;have H7:=aB ((((H6.vi (i:=0) (v:=I_ (pn:Nat)) (.inr (fi (H_ wc)))).vi (i:=1) (v:=P_ x1 n1 c1) (.inr (fi (H_ wc)))).vi (i:=2) (v:=P_ x2 n2 c2) (.inr (fi (H_ wc)))).vi (i:=3) (v:=P_ x3 n3 c3) (.inr (fi (H_ wc))));refine hK.out _ _ (HT _ H7) (λ_=>?_)
 clear hK K;refine wpAnyH_done k_ ?_ _
 go_wp2_with fail;go_meet
 case rel=>exact⟨_,_,_,_,_,_,_,_,_,_,aJ,aP (aP (aP (aP HY))),λb q=>by have:=HRW b q;exact aD,HI.2.nw HI.1 hpl HL H7⟩):c:=Y_
def T8(Y_:c:=by
 obtain⟨S,hS,HT⟩:∃S:Ug->Prop,S=(λw'=>dP w' y 0 (I_ (pn:Nat))/\dP w' y 1 (P_ x1 n1 c1)/\dP w' y 2 (P_ x2 n2 c2)/\dP w' y 3 (P_ x3 n3 c3))/\Hid (∀w',w'.heap[y]?=wc.heap[y]?->S w'):=⟨_,rfl,λw' q=>by obtain⟨-,q0,q1,q2,q3, -⟩:=kR (q.trans HY.1);exact⟨q0,q1,q2,q3⟩⟩
 refine wp_region_held_drew (S:=S) k_ (HT _ rfl) (λhHeld=>?_)
 subst hS;refine eU 0 ?_;refine eU 1 ?_;refine eU 2 ?_;refine eU 3 ?_;refine eU 5 ?_;have yl:=aH HY.1;refine Az 4 6 (λK hK=>?_) (λK hK=>?_)
 go_simp;refine hK.out _ _ hHeld (λhHeld=>?_)
 clear hK K;refine sN 6 (λK hK=>?_)
 go_simp;refine hK.out _ _ (HT _ (eh _ _ _ yl)) (λhHeld=>?_)
 clear hK K;rotate_left
 go_simp;refine hK.out _ _ (HT _ (eh _ _ _ yl)) (λhHeld=>?_)
 clear hK K;refine sN 4 (λK hK=>?_)
 go_simp;refine hK.out _ _ hHeld (λhHeld=>?_)
 clear hK K
 all_goals
  refine sN 7 (λK hK=>?_)
  obtain⟨l,hl,hll⟩:=HY.2.2.row.own;have hbV:R_ wc (eH wc.drew #[I_ (pn:Nat),P_ x1 n1 c1,P_ x2 n2 c2,P_ x3 n3 c3] 83):=(dz _ _).drew.alloc mJ _;refine rM r_ Hz r_ r_ (hl.h_ (λb q=>hbV.block b (hl.lt b q)) λ_ _ q=>q) r_ (Src.one (b:=H_ wc) (a:=()) (bM wc.drew _ rfl) rfl trivial lb) kj kz ?_
  intro v' w6 ho hg hat;obtain⟨ux,un,uc,rfl⟩:=gI ho;obtain⟨g1,g2,g3⟩:=(HY.2.2.but (M:=[]) hpl s_ (.below hbV [])).app (HY.2.1.re hbV) ho kj hg hat H0.2.2 hpl
  have hy6:w6.heap[y]?=wc.heap[y]?:=(hg.block y kj λe=>HRY y e.symm rfl).trans (hbV.block y yl)
  have hyp:y≠pb:=λe=>by have:=HY.1.symm.trans (e▸HY.2.2.i_);cases this
  have m3:=aA (i:=3) g1 aJ;have f3:=aF (i:=3) g1;have ml:=aH g1;refine hK.out _ _ (HT _ hy6) (λhHeld=>?_)
  have HG:=aB (dy g3 (dy g2 (dy hy6 hyp)));clear hK K ho hg hat g1 g2 g3 hy6 hyp hl hbV;refine eU 8 ?_;refine eU 9 ?_;refine sN 10 (λK hK=>?_)
  go_simp;refine hK.out _ _ (HT _ ((em _ _ _ _ HG.2.2.2).trans HG.2.2.1)) (λ_=>?_)
  clear hK K;refine wpAnyH_done k_ ?_ _
  go_wp2_with fail;go_meet
  case rel=>exact⟨_,HG.1,HG.2.1⟩):c:=Y_
def L7{w:aN}{pb sb rb gm at_ nm cm k:Nat}{pv:aW}{L:List Nat}{d:SV}{MD:List Nat->Ug->SV->Prop}(hk:k<=100000)(hat:at_<nm)(_hnm:nm<=1000)(ab:pb∈L)
 (A:w.heap[pb]?=Ua (cD (zj sb rb pv) 34)) (J:Rw 4 83 L w k w pv)
 (I:w.heap[rb]?=Ua (cD #[P_ (Ua (aL gm 0)) nm cm,I_ at_,bO] 29))
 (P:gm<w.heap.size) (Z:∀j u,d.cells[j]?=Ua u->T_ w (aL gm (at_*6+j))=Ua u)
 (HN:Hid (∀W,R_ w W->Ue Un 21 #[bF sb] W λe w'=>∃(m:SV) (M:List Nat),e=bY m.val/\R_ W w'/\MD M w' m/\∀g∈M,W.heap.size<=g/\g<w'.heap.size))
 (HS:Hid (∀W m M,R_ w W->MD M W m->Ue Un 22 #[m.val,d.val] W λe w'=>e=bY (Uw Ud)/\R_ W w'))
 (HM:Hid (∀M W W' m,MD M W m->(∀g∈M,W'.heap[g]?=W.heap[g]?)->MD M W' m))
 (HR:Hid (∀M W m,MD M W m->Rw 2 133 M W 1000000 W (P_ m.x1 m.n1 m.c1)/\Rw 2 135 M W 1000000 W (P_ m.x2 m.n2 m.c2)/\Rw 1 9 M W 1000000 W (P_ m.x3 m.n3 m.c3))):
 Ue Un 8 #[bF pb] w λe w'=>e=bY (Uw Ud)/\td L w w'/\∃pv,w'.heap[pb]?=Ua (cD (zj sb rb pv) 34)/\Rw 4 83 L w (k+2) w' pv:=by
 have hpl:=aH A;have U:=aH I;obtain⟨px,pn,pc,rfl,ac⟩:=J.sl
 have HC:Hid (∀W,R_ w W->T_ W (aL pb 0)=Ua (bF sb)/\T_ W (aL pb 1)=Ua (bF rb)/\T_ W (aL pb 2)=Ua (I_ 0)/\T_ W (aL pb 3)=Ua (P_ px pn pc)/\T_ W (aL rb 0)=Ua (P_ (Ua (aL gm 0)) nm cm)/\T_ W (aL rb 1)=Ua (I_ at_)/\T_ W (aL gm (at_*6))=Ua (I_ d.t)/\T_ W (aL gm (at_*6+1))=Ua (P_ d.x1 d.n1 d.c1)/\T_ W (aL gm (at_*6+2))=Ua (P_ d.x2 d.n2 d.c2)/\T_ W (aL gm (at_*6+3))=Ua (P_ d.x3 d.n3 d.c3)/\T_ W (aL gm (at_*6+4))=Ua (I_ d.q)/\pb<W.heap.size):=λW z=>by
  have h1:=(z.block pb hpl).trans A;have h2:=(z.block rb U).trans I;have O:=λj u q=>(World.cell?_of_block (a:=(aL gm (at_*6+j))) (z.block gm P)).trans (Z j u q)
  exact⟨aA h1 aJ,aA h1 aJ,aA h1 aJ,aA h1 aJ,aA h2 aJ,aA h2 aJ,O 0 _ aJ,O 1 _ aJ,O 2 _ aJ,O 3 _ aJ,O 4 _ aJ,aH h1⟩
 obtain⟨c0, -⟩:=HC w (dz _ _);have H0:=aB (dy A (dy J ab));have e1:(0:Int)<=(at_:Int):=aD;have e2:(at_:Int)<(nm:Int):=aD;clear A J I Z U P hat;go_in
 go_wp2_with fail;refine(HN w (dz _ _)).mono ?_;rintro e w1 ⟨m,Lm,rfl,f,hm,N⟩;have o:R_ w (w1.alloc (cD m.cells 73)):=f.alloc f.size _;obtain⟨Q, -⟩:=HC _ o;have G:=aB (HN _ o);have v:=aB (dy f (dy hm N));clear f hm N o c0 HN;simp only[SV.val,SV.cells]at G Q;unfold SV.val;have ad:=v.1.size;go_wp2_with fail;refine G.mono ?_;rintro e E ⟨n,Ln,rfl,o,S,T⟩;have D:=aB (dy o (dy S T));simp only at*;clear o S T G Q;go_wp2_with fail;obtain⟨W,z⟩:=E_ (E.alloc (cD #[I_ n.t,P_ n.x1 n.n1 n.c1,P_ n.x2 n.n2 n.c2,P_ n.x3 n.n3 n.c3,I_ n.q] 73));rw[<-z];have z2:=D.1.size;simp at z2;have zW:W.heap.size=E.heap.size+1:=by rw[z];simp
 have B:Hid (R_ E W):=by rw[z];exact(dz _ _).alloc mJ _
 have t:Hid (R_ w1 W):=(((dz _ w1).alloc mJ _).trans (D.1.mono s_)).trans (B.mono aD)
 have HBW:Hid (R_ w W):=v.1.trans (t.mono aD)
 have HQ:Hid (∀V,R_ W V->V.heap[w1.heap.size]?=Ua (cD m.cells 73)):=λV p=>by rw[p.block _ aD,z,eh _ _ _ aD,D.1.block _ s_];exact bM _ _ aJ
 have aa:Hid (∀V,R_ W V->V.heap[E.heap.size]?=Ua (cD n.cells 73)):=λV p=>by rw[p.block _ aD,z];exact bM _ _ aJ
 have HMS:Hid (∀V,R_ W V->Ue Un 22 #[m.val,d.val] V λe w'=>e=bY (Uw Ud)/\R_ V w'):=λV p=>HS V m Lm (HBW.trans (p.mono HBW.size)) (HM _ _ V _ v.2.1 λg q=>(t.trans (p.mono t.size)).block g (v.2.2 g q).2)
 have H:Hid (∀V,R_ W V->Ue Un 22 #[n.val,d.val] V λe w'=>e=bY (Uw Ud)/\R_ V w'):=λV p=>HS V n Ln (HBW.trans (p.mono HBW.size)) (HM _ _ V _ D.2.1 λg q=>(B.trans (p.mono B.size)).block g (D.2.2 g q).2)
 have H3:=aB (dz W.heap.size W);unfold SV.val at HMS H;clear HS z;go_cut [5] (λx c=>x=Uw Ud/\R_ W c)
 case first=>exact U0
 case rest=>
  obtain⟨rfl,X⟩:=hcut;have H3:=aB X;clear X HMS;go_wp2
  go_cut [6] (λx c=>x=Uw Ud/\R_ W c)
  case first=>
   obtain⟨m,rfl⟩:∃x,x=n:=⟨_,rfl⟩;obtain⟨w1,rfl⟩:∃x,x=E:=⟨_,rfl⟩;have HMS:=H;have HQ:=aa;exact U0
  case rest=>
   obtain⟨rfl,hb4⟩:=hcut;have K:=aB hb4;clear hb4 H H3;go_wp2_with fail;have C:=HBW.trans (K.mono HBW.size);have HI:Hid (T4 L [] w W wc/\Y5 L w W pb sb rb k wc (P_ px pn pc)):=⟨⟨.below C _,λg _ q _=>K.block g q,K.size⟩,⟨(C.block _ hpl).trans H0.1,H0.2.1.h_ λb _ q=>C.block b (aH q),λb q=>by obtain⟨cs,q'⟩:=H0.2.1.tag q;exact .inl (aH q')⟩⟩
   have HBM:=aB (HQ _ K);have f:=t.trans (K.mono t.size)
   have HWR:Hid (∀V,R_ wc V->Ue Un 23 #[m.val,I_ (pn:Nat)] V λe w'=>∃x1 n1 c1 x2 n2 c2 x3 n3 c3,e=bY (.agg #[I_ (pn:Nat),P_ x1 n1 c1,P_ x2 n2 c2,P_ x3 n3 c3])/\td Lm V w'):=λV p=>by
    obtain⟨r1,r2,r3⟩:=HR Lm V m (HM _ _ V _ v.2.1 λg q=>(f.trans (p.mono f.size)).block g (v.2.2 g q).2)
    exact EB Lm V m pn aD r1 r2 r3
   have HL:Hid (∀g∈Lm,w.heap.size<=g/\g<W.heap.size):=λg q=>by have:=v.2.2 g q;exact aD
   have hnw:¬w1.heap.size∈Lm:=λq=>by have:=v.2.2 _ q;exact aD
   have HRW:Hid (∀b,(Value.slice px pn pc).ownBlock=Ua b->b<wc.heap.size):=λb q=>by obtain⟨l,h1, -⟩:=HI.2.row.own;exact h1.lt b q
   have F:pn<=200000:=aD;have e4:IntKind.i64.wrap (pn:Int)=(pn:Int):=by rw[IntKind.wrap_i64];exact aD
   unfold SV.val at HWR;clear C f;go_cut [7] (λx c=>∃y x1 n1 c1 x2 n2 c2 x3 n3 c3,x=bF y/\c.heap[y]?=Ua (cD #[I_ (pn:Nat),P_ x1 n1 c1,P_ x2 n2 c2,P_ x3 n3 c3] 83)/\(∀b,(Value.slice px pn pc).ownBlock=Ua b->b≠y)/\T4 L Lm w W c/\Y5 L w W pb sb rb k c (P_ px pn pc))
   case first=>exact T9
   case rest=>
    obtain⟨y,x1,n1,c1,x2,n2,c2,x3,n3,c3,rfl,hy,s,i,r⟩:=hcut;have HY:=aB (dy hy (dy i r));have HRY:=aB s;clear hy s i r HI HBM HWR HRW;have p3:T_ wc (aL pb 3)=Ua (P_ px pn pc):=aA HY.2.2.i_ aJ;have pl:=aH HY.2.2.i_;go_wp2
    go_cut [] (λc=>∃pv,T4 L Lm w W c/\Y5 L w W pb sb rb (k+1) c pv)
    case first=>exact T8
    case rest=>
     obtain⟨pv,i,r⟩:=hcut;clear p3 pl HY HRY F e4;obtain⟨px,pn,pc,rfl,ac⟩:=r.row.sl;have HI:=aB (dy i r);have Y:=i.new E.heap.size aD aD λq=>by have:=v.2.2 _ q;exact aD
     have HBM:=aB (Y.trans (aa W (dz _ _)))
     have HWR:Hid (∀V,R_ wc V->Ue Un 23 #[n.val,I_ (pn:Nat)] V λe w'=>∃x1 n1 c1 x2 n2 c2 x3 n3 c3,e=bY (.agg #[I_ (pn:Nat),P_ x1 n1 c1,P_ x2 n2 c2,P_ x3 n3 c3])/\td Ln V w'):=λV p=>by
      obtain⟨r1,r2,r3⟩:=HR Ln V n (HM _ _ V _ D.2.1 λg q=>by have h1:=D.2.2 g q;simp at h1;rw[p.block g (by have:=i.sz;exact aD),i.new g aD aD λq'=>by have:=v.2.2 _ q';exact aD,B.block g h1.2])
      exact EB Ln V n pn aD r1 r2 r3
     have HL:Hid (∀g∈Ln,w.heap.size<=g/\g<W.heap.size):=λg q=>by have h1:=D.2.2 g q;simp at h1;exact aD
     have hnw:¬E.heap.size∈Ln:=λq=>by have h1:=D.2.2 _ q;simp at h1
     unfold SV.val at HWR;clear i r Y;go_wp2_with fail;have HRW:Hid (∀b,(Value.slice px pn pc).ownBlock=Ua b->b<wc.heap.size):=λb q=>by obtain⟨l,h1, -⟩:=HI.2.row.own;exact h1.lt b q
     have F:pn<=200000:=aD;have e4:IntKind.i64.wrap (pn:Int)=(pn:Int):=by rw[IntKind.wrap_i64];exact aD
     go_cut [8] (λx c=>∃y x1 n1 c1 x2 n2 c2 x3 n3 c3,x=bF y/\c.heap[y]?=Ua (cD #[I_ (pn:Nat),P_ x1 n1 c1,P_ x2 n2 c2,P_ x3 n3 c3] 83)/\(∀b,(Value.slice px pn pc).ownBlock=Ua b->b≠y)/\T4 L (Lm++Ln) w W c/\Y5 L w W pb sb rb (k+1) c (P_ px pn pc))
     case first=>
      obtain⟨m,rfl⟩:∃x,x=n:=⟨_,rfl⟩;obtain⟨w1,rfl⟩:∃x,x=E:=⟨_,rfl⟩;obtain⟨L1,rfl⟩:∃x,x=Lm:=⟨_,rfl⟩;obtain⟨Lm,rfl⟩:∃x,x=Ln:=⟨_,rfl⟩;exact T9
     case rest=>
      obtain⟨y,x1,n1,c1,x2,n2,c2,x3,n3,c3,rfl,hy,s,i,r⟩:=hcut;have HY:=aB (dy hy (dy i r));have HRY:=aB s;clear hy s i r HI HBM HWR HRW;have p3:T_ wc (aL pb 3)=Ua (P_ px pn pc):=aA HY.2.2.i_ aJ;have pl:=aH HY.2.2.i_;go_wp2
      go_cut [] (λc=>∃pv,T4 L (Lm++Ln) w W c/\Y5 L w W pb sb rb (k+1+1) c pv)
      case first=>exact T8
      case rest=>
       obtain⟨pv,i,r⟩:=hcut;have HI:=aB (dy i r);clear i r p3 pl HY HRY F e4;go_wp2
       go_ret;exact⟨aJ,HI.1.but,_,HI.2.i_,HI.2.row⟩
def Lw:(prog.info? 3).map (λi=>(i.zero,i.size,i.bytes))=Ua (Ua (I_ 0),1,8):=k_
def td.dN{L:List Nat}{a:aN}(h:td L N a){n:Nat}:td L N (a.drewN n):=⟨h.os,h.tape,h.output,h.size,h.i_⟩
def mK.ad{F:bN}{a:Option Uj}{n c:Nat}(h:mK F N (Uq a n c) m)(b:0<Ty m):∃g o,a=Ua (aL g o)/\n=Ty m/\F g/\∀i (h:i<Ty m),T_ N (aL g (o+i))=Ua (I_ m[i])/\ -9223372036854775808<=m[i]/\m[i]<=9223372036854775807:=by grind [mK]
def sP(tape:List Int)(j:Nat):List Uf:=(List.range j).map (λi:Nat=>Value.int .i64 (-1-i))++(tape.drop j++[77,78]).map (Value.int .i64)
def Hu(h:x<Ty m):∃A B,Ty A=x/\sP m x=A++I_ m[x]::B/\sP m (x+1)=A++I_ (-1-(x:Int))::B:=
 ⟨(List.range x).map λi:Nat=>Value.int .i64 (-1-i),(m.drop (x+1)++[77,78]).map (Value.int .i64),s_,by rw[sP,iw h];rfl,by rw[sP,List.range_succ];simp⟩
def JE(h:x<Ty m):(sP m x)[x]?=Ua (I_ m[x])/\(sP m x).toArray.setIfInBounds x (I_ (-1-(x:Int)))=(sP m (x+1)).toArray:=by obtain⟨A,B,rfl,c,b⟩:=Hu h;rw[c,b];simp
def WH(w:aN)(E:ByteArray)(d:List Int)(Q:Option Uj)(c:Nat)(hn:Ty d<=17592186044416)(hT:mK (·<w.heap.size) w (Uq Q (Ty d) c) d)(S:Option Uj->Nat->Nat->Ug->Prop)(R:Option Uj->Option Uj->Ug->Prop)
 (HS:Hid (∀V,R_ w V->V.heap[w.heap.size]?=Ua (Uy (sP d 0).toArray 3)->Ue Un 6 #[Ur E,Uq (Ua (aL w.heap.size 0)) (Ty d) (Ty d+2)] V λe H=>∃(p:Option Uj) (k l:Nat),e=bY (Uu #[Ut p,I_ k,I_ l])/\R_ V H/\S p k l H))
 (HK:Hid (∀p k l W W',S p k l W->td [w.heap.size] W W'->S p k l W'))
 (HR:Hid (∀p k l W,R_ w W->S p k l W->Ue Un 7 #[Ur E,Uq Q (Ty d) c] W λe H=>∃q,e=bY (Uu #[Ut q,.agg #[I_ k,I_ l]])/\(p=none↔q=none)/\R p q H)):
 Ue Un 4 #[Ur E,Uq Q (Ty d) c] w λe H=>∃p q w1 k l,R p q w1/\((p=none/\e=bY (Uu #[Ut none,Uw Ud])/\H=w1.alloc (Uy #[I_ k,I_ l] 43))\/∃a b,p=Ua a/\q=Ua b/\e=bY (Uu #[bF (w1.heap.size+1),Uw Ud])/\H=(w1.alloc (Uy #[I_ k,I_ l] 43)).alloc (Uy #[Ut (Ua a),Ut (Ua b),I_ 0,bO] 34)):=by
 have aj:Ty ((d.map (Value.int .i64)))=Ty d:=s_
 have ad:(Instr.makeSlice 22 (I_ ((Ty d:Int)+2)) (I_ ((Ty d:Int)+2))).run Un w=.ok (Uq (Ua (aL w.heap.size 0)) (Ty d+2) (Ty d+2)) (w.alloc (Uy (madeCells #[I_ 0] (Ty d+2)) 3)):=by
  obtain⟨i0,hi,ac,ag,af⟩:=info_parts Lw;have:=run_make (P:=Un) w 22 3 i0 _ underlying22 hi ac .i64 .i64 ((Ty d:Int)+2) ((Ty d:Int)+2) aD (Int.le_refl _) (by rw[af];exact aD) aD
  rw[ag,Nat.mul_one,show ((Ty d:Int)+2).toNat=Ty d+2 by exact aD]at this
  exact this
 obtain⟨f,u,ab⟩:∃f:Array Uf,madeCells #[Value.int .i64 0] (Ty d+2)=f/\f.size=Ty d+2:=(by grind [size_madeCells])
 rw[u]at ad;have K:R_ w (w.alloc (Uy f 3)):=(by grind [ep,dz])
 have I:(w.alloc (Uy f 3)).heap[w.heap.size]?=Ua (Uy f 3):=bM _ _ aJ;have O:(prog.info? 3).map (·.size)=Ua 1:=k_
 have D:∀W,R_ w W->mK (·<w.heap.size) W (Uq Q (Ty d) c) d:=λW hW=>hT.kp ⟨aD,λb q=>hW.block b q⟩
 obtain⟨L,ah,m,ae⟩:∃L:aN,(Builtin.copy_ #[22,22] 3 #[Uq (Ua (aL w.heap.size 0)) (Ty d+2) (Ty d+2),Uq Q (Ty d) c]).run Un (w.alloc (Uy f 3))=.ok (goInt (Ty d)) L/\L.heap[w.heap.size]?=Ua (Uy (d.map (Value.int .i64)++f.toList.drop (Ty d)).toArray 3)/\R_ w L:=by
  by_cases h0:Ty d=0
  .obtain rfl:d=[]:=(by grind)
   exact⟨_,(by grind [run_copy_none,underlying22]),by simpa using I,K⟩
  obtain⟨g0,o0,rfl, -, -,hs⟩:=(D _ K).ad aD
  have:=run_copy_row (P:=Un) (w.alloc (Uy f 3)) 22 22 3 3 w.heap.size 0 (Ty d+2) (Ty d+2) (aL g0 o0) (Ty d) c f 3 (d.map (Value.int .i64)) underlying22 O I s_ (λj v hv=>by grind [Addr.add]) aD (λv hv=>by obtain⟨z, -,rfl⟩:=ik.1 hv;rfl)
  grind [below_setRow,setRow_heap]
 obtain⟨x,y,N⟩:∃x y,f.toList.drop (Ty d)=[x,y]:=by
  have:Ty (f.toList.drop (Ty d))=2:=G_
  match h:f.toList.drop (Ty d),this with
  |[x,y],_=>simp
 rw[N]at m;have k0:T_ L (aL w.heap.size (Ty d))=Ua x:=aA m s_
 have k1:T_ L (aL w.heap.size (Ty d+1))=Ua y:=aA m s_
 have f0:=aF (i:=d.length) m;have f1:=aF (i:=Ty d+1) m;have kl:=aH m;obtain⟨M,G⟩:∃M,M=(L.setCell (aL w.heap.size (Ty d)) (I_ 77)).setCell (aL w.heap.size (Ty d+1)) (I_ 78):=(by simp)
 have F:R_ w M:=by grind [Below.setCell]
 have C:M.heap[w.heap.size]?=Ua (Uy (sP d 0).toArray 3):=by rw[G,aP (aP m)];simp[sP]
 have Z:=aB (HS M F C);have T:=aB (dy F C);have HT:=aB D;have U:=aB G;clear hT D K I ae m F C HS G u ab N;go_in
 go_wp2_with fail;rw[<-U];apply Z.mono
 rintro e w4 ⟨p,k,l,rfl,J,Y⟩;have t:=(J.block _ (aH T.2)).trans T.2;have k0:T_ w4 (aL w.heap.size (Ty d))=Ua (I_ 77):=aA t (by simp[sP])
 have k1:T_ w4 (aL w.heap.size (Ty d+1))=Ua (I_ 78):=aA t (by simp[sP])
 have A:=aB (dy (T.1.trans (J.mono T.1.size)) (dy Y t));clear J Y t Z U T f0 f1 kl;go_wp2
 go_loopg [11,12] (Ty d) (λgk wh i wr=>∃j:Nat,j+gk=Ty d/\i=I_ j/\wh=Uw Ud/\td [w.heap.size] w4 wr/\wr.heap[w.heap.size]?=Ua (Uy (sP d j).toArray 3))
 case atStart=>grind [td.below,dz,d7]
 case round=>
  clear k0 k1;obtain⟨j,hj,rfl,rfl,g,o⟩:=hrel;have r:R_ w wr:=⟨g.os.trans A.1.os,g.tape.trans A.1.tape,g.output.trans A.1.output,eo A.1.size g.size,λb q=>(g.i_ b (ej q A.1.size) kj).trans (A.1.block b q)⟩
  have HB:=aB (dy g (dy o r));by_cases B:j<Ty d
  .obtain⟨g0,o0,rfl, -,ai,hs⟩:=(HT wr r).ad aD;have t0:=(hs j B).1;have l0:T_ wr (aL w.heap.size j)=Ua (I_ d[j]):=aA o (by simpa using (JE B).1)
   have f0:=aF (i:=j) o;have kl:=aH o;have e1:(0:Int)<=(j:Int):=aD;have e2:(j:Int)<(Ty d:Int):=aD;have e3:(j:Int)<(Ty d:Int)+2:=aD;clear g o r hs;go_wp2_with fail;go_quiet (fail)
   go_wp2
   go_roundg (gk-1)
   case measure=>exact aD
   case rel=>exact⟨j+1,aD,la,rfl,(HB.1.dN (n:=nq)).vi (s_),by rw[<-(JE B).2];exact aP HB.2.1⟩
  have e2:¬(j:Int)<(Ty d:Int):=aD;have aa:=aB (HR p k l wr r (HK _ _ _ _ _ A.2.1 g));clear g o r HB;go_wp2_with fail;apply aa.mono
  rintro e w5 ⟨q,rfl,s,X⟩;have H5:=aB X;clear X aa HR;cases p with
  |none=>
   obtain rfl:=s.1 rfl;clear s;go_wp2
   go_ret2
   exact⟨_,_,_,_,_,H5,.inl ⟨aJ,aJ,aJ⟩⟩
  |some a=>
   obtain⟨b,rfl⟩:∃b,q=Ua b:=by
    cases q with
    |none=>cases s.2 rfl
    |some b=>simp
   clear s;go_wp2
   go_ret2
   exact⟨_,_,_,_,_,H5,.inr ⟨_,_,aJ,aJ,aJ,aJ⟩⟩
def yw(k t:Int):Uf:=.agg #[I_ k,I_ t,Ur ⟨#[]⟩]
def SR(k t:Int):Obj:=Uy #[I_ k,I_ t,Ur ⟨#[]⟩] 37
section
variable {w:aN} {pb sb rb:Nat} {t:Int} {pv:aW} {A:Bool->Ug->Prop} {B:mL}
def WC(d:w.heap[pb]?=Ua (Uy (zj sb rb pv) 34))
 (n:Hid (∀W,bV (w.alloc (SR 2 t)) W->Ue Un 24 #[bF sb,I_ t] W λe a=>∃b,e=bY (Uw b)/\A b a))
 (s:Hid (∀b W,A b W->W.heap[pb]?=Ua (Uy (zj sb rb pv) 34)/\W.heap[w.heap.size]?=Ua (SR 2 t)))
 (F:Hid (∀b W V,A b W->bV W V->Ue Un 25 #[bF rb,I_ t] V λe a=>e=bY (Uw b)/\B a/\a.heap[pb]?=V.heap[pb]?/\a.heap[w.heap.size]?=V.heap[w.heap.size]?)):
 Ue Un 9 #[bF pb,yw 2 t] w λe a=>e=bY (Uw Ud)/\B a:=by
 have D:=aH d;obtain⟨W,j⟩:∃W,W=w.alloc (SR 2 t):=(by simp)
 have v:W.heap[pb]?=Ua (Uy (zj sb rb pv) 34):=by grind [eh]
 have l:W.heap[w.heap.size]?=Ua (SR 2 t):=by grind [bM]
 have z:=aB (dy v l);have H:=aA (i:=0) l aJ;have G:=aB j;unfold SR at j;rw[<-G]at n;have I:w.heap.size<W.heap.size:=(by grind)
 clear d v l;unfold yw;go_in
 go_wp2_with fail;rw[<-j];clear j;go_wp2
 go_cut [5] (λx E=>∃b,x=Uw b/\A b E)
 case first=>
  obtain⟨S,o,i⟩:∃S:Ug->Prop,S=(λa=>T_ a (aL pb 0)=Ua (bF sb)/\T_ a (aL w.heap.size 1)=Ua (I_ t))/\Hid (∀a:aN,a.heap[pb]?=Ua (Uy (zj sb rb pv) 34)->a.heap[w.heap.size]?=Ua (SR 2 t)->S a):=⟨_,rfl,λa q y=>⟨aA q rfl,aA y rfl⟩⟩
  refine wp_region_held_drew (S:=S) k_ (i _ z.1 z.2) (λc=>?_)
  subst o;refine eU 0 ?_;refine eU 1 ?_;refine eU 2 ?_;refine eU 3 ?_;refine eU 4 ?_;refine eU 5 ?_;refine sN 6 (λK f=>?_)
  go_simp;apply (n _ (bV.drew W)).mono
  rintro e C ⟨b,rfl,g⟩;have k:=aB g;clear g;go_wp2_with fail;refine f.out _ _ (i _ (s _ _ k).1 (s _ _ k).2) (λ_=>?_)
  clear f K;refine eU 7 ?_;refine wpAnyH_done k_ ?_ _
  go_wp2_with fail;go_meet
  grind [d7]
 case rest=>
  obtain⟨b,rfl,g⟩:=hcut;have k:=aB g;clear g n H;go_wp2_with fail;obtain⟨S,o,i⟩:∃S:Ug->Prop,S=(λa=>T_ a (aL pb 1)=Ua (bF rb)/\T_ a (aL w.heap.size 1)=Ua (I_ t))/\Hid (∀a:aN,a.heap[pb]?=wc.heap[pb]?->a.heap[w.heap.size]?=wc.heap[w.heap.size]?->S a):=⟨_,rfl,λa q y=>(by grind [aA,d7,zj,SR])⟩
  refine wp_region_held_drew (S:=S) k_ (i _ rfl rfl) (λc=>?_)
  subst o;refine eU 0 ?_;refine eU 1 ?_;refine eU 2 ?_;refine eU 3 ?_;refine eU 4 ?_;refine eU 5 ?_;refine sN 6 (λK f=>?_)
  go_simp;refine rf (F _ _ _ k (bV.drew wc)) λC ⟨r,p,u⟩=>?_
  have m:=aB (dy r (dy p u));clear r p u;go_wp2_with fail;refine f.out _ _ (i _ m.2.1 m.2.2) (λ_=>?_)
  clear f K;refine eU 7 ?_;refine wpAnyH_done k_ ?_ _
  cases b
  all_goals
   go_wp2
   go_ret;exact⟨aJ,m.1⟩
def JJ(k:Int)(f:Nat)(d:(k=1/\f=8)\/(k=2/\f=9))(b:Hid (k=1->Ue Un 8 #[bF pb] (w.alloc (SR k t)) λe a=>e=bY (Uw Ud)/\B a))
 (c:Hid (k=2->Ue Un 9 #[bF pb,yw k t] (w.alloc (SR k t)) λe a=>e=bY (Uw Ud)/\B a)):
 Ue Un 5 #[bF pb,yw k t] w λe a=>e=bY (Uw Ud)/\B a:=by
 unfold yw SR at c;unfold SR at b;unfold yw;rcases d with ⟨rfl, -⟩|⟨rfl, -⟩
 .have H:=aB (b aJ);clear b c;go_in
  go_wp2_with (refine rf H λa h=>?_)
  go_ret;exact⟨aJ,h⟩
 have H:=aB (c aJ);clear b c;go_in
 go_wp2_with (refine rf H λa h=>?_)
 go_ret;exact⟨aJ,h⟩
end
def s9{u:aW}{Z:mL}{I:Nat->Ug->Prop}{J J':Nat->Nat->Nat->Ug->Prop}
 (o:Hid (Ue Un 4 #[u,y] N λe a=>(e=bY (Uu #[Ut none,Uw Ud])/\Z a)\/∃pb,e=bY (Uu #[bF pb,Uw Ud])/\I pb a))
 (m:Hid (∀pb W,I pb W->∃rb x n c,T_ W (aL pb 1)=Ua (bF rb)/\T_ W (aL rb 0)=Ua (Uq x n c)/\n<=1000/\Ue Un 5 #[bF pb,yw 2 (-1)] W λe a=>e=bY (Uw Ud)/\J pb n 0 a))
 (s:Hid (∀pb n W (t:Nat),J pb n t W->t<=n->Ue Un 5 #[bF pb,yw 2 t] W λe a=>e=bY (Uw Ud)/\J' pb n t a))
 (v:Hid (∀pb n W (t:Nat),J' pb n t W->t<=n->Ue Un 5 #[bF pb,yw 1 0] W λe a=>e=bY (Uw Ud)/\J pb n (t+1) a))
 (B:Hid (∀pb n W (t:Nat),J pb n t W->Z W)):
 Ue Un 3 #[u,y] N λe a=>e=bY (Uw Ud)/\Z a:=by
 unfold yw at m s v;go_in
 go_wp2_with fail;apply o.mono
 rintro e z (⟨rfl,F⟩|⟨pb,rfl,r⟩)
 .go_wp2
  go_ret;exact⟨aJ,F⟩
 obtain⟨rb,x,n,c,D,E,K,k⟩:=m pb z r;have f:=aB k;clear k r o m;go_wp2_with fail;refine rf f λM b=>?_
 have l:=aB b;clear b f D E;go_wp2
 go_loopg [6,8] (n+1) (λgk ok i wr=>∃j:Nat,j+gk=n+1/\i=I_ j/\ok=Uw Ud/\J pb n j wr)
 case atStart=>exact⟨0,aD,rfl,rfl,l⟩
 case round=>
  clear l;obtain⟨j,L,rfl,rfl,b⟩:=hrel;by_cases d:j<=n
  .have p:=aB (s pb n wr j b d);have C:(j:Int)<=(n:Int):=aD;clear b;go_wp2_with fail;refine rf p λA g=>?_
   have q:=aB (v pb n A j g d);clear g p;go_wp2_with fail;refine rf q λH b=>?_
   have l:=aB b;clear b q;go_wp2
   go_roundg (gk-1)
   case measure=>exact aD
   case rel=>exact⟨j+1,aD,la,rfl,l⟩
  have C:¬(j:Int)<=(n:Int):=aD;have G:=aB (B pb n wr j b);clear b;go_wp2
  go_ret;exact⟨aJ,G⟩
structure ZI(P:bN)(W:aN)(rb t:Nat)(mv:aW)(l:List gC):Prop where
 i_:W.heap[rb]?=Ua (Uy #[mv,I_ t,bO] 29)
 vo:Own 6 78 (yt P W) W mv l.zipIdx
 row:∀b,mv.ownBlock=Ua b->P b
def Own.tag{c:Type}{e:Ui}{R:List Uf->c->Prop}{l:List c}(h:Own x e R N y l){b:Nat}(d:y.ownBlock=Ua b):∃a,N.heap[b]?=Ua (Uy a e):=by
 obtain⟨j,⟨-,f⟩, -⟩:=h;rcases f with ⟨rfl, -⟩|⟨g,i,a,rfl, -,q, -⟩
 .cases d
 cases d;grind
def zv(P:bN)(W W':aN):Prop:=∀(b:Nat) (cur:Array Uf) (e:Ui),P b->W.heap[b]?=Ua (Uy cur e)->e∈[78,133,135,9]->W'.heap[b]?=W.heap[b]?
def ZI.stay{P Q:bN}{a:aN}{t i:Nat}{l:List gC}(h:ZI P N x t y l)(o:zv P N a)(r:∀b,P b->Q b)(m:a.heap[x]?=Ua (Uy #[y,I_ i,bO] 29)):ZI Q a x i y l:=by
 have p:∀{j:Type} {k:Nat} {e:Ui} {R:List Uf->j->Prop} {v:aW} {l:List j},e∈[78,133,135,9]->Fz k e R P N v l->Fz k e R Q a v l:=λs q=>⟨q.row.h_ (λb c=>by obtain⟨d,n⟩:=q.row.tag c;grind [Fz.i_,zv]) s_,(by grind [Fz.i_])⟩
 refine⟨m,h.vo.h_ (λb c=>by obtain⟨d,n⟩:=h.vo.tag c;grind [ZI.row,zv]) (by grind [yt]),(by grind [ZI.row])⟩
structure qW(w:aN)(ks:List aC)(tape:List Int)(l:List gC)(pb k:Nat)(s:dB)(W:aN)(sb rb:Nat)(L:List Nat)(mv pv:aW):Prop where
 live:∃fp F mb n,rE fp F W sb mb (.map #[] 0) ks tape s n L
 Bz:w.heap.size<=sb/\w.heap.size<=rb
 low:R_ w W
 doc:ZI (λb=>b<w.heap.size\/b∈L) W rb s.m_ mv l
 pr:W.heap[pb]?=Ua (Uy (zj sb rb pv) 34)
 pg:Rw 4 83 L W k W pv
 mem:pb∈L/\rb∈L
 new:w.heap.size<=pb/\∀b,pv.ownBlock=Ua b->w.heap.size<=b
structure Told(ks:List aC)(tape:List Int)(l:List gC):Prop where
 wb:Good ks
 tl:Ty tape<=17592186044416
 len:Ty l<=1000
 told:∀t,(t<Ty l->∃s,eX ks tape t=Ua s/\l[t]?=Ua (Hs.rz s.m s.stop))/\(Ty l<=t->eX ks tape t=none)
section
variable {w W:aN} {ks:List aC} {tape:List Int} {l:List gC} {pb k:Nat} {s:dB} {sb rb:Nat} {L:List Nat} {mv pv:aW}
def qW.Ce(H:Told ks tape l)(h:qW w ks tape l pb k s W sb rb L mv pv)(t:Int):
 Ue Un 5 #[bF pb,yw 2 t] W λe J=>e=bY (Uw Ud)/\∃d M,qW w ks tape l pb k d J sb rb M mv pv:=by
 obtain⟨U,F,X,n,hl⟩:=h.live;refine JJ 2 9 (aD) (λe=>by cases e) λ_=>?_
 have B:=(hl.alloc (SR 2 t)).alloc (SR 2 t);obtain⟨p,u⟩:∃p,p=(W.alloc (SR 2 t)).alloc (SR 2 t):=(by simp)
 obtain⟨y,S⟩:∃y,y=(W.alloc (SR 2 t)).heap.size::H_ W::L:=(by simp)
 rw[<-u,<-S]at B;have o:R_ W p:=by rw[u];exact((dz _ _).alloc (aD) _).alloc s_ _
 have aa:=h.Bz;have a:∀b∈L,b∈y:=(by grind)
 have hlt :=λb q=>(hl.loc b q).2.1
 have r:∀b,b<H_ w\/b∈L->p.heap[b]?=W.heap[b]?:=λb q=>o.block b (q.elim (λq=>ej q h.low.size) (hlt b))
 refine WC (A:=λb V=>∃d,(∃G D,rE U G V sb X (.map #[] 0) ks tape d D y)/\SJ (eX ks tape) t s d b/\(∀x,x<H_ w\/x∈y->V.heap[x]?=p.heap[x]?)/\V.os=p.os/\V.tape=p.tape/\V.output=p.output/\H_ p<=H_ V) (pv:=pv) (sb:=sb) (rb:=rb) ?_ (λV f=>?_) (λb V f=>?_) λb V V' f C=>?_
 .grind [eh,qW.pr]
 .rw[<-u]at f;have hl3 :=B.but (.below f.below []) s_
  apply (Ke H.wb H.tl hl3 t).mono
  rintro e J ⟨b,rfl,G,D,d,Z,E,i⟩;refine⟨b,aJ,d,G_,E,λx q=>?_,i.os.trans f.os,i.tape.trans f.tape,i.output.trans f.output,by have:=i.size;grind [bV.heap]⟩
  rw[<-f.heap];rcases q with q|q
  .exact i.i_ x (by have:=f.heap;have:=h.low.size;grind) aD λe=>by have:=(hl3.row e).1;exact aD
  exact hl3.i_ i q
 .obtain⟨d, -, -,g, -⟩:=f;refine⟨?_,?_⟩
  .rw[g pb (.inr (a _ h.mem.1)),r _ (.inr h.mem.1)];exact h.pr
  grind [bM]
 obtain⟨d,⟨G,D,Z⟩,E,g,o1,o2,o3,o4⟩:=f
 have m:V'.heap[rb]?=Ua (cD #[mv,I_ s.m_,bO] 29):=by rw[C.heap,g rb (.inr (a _ h.mem.2)),r _ (.inr h.mem.2)];exact h.doc.i_
 obtain⟨x,c,z, -⟩:=h.doc.vo.slice;rw[ij]at z;apply (v7 V' t (by rw[<-z];exact aA m aJ) (aA m aJ) (aF m) H.len).mono
 have Q:∀(b:Nat) (v:Array Uf) (e:Ui),W.heap[b]?=Ua (cD v e)->e≠29->b≠rb:=λb v e q hn T=>by rw[T,h.doc.i_]at q;grind
 have I:∀b,b<H_ w->b≠rb:=aD
 have P:∀(j:aN) (K:Nat),(∀b,b≠rb->j.heap[b]?=V.heap[b]?)->j.heap[rb]?=Ua (cD #[mv,I_ K,bO] 29)->j.os=V.os->j.tape=V.tape->j.output=V.output->H_ j=H_ V->d.m_=K->∃d M,qW w ks tape l pb k d j sb rb M mv pv:=λj K q1 q2 q3 q4 q5 q6 q7=>by
  have N:∀b,b<H_ w\/b∈L->b≠rb->j.heap[b]?=W.heap[b]?:=(by grind)
  refine⟨d,y,⟨U,G,X,D,Z.h_ [rb] (by simpa using a _ h.mem.2) aD G_⟩,h.Bz,⟨q3.trans (o1.trans (o.os.trans h.low.os)),q4.trans (o2.trans (o.tape.trans h.low.tape)),q5.trans (o3.trans (o.output.trans h.low.output)),G_,λb q=>(N b (.inl q) (I b q)).trans (h.low.block b q)⟩,h.doc.stay ((by grind [zv])) (G_) G_,(by grind [qW.mem,qW.pr]),?_,⟨a _ h.mem.1,a _ h.mem.2⟩,h.new⟩
  obtain⟨lp,Y,p2⟩:=h.pg.own;have hpL :=λb q=>(h.pg.i_ b q).elim id λT=>by have:=Y.lt b q;exact aD
  exact⟨⟨lp,Y.h_ (λb q=>by obtain⟨v,T⟩:=h.pg.tag q;grind) s_,p2⟩,G_⟩
 have O:=H.told;rintro e J (⟨r1,r2,rfl,rfl⟩|⟨r1,rfl,rfl⟩)
 .obtain⟨σ,ab, -⟩:=(O t.toNat).1 aD;rcases E with ⟨rfl,i, -⟩|⟨-, -,i|i⟩
  .refine⟨aJ,P _ t.toNat ((by grind [em,bV.heap])) ?_ C.os C.tape C.output (by simp[C.heap]) aD,em _ _ _ _ (Q _ _ _ h.pr d_),em _ _ _ _ ?_⟩
   .rw[aP m,show ((t.toNat:Nat):Int)=t by omega];rfl
   have:=hlt rb h.mem.2;simp;exact aD
  .exact aD
  grind
 rcases E with ⟨-,i,g4⟩|⟨rfl,rfl, -⟩
 .grind
 grind [bV.heap,bV.os,bV.tape,bV.output]
structure Ru(t:Nat)(d:gC)(M:List Nat)(w:aN)(m:SV):Prop where
 t:m.t=t
 q:m.q=d.stop
 st:Fz 2 133 W8 (·∈M) w (Uq m.x1 m.n1 m.c1) d.stack
 va:Fz 2 135 vN (·∈M) w (Uq m.x2 m.n2 m.c2) (lL d.g_)
 ou:Fz 1 9 AZ (·∈M) w (Uq m.x3 m.n3 m.c3) d.out
def Fz.len{a:Type}{k:Nat}{e:Ui}{R:List Uf->a->Prop}{F:bN}{w:aN}{x:Option Uj}{n c:Nat}{l:List a}(h:Fz k e R F w (Uq x n c) l):n=Ty l:=by obtain⟨d,b,e, -⟩:=h.row.slice;grind
def qW.now(O:Told ks tape l)(h:qW w ks tape l pb k s W sb rb L mv pv)(hk:k<=90000):
 Ue Un 5 #[bF pb,yw 1 0] W λe E=>e=bY (Uw Ud)/\∃L' r,qW w ks tape l pb (k+2) s E sb rb L' mv r:=by
 obtain⟨fp,F,mb,n,hl⟩:=h.live;refine JJ 1 8 (aD) (λ_=>?_) λe=>by cases e
 have x:=hl.alloc (SR 1 0);obtain⟨N,ae⟩:∃N,N=W.alloc (SR 1 0):=(by simp)
 rw[<-ae]at x ⊢
 have o:R_ W N:=by grind [ep,dz]
 have hlt :=λb q=>(hl.loc b q).2.1
 have y:=hl.um.now;obtain⟨K, -,S, -⟩:=O.wb.Bl y;have aa:=C4 O.wb.ok O.wb.kl tape s.m_ s y;have htm :=Nat.lt_of_not_le λq=>by rw[(O.told s.m_).2 q]at y;cases y
 obtain⟨s',T,aj⟩:=(O.told s.m_).1 htm;rw[y]at T;cases T;obtain⟨gm,cm,c,Y,⟨sv,vv,ov,bv,hc,f1,f2,f3⟩,ac⟩:=h.doc.vo.cell (i:=s.m_) (by simpa using htm)
 have af:l.zipIdx[s.m_]'(by grind)=(Hs.rz s.m s.stop,s.m_):=by grind
 rw[af]at hc f1 f2 f3;simp only at hc f1 f2 f3;rw[ij]at Y;obtain⟨y1,e1,rfl, -⟩:=f1.row.slice;obtain⟨y2,e2,rfl, -⟩:=f2.row.slice;obtain⟨y3,e3,rfl, -⟩:=f3.row.slice;subst hc Y;have hgm :=h.doc.vo.lt gm aJ;have hpL :=λb q=>(h.pg.i_ b q).elim id λt=>by obtain⟨lp,Q, -⟩:=h.pg.own;have:=Q.lt b q;exact aD
 have p:(Hs.rz s.m s.stop).stack.length<=1000000/\Ty (lL (Hs.rz s.m s.stop).g_)<=1000000/\(Hs.rz s.m s.stop).out.length<=1000000:=by
  have h1:=K.deep;have h2:=S.out;refine⟨by simp[Hs.rz];exact aD,?_,by simp[Hs.rz];exact aD⟩
  rw[NC];unfold Hs.rz;cases hf:s.m.f_.getLast? with
  |none=>simp
  |some f=>
   have:=(aa f (G_)).1.2
   grind
 have ab:∀V,R_ N V->R_ W V:=λV X=>o.trans (X.mono o.size)
 refine(L7 (w:=N) (pb:=pb) (sb:=sb) (rb:=rb) (gm:=gm) (at_:=s.m_) (nm:=l.length) (cm:=cm) (k:=k) (pv:=pv) (L:=pb::ob pv) (d:=⟨s.m_,y1,y2,y3,(Hs.rz s.m s.stop).stack.length,Ty (lL (Hs.rz s.m s.stop).g_),(Hs.rz s.m s.stop).out.length,e1,e2,e3,s.stop⟩) (MD:=Ru s.m_ (Hs.rz s.m s.stop)) aD htm O.len s_ ((by grind [eg,qW.pr])) ?_ ((o.block rb (hlt _ h.mem.2)).trans h.doc.i_) (ej hgm o.size) (λj u q=>?_) (λV X=>?_) (λV m M X a=>?_) (λM V V' m a hk=>?_) λM V m a=>?_).mono ?_
 .obtain⟨lp,Q,p2⟩:=h.pg.own;exact⟨⟨lp,Q.h_ (ku) s_,p2⟩,nu⟩
 .grind [World.cell?_of_block,eg,Hs.rz,SV.cells]
 .have hl2 :=x.but (.below X []) s_
  apply (Mu hl2.um K.deep hl2.pow aa K.told (by have:=S.out;exact aD)).mono
  rintro e E ⟨m,rfl,hb,a⟩;have hg:∀{G:Type} {k:Nat} {e:Ui} {R:List Uf->G->Prop} {v:aW} {l:List G} (M:List Nat),(∀b∈ob v,b∈M)->Fz k e R (H_ V<=·) E v l->Fz k e R (·∈M) E v l:=λM q f=>⟨f.row,λb hb=>q b (mG.2 hb)⟩
  refine⟨m,ob (P_ m.x1 m.n1 m.c1)++(ob (P_ m.x2 m.n2 m.c2)++ob (P_ m.x3 m.n3 m.c3)),aJ,hb,⟨a.t,a.q,(by grind [Bq.st]),(by grind [Bq.va]),(by grind [Bq.ou])⟩,λg q=>?_⟩
  simp only[fo,mG]at q;rcases q with q|q|q
  .exact⟨a.st.i_ g q,a.st.row.lt g q⟩
  .exact⟨a.va.i_ g q,a.va.row.lt g q⟩
  exact⟨a.ou.i_ g q,a.ou.row.lt g q⟩
 .obtain⟨P,U⟩:∃P,P=eH (eH V m.cells 73) (SV.cells ⟨s.m_,y1,y2,y3,(Hs.rz s.m s.stop).stack.length,Ty (lL (Hs.rz s.m s.stop).g_),(Hs.rz s.m s.stop).out.length,e1,e2,e3,s.stop⟩) 73:=(by simp)
  have A:R_ V P:=by rw[U];exact((dz _ _).alloc (aD) _).alloc s_ _
  have Z:=ab V X;have H:∀{G:Type} {k:Nat} {e:Ui} {R:List Uf->G->Prop} {v:aW} {l:List G} {F:bN},Fz k e R F V v l->Own k e R P v l:=λf=>f.row.h_ (λb q=>A.block b (f.row.lt b q)) s_
  have I:∀{G:Type} {k:Nat} {e:Ui} {R:List Uf->G->Prop} {v:aW} {l:List G} {F:bN},Fz k e R F W v l->Own k e R P v l:=λf=>f.row.h_ (λb q=>(A.block b (ej (f.row.lt b q) Z.size)).trans (Z.block b (f.row.lt b q))) s_
  refine rf (K7 V P m ⟨s.m_,y1,y2,y3,(Hs.rz s.m s.stop).stack.length,Ty (lL (Hs.rz s.m s.stop).g_),(Hs.rz s.m s.stop).out.length,e1,e2,e3,s.stop⟩ (Hs.rz s.m s.stop).stack (lL (Hs.rz s.m s.stop).g_) (Hs.rz s.m s.stop).out p a.t.symm a.q.symm a.st.len a.va.len a.ou.len aJ aJ aJ U.symm ⟨H a.st,I f1⟩ ⟨H a.va,I f2⟩ ⟨H a.ou,I f3⟩) λE hS=>?_
  exact⟨aJ,A.trans (hS.below.mono A.size)⟩
 .exact⟨a.t,a.q,⟨a.st.row.h_ (λb q=>hk b (a.st.i_ b q)) s_,a.st.i_⟩,⟨a.va.row.h_ (λb q=>hk b (a.va.i_ b q)) s_,a.va.i_⟩,⟨a.ou.row.h_ (λb q=>hk b (a.ou.i_ b q)) s_,a.ou.i_⟩⟩
 .exact⟨.of a.st.row p.1 λb q=>.inl (a.st.i_ b q),.of a.va.row p.2.1 λb q=>.inl (a.va.i_ b q),.of a.ou.row p.2.2 λb q=>.inl (a.ou.i_ b q)⟩
 rintro e E ⟨rfl,B,r,ag,J⟩;have hz1 :=o.size
 have D:∀b∈pb::ob pv,b∈L:=λb q=>by
  rcases ff.1 q with rfl|q
  .exact h.mem.1
  exact hpL b (mG.1 q)
 have C:∀(b:Nat) (z:Array Uf) (e:Ui),W.heap[b]?=Ua (cD z e)->e≠34->e≠83->E.heap[b]?=W.heap[b]?:=λb z e q n1 n2=>by
  rw[B.i_ b (G_) λt=>?_,o.block b (G_)]
  rcases ff.1 t with rfl|t
  .rw[h.pr]at q;grind
  obtain⟨cs,q2⟩:=h.pg.tag (mG.1 t);grind
 have hl2 :=x.but B λb q=>by simp[D b q]
 have hsbk :=B.i_ sb x.um.lt λq=>(hl.loc sb (D sb q)).2.2.2.2.1 aJ
 have ad:∀b,r.ownBlock=Ua b->b<H_ E:=λb q=>by obtain⟨lp,Q, -⟩:=J.own;exact Q.lt b q
 have ai:=x.xy hl2 hsbk ((ob r).filter λb=>decide (H_ N<=b)) λb q=>by simp only[List.mem_filter,mG,decide_eq_true_eq]at q;exact⟨q.2,ad b q.1⟩
 have ah:∀b,b∈L->b∈((ob r).filter λb=>decide (H_ N<=b))++H_ W::L:=(by grind)
 have hpv' :=J.i_;obtain⟨lp,Q,p2⟩:=J.own;refine⟨aJ,_,r,G_,h.Bz,⟨B.os.trans (o.os.trans h.low.os),B.tape.trans (o.tape.trans h.low.tape),B.output.trans (o.output.trans h.low.output),eo h.low.size (eo hz1 B.size),λb q=>?_⟩,h.doc.stay (λb z e _ q he=>C b z e q (G_) G_) (G_) ((C _ _ _ h.doc.i_ d_ d_).trans h.doc.i_),ag,⟨G_,λb q=>.inl ?_⟩,⟨G_,ah _ h.mem.2⟩,h.new.1,λb q=>?_⟩
 .have:=h.low.size;rw[B.i_ b aD λt=>?_,o.block b aD,h.low.block b q]
  rcases ff.1 t with rfl|t
  .have:=h.new.1;exact aD
  have:=h.new.2 b (mG.1 t);exact aD
 .grind [ob]
 rcases hpv' b q with t|t
 .rcases ff.1 t with rfl|t
  .exact h.new.1
  exact h.new.2 b (mG.1 t)
 have:=h.low.size;exact aD
end
def Good.Mi{a:List aC}(h:Good a):KR a 2001:=⟨h.ok,h.lit,h.kl,by have:=h.fl;exact aD⟩
def Good.told{b:List aC}(h:Good b){l:List gC}(d:sM b (16*(2001+2)) m=Ua l)(c:Ty m<=17592186044416)(j:Ty l<=1000):Told b m l:=
 ⟨h,c,j,λt=>by obtain⟨g,e⟩:=wD (nY h.ok) (uE h.ok h.main m) (E4 h.ok h.main d) t;exact⟨λq=>by obtain⟨s,f,i, -⟩:=g q;exact⟨s,f,i⟩,e⟩⟩
section
variable {w:aN} {src:bP} {tape:List Int}
def Et(w:aN)(src:bP)(tape:List Int)(p:Option Uj)(k l:Nat)(W:aN):Prop:=
 dR src=(k,l)/\((p=none/\k≠0)\/∃ks fp G sb mb s,p=Ua (aL sb 0)/\dR src=(0,0)/\eA src=.ok ks/\w.heap.size<=sb/\rE fp G W sb mb (.map #[] 0) ks tape s 1 [w.heap.size]/\s.m_=0)
def El(w:aN)(tape:List Int)(p q:Option Uj)(W:aN):Prop:=
 R_ w W/\(p=none\/∃sb rb ks l fp G mb s L mv,p=Ua (aL sb 0)/\q=Ua (aL rb 0)/\Told ks tape l/\rE fp G W sb mb (.map #[] 0) ks tape s 1 L/\(w.heap.size<=sb/\w.heap.size<=rb)/\ZI (λb=>b<w.heap.size\/b∈L) W rb s.m_ mv l/\rb∈L)
def R9(hT:qH w)(x:fN w)(hp:pA w)(D:11<=w.heap.size)(hs:Ty src<=140737488355328)(h:Ty tape<=17592186044416){H:Option Uj}{c:Nat}(Y:mK (·<w.heap.size) w (Uq H (Ty tape) c) tape):
 Ue Un 4 #[Ur (bs src),Uq H (Ty tape) c] w λe f=>(e=bY (Uu #[Ut none,Uw Ud])/\R_ w f)\/∃pb,e=bY (Uu #[bF pb,Uw Ud])/\∃ks l s sb rb L mv,Told ks tape l/\qW w ks tape l pb 0 s f sb rb L mv (bO):=by
 refine(WH w (bs src) tape H c h Y (Et w src tape) (El w tape) (λV B g=>?_) (λp k l W W' Z hB=>?_) λp k l W u Z=>?_).mono ?_
 .have z:=aH g;refine(M8 (bs src) _ tape V (hT.below B) (hp.below B) (by rw[iT];exact aD) (.inr ⟨_,0,_,rfl,z,λi hi=>?_⟩) h ((by grind [W5]))).mono ?_
  .obtain⟨_,_,_,_,_,q⟩:=Y.ad aD;exact⟨aA g (by simp[sP,List.getElem?_append,hi]),(q i hi).2⟩
  rintro e f ⟨v,rfl,d,hv⟩;rw[jT]at hv;have P:R_ w f:=B.trans (d.mono B.size);have E:=B.size;rcases hv with ⟨T,ks,j,G,sb,m,U,rfl,r,y,K,s,n,F,q7⟩|⟨T,rfl⟩
  .refine⟨Ua (aL sb 0),0,0,aJ,d,T,.inr ⟨ks,j,G,sb,m,s,aJ,T,U,aD,⟨n,K,hp.below P,aD,aD,λb q=>?_⟩,F⟩⟩
   obtain rfl:=ia.1 q;refine⟨D,ej z d.size,λq=>?_,λq=>?_,aD,aD⟩
   .rcases q7 _ q with q|⟨c',t,I,h3⟩
    .exact aD
    grind
   have:=(n.row _ q).1;exact aD
  grind [Et]
 .obtain⟨J,I⟩:=Z;refine⟨J,I.imp_right ?_⟩;rintro⟨ks,j,G,sb,m,s,U,r,y,K,n,F⟩;exact⟨ks,j,G,sb,m,s,U,r,y,K,n.but hB s_,F⟩
 .obtain⟨J,I⟩:=Z;have A:mK (·<w.heap.size) W (Uq H (Ty tape) c) tape:=Y.kp ⟨aD,λb q=>u.block b q⟩
  have hm:(bs src).size<=maxLen:=by grind [iT,maxLen]
  rcases I with ⟨rfl,hk⟩|⟨ks,j,G,sb,m,s,rfl,r,y,K,n,F⟩
  .apply (O7 (s:=bs src) (x.below u) hm A (by rw[jT,J];exact hk)).mono
   grind [Below.trans,Below.mono,Below.size,bs,El]
  have g:=W5 y r;obtain⟨M,C⟩:=LN g.ok g.kl g.main tape;apply (XU (s:=bs src) (x.below u) hm (λb q=>ej q u.size) A h (by rw[jT];exact r) (by rw[jT];exact y) g.Mi g.main C).mono
  rintro e f ⟨rb,v,Gd,rfl,d,r1,r2,r3,r4,r5,r6⟩;obtain⟨rfl,rfl⟩:=gn (J.symm.trans r);have E:=u.size;have o:rE j G f sb m (.map #[] 0) ks tape s 1 [w.heap.size]:=n.but (.below d []) s_
  have O:=n.xy o (d.block _ n.um.lt) (List.range' W.heap.size (f.heap.size-W.heap.size)) G_
  have ab:∀b,W.heap.size<=b->b<f.heap.size->b∈List.range' W.heap.size (f.heap.size-W.heap.size)++[w.heap.size]:=(by grind)
  have aa:=aH r1;refine⟨Ua (aL rb 0),aJ,s_,u.trans (d.mono E),.inr ⟨sb,rb,ks,M,j,G,m,s,_,v,rfl,rfl,g.told C h r6,O,aD,⟨G_,r3.h_ (s_) λ_ _ q=>q.kp ⟨G_,s_⟩,(by grind [Own.lt])⟩,G_⟩⟩
 rintro e f ⟨p,q,S,k,l,⟨d,x⟩,⟨rfl,rfl,rfl⟩|⟨a,b,rfl,rfl,rfl,rfl⟩⟩
 .grind [ep,Below.size]
 rcases x with x|⟨sb,rb,ks,M,j,G,m,s,L,mv,e1,e2,N,hl,Q,hd,X⟩
 .cases x
 cases e1;cases e2;have E:=d.size;have o:=(hl.alloc (Uy #[I_ k,I_ l] 43)).alloc (Uy #[bF sb,bF rb,I_ 0,bO] 34);have hk:∀b,b<S.heap.size->((S.alloc (Uy #[I_ k,I_ l] 43)).alloc (Uy #[bF sb,bF rb,I_ 0,bO] 34)).heap[b]?=S.heap[b]?:=(by grind [eh])
 exact .inr ⟨_,aJ,ks,M,s,sb,rb,_,mv,N,⟨j,G,m,1,o⟩,Q,(d.alloc E _).alloc kj _,hd.stay ((by grind [zv])) (G_) ((by grind [ZI.i_])),bM _ _ s_,.nil,⟨s_,by simp[X]⟩,aD,λb q=>by cases q⟩
def Ss(v:qH w)(C:fN w)(y:pA w)(m:11<=H_ w)(A:Ty src<=140737488355328)(p:Ty tape<=17592186044416){q:Option Uj}{c:Nat}(z:mK (·<H_ w) w (P_ q (Ty tape) c) tape):
 Ue Un 3 #[Q_ (bs src),P_ q (Ty tape) c] w λe r=>e=bY (Uw Ud)/\R_ w r:=by
 refine s9 (I:=λb W=>∃a l s h d L g,Told a tape l/\qW w a tape l b 0 s W h d L g (bO)) (J:=λb n t W=>∃a l s h d L g k,Told a tape l/\Ty l=n/\qW w a tape l b (2*t) s W h d L g k) (J':=λb n t W=>∃a l s h d L g k,Told a tape l/\Ty l=n/\qW w a tape l b (2*t) s W h d L g k) (R9 v C y m A p z) (λb W B=>?_) (λb n W t o _=>?_) (λb n W t o D=>?_) λb n W t o=>?_
 .obtain⟨a,l,s,h,d,L,g,i,f⟩:=B;obtain⟨x,u,j, -⟩:=f.doc.vo.slice;rw[ij]at j;refine⟨d,x,Ty l,u,aA f.pr aJ,by rw[<-j];exact aA f.doc.i_ aJ,i.len,(f.Ce i (-1)).mono ?_⟩
  grind
 .obtain⟨a,l,s,h,d,L,g,k,i,rfl,f⟩:=o;apply (f.Ce i t).mono
  grind
 .obtain⟨a,l,s,h,d,L,g,k,i,rfl,f⟩:=o;apply (f.now i (by have:=i.len;exact aD)).mono
  grind
 grind [qW.low]
end
