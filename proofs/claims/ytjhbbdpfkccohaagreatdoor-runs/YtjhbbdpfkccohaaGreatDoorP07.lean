import Derived.Test.YtjhbbdpfkccohaaGreatDoorP06
set_option linter.all false
set_option maxRecDepth 100000
set_option maxHeartbeats 4000000
open List renaming length->Ty
open Bool renaming false->Uc,true->Ud
open Go renaming Calls->Ue,Value->Uf,World->Ug
open Go.RowKit renaming Hid->Ul
open Go.Proofs.Tryz renaming prog->Un
open Go.Value renaming string->Ur,agg->Us
namespace Go.Proofs.YtjhbbdpfkccohaaGreatDoor
open Hs
open _root_.Go.Proofs.Tryz
open Go.RowKit
variable{B:Ctx}{d:List bH}{q:Nat}{a:Prop}{j:Type}{A D:aN}{m:bP}
abbrev wm(w:aN)(b:Nat):Prop:=w.heap[b]?=some (.cells #[I_ 0,Ur ⟨#[]⟩,I_ 0,I_ 0] 174)
def GJ(Y_:a:=by
 go_wp2_with fail;go_quiet (fail)
 go_wp2_with fail;refine rf (HFL _) λw3 hw=>?_
 obtain rfl:=hw.symm;go_wp2_with fail;exact⟨aJ,HF2.drewN _,s_⟩):a:=Y_
def j9(r:Nat)(a:ByteArray)(n L:Nat)(w:aN)(h:SC r a n L w)(hs:a.size<=2000000000)(hn:n<a.size):
 Ue Un 196 #[bF r] w (Ci r a n L w (oQ ((dY a).drop (n+1)))):=by
 obtain⟨m,V⟩:∃m,m=n+1:=(by simp)
 rw[<-V];obtain⟨j,H⟩:∃j,j=bR iG ((dY a).drop m):=(by simp)
 have ai:j<=a.size-m:=by have:=oE iG ((dY a).drop m);rw[H];simpa using this
 obtain⟨k,hk⟩:∃k,k=m+j:=(by simp)
 have aj:=(SC.cells h).1;have t:H_ w≠r:=aD;have h1:SC r a n L (eH w #[I_ 0,Q_ ⟨#[]⟩,I_ 0,I_ 0] 174):=by grind [SC,eh]
 have HZ:Ul (wm (eH w #[I_ 0,Q_ ⟨#[]⟩,I_ 0,I_ 0] 174) (H_ w)):=aZ _ _ aJ _;have G:=aB (tH r a n L 1 (eH w #[I_ 0,Q_ ⟨#[]⟩,I_ 0,I_ 0] 174) h1 hs aD);rw[<-V]at G;have A:=aB (λw=>BB iG 244 (s_) RD (a.extract m a.size) w qq)
 rw[rX,<-H]at A;obtain⟨x,z⟩:∃x,x=((dY a).drop m).take j:=(by simp)
 have ac:(bs x).size=j:=by rw[iT,z,hH];simp;exact aD
 obtain⟨ok,b⟩:∃ok,ok=(decide (((dY a).drop m)[j]?=some 34) && decide (j<=100)):=(by simp)
 have HW:Ul (oQ ((dY a).drop m)={ c_:=115,x_:=x,size:=j+2,ok:=ok }):=by
  show _=_
  grind [oQ]
 rw[HW];have Z:=aB z;have f:=aB b;have K:Ul (Fr r w (eH w #[I_ 0,Q_ ⟨#[]⟩,I_ 0,I_ 0] 174)):=(Fr.refl _ _).alloc _;have HM:=aB V;have HK:=aB hk;have ae:m<=a.size:=aD;have ad:k<=a.size:=aD;clear h h1 H z HW b V hk;generalize c:({ c_:=115,x_:=x,size:=j+2,ok:=ok }:qV)=rr;have g:=aB c;clear c;go_in
 go_wp2_with fail;refine rf G λw1 ⟨F,I⟩=>?_
 have P:=aB (I.we HZ t);have HZ1d:Ul (wm w1.drew (H_ w)):=P.out;have s:=aB (tH r a m L j w1.drew F hs aD);rw[<-HK]at s;rw[<-Z]at s;have J:=aB (K.trans I);obtain⟨Y,X,U,S,W,T⟩:=F.cells;clear F I G HZ K;go_wp2
 go_cut [3] (λv wc=>v=Q_ (bs x)/\SC r a (k) L wc/\Fr r w wc/\wm wc (H_ w))
 case first=>
  go_region_law (first|(go_simp;go_at_call 190;refine rf (A _) λw2 hw=>?_;obtain rfl:=hw.symm)|(go_simp;go_at_call 239;refine rf s λw2 ⟨o,p⟩=>?_;have D:=aB o;have HF2:=aB (J.drew.trans p);have E:=aB (p.we HZ1d t);clear o p))
  all_goals
   go_wp2_with fail;go_meet
   grind [d7]
 case rest=>
  obtain⟨rfl,o,p,M⟩:=hcut;clear X U S W T Y;obtain⟨Y,X,U,S,W,T⟩:=o.cells;have D:=aB o;have HF2:=aB p;have E:=aB M;clear o p M s A P HZ1d J;have HFL:=aB (λq=>xP r a (k) L (wc.drewN q) D)
  by_cases u:j<=100
  rotate_left
  .have e1:decide ((100:Int)<(j:Int))=Ud:=(by grind)
   have b:ok=Uc:=by rw[f,gi u,Bool.and_false]
   subst b;have c:=g.out;clear g f;subst c;exact GJ
  have e1:decide ((100:Int)<(j:Int))=Uc:=(by grind)
  by_cases af:k=a.size
  .have e2:((k:Int)==(a.size:Int))=Ud:=G_
   have b:ok=Uc:=by rw[f,ix (by have:=HK.out;simp;exact aD)];simp
   subst b;have c:=g.out;clear g f;subst c;exact GJ
  have ah:k<a.size:=aD;have e2:((k:Int)==(a.size:Int))=Uc:=G_
  have hb:(a[k].toNat:Int)<=255:=mH _
  have l:((dY a).drop m)[j]?=some a[k]:=by grind [yR,d7]
  by_cases B:a[k].toNat=34
  .have b:ok=Ud:=by rw[f,l,ig u,Bool.and_true];exact ig (fg some (jj.1 B))
   subst b;have c:=g.out;clear g f l;subst c;have O:((a[k].toNat:Int) != 34)=Uc:=G_
   have ag:H_ w<H_ wc:=aH E;have Q:=aB (λq=>tH r a (k) L 1 (wc.drewN q) D hs aD)
   clear B;go_wp2_with fail;go_quiet (fail)
   go_wp2_with fail;refine rf (Q _) λw3 ⟨y,C⟩=>?_
   have d:=aB ((((Fr.refl r wc).drewN _).trans C).we E t);have ab:=aB ((HF2.drewN _).trans C);have aa:=aB y;have z0:=aA d (i:=0) aJ;have z1:=aA d (i:=1) aJ;have z2:=aA d (i:=2) aJ;have z3:=aA d (i:=3) aJ;have y0:=aF (i:=0) d;have y1:=aF (i:=1) d;have y2:=aF (i:=2) d;have y3:=aF (i:=3) d;have ak:=aH d;clear X U S W T Y;obtain⟨Y,X,U,S,W,T⟩:=y.cells;clear y C Q;go_wp2
   refine bodyPost_ret (v:=Us #[I_ 3,Q_ (bs x),I_ 0,I_ L]) (by simp[results,results196,go_sem,z0,z1,z2,z3]) rfl ?_
   have N:=tX ab aa mJ t (I_ 3) (Q_ (bs x)) (I_ 0) (I_ L);exact⟨N.1,ed ⟨aJ,aJ,mg⟩⟩
  have b:ok=Uc:=by rw[f,l,gi λe=>B (by rw[ft e];rfl)];rfl
  subst b;have c:=g.out;clear g f l;subst c;have O:((a[k].toNat:Int) != 34)=Ud:=G_
  exact GJ
structure vq(w:aN):Prop where
 si:∃t fr,w.heap[(3:Nat)]?=some (.cells #[Ur ⟨#[61,61]⟩,Ur ⟨#[33,61]⟩,Ur ⟨#[60,61]⟩,Ur ⟨#[38,38]⟩,Ur ⟨#[124,124]⟩,Ur ⟨#[40]⟩,Ur ⟨#[41]⟩,Ur ⟨#[123]⟩,Ur ⟨#[125]⟩,Ur ⟨#[91]⟩,Ur ⟨#[93]⟩,Ur ⟨#[44]⟩,Ur ⟨#[59]⟩,Ur ⟨#[61]⟩,Ur ⟨#[60]⟩,Ur ⟨#[43]⟩,Ur ⟨#[45]⟩,Ur ⟨#[42]⟩,Ur ⟨#[47]⟩,Ur ⟨#[37]⟩,Ur ⟨#[33]⟩] t fr)
 wv:11<=w.heap.size
def vq.fr{a:aN}{sb:Nat}(h:vq A)(b:Fr sb A a)(d:11<=sb):vq a:=by obtain⟨t,e,c⟩:=h.si;have:=h.wv;have:=b.size;exact⟨(by grind [Fr.block]),aD⟩
abbrev kK:Uf:=Us #[Ur ⟨#[61,61]⟩,Ur ⟨#[33,61]⟩,Ur ⟨#[60,61]⟩,Ur ⟨#[38,38]⟩,Ur ⟨#[124,124]⟩,Ur ⟨#[40]⟩,Ur ⟨#[41]⟩,Ur ⟨#[123]⟩,Ur ⟨#[125]⟩,Ur ⟨#[91]⟩,Ur ⟨#[93]⟩,Ur ⟨#[44]⟩,Ur ⟨#[59]⟩,Ur ⟨#[61]⟩,Ur ⟨#[60]⟩,Ur ⟨#[43]⟩,Ur ⟨#[45]⟩,Ur ⟨#[42]⟩,Ur ⟨#[47]⟩,Ur ⟨#[37]⟩,Ur ⟨#[33]⟩]
def Gh(w:aN):(Instr.index 314 kK (I_ 0)).run Un w=.ok (Q_ ⟨#[61,61]⟩) w:=k_
def Lp(w:aN):(Instr.index 314 kK (I_ 1)).run Un w=.ok (Q_ ⟨#[33,61]⟩) w:=k_
def Mg(w:aN):(Instr.index 314 kK (I_ 2)).run Un w=.ok (Q_ ⟨#[60,61]⟩) w:=k_
def Nz(w:aN):(Instr.index 314 kK (I_ 3)).run Un w=.ok (Q_ ⟨#[38,38]⟩) w:=k_
def N_(w:aN):(Instr.index 314 kK (I_ 4)).run Un w=.ok (Q_ ⟨#[124,124]⟩) w:=k_
def Jy(w:aN):(Instr.index 314 kK (I_ 5)).run Un w=.ok (Q_ ⟨#[40]⟩) w:=k_
def Gj(w:aN):(Instr.index 314 kK (I_ 6)).run Un w=.ok (Q_ ⟨#[41]⟩) w:=k_
def Pb(w:aN):(Instr.index 314 kK (I_ 7)).run Un w=.ok (Q_ ⟨#[123]⟩) w:=k_
def Ny(w:aN):(Instr.index 314 kK (I_ 8)).run Un w=.ok (Q_ ⟨#[125]⟩) w:=k_
def Jc(w:aN):(Instr.index 314 kK (I_ 9)).run Un w=.ok (Q_ ⟨#[91]⟩) w:=k_
def K6(w:aN):(Instr.index 314 kK (I_ 10)).run Un w=.ok (Q_ ⟨#[93]⟩) w:=k_
def K5(w:aN):(Instr.index 314 kK (I_ 11)).run Un w=.ok (Q_ ⟨#[44]⟩) w:=k_
def K4(w:aN):(Instr.index 314 kK (I_ 12)).run Un w=.ok (Q_ ⟨#[59]⟩) w:=k_
def K3(w:aN):(Instr.index 314 kK (I_ 13)).run Un w=.ok (Q_ ⟨#[61]⟩) w:=k_
def J9(w:aN):(Instr.index 314 kK (I_ 14)).run Un w=.ok (Q_ ⟨#[60]⟩) w:=k_
def J8(w:aN):(Instr.index 314 kK (I_ 15)).run Un w=.ok (Q_ ⟨#[43]⟩) w:=k_
def J7(w:aN):(Instr.index 314 kK (I_ 16)).run Un w=.ok (Q_ ⟨#[45]⟩) w:=k_
def J6(w:aN):(Instr.index 314 kK (I_ 17)).run Un w=.ok (Q_ ⟨#[42]⟩) w:=k_
def J5(w:aN):(Instr.index 314 kK (I_ 18)).run Un w=.ok (Q_ ⟨#[47]⟩) w:=k_
def J4(w:aN):(Instr.index 314 kK (I_ 19)).run Un w=.ok (Q_ ⟨#[37]⟩) w:=k_
def J3(w:aN):(Instr.index 314 kK (I_ 20)).run Un w=.ok (Q_ ⟨#[33]⟩) w:=k_
def Lo(k:Nat)(a:k<21)(w:aN):(Instr.index 314 kK (I_ k)).run Un w=.ok (Q_ (bs (eK[k]'(by simpa [eK]using a)))) w:=by
 match k,a with
 |0,_=>exact Gh w
 |1,_=>exact Lp w
 |2,_=>exact Mg w
 |3,_=>exact Nz w
 |4,_=>exact N_ w
 |5,_=>exact Jy w
 |6,_=>exact Gj w
 |7,_=>exact Pb w
 |8,_=>exact Ny w
 |9,_=>exact Jc w
 |10,_=>exact K6 w
 |11,_=>exact K5 w
 |12,_=>exact K4 w
 |13,_=>exact K3 w
 |14,_=>exact J9 w
 |15,_=>exact J8 w
 |16,_=>exact J7 w
 |17,_=>exact J6 w
 |18,_=>exact J5 w
 |19,_=>exact J4 w
 |20,_=>exact J3 w
 |k+21,h=>exact aD
def m8(g:Nat)(a:ByteArray)(n L:Nat)(w:aN)(h:SC g a n L w)(Q:vq w)(hs:a.size<=2000000000)(hn:n<a.size)(r:qV)(U:Ul (jS ((dY a).drop n)=r)):
 Ue Un 197 #[bF g] w (Ci g a n L w r):=by
 have ab:=(SC.cells h).1;have C:H_ w≠g:=aD;have V:=Q.wv;have h1:SC g a n L (eH w #[I_ 0,Q_ ⟨#[]⟩,I_ 0,I_ 0] 174):=by grind [SC,eh]
 have HZ:Ul (wm (eH w #[I_ 0,Q_ ⟨#[]⟩,I_ 0,I_ 0] 174) (H_ w)):=aZ _ _ aJ _;have aa:Ul (Fr g w (eH w #[I_ 0,Q_ ⟨#[]⟩,I_ 0,I_ 0] 174)):=(Fr.refl _ _).alloc _;obtain⟨tt,Z,l⟩:=Q.si;have c:(eH w #[I_ 0,Q_ ⟨#[]⟩,I_ 0,I_ 0] 174).heap[(3:Nat)]?=_:=kX w 3 aD _ l;have o:(prog.info? 314).map (·.size)=some (#[Q_ ⟨#[61,61]⟩,Q_ ⟨#[33,61]⟩,Q_ ⟨#[60,61]⟩,Q_ ⟨#[38,38]⟩,Q_ ⟨#[124,124]⟩,Q_ ⟨#[40]⟩,Q_ ⟨#[41]⟩,Q_ ⟨#[123]⟩,Q_ ⟨#[125]⟩,Q_ ⟨#[91]⟩,Q_ ⟨#[93]⟩,Q_ ⟨#[44]⟩,Q_ ⟨#[59]⟩,Q_ ⟨#[61]⟩,Q_ ⟨#[60]⟩,Q_ ⟨#[43]⟩,Q_ ⟨#[45]⟩,Q_ ⟨#[42]⟩,Q_ ⟨#[47]⟩,Q_ ⟨#[37]⟩,Q_ ⟨#[33]⟩]:Array Uf).size:=k_
 have s:∀(k:Nat) (S:k<21) (w:aN),(Instr.index 314 (Us #[Q_ ⟨#[61,61]⟩,Q_ ⟨#[33,61]⟩,Q_ ⟨#[60,61]⟩,Q_ ⟨#[38,38]⟩,Q_ ⟨#[124,124]⟩,Q_ ⟨#[40]⟩,Q_ ⟨#[41]⟩,Q_ ⟨#[123]⟩,Q_ ⟨#[125]⟩,Q_ ⟨#[91]⟩,Q_ ⟨#[93]⟩,Q_ ⟨#[44]⟩,Q_ ⟨#[59]⟩,Q_ ⟨#[61]⟩,Q_ ⟨#[60]⟩,Q_ ⟨#[43]⟩,Q_ ⟨#[45]⟩,Q_ ⟨#[42]⟩,Q_ ⟨#[47]⟩,Q_ ⟨#[37]⟩,Q_ ⟨#[33]⟩]) (I_ k)).run Un w=.ok (Q_ (bs (eK[k]'(by simpa [eK]using S)))) w:=Lo
 generalize (#[Q_ ⟨#[61,61]⟩,Q_ ⟨#[33,61]⟩,Q_ ⟨#[60,61]⟩,Q_ ⟨#[38,38]⟩,Q_ ⟨#[124,124]⟩,Q_ ⟨#[40]⟩,Q_ ⟨#[41]⟩,Q_ ⟨#[123]⟩,Q_ ⟨#[125]⟩,Q_ ⟨#[91]⟩,Q_ ⟨#[93]⟩,Q_ ⟨#[44]⟩,Q_ ⟨#[59]⟩,Q_ ⟨#[61]⟩,Q_ ⟨#[60]⟩,Q_ ⟨#[43]⟩,Q_ ⟨#[45]⟩,Q_ ⟨#[42]⟩,Q_ ⟨#[47]⟩,Q_ ⟨#[37]⟩,Q_ ⟨#[33]⟩]:Array Uf)=T at c o s;have HIXX:=aB s;have HTAB:=aB c;have M:=aB o;clear l c o s;have H1:=aB h1;go_in
 go_wp2_with (refine wpList_load_row aJ 314 (.global 3) aJ 3 r_ tt T Z (.array 21 9) HTAB underlying314 rfl M ?_)
 go_loopg [4,6] 21 (λgk _ i wr=>∃k:Nat,k+gk=21/\i=I_ k/\Ul (tB ((dY a).drop n) k)/\SC g a n L wr/\Fr g w wr/\wm wr (H_ w))
 case atStart=>grind [d7,tB]
 case round=>
  obtain⟨k,S,rfl,K,y,N,J⟩:=hrel;obtain⟨h0,c0,c1,c2,f1,f2⟩:=y.cells;have t:=aB y;have p:=aB N;have A:=aB J;by_cases e:k<21
  .obtain⟨j,rfl⟩:∃j,gk=j+1:=⟨gk-1,aD⟩;obtain⟨q,D⟩:∃q,q=eK[k]'(by simpa [eK]using e):=(by simp)
   have W:∀w,(Instr.index 314 (Us T) (I_ k)).run Un w=.ok (Q_ (bs q)) w:=λw=>by rw[D];exact HIXX k e w
   have ad:Ty q<=2:=by rw[D];exact BJ k e
   have hqs :=iT q;have P:Ul (q=eK[k]'(by grind)):=D
   clear D;have d:=aB (λw=>IV (a.extract n a.size) (bs q) w qq aD)
   rw[rX,jT]at d;cases f:eE ((dY a).drop n) q
   .rw[f]at d;have x :=EV e K (by rw[<-P];exact f)
    go_wp2_with fail;go_quiet ((go_at_call 189;exact Calls.quiet_of_same (d _)))
    go_wp2
    go_roundg j
    case measure=>exact aD
    case rel=>exact⟨k+1,aD,la,x,t,p.drewN _,A⟩
   rw[f]at d;have x:Ul (r={ c_:=112,x_:=q,size:=Ty q,ok:=Ud }):=by rw[<-U.out];exact JF e K q P f
   have H:n+Ty q<=a.size:=by have:=wE f;simp at this;exact aD
   have HTXT:Ul (((dY a).drop n).take (Ty q)=q):=by grind [eE,nX]
   have u:=aB (λF=>tH g a n L (Ty q) (wr.drewN F) t hs H)
   rw[HTXT]at u;have I:Ul (∀F,wm (wr.drewN F) (H_ w)):=λ_=>A
   go_wp2_with fail;go_quiet ((go_at_call 189;exact Calls.quiet_of_same (d _)))
   go_wp2
   go_region_law (go_simp;go_at_call 239;refine rf (u _) λw2 ⟨E,B⟩=>?_;have z:=aB E;have O:=aB ((p.drewN _).trans B);have b:=aB (B.we (I _) C);have Y:=(SC.cells z).2.2.2.1;have X:=aA b (i:=0) aJ;have z1:=aA b (i:=1) aJ;have z2:=aA b (i:=2) aJ;have z3:=aA b (i:=3) aJ;have y0:=aF (i:=0) b;have y1:=aF (i:=1) b;have y2:=aF (i:=2) b;have y3:=aF (i:=3) b;have ac:=aH b)
   all_goals
    go_wp2_with fail;rw[x];refine bodyPost_ret (v:=Us #[I_ 0,Q_ (bs q),I_ 0,I_ L]) (by simp[results,results197,go_sem,X,z1,z2,z3]) rfl ?_
    have m:=tX O z mJ C (I_ 0) (Q_ (bs q)) (I_ 0) (I_ L);exact⟨m.1,ed ⟨aJ,aJ,m.2⟩⟩
  obtain rfl:k=21:=aD;have x:Ul (r={ c_:=0,x_:=[],size:=0,ok:=Uc }):=by rw[<-U.out];exact EU K.out
  have G:=aB (xP g a n L wr t);go_wp2_with fail;refine rf G λw3 hw=>?_
  obtain rfl:=hw.symm;go_wp2_with fail;rw[x];exact⟨aJ,p,s_⟩
def Out.err{a:aN}{r:bS j}{P:Ug->Uf->j->Prop}(d:r=.error q)(c:Fr B.pb A a):Out B A r P (iD 4 q) a:=by grind [Out]
def Out.ok{C:Ctx}{b:aN}{r:bS j}{P:Ug->Uf->j->Prop}{a:j}{v:aW}(g:r=.ok (a,q))(e:Fr C.pb A b)(f:sr C b q)(d:P b v a):Out C A r P (bY v) b:=by grind [Out]
def rK{a:j}(h:bZ d q m=Ud):aQ d m (.ok (a,q):bS j)=.ok (a,q+1):=by grind [aQ]
theorem ED{a:j}(h:bZ d q m=Uc):aQ d m (.ok (a,q):bS j)=.error (aS d q).l_:=by unfold aQ;grind [Hs.bad]
def Pj(w:aN)(v:aW):∀j u,([v]:List Uf)[j]?=some u->(eH w #[v] 147).cell? ((⟨H_ w,0,none⟩:Addr).add j)=some u:=by exact GF
def Q5(T:TypeId)(b:Array Uf):∀u∈([dH T (Us b)]:List Uf),u.oneCell'=Ud:=by intro u a;simp at a;subst a;rfl
def Ek(C:Ctx)(w:aN)(r:bS (List aC))(e:Ending)(w':aN):Prop:=Out C w r (λw' v l=>rP (rn w.heap.size w'.heap.size) w' v l) e w'
def rP.slice{F:bN}{w:aN}{v:aW}{l:List aC}(h:rP F w v l):∃x c,v=.slice x (Ty l) c:=by
 rcases h with ⟨b,f⟩|⟨g,d,a,e,b,_⟩
 .grind
 grind
structure Pg(C:Ctx)(w:aN)(L:List (Nat × Obj))(K:List (Nat × (Ug->Prop)))(M:List ua)(W:aN)(p:Nat):Prop where
 fr:Fr C.pb w W
 at_:sr C W p
 own:∀x∈L,W.heap[x.1]?=some x.2/\w.heap.size<=x.1
 yv:∀x∈M,x.ok (rn w.heap.size W.heap.size) W
 pb:C.pb<w.heap.size
 uw:∀x∈K,x.2 W/\(∀V V',Fr C.pb V V'->x.2 V->x.2 V')/\C.pb<x.1/\C.g<x.1/\w.heap.size<=x.1/\x.1<=W.heap.size
section
variable {C:Ctx} {w W W':aN} {L:List (Nat × Obj)} {K:List (Nat × (Ug->Prop))} {M:List ua} {p q:Nat} {Q:Ending->Ug->Prop} {α:Type} {r:bS α} {x:ByteArray} {t:bH}
def ua.ok.go{x:ua}{F G:bN}(h:x.ok F W)(a:∀b,F b->W'.heap[b]?=W.heap[b]?)(c:∀b,F b->G b):x.ok G W':=
 (sV.h_ h a).mono (λ_ _ h=>(h.h_ a).mono c) c
theorem ua.ok.tf{F:bN}{v:aW}{a:aC}(h:ua.ok F w ⟨v,[a],Ud⟩):PN F w v a:=by
 rcases h with ⟨_,b,c,d⟩|⟨c,_⟩
 .grind
 grind
theorem ua.ok.many{F:bN}{w:aN}{v:aW}{l:List aC}(h:ua.ok F w ⟨v,l,Uc⟩):rP F w v l:=by
 rcases h with ⟨b,_⟩|⟨_,a⟩
 .cases b
 exact a
def Pg.h_(h:Pg C w L K M W p)(i:Fr C.pb W W')(k:sr C W' q):Pg C w L K M W' q:=
 have j:=h.pb
 ⟨h.fr.trans i,k,λx g=>by obtain⟨m,l⟩:=h.own x g;grind [Fr.block],λx g=>(h.yv x g).go ((by grind [Fr.block,rn])) (by grind [Nat.lt_of_lt_of_le,Fr.size,rn]),j,λx g=>have ⟨a,b,c,d,e,f⟩:=h.uw x g;⟨b _ _ i a,b,c,d,e,eo f i.size⟩⟩
theorem Pg.new(h:sr C w p):Pg C w [] [] [] w p:=⟨Fr.refl _ _,h,s_,s_,h.vd,s_⟩
theorem Pg.re(h:Pg C w L K M W p)(a:R_ W W'):Pg C w L K M W' p:=h.h_ (Fr.below a) (h.at_.below a)
def Pg.drew(h:Pg C w L K M W p):Pg C w L K M W.drew p:=h.re (dz _ _).drew
def Pg.add(h:Pg C w L K M W p)(o:Obj):Pg C w ((H_ W,o)::L) K M (W.alloc o) p:=
 have k:=h.re ((dz _ _).alloc mJ o)
 { k with own:=λx a=>(ff.1 a).elim (λe=>e▸⟨aZ _ _ rfl _,h.fr.size⟩) (k.own x) }
def Pg.Dj(h:Pg C w L K M W p)(o u:Obj):Pg C w ((H_ W+1,u)::(H_ W,o)::L) K M ((W.alloc o).alloc u) p:=by simpa using (h.add o).add u
def Pg.inc(h:Pg C w L K M W p)(a:p+1<Ty C.ts):Pg C w L K M (W.setCell (aL C.pb 1) (I_ (p+1:Nat))) (p+1):=
 have k:=h.at_.move (dz _ _) (p+1) a;h.h_ k.2 k.1
def Pg.tok{a b:Nat}{c d f e y:aW}(h:Pg C w ((b,cD #[y] 177)::(a,cD #[c,d,f,e] 174)::L) K M W p):
 dP W b 0 y/\b<H_ W/\dP W a 0 c/\dP W a 1 d/\dP W a 2 f/\dP W a 3 e/\a<H_ W:=
 have k:=(h.own _ (.head _)).1;have l:=(h.own _ (.tail _ (.head _))).1;(by grind [aA])
def Pg.xp{b:Nat}{y:aW}(h:Pg C w ((b,cD #[y] 177)::L) K M W p):dP W b 0 y/\b<H_ W:=
 have k:=(h.own _ (.head _)).1;(by grind [aA])
def Pg.yo{a:Nat}{b c:aW}(h:Pg C w ((a,cD #[b,c] 179)::L) K M W p):dP W a 0 b/\dP W a 1 c/\a<H_ W:=
 have l:=(h.own _ (.head _)).1;(by grind [aA])
def Pg.put{x:ua}(h:Pg C w L K M W p)(a:x.ok (rn (H_ w) (H_ W)) W):Pg C w L K (x::M) W p:=
 { h with yv:=(by grind [Pg.yv]) }
def Pg.ret{T:TypeId}{c:Array Uf}{a:aC}{b:List ua}{r:bS aC}(H:Pg C w L K M W q)(e:r=.ok (a,q))(f:Shape T c a b)(d:∀x∈b,x∈M:=by simp[aV]):CM C w r (bY (dH T (Us c))) W:=
 Out.ok e H.fr H.at_ (PN.mk f λx g=>H.yv x (d x g))
def Pg.node{T:TypeId}{d:Array Uf}{a:aC}{c:List ua}(H:Pg C w L K M W q)(f:Shape T d a c)(e:∀x∈c,x∈M:=by simp[aV]):Pg C w L K [⟨dH T (Us d),[a],Ud⟩] W q:=
 { H with yv:=λx b=>by obtain rfl:=ia.1 b;exact .node (PN.mk f λx b=>H.yv x (e x b)) }
def Pg.one{v:aW}{a:aC}{r:bS aC}(H:Pg C w L K (⟨v,[a],Ud⟩::M) W q)(b:r=.ok (a,q)):CM C w r (bY v) W:=Out.ok b H.fr H.at_ (H.yv _ (.head _)).tf
def Pg.form{v:aW}{a:aC}(H:Pg C w L K (⟨v,[a],Ud⟩::M) W q):∃T cs,v=.iface T (Us cs):=(H.yv _ (.head _)).tf.form
def CT(a:Ul (aS C.ts p=t))(H:Ul (Pg C w L K M W p))(k:∀W',Ul (Pg C w L K M W' p)->Q (bY (Us #[I_ (sf t.c_),Q_ (bs t.x_),I_ (ug t),I_ t.l_])) W'):Ue Un 85 #[bF C.pb] W Q:=
 (rG C W p H.at_).mono (by grind [tI,d7,Pg.re])
def yi(a:Ul (aS C.ts p=t))(H:Ul (Pg C w L K M W p))(k:∀W',Ul (Pg C w L K M W' p)->Q (bY (Us #[I_ t.l_])) W'):Ue Un 245 #[bF C.pb] W Q:=
 (Oq C W p H.at_).mono (by grind [d7,Pg.re])
def oL(H:Ul (Pg C w L K M W p))(y:bP)(c:Ul (bZ C.ts p y=Ud)->∀W',Ul (Pg C w L K M W' (p+1))->Q (bY (.bool Ud)) W')(f:Ul (bZ C.ts p y=Uc)->∀W',Ul (Pg C w L K M W' p)->Q (bY (.bool Uc)) W')(d:dY x=y:=by rfl):
 Ue Un 198 #[bF C.pb,Q_ x] W Q:=
 (AI C W p x H.at_).mono λe W' h=>by
   subst d;obtain⟨rfl,a,b⟩:=h;cases i:bZ C.ts p (dY x)<;>rw[i]at a
   .exact f i W' (H.h_ b a)
   exact c i W' (H.h_ b a)
def vG(_HNE:Ul (r≠.error 0))(H:Ul (Pg C w L K M W p))(y:bP)(c:bZ C.ts p y=Uc->r=.error (aS C.ts p).l_)(f:∀l W',Ul (r=.error l/\Fr C.pb w W')->Q (iD 4 l) W')(g:Ul (bZ C.ts p y=Ud)->∀W',Ul (Pg C w L K M W' (p+1))->Q (fD) W')(d:dY x=y:=by rfl):
 Ue Un 141 #[bF C.pb,Q_ x] W Q:=
 (O2 C W p x H.at_).mono λe W' h=>by
   subst d;obtain⟨b,a⟩:=h;cases i:bZ C.ts p (dY x)<;>rw[i]at a
   .obtain rfl:e=_:=a;exact f _ W' ⟨c i,H.fr.trans b⟩
   obtain⟨rfl,j⟩:=a;exact g i W' (H.h_ b j)
def yj(_HNE:Ul (r≠.error 0))(g:Ul (aS C.ts p=t))(H:Ul (Pg C w L K M W p))(c:(t.c_==110)=Uc->r=.error t.l_)(d:∀l W',Ul (r=.error l/\Fr C.pb w W')->Q (iD 4 l) W')(f:Ul ((t.c_==110)=Ud)->∀W',Ul (Pg C w L K M W' (p+1))->Q (bY (Us #[I_ t.l_,Q_ (bs t.x_)])) W'):
 Ue Un 142 #[bF C.pb] W Q:=
 (Sn C W p H.at_).mono λe W' h=>by
   rw[g.out]at h;obtain⟨b,a⟩:=h;cases i:(t.c_==110)<;>rw[i]at a
   .obtain rfl:e=_:=a;exact d _ W' ⟨c i,H.fr.trans b⟩
   obtain⟨rfl,j⟩:=a;exact f i W' (H.h_ b j)
def uq{f:Nat}{X:Nat->bS aC}(t:Ul (ru C f X))(d:Ul (r≠.error 0))(H:Ul (Pg C w L K M W p))(m:∀l,X p=.error l->r=.error l)(n:∀l W',Ul (r=.error l/\Fr C.pb w W')->Q (iD 4 l) W')
 (o:∀a q T cs W',Ul (X p=.ok (a,q))->Ul (Pg C w L K (⟨dH T (Us cs),[a],Ud⟩::M) W' q)->Q (bY (dH T (Us cs))) W'):Ue Un f #[bF C.pb] W Q:=
 (t W p H.at_ λe=>d (m 0 e)).mono λe W' h=>by
   obtain⟨k,c⟩:=h;cases i:X p<;>rw[i]at c
   .obtain rfl:e=_:=c;exact n _ W' ⟨m _ i,H.fr.trans k⟩
   obtain⟨s,v,rfl,j⟩:=c;obtain⟨T,cs,rfl⟩:=j.form;exact o _ _ _ _ W' i ((H.h_ k s).put (.node (j.mono λb g=>⟨eo H.fr.size g.1,g.2⟩)))
def Fg{f:Nat}{a:Array Uf}{r:bS aC}(j:Ue Un f a W (CM C w r))(g:∀l W',Ul (r=.error l/\Fr C.pb w W')->Q (iD 4 l) W')(i:∀T cs W',Ul (CM C w r (bY (dH T (Us cs))) W')->Q (bY (dH T (Us cs))) W'):Ue Un f a W Q:=
 j.mono λe W' h=>by
  cases r with
  |error l=>
   obtain⟨b,rfl⟩:=h;exact g l W' ⟨aJ,b⟩
  |ok k=>
   obtain⟨b,d,v,rfl,c⟩:=h;obtain⟨T,cs,rfl⟩:=c.form;exact i T cs W' ⟨b,d,_,aJ,c⟩
theorem Pg.begin{F:mL}(h:Pg C w L [] M W p)(b:F W)(h2:∀V a,Fr C.pb V a->F V->F a):Pg C w L [(H_ W,F)] M W p:=
 { h with uw:=λx c=>by obtain rfl:=ia.1 c;exact⟨b,h2,h.at_.vd,h.at_.xt,h.fr.size,aD⟩ }
variable {b_:Nat} {v:aW} {acc:List aC} {T:TypeId} {cs:Array Uf} {a:aC}
def Pg.grow{F G:mL}{o:Obj}{a:Option Nat}(H:Pg C w L [(b_,F)] [] W p)(b:(W.alloc o).grownBy W' a)(l:∀k,a=some k->b_<=k)(q:∀y∈L,y.1<b_)(i:G W')(h:∀V e,Fr C.pb V e->G V->G e):Pg C w L [(b_,G)] [] W' p:=by
 obtain⟨-, -,d,f,j,n⟩:=H.uw _ (.head _);refine⟨(H.fr.alloc _).grown b G_,(H.at_.alloc _).grown b l d f,λy c=>?_,s_,H.pb,λy c=>?_⟩
 .obtain⟨g,m⟩:=H.own y c;have:=aH g;exact⟨(b.block _ kj G_).trans (qo),m⟩
 obtain rfl:=ia.1 c;exact⟨i,h,d,f,j,by have:=b.size;simp at this;exact aD⟩
abbrev Nl(b_:Nat)(v:aW)(acc:List aC):Nat × (Ug->Prop):=(b_,λW=>ur b_ W v acc)
def Pg.open(h:Pg C w L [] M W p):Pg C w L [Nl (H_ W) (bO) []] M W p:=(by grind [Pg.begin,ur.nil])
def Pg.lk(h:Pg C w L [Nl b_ v acc] M W p):rP (rn b_ (H_ W)) W v acc:=ur.tm (h.uw _ (.head _)).1
def Pg.shut(h:Pg C w L [Nl b_ v acc] M W p):Pg C w L [] (⟨v,acc,Uc⟩::M) W p:=
 Pg.put { h with uw:=by simp } (.list (h.lk.grow (s_) (h.uw _ (.head _)).2.2.2.2.1 (aD)))
def Pg.list{r:bS (List aC)}(h:Pg C w L [Nl (H_ w) v acc] M W p)(a:r=.ok (acc,p)):Ek C w r (bY v) W:=Out.ok a h.fr h.at_ h.lk
def Pg.sl(h:Pg C w L [Nl b_ v acc] M W p):∃x c,v=P_ x (Ty acc) c:=ur.slice (h.uw _ (.head _)).1
structure DH(C:Ctx)(w:aN)(L:List (Nat × Obj))(b_:Nat)(v:aW)(acc:List aC)(T:TypeId)(cs:Array Uf)(a:aC)(W:aN)(p:Nat):Prop where
 g:Pg C w L [Nl b_ v acc] [] W p
 n:∃lo,PN (rn lo W.heap.size) W (.iface T (Us cs)) a/\b_<=lo/\∀k,v.ownBlock=some k->k<lo
def X1{f:Nat}{X:Nat->bS aC}(s:Ul (ru C f X))(c:Ul (r≠.error 0))(H:Ul (Pg C w L [Nl b_ v acc] [] W p))(j:∀l,X p=.error l->r=.error l)(m:∀l W',Ul (r=.error l/\Fr C.pb w W')->Q (iD 4 l) W')
 (n:∀a q T cs W',Ul (X p=.ok (a,q))->Ul (DH C w L b_ v acc T cs a W' q)->Q (bY (dH T (Us cs))) W'):Ue Un f #[bF C.pb] W Q:=
 (s W p H.at_ λe=>c (j 0 e)).mono λe W' h=>by
   obtain⟨g,b⟩:=h;cases i:X p<;>rw[i]at b
   .obtain rfl:e=_:=b;exact m _ W' ⟨j _ i,H.fr.trans g⟩
   obtain⟨o,v,rfl,d⟩:=b;obtain⟨T,cs,rfl⟩:=d.form;obtain⟨⟨t,F,k, -⟩, -, -, -, -,l⟩:=H.uw _ (.head _);exact n _ _ _ _ W' i ⟨H.h_ g o,_,d,l,eG k⟩
def Y1{i:Array Oper}{h:List Oper}{o:Oper}{e:Act}{Q:Exit->Act->Ug->Prop}{z:Option Addr}{c:Nat}(H:Ul (DH C w L b_ (P_ z (Ty acc) c) acc T cs a W p))(P:Ty acc<=4000)(D:∀y∈L,y.1<b_)(s x:Operand)
 (k:∀g d W',Ul (Pg C w L [Nl b_ (P_ (some (aL g 0)) (Ty acc+1) d) (acc++[a])] [] W' p)->wpList Un i Q h (e.put o.dst (P_ (some (aL g 0)) (Ty acc+1) d)) W') (l:o.guard=none:=by rfl) (G:o.op=.call { callee:=.builtin .append,args:= #[s,x],argTypes:= #[181,181] }:=by rfl) (I:e.eval s=P_ z (Ty acc) c:=by rfl) (K:e.eval x=P_ (some (aL (H_ W) 0)) 1 1:=by rfl):
 wpList Un i Q (o::h) e (eH W #[dH T (Us cs)] 147):=by
 obtain⟨E,J,m,n,q⟩:=info_parts Qv;obtain⟨⟨A,F,b,f,u⟩, -,N, -, -,v⟩:=H.g.uw _ (.head _);simp at b f u v;obtain⟨S,M,r,j⟩:=H.n;refine wpList_append_lies _ l s x 181 G b_ 147 E _ 1 16 underlying181 J m n q aJ d_ _ (Ty acc) A I (b.alloc _) (aL (H_ W) 0) 1 1 [dH T (Us cs)] K rfl (Pj _ _) (Q5 _ _) d_ kk aD kj (H_ W+1) s_ ?_
 exact λg d W' B t O _=>k g d W' (H.g.grow t (bX b) D (ur.snoc f u M r j (qo) s_ B t (G_)) (by grind [ur.h_]))
end
def ZR(C:Ctx)(E:Nat->bS aC)(D:ru C 176 E)(w:aN)(p:Nat)(y:ByteArray)(h:sr C w p)(m:aQ C.ts (dY y) (gK E C.ts p (dY y))≠.error 0):
 Ue Un 282 #[bF C.pb,Q_ y] w (Ek C w (aQ C.ts (dY y) (gK E C.ts p (dY y)))):=by
 obtain⟨r,n⟩:=E_ (aQ C.ts (dY y) (gK E C.ts p (dY y)));rw[<-n]at m ⊢
 unfold gK at n;have f:=aB n;have j:=aB m;have o:=aB D;have b:=aB (Pg.new h).open;have B:=h.len;clear h D m n;go_in
 go_wp2_with fail;refine oL b (dY y) (λi F b=>?_) λi F b=>?_
 .go_wp2
  go_ret;exact b.list (by rw[f,i.out];exact rK i)
 have f:Ul (r=aQ C.ts (dY y) (fM E C.ts (Ty C.ts+1) p [])):=by show _=_;rw[f,i.out];rfl
 go_wp2_with fail;refine X1 o j b (λl e=>by rw[f,fM,e];rfl) (λl A H=>?_) λa q T J A s z=>?_
 .go_wp2_with fail;exact⟨aJ,Out.err H.1 H.2⟩
 go_wp2_with (at_builtin;refine Y1 (acc:=[]) z s_ s_ _ _ λg u G b=>?_)
 go_wp2
 go_loopg [5] (Ty C.ts) (λk v wr=>∃q d,Pg C w [] [Nl (H_ w) v d] [] wr q/\Ty d+k<=4000/\r=aQ C.ts (dY y) (if bZ C.ts q [44]then fM E C.ts k (q+1) d else .ok (d,q)))
 case atStart=>exact⟨q,_,b,kj,by rw[f,fM,s.out]⟩
 case round=>
  obtain⟨q,d,t,K,n⟩:=hrel;obtain⟨x,c,rfl⟩:=t.sl;have b:=aB t;have f:=aB n;clear t n s;go_wp2_with fail;refine oL b [44] (λi L b=>?_) λi L b=>?_
  .have f:Ul (r=aQ C.ts (dY y) (fM E C.ts gk (q+1) d)):=by show _=_;rw[f,i.out];rfl
   obtain⟨k,rfl⟩:∃k,gk=k+1:=by
    cases gk with
    |zero=>exact eu f j
    |succ k=>exact⟨k,aJ⟩
   go_wp2_with fail;refine X1 o j b (λl e=>by rw[f,fM,e];rfl) (λl A H=>?_) λa q T J A s z=>?_
   .go_wp2_with fail;exact⟨aJ,Out.err H.1 H.2⟩
   go_wp2_with (at_builtin;refine Y1 z aD s_ _ _ λg u G b=>?_)
   go_wp2
   go_roundg k
   case measure=>exact aD
   case rel=>exact⟨q,_,b,kj,by rw[f,fM,s.out]⟩
  have f:Ul (r=aQ C.ts (dY y) (.ok (d,q))):=by show _=_;rw[f,i.out];rfl
  go_wp2_with fail;refine vG j b (dY y) (λi=>by rw[f];exact ED i) (λl I H=>?_) λi I b=>?_
  .go_wp2_with fail;exact⟨aJ,Out.err H.1 H.2⟩
  go_wp2
  go_ret;exact b.list (by rw[f];exact rK i)
section
variable {C:Ctx} {w W:aN} {L:List (Nat × Obj)} {K:List (Nat × (Ug->Prop))} {M:List ua} {p:Nat} {Q:Ending->Ug->Prop} {α:Type} {r:bS α} {x:ByteArray}
def Am{E:Nat->bS aC}(t:Ul (ru C 176 E))(f:Ul (r≠.error 0))(H:Ul (Pg C w L K M W p))(y:bP)(m:∀l,aQ C.ts y (gK E C.ts p y)=.error l->r=.error l)(n:∀l W',Ul (r=.error l/\Fr C.pb w W')->Q (iD 4 l) W')
 (o:∀l q z c W',Ul (aQ C.ts y (gK E C.ts p y)=.ok (l,q))->Ul (Pg C w L K (⟨P_ z (Ty l) c,l,Uc⟩::M) W' q)->Ul (rP (rn (H_ W) (H_ W')) W' (P_ z (Ty l) c) l)->Q (bY (P_ z (Ty l) c)) W') (k:dY x=y:=by rfl):Ue Un 282 #[bF C.pb,Q_ x] W Q:=
 (ZR C E t W p x H.at_ λe=>f (m 0 (k▸e))).mono λe W' h=>by
   subst k;obtain⟨j,a⟩:=h;cases i:aQ C.ts (dY x) (gK E C.ts p (dY x))<;>rw[i]at a
   .obtain rfl:e=_:=a;exact n _ W' ⟨m _ i,H.fr.trans j⟩
   obtain⟨s,v,rfl,d⟩:=a;obtain⟨z,c,rfl⟩:=rP.slice d;exact o _ _ _ _ W' i ((H.h_ j s).put (.list (d.h_ (λ_ _=>aJ) λb g=>⟨eo H.fr.size g.1,g.2⟩))) d
end
def Fr.Cb{b:Nat}{o:Obj}(d:Fr q A D)(h:A.heap[b]?=some o)(e:b≠q):D.heap[b]?=some o:=(d.block b (aH h) e).trans h
def UZ(C:Ctx)(E:Nat->bS aC)(Z:ru C 176 E):ru C 323 (eJ E C.ts):=by
 intro w p h k;have A:=aB Z;have v:=h.Bn.tk p h.lt;have Q:Ul ((aS C.ts p).c_≠101->p+1<Ty C.ts):=λe=>h.all.ok.next p h.lt e
 have ab:p<=3000:=by have:=h.lt;have:=h.len;exact aD
 have b:=aB (Pg.new h);obtain⟨r,j⟩:=E_ (eJ E C.ts p);rw[<-j]at k ⊢
 rw[eJ]at j;obtain⟨t,O⟩:∃t,aS C.ts p=t:=⟨_,rfl⟩;rw[O]at j Q v;have y:Ul (∀x,bZ C.ts p x=Ud->t.x_=x):=λx hx=>by unfold bZ at hx;grind
 have m:=aB O;have d:=aB j;have f:=aB k
 have n:Ul ((sf t.c_=2->t.c_=48/\∃P,dS 0 t.x_=some P)/\(sf t.c_=3->t.c_=115)/\(¬sf t.c_=2->¬sf t.c_=3->(t.c_==48 || t.c_==115)=Uc)):=by
  clear j d f k;show _/\_
  rcases v with h|⟨h,_⟩|h|⟨h,h2⟩|h|h<;>simp[sf,h]
  exact Option.isSome_iff_exists.1 h2
 clear h Z k j O v;go_in
 go_wp2_with fail;refine CT m b λw1 b=>?_
 go_wp2_with fail;refine yi m b λw2 b=>?_
 have b:=aB (b.Dj (cD #[I_ (sf t.c_),Q_ (bs t.x_),I_ (ug t),I_ t.l_] 174) (cD #[I_ t.l_] 177));obtain⟨U,S,k2,k3,k4,k5,k6⟩:=b.tok;go_upto_region 2 with fail
 generalize (w2.alloc (cD #[I_ (sf t.c_),Q_ (bs t.x_),I_ (ug t),I_ t.l_] 174)).alloc (cD #[I_ t.l_] 177)=W at*;obtain⟨k7,k8,k9⟩:=b.at_.cells (dz _ _);have ac:C.pb<w2.heap.size:=by have:=(b.own _ (.tail _ (.head _))).2;have:=b.pb;exact aD
 generalize aa:sf t.c_=L at*;by_cases o:L=2
 .subst o;obtain⟨s,P,u⟩:=n.1 rfl;have J:Ul (r=.ok (aV [UInt8.ofNat t.c_] t.l_ t.x_ [],p+1)/\Shape 365 #[I_ t.l_,I_ (ug t)] (aV [UInt8.ofNat t.c_] t.l_ t.x_ []) []):=⟨by rw[d,s];rfl,ed ⟨rfl,P,by unfold ug;rw[ef s,u];rfl,by rw[s];rfl,u,rfl,rfl⟩⟩
  have b:=aB (b.inc (Q aD));clear s u;go_wp2
  go_ret;exact b.ret J.1 J.2
 by_cases g:L=3
 .subst g;have s:=n.2.1 aJ;have J:Ul (r=.ok (aV [UInt8.ofNat t.c_] t.l_ t.x_ [],p+1)/\Shape 394 #[I_ t.l_,Q_ (bs t.x_)] (aV [UInt8.ofNat t.c_] t.l_ t.x_ []) []):=⟨by rw[d,s];rfl,ec (ed ⟨rfl,rfl,by rw[s];rfl,rfl,rfl⟩)⟩
  have b:=aB (b.inc (Q aD));clear s o;go_wp2
  go_ret;exact b.ret J.1 J.2
 have ad:((L:Int)==2)=Uc:=by simp;exact aD
 have V:((L:Int)==3)=Uc:=by simp;exact aD
 have N:=aB (n.2.2 o g);clear o g n;go_wp2_with fail;refine oL b [116,114,117,101] (λG w3 b=>?_) λG w3 b=>?_
 .obtain⟨U,S, -⟩:=b.tok;go_wp2
  go_ret;exact b.ret (by rw[d,N,G.out];rfl) (ec (ec (ed ⟨rfl,by show _= #[_,Value.bool (t.x_==_)];rw[y _ G];rfl,rfl,rfl,rfl⟩)))
 go_wp2_with fail;refine oL b [102,97,108,115,101] (λI w4 b=>?_) λI w4 b=>?_
 .obtain⟨U,S, -⟩:=b.tok;go_wp2
  go_ret;exact b.ret (by rw[d,N,G.out,I.out];rfl) (ec (ec (ed ⟨rfl,by show _= #[_,Value.bool (t.x_==_)];rw[y _ I];rfl,rfl,rfl,rfl⟩)))
 have j:=d.out;rw[N,G.out,I.out]at j;have d:=aB j;clear y N G I j;go_wp2_with fail;refine oL b [40] (λF w5 b=>?_) λF w5 b=>?_
 .have d:Ul (r=aQ C.ts [41] (E (p+1))):=by show _=_;rw[d,F.out];rfl
  go_wp2_with fail;refine uq A f b (λl e=>by rw[d,e];rfl) (λl M H=>?_) λa q T cs M B b=>?_
  .go_wp2_with fail;exact⟨aJ,Out.err H.1 H.2⟩
  go_wp2_with fail;refine vG f b [41] (λi=>by rw[d,B.out];exact ED i) (λl M H=>?_) λi K b=>?_
  .go_wp2_with fail;exact⟨aJ,Out.err H.1 H.2⟩
  go_wp2
  go_ret;exact b.one (by rw[d,B.out];exact rK i)
 go_wp2_with fail;refine oL b [91] (λD M b=>?_) λD M b=>?_
 .have d:Ul (r=bT (aV [108,105,115,116] t.l_ t.x_) (aQ C.ts [93] (gK E C.ts (p+1) [93]))):=by show _=_;rw[d,F.out,D.out];unfold fU;rw[D.out];rfl
  obtain⟨U,S, -⟩:=b.tok;go_wp2
  go_region_law (go_simp;go_at_call 282;refine Am A f b.drew [93] (λl e=>by rw[d,e];rfl) (λl K H=>⟨rfl,Out.err H.1 H.2⟩) λl q z c K B b _=>?_;obtain⟨c0,Y, -⟩:=b.tok)
  all_goals
   go_wp2
   go_ret;exact b.ret (by rw[d,B.out];rfl) (ec (ec (ec (ed ⟨rfl,_,rfl,rfl,rfl⟩))))
 go_wp2_with fail;refine yj f m b (λi=>by rw[d,F.out,D.out,i];show Hs.bad _ _=_;unfold Hs.bad;rw[m]) (λl K H=>?_) λX K b=>?_
 .go_wp2_with fail;exact⟨aJ,Out.err H.1 H.2⟩
 have d:Ul (r=if bZ C.ts (p+1) [40]then bT (aV [99,97,108,108] t.l_ t.x_) (fU E C.ts (p+1) [40] [41])else .ok (aV [110,97,109,101] t.l_ t.x_ [],p+1)):=by show _=_;rw[d,F.out,D.out,X.out];rfl
 have b:=aB (b.add (cD #[I_ t.l_,Q_ (bs t.x_)] 179));clear F D X;go_wp2_with fail;refine oL b [40] (λi w8 b=>?_) λi w8 b=>?_
 .have d:Ul (r=bT (aV [99,97,108,108] t.l_ t.x_) (aQ C.ts [41] (gK E C.ts (p+1+1) [41]))):=by show _=_;rw[d,i.out];unfold fU;rw[i.out];rfl
  obtain⟨c0,Y,hz⟩:=b.yo;go_wp2
  go_region_law (go_simp;go_at_call 282;refine Am A f b.drew [41] (λl e=>by rw[d,e];rfl) (λl w9 H=>⟨rfl,Out.err H.1 H.2⟩) λl q z c w9 B b _=>?_;obtain⟨d0,d1,hy⟩:=b.yo)
  all_goals
   go_wp2
   go_ret;exact b.ret (by rw[d,B.out];rfl) (ec (ec (ec (ec (ed ⟨rfl,_,rfl,rfl,rfl⟩)))))
 obtain⟨c0,Y,hz⟩:=b.yo;go_wp2
 go_ret;exact b.ret (by rw[d,i.out];rfl) (ec (ec (ec (ec (ec (ed ⟨rfl,rfl,rfl,rfl,rfl⟩))))))
abbrev Dh(b l:Nat):Nat × Obj:=(b,.cells #[I_ l] 177)
def AN(Y_:a:=by
 cases gk with
 |zero=>exact eu hr HNE
 |succ k=>exact⟨k,aJ⟩):a:=Y_
def Ix(C:Ctx)(E:Nat->bS aC)(n:ru C 176 E):ru C 322 (λp=>bL (eJ E C.ts p) (eS E C.ts (Ty C.ts+1))):=by
 intro w p h c;have I:=aB (UZ C E n);have m:=aB n;have b:=aB (Pg.new h);revert c
 show (bL _ _:bS aC)≠_->Ue _ _ _ _ (CM C w (bL _ _))
 generalize hr:bL (eJ E C.ts p) (eS E C.ts (Ty C.ts+1))=r;intro c;have d:=aB hr.symm;have HNE:=aB c;clear h n c hr;go_in
 go_wp2_with fail;refine yi (t:=aS C.ts p) aJ b λJ b=>?_
 go_wp2_with fail;refine uq I HNE b (λl e=>by rw[d,e];rfl) (λl o H=>?_) λD y S x o f b=>?_
 .go_wp2_with fail;exact⟨aJ,Out.err H.1 H.2⟩
 have b:=aB (b.add (cD #[I_ (aS C.ts p).l_] 177));go_wp2
 go_loopg [4] (Ty C.ts+1) (λk v wr=>∃q a,Pg C w [Dh (H_ o) (aS C.ts p).l_] [] [⟨v,[a],Ud⟩] wr q/\r=eS E C.ts k a q)
 case atStart=>exact⟨y,D,b,by rw[d,f.out];rfl⟩
 case round=>
  obtain⟨q,a,g,hr⟩:=hrel;obtain⟨N,G,rfl⟩:=g.form
  obtain⟨k,rfl⟩:∃k,gk=k+1:=by exact AN
  rw[eS]at hr;have d:=aB hr;have b:=aB g;clear g hr f;go_wp2_with fail;refine oL b [91] (λi u b=>?_) λi u b=>?_
  rotate_left
  .go_wp2
   go_ret;exact b.one (by rw[d,i.out];rfl)
  have hr:=d.out;rw[i.out]at hr;have d:=aB hr;obtain⟨U,P⟩:=b.xp;clear i hr;go_wp2
  go_cut [4] (λv wc=>∃i j,E (q+1)=.ok (i,j)/\Pg C w [Dh (H_ o) (aS C.ts p).l_] [] [⟨v,[aV [105,110,100,101,120] (aS C.ts q).l_ [] [a,i]],Ud⟩] wc j)
  case first=>
   go_region_law (go_simp;go_at_call 176;refine uq m HNE b.drew (λl e=>by rw[d,e];rfl) (λl B H=>⟨rfl,Out.err H.1 H.2⟩) λO j M F B f b=>?_;obtain⟨Q,A⟩:=b.xp)
   all_goals
    go_wp2_with fail;go_meet
    case rel=>exact⟨_,_,f,b.node (.inr (.inr (.inr (.inr (.inr (.inr (.inl ⟨aJ,_,_,_,_,_,aJ,aJ,aJ,aJ⟩)))))))⟩
  case rest=>
   obtain⟨i,j,f,g⟩:=hcut;obtain⟨T,z,rfl⟩:=g.form;have s:=aB f;have b:=aB g;clear f g;go_wp2_with fail;refine vG HNE b [93] (λi=>by rw[d,s];simp only[ED i];rfl) (λl K H=>?_) λi L b=>?_
   .go_wp2_with fail;exact⟨aJ,Out.err H.1 H.2⟩
   go_wp2
   go_roundg k
   case measure=>exact aD
   case rel=>exact⟨_,_,b,by rw[d,s];simp only[rK i.out];rfl⟩
theorem X0(t:bP):∀l:cY,l.find? (λx=>t==x)=if t∈l then some t else none
 |[]=>by simp
 |y::l=>by
  rw[List.find?_cons];by_cases h:t=y
  .grind
  rw[show (t==y)=Uc by grind]
  simp [X0 t l,h]
theorem Ko(t:bP)(h:fC.contains t=Ud):cU t=9:=by unfold fC at h;simp [List.contains_eq_mem,ff,jf,or_false,decide_eq_true_eq]at h;rcases h with rfl|rfl|rfl|rfl|rfl|rfl|rfl|rfl|rfl<;>decide
def VQ(h:oR (aS d q))(k:Nat)(b:k≠9)(l:cY)(c:∀x,x∈l↔cU x=k):
 tJ d q l=if (aS d q).c_==112 && cU (aS d q).x_==k then (aS d q).x_ else []:=by
 unfold tJ;grind [bZ,X0,List.find?_eq_none,Ko,oR]
def Gz(x:bP):x∈([[124,124]]:cY)↔cU x=0:=by grind [cU]
def Ku(x:bP):x∈([[38,38]]:cY)↔cU x=1:=by grind [cU]
def Jx(x:bP):x∈([[61,61],[33,61],[60],[60,61]]:cY)↔cU x=2:=by grind [cU]
def RK(x:bP):x∈([[43],[45]]:cY)↔cU x=3:=by grind [cU]
def GS(x:bP):x∈([[42],[47],[37]]:cY)↔cU x=4:=by grind [cU]
def OB(C:Ctx)(w:aN)(p:Nat)(h:sr C w p)(l:cY)(o:Ty l<=100)(a:∀x∈l,x≠[])(c:bP)(f:tJ C.ts p l=c)(g:Nat)(d:g=H_ w)(n:Nat)(s:n=Ty l)(i:Array Uf)(r:i=(l.map λx=>Value.string (bs x)).toArray):
 Ue Un 277 #[bF C.pb,P_ (some (aL g 0)) n n] (eH w i 9) λe b=>e=bY (Q_ (bs c))/\sr C b (if c=[]then p else p+1)/\Fr C.pb w b:=by
 subst f d s;have j:=h.vd;refine(NT C _ p l (H_ w) (Ty l) s_ aD o a ?_ (h.alloc _)).mono λe b ⟨m,k,q⟩=>⟨m,k,((Fr.refl _ _).alloc _).trans q⟩
 grind [aA,aZ]
def Cl{g:aN}{L:List (Nat × Obj)}{K:List (Nat × (Ug->Prop))}{M:List ua}{Q:Ending->Ug->Prop}{a:Array Uf}(k:Ue Un 277 a g λe c=>e=bY (Q_ (bs m))/\sr B c (if m=[]then q else q+1)/\Fr B.pb D c)(H:Ul (Pg B A L K M D q))
 (i:(bs m).toList.isEmpty=Uc->∀W',Ul (Pg B A L K M W' (q+1))->Q (bY (Q_ (bs m))) W') (j:m=[]->∀W',Ul (Pg B A L K M W' q)->Q (bY (Q_ ⟨#[]⟩)) W'):Ue Un 277 a g Q:=
 k.mono λe W' h=>by
  obtain⟨rfl,f,d⟩:=h;cases m with
  |nil=>exact j aJ W' (H.h_ d f)
  |cons x l=>exact i (by rw[aX];rfl) W' (H.h_ d f)
theorem ZV(C:Ctx)(E:Nat->bS aC)(z:ru C 176 E)(g:Nat)(i:ru C 320 (iC E C.ts g)):ru C 320 (iC E C.ts (g+1)):=by
 intro w p h c;have I:=aB i;have b:=aB (Pg.new h);have u:=aB (Ix C E z);obtain⟨r,k⟩:∃r,r=iC E C.ts (g+1) p:=(by simp)
 rw[<-k]at c ⊢
 obtain⟨f,m⟩:∃f,tJ C.ts p [[45],[33]]=f:=(by simp)
 have d:Ul ((f≠[]->∃o,f=[o]/\(o=45\/o=33)/\r=bT (λx=>aV [o,120] (aS C.ts p).l_ [] [x]) (iC E C.ts g (p+1)))/\(f=[]->r=bL (eJ E C.ts p) (eS E C.ts (Ty C.ts+1)))):=by
  rw[iC]at k;show _/\_
  grind [tJ]
 have j:=aB c;have s:=aB m;clear h z c k i m;go_in
 go_wp2_with fail;refine yi (t:=aS C.ts p) aJ b λA b=>?_
 have b:=aB (b.add (cD #[I_ (aS C.ts p).l_] 177));go_wp2_with fail;refine Cl (OB C _ p b.at_ [[45],[33]] d_ s_ f s (H_ A+1) s_ 2 rfl #[Q_ ⟨#[45]⟩,Q_ ⟨#[33]⟩] rfl) b (λJ K b=>?_) λG K b=>?_
 .have d:Ul (∃o,f=[o]/\(o=45\/o=33)/\r=bT (λx=>aV [o,120] (aS C.ts p).l_ [] [x]) (iC E C.ts g (p+1))):=d.1 (by grind [aX])
  obtain⟨N,L⟩:=b.xp;go_wp2
  go_region_law (go_simp;go_at_call 320;refine uq I j b.drew ((by grind [d7,bT])) (λl y H=>⟨rfl,Out.err H.1 H.2⟩) λa q B v y n b=>?_;obtain⟨M,D⟩:=b.xp)
  all_goals
   go_wp2
   go_ret;obtain⟨o,rfl,F,k⟩:=d.out;exact b.ret (by rw[k,n.out];rfl) (.inr (.inr (.inr (.inr (.inr (.inr (.inr (.inl ⟨rfl,o,_,_,rfl,F,rfl,rfl,rfl⟩))))))))
 have d:=aB (d.2 G);go_wp2_with fail;refine uq u j b (λl e=>d.trans e) (λl y H=>?_) λa q B v y n b=>?_
 .go_wp2_with fail;exact⟨aJ,Out.err H.1 H.2⟩
 go_wp2
 go_ret;exact b.one (d.trans n)
def i7(C:Ctx)(E:Nat->bS aC)(b:ru C 176 E)(g:Nat):ru C 320 (iC E C.ts g):=by
 induction g with
 |zero=>grind [ru,iC]
 |succ g a=>grind [ZV]
def Eu{o:aN}{N:List (Nat × Obj)}{K:List (Nat × (Ug->Prop))}{M:List ua}{k g:Nat}{Q:Ending->Ug->Prop}{x:Array Uf}{d:cY}{L:Nat->bS aC}{a:aC}{r:bS aC}(u:Ue Un 277 x o λe n=>e=bY (Q_ (bs (tJ B.ts q d)))/\sr B n (if tJ B.ts q d=[]then q else q+1)/\Fr B.pb D n)(H:Ul (Pg B A N K M D q))(y:g≠9)(h:∀x,x∈d↔cU x=g)(i:Ul (r=cH L B.ts g (k+1) a q))
 (p:∀m,(bs m).toList.isEmpty=Uc->Ul (m=(aS B.ts q).x_/\cU (aS B.ts q).x_≠9/\(∀l,L (q+1)=.error l->r=.error l)/\∀b s,L (q+1)=.ok (b,s)->r=if g=2 then .ok (aV (aS B.ts q).x_ (aS B.ts q).l_ [] [a,b],s)else cH L B.ts g k (aV (aS B.ts q).x_ (aS B.ts q).l_ [] [a,b]) s)->∀W',Ul (Pg B A N K M W' (q+1))->Q (bY (Q_ (bs m))) W')
 (t:Ul (r=.ok (a,q))->∀W',Ul (Pg B A N K M W' q)->Q (bY (Q_ ⟨#[]⟩)) W'):Ue Un 277 x o Q:=by
 have v:=VQ (H.at_.Bn.tk q H.at_.lt) g y d h;rw[cH]at i;have i:=i.out;refine Cl u H (λf W' j=>p _ f ?_ W' j) λz W' j=>t ?_ W' j
 .rw[v]at f ⊢
  split at f
  .rename_i c;rw[ef c]at i ⊢
   exact⟨aJ,G_,G_,G_⟩
  grind [aX]
 grind [cU]
def Kb(C:Ctx)(L:Nat->bS aC)(F:Nat)(ac:∀j w,Sem.run Un (callFunc F j) w=.ok (.enter F j) w)(M:ru C F L)(n:Nat)(V:n≠2)(J:n≠9)(c:cY)(d:∀x,x∈c↔cU x=n)(z:Ty c<=100)(w:aN)(p:Nat)(h:sr C w p)(g y:Nat)(s:g<H_ w)(D:g≠C.pb)(Q:∀i (O:i<Ty c),dP w g i (Q_ (bs c[i])))
 (m:bL (L p) (cH L C.ts n (Ty C.ts+1))≠.error 0):
 Ue Un 229 #[bF C.pb,.func (.func F) #[bF C.pb] #[],P_ (some (aL g 0)) (Ty c) y] w (CM C w (bL (L p) (cH L C.ts n (Ty C.ts+1)))):=by
 have f:∀x∈c,x≠[]:=λx A e=>by rw[d,e]at A;exact J (A.symm.trans aJ)
 have f:∀x∈c,x≠[]:=λx A e=>by rw[d,e]at A;exact J (A.symm.trans aJ)
 have I:=aB (λW q (N:Fr C.pb w W) (X:sr C W q)=>NT C W q c g y (ej s N.size) D z f (λi O=>(iN (N.block g s D)).trans (Q i O)) X)
 have B:=aB M;have b:=aB (Pg.new h);have K:=aB d;obtain⟨r,hr⟩:=E_ (bL (L p) (cH L C.ts n (Ty C.ts+1)));rw[<-hr]at m ⊢
 have u:=aB hr;have HNE:=aB m;clear h M m hr f Q d;go_in
 go_wp2_with fail;refine yi (t:=aS C.ts p) aJ b λw1 b=>?_
 go_wp2_with fail;refine uq B HNE b (λl e=>by rw[u,e];rfl) (λl P H=>?_) λa0 U T2 T P E b=>?_
 .go_wp2_with fail;exact⟨aJ,Out.err H.1 H.2⟩
 have b:=aB (b.add (cD #[I_ (aS C.ts p).l_] 177));go_wp2
 go_loopg [8,9] (Ty C.ts+1) (λk v o wr=>∃q a,Pg C w [Dh (H_ P) (aS C.ts p).l_] [] [⟨v,[a],Ud⟩] wr q/\r=cH L C.ts n k a q)
 case atStart=>exact⟨U,a0,b,by rw[u,E.out];rfl⟩
 case round=>
  obtain⟨q,a,s,hr⟩:=hrel;obtain⟨T3,ad,rfl⟩:=s.form
  obtain⟨k,rfl⟩:∃k,gk=k+1:=by exact AN
  have u:=aB hr;have b:=aB s;clear s hr E;go_wp2_with fail;refine Eu (I _ q b.fr b.at_) b J K u (λoo ab G S b=>?_) λu S b=>?_
  .obtain⟨c0,hz⟩:=b.xp;go_wp2
   go_region_law (go_simp;refine uq B HNE b.drew G.2.2.1 (λl w5 H=>⟨aJ,Out.err H.1 H.2⟩) λi Z T5 aa w5 E b=>?_;obtain⟨d0,Y⟩:=b.xp)
   all_goals
    go_wp2
    go_roundg k
    case measure=>exact aD
    case rel=>exact⟨Z,_,b.node (.inr (.inr (.inr (.inr (.inr (.inr (.inr (.inr (.inl ⟨aJ,_,_,_,a,i,by rw[G.1];rfl,G.2.1,rfl,rfl⟩))))))))),(G.2.2.2 _ _ E).trans (ea V)⟩
  go_wp2
  go_ret;exact b.one u
def uN(C:Ctx)(L:Nat->bS aC)(F:Nat)(o:∀b w,Sem.run Un (callFunc F b) w=.ok (.enter F b) w)(t:ru C F L)(c:Nat)(d:c≠2)(A:c≠9)(a:cY)(f:∀x,x∈a↔cU x=c)(g:Ty a<=100)(w:aN)(p:Nat)(h:sr C w p)(n:Nat)(m:n=Ty a)(r:Array Uf)(k:r=(a.map λx=>Value.string (bs x)).toArray)
 (j:bL (L p) (cH L C.ts c (Ty C.ts+1))≠.error 0):
 Ue Un 229 #[bF C.pb,.func (.func F) #[bF C.pb] #[],P_ (some (aL (H_ w) 0)) n n] (eH w r 9) (CM C w (bL (L p) (cH L C.ts c (Ty C.ts+1)))):=by
 subst m;have s:=h.vd;refine(Kb C L F o t c d A a f g _ p (h.alloc _) (H_ w) (Ty a) s_ aD ?_ j).mono λe D ⟨u,d⟩=>⟨((Fr.refl _ _).alloc _).trans u,?_⟩
 .intro i z;refine aA (aZ _ _ aJ _) ?_;rw[k];simp[z]
 cases q:bL (L p) (cH L C.ts c (Ty C.ts+1))with
 |error l=>rw[q]at d;exact d
 |ok E=>
  rw[q]at d;obtain⟨y,v,B,m⟩:=d;exact⟨y,v,B,m.grow (λ_ _ _=>aJ) s_ mJ⟩
def V6(c:Fn)(a b:Array Uf)(w:aN):(Instr.makeFunc c a b).run Un w=.ok (.func c a b) w:=rfl
def AL(Y_:a:=by
 clear h hne HL;go_in
 go_wp2_with fail;refine Fg HC (λl w1 H=>?_) λT cs w1 H=>?_
 .go_wp2_with fail;exact⟨aJ,Out.err H.1 H.2⟩
 go_wp2
 go_ret;exact H):a:=Y_
def UY(C:Ctx)(L:Nat->bS aC)(HL:ru C 320 L):ru C 311 (λp=>bL (L p) (cH L C.ts 4 (Ty C.ts+1))):=by
 intro w p h hne;have HC:=aB (uN C L 320 (λ_ _=>aJ) HL 4 d_ d_ [[42],[47],[37]] GS d_ w p h 3 rfl #[Q_ ⟨#[42]⟩,Q_ ⟨#[47]⟩,Q_ ⟨#[37]⟩] rfl hne)
 have a:=V6;show Ue _ _ _ _ (CM C w (bL (L p) (cH L C.ts 4 (Ty C.ts+1))))
 generalize bL (L p) (cH L C.ts 4 (Ty C.ts+1))=r at*;exact AL
def Fs(C:Ctx)(L:Nat->bS aC)(HL:ru C 311 L):ru C 298 (λp=>bL (L p) (cH L C.ts 3 (Ty C.ts+1))):=by
 intro w p h hne;have HC:=aB (uN C L 311 (λ_ _=>aJ) HL 3 d_ d_ [[43],[45]] RK d_ w p h 2 rfl #[Q_ ⟨#[43]⟩,Q_ ⟨#[45]⟩] rfl hne)
 have a:=V6;show Ue _ _ _ _ (CM C w (bL (L p) (cH L C.ts 3 (Ty C.ts+1))))
 generalize bL (L p) (cH L C.ts 3 (Ty C.ts+1))=r at*;exact AL
def Iw(C:Ctx)(L:Nat->bS aC)(HL:ru C 278 L):ru C 230 (λp=>bL (L p) (cH L C.ts 1 (Ty C.ts+1))):=by
 intro w p h hne;have HC:=aB (uN C L 278 (λ_ _=>aJ) HL 1 d_ d_ [[38,38]] Ku d_ w p h 1 rfl #[Q_ ⟨#[38,38]⟩] rfl hne)
 have a:=V6;show Ue _ _ _ _ (CM C w (bL (L p) (cH L C.ts 1 (Ty C.ts+1))))
 generalize bL (L p) (cH L C.ts 1 (Ty C.ts+1))=r at*;exact AL
def Me(C:Ctx)(L:Nat->bS aC)(HL:ru C 230 L):ru C 176 (λp=>bL (L p) (cH L C.ts 0 (Ty C.ts+1))):=by
 intro w p h hne;have HC:=aB (uN C L 230 (λ_ _=>aJ) HL 0 d_ d_ [[124,124]] Gz d_ w p h 1 rfl #[Q_ ⟨#[124,124]⟩] rfl hne)
 have a:=V6;show Ue _ _ _ _ (CM C w (bL (L p) (cH L C.ts 0 (Ty C.ts+1))))
 generalize bL (L p) (cH L C.ts 0 (Ty C.ts+1))=r at*;exact AL
def QE(C:Ctx)(L:Nat->bS aC)(n:ru C 298 L):ru C 278 (λp=>bL (L p) (cH L C.ts 2 (Ty C.ts+1))):=by
 intro w p h c;have g:=aB n;have b:=aB (Pg.new h);revert c
 show (bL _ _:bS aC)≠_->Ue _ _ _ _ (CM C w (bL _ _))
 generalize m:bL (L p) (cH L C.ts 2 (Ty C.ts+1))=r;intro c;have d:=aB m.symm;have f:=aB c;clear h n c m;go_in
 go_wp2_with fail;refine yi (t:=aS C.ts p) aJ b λA b=>?_
 go_wp2_with fail;refine uq g f b (λl e=>by rw[d,e];rfl) (λl o H=>?_) λa q J u o k b=>?_
 .go_wp2_with fail;exact⟨aJ,Out.err H.1 H.2⟩
 have d:Ul (r=cH L C.ts 2 (Ty C.ts+1) a q):=by show _=_;rw[d,k.out];rfl
 have b:=aB (b.add (cD #[I_ (aS C.ts p).l_] 177));go_wp2_with fail;refine Eu (OB C _ q b.at_ [[61,61],[33,61],[60],[60,61]] d_ s_ _ rfl (H_ o+1) s_ 4 rfl #[Q_ ⟨#[61,61]⟩,Q_ ⟨#[33,61]⟩,Q_ ⟨#[60]⟩,Q_ ⟨#[60,61]⟩] rfl) b d_ Jx d (λG y j s b=>?_) λd s b=>?_
 .obtain⟨I,E⟩:=b.xp;go_wp2
  go_region_law (go_simp;go_at_call 298;refine uq g f b.drew j.2.2.1 (λl z H=>⟨aJ,Out.err H.1 H.2⟩) λi D B x z k b=>?_;obtain⟨F,v⟩:=b.xp)
  all_goals
   go_wp2
   go_ret;exact b.ret (j.2.2.2 _ _ k) (.inr (.inr (.inr (.inr (.inr (.inr (.inr (.inr (.inl ⟨aJ,_,_,_,a,i,by rw[j.1];rfl,j.2.1,rfl,rfl⟩)))))))))
 go_wp2
 go_ret;exact b.one d
def OS(C:Ctx):∀f,ru C 176 (jP C.ts f)
 |0=>λ_ _ _ a=>eu rfl a
 |f+1=>λw p h a=>Me C (iM (jP C.ts f) C.ts 4) (Iw C (iM (jP C.ts f) C.ts 3) (QE C (iM (jP C.ts f) C.ts 2) (Fs C (iM (jP C.ts f) C.ts 1) (UY C (iM (jP C.ts f) C.ts 0) (i7 C (jP C.ts f) (OS C f) (Ty C.ts+1)))))) w p h a
