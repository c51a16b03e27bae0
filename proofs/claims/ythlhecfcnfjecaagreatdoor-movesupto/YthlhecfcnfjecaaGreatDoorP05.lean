import Derived.Test.YthlhecfcnfjecaaGreatDoorP02
set_option linter.all false
set_option maxRecDepth 100000
set_option maxHeartbeats 0
open List renaming length->aA
open Option renaming some->Wy,none->Wz
open Bool renaming false->WD
open Go renaming Calls->W_
namespace Go.Proofs.YthlhecfcnfjecaaGreatDoor
open Hs _root_.Go.Proofs.Tryz Go.RowKit
variable{E:Bool}{C:List aC}{B G:Nat}{b:Prop}{a:aC}{D:aN}{q r:aX}{s:bK}{e:bL}
def G5(f:Nat):∀(l:bQ) (p k:Nat),dU f l p=Wy k->k<=p+aA l:=by induction f with|zero=>intro l p k h;cases h|succ f a=>grind[dU,xZ]
def Ii(f:Nat):∀(a l:bQ) (n:Nat),aA l<f->fF f a l=.error n->n≠0:=by induction f with|zero=>exact Z|succ f b=>grind[bD,uA,fF]
theorem E3{l:bQ}(h:gS l=.error B):B≠0:=by exact Ii _ _ _ _ G_ h
def At.new{a:Nat}{c:List bH}(d:D.ownsRow G 220 3 (.slice (Wy (aL B 0)) (aA c) a) (aA c) (qG c))(b:qN c)(f:aA c<=3000):At ⟨D.heap.size,B,a,c⟩ (D.alloc (.cells #[.slice (Wy (aL B 0)) (aA c) a,Y 0,Y 0] 217)) 0 0:=by rcases d.2 with ⟨h,_⟩|⟨q,j,i,h,o,k,m,p,r,n⟩;cases h;cases h;have l:=aH k;refine⟨aV _ _ aJ _,⟨i,kX _ _ l _ k,n⟩,?_,b.some_,f,m,b.last,b.l_⟩;grind
def mO(w:aN)(x:Except (Nat×Nat) (List aC))(e:Ending)(w':aN):Prop:=R_ w w'/\match x with|.error (k,n)=>e=bR (.tuple #[.pointer Wz,.agg #[Y k,Y n]])|.ok ks=>∃b,e=bR (.tuple #[aY b,.agg #[Y 0,Y 0]])/\ve (sm w.heap.size w'.heap.size) w' (aY b) (aW [112,114,111,103,114,97,109] 0 [] ks)
def WL(s:ByteArray)(w:aN)(b:2000<s.size)(a:s.size<=maxLen):W_ prog 58 #[Q_ s,.bool WD] w (mO w (.error (1,0))):=by unfold maxLen at a;go_in;go_wp2;apply bodyPost_ret (v:=.tuple #[.pointer Wz,.agg #[Y 1,Y 0]]) (by simp[results,results58,go_sem]) rfl;grind[eo,dv,mO]
def MO(s:ByteArray)(w:aN)(i:s.size<=2000)(k:Nat)(c:dU s.size (eA s) 0=Wy k):W_ prog 58 #[Q_ s,.bool WD] w (mO w (.error (2,bD ((eA s).take k)))):=by
 have a:s.size<=2000000000:=Z;have d:k<=s.size:=by have:=G5 _ _ _ _ c;simpa using this
 have e:=O (λw=>zT s w a);rw[c]at e;clear c;go_in;go_wp;refine sa (e _) λf b=>?_;obtain rfl:=b.symm;rw[JN];go_wp2_with (go_at_call 98;refine sa (xV s _ k aJ _ a d) λg b=>?_;obtain rfl:=b.symm);apply bodyPost_ret (v:=.tuple #[.pointer Wz,.agg #[Y 2,Y (bD ((eA s).take k))]]) (by simp[results,results58,go_sem]) rfl;grind[eo,dv,mO]
def RP(s:ByteArray)(w:aN)(d:gK w)(l:s.size<=2000)(f:dU s.size (eA s) 0=Wz)(n:Nat)(i:gS (eA s)=.error n):W_ prog 58 #[Q_ s,.bool WD] w (mO w (.error (3,n))):=by
 have b:s.size<=2000000000:=Z;have g:=O (λw=>zT s w b);rw[f]at g;have p:(0:Int)<(n:Int):=by grind[E3]
 have j:=O (λo=>IQ s (w.alloc o) (d.alloc o) l);rw[i]at j;clear f d i;go_in;go_wp;refine sa (g _) λr k=>?_;obtain rfl:=k.symm;rw[JN];go_wp21;apply (j _).mono;rintro e q ⟨a,m⟩;obtain rfl:e=bR (.tuple #[bP,Y n]):=m;have ⟨hc,hf⟩:=wi a;have t:H_ w<H_ q:=by have:=a.size;simp at this;exact Z
 have c:=O a;clear a;go_wp2;apply bodyPost_ret (v:=.tuple #[.pointer Wz,.agg #[Y 3,Y n]]) (by simp[results,results58,go_sem,hc]) rfl;exact⟨((((dv _ _).alloc (Z) _).trans (c.mono s_)).setCell s_ _).setCell s_ _,rfl⟩
def PM(x:bQ)(w:aN):W_ prog 103 #[Q_ (bs x)] w λe a=>e=bR (.bool (gM x))/\a=w:=by have hx:=bA x;go_wp2;all_goals go_ret;exact⟨gO (by grind[gM]),rfl⟩
def kE(l:cY):List Value:=l.map λx=>.string (bs x)
def TV(Y_:b:=by
 go_wp2_with fail;go_round;case rel=>exact⟨k+1,Z,ll,HF⟩
 grind[intOf]):b:=Y_
def X2(l:cY)(x:bQ)(g b:Nat)(w:aN)(v:aA l<=100000)(_hlc:aA l<=b)(o:∀i (h:i<aA l),dR w g i (Q_ (bs l[i]))):W_ prog 166 #[P_ (Wy (aL g 0)) (aA l) b,Q_ (bs x)] w λe q=>e=bR (.bool (l.contains x))/\q=w:=by
 have A:=bA x;have s:=O o;clear o;go_in;go_wp2;go_loop [5] (λi=>∃k:Nat,k<=aA l/\i=Y k/\Hid (∀y∈l.take k,y≠x)) (λi=>aA l-(intOf i).toNat);case atStart=>exact⟨0,Z,rfl,λy j=>by simp at j⟩
 case round=>
  obtain⟨k,t,rfl,m⟩:=hrel;by_cases c:k<aA l
  .have f:=s.out k c;have a:l[k]∈l:=(by simp);have p:Hid (∀y∈l.take (k+1),y∈l.take k\/y=l[k]):=λy j=>by grind[List.take_succ_eq_append_getElem]
   have n:=O a;clear a;generalize l[k]=y at*;have j:=bA y;cases r:(y==x)
   .have d:Hid (∀z∈l.take (k+1),z≠x):=λz u=>by grind[dw]
    clear m p n;go_wp;go_round;case rel=>exact⟨k+1,Z,ll,d⟩
    grind[intOf]
   have d:Hid (l.contains x=true):=by grind
   clear m p n;go_wp2;go_ret;exact⟨gO ng,rfl⟩
  have d:Hid (l.contains x=WD):=by grind[dw]
  clear m;go_wp2;go_ret;exact⟨gO ng,rfl⟩
def X3(x:bQ)(w:aN):W_ prog 166 #[bP,Q_ (bs x)] w λe a=>e=bR (.bool (([]:cY).contains x))/\a=w:=by
 go_in;go_wp2;go_loop [5] (λi=>i=Y 0) (λ_=>0);case atStart=>rfl
 case round=>go_wp2;go_ret;simp
def GJ:(prog.info? 9).map (λi=>(i.zero,i.size,i.bytes))=Wy (Wy (Q_ (bs [])),1,16):=k_
def QF(l:cY)(x:bQ)(v:aX)(b:Nat)(w:aN)(j:aA l<=100000)(a:w.ownsRow b 9 1 v (aA l) (kE l)):W_ prog 166 #[v,Q_ (bs x)] w λe d=>e=bR (.bool (l.contains x))/\d=w:=by
 rcases a.2 with ⟨rfl,o⟩|⟨g,c,h,rfl,n,k,f,q,r,p⟩;obtain rfl:l=[]:=(by grind);exact X3 x w;refine X2 l x g c w j f λi m=>aB k ?_;have e:(kE l)[i]?=Wy (Q_ (bs l[i])):=by simp[kE,m]
 grind
structure mV(cb lo:Nat)(fs:List aC)(fv:aX)(a_:Bool)(w:aN)(s:bK):Prop where
 i_:∃sv,w.heap[cb]?=Wy (.cells #[fv,sv,.bool a_,Y s.kind,Y s.l_] 123)/\w.ownsRow (cb+1) 9 1 sv (aA s.e_) (kE s.e_)
 y_:yh (sm lo cb) w fv fs
def lX{w:aN}{c a f:aX}(h:w.heap[B]?=Wy (bO #[r,q,c,a,f] 123)):B<H_ w/\dR w B 0 r/\dR w B 1 q/\dR w B 2 c/\dR w B 3 a/\dR w B 4 f/\(∀i,w.frozen? (aL B i)=WD):=(by grind[aB,aF])
def mV.put{a:Bool}{w:aN}{e:bK}(i:yh (sm G B) w r C)(n:∀k,k≠B->D.heap[k]?=w.heap[k]?) (d:D.heap[B]?=Wy (bO #[r,q,.bool a,Y e.kind,Y e.l_] 123)) (b:w.ownsRow (B+1) 9 1 q (aA s.e_) (kE s.e_)) (m:e.e_=s.e_):mV B G C r a D e:=by refine⟨⟨q,d,?_⟩,(by grind[yh.h_,sm])⟩;rw[m];exact bE b λk i=>n k (by have:=bX b k i;exact Z)
def xW(d l:Nat)(j:List aC)(i:aX)(b:Bool)(w:aN)(s:bK)(l_ kind:Nat)(h:mV d l j i b w s):W_ prog 104 #[aY d,Y l_,Y kind] w λe g=>e=fA/\Below d w g/\mV d l j i b g (s.found l_ kind):=by
 have ⟨sv,hblk,hown⟩:=h.i_;have ⟨hlt,c0,c1,c2,c3,c4,fz⟩:=lX hblk;have q:=fz 3;have p:=fz 4;have n:=O hblk;have o:=O hown;have H:=O h;clear fz hblk hown h;by_cases f:s.kind=0
 .have m:((s.kind:Int)==0)=true:=G_;have a:s.found l_ kind={s with kind:=kind,l_:=l_}:=by grind[bK.found]
  have c:=O a;clear a f;go_in;go_wp2;go_end0;refine⟨aJ,(by grind[Below.setCell,dv]),?_⟩;rw[c];refine mV.put H.y_ (λk f=>?_) ?_ o aJ;grind[ej];rw[aP (aP n.out)];rfl
 have m:((s.kind:Int)==0)=WD:=G_;have a:s.found l_ kind=s:=by grind[bK.found]
 have c:=O a;clear a f;go_in;go_wp2;go_end0;grind[dv,dw]
theorem eY.cells{d:Nat}{F:bL}{w:aN}{v:aX}(h:eY d F w v a):∃e b c,d=e+1/\v=aY b/\F b/\b<w.heap.size/\w.cell? (aL b 0)=Wy (.string (bs a.op))/\w.cell? (aL b 1)=Wy (Y a.l_)/\w.cell? (aL b 2)=Wy (.string (bs a.x_))/\w.cell? (aL b 3)=Wy c/\nK (eY e F w) F w c a.y_:=by cases d with|zero=>exact h.elim|succ d=>have ⟨b,c,h1,h2,h3,h4⟩:=h;grind[aB]
theorem jN.get{R:Value->aC->Prop}:∀{vs ks} (i:Nat) (b:i<aA ks),jN R vs ks->∃v,vs[i]?=Wy v/\R v ks[i]|v::vs,a::ks,0,_,h=>⟨v,rfl,h.1⟩|v::vs,a::ks,i+1,b,h=>by obtain⟨u,d,c⟩:=jN.get (vs:=vs) (ks:=ks) i G_ h.2;grind|[],_::_,_,_,h=>h.elim|_::_,[],_,b,_=>by simp at b|[],[],_,b,_=>by simp at b
theorem nK.get{R:Value->aC->Prop}{ks:List aC}(h:nK R e D r ks):(r=bP/\ks=[])\/∃g a,r=.slice (Wy (aL g 0)) (aA ks) a/\e g/\g<D.heap.size/\aA ks<=a/\∀i (c:i<aA ks),∃v,D.cell? (aL g i)=Wy v/\R v ks[i]:=by grind[jN.get,aB,nK]
theorem sC(s:bK)(l k:Nat):(s.found l k).e_=s.e_:=by grind[bK.found]
def eY.vj{w':aN}(h:eY B e D r a)(b:w'.heap=D.heap):eY B e w' r a:=(by grind[eY.h_])
def mV.vj{w':aN}(h:mV B G C r E D s)(f:w'.heap=D.heap):mV B G C r E w' s:=by have ⟨sv,h1,h2⟩:=h.i_;exact⟨(by grind[bE]),h.y_.h_ G_⟩
def BZ(f g:Nat)(j:List aC)(k:aX)(c:Bool)(w:aN)(s:bK)(h:mV f g j k c w s)(A:aA s.e_<=100000)(v:aX)(a:aC)(d:Nat)(o:eY d (sm g f) w v a):W_ prog 105 #[aY f,v] w λe m=>e=fA/\Below f w m/\mV f g j k c m (Hs.oo s a):=by
 obtain⟨E,b,F,rfl,rfl,D,p,C,G,I,B,-⟩:=o.cells;have ⟨sv,hblk,hown⟩:=h.i_;have ⟨hlt,c0,c1,c2,c3,c4,fz⟩:=lX hblk;have x:=O (PM a.x_ w);have q:=O (QF s.e_ a.x_ sv (f+1) w.drew A hown);have u:=O (xW f g j k c w.drew s a.l_ 6 (h.vj aJ));have n:Hid (Hs.oo s a=if gM a.x_||s.e_.contains a.x_ then s.found a.l_ 6 else s):=rfl;have H:=O h;clear fz hblk hown h o;generalize gM a.x_=r at*;generalize s.e_.contains a.x_=y at*;go_in;go_wp;refine sa x λl i=>?_;obtain rfl:=i.symm;go_wp2;go_region_law (go_simp;go_at_call 166;refine sa q λl i=>?_;obtain rfl:=i.symm);all_goals(cases r<;>cases y)
 all_goals first|(go_wp2;go_end0;exact⟨aJ,(dv _ _).drew,by rw[n];exact H.vj aJ⟩)|(go_wp;refine sa u λl ⟨t,z⟩=>?_;go_wp2;go_end0;exact⟨aJ,(dv _ _).drew.trans t,by rw[n];exact z⟩)
def Dw(d:Nat)(F:bL)(w:aN)(o:Option aC)(v:aX):Prop:=match o with|none=>v=.pointer Wz|some f=>eY d F w v f
def yS(a:List aC)(x:bQ)(g f:Nat)(F:bL)(w:aN)(E:aA a<=100000)(_hg:g<H_ w)(d:Nat)(p:∀i (I:i<aA a),∃v,dR w g i v/\eY d F w v a[i]):W_ prog 59 #[P_ (Wy (aL g 0)) (aA a) f,Q_ (bs x)] w λe s=>s=w/\∃v,e=bR v/\Dw d F w (dG a x) v:=by
 have t:=O p;clear p;have J:=bA x;go_in;go_wp2;go_loop [5] (λi=>∃k:Nat,k<=aA a/\i=Y k/\Hid (∀y∈a.take k,y.x_≠x)) (λi=>aA a-(intOf i).toNat);case atStart=>exact⟨0,Z,rfl,λy m=>by simp at m⟩
 case round=>
  obtain⟨k,A,rfl,n⟩:=hrel;by_cases c:k<aA a
  .have ⟨v,hcell,hrep⟩:=t k c;obtain⟨G,b,H,rfl,rfl,C,r,B,K,L,u,-⟩:=hrep.cells;have o:=O hrep;have q:Hid (∀y∈a.take (k+1),y∈a.take k\/y=a[k]):=λy m=>by grind[List.take_succ_eq_append_getElem]
   have l:Hid (a=a.take k++a[k]::a.drop (k+1)):=by grind[List.getElem_cons_drop,List.take_append_drop]
   clear hrep;generalize a[k]=y at*;have m:=bA y.x_;cases j:(y.x_==x);have HF:Hid (∀z∈a.take (k+1),z.x_≠x):=λz D=>by grind[dw]
   clear n q o l;exact TV;have HF:Hid (dG a x=Wy y):=by show _=_;rw[l];unfold dG;rw[List.find?_append,List.find?_eq_none.2 ng];simp[j]
   clear n q l;go_wp2;go_ret;exact⟨aJ,_,aJ,by rw[HF];exact o⟩
  have HF:Hid (dG a x=Wz):=by grind[dG,dw]
  clear n;go_wp2;go_ret;exact⟨aJ,_,aJ,by rw[HF];rfl⟩
def NA(x:bQ)(d:Nat)(F:bL)(w:aN):W_ prog 59 #[bP,Q_ (bs x)] w λe a=>a=w/\∃v,e=bR v/\Dw d F w (dG [] x) v:=by
 go_in;go_wp2;go_loop [5] (λi=>i=Y 0) (λ_=>0);case atStart=>rfl
 case round=>go_wp2;go_ret;exact⟨aJ,_,aJ,aJ⟩
def uH(a:List aC)(x:bQ)(c:aX)(F:bL)(w:aN)(f:aA a<=100000)(d:Nat)(h:nK (eY d F w) F w c a):W_ prog 59 #[c,Q_ (bs x)] w λe i=>i=w/\∃v,e=bR v/\Dw d F w (dG a x) v:=by rcases h.get with ⟨rfl,rfl⟩|⟨g,b,rfl,-,j,-,k⟩;exact NA x d F w;exact yS a x g b F w f j d k
def nK.slice{R:Value->aC->Prop}{F:bL}{w:aN}{d:aX}{b:List aC}(h:nK R F w d b):∃x c,d=.slice x (aA b) c:=by rcases h.get with ⟨rfl,rfl⟩|⟨g,a,rfl,_⟩;exact⟨Wz,0,aJ⟩;exact⟨_,a,aJ⟩
def uS{W:Int}(h:gN C E a.x_=W)(d:W<0):gG C E s a=s.found a.l_ 6:=by unfold gG;rw[h,ec d]
def yD{W:Int}(h:gN C E a.x_=W)(e:¬W<0)(d:W≠(aA a.y_:Int)):gG C E s a=s.found a.l_ 7:=by unfold gG;rw[h,dy e,ec d]
def QA{W:Int}(h:gN C E a.x_=W)(e:¬W<0)(d:W=(aA a.y_:Int)):gG C E s a=s:=by unfold gG;rw[h,dy e,dy rz]
def Fw(Y_:b:=by
 obtain⟨d2,b2,kv2,rfl,rfl,hF2,hbl2,m0,m1,m2,m3,hk2⟩:=hfp.cells;obtain⟨kx2,kc2,rfl⟩:=hk2.slice;clear hfp hk2;by_cases hneg:(aA f.y_:Int)-1<0;.have HS:=O (uS (s:=s) hW hneg);clear hW;go_wp2_with fail;refine sa (HF 6) λw1 ⟨hb,hc⟩=>?_;go_wp2;go_end0;exact⟨aJ,(dv _ _).drew.trans hb,rj⟩
 by_cases heq:((aA f.y_:Int)-1:Int)=(aA a.y_:Int);.have HS:=O (QA (s:=s) hW oz heq);clear hW;go_wp2;go_end0;exact⟨aJ,(dv _ _).drew,by rw[HS];exact H.vj aJ⟩
 have HS:=O (yD (s:=s) hW oz heq);clear hW;go_wp2_with fail;refine sa (HF 7) λw1 ⟨hb,hc⟩=>?_;go_wp2;go_end0;exact⟨aJ,(dv _ _).drew.trans hb,rj⟩):b:=Y_
def Gg(Y_:b:=by have HS:=O (QA (s:=s) hW oz heq);clear hW;go_wp2;go_end0;exact⟨aJ,(dv _ _).drew,by rw[HS];exact H.vj aJ⟩):b:=Y_
def QK(Y_:b:=by go_wp2;go_end0;exact⟨aJ,(dv _ _).drew.trans hb,rj⟩):b:=Y_
def Iq(l r:Nat)(i:List aC)(t:aX)(c:Bool)(w:aN)(s:bK)(h:mV l r i t c w s)(u:aA i<=100000)(p:∀f∈i,aA f.y_<=100000)(v:aX)(a:aC)(d:Nat)(A:eY d (sm r l) w v a)(_hak:aA a.y_<=100000):W_ prog 167 #[aY l,v] w λe w'=>e=fA/\Below l w w'/\mV l r i t c w' (gG i c s a):=by
 obtain⟨K,b,M,rfl,rfl,J,B,I,P,Q,G,z⟩:=A.cells;obtain⟨F,N,rfl⟩:=z.slice;obtain⟨L,j,n⟩:=h.i_;have ⟨hlt,c0,c1,c2,c3,c4,fz⟩:=lX j;have ⟨df,hdf⟩:=(h.vj (w':=w.drew) rfl).y_.depth;have C:=O (uH i a.x_ t (sm r l) w.drew u df hdf);have HF:=O (λk=>xW l r i t c w.drew s a.l_ k (h.vj aJ));have H:=O h;have q:=O p;have D:(bs a.x_).toList=a.x_:=bA _;clear fz j n h A hdf z p;go_in;go_wp2;go_region_law (go_simp;go_at_call 59;apply C.mono;rintro e w1 ⟨E,y,rfl,hfp⟩;obtain rfl:=E.symm);all_goals
  cases m:(a.x_==[108,101,110])
  .cases o:(a.x_==[114,101,97,100]);.cases g:dG i a.x_ with
    |none=>
     rw[g]at hfp;obtain rfl:y=.pointer Wz:=hfp;have hW:gN i c a.x_=-1:=by unfold gN;simp[m,o,g]
     have HS:=O (uS (s:=s) hW d_);clear hW;go_wp;refine sa (HF 6) λw1 ⟨hb,hc⟩=>?_;exact QK|some f=>
     rw[g]at hfp;have x:=q f (ka g);have hW:gN i c a.x_=(aA f.y_:Int)-1:=by unfold gN;simp[m,o,g]
     exact Fw
   cases c
   .have hW:gN i WD a.x_=0:=by unfold gN;simp[m,o]
    by_cases heq:(0:Int)=(aA a.y_:Int);exact Gg;have HS:=O (yD (s:=s) hW oz heq);clear hW;go_wp;refine sa (HF 7) λw1 ⟨hb,hc⟩=>?_;exact QK
   cases g:dG i a.x_ with|none=>
    rw[g]at hfp;obtain rfl:y=.pointer Wz:=hfp;have hW:gN i true a.x_=-1:=by unfold gN;simp[m,o,g]
    have HS:=O (uS (s:=s) hW d_);clear hW;go_wp;refine sa (HF 6) λw1 ⟨hb,hc⟩=>?_;exact QK|some f=>
    rw[g]at hfp;have x:=q f (ka g);have hW:gN i true a.x_=(aA f.y_:Int)-1:=by unfold gN;simp[m,o,g]
    exact Fw
  have hW:gN i c a.x_=1:=by unfold gN;rw[m];rfl
  by_cases heq:(1:Int)=(aA a.y_:Int);exact Gg;have HS:=O (yD (s:=s) hW oz heq);clear hW;go_wp;refine sa (HF 7) λw1 ⟨hb,hc⟩=>?_;go_wp2;go_end0;exact⟨aJ,(dv _ _).drew.trans hb,rj⟩
def AB(b:List aC)(a:Bool)(s:bK)(n:aC):(cQ b a s n).e_=s.e_:=by grind[cQ,gG,sC]
theorem lG(s:bK)(n:aC):(Hs.oo s n).e_=s.e_:=by grind[Hs.oo,sC]
def ua(s s':bK)(m:Nat):Prop:=∃t,s'.e_=s.e_++t/\aA t<=m
def ua.refl(s:bK):ua s s 0:=⟨[],s_,s_⟩
def ua.trans{a b c:bK}{m n:Nat}(h:ua a b m)(k:ua b c n):ua a c (m+n):=by grind[ua]
def ua.le{a b:bK}{m n:Nat}(h:ua a b m)(c:m<=n):ua a b n:=by grind[ua]
theorem ua.of_eq{b:bK}(h:b.e_=s.e_):ua s b 0:=⟨[],rm,s_⟩
theorem ua.fold{f:bK->aC->bK}{g:aC->Nat}(h:∀s k,ua s (f s k) (g k)):∀(l:List aC) (s:bK),ua s (l.foldl f s) (l.map g).sum|[],s=>ua.refl s|k::l,s=>by exact(h s k).trans (ua.fold h l _)
theorem gZ(b:List aC)(a:Bool):∀(d:Nat) (n:aC) (s:bK),ua s (aT b a d n s) (cV d n)
 |0,n,s=>ua.refl s|d+1,n,s=>by
  rw[aT,cV];split;match h:n.y_ with|t::v::r=>have h1:=ua.of_eq (lG s t);obtain⟨u,c,e⟩:=h1.trans (gZ b a d v (Hs.oo s t));grind[ua]|[]=>exact(ua.refl s).le Z|[_]=>exact(ua.refl s).le Z
  have h1:=ua.of_eq (AB b a s n);have c:=h1.trans (ua.fold (f:=λs k=>aT b a d k s) (g:=cV d) (λs k=>gZ b a d k s) n.y_ (cQ b a s n));grind[ua]
def EB(cb lo:Nat)(fs:List aC)(fv:aX)(a_:Bool)(d:Nat):Prop:=∀(v:aX) (a:aC) (s:bK) (w:aN),mV cb lo fs fv a_ w s->eY d (sm lo cb) w v a->uX d a->aA s.e_+cV d a<=90000->W_ prog 106 #[aY cb,v] w λe w'=>e=fA/\Below cb w w'/\mV cb lo fs fv a_ w' (aT fs a_ d a s)
theorem zP{f:aC->Nat}{k:aC}:∀{l:List aC},k∈l->f k<=(l.map f).sum|[],h=>by cases h|x::l,h=>by simp [fk,fq];rcases ew.1 h with rfl|h;exact Z;have:=zP (f:=f) h;exact Z
def rK{l:cY}(h:D.ownsRow B 9 1 r (aA l) (kE l))(m:Nat)(q:m<=aA l):∃x c,r=P_ x (aA l) c/\aA l<=c/\c<=maxLen/\D.ownsRow B 9 1 (P_ x m c) m (kE (l.take m)):=by
 have j:aA (kE (l.take m))=m*1:=by simp[kE];exact Z
 rcases h.2 with ⟨rfl,o⟩|⟨g,b,d,rfl,f,k,i,e,n,p⟩;grind;refine⟨_,b,aJ,i,e,j,dz ⟨g,b,d,aJ,f,k,Z,e,n,?_⟩⟩;grind[kE,List.map_take]
theorem v8(o y:Nat)(l:List aC)(D:aX)(c:Bool)(ap:aA l<=90000)(M:∀f∈l,aA f.y_<=90000)(d:Nat)(IH:EB o y l D c d) (v:aX) (a:aC) (s:bK) (w:aN) (h:mV o y l D c w s) (ha:eY (d+1) (sm y o) w v a) (ab:uX (d+1) a) (ae:aA s.e_+cV (d+1) a<=90000) (ar:aA a.y_<=90000) (au:(a.op==[118,97,114])=WD):W_ prog 106 #[aY o,v] w λe w'=>e=fA/\Below o w w'/\mV o y l D c w' (aT l c (d+1) a s):=by
 obtain⟨d',b,kv,hd,rfl,hF,aa,n0,n1,n2,n3,z⟩:=ha.cells;obtain rfl:d=d':=Z;obtain⟨kx,kc,rfl⟩:=z.slice;obtain⟨sv,L,A⟩:=h.i_;have ⟨q,c0,c1,c2,c3,c4,fz⟩:=lX L;obtain⟨sx,sc,rfl,ao,ah,-⟩:=rK A _ lZ;have ak:(bs a.op).toList=a.op:=bA _;have H:=O h;have HA:=O ha;have HK:=O z;have HO:=O A;go_in;go_upto_block 0 with fail;go_cut [] (λwc=>Below o w wc/\mV o y l D c wc (cQ l c s a));case first=>
  cases F:(a.op==[115,101,116]||a.op==[110,97,109,101])
  .have ⟨r,K⟩:=Bool.or_eq_false_iff.1 F;cases Q:(a.op==[99,97,108,108])
   .have S:Hid (cQ l c s a=s):=by unfold cQ;rw[F,Q];rfl
    go_wp;go_meet;grind[dv,cQ]
   have S:Hid (cQ l c s a=gG l c s a):=by unfold cQ;rw[F,Q];rfl
   have HC:=O (Iq o y l D c w s H Z (λf hf=>em (M f hf) Z) _ a _ HA Z);go_wp;refine sa HC λw1 ⟨hb,hc⟩=>?_;go_wp2_with fail;go_meet;grind[cQ]
  have S:Hid (cQ l c s a=if s.e_.contains a.x_ then s else s.found a.l_ 6):=by unfold cQ;rw[F];rfl
  have HM:=O (QF s.e_ a.x_ _ (o+1) w.drew Z HO);have HF:=O (xW o y l D c w.drew s a.l_ 6 (H.vj aJ));generalize s.e_.contains a.x_=mb at*;have af:((a.op==[115,101,116])=true/\(a.op==[110,97,109,101])=WD)\/((a.op==[115,101,116])=WD/\(a.op==[110,97,109,101])=true):=by
   cases r:(a.op==[115,101,116]);rw[r]at F;exact dz ⟨aJ,by simpa using F⟩;refine ea ⟨aJ,?_⟩;have:a.op=[115,101,116]:=by simpa using r
   rw[this];rfl
  rcases af with ⟨r,K⟩|⟨r,K⟩;all_goals go_wp2;go_region_law (go_simp;go_at_call 166;refine sa HM λw1 hw=>?_;obtain rfl:=hw.symm)
  all_goals(cases mb)
  all_goals first|(go_wp;go_meet;case rel=>exact⟨(dv _ _).drew,by rw[S];exact H.vj aJ⟩)|(go_wp;refine sa HF λw1 ⟨hb,hc⟩=>?_;go_wp2_with fail;go_meet;case rel=>exact⟨(dv _ _).drew.trans hb,by rw[S];exact hc⟩)
 case rest=>
  have ⟨hbc,hcc⟩:=hcut;have an:=O hbc;have aq:=O hcc;go_wp2;go_loopg [6] (aA a.y_) (λgk i wr=>∃k:Nat,k+gk=aA a.y_/\i=Y k/\Below o w wr/\mV o y l D c wr ((a.y_.take k).foldl (λs k=>aT l c d k s) (cQ l c s a)));case atStart=>grind
  case round=>
   obtain⟨k,al,rfl,m,p⟩:=hrel;have hbb:=m.block b hF.2;have q0:=(iN hbb).trans n0;have q3:=(iN hbb).trans n3;have hblr:=eh aa m.size;by_cases q:k<aA a.y_
   .obtain⟨j,rfl⟩:∃j,gk=j+1:=⟨gk-1,Z⟩;rcases HK.get with ⟨_,h0⟩|⟨g,av,X,ac,W,ag,J⟩;rw[h0]at q;simp at q;have ⟨u,hu,hru⟩:=J k q;cases X;have hgb:=m.block g ac.2;have r0:=(iN hgb).trans hu;have hgr:=eh W m.size;have C:(a.y_.take (k+1)).foldl (λs k=>aT l c d k s) (cQ l c s a)=aT l c d a.y_[k] ((a.y_.take k).foldl (λs k=>aT l c d k s) (cQ l c s a)):=by rw[hQ q,List.foldl_append];rfl
    have ai:((a.y_.take k).map (cV d)).sum+cV d a.y_[k]<=(a.y_.map (cV d)).sum:=by
     have e:a.y_=a.y_.take k++a.y_[k]::a.y_.drop (k+1):=s_;have Q:(a.y_.map (cV d)).sum=((a.y_.take k++a.y_[k]::a.y_.drop (k+1)).map (cV d)).sum:=by rw[<-e]
     rw[Q,ft,jn,fk,fq];exact Z
    have n:=ua.fold (f:=λs k=>aT l c d k s) (g:=cV d) (λs k=>gZ l c d k s) (a.y_.take k) (cQ l c s a);have I:((a.y_.take k).foldl (λs k=>aT l c d k s) (cQ l c s a)).e_.length+cV d a.y_[k]<=90000:=by have ⟨t,h1,h2⟩:=n;rw[h1,AB];rw[cV]at ae;simp;exact Z
    have HC:=O (IH u a.y_[k] _ wr p (hru.h_ λk z=>m.block k z.2) (ab.2 _ (s_)) I);have am:=O C;have E:=O m;go_wp;refine sa HC λw1 ⟨aw,ax⟩=>?_;go_wp2;go_roundg j;case measure=>exact Z
    grind[Below.trans]
   obtain rfl:k=aA a.y_:=Z;rw[jj]at p;have ⟨sv1,hblk1,hown1⟩:=p.i_;have ⟨hlt1,c0,c1,c2,c3,c4,fz⟩:=lX hblk1;have n:=(ua.of_eq (AB l c s a)).trans (ua.fold (f:=λs k=>aT l c d k s) (g:=cV d) (λs k=>gZ l c d k s) a.y_ (cQ l c s a));have N:aA s.e_<=(a.y_.foldl (λs k=>aT l c d k s) (cQ l c s a)).e_.length:=by have ⟨t,h1,h2⟩:=n;rw[h1];simp
   have hS:aT l c (d+1) a s=if a.op==[98,108,111,99,107]then {a.y_.foldl (λs k=>aT l c d k s) (cQ l c s a)with e_:=(a.y_.foldl (λs k=>aT l c d k s) (cQ l c s a)).e_.take (aA s.e_)} else a.y_.foldl (λs k=>aT l c d k s) (cQ l c s a):=by rw[aT,dy G_]
   have P:=O hS;have E:=O m;have G:=O p;obtain⟨V,T,rfl,aj,B,x⟩:=rK hown1 _ N;have HCUT:=O x;have ad:=O hblk1;have f1:=fz 1;clear n hS m p hown1 x hblk1 fz M IH HK;generalize a.y_.foldl (λs k=>aT l c d k s) (cQ l c s a)=s1 at*;cases eb:(a.op==[98,108,111,99,107]);.rw[eb]at P;go_wp2;go_end0;exact⟨aJ,E,by rw[P];exact G⟩
   rw[eb]at P;unfold maxLen at B;go_wp2;go_end0;refine⟨aJ,E.setCell s_ _,?_⟩;rw[P,ec trivial];refine⟨⟨P_ V (aA s.e_) T,?_,?_⟩,G.y_.h_ λk z=>ej _ _ _ _ (by have:=z.2;grind)⟩;rw[aP ad];rfl;have el:aA (s1.e_.take (aA s.e_))=aA s.e_:=by rw[ia];exact Z
   rw[el];exact bE HCUT λk z=>ej _ _ _ _ (by have:=bX HCUT k z;grind)
def BL(w:aN)(x:bQ):∀j u,([Q_ (bs x)]:List Value)[j]?=Wy u->(eF w #[Q_ (bs x)] 9).cell? ((⟨H_ w,0,Wz⟩:Addr).add j)=Wy u:=by exact GR
def GI(x:bQ):∀u∈([Q_ (bs x)]:List Value),u.oneCell'=true:=by intro u a;simp at a;subst a;rfl
def KV{j:aN}{o:Obj}{g f k d:aX}{m:List Value}(l:D.heap[B]?=Wy (bO #[r,q,g,f,k] 123))(b:D.ownsRow (B+1) 9 1 d G m)(p:(D.alloc o).grownBy j d.ownBlock):j.heap[B]?=Wy (bO #[r,q,g,f,k] 123):=by have c:=aH l;rw[p.block B la λe=>by have:=bX b B e.symm;exact Z];exact kX _ _ c _ l
def mV.add{t:aX}{l:aN}{x:bQ}{o:Obj}{g b:Nat}(h:mV B G C t E D s)(i:D.heap[B]?=Wy (bO #[t,r,.bool E,Y s.kind,Y s.l_] 123)) (f:D.ownsRow (B+1) 9 1 r (aA s.e_) (kE s.e_)) (d:l.ownsRow (B+1) 9 1 (P_ (Wy (aL g 0)) (aA s.e_+1) b) (aA s.e_+1) (kE s.e_++[Q_ (bs x)])) (j:(D.alloc o).grownBy l r.ownBlock):Below B D (l.setCell (aL B 1) (P_ (Wy (aL g 0)) (aA s.e_+1) b))/\mV B G C t E (l.setCell (aL B 1) (P_ (Wy (aL g 0)) (aA s.e_+1) b)) {s with e_:=s.e_++[x]}:=by
 have y:=aH i;have q:=KV i f j;have n:Below B D l:=⟨j.os.trans aJ,j.tape.trans aJ,j.output.trans aJ,em s_ j.size,λk p=>by rw[j.block k la λe=>by have:=bX f k e.symm;exact Z];grind[ed]⟩;have m:Below B D (l.setCell (aL B 1) (P_ (Wy (aL g 0)) (aA s.e_+1) b)):=n.setCell s_ _;refine⟨m,⟨P_ (Wy (aL g 0)) (aA s.e_+1) b,?_,?_⟩,h.y_.h_ λk p=>m.block k p.2⟩;rw[aP q];rfl;have A:aA (s.e_++[x])=aA s.e_+1:=s_;have z:kE (s.e_++[x])=kE s.e_++[Q_ (bs x)]:=by simp[kE]
 rw[A,z];exact bE d λk p=>ej _ _ _ _ (by have:=bX d k p;grind)
theorem Hx(o F:Nat)(n:List aC)(fv:aX)(c:Bool)(d:Nat)(IH:EB o F n fv c d) (v:aX) (a:aC) (s:bK) (w:aN) (h:mV o F n fv c w s) (ha:eY (d+1) (sm F o) w v a) (W:uX (d+1) a) (ap:aA s.e_+cV (d+1) a<=90000) (J:a.op=[118,97,114]):W_ prog 106 #[aY o,v] w λe w'=>e=fA/\Below o w w'/\mV o F n fv c w' (aT n c (d+1) a s):=by
 obtain⟨d',b,kv,hd,rfl,hF,bi,n0,n1,n2,n3,K⟩:=ha.cells;obtain rfl:d=d':=Z;have h2:=W.1 J;have ⟨t,u,r,hkids⟩:∃t u r,a.y_=t::u::r:=by match hn:a.y_ with|[]=>grind|[_]=>grind|t::u::r=>simp
 have hS:aT n c (d+1) a s={aT n c d u (Hs.oo s t)with e_:=(aT n c d u (Hs.oo s t)).e_++[t.x_]}:=by grind[aT]
 have Q:uX d u:=(by grind[uX]);have aq:(Hs.oo s t).e_.length+cV d u<=80000+9999:=by grind[lG,cV]
 have C:=gZ n c d u (Hs.oo s t);rcases K.get with ⟨_,h0⟩|⟨g,bo,rfl,ab,be,M,p⟩;rw[hkids]at h0;cases h0;have ⟨tv,ht,hrt⟩:=p 0 Z;have ⟨uv,hu,hru⟩:=p 1 Z;have L:∀h,a.y_[0]'h=t:=(by grind);have ae:∀h,a.y_[1]'h=u:=(by grind);rw[L]at hrt;rw[ae]at hru;have ⟨sv,hblk,hown⟩:=h.i_;have ⟨hlt,c0,c1,c2,c3,c4,fz⟩:=lX hblk;obtain⟨sx,sc,rfl,bd,ar,-⟩:=rK hown _ lZ;have bf:aA s.e_<=90000:=Z;have bb:(bs a.op).toList=[118,97,114]:=by rw[bA,J]
 have HD:=O (BZ o F n fv c w s h Z tv t d hrt);have HW:=O (λy (hc:mV o F n fv c y (Hs.oo s t)) (hr:eY d (sm F o) y uv u)=>IH uv u (Hs.oo s t) y hc hr Q Z);have HS:=O hS;have ak:=O hrt;have P:=O hru;have HADD:=O C;clear h ha K fz hown hS p hrt hru L ae IH C W Q J;have bn:=M;have bg:(0:Int)<(aA a.y_:Int):=Z;have bm:(1:Int)<(aA a.y_:Int):=Z;have av:0<aA a.y_:=Z;clear hkids ap;go_in;go_wp;refine sa HD λy ⟨q,af⟩=>?_;have z:y.heap[b]?=w.heap[b]?:=q.block b hF.2;have B:y.heap[g]?=w.heap[g]?:=q.block g ab.2;have m3:=(iN (i:=3) z).trans n3;have r1:=(iN (i:=1) B).trans hu;have au:b<H_ y:=(by grind);have az:g<H_ y:=(by grind);have HC:=O (HW y af (P.h_ λk K=>q.block k K.2));have ao:=O q;clear z B q af HD HW P c0 c1 c2 c3 c4;go_wp2_with fail;refine sa HC λf ⟨T,H⟩=>?_;have j:=ao.trans T;have X:f.heap[b]?=w.heap[b]?:=j.block b hF.2;have ac:f.heap[g]?=w.heap[g]?:=j.block g ab.2;have p3:f.cell? (aL b 3)=_:=(iN (i:=3) X).trans n3;have p0:f.cell? (aL g 0)=_:=(iN (i:=0) ac).trans ht;have E:b<H_ f:=(by grind);have A:g<H_ f:=(by grind);obtain⟨dt,tb,bl,-,rfl,bc,ad,t0,t1,t2,t3,-⟩:=(ak.h_ (w':=f) λk K=>j.block k K.2).cells;have ⟨sv2,hblk2,hown2⟩:=H.i_;have ⟨hlt2,c0,c1,c2,c3,c4,fz⟩:=lX (w:=f) hblk2;obtain⟨ah,aj,rfl,ba,ai,-⟩:=rK hown2 _ lZ;have bj:(aT n c d u (Hs.oo s t)).e_.length<=90000:=by have ⟨x,h1,h2⟩:=HADD.out;grind
 have f1:=fz 1;generalize aT n c d u (Hs.oo s t)=s2 at*;have ⟨i0,hi,hz0,hz1,hz2⟩:=info_parts GJ;have l:f.drew.heap[o]?=_:=hblk2;have S:=O l;have G:=O (show f.drew.ownsRow _ _ _ _ _ _ from hown2);have am:=O (H.vj (w':=f.drew) aJ);have V:=O j;have ag:o<H_ f:=hlt2;have al:b<H_ f:=E;have an:g<H_ f:=A;have ay:tb<H_ f:=ad;clear hlt2 E A ad;clear hblk2 l hown2 H j T HC hblk fz;go_wp2;go_region_law (refine step_append_lies _ r_ _ _ 52 r_ (o+1) 9 i0 _ 1 16 underlying52 hi hz0 hz1 hz2 rfl d_ (P_ ah (aA s2.e_) aj) (aA s2.e_) (kE s2.e_) r_ (G.alloc _) (aL (H_ f) 0) 1 1 [Q_ (bs t.x_)] r_ r_ (BL f.drew _) (GI _) d_ lg Z la (H_ f+1) s_ ?_;intro g5 aw w5 I m ax bp;have aa:=KV S G m;obtain⟨bh,-,q1,-,-,-,N⟩:=lX aa;have e1:=N 1;clear N aa);all_goals go_wp2;apply bodyPost_ret (results_none aJ _ _ _) aJ;have D:=am.add S G I m;exact⟨aJ,V.trans ((dv _ f).drew.trans D.1),by rw[HS];exact D.2⟩
theorem pP(d:Nat):∀l:List aC,aA l<=(l.map (cV (d+1))).sum|[]=>by simp|x::l=>by have:=pP d l;grind[cV]
theorem eY.zu(h:eY (B+1) e D r a):aA a.y_<=cV (B+1) a:=by grind[eY.cells,cV,nK.get,pP]
theorem Sa(c i:Nat)(b:List aC)(h:aX)(a:Bool)(g:aA b<=90000)(e:∀f∈b,aA f.y_<=90000):∀d,EB c i b h a d:=by intro d;induction d with|zero=>grind[EB,eY]|succ d j=>grind[v8,eY.zu,Hx,EB]
def K4(a:List aC)(d:Nat)(s:bK)(k:aC):ua s (eP a d s k) (cV d k+1):=by grind[eP,lG,gZ,ua]
def VA(f:aC->Nat):∀l:List aC,(l.map λk=>f k+1).sum=(l.map f).sum+aA l|[]=>rfl|x::l=>by have:=VA f l;grind
def mV.bare(h:mV B G C r E D s):mV B G C r E (D.setCell (aL B 1) (bP)) {s with e_:=[]}:=by have ⟨sv,hblk,_⟩:=h.i_;exact⟨⟨bP,by rw[aP hblk];rfl,World.ownsRow_nil _ _ _ _⟩,h.y_.h_ (by grind[ej,sm])⟩
def Kq(z L:Nat)(l:List aC)(X:aX)(bz:aA l<=90000)(ba:∀f∈l,aA f.y_<=90000)(d:Nat) (v:aX) (a:aC) (s:bK) (w:aN) (first:Bool) (h:mV z L l X WD w s) (ha:eY (d+1) (sm L z) w v a) (ah:uX (d+1) a) (bc:cV (d+1) a<=40000):W_ prog 60 #[aY z,v,.bool first] w λe w'=>e=fA/\Below z w w'/\mV z L l X WD w' (gP l d s a first):=by
 have cd:aA a.y_<=40000:=by have:=ha.zu;exact Z
 have IH:EB z L l X WD d:=(by grind[Sa]);obtain⟨d',b,kv,hd,rfl,hF,aw,n0,n1,n2,n3,hk⟩:=ha.cells;obtain rfl:d=d':=Z;obtain⟨kx,kc,rfl⟩:=hk.slice;have C:z<H_ w:=by grind[mV.i_]
 have HG:=O (PM a.x_ w);have HF:=O (xW z L l X WD w s a.l_ 6 h);have HS:Hid (gP l d s a first=a.y_.foldl (eP l d) {(if gM a.x_||!first then s.found a.l_ 6 else s)with e_:=[]}):=rfl;have H:=O h;have HK:=O hk;have am:=O IH;have ay:=O ah;clear h ha hk IH ah ba;generalize I:gM a.x_=gb at*;clear I;generalize au:(if (gb||!first)=true then s.found a.l_ 6 else s)=s0 at*;go_in;go_upto_region 1 with (refine sa HG λw1 hw=>?_;obtain rfl:=hw.symm);go_cut [18] (λx wx=>x=.bool (gb||!first)/\wx=w);case first=>cases gb<;>cases first;all_goals go_wp;go_meet;simp
 case rest=>
  obtain⟨rfl,hw⟩:=hcut;obtain rfl:=hw.symm;generalize (gb||!first)=c at*;go_upto_if 18 with fail;go_cut [] (λwx=>Below z w wx/\mV z L l X WD wx s0);case first=>
   cases c
   .go_wp;go_meet;grind[dv,dw]
   go_wp2_with (refine sa HF λD ⟨Q,bt⟩=>?_);go_meet;grind
  case rest=>
   have ⟨Q,hcc⟩:=hcut;have bq:=O Q;have ca:=O (mV.bare hcc);obtain⟨cf,E,-⟩:=hcc.i_;obtain⟨bl,-,y1,-,-,-,fz⟩:=lX E;have br:=fz 1;clear Q hcc H HG HF fz E au;go_wp2;go_loopg [7,8] (aA a.y_) (λgk i y wr=>∃k:Nat,k+gk=aA a.y_/\i=Y k/\Below z w wr/\mV z L l X WD wr ((a.y_.take k).foldl (eP l d) {s0 with e_:=[]}));case atStart=>grind[Below.setCell,dw]
   case round=>
    obtain⟨k,bn,rfl,n,r⟩:=hrel;have ac:wr.heap[b]?=w.heap[b]?:=n.block b hF.2;have q3:dR wr b 3 (P_ kx (aA a.y_) kc):=(iN ac).trans n3;have bd:b<H_ wr:=eh aw n.size;clear ac n0 n1 n2 n3;by_cases C:k<aA a.y_
    .obtain⟨j,rfl⟩:∃j,gk=j+1:=⟨gk-1,Z⟩;rcases HK.get with ⟨_,h0⟩|⟨g,ce,av,az,ao,be,K⟩;rw[h0]at C;simp at C;obtain⟨u,hu,ak⟩:=K k C;cases av;have I:wr.heap[g]?=w.heap[g]?:=n.block g az.2;have r0:dR wr g k u:=(iN I).trans hu;have cg:=eh ao n.size;have m:=ak.h_ (w':=wr) λk hk=>n.block k hk.2;obtain⟨o,ub,bw,rfl,rfl,ax,bb,u0,u1,u2,u3,-⟩:=m.cells;have F:(a.y_.take (k+1)).foldl (eP l (o+1)) {s0 with e_:=[]}=eP l (o+1) ((a.y_.take k).foldl (eP l (o+1)) {s0 with e_:=[]}) a.y_[k]:=by rw[hQ C,List.foldl_append];rfl
     have ag:((a.y_.take k).map (cV (o+1))).sum+cV (o+1) a.y_[k]<=(a.y_.map (cV (o+1))).sum:=by
      have e:a.y_=a.y_.take k++a.y_[k]::a.y_.drop (k+1):=s_;have e2:(a.y_.map (cV (o+1))).sum=((a.y_.take k++a.y_[k]::a.y_.drop (k+1)).map (cV (o+1))).sum:=by rw[<-e]
      rw[e2,ft,jn,fk,fq];exact Z
     have N:=ua.fold (f:=eP l (o+1)) (g:=λk=>cV (o+1) k+1) (λs k=>K4 l (o+1) s k) (a.y_.take k) {s0 with e_:=[]};have bf:((a.y_.take k).foldl (eP l (o+1)) {s0 with e_:=[]}).e_.length+cV (o+1) a.y_[k]<=80000:=by have ⟨t,h1,h2⟩:=N;rw[h1];rw[VA,ia]at h2;rw[cV]at bc;simp;exact Z
     have an:=O F;have aa:=O n;have S:=ay.2 _ (ga C);clear F ag N K hu I ak n;generalize ((a.y_.take k).foldl (eP l (o+1)) {s0 with e_:=[]})=J at*;generalize a.y_[k]=y at*;have bp:(bs y.op).toList=y.op:=bA _;have HP:Hid (eP l (o+1) J y=if y.op==[112,97,114,97,109]then {Hs.oo J y with e_:=(Hs.oo J y).e_++[y.x_]} else aT l WD (o+1) y J):=rfl;cases M:(y.op==[112,97,114,97,109])
     .rw[M]at HP;have HC:=O (am _ y J wr r m S Z);clear r m S;go_wp;refine sa HC λw1 ⟨ch,bx⟩=>?_;go_wp2;go_roundg j;case measure=>exact Z
      grind[Below.trans,dw]
     rw[M]at HP;have HC:=O (BZ z L l X WD wr J r Z _ y _ m);have bu:=O m;clear r m S;go_wp;refine sa HC λD ⟨G,V⟩=>?_;have P:D.heap[ub]?=wr.heap[ub]?:=G.block ub ax.2;have x2:D.cell? (aL ub 2)=_:=(iN (i:=2) P).trans u2;have bi:ub<H_ D:=eh bb G.size;obtain⟨bo,p,q⟩:=V.i_;obtain⟨bj,c0,c1,c2,c3,c4,fz⟩:=lX (w:=D) p;obtain⟨ap,ar,rfl,bm,aq,-⟩:=rK q _ lZ;have cc:(Hs.oo J y).e_.length<=90000:=by rw[lG];exact Z
     have f1:=fz 1;have ⟨i0,hi,hz0,hz1,hz2⟩:=info_parts GJ;have A:D.drew.heap[z]?=_:=p;have ae:=O A;have T:=O (show D.drew.ownsRow _ _ _ _ _ _ from q);have ab:=O (V.vj (w':=D.drew) aJ);have af:=O (aa.trans G);clear p A q V G HC fz P u0 u1 u2 u3 q3 r0;generalize Hs.oo J y=s2 at*;go_wp2;go_region_law (refine step_append_lies _ r_ _ _ 52 r_ (z+1) 9 i0 _ 1 16 underlying52 hi hz0 hz1 hz2 rfl d_ (P_ ap (aA s2.e_) ar) (aA s2.e_) (kE s2.e_) r_ (T.alloc _) (aL (H_ D) 0) 1 1 [Q_ (bs y.x_)] r_ r_ (BL D.drew _) (GI _) d_ lg Z la (H_ D+1) s_ ?_;intro g5 bg w5 W B bh ci;have ai:=KV ae T B;obtain⟨bv,-,q1,-,-,-,ad⟩:=lX ai;have e1:=ad 1;clear ad ai);all_goals
      go_wp2;go_roundg j;case measure=>exact Z
      case rel=>have aj:=ab.add ae T W B;exact⟨k+1,Z,ll,af.trans ((dv _ D).drew.trans aj.1),by rw[an,HP];grind⟩
    obtain rfl:k=aA a.y_:=Z;rw[jj]at r;have aa:=O n;have al:=O r;clear n r;go_wp2;go_end0;exact⟨aJ,aa,by rw[HS];exact al⟩
