import Derived.Test.YthnhjhlinlhflaaGreatDoorP02
set_option linter.all false
set_option maxRecDepth 100000
set_option maxHeartbeats 0
open List renaming length->aA
open Option renaming some->Wj,none->Wk
open Bool renaming false->Wl,true->Wm
open Go renaming Calls->Wn,Value->Wo
namespace Go.Proofs.YthnhjhlinlhflaaGreatDoor
open Hs _root_.Go.Proofs.Tryz Go.RowKit
variable{l:Bool}{p:List aC}{A C:Nat}{b:Prop}{a:aC}{B:aL}{q r:aU}{s t:bF}{e:bI}
def I0(f:Nat):∀(l:bS) (p k:Nat),dS f l p=Wj k->k<=p+aA l:=by induction f with|zero=>intro l p k h;cases h|succ f a=>grind[dS,yM]
def Li(f:Nat):∀(a l:bS) (n:Nat),aA l<f->fC f a l=.error n->n≠0:=by induction f with|zero=>exact Z|succ f b=>grind[bD,uL,fC]
theorem F3{l:bS}(h:gS l=.error A):A≠0:=by exact Li _ _ _ _ G_ h
def At.new{a:Nat}{c:List bE}(d:B.ownsRow C 219 3 (.slice (Wj (aJ A 0)) (aA c) a) (aA c) (qN c))(b:qW c)(f:aA c<=3000):At ⟨B.heap.size,A,a,c⟩ (B.alloc (.cells #[.slice (Wj (aJ A 0)) (aA c) a,Y 0,Y 0] 216)) 0 0:=by rcases d.2 with ⟨h,_⟩|⟨q,j,i,h,o,k,m,p,r,n⟩;cases h;cases h;have l:=aH k;refine⟨aS _ _ i_ _,⟨i,iA _ _ l _ k,n⟩,?_,b.some_,f,m,b.last,b.l_⟩;grind
def lU(w:aL)(x:Except (Nat×Nat) aC)(e:Ending)(w':aL):Prop:=cB w w'/\match x with|.error (k,n)=>e=bP (.tuple #[.pointer Wk,.agg #[Y k,Y n]])|.ok a=>∃b,e=bP (.tuple #[aW b,.agg #[Y 0,Y 0]])/\vb (si w.heap.size w'.heap.size) w' (aW b) a
def XC(s:ByteArray)(w:aL)(c:2000<s.size)(a:s.size<=maxLen):Wn prog 57 #[Q_ s,.bool l] w (lU w (.error (1,0))):=by unfold maxLen at a;go_in;go_wp2;apply bodyPost_ret (v:=.tuple #[.pointer Wk,.agg #[Y 1,Y 0]]) (by simp[results,results57,go_sem]) rfl;grind[eo,dw,lU]
def ND(s:ByteArray)(w:aL)(j:s.size<=2000)(k:Nat)(c:dS s.size (dL s) 0=Wj k):Wn prog 57 #[Q_ s,.bool l] w (lU w (.error (2,bD ((dL s).take k)))):=by
 have a:s.size<=2000000000:=Z;have d:k<=s.size:=by have:=I0 _ _ _ _ c;simpa using this
 have e:=O (λw=>AJ s w a);rw[c]at e;clear c;go_in;go_wp;refine rB (e _) λg b=>?_;obtain rfl:=b.symm;rw[JV];go_wp2_with (go_at_call 97;refine rB (yF s _ k i_ _ a d) λi b=>?_;obtain rfl:=b.symm);apply bodyPost_ret (v:=.tuple #[.pointer Wk,.agg #[Y 2,Y (bD ((dL s).take k))]]) (by simp[results,results57,go_sem]) rfl;grind[eo,dw,lU]
def SP(s:ByteArray)(w:aL)(d:fH w)(m:s.size<=2000)(f:dS s.size (dL s) 0=Wk)(n:Nat)(i:gS (dL s)=.error n):Wn prog 57 #[Q_ s,.bool l] w (lU w (.error (3,n))):=by
 have b:s.size<=2000000000:=Z;have g:=O (λw=>AJ s w b);rw[f]at g;have q:(0:Int)<(n:Int):=by grind[F3]
 have j:=O (λo=>IY s (w.alloc o) (d.alloc o) m);rw[i]at j;clear f d i;go_in;go_wp;refine rB (g _) λt k=>?_;obtain rfl:=k.symm;rw[JV];go_wp21;apply (j _).mono;rintro e r ⟨a,p⟩;obtain rfl:e=bP (.tuple #[bR,Y n]):=p;have ⟨hc,hf⟩:=wk a;have u:H_ w<H_ r:=by have:=a.size;simp at this;exact Z
 have c:=O a;clear a;go_wp2;apply bodyPost_ret (v:=.tuple #[.pointer Wk,.agg #[Y 3,Y n]]) (by simp[results,results57,go_sem,hc]) rfl;exact⟨((((dw _ _).alloc (Z) _).trans (c.mono s_)).setCell s_ _).setCell s_ _,rfl⟩
def QG(x:bS)(w:aL):Wn prog 102 #[Q_ (bs x)] w λe a=>e=bP (.bool (gM x))/\a=w:=by have hx:=bA x;go_wp2;all_goals go_ret;exact⟨gP (by grind[gM]),rfl⟩
def jR(l:cU):List Wo:=l.map λx=>.string (bs x)
def UO(Y_:b:=by
 go_wp2_with fail;go_round;case rel=>exact⟨k+1,Z,lj,HF⟩
 grind[intOf]):b:=Y_
def X9(l:cU)(x:bS)(g b:Nat)(w:aL)(v:aA l<=100000)(_hlc:aA l<=b)(o:∀i (h:i<aA l),eJ w g i (Q_ (bs l[i]))):Wn prog 165 #[P_ (Wj (aJ g 0)) (aA l) b,Q_ (bs x)] w λe q=>e=bP (.bool (l.contains x))/\q=w:=by
 have A:=bA x;have s:=O o;clear o;go_in;go_wp2;go_loop [5] (λi=>∃k:Nat,k<=aA l/\i=Y k/\Hid (∀y∈l.take k,y≠x)) (λi=>aA l-(intOf i).toNat);case atStart=>exact⟨0,Z,rfl,λy j=>by simp at j⟩
 case round=>
  obtain⟨k,t,rfl,m⟩:=hrel;by_cases c:k<aA l
  .have f:=s.out k c;have a:l[k]∈l:=(by simp);have p:Hid (∀y∈l.take (k+1),y∈l.take k\/y=l[k]):=λy j=>by grind[List.take_succ_eq_append_getElem]
   have n:=O a;clear a;generalize l[k]=y at*;have j:=bA y;cases r:(y==x)
   .have d:Hid (∀z∈l.take (k+1),z≠x):=λz u=>by grind[dz]
    clear m p n;go_wp;go_round;case rel=>exact⟨k+1,Z,lj,d⟩
    grind[intOf]
   have d:Hid (l.contains x=Wm):=by grind
   clear m p n;go_wp2;go_ret;exact⟨gP mz,rfl⟩
  have d:Hid (l.contains x=Wl):=by grind[dz]
  clear m;go_wp2;go_ret;exact⟨gP mz,rfl⟩
def Y0(x:bS)(w:aL):Wn prog 165 #[bR,Q_ (bs x)] w λe a=>e=bP (.bool (([]:cU).contains x))/\a=w:=by
 go_in;go_wp2;go_loop [5] (λi=>i=Y 0) (λ_=>0);case atStart=>rfl
 case round=>go_wp2;go_ret;simp
def IA:(prog.info? 9).map (λi=>(i.zero,i.size,i.bytes))=Wj (Wj (Q_ (bs [])),1,16):=k_
def QW(l:cU)(x:bS)(v:aU)(b:Nat)(w:aL)(j:aA l<=100000)(a:w.ownsRow b 9 1 v (aA l) (jR l)):Wn prog 165 #[v,Q_ (bs x)] w λe d=>e=bP (.bool (l.contains x))/\d=w:=by
 rcases a.2 with ⟨rfl,o⟩|⟨g,c,h,rfl,n,k,f,q,r,p⟩;obtain rfl:l=[]:=(by grind);exact Y0 x w;refine X9 l x g c w j f λi m=>aB k ?_;have e:(jR l)[i]?=Wj (Q_ (bs l[i])):=by simp[jR,m]
 grind
abbrev bz:Bool->Nat->Nat|true,_=>0|false,c=>c+1
def Fl{n:Nat}{f:List Wo}(h:B.ownsRow (bz l A) 9 1 r n f)(e:l=Wm->∀C,r.ownBlock=Wj C->C≠A)(d:r.ownBlock=Wj C):C≠A:=by cases l;have:A+1<=C:=cA h C d;exact Z;exact e rfl C d
structure mT(cb lo:Nat)(fs:List aC)(fv:aU)(a_:Bool)(w:aL)(s:bF):Prop where
 n_:∃sv,w.heap[cb]?=Wj (.cells #[fv,sv,.bool a_,Y s.kind,Y s.l_] 122)/\w.ownsRow (bz a_ cb) 9 1 sv (aA s.e_) (jR s.e_)/\(a_=Wm->∀b,sv.ownBlock=Wj b->b≠cb)
 y_:ye (si lo cb) w fv fs
def lM{w:aL}{c a f:aU}(h:w.heap[A]?=Wj (bM #[r,q,c,a,f] 122)):A<H_ w/\eJ w A 0 r/\eJ w A 1 q/\eJ w A 2 c/\eJ w A 3 a/\eJ w A 4 f/\(∀i,w.frozen? (aJ A i)=Wl):=(by grind[aB,aE])
def mT.put{d:Nat}{a:Bool}{w:aL}(j:ye (si A d) w r p)(o:∀k,k≠d->B.heap[k]?=w.heap[k]?) (e:B.heap[d]?=Wj (bM #[r,q,.bool a,Y t.kind,Y t.l_] 122)) (c:w.ownsRow (bz a d) 9 1 q (aA s.e_) (jR s.e_)/\(a=Wm->∀b,q.ownBlock=Wj b->b≠d)) (n:t.e_=s.e_):mT d A p r a B t:=by refine⟨⟨q,e,?_,c.2⟩,(by grind[ye.j_,si])⟩;rw[n];exact aX c.1 λk j=>o k (Fl c.1 c.2 j)
def yG(d l:Nat)(j:List aC)(i:aU)(b:Bool)(w:aL)(s:bF)(l_ kind:Nat)(h:mT d l j i b w s):Wn prog 103 #[aW d,Y l_,Y kind] w λe g=>e=eV/\Below d w g/\mT d l j i b g (s.found l_ kind):=by
 have ⟨sv,hblk,hown⟩:=h.n_;have ⟨hlt,c0,c1,c2,c3,c4,fz⟩:=lM hblk;have q:=fz 3;have p:=fz 4;have n:=O hblk;have o:=O hown;have H:=O h;clear fz hblk hown h;by_cases f:s.kind=0
 .have m:((s.kind:Int)==0)=Wm:=G_;have a:s.found l_ kind={s with kind:=kind,l_:=l_}:=by grind[bF.found]
  have c:=O a;clear a f;go_in;go_wp2;go_end0;refine⟨i_,(by grind[Below.setCell,dw]),?_⟩;rw[c];refine mT.put H.y_ (λk f=>?_) ?_ o i_;grind[eh];rw[aN (aN n.out)];rfl
 have m:((s.kind:Int)==0)=Wl:=G_;have a:s.found l_ kind=s:=by grind[bF.found]
 have c:=O a;clear a f;go_in;go_wp2;go_end0;grind[dw,dz]
theorem eW.cells{d:Nat}{F:bI}{w:aL}{v:aU}(h:eW d F w v a):∃e b c,d=e+1/\v=aW b/\F b/\b<w.heap.size/\w.cell? (aJ b 0)=Wj (.string (bs a.op))/\w.cell? (aJ b 1)=Wj (Y a.l_)/\w.cell? (aJ b 2)=Wj (.string (bs a.x_))/\w.cell? (aJ b 3)=Wj c/\nQ (eW e F w) F w c a.y_:=by cases d with|zero=>exact h.elim|succ d=>have ⟨b,c,h1,h2,h3,h4⟩:=h;grind[aB]
theorem jW.get{R:Wo->aC->Prop}:∀{vs ks} (i:Nat) (b:i<aA ks),jW R vs ks->∃v,vs[i]?=Wj v/\R v ks[i]|v::vs,a::ks,0,_,h=>⟨v,rfl,h.1⟩|v::vs,a::ks,i+1,b,h=>by obtain⟨u,d,c⟩:=jW.get (vs:=vs) (ks:=ks) i G_ h.2;grind|[],_::_,_,_,h=>h.elim|_::_,[],_,b,_=>by simp at b|[],[],_,b,_=>by simp at b
theorem nQ.get{R:Wo->aC->Prop}{ks:List aC}(h:nQ R e B r ks):(r=bR/\ks=[])\/∃g a,r=.slice (Wj (aJ g 0)) (aA ks) a/\e g/\g<B.heap.size/\aA ks<=a/\∀i (c:i<aA ks),∃v,B.cell? (aJ g i)=Wj v/\R v ks[i]:=by grind[jW.get,aB,nQ]
theorem sN(s:bF)(l k:Nat):(s.found l k).e_=s.e_:=by grind[bF.found]
def eW.vh{w':aL}(h:eW A e B r a)(b:w'.heap=B.heap):eW A e w' r a:=(by grind[eW.j_])
def mT.vh{w':aL}(h:mT A C p r l B s)(f:w'.heap=B.heap):mT A C p r l w' s:=by have ⟨sv,h1,h2⟩:=h.n_;exact⟨⟨sv,by rw[f];exact h1,aX h2.1 G_,h2.2⟩,h.y_.j_ G_⟩
def CR(f g:Nat)(j:List aC)(k:aU)(c:Bool)(w:aL)(s:bF)(h:mT f g j k c w s)(A:aA s.e_<=100000)(v:aU)(a:aC)(d:Nat)(o:eW d (si g f) w v a):Wn prog 104 #[aW f,v] w λe m=>e=eV/\Below f w m/\mT f g j k c m (Hs.ru s a):=by
 obtain⟨E,b,F,rfl,rfl,D,p,C,G,I,B,-⟩:=o.cells;have ⟨sv,hblk,hown⟩:=h.n_;have ⟨hlt,c0,c1,c2,c3,c4,fz⟩:=lM hblk;have x:=O (QG a.x_ w);have q:=O (QW s.e_ a.x_ sv _ w.drew A hown.1);have u:=O (yG f g j k c w.drew s a.l_ 6 (h.vh i_));have n:Hid (Hs.ru s a=if gM a.x_||s.e_.contains a.x_ then s.found a.l_ 6 else s):=rfl;have H:=O h;clear fz hblk hown h o;generalize gM a.x_=r at*;generalize s.e_.contains a.x_=y at*;go_in;go_wp;refine rB x λl i=>?_;obtain rfl:=i.symm;go_wp2;go_region_law (go_simp;go_at_call 165;refine rB q λl i=>?_;obtain rfl:=i.symm);all_goals(cases r<;>cases y)
 all_goals first|(go_wp2;go_end0;exact⟨i_,(dw _ _).drew,by rw[n];exact H.vh i_⟩)|(go_wp;refine rB u λl ⟨t,z⟩=>?_;go_wp2;go_end0;exact⟨i_,(dw _ _).drew.trans t,by rw[n];exact z⟩)
def Dr(d:Nat)(F:bI)(w:aL)(o:Option aC)(v:aU):Prop:=match o with|none=>v=.pointer Wk|some f=>eW d F w v f
def zE(a:List aC)(x:bS)(g f:Nat)(F:bI)(w:aL)(E:aA a<=100000)(_hg:g<H_ w)(d:Nat)(p:∀i (I:i<aA a),∃v,eJ w g i v/\eW d F w v a[i]):Wn prog 58 #[P_ (Wj (aJ g 0)) (aA a) f,Q_ (bs x)] w λe s=>s=w/\∃v,e=bP v/\Dr d F w (dE a x) v:=by
 have t:=O p;clear p;have J:=bA x;go_in;go_wp2;go_loop [5] (λi=>∃k:Nat,k<=aA a/\i=Y k/\Hid (∀y∈a.take k,y.x_≠x)) (λi=>aA a-(intOf i).toNat);case atStart=>exact⟨0,Z,rfl,λy m=>by simp at m⟩
 case round=>
  obtain⟨k,A,rfl,n⟩:=hrel;by_cases c:k<aA a
  .have ⟨v,hcell,hrep⟩:=t k c;obtain⟨G,b,H,rfl,rfl,C,r,B,K,L,u,-⟩:=hrep.cells;have o:=O hrep;have q:Hid (∀y∈a.take (k+1),y∈a.take k\/y=a[k]):=λy m=>by grind[List.take_succ_eq_append_getElem]
   have l:Hid (a=a.take k++a[k]::a.drop (k+1)):=by grind[List.getElem_cons_drop,List.take_append_drop]
   clear hrep;generalize a[k]=y at*;have m:=bA y.x_;cases j:(y.x_==x);have HF:Hid (∀z∈a.take (k+1),z.x_≠x):=λz D=>by grind[dz]
   clear n q o l;exact UO;have HF:Hid (dE a x=Wj y):=by show _=_;rw[l];unfold dE;rw[List.find?_append,List.find?_eq_none.2 mz];simp[j]
   clear n q l;go_wp2;go_ret;exact⟨i_,_,i_,by rw[HF];exact o⟩
  have HF:Hid (dE a x=Wk):=by grind[dE,dz]
  clear n;go_wp2;go_ret;exact⟨i_,_,i_,by rw[HF];rfl⟩
def NN(x:bS)(d:Nat)(F:bI)(w:aL):Wn prog 58 #[bR,Q_ (bs x)] w λe a=>a=w/\∃v,e=bP v/\Dr d F w (dE [] x) v:=by
 go_in;go_wp2;go_loop [5] (λi=>i=Y 0) (λ_=>0);case atStart=>rfl
 case round=>go_wp2;go_ret;exact⟨i_,_,i_,i_⟩
def uT(a:List aC)(x:bS)(c:aU)(F:bI)(w:aL)(f:aA a<=100000)(d:Nat)(h:nQ (eW d F w) F w c a):Wn prog 58 #[c,Q_ (bs x)] w λe i=>i=w/\∃v,e=bP v/\Dr d F w (dE a x) v:=by rcases h.get with ⟨rfl,rfl⟩|⟨g,b,rfl,-,j,-,k⟩;exact NN x d F w;exact zE a x g b F w f j d k
def nQ.slice{R:Wo->aC->Prop}{F:bI}{w:aL}{d:aU}{b:List aC}(h:nQ R F w d b):∃x c,d=.slice x (aA b) c:=by rcases h.get with ⟨rfl,rfl⟩|⟨g,a,rfl,_⟩;exact⟨Wk,0,i_⟩;exact⟨_,a,i_⟩
def vB{W:Int}(h:gO p l a.x_=W)(d:W<0):fX p l s a=s.found a.l_ 6:=by unfold fX;rw[h,ec d]
def yP{W:Int}(h:gO p l a.x_=W)(e:¬W<0)(d:W≠(aA a.y_:Int)):fX p l s a=s.found a.l_ 7:=by unfold fX;rw[h,dy e,ec d]
def QR{W:Int}(h:gO p l a.x_=W)(e:¬W<0)(d:W=(aA a.y_:Int)):fX p l s a=s:=by unfold fX;rw[h,dy e,dy (by simpa using d)]
def F_(Y_:b:=by
 obtain⟨d2,b2,kv2,rfl,rfl,hF2,hbl2,m0,m1,m2,m3,hk2⟩:=hfp.cells;obtain⟨kx2,kc2,rfl⟩:=hk2.slice;clear hfp hk2;by_cases hneg:(aA f.y_:Int)-1<0;.have HS:=O (vB (s:=s) hW hneg);clear hW;go_wp2_with fail;refine rB (HF 6) λw1 ⟨hb,hc⟩=>?_;go_wp2;go_end0;exact⟨i_,(dw _ _).drew.trans hb,qx⟩
 by_cases heq:((aA f.y_:Int)-1:Int)=(aA a.y_:Int);.have HS:=O (QR (s:=s) hW od heq);clear hW;go_wp2;go_end0;exact⟨i_,(dw _ _).drew,by rw[HS];exact H.vh i_⟩
 have HS:=O (yP (s:=s) hW od heq);clear hW;go_wp2_with fail;refine rB (HF 7) λw1 ⟨hb,hc⟩=>?_;go_wp2;go_end0;exact⟨i_,(dw _ _).drew.trans hb,qx⟩):b:=Y_
def Gh(Y_:b:=by have HS:=O (QR (s:=s) hW od heq);clear hW;go_wp2;go_end0;exact⟨i_,(dw _ _).drew,by rw[HS];exact H.vh i_⟩):b:=Y_
def RB(Y_:b:=by go_wp2;go_end0;exact⟨i_,(dw _ _).drew.trans hb,qx⟩):b:=Y_
def Vx(l r:Nat)(i:List aC)(t:aU)(c:Bool)(w:aL)(s:bF)(h:mT l r i t c w s)(u:aA i<=100000)(p:∀f∈i,aA f.y_<=100000)(v:aU)(a:aC)(d:Nat)(A:eW d (si r l) w v a)(_hak:aA a.y_<=100000):Wn prog 166 #[aW l,v] w λe w'=>e=eV/\Below l w w'/\mT l r i t c w' (fX i c s a):=by
 obtain⟨K,b,M,rfl,rfl,J,B,I,P,Q,G,z⟩:=A.cells;obtain⟨F,N,rfl⟩:=z.slice;obtain⟨L,j,n⟩:=h.n_;have ⟨hlt,c0,c1,c2,c3,c4,fz⟩:=lM j;have ⟨df,hdf⟩:=(h.vh (w':=w.drew) rfl).y_.depth;have C:=O (uT i a.x_ t (si r l) w.drew u df hdf);have HF:=O (λk=>yG l r i t c w.drew s a.l_ k (h.vh i_));have H:=O h;have q:=O p;have D:(bs a.x_).toList=a.x_:=bA _;clear fz j n h A hdf z p;go_in;go_wp2;go_region_law (go_simp;go_at_call 58;apply C.mono;rintro e w1 ⟨E,y,rfl,hfp⟩;obtain rfl:=E.symm);all_goals
  cases m:(a.x_==[108,101,110])
  .cases o:(a.x_==[114,101,97,100]);.cases g:dE i a.x_ with
    |none=>
     rw[g]at hfp;obtain rfl:y=.pointer Wk:=hfp;have hW:gO i c a.x_=-1:=by unfold gO;simp[m,o,g]
     have HS:=O (vB (s:=s) hW d_);clear hW;go_wp;refine rB (HF 6) λw1 ⟨hb,hc⟩=>?_;exact RB|some f=>
     rw[g]at hfp;have x:=q f (jx g);have hW:gO i c a.x_=(aA f.y_:Int)-1:=by unfold gO;simp[m,o,g]
     exact F_
   cases c
   .have hW:gO i Wl a.x_=0:=by unfold gO;simp[m,o]
    by_cases heq:(0:Int)=(aA a.y_:Int);exact Gh;have HS:=O (yP (s:=s) hW od heq);clear hW;go_wp;refine rB (HF 7) λw1 ⟨hb,hc⟩=>?_;exact RB
   cases g:dE i a.x_ with|none=>
    rw[g]at hfp;obtain rfl:y=.pointer Wk:=hfp;have hW:gO i Wm a.x_=-1:=by unfold gO;simp[m,o,g]
    have HS:=O (vB (s:=s) hW d_);clear hW;go_wp;refine rB (HF 6) λw1 ⟨hb,hc⟩=>?_;exact RB|some f=>
    rw[g]at hfp;have x:=q f (jx g);have hW:gO i Wm a.x_=(aA f.y_:Int)-1:=by unfold gO;simp[m,o,g]
    exact F_
  have hW:gO i c a.x_=1:=by unfold gO;rw[m];rfl
  by_cases heq:(1:Int)=(aA a.y_:Int);exact Gh;have HS:=O (yP (s:=s) hW od heq);clear hW;go_wp;refine rB (HF 7) λw1 ⟨hb,hc⟩=>?_;go_wp2;go_end0;exact⟨i_,(dw _ _).drew.trans hb,qx⟩
def AR(b:List aC)(a:Bool)(s:bF)(n:aC):(cK b a s n).e_=s.e_:=by grind[cK,fX,sN]
theorem lL(s:bF)(n:aC):(Hs.ru s n).e_=s.e_:=by grind[Hs.ru,sN]
def tq(s s':bF)(m:Nat):Prop:=∃t,s'.e_=s.e_++t/\aA t<=m
def tq.refl(s:bF):tq s s 0:=⟨[],s_,s_⟩
def tq.trans{a b c:bF}{m n:Nat}(h:tq a b m)(k:tq b c n):tq a c (m+n):=by grind[tq]
def tq.le{m n:Nat}(h:tq s t m)(c:m<=n):tq s t n:=by grind[tq]
theorem tq.of_eq(h:t.e_=s.e_):tq s t 0:=⟨[],ra,s_⟩
theorem tq.fold{f:bF->aC->bF}{g:aC->Nat}(h:∀s k,tq s (f s k) (g k)):∀(l:List aC) (s:bF),tq s (l.foldl f s) (l.map g).sum|[],s=>tq.refl s|k::l,s=>by exact(h s k).trans (tq.fold h l _)
theorem gZ(b:List aC)(a:Bool):∀(d:Nat) (n:aC) (s:bF),tq s (aR b a d n s) (cT d n)
 |0,n,s=>tq.refl s|d+1,n,s=>by
  rw[aR,cT];split;match h:n.y_ with|t::v::r=>have h1:=tq.of_eq (lL s t);obtain⟨u,c,e⟩:=h1.trans (gZ b a d v (Hs.ru s t));grind[tq]|[]=>exact(tq.refl s).le Z|[_]=>exact(tq.refl s).le Z
  have h1:=tq.of_eq (AR b a s n);have c:=h1.trans (tq.fold (f:=λs k=>aR b a d k s) (g:=cT d) (λs k=>gZ b a d k s) n.y_ (cK b a s n));grind[tq]
def Z9:Nat->aC->Prop|0,_=>True|d+1,a=>a.op≠[118,97,114]/\∀k∈a.y_,Z9 d k
def LX(cb lo:Nat)(fs:List aC)(fv:aU)(a_:Bool)(d:Nat):Prop:=∀(v:aU) (a:aC) (s:bF) (w:aL),mT cb lo fs fv a_ w s->eW d (si lo cb) w v a->vH d a->(a_=Wm->Z9 d a)->aA s.e_+cT d a<=90000->Wn prog 105 #[aW cb,v] w λe w'=>e=eV/\Below cb w w'/\mT cb lo fs fv a_ w' (aR fs a_ d a s)
theorem AF{f:aC->Nat}{k:aC}:∀{l:List aC},k∈l->f k<=(l.map f).sum|[],h=>by cases h|x::l,h=>by simp [fi,fu];rcases fe.1 h with rfl|h;exact Z;have:=AF (f:=f) h;exact Z
def qP{l:cU}(h:B.ownsRow A 9 1 r (aA l) (jR l))(m:Nat)(q:m<=aA l):∃x c,r=P_ x (aA l) c/\aA l<=c/\c<=maxLen/\B.ownsRow A 9 1 (P_ x m c) m (jR (l.take m)):=by
 have j:aA (jR (l.take m))=m*1:=by simp[jR];exact Z
 rcases h.2 with ⟨rfl,o⟩|⟨g,b,d,rfl,f,k,i,e,n,p⟩;grind;refine⟨_,b,i_,i,e,j,dv ⟨g,b,d,i_,f,k,Z,e,n,?_⟩⟩;grind[jR,List.map_take]
def v7(o A:Nat)(l:List aC)(G:aU)(c:Bool)(ar:aA l<=90000)(S:∀f∈l,aA f.y_<=90000)(d:Nat)(IH:LX o A l G c d) (v:aU) (a:aC) (s:bF) (w:aL) (h:mT o A l G c w s) (ha:eW (d+1) (si A o) w v a) (ad:vH (d+1) a) (X:c=Wm->Z9 (d+1) a) (ag:aA s.e_+cT (d+1) a<=90000) (av:aA a.y_<=90000) (aw:(a.op==[118,97,114])=Wl):Wn prog 105 #[aW o,v] w λe w'=>e=eV/\Below o w w'/\mT o A l G c w' (aR l c (d+1) a s):=by
 obtain⟨d',b,kv,hd,rfl,hF,ac,n0,n1,n2,n3,B⟩:=ha.cells;obtain rfl:d=d':=Z;obtain⟨kx,kc,rfl⟩:=B.slice;obtain⟨sv,Q,C,-⟩:=h.n_;have ⟨x,c0,c1,c2,c3,c4,fz⟩:=lM Q;obtain⟨sx,sc,rfl,aq,aj,-⟩:=qP C _ kB;have am:(bs a.op).toList=a.op:=bA _;have H:=O h;have HA:=O ha;have HK:=O B;have HO:=O C;go_in;go_upto_block 0 with fail;go_cut [] (λwc=>Below o w wc/\mT o A l G c wc (cK l c s a));case first=>
  cases J:(a.op==[115,101,116]||a.op==[110,97,109,101])
  .have ⟨y,P⟩:=Bool.or_eq_false_iff.1 J;cases V:(a.op==[99,97,108,108])
   .have W:Hid (cK l c s a=s):=by unfold cK;rw[J,V];rfl
    go_wp;go_meet;grind[dw,cK]
   have W:Hid (cK l c s a=fX l c s a):=by unfold cK;rw[J,V];rfl
   have HC:=O (Vx o A l G c w s H Z (λf hf=>em (S f hf) Z) _ a _ HA Z);go_wp;refine rB HC λw1 ⟨hb,hc⟩=>?_;go_wp2_with fail;go_meet;grind[cK]
  have W:Hid (cK l c s a=if s.e_.contains a.x_ then s else s.found a.l_ 6):=by unfold cK;rw[J];rfl
  have HM:=O (QW s.e_ a.x_ _ _ w.drew Z HO);have HF:=O (yG o A l G c w.drew s a.l_ 6 (H.vh i_));generalize s.e_.contains a.x_=mb at*;have ah:((a.op==[115,101,116])=Wm/\(a.op==[110,97,109,101])=Wl)\/((a.op==[115,101,116])=Wl/\(a.op==[110,97,109,101])=Wm):=by
   cases y:(a.op==[115,101,116]);rw[y]at J;exact dv ⟨i_,by simpa using J⟩;refine ea ⟨i_,?_⟩;have:a.op=[115,101,116]:=by simpa using y
   rw[this];rfl
  rcases ah with ⟨y,P⟩|⟨y,P⟩;all_goals go_wp2;go_region_law (go_simp;go_at_call 165;refine rB HM λw1 hw=>?_;obtain rfl:=hw.symm)
  all_goals(cases mb)
  all_goals first|(go_wp;go_meet;case rel=>exact⟨(dw _ _).drew,by rw[W];exact H.vh i_⟩)|(go_wp;refine rB HF λw1 ⟨hb,hc⟩=>?_;go_wp2_with fail;go_meet;case rel=>exact⟨(dw _ _).drew.trans hb,by rw[W];exact hc⟩)
 case rest=>
  have ⟨hbc,hcc⟩:=hcut;have ap:=O hbc;have au:=O hcc;go_wp2;go_loopg [6] (aA a.y_) (λgk i wr=>∃k:Nat,k+gk=aA a.y_/\i=Y k/\Below o w wr/\mT o A l G c wr ((a.y_.take k).foldl (λs k=>aR l c d k s) (cK l c s a)));case atStart=>grind
  case round=>
   obtain⟨k,an,rfl,m,r⟩:=hrel;have hbb:=m.block b hF.2;have q0:=(iO hbb).trans n0;have q3:=(iO hbb).trans n3;have hblr:=ef ac m.size;by_cases x:k<aA a.y_
   .obtain⟨j,rfl⟩:∃j,gk=j+1:=⟨gk-1,Z⟩;rcases HK.get with ⟨_,h0⟩|⟨g,ax,ab,ae,aa,ai,N⟩;rw[h0]at x;simp at x;have ⟨u,hu,hru⟩:=N k x;cases ab;have hgb:=m.block g ae.2;have r0:=(iO hgb).trans hu;have hgr:=ef aa m.size;have F:(a.y_.take (k+1)).foldl (λs k=>aR l c d k s) (cK l c s a)=aR l c d a.y_[k] ((a.y_.take k).foldl (λs k=>aR l c d k s) (cK l c s a)):=by rw[gw x,List.foldl_append];rfl
    have ak:((a.y_.take k).map (cT d)).sum+cT d a.y_[k]<=(a.y_.map (cT d)).sum:=by
     have e:a.y_=a.y_.take k++a.y_[k]::a.y_.drop (k+1):=s_;have V:(a.y_.map (cT d)).sum=((a.y_.take k++a.y_[k]::a.y_.drop (k+1)).map (cT d)).sum:=by rw[<-e]
     rw[V,fo,jn,fi,fu];exact Z
    have n:=tq.fold (f:=λs k=>aR l c d k s) (g:=cT d) (λs k=>gZ l c d k s) (a.y_.take k) (cK l c s a);have L:((a.y_.take k).foldl (λs k=>aR l c d k s) (cK l c s a)).e_.length+cT d a.y_[k]<=90000:=by have ⟨t,h1,h2⟩:=n;rw[h1,AR];rw[cT]at ag;simp;exact Z
    have HC:=O (IH u a.y_[k] _ wr r (hru.j_ λk B=>m.block k B.2) (ad.2 _ (s_)) (λq=>(X q).2 _ s_) L);have ao:=O F;have I:=O m;go_wp;refine rB HC λw1 ⟨ay,az⟩=>?_;go_wp2;go_roundg j;case measure=>exact Z
    grind[Below.trans]
   obtain rfl:k=aA a.y_:=Z;rw[iy]at r;have ⟨sv1,hblk1,hown1,hne1⟩:=r.n_;have ⟨hlt1,c0,c1,c2,c3,c4,fz⟩:=lM hblk1;have n:=(tq.of_eq (AR l c s a)).trans (tq.fold (f:=λs k=>aR l c d k s) (g:=cT d) (λs k=>gZ l c d k s) a.y_ (cK l c s a));have T:aA s.e_<=(a.y_.foldl (λs k=>aR l c d k s) (cK l c s a)).e_.length:=by have ⟨t,h1,h2⟩:=n;rw[h1];simp
   have hS:aR l c (d+1) a s=if a.op==[98,108,111,99,107]then {a.y_.foldl (λs k=>aR l c d k s) (cK l c s a)with e_:=(a.y_.foldl (λs k=>aR l c d k s) (cK l c s a)).e_.take (aA s.e_)} else a.y_.foldl (λs k=>aR l c d k s) (cK l c s a):=by rw[aR,dy G_]
   have U:=O hS;have I:=O m;have K:=O r;obtain⟨D,M,rfl,al,E,z⟩:=qP hown1 _ T;have HCUT:=O z;have p:c=Wm->∀b,(P_ D (aA s.e_) M).ownBlock=Wj b->b≠o:=λq b e=>hne1 q b (by cases D<;>simpa [Value.ownBlock]using e);have af:=O hblk1;have f1:=fz 1;clear n hS m r hown1 z hblk1 fz S IH HK;generalize a.y_.foldl (λs k=>aR l c d k s) (cK l c s a)=s1 at*;cases eb:(a.op==[98,108,111,99,107]);.rw[eb]at U;go_wp2;go_end0;exact⟨i_,I,by rw[U];exact K⟩
   rw[eb]at U;unfold maxLen at E;go_wp2;go_end0;refine⟨i_,I.setCell s_ _,?_⟩;rw[U,ec trivial];refine⟨⟨P_ D (aA s.e_) M,?_,?_,p⟩,K.y_.j_ λk B=>eh _ _ _ _ (by have:=B.2;grind)⟩;rw[aN af];rfl;have el:aA (s1.e_.take (aA s.e_))=aA s.e_:=by rw[ia];exact Z
   rw[el];exact aX HCUT λk B=>eh _ _ _ _ (Fl HCUT p B)
def BW(w:aL)(x:bS):∀j u,([Q_ (bs x)]:List Wo)[j]?=Wj u->(dZ w #[Q_ (bs x)] 9).cell? ((⟨H_ w,0,Wk⟩:Addr).add j)=Wj u:=by exact IF
def GW(x:bS):∀u∈([Q_ (bs x)]:List Wo),u.oneCell'=Wm:=by intro u a;simp at a;subst a;rfl
def LI{j:aL}{o:Obj}{g f k d:aU}{m:List Wo}(l:B.heap[A]?=Wj (bM #[r,q,g,f,k] 122))(b:B.ownsRow (A+1) 9 1 d C m)(p:(B.alloc o).grownBy j d.ownBlock):j.heap[A]?=Wj (bM #[r,q,g,f,k] 122):=by have c:=aH l;rw[p.block A ku λe=>by have:=cA b A e.symm;exact Z];exact iA _ _ c _ l
def mT.add{t:List aC}{j:aL}{x:bS}{o:Obj}{g a:Nat}(h:mT A C t r Wl B s)(f:B.heap[A]?=Wj (bM #[r,q,.bool Wl,Y s.kind,Y s.l_] 122)) (d:B.ownsRow (A+1) 9 1 q (aA s.e_) (jR s.e_)) (c:j.ownsRow (A+1) 9 1 (P_ (Wj (aJ g 0)) (aA s.e_+1) a) (aA s.e_+1) (jR s.e_++[Q_ (bs x)])) (i:(B.alloc o).grownBy j q.ownBlock):Below A B (j.setCell (aJ A 1) (P_ (Wj (aJ g 0)) (aA s.e_+1) a))/\mT A C t r Wl (j.setCell (aJ A 1) (P_ (Wj (aJ g 0)) (aA s.e_+1) a)) {s with e_:=s.e_++[x]}:=by
 have v:=aH f;have p:=LI f d i;have m:Below A B j:=⟨i.os.trans i_,i.tape.trans i_,i.output.trans i_,em s_ i.size,λk n=>by rw[i.block k ku λe=>by have:=cA d k e.symm;exact Z];grind[ed]⟩;have l:Below A B (j.setCell (aJ A 1) (P_ (Wj (aJ g 0)) (aA s.e_+1) a)):=m.setCell s_ _;refine⟨l,⟨P_ (Wj (aJ g 0)) (aA s.e_+1) a,?_,?_,nofun⟩,h.y_.j_ λk n=>l.block k n.2⟩;rw[aN p];rfl;have z:aA (s.e_++[x])=aA s.e_+1:=s_;have y:jR (s.e_++[x])=jR s.e_++[Q_ (bs x)]:=by simp[jR]
 rw[z,y];exact aX c λk n=>eh _ _ _ _ (by have:=cA c k n;grind)
def Rh(n E:Nat)(m:List aC)(fv:aU)(d:Nat)(IH:LX n E m fv Wl d) (v:aU) (a:aC) (s:bF) (w:aL) (h:mT n E m fv Wl w s) (ha:eW (d+1) (si E n) w v a) (U:vH (d+1) a) (an:aA s.e_+cT (d+1) a<=90000) (I:a.op=[118,97,114]):Wn prog 105 #[aW n,v] w λe w'=>e=eV/\Below n w w'/\mT n E m fv Wl w' (aR m Wl (d+1) a s):=by
 obtain⟨d',b,kv,hd,rfl,hF,bg,n0,n1,n2,n3,J⟩:=ha.cells;obtain rfl:d=d':=Z;have h2:=U.1 I;have ⟨t,u,r,hkids⟩:∃t u r,a.y_=t::u::r:=by match hn:a.y_ with|[]=>grind|[_]=>grind|t::u::r=>simp
 have hS:aR m Wl (d+1) a s={aR m Wl d u (Hs.ru s t)with e_:=(aR m Wl d u (Hs.ru s t)).e_++[t.x_]}:=by grind[aR]
 have P:vH d u:=(by grind[vH]);have ao:(Hs.ru s t).e_.length+cT d u<=80000+9999:=by grind[lL,cT]
 have B:=gZ m Wl d u (Hs.ru s t);rcases J.get with ⟨_,h0⟩|⟨g,bm,rfl,X,bc,L,o⟩;rw[hkids]at h0;cases h0;have ⟨tv,ht,hrt⟩:=o 0 Z;have ⟨uv,hu,hru⟩:=o 1 Z;have K:∀h,a.y_[0]'h=t:=(by grind);have ac:∀h,a.y_[1]'h=u:=(by grind);rw[K]at hrt;rw[ac]at hru;have ⟨sv,hblk,hown,_⟩:=h.n_;have ⟨hlt,c0,c1,c2,c3,c4,fz⟩:=lM hblk;obtain⟨sx,sc,rfl,bb,ap,-⟩:=qP hown _ kB;have bd:aA s.e_<=90000:=Z;have az:(bs a.op).toList=[118,97,114]:=by rw[bA,I]
 have HD:=O (CR n E m fv Wl w s h Z tv t d hrt);have HW:=O (λq (hc:mT n E m fv Wl q (Hs.ru s t)) (hr:eW d (si E n) q uv u)=>IH uv u (Hs.ru s t) q hc hr P nofun Z);have HS:=O hS;have ai:=O hrt;have N:=O hru;have HADD:=O B;clear h ha J fz hown hS o hrt hru K ac IH B U P I;have bl:=L;have be:(0:Int)<(aA a.y_:Int):=Z;have bj:(1:Int)<(aA a.y_:Int):=Z;have ar:0<aA a.y_:=Z;clear hkids an;go_in;go_wp;refine rB HD λq ⟨p,ad⟩=>?_;have y:q.heap[b]?=w.heap[b]?:=p.block b hF.2;have A:q.heap[g]?=w.heap[g]?:=p.block g X.2;have m3:=(iO (i:=3) y).trans n3;have r1:=(iO (i:=1) A).trans hu;have aq:b<H_ q:=(by grind);have ax:g<H_ q:=(by grind);have HC:=O (HW q ad (N.j_ λk J=>p.block k J.2));have am:=O p;clear y A p ad HD HW N c0 c1 c2 c3 c4;go_wp2_with fail;refine rB HC λc ⟨S,G⟩=>?_;have f:=am.trans S;have V:c.heap[b]?=w.heap[b]?:=f.block b hF.2;have aa:c.heap[g]?=w.heap[g]?:=f.block g X.2;have p3:c.cell? (aJ b 3)=_:=(iO (i:=3) V).trans n3;have p0:c.cell? (aJ g 0)=_:=(iO (i:=0) aa).trans ht;have D:b<H_ c:=(by grind);have z:g<H_ c:=(by grind);obtain⟨dt,tb,bi,-,rfl,ba,ab,t0,t1,t2,t3,-⟩:=(ai.j_ (w':=c) λk J=>f.block k J.2).cells;have ⟨sv2,hblk2,hown2,_⟩:=G.n_;have ⟨hlt2,c0,c1,c2,c3,c4,fz⟩:=lM (w:=c) hblk2;obtain⟨af,ah,rfl,ay,ag,-⟩:=qP hown2 _ kB;have bh:(aR m Wl d u (Hs.ru s t)).e_.length<=90000:=by have ⟨x,h1,h2⟩:=HADD.out;grind
 have f1:=fz 1;generalize aR m Wl d u (Hs.ru s t)=s2 at*;have ⟨i0,hi,hz0,hz1,hz2⟩:=info_parts IA;have j:c.drew.heap[n]?=_:=hblk2;have Q:=O j;have F:=O (show c.drew.ownsRow _ _ _ _ _ _ from hown2);have ak:=O (G.vh (w':=c.drew) i_);have T:=O f;have ae:n<H_ c:=hlt2;have aj:b<H_ c:=D;have al:g<H_ c:=z;have aw:tb<H_ c:=ab;clear hlt2 D z ab;clear hblk2 j hown2 G f S HC hblk fz;go_wp2;go_region_law (refine step_append_lies _ r_ _ _ 51 r_ (n+1) 9 i0 _ 1 16 underlying51 hi hz0 hz1 hz2 rfl d_ (P_ af (aA s2.e_) ah) (aA s2.e_) (jR s2.e_) r_ (F.alloc _) (aJ (H_ c) 0) 1 1 [Q_ (bs t.x_)] r_ r_ (BW c.drew _) (GW _) d_ ky Z ku (H_ c+1) s_ ?_;intro g5 au w5 H l av bn;have W:=LI Q F l;obtain⟨bf,-,q1,-,-,-,M⟩:=lM W;have e1:=M 1;clear M W);all_goals go_wp2;apply bodyPost_ret (results_none i_ _ _ _) i_;have C:=ak.add Q F H l;exact⟨i_,T.trans ((dw _ c).drew.trans C.1),by rw[HS];exact C.2⟩
theorem qB(d:Nat):∀l:List aC,aA l<=(l.map (cT (d+1))).sum|[]=>by simp|x::l=>by have:=qB d l;grind[cT]
def eW.zu(h:eW (A+1) e B r a):aA a.y_<=cT (A+1) a:=by grind[eW.cells,cT,nQ.get,qB]
theorem VG(k p:Nat)(j:List aC)(o:aU)(b:Bool)(l:aA j<=90000)(m:∀f∈j,aA f.y_<=90000):∀d,LX k p j o b d:=by intro d;induction d with|zero=>grind[LX,eW]|succ d q=>intro v a s w h n g c i;by_cases e:a.op=[118,97,114];cases b;exact Rh k p j o d q v a s w h n g i e;exact ep e (c rfl).1;exact v7 k p j o b l m d q v a s w h n g c i (by have:=n.zu;exact Z) G_
def K9(a:List aC)(d:Nat)(s:bF)(k:aC):tq s (eO a d s k) (cT d k+1):=by grind[eO,lL,gZ,tq]
def VT(f:aC->Nat):∀l:List aC,(l.map λk=>f k+1).sum=(l.map f).sum+aA l|[]=>rfl|x::l=>by have:=VT f l;grind
def mT.bare(h:mT A C p r l B s):mT A C p r l (B.setCell (aJ A 1) (bR)) {s with e_:=[]}:=by have ⟨sv,hblk,_⟩:=h.n_;exact⟨⟨bR,by rw[aN hblk];rfl,World.ownsRow_nil _ _ _ _,λ_ _ e=>by cases e⟩,h.y_.j_ (by grind[eh,si])⟩
def Tp(z L:Nat)(l:List aC)(W:aU)(bx:aA l<=90000)(az:∀f∈l,aA f.y_<=90000)(d:Nat) (v:aU) (a:aC) (s:bF) (w:aL) (first:Bool) (h:mT z L l W Wl w s) (ha:eW (d+1) (si L z) w v a) (ag:vH (d+1) a) (bb:cT (d+1) a<=40000):Wn prog 59 #[aW z,v,.bool first] w λe w'=>e=eV/\Below z w w'/\mT z L l W Wl w' (gQ l d s a first):=by
 have cd:aA a.y_<=40000:=by have:=ha.zu;exact Z
 have IH:LX z L l W Wl d:=(by grind[VG]);obtain⟨d',b,kv,hd,rfl,hF,av,n0,n1,n2,n3,hk⟩:=ha.cells;obtain rfl:d=d':=Z;obtain⟨kx,kc,rfl⟩:=hk.slice;have C:z<H_ w:=by grind[mT.n_]
 have HG:=O (QG a.x_ w);have HF:=O (yG z L l W Wl w s a.l_ 6 h);have HS:Hid (gQ l d s a first=a.y_.foldl (eO l d) {(if gM a.x_||!first then s.found a.l_ 6 else s)with e_:=[]}):=rfl;have H:=O h;have HK:=O hk;have al:=O IH;have ax:=O ag;clear h ha hk IH ag az;generalize I:gM a.x_=gb at*;clear I;generalize ar:(if (gb||!first)=Wm then s.found a.l_ 6 else s)=s0 at*;go_in;go_upto_region 1 with (refine rB HG λw1 hw=>?_;obtain rfl:=hw.symm);go_cut [18] (λx wx=>x=.bool (gb||!first)/\wx=w);case first=>cases gb<;>cases first;all_goals go_wp;go_meet;simp
 case rest=>
  obtain⟨rfl,hw⟩:=hcut;obtain rfl:=hw.symm;generalize (gb||!first)=c at*;go_upto_if 18 with fail;go_cut [] (λwx=>Below z w wx/\mT z L l W Wl wx s0);case first=>
   cases c
   .go_wp;go_meet;grind[dw,dz]
   go_wp2_with (refine rB HF λD ⟨Q,br⟩=>?_);go_meet;grind
  case rest=>
   have ⟨Q,hcc⟩:=hcut;have bp:=O Q;have ca:=O (mT.bare hcc);obtain⟨cf,E,-⟩:=hcc.n_;obtain⟨bj,-,y1,-,-,-,fz⟩:=lM E;have bq:=fz 1;clear Q hcc H HG HF fz E ar;go_wp2;go_loopg [7,8] (aA a.y_) (λgk i y wr=>∃k:Nat,k+gk=aA a.y_/\i=Y k/\Below z w wr/\mT z L l W Wl wr ((a.y_.take k).foldl (eO l d) {s0 with e_:=[]}));case atStart=>grind[Below.setCell,dz]
   case round=>
    obtain⟨k,bm,rfl,n,r⟩:=hrel;have ab:wr.heap[b]?=w.heap[b]?:=n.block b hF.2;have q3:eJ wr b 3 (P_ kx (aA a.y_) kc):=(iO ab).trans n3;have bc:b<H_ wr:=ef av n.size;clear ab n0 n1 n2 n3;by_cases C:k<aA a.y_
    .obtain⟨j,rfl⟩:∃j,gk=j+1:=⟨gk-1,Z⟩;rcases HK.get with ⟨_,h0⟩|⟨g,ce,au,ay,an,bd,K⟩;rw[h0]at C;simp at C;obtain⟨u,hu,aj⟩:=K k C;cases au;have I:wr.heap[g]?=w.heap[g]?:=n.block g ay.2;have r0:eJ wr g k u:=(iO I).trans hu;have cg:=ef an n.size;have m:=aj.j_ (w':=wr) λk hk=>n.block k hk.2;obtain⟨o,ub,bv,rfl,rfl,aw,ba,u0,u1,u2,u3,-⟩:=m.cells;have F:(a.y_.take (k+1)).foldl (eO l (o+1)) {s0 with e_:=[]}=eO l (o+1) ((a.y_.take k).foldl (eO l (o+1)) {s0 with e_:=[]}) a.y_[k]:=by rw[gw C,List.foldl_append];rfl
     have af:((a.y_.take k).map (cT (o+1))).sum+cT (o+1) a.y_[k]<=(a.y_.map (cT (o+1))).sum:=by
      have e:a.y_=a.y_.take k++a.y_[k]::a.y_.drop (k+1):=s_;have e2:(a.y_.map (cT (o+1))).sum=((a.y_.take k++a.y_[k]::a.y_.drop (k+1)).map (cT (o+1))).sum:=by rw[<-e]
      rw[e2,fo,jn,fi,fu];exact Z
     have N:=tq.fold (f:=eO l (o+1)) (g:=λk=>cT (o+1) k+1) (λs k=>K9 l (o+1) s k) (a.y_.take k) {s0 with e_:=[]};have be:((a.y_.take k).foldl (eO l (o+1)) {s0 with e_:=[]}).e_.length+cT (o+1) a.y_[k]<=80000:=by have ⟨t,h1,h2⟩:=N;rw[h1];rw[VT,ia]at h2;rw[cT]at bb;simp;exact Z
     have am:=O F;have X:=O n;have S:=ax.2 _ (ga C);clear F af N K hu I aj n;generalize ((a.y_.take k).foldl (eO l (o+1)) {s0 with e_:=[]})=J at*;generalize a.y_[k]=y at*;have bo:(bs y.op).toList=y.op:=bA _;have HP:Hid (eO l (o+1) J y=if y.op==[112,97,114,97,109]then {Hs.ru J y with e_:=(Hs.ru J y).e_++[y.x_]} else aR l Wl (o+1) y J):=rfl;cases M:(y.op==[112,97,114,97,109])
     .rw[M]at HP;have HC:=O (al _ y J wr r m S nofun Z);clear r m S;go_wp;refine rB HC λw1 ⟨ch,bw⟩=>?_;go_wp2;go_roundg j;case measure=>exact Z
      grind[Below.trans,dz]
     rw[M]at HP;have HC:=O (CR z L l W Wl wr J r Z _ y _ m);have bt:=O m;clear r m S;go_wp;refine rB HC λD ⟨G,U⟩=>?_;have P:D.heap[ub]?=wr.heap[ub]?:=G.block ub aw.2;have x2:D.cell? (aJ ub 2)=_:=(iO (i:=2) P).trans u2;have bh:ub<H_ D:=ef ba G.size;obtain⟨bn,p,q,-⟩:=U.n_;obtain⟨bi,c0,c1,c2,c3,c4,fz⟩:=lM (w:=D) p;obtain⟨ao,aq,rfl,bl,ap,-⟩:=qP q _ kB;have cc:(Hs.ru J y).e_.length<=90000:=by rw[lL];exact Z
     have f1:=fz 1;have ⟨i0,hi,hz0,hz1,hz2⟩:=info_parts IA;have A:D.drew.heap[z]?=_:=p;have ad:=O A;have T:=O (show D.drew.ownsRow _ _ _ _ _ _ from q);have aa:=O (U.vh (w':=D.drew) i_);have ae:=O (X.trans G);clear p A q U G HC fz P u0 u1 u2 u3 q3 r0;generalize Hs.ru J y=s2 at*;go_wp2;go_region_law (refine step_append_lies _ r_ _ _ 51 r_ (z+1) 9 i0 _ 1 16 underlying51 hi hz0 hz1 hz2 rfl d_ (P_ ao (aA s2.e_) aq) (aA s2.e_) (jR s2.e_) r_ (T.alloc _) (aJ (H_ D) 0) 1 1 [Q_ (bs y.x_)] r_ r_ (BW D.drew _) (GW _) d_ ky Z ku (H_ D+1) s_ ?_;intro g5 bf w5 V B bg ci;have ah:=LI ad T B;obtain⟨bu,-,q1,-,-,-,ac⟩:=lM ah;have e1:=ac 1;clear ac ah);all_goals
      go_wp2;go_roundg j;case measure=>exact Z
      case rel=>have ai:=aa.add ad T V B;exact⟨k+1,Z,lj,ae.trans ((dw _ D).drew.trans ai.1),by rw[am,HP];grind⟩
    obtain rfl:k=aA a.y_:=Z;rw[iy]at r;have X:=O n;have ak:=O r;clear n r;go_wp2;go_end0;exact⟨i_,X,by rw[HS];exact ak⟩
