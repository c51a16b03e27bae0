import Derived.Test.YtjhbbdpfkccohaaGreatDoorP03
set_option linter.all false
set_option maxRecDepth 100000
set_option maxHeartbeats 4000000
open List renaming length->Ty
open Option renaming some->Ua,none->Ub
open Bool renaming false->Uc,true->Ud
open Go renaming Calls->Ue
namespace Go.Proofs.YtjhbbdpfkccohaaGreatDoor
open Hs
open _root_.Go.Proofs.Tryz
open Go.RowKit
variable{C:Bool}{E:List aC}{D G:Nat}{b:Prop}{a:aC}{B F:aN}{q r:aW}{s:bJ}{e:bN}{x:bP}
attribute [local go_sem ↓] Go.wp_at_zero Go.wp_at_succ
def WX{C:Ctx}{B:Nat->bS aC}{f:bS (List aC)}{r:bS aC}{c:Except Nat Nat}(h:f=fL c λq=>.ok (E,q))(g:r=bL (aQ C.ts [41] f) λl q=>bT (λb=>aV [102,117,110,99] D x (l++[b])) (B q)):
 r=fL (nL (fL (fS C c [41]) B)) λq=>.ok (aV [102,117,110,99] D x (E++iV (fL (fS C c [41]) B)),q):=by
 subst g h;cases c with
 |error l=>rfl
 |ok q=>
  show bL (aQ C.ts [41] (.ok (E,q))) _=_
  cases h:bZ C.ts q [41]
  .grind [aQ,Hs.bad,bL,fL,nL,fS]
  rw[mW h,show fL (.ok (q+1)) B=B (q+1)from rfl]
  simp [aQ,h,bL];cases B (q+1)<;>rfl
def Hk{C:Ctx}{b:bS aC}(c:b=fL (nM C (.ok G)) λp=>.ok (aV [112,97,114,97,109] (oS C (.ok G)) (nF C (.ok G)) [],p)):eB C.ts (D+1) G E=fL (uL C (nL b) [44]) λp=>if sG C (nL b) [44]then eB C.ts D p (E++iV b)else .ok (E++iV b,p):=by grind [eB,fL,nL,sG,iV,Hs.bad,uL,nM,nF,oS]
def Nb(C:Ctx)(B:Nat->bS aC)(Y:Hid (Reads C 217 B))(w:aN)(S:Except Nat Nat)(h:lK C w S)(z:bS (List aC))(r:bS aC)
 (u:Hid (z=fL (fS C (nM C (fS C S [102,117,110,99])) [40]) λq=>if bZ C.ts q [41]then .ok ([],q)else eB C.ts (Ty C.ts+1) q [])) (N:Hid (r=bL (aQ C.ts [41] z) λl q=>bT (λb=>aV [102,117,110,99] (oS C (fS C S [102,117,110,99])) (nF C (fS C S [102,117,110,99])) (l++[b])) (B q))) (M:Hid (r≠.error 0)):
 Ue prog 164 #[bF C.pb] w (eN C w r):=by
 obtain⟨K,Q,aa⟩:=h.facts;have W:=aB (zO C w S ⟨#[102,117,110,99]⟩ h);clear h;go_in
 go_wp2_with fail;apply W.mono
 rw[show fS C S (⟨#[102,117,110,99]⟩:ByteArray).data.toList=fS C S [102,117,110,99]from rfl]
 generalize fS C S [102,117,110,99]=A at*;rintro e w1 ⟨rfl,s,p⟩;have HM:=aB ((Ed C w1 A s).mono λ_ _ ⟨h1,h2,h3⟩=>(⟨h1,Nd.new (p.trans h3) h2 [102,117,110,99] (nF C A) (oS C A) (λ_ _=>aJ) K Q⟩:_/\_))
 clear s p W;generalize nM C A=O at*;generalize nF C A=te at*;generalize oS C A=li at*;go_wp2_with fail;refine mh HM λw2 a=>?_
 go_wp2_with fail;refine mh (pI a ⟨#[40]⟩) λw3 a=>?_
 rw[show fS C O (⟨#[40]⟩:ByteArray).data.toList=fS C O [40]from rfl]at a
 generalize fS C O [40]=G at*;go_wp2_with fail;refine mh (yk a ⟨#[41]⟩) λT a=>?_
 cases P:sG C G [41]
 .have H1:Hid (z=fL G λq=>if Ud then eB C.ts (Ty C.ts+1) q []else .ok ([],q)):=by
   rw[u.out];cases G with
   |error l=>rfl
   |ok q=>show (if bZ C.ts q [41]then _ else _)=_;grind [fL,sG]
  clear P u;go_wp2
  go_loopg [6] (Ty C.ts+1) (λk D wr=>∃i v m b,D=.bool b/\m+k<=3500/\z=(fL v λq=>if b then eB C.ts k q i else .ok (i,q))/\Nd C w (H_ w2) [102,117,110,99] te li m i v wr)
  case atStart=>grind [d7]
  case round=>
   obtain⟨i,v,m,b,rfl,hm,d,f⟩:=hrel;have o:=aB d;have a:=aB f;clear d f H1
   have J:(b=Ud/\∃q,v=.ok q)\/Hid (z=fL v λq=>.ok (i,q))/\(b=Uc\/b=Ud/\C.pb<H_ wr/\∃L:Int,(L==0)=Uc/\dP wr C.pb 2 (I_ L)):=by
    cases b
    .exact .inr ⟨o,.inl aJ⟩
    cases v with
    |ok q=>simp
    |error l=>obtain⟨x,n,c,f⟩:=a.out;exact .inr ⟨o,.inr ⟨aJ,lK.bad f.at_⟩⟩
   rcases J with ⟨rfl,q,rfl⟩|⟨y,rfl|⟨rfl,I,L,ab,F⟩⟩
   .have d:=o.out;cases gk with
    |zero=>exact eu (show r=.error 0 by rw[N,d];rfl) M
    |succ k=>
     have H1:=aB (d.trans (Hk (C:=C) aJ));obtain⟨x,n,c,f⟩:=a.out;obtain⟨I,F⟩:=At.wb f.at_;clear d o f;go_wp2_with fail;refine mh (J1 a) λv2 a=>?_
     obtain⟨x,n,c,f⟩:=a.out;obtain⟨z0,Z,X⟩:=f.cells;have H:=aB f;have j:=aB (f.leaf [112,97,114,97,109] (nF C (.ok q)) (oS C (.ok q)));clear f a I F;go_wp2_with (at_builtin;refine Ef H j λw5 g k5 E a y0 V y2=>?_)
     go_wp2_with fail;refine mh (X4 a ⟨#[44]⟩) λU a=>?_
     go_wp2
     go_roundg k
     case measure=>exact aD
     grind [d7]
   all_goals
    have y:=aB (WX y N);have t:Hid (fL (fS C v [41]) B≠.error 0):=λe=>M (by rw[y,e];rfl)
    go_wp2_with fail;refine mh (pI a ⟨#[41]⟩) λU a=>?_
    obtain⟨x,n,c,H,z0,Z,X⟩:=a.pre;go_wp2
    go_region_law (first|refine DL H j λw5 g k5 E a y0 V y2=>?_|(go_simp;go_at_call 217;refine FT H Y t λT b4 j u0 u1 u2=>?_))
    all_goals
     go_wp2
     go_ret;exact a.post y
 obtain⟨q,rfl⟩:∃q,G=.ok q:=by cases G with|ok q=>simp|error l=>cases P
 have J:z=fL (.ok q) λq=>.ok ([],q):=by grind [d7,fL,sG]
 have y:=aB (WX J N);have t:Hid (fL (fS C (.ok q) [41]) B≠.error 0):=λe=>M (by rw[y,e];rfl)
 clear J P u;go_wp2_with fail;refine mh (pI a ⟨#[41]⟩) λU a=>?_
 obtain⟨x,n,c,H,z0,Z,X⟩:=a.pre;go_wp2
 go_region_law (first|refine DL H j λw5 g k5 E a y0 V y2=>?_|(go_simp;go_at_call 217;refine FT H Y t λT b4 j u0 u1 u2=>?_))
 all_goals
  go_wp2
  go_ret;exact a.post y
attribute [local go_sem ↓] Go.wp_at_zero Go.wp_at_succ
def N6(C:Ctx)(B:Nat->bS aC)(c:Reads C 217 B):Reads C 164 (lW B C.ts):=by
 intro w S h d;refine Nb C B c w S h _ _ aJ ?_ d;cases S with
 |error l=>rfl
 |ok p=>
  show lW B C.ts p=_
  unfold lW;cases b:bZ C.ts p [102,117,110,99]
  .rw[vU b,ea s_];rfl
  rw[mW b,ef rfl];by_cases a:(aS C.ts (p+1)).c_=110
  .grind [bL,kV,Hs.bad,aQ,fL,fS,nM,oS,nF]
  rw[(JI a).1,ea G_];rfl
def Fu(a:Int)(b:ByteArray)(c:Int)(w:aN):(Instr.field 218 (.agg #[.int .u8 a,Q_ b,I_ c]) 0).run prog w=.ok (.int .u8 a) w:=k_
def Nn(C:Ctx)(X:Nat->bS aC)(L:Hid (Reads C 164 X))(w:aN)(p:Nat)(h:At C w p 0)(r:bS (List aC))(U:Hid (r=fK X C.ts (Ty C.ts+1) p []))(v:Hid (r≠.error 0)):
 Ue prog 101 #[bF C.pb] w (eN C w (bT (aV [112,114,111,103,114,97,109] 0 []) r)):=by
 obtain⟨u,z,D⟩:=lK.facts (S:=.ok p) h;have E:=aB (Nd.new (S:=.ok p) (Fr.refl C.pb w) h [112,114,111,103,114,97,109] [] 0 (λ_ _=>aJ) u z)
 have I:=Fu;clear h;go_in
 go_wp2
 go_loopg [] (Ty C.ts+1) (λk wr=>∃d t m,m+k<=4000/\r=fL t (λq=>fK X C.ts k q d)/\Nd C w (H_ w) [112,114,111,103,114,97,109] [] 0 m d t wr)
 case atStart=>grind [d7,fL,bs]
 case round=>
  obtain⟨d,t,m,hm,a,x,n,c,f⟩:=hrel;have H:=aB f;clear E;cases t with
  |error l=>
   have i:=aB a;obtain⟨A,N,F,s⟩:=lK.bad f.at_;clear f a;go_wp2
   go_ret;exact Nd.post ⟨x,n,c,H⟩ (by rw[i];rfl)
  |ok q=>
   cases gk with
   |zero=>exact eu a v
   |succ k=>
    rw[show (fL (.ok q) λq=>fK X C.ts (k+1) q d)=fK X C.ts (k+1) q d from rfl,fK]at a
    obtain⟨A,s⟩:=At.wb f.at_;have o:=aB (lU C wr q 0 f.at_);by_cases j:(aS C.ts q).c_=101
    .rw[ef G_]at a
     have i:=aB a;have K:(((aS C.ts q).c_:Int) != 101)=Uc:=G_
     clear a f j;go_wp2_with fail;apply o.mono
     rw[zM];rintro e G ⟨rfl,b⟩;go_wp2
     go_ret;exact Nd.post ⟨x,n,c,H.go (Fr.below b) (H.at_.below b) λq e=>⟨q,e⟩⟩ (by rw[i];rfl)
    rw[ea G_]at a
    have i:=aB a;have K:(((aS C.ts q).c_:Int) != 101)=Ud:=G_
    have B:Hid (fL (.ok q) X≠.error 0):=λe=>(by grind [d7,fL])
    clear a f j;go_wp2_with fail;apply o.mono
    rw[zM];rintro e G ⟨rfl,b⟩;have f:=H.go (Fr.below b) (H.at_.below b) λq e=>⟨q,e⟩
    obtain⟨Y,Q,P⟩:=f.cells;have H:=aB f.drew;clear b o s f;go_wp2
    go_region_law (first|refine DL H y λw5 g T J E Z O V=>?_|(go_simp;go_at_call 164;refine FT H L B λM W y u0 u1 u2=>?_))
    all_goals
     go_wp2
     go_roundg k
     case measure=>exact aD
     grind [d7,fL,nL,iV]
def F1(C:Ctx)(w:aN)(h:At C w 0 0)(a:lC C.ts≠.error 0):
 Ue prog 101 #[bF C.pb] w (eN C w (bT (aV [112,114,111,103,114,97,109] 0 []) (lC C.ts))):=
 Nn C _ (N6 C _ (SD C _ (N9 C _) _)) w 0 h _ rfl a
def C5(f:Nat):∀(l:bP) (p k:Nat),dU f l p=Ua k->k<=p+Ty l:=by
 induction f with
 |zero=>intro l p k h;cases h
 |succ f a=>
  grind [dU,xZ]
def l6(f:Nat):∀(a l:bP) (n:Nat),Ty l<f->fH f a l=.error n->n≠0:=by
 induction f with
 |zero=>exact aD
 |succ f b=>
  grind [bD,tY,fH]
theorem A5(h:gS x=.error D):D≠0:=by exact l6 _ _ _ _ G_ h
def At.new{a:Nat}{c:List bH}(d:B.ownsRow G 218 3 (.slice (Ua (aL D 0)) (Ty c) a) (Ty c) (qI c))(b:qO c)(f:Ty c<=3000):
 At ⟨B.heap.size,D,a,c⟩ (B.alloc (.cells #[.slice (Ua (aL D 0)) (Ty c) a,I_ 0,I_ 0] 215)) 0 0:=by
 rcases d.2 with ⟨h,_⟩|⟨q,j,i,h,o,k,m,p,r,n⟩
 .cases h
 cases h;have l:=aH k;refine⟨aZ _ _ aJ _,⟨i,kX _ _ l _ k,n⟩,?_,b.some_,f,m,b.last,b.l_⟩;grind
def mP(w:aN)(x:Except (Nat × Nat) (List aC))(e:Ending)(w':aN):Prop:=
 R_ w w'/\
 match x with
 |.error (k,n)=>e=bY (.tuple #[.pointer Ub,.agg #[I_ k,I_ n]])
 |.ok ks=>∃b,e=bY (.tuple #[bF b,.agg #[I_ 0,I_ 0]])/\tu (rn w.heap.size w'.heap.size) w' (bF b) (aV [112,114,111,103,114,97,109] 0 [] ks)
def VI(s:ByteArray)(w:aN)(b:2000<s.size)(a:s.size<=maxLen):
 Ue prog 57 #[Q_ s,.bool Uc] w (mP w (.error (1,0))):=by
 unfold maxLen at a;go_in
 go_wp2
 refine bodyPost_ret (v:=.tuple #[.pointer Ub,.agg #[I_ 1,I_ 0]]) (by simp[results,results57,go_sem]) rfl ?_
 grind [ep,dz,mP]
def LS(s:ByteArray)(w:aN)(i:s.size<=2000)(k:Nat)(c:dU s.size (dY s) 0=Ua k):
 Ue prog 57 #[Q_ s,.bool Uc] w (mP w (.error (2,bD ((dY s).take k)))):=by
 have a:s.size<=2000000000:=aD;have d:k<=s.size:=by have:=C5 _ _ _ _ c;simpa using this
 have e:=aB (λw=>zT s w a)
 rw[c]at e;clear c;go_in
 go_wp2_with fail;refine rf (e _) λf b=>?_
 obtain rfl:=b.symm;rw[IW];go_wp2_with (go_at_call 97;refine rf (xV s _ k aJ _ a d) λg b=>?_;obtain rfl:=b.symm)
 refine bodyPost_ret (v:=.tuple #[.pointer Ub,.agg #[I_ 2,I_ (bD ((dY s).take k))]]) (by simp[results,results57,go_sem]) rfl ?_
 grind [ep,dz,mP]
def QN(s:ByteArray)(w:aN)(d:fN w)(l:s.size<=2000)(f:dU s.size (dY s) 0=Ub)(n:Nat)(i:gS (dY s)=.error n):
 Ue prog 57 #[Q_ s,.bool Uc] w (mP w (.error (3,n))):=by
 have b:s.size<=2000000000:=aD;have g:=aB (λw=>zT s w b)
 rw[f]at g;have p:(0:Int)<(n:Int):=by grind [A5]
 have j:=aB (λo=>IA s (w.alloc o) (d.alloc o) l)
 rw[i]at j;clear f d i;go_in
 go_wp2_with fail;refine rf (g _) λt k=>?_
 obtain rfl:=k.symm;rw[IW];go_wp2_with fail;apply (j _).mono
 rintro e q ⟨a,m⟩;obtain rfl:e=bY (.tuple #[bO,I_ n]):=m;obtain⟨r,x⟩:=ve a;have u:H_ w<H_ q:=by have:=a.size;simp at this;exact aD
 have c:=aB a;clear a;go_wp2
 refine bodyPost_ret (v:=.tuple #[.pointer Ub,.agg #[I_ 3,I_ n]]) (by simp[results,results57,go_sem,r]) rfl ?_
 exact⟨((((dz _ _).alloc (aD) _).trans (c.mono s_)).setCell s_ _).setCell s_ _,rfl⟩
def Below.Bw{b:aN}(h:R_ B F)(a:Fr D F b)(d:H_ B<=D):R_ B b:=
 h.trans ⟨a.os,a.tape,a.output,a.size,(by grind [Fr.block,Nat.lt_of_lt_of_le,Below.size])⟩
def A0{c:List bH}(h:B.ownsRow D 218 3 r (Ty c) (qI c))(e:0<Ty c):∃g a,r=P_ (Ua (aL g 0)) (Ty c) a:=by
 rcases h.2 with ⟨_,f⟩|⟨g,a,d,rfl,_⟩
 .exact aD
 simp
def VJ(s:ByteArray)(w:aN)(N:fN w)(Z:s.size<=2000)(z:dU s.size (dY s) 0=Ub)(t:List bH)(K:gS (dY s)=.ok t)(x:Except (Nat × Nat) (List aC))
 (u:Hid (x=match lC t with|.error n=>.error (4,n)|.ok (B,_)=>.ok B)):
 Ue prog 57 #[Q_ s,.bool Uc] w (mP w x):=by
 have G:s.size<=2000000000:=aD;have I:=aB (λw=>zT s w G)
 rw[z]at I;have L:=aB (λo=>IA s (w.alloc o) (N.alloc o) Z)
 rw[K]at L;obtain⟨i,P⟩:=sZ K
 have H:Ty t<=3000:=by have:Ty (dY s)=s.size:=s_
                       exact aD
 have HALL:=aB i;have j:=i.some_;clear z N K i;go_in
 go_wp2_with fail;refine rf (I _) λw1 X=>?_
 obtain rfl:=X.symm;rw[IW];go_wp2_with fail;apply (L _).mono
 rintro e y ⟨r,he⟩;obtain⟨v,rfl,c⟩:∃v,e=bY (.tuple #[v,I_ 0])/\y.ownsRow _ 218 3 v (Ty t) (qI t):=he;obtain⟨g,F,rfl⟩:=A0 c j;have W:H_ w<H_ y:=by have:=r.size;simp at this;exact aD
 have J:=aB r;have C:=aB (At.new c HALL H);clear r c;go_wp2_with fail;apply (F1 ⟨H_ y,g,F,t⟩ _ C (HALL.ok.prog j)).mono
 rintro e d ⟨l,a,D,rfl,f⟩;have m:R_ w d:=Below.Bw ((((dz _ _).alloc (aD) _).trans (J.mono s_)).alloc aD _) l G_
 have b:d.heap[H_ w]?=Ua (cD #[I_ 0,I_ 0] 43):=by
  rw[l.block (H_ w) kj G_]
  refine kX _ _ W _ ?_;grind [eg,d7,aZ]
 have O:=aA (i:=0) b aJ;have M:=aA (i:=1) b aJ;have V:d.frozen? (aL (H_ w) 0)=Uc:=aF b;have aa:d.frozen? (aL (H_ w) 1)=Uc:=aF b;clear b;have HBEL:=aB m;have HREP:=aB f;clear m f I L;cases A:lC t with
 |error n=>
  rw[A]at u a;obtain⟨h0,q,E⟩:=a;have ab:(0:Int)<(n:Int):=aD;have Y:H_ y<H_ d:=aH E.i_;have p:dP d (H_ y) 2 (I_ n):=aA E.i_ aJ;have Q:Hid (x=.error (4,n)):=u.out;clear u E HREP A;go_wp2
  go_region
  go_wp2
  refine bodyPost_ret (v:=.tuple #[.pointer Ub,.agg #[I_ 4,I_ n]]) (by simp[results,results57,go_sem,O,M]) rfl ?_
  grind [Below.drew,Below.setCell,d7,mP]
 |ok kq=>
  obtain⟨B,q⟩:=kq;rw[A]at u a;obtain⟨Y,p⟩:=At.wb a;have S:dP d (H_ y) 2 (I_ 0):=p;have Q:Hid (x=.ok B):=u.out;have HK:Hid (tu (rn (H_ w+1) (H_ d)) d (bF D) (aV [112,114,111,103,114,97,109] 0 [] B)):=(HREP _ q (by rw[A];rfl)).mono λk z=>⟨by have:=z.1;simp at this;exact aD,z.2⟩
  clear p u a HREP A;go_wp2
  refine bodyPost_ret (v:=.tuple #[bF D,.agg #[I_ 0,I_ 0]]) (by simp[results,results57,go_sem,O,M]) rfl ?_
  refine⟨(by grind [Below.setCell,d7]),?_⟩
  rw[Q];refine⟨D,aJ,HK.grow (λk U T=>?_) aD s_⟩
  grind [em]
def JB(s:ByteArray)(w:aN)(c:fN w)(e:s.size<=maxLen):
 Ue prog 57 #[Q_ s,.bool Uc] w (mP w (eA (dY s))):=by
 unfold eA;have g:Ty (dY s)=s.size:=s_
 rw[g];by_cases b:2000<s.size
 .rw[ef b];exact VI s w b e
 rw[ea b];cases a:dU s.size (dY s) 0 with
 |some k=>exact LS s w aD k a
 |none=>
  cases d:gS (dY s)with
  |error n=>exact QN s w c aD a n d
  |ok f=>exact VJ s w c aD a f d _ rfl
def OJ(x:bP)(w:aN):
 Ue prog 102 #[Q_ (bs x)] w λe a=>e=bY (.bool (gL x))/\a=w:=by
 have hx :=aX x;go_wp2
 all_goals
  go_ret;exact⟨gO (by grind [gL]),rfl⟩
def kE(l:cY):List Value:=l.map λx=>.string (bs x)
def SS(Y_:b:=by
 go_wp2_with fail;go_round
 case rel=>exact⟨k+1,aD,la,HF⟩
 grind [intOf]):b:=Y_
def S4(l:cY)(x:bP)(g b:Nat)(w:aN)(v:Ty l<=100000)(_hlc:Ty l<=b)(o:∀i (h:i<Ty l),dP w g i (Q_ (bs l[i]))):
 Ue prog 165 #[P_ (Ua (aL g 0)) (Ty l) b,Q_ (bs x)] w λe q=>e=bY (.bool (l.contains x))/\q=w:=by
 have A:(bs x).toList=x:=aX x;have s:=aB o;clear o;go_in
 go_wp2
 go_loop [5] (λi=>∃k:Nat,k<=Ty l/\i=I_ k/\Hid (∀y∈l.take k,y≠x)) (λi=>Ty l-(intOf i).toNat)
 case atStart=>exact⟨0,aD,rfl,λy j=>by simp at j⟩
 case round=>
  obtain⟨k,t,rfl,m⟩:=hrel;by_cases c:k<Ty l
  .have f:=s.out k c;have a:l[k]∈l:=(by simp)
   have p:Hid (∀y∈l.take (k+1),y∈l.take k\/y=l[k]):=λy j=>by grind [List.take_succ_eq_append_getElem]
   have n:=aB a;clear a;generalize l[k]=y at*;have j:(bs y).toList=y:=aX y;cases r:(y==x)
   .have d:Hid (∀z∈l.take (k+1),z≠x):=λz u=>by grind [d7]
    clear m p n;go_wp2_with fail;go_round
    case rel=>exact⟨k+1,aD,la,d⟩
    grind [intOf]
   have d:Hid (l.contains x=Ud):=by grind
   clear m p n;go_wp2
   go_ret;exact⟨gO mg,rfl⟩
  have d:Hid (l.contains x=Uc):=by grind [d7]
  clear m;go_wp2
  go_ret;exact⟨gO mg,rfl⟩
def S5(x:bP)(w:aN):
 Ue prog 165 #[bO,Q_ (bs x)] w λe a=>e=bY (.bool (([]:cY).contains x))/\a=w:=by
 go_in
 go_wp2
 go_loop [5] (λi=>i=I_ 0) (λ_=>0)
 case atStart=>rfl
 case round=>
  go_wp2
  go_ret;simp
def FY:(prog.info? 9).map (λi=>(i.zero,i.size,i.bytes))=Ua (Ua (Q_ (bs [])),1,16):=k_
def OZ(l:cY)(x:bP)(v:aW)(b:Nat)(w:aN)(j:Ty l<=100000)(a:w.ownsRow b 9 1 v (Ty l) (kE l)):
 Ue prog 165 #[v,Q_ (bs x)] w λe d=>e=bY (.bool (l.contains x))/\d=w:=by
 rcases a.2 with ⟨rfl,o⟩|⟨g,c,h,rfl,n,k,f,q,r,p⟩
 .obtain rfl:l=[]:=(by grind)
  exact S5 x w
 refine S4 l x g c w j f λi m=>aA k ?_
 have e:(kE l)[i]?=Ua (Q_ (bs l[i])):=by simp[kE,m]
 grind
structure mV(cb lo:Nat)(fs:List aC)(fv:aW)(a_:Bool)(w:aN)(s:bJ):Prop where
 i_:∃sv,w.heap[cb]?=Ua (.cells #[fv,sv,.bool a_,I_ s.kind,I_ s.l_] 121)/\w.ownsRow (cb+1) 9 1 sv (Ty s.e_) (kE s.e_)
 y_:w_ (rn lo cb) w fv fs
def lX{w:aN}{c a f:aW}(h:w.heap[D]?=Ua (cD #[r,q,c,a,f] 121)):
 D<H_ w/\dP w D 0 r/\dP w D 1 q/\dP w D 2 c/\dP w D 3 a/\dP w D 4 f/\(∀i,w.frozen? (aL D i)=Uc):=
 (by grind [aA,aF])
def mV.put{a:Bool}{w:aN}{e:bJ}(i:w_ (rn G D) w r E)(n:∀k,k≠D->B.heap[k]?=w.heap[k]?)
 (d:B.heap[D]?=Ua (cD #[r,q,.bool a,I_ e.kind,I_ e.l_] 121)) (b:w.ownsRow (D+1) 9 1 q (Ty s.e_) (kE s.e_)) (m:e.e_=s.e_):mV D G E r a B e:=by
 refine⟨⟨q,d,?_⟩,(by grind [w_.h_,rn])⟩
 rw[m];exact bC b λk i=>n k (by have:=bX b k i;exact aD)
def xW(g o:Nat)(n:List aC)(m:aW)(c:Bool)(w:aN)(s:bJ)(l_ kind:Nat)(h:mV g o n m c w s):
 Ue prog 103 #[bF g,I_ l_,I_ kind] w λe l=>e=fD/\Below g w l/\mV g o n m c l (s.found l_ kind):=by
 obtain⟨x,b,d⟩:=h.i_;obtain⟨q,C,u,v,y,B,i⟩:=lX b;have A:=i 3;have z:=i 4;have r:=aB b;have t:=aB d;have H:=aB h;clear i b d h;by_cases j:s.kind=0
 .have p:((s.kind:Int)==0)=Ud:=G_
  have a:s.found l_ kind={ s with kind:=kind,l_:=l_ }:=by grind [bJ.found]
  have f:=aB a;clear a j;go_in
  go_wp2
  go_end0;refine⟨aJ,(by grind [Below.setCell,dz]),?_⟩
  rw[f];refine mV.put H.y_ (λk j=>?_) ?_ t aJ
  .grind [em]
  rw[aP (aP r.out)];rfl
 have p:((s.kind:Int)==0)=Uc:=G_
 have a:s.found l_ kind=s:=by grind [bJ.found]
 have f:=aB a;clear a j;go_in
 go_wp2
 go_end0;grind [dz,d7]
theorem eZ.cells{d:Nat}{F:bN}{w:aN}{v:aW}(h:eZ d F w v a):
 ∃e b c,d=e+1/\v=bF b/\F b/\b<w.heap.size/\w.cell? (aL b 0)=Ua (.string (bs a.op))/\w.cell? (aL b 1)=Ua (I_ a.l_)/\w.cell? (aL b 2)=Ua (.string (bs a.x_))/\w.cell? (aL b 3)=Ua c/\nK (eZ e F w) F w c a.y_:=by
 cases d with
 |zero=>exact h.elim
 |succ d=>
  obtain⟨b,c,i,f,j,g⟩:=h;grind [aA]
theorem jM.get{R:Value->aC->Prop}:∀{vs ks} (i:Nat) (b:i<Ty ks),jM R vs ks->∃v,vs[i]?=Ua v/\R v ks[i]
 |v::vs,a::ks,0,_,h=>⟨v,rfl,h.1⟩
 |v::vs,a::ks,i+1,b,h=>by
  obtain⟨u,d,c⟩:=jM.get (vs:=vs) (ks:=ks) i G_ h.2
  grind
 |[],_::_,_,_,h=>h.elim
 |_::_,[],_,b,_=>by simp at b
 |[],[],_,b,_=>by simp at b
theorem nK.get{R:Value->aC->Prop}{ks:List aC}(h:nK R e B r ks):
 (r=bO/\ks=[])\/∃g a,r=.slice (Ua (aL g 0)) (Ty ks) a/\e g/\g<B.heap.size/\Ty ks<=a/\∀i (c:i<Ty ks),∃v,B.cell? (aL g i)=Ua v/\R v ks[i]:=by
 grind [jM.get,aA,nK]
theorem sD(s:bJ)(l k:Nat):(s.found l k).e_=s.e_:=by grind [bJ.found]
def eZ.ue{w':aN}(h:eZ D e B r a)(b:w'.heap=B.heap):eZ D e w' r a:=(by grind [eZ.h_])
def mV.ue{w':aN}(h:mV D G E r C B s)(f:w'.heap=B.heap):mV D G E r C w' s:=by obtain⟨i,j,g⟩:=h.i_;exact⟨(by grind [bC]),h.y_.h_ G_⟩
def BY(i j:Nat)(l:List aC)(m:aW)(c:Bool)(w:aN)(s:bJ)(h:mV i j l m c w s)(F:Ty s.e_<=100000)(v:aW)(a:aC)(d:Nat)(q:eZ d (rn j i) w v a):
 Ue prog 104 #[bF i,v] w λe o=>e=fD/\Below i w o/\mV i j l m c o (Hs.oo s a):=by
 obtain⟨N,b,P,rfl,rfl,K,r,I,Q,S,G, -⟩:=q.cells;obtain⟨E,g,f⟩:=h.i_;obtain⟨t,T,J,M,O,L,A⟩:=lX g;have B:=aB (OJ a.x_ w);have u:=aB (OZ s.e_ a.x_ E (i+1) w.drew F f);have z:=aB (xW i j l m c w.drew s a.l_ 6 (h.ue aJ));have p:Hid (Hs.oo s a=if gL a.x_ || s.e_.contains a.x_ then s.found a.l_ 6 else s):=rfl
 have H:=aB h;clear A g f h q;generalize gL a.x_=x at*;generalize s.e_.contains a.x_=C at*;go_in
 go_wp2_with fail;refine rf B λn k=>?_
 obtain rfl:=k.symm;go_wp2
 go_region_law (go_simp;go_at_call 165;refine rf u λn k=>?_;obtain rfl:=k.symm)
 all_goals (cases x<;>cases C)
 all_goals first
  |(go_wp2
    go_end0;exact⟨aJ,(dz _ _).drew,by rw[p];exact H.ue aJ⟩)
  |(go_wp2_with fail
    refine rf z λn ⟨y,D⟩=>?_
    go_wp2
    go_end0;exact⟨aJ,(dz _ _).drew.trans y,by rw[p];exact D⟩)
def Cn(d:Nat)(F:bN)(w:aN)(o:Option aC)(v:aW):Prop:=match o with|none=>v=.pointer Ub|some f=>eZ d F w v f
def yS(a:List aC)(x:bP)(g j:Nat)(F:bN)(w:aN)(H:Ty a<=100000)(_hg:g<H_ w)(d:Nat)(r:∀i (K:i<Ty a),∃v,dP w g i v/\eZ d F w v a[i]):
 Ue prog 58 #[P_ (Ua (aL g 0)) (Ty a) j,Q_ (bs x)] w λe u=>u=w/\∃v,e=bY v/\Cn d F w (dG a x) v:=by
 have A:=aB r;clear r;have L:(bs x).toList=x:=aX x;go_in
 go_wp2
 go_loop [5] (λi=>∃k:Nat,k<=Ty a/\i=I_ k/\Hid (∀y∈a.take k,y.x_≠x)) (λi=>Ty a-(intOf i).toNat)
 case atStart=>exact⟨0,aD,rfl,λy o=>by simp at o⟩
 case round=>
  obtain⟨k,C,rfl,p⟩:=hrel;by_cases f:k<Ty a
  .obtain⟨v,m,c⟩:=A k f;obtain⟨I,b,J,rfl,rfl,E,t,D,M,N,B, -⟩:=c.cells;have q:=aB c
   have s:Hid (∀y∈a.take (k+1),y∈a.take k\/y=a[k]):=λy o=>by grind [List.take_succ_eq_append_getElem]
   have n:Hid (a=a.take k++a[k]::a.drop (k+1)):=by grind [List.getElem_cons_drop,List.take_append_drop]
   clear c;generalize a[k]=y at*;have o:(bs y.x_).toList=y.x_:=aX y.x_;cases l:(y.x_==x)
   .have HF:Hid (∀z∈a.take (k+1),z.x_≠x):=λz G=>by grind [d7]
    clear p s q n;exact SS
   have HF:Hid (dG a x=Ua y):=by
    show _=_
    rw[n];unfold dG;rw[List.find?_append,List.find?_eq_none.2 mg]
    simp[l]
   clear p s n;go_wp2
   go_ret;exact⟨aJ,_,aJ,by rw[HF];exact q⟩
  have HF:Hid (dG a x=Ub):=by grind [dG,d7]
  clear p;go_wp2
  go_ret;exact⟨aJ,_,aJ,by rw[HF];rfl⟩
def MF(x:bP)(d:Nat)(F:bN)(w:aN):
 Ue prog 58 #[bO,Q_ (bs x)] w λe a=>a=w/\∃v,e=bY v/\Cn d F w (dG [] x) v:=by
 go_in
 go_wp2
 go_loop [5] (λi=>i=I_ 0) (λ_=>0)
 case atStart=>rfl
 case round=>
  go_wp2
  go_ret;exact⟨aJ,_,aJ,aJ⟩
def uF(a:List aC)(x:bP)(c:aW)(F:bN)(w:aN)(f:Ty a<=100000)(d:Nat)(h:nK (eZ d F w) F w c a):
 Ue prog 58 #[c,Q_ (bs x)] w λe i=>i=w/\∃v,e=bY v/\Cn d F w (dG a x) v:=by
 rcases h.get with ⟨rfl,rfl⟩|⟨g,b,rfl, -,j, -,k⟩
 .exact MF x d F w
 exact yS a x g b F w f j d k
def nK.slice{R:Value->aC->Prop}{F:bN}{w:aN}{d:aW}{b:List aC}(h:nK R F w d b):∃x c,d=.slice x (Ty b) c:=by
 rcases h.get with ⟨rfl,rfl⟩|⟨g,a,rfl,_⟩
 .exact⟨Ub,0,aJ⟩
 exact⟨_,a,aJ⟩
def uQ{W:Int}(h:gN E C a.x_=W)(d:W<0):gH E C s a=s.found a.l_ 6:=by unfold gH;rw[h,ef d]
def yD{W:Int}(h:gN E C a.x_=W)(e:¬W<0)(d:W≠(Ty a.y_:Int)):gH E C s a=s.found a.l_ 7:=by unfold gH;rw[h,ea e,ef d]
def OU{W:Int}(h:gN E C a.x_=W)(e:¬W<0)(d:W=(Ty a.y_:Int)):gH E C s a=s:=by unfold gH;rw[h,ea e,ea (by simpa using d)]
def Ew(Y_:b:=by
 obtain⟨d2,b2,kv2,rfl,rfl,hF2,hbl2,m0,m1,m2,m3,hk2⟩:=hfp.cells;obtain⟨kx2,kc2,rfl⟩:=hk2.slice;clear hfp hk2;by_cases hneg:(Ty f.y_:Int)-1<0
 .have HS:=aB (uQ (s:=s) hW hneg);clear hW;go_wp2_with fail;refine rf (HF 6) λw1 ⟨hb,hc⟩=>?_
  go_wp2
  go_end0;exact⟨aJ,(dz _ _).drew.trans hb,qp⟩
 by_cases heq:((Ty f.y_:Int)-1:Int)=(Ty a.y_:Int)
 .have HS:=aB (OU (s:=s) hW ny heq)
  clear hW;go_wp2
  go_end0;exact⟨aJ,(dz _ _).drew,by rw[HS];exact H.ue aJ⟩
 have HS:=aB (yD (s:=s) hW ny heq)
 clear hW;go_wp2_with fail;refine rf (HF 7) λw1 ⟨hb,hc⟩=>?_
 go_wp2
 go_end0;exact⟨aJ,(dz _ _).drew.trans hb,qp⟩):b:=Y_
def Eg(Y_:b:=by
 have HS:=aB (OU (s:=s) hW ny heq)
 clear hW;go_wp2
 go_end0;exact⟨aJ,(dz _ _).drew,by rw[HS];exact H.ue aJ⟩):b:=Y_
def PH(Y_:b:=by
 go_wp2
 go_end0;exact⟨aJ,(dz _ _).drew.trans hb,qp⟩):b:=Y_
def Q1(l t:Nat)(i:List aC)(u:aW)(c:Bool)(w:aN)(s:bJ)(h:mV l t i u c w s)(y:Ty i<=100000)(q:∀f∈i,Ty f.y_<=100000)(v:aW)(a:aC)(d:Nat)(C:eZ d (rn t l) w v a)(_hak:Ty a.y_<=100000):
 Ue prog 166 #[bF l,v] w λe x=>e=fD/\Below l w x/\mV l t i u c x (gH i c s a):=by
 obtain⟨U,b,X,rfl,rfl,Q,D,N,Z,n2,M,B⟩:=C.cells;obtain⟨L,Y,rfl⟩:=B.slice;obtain⟨V,j,n⟩:=h.i_;obtain⟨E,O,P,T,W,S,J⟩:=lX j;obtain⟨F,o⟩:=(h.ue (w':=w.drew) rfl).y_.depth;have G:=aB (uF i a.x_ u (rn t l) w.drew y F o);have HF:=aB (λk=>xW l t i u c w.drew s a.l_ k (h.ue aJ))
 have H:=aB h;have r:=aB q;have I:(bs a.x_).toList=a.x_:=aX _;clear J j n h C o B q;go_in
 go_wp2
 go_region_law (go_simp;go_at_call 58;apply G.mono;rintro e w1 ⟨K,A,rfl,hfp⟩;obtain rfl:=K.symm)
 all_goals
  cases m:(a.x_==[108,101,110])
  .cases p:(a.x_==[114,101,97,100])
   .cases g:dG i a.x_ with
    |none=>
     rw[g]at hfp;obtain rfl:A=.pointer Ub:=hfp;have hW:gN i c a.x_= -1:=by unfold gN;simp[m,p,g]
     have HS:=aB (uQ (s:=s) hW d_)
     clear hW;go_wp2_with fail;refine rf (HF 6) λw1 ⟨hb,hc⟩=>?_
     exact PH
    |some f=>
     rw[g]at hfp;have z:Ty f.y_<=100000:=r f (js g);have hW:gN i c a.x_=(Ty f.y_:Int)-1:=by unfold gN;simp[m,p,g]
     exact Ew
   cases c
   .have hW:gN i Uc a.x_=0:=by unfold gN;simp[m,p]
    by_cases heq:(0:Int)=(Ty a.y_:Int)
    .exact Eg
    have HS:=aB (yD (s:=s) hW ny heq)
    clear hW;go_wp2_with fail;refine rf (HF 7) λw1 ⟨hb,hc⟩=>?_
    exact PH
   cases g:dG i a.x_ with
   |none=>
    rw[g]at hfp;obtain rfl:A=.pointer Ub:=hfp;have hW:gN i Ud a.x_= -1:=by unfold gN;simp[m,p,g]
    have HS:=aB (uQ (s:=s) hW d_)
    clear hW;go_wp2_with fail;refine rf (HF 6) λw1 ⟨hb,hc⟩=>?_
    exact PH
   |some f=>
    rw[g]at hfp;have z:Ty f.y_<=100000:=r f (js g);have hW:gN i Ud a.x_=(Ty f.y_:Int)-1:=by unfold gN;simp[m,p,g]
    exact Ew
  have hW:gN i c a.x_=1:=by unfold gN;rw[m];rfl
  by_cases heq:(1:Int)=(Ty a.y_:Int)
  .exact Eg
  have HS:=aB (yD (s:=s) hW ny heq)
  clear hW;go_wp2_with fail;refine rf (HF 7) λw1 ⟨hb,hc⟩=>?_
  go_wp2
  go_end0;exact⟨aJ,(dz _ _).drew.trans hb,qp⟩
def AB(b:List aC)(a:Bool)(s:bJ)(n:aC):(cQ b a s n).e_=s.e_:=by grind [cQ,gH,sD]
theorem lG(s:bJ)(n:aC):(Hs.oo s n).e_=s.e_:=by grind [Hs.oo,sD]
def sj(s s':bJ)(m:Nat):Prop:=∃t,s'.e_=s.e_++t/\Ty t<=m
def sj.refl(s:bJ):sj s s 0:=⟨[],s_,s_⟩
def sj.trans{a b c:bJ}{m n:Nat}(h:sj a b m)(k:sj b c n):sj a c (m+n):=by grind [sj]
def sj.le{a b:bJ}{m n:Nat}(h:sj a b m)(c:m<=n):sj a b n:=by grind [sj]
theorem sj.of_eq{b:bJ}(h:b.e_=s.e_):sj s b 0:=⟨[],by simp[h],s_⟩
theorem sj.fold{f:bJ->aC->bJ}{g:aC->Nat}(h:∀s k,sj s (f s k) (g k)):∀(l:List aC) (s:bJ),sj s (l.foldl f s) (l.map g).sum
 |[],s=>sj.refl s
 |k::l,s=>by exact(h s k).trans (sj.fold h l _)
theorem gY(b:List aC)(a:Bool):∀(d:Nat) (n:aC) (s:bJ),sj s (aT b a d n s) (cV d n)
 |0,n,s=>sj.refl s
 |d+1,n,s=>by
  rw[aT,cV];split
  .match h:n.y_ with
   |t::v::r=>
    have h1 :=sj.of_eq (lG s t);obtain⟨u,c,e⟩:=h1.trans (gY b a d v (Hs.oo s t));grind [sj]
   |[]=>exact(sj.refl s).le aD
   |[_]=>exact(sj.refl s).le aD
  have h1 :=sj.of_eq (AB b a s n);have c:=h1.trans (sj.fold (f:=λs k=>aT b a d k s) (g:=cV d) (λs k=>gY b a d k s) n.y_ (cQ b a s n))
  grind [sj]
def DW(cb lo:Nat)(fs:List aC)(fv:aW)(a_:Bool)(d:Nat):Prop:=
 ∀(v:aW) (a:aC) (s:bJ) (w:aN),mV cb lo fs fv a_ w s->eZ d (rn lo cb) w v a->uV d a->Ty s.e_+cV d a<=90000->
  Ue prog 105 #[bF cb,v] w λe w'=>e=fD/\Below cb w w'/\mV cb lo fs fv a_ w' (aT fs a_ d a s)
theorem zP{f:aC->Nat}{k:aC}:∀{l:List aC},k∈l->f k<=(l.map f).sum
 |[],h=>by cases h
 |x::l,h=>by
  simp [fm,fu];rcases ff.1 h with rfl|h
  .exact aD
  have:=zP (f:=f) h;exact aD
def rL{l:cY}(h:B.ownsRow D 9 1 r (Ty l) (kE l))(m:Nat)(q:m<=Ty l):
 ∃x c,r=P_ x (Ty l) c/\Ty l<=c/\c<=maxLen/\B.ownsRow D 9 1 (P_ x m c) m (kE (l.take m)):=by
 have j:Ty (kE (l.take m))=m*1:=by simp[kE];exact aD
 rcases h.2 with ⟨rfl,o⟩|⟨g,b,d,rfl,f,k,i,e,n,p⟩
 .grind
 refine⟨_,b,aJ,i,e,j,ec ⟨g,b,d,aJ,f,k,aD,e,n,?_⟩⟩;grind [kE,List.map_take]
theorem Z0(p A:Nat)(l:List aC)(F:aW)(c:Bool)(au:Ty l<=90000)(O:∀f∈l,Ty f.y_<=90000)(d:Nat)(IH:DW p A l F c d)
 (v:aW) (a:aC) (s:bJ) (w:aN) (h:mV p A l F c w s) (ha:eZ (d+1) (rn A p) w v a) (ab:uV (d+1) a) (ag:Ty s.e_+cV (d+1) a<=90000) (ax:Ty a.y_<=90000) (ay:(a.op==[118,97,114])=Uc):
 Ue prog 105 #[bF p,v] w λe w'=>e=fD/\Below p w w'/\mV p A l F c w' (aT l c (d+1) a s):=by
 obtain⟨d',b,kv,hd,rfl,hF,aa,n0,n1,n2,n3,B⟩:=ha.cells;obtain rfl:d=d':=aD;obtain⟨kx,kc,rfl⟩:=B.slice;obtain⟨sv,N,C⟩:=h.i_;obtain⟨r,c0,c1,c2,c3,c4,Y⟩:=lX N;obtain⟨sx,sc,rfl,ar,aj, -⟩:=rL C _ mJ;have an:(bs a.op).toList=a.op:=aX _;have H:=aB h;have HA:=aB ha;have HK:=aB B;have HO:=aB C;go_in
 go_upto_block 0 with fail
 go_cut [] (λwc=>Below p w wc/\mV p A l F c wc (cQ l c s a))
 case first=>
  cases I:(a.op==[115,101,116] || a.op==[110,97,109,101])
  .obtain⟨y,M⟩:=Bool.or_eq_false_iff.1 I;cases S:(a.op==[99,97,108,108])
   .have T:Hid (cQ l c s a=s):=by unfold cQ;rw[I,S];rfl
    go_wp2_with fail;go_meet
    grind [dz,cQ]
   have T:Hid (cQ l c s a=gH l c s a):=by unfold cQ;rw[I,S];rfl
   have HC:=aB (Q1 p A l F c w s H aD (λf hf=>eo (O f hf) aD) _ a _ HA aD)
   go_wp2_with fail;refine rf HC λw1 ⟨hb,hc⟩=>?_
   go_wp2_with fail;go_meet
   grind [cQ]
  have T:Hid (cQ l c s a=if s.e_.contains a.x_ then s else s.found a.l_ 6):=by unfold cQ;rw[I];rfl
  have HM:=aB (OZ s.e_ a.x_ _ (p+1) w.drew aD HO);have HF:=aB (xW p A l F c w.drew s a.l_ 6 (H.ue aJ));generalize s.e_.contains a.x_=mb at*
  have ah:((a.op==[115,101,116])=Ud/\(a.op==[110,97,109,101])=Uc)\/((a.op==[115,101,116])=Uc/\(a.op==[110,97,109,101])=Ud):=by
   cases y:(a.op==[115,101,116])
   .rw[y]at I;exact ec ⟨aJ,by simpa using I⟩
   refine ed ⟨aJ,?_⟩;have:a.op=[115,101,116]:=by simpa using y
   rw[this];rfl
  rcases ah with ⟨y,M⟩|⟨y,M⟩
  all_goals
   go_wp2
   go_region_law (go_simp;go_at_call 165;refine rf HM λw1 hw=>?_;obtain rfl:=hw.symm)
  all_goals (cases mb)
  all_goals first
   |(go_wp2_with fail
     go_meet
     case rel=>exact⟨(dz _ _).drew,by rw[T];exact H.ue aJ⟩)
   |(go_wp2_with fail
     refine rf HF λw1 ⟨hb,hc⟩=>?_
     go_wp2_with fail;go_meet
     case rel=>exact⟨(dz _ _).drew.trans hb,by rw[T];exact hc⟩)
 case rest=>
  obtain⟨U,af⟩:=hcut;have aq:=aB U;have av:=aB af;go_wp2
  go_loopg [6] (Ty a.y_) (λgk i wr=>∃k:Nat,k+gk=Ty a.y_/\i=I_ k/\Below p w wr/\mV p A l F c wr ((a.y_.take k).foldl (λs k=>aT l c d k s) (cQ l c s a)))
  case atStart=>grind
  case round=>
   obtain⟨k,ao,rfl,m,q⟩:=hrel;have hbb :=m.block b hF.2;have q0 :=(iN hbb).trans n0;have q3 :=(iN hbb).trans n3;have hblr :=ej aa m.size;by_cases r:k<Ty a.y_
   .obtain⟨j,rfl⟩:∃j,gk=j+1:=⟨gk-1,aD⟩;rcases HK.get with ⟨_,h0⟩|⟨g,az,Z,ac,X,ai,L⟩
    .rw[h0]at r;simp at r
    obtain⟨u,hu,ae⟩:=L k r;cases Z;have hgb :=m.block g ac.2;have r0 :=(iN hgb).trans hu;have hgr :=ej X m.size
    have E:(a.y_.take (k+1)).foldl (λs k=>aT l c d k s) (cQ l c s a)=aT l c d a.y_[k] ((a.y_.take k).foldl (λs k=>aT l c d k s) (cQ l c s a)):=by rw[g9 r,List.foldl_append];rfl
    have al:((a.y_.take k).map (cV d)).sum+cV d a.y_[k]<=(a.y_.map (cV d)).sum:=by
     have e:a.y_=a.y_.take k++a.y_[k]::a.y_.drop (k+1):=s_
     have S:(a.y_.map (cV d)).sum=((a.y_.take k++a.y_[k]::a.y_.drop (k+1)).map (cV d)).sum:=by rw[<-e]
     rw[S,fw,jd,fm,fu];exact aD
    have o:=sj.fold (f:=λs k=>aT l c d k s) (g:=cV d) (λs k=>gY l c d k s) (a.y_.take k) (cQ l c s a)
    have K:((a.y_.take k).foldl (λs k=>aT l c d k s) (cQ l c s a)).e_.length+cV d a.y_[k]<=90000:=by obtain⟨t,h1,h2⟩:=o;rw[h1,AB];rw[cV]at ag;simp;exact aD
    have HC:=aB (IH u a.y_[k] _ wr q (ae.h_ λk B=>m.block k B.2) (ab.2 _ (s_)) K)
    have ap:=aB E;have G:=aB m;go_wp2_with fail;refine rf HC λw1 ⟨ba,bb⟩=>?_
    go_wp2
    go_roundg j
    case measure=>exact aD
    grind [Below.trans]
   obtain rfl:k=Ty a.y_:=aD;rw[iz]at q;obtain⟨aw,n,x⟩:=q.i_;obtain⟨ak,c0,c1,c2,c3,c4,Y⟩:=lX n;have o :=(sj.of_eq (AB l c s a)).trans (sj.fold (f:=λs k=>aT l c d k s) (g:=cV d) (λs k=>gY l c d k s) a.y_ (cQ l c s a))
   have P:Ty s.e_<=(a.y_.foldl (λs k=>aT l c d k s) (cQ l c s a)).e_.length:=by obtain⟨t,h1,h2⟩:=o;rw[h1];simp
   have hS:aT l c (d+1) a s=if a.op==[98,108,111,99,107]then { a.y_.foldl (λs k=>aT l c d k s) (cQ l c s a)with e_:=(a.y_.foldl (λs k=>aT l c d k s) (cQ l c s a)).e_.take (Ty s.e_) } else a.y_.foldl (λs k=>aT l c d k s) (cQ l c s a):=by rw[aT,ea G_]
   have Q:=aB hS;have G:=aB m;have J:=aB q;obtain⟨W,V,rfl,am,D,z⟩:=rL x _ P;have HCUT:=aB z;have ad:=aB n;have f1:=Y 1;clear o hS m q x z n Y O IH HK;generalize a.y_.foldl (λs k=>aT l c d k s) (cQ l c s a)=s1 at*
   cases eb:(a.op==[98,108,111,99,107])
   .rw[eb]at Q;go_wp2
    go_end0;exact⟨aJ,G,by rw[Q];exact J⟩
   rw[eb]at Q;unfold maxLen at D;go_wp2
   go_end0;refine⟨aJ,G.setCell s_ _,?_⟩
   rw[Q,ef trivial];refine⟨⟨P_ W (Ty s.e_) V,?_,?_⟩,J.y_.h_ λk B=>em _ _ _ _ (by have:=B.2;grind)⟩
   .rw[aP ad];rfl
   have el:Ty (s1.e_.take (Ty s.e_))=Ty s.e_:=by rw[hH];exact aD
   rw[el];exact bC HCUT λk B=>em _ _ _ _ (by have:=bX HCUT k B;grind)
def BL(w:aN)(x:bP):∀j u,([Q_ (bs x)]:List Value)[j]?=Ua u->(eH w #[Q_ (bs x)] 9).cell? ((⟨H_ w,0,Ub⟩:Addr).add j)=Ua u:=by exact GF
def FX(x:bP):∀u∈([Q_ (bs x)]:List Value),u.oneCell'=Ud:=by intro u a;simp at a;subst a;rfl
def KA{o:Obj}{g f k d:aW}{m:List Value}(l:B.heap[D]?=Ua (cD #[r,q,g,f,k] 121))(b:B.ownsRow (D+1) 9 1 d G m)(p:(B.alloc o).grownBy F d.ownBlock):
 F.heap[D]?=Ua (cD #[r,q,g,f,k] 121):=by
 have c:=aH l;rw[p.block D kj λe=>by have:=bX b D e.symm;exact aD]
 exact kX _ _ c _ l
def mV.add{t:aW}{o:Obj}{g b:Nat}(h:mV D G E t C B s)(i:B.heap[D]?=Ua (cD #[t,r,.bool C,I_ s.kind,I_ s.l_] 121))
 (f:B.ownsRow (D+1) 9 1 r (Ty s.e_) (kE s.e_)) (d:F.ownsRow (D+1) 9 1 (P_ (Ua (aL g 0)) (Ty s.e_+1) b) (Ty s.e_+1) (kE s.e_++[Q_ (bs x)])) (j:(B.alloc o).grownBy F r.ownBlock):
 Below D B (F.setCell (aL D 1) (P_ (Ua (aL g 0)) (Ty s.e_+1) b))/\mV D G E t C (F.setCell (aL D 1) (P_ (Ua (aL g 0)) (Ty s.e_+1) b)) { s with e_:=s.e_++[x] }:=by
 have y:=aH i;have q:=KA i f j
 have n:Below D B F:=⟨j.os.trans aJ,j.tape.trans aJ,j.output.trans aJ,eo s_ j.size,λk p=>by
  rw[j.block k kj λe=>by have:=bX f k e.symm;exact aD]
  grind [eh]⟩
 have m:Below D B (F.setCell (aL D 1) (P_ (Ua (aL g 0)) (Ty s.e_+1) b)):=n.setCell s_ _
 refine⟨m,⟨P_ (Ua (aL g 0)) (Ty s.e_+1) b,?_,?_⟩,h.y_.h_ λk p=>m.block k p.2⟩
 .rw[aP q];rfl
 have A:Ty (s.e_++[x])=Ty s.e_+1:=s_
 have z:kE (s.e_++[x])=kE s.e_++[Q_ (bs x)]:=by simp[kE]
 rw[A,z];exact bC d λk p=>em _ _ _ _ (by have:=bX d k p;grind)
theorem Iu(q M:Nat)(p:List aC)(fv:aW)(c:Bool)(d:Nat)(IH:DW q M p fv c d)
 (v:aW) (a:aC) (s:bJ) (w:aN) (h:mV q M p fv c w s) (ha:eZ (d+1) (rn M q) w v a) (ac:uV (d+1) a) (az:Ty s.e_+cV (d+1) a<=90000) (S:a.op=[118,97,114]):
 Ue prog 105 #[bF q,v] w λe w'=>e=fD/\Below q w w'/\mV q M p fv c w' (aT p c (d+1) a s):=by
 obtain⟨d',b,kv,hd,rfl,hF,bt,n0,n1,n2,n3,T⟩:=ha.cells;obtain rfl:d=d':=aD;have h2:2<=Ty a.y_:=ac.1 S
 obtain⟨t,u,r,z⟩:∃t u r,a.y_=t::u::r:=by
  match hn:a.y_ with
  |[]=>grind
  |[_]=>grind
  |t::u::r=>simp
 have hS:aT p c (d+1) a s={ aT p c d u (Hs.oo s t)with e_:=(aT p c d u (Hs.oo s t)).e_++[t.x_] }:=by grind [aT]
 have Y:uV d u:=(by grind [uV])
 have ba:(Hs.oo s t).e_.length+cV d u<=80000+9999:=by grind [lG,cV]
 have H:=gY p c d u (Hs.oo s t);rcases T.get with ⟨_,h0⟩|⟨g,ax,rfl,af,bn,V,y⟩
 .rw[z]at h0;cases h0
 obtain⟨tv,ht,B⟩:=y 0 aD;obtain⟨uv,hu,Q⟩:=y 1 aD;have U:∀h,a.y_[0]'h=t:=(by grind)
 have ai:∀h,a.y_[1]'h=u:=(by grind)
 rw[U]at B;rw[ai]at Q;obtain⟨sv,G,K⟩:=h.i_;obtain⟨bo,c0,c1,c2,c3,c4,fz⟩:=lX G;obtain⟨sx,sc,rfl,bm,bb, -⟩:=rL K _ mJ;have bp:Ty s.e_<=90000:=aD;have bj:(bs a.op).toList=[118,97,114]:=by rw[aX,S]
 have HD:=aB (BY q M p fv c w s h aD tv t d B);have HW:=aB (λC (hc:mV q M p fv c C (Hs.oo s t)) (hr:eZ d (rn M q) C uv u)=>IH uv u (Hs.oo s t) C hc hr Y aD)
 have HS:=aB hS;have ap:=aB B;have X:=aB Q;have HADD:=aB H;clear h ha T fz K hS y B Q U ai IH H ac Y S;have bx:Ty a.y_<=ax:=V;have bq:(0:Int)<(Ty a.y_:Int):=aD;have bw:(1:Int)<(Ty a.y_:Int):=aD;have bd:0<Ty a.y_:=aD;clear z az;go_in
 go_wp2_with fail;refine rf HD λC ⟨A,aj⟩=>?_
 have D:C.heap[b]?=w.heap[b]?:=A.block b hF.2;have F:C.heap[g]?=w.heap[g]?:=A.block g af.2;have m3:=(iN (i:=3) D).trans n3;have r1:=(iN (i:=1) F).trans hu;have bc:b<H_ C:=(by grind)
 have bh:g<H_ C:=(by grind)
 have HC:=aB (HW C aj (X.h_ λk T=>A.block k T.2))
 have aw:=aB A;clear D F A aj HD HW X c0 c1 c2 c3 c4;go_wp2_with fail;refine rf HC λf ⟨aa,O⟩=>?_
 have j:=aw.trans aa;have ad:f.heap[b]?=w.heap[b]?:=j.block b hF.2;have ag:f.heap[g]?=w.heap[g]?:=j.block g af.2;have p3:f.cell? (aL b 3)=_:=(iN (i:=3) ad).trans n3;have p0:f.cell? (aL g 0)=_:=(iN (i:=0) ag).trans ht;have J:b<H_ f:=(by grind)
 have E:g<H_ f:=(by grind)
 obtain⟨dt,tb,bv, -,rfl,bl,ah,t0,t1,t2,t3, -⟩:=(ap.h_ (w':=f) λk T=>j.block k T.2).cells
 obtain⟨bk,l,m⟩:=O.i_;obtain⟨L,c0,c1,c2,c3,c4,fz⟩:=lX (w:=f) l;obtain⟨al,ao,rfl,bi,am, -⟩:=rL m _ mJ
 have bu:(aT p c d u (Hs.oo s t)).e_.length<=90000:=by obtain⟨x,h1,h2⟩:=HADD.out;grind
 have f1:=fz 1;generalize aT p c d u (Hs.oo s t)=s2 at*;obtain⟨i0,hi,an,ay,av⟩:=info_parts FY;have n:f.drew.heap[q]?=_:=l;have Z:=aB n;have N:=aB (show f.drew.ownsRow _ _ _ _ _ _ from m)
 have ar:=aB (O.ue (w':=f.drew) aJ);have ab:=aB j;have ak:q<H_ f:=L;have aq:b<H_ f:=J;have au:g<H_ f:=E;have bg:tb<H_ f:=ah;clear L J E ah;clear l n m O j aa HC G fz;go_wp2
 go_region_law (refine step_append_lies _ r_ _ _ 54 r_ (q+1) 9 i0 _ 1 16 underlying54 hi an ay av rfl d_ (P_ al (Ty s2.e_) ao) (Ty s2.e_) (kE s2.e_) r_ (N.alloc _) (aL (H_ f) 0) 1 1 [Q_ (bs t.x_)] r_ r_ (BL f.drew _) (FX _) d_ kk aD kj (H_ f+1) s_ ?_;intro g5 be w5 P o bf bz;have ae:=KA Z N o;obtain⟨br, -,q1, -, -, -,W⟩:=lX ae;have e1:=W 1;clear W ae)
 all_goals
  go_wp2
  refine bodyPost_ret (results_none aJ _ _ _) aJ ?_;have I:=ar.add Z N P o;exact⟨aJ,ab.trans ((dz _ f).drew.trans I.1),by rw[HS];exact I.2⟩
theorem pQ(d:Nat):∀l:List aC,Ty l<=(l.map (cV (d+1))).sum
 |[]=>by simp
 |x::l=>by have:=pQ d l;grind [cV]
theorem eZ.yb(h:eZ (D+1) e B r a):Ty a.y_<=cV (D+1) a:=by grind [eZ.cells,cV,nK.get,pQ]
theorem Ls(c i:Nat)(b:List aC)(h:aW)(a:Bool)(g:Ty b<=90000)(e:∀f∈b,Ty f.y_<=90000):∀d,DW c i b h a d:=by
 intro d;induction d with
 |zero=>grind [DW,eZ]
 |succ d j=>
  grind [Z0,eZ.yb,Iu,DW]
def F7(a:List aC)(d:Nat)(s:bJ)(k:aC):sj s (eQ a d s k) (cV d k+1):=by grind [eQ,lG,gY,sj]
def UA(f:aC->Nat):∀l:List aC,(l.map λk=>f k+1).sum=(l.map f).sum+Ty l
 |[]=>rfl
 |x::l=>by have:=UA f l;grind
def mV.bare(h:mV D G E r C B s):mV D G E r C (B.setCell (aL D 1) (bO)) { s with e_:=[] }:=by obtain⟨g,b,_⟩:=h.i_;exact⟨⟨bO,by rw[aP b];rfl,World.ownsRow_nil _ _ _ _⟩,h.y_.h_ (by grind [em,rn])⟩
def Pc(z L:Nat)(l:List aC)(V:aW)(bx:Ty l<=90000)(az:∀f∈l,Ty f.y_<=90000)(d:Nat)
 (v:aW) (a:aC) (s:bJ) (w:aN) (first:Bool) (h:mV z L l V Uc w s) (ha:eZ (d+1) (rn L z) w v a) (ae:uV (d+1) a) (bc:cV (d+1) a<=40000):
 Ue prog 59 #[bF z,v,.bool first] w λe w'=>e=fD/\Below z w w'/\mV z L l V Uc w' (gP l d s a first):=by
 have cc:Ty a.y_<=40000:=by have:=ha.yb;exact aD
 have IH:DW z L l V Uc d:=(by grind [Ls])
 obtain⟨d',b,kv,hd,rfl,hF,au,n0,n1,n2,n3,hk⟩:=ha.cells;obtain rfl:d=d':=aD;obtain⟨kx,kc,rfl⟩:=hk.slice;have C:z<H_ w:=by grind [mV.i_]
 have HG:=aB (OJ a.x_ w);have HF:=aB (xW z L l V Uc w s a.l_ 6 h);have HS:Hid (gP l d s a first=a.y_.foldl (eQ l d) { (if gL a.x_ || !first then s.found a.l_ 6 else s)with e_:=[] }):=rfl
 have H:=aB h;have HK:=aB hk;have aj:=aB IH;have aw:=aB ae;clear h ha hk IH ae az;generalize I:gL a.x_=gb at*;clear I;generalize aq:(if (gb || !first)=Ud then s.found a.l_ 6 else s)=s0 at*
 go_in
 go_upto_region 1 with (refine rf HG λw1 hw=>?_;obtain rfl:=hw.symm)
 go_cut [18] (λx wx=>x=.bool (gb || !first)/\wx=w)
 case first=>
  cases gb<;>cases first
  all_goals
   go_wp2_with fail;go_meet
   simp
 case rest=>
 obtain⟨rfl,hw⟩:=hcut;obtain rfl:=hw.symm;generalize (gb || !first)=c at*
 go_upto_if 18 with fail
 go_cut [] (λwx=>Below z w wx/\mV z L l V Uc wx s0)
 case first=>
  cases c
  .go_wp2_with fail;go_meet
   grind [dz,d7]
  go_wp2_with (refine rf HF λD ⟨P,br⟩=>?_)
  go_meet
  grind
 case rest=>
  obtain⟨P,W⟩:=hcut;have bp:=aB P;have bz:=aB (mV.bare W);obtain⟨ce,E, -⟩:=W.i_;obtain⟨bk, -,y1, -, -, -,fz⟩:=lX E;have bq:=fz 1;clear P W H HG HF fz E aq;go_wp2
  go_loopg [7,8] (Ty a.y_) (λgk i y wr=>∃k:Nat,k+gk=Ty a.y_/\i=I_ k/\Below z w wr/\mV z L l V Uc wr ((a.y_.take k).foldl (eQ l d) { s0 with e_:=[] }))
  case atStart=>grind [Below.setCell,d7]
  case round=>
   obtain⟨k,bm,rfl,n,r⟩:=hrel;have Z:wr.heap[b]?=w.heap[b]?:=n.block b hF.2;have q3:dP wr b 3 (P_ kx (Ty a.y_) kc):=(iN Z).trans n3;have bd:b<H_ wr:=ej au n.size;clear Z n0 n1 n2 n3;by_cases C:k<Ty a.y_
   .obtain⟨j,rfl⟩:∃j,gk=j+1:=⟨gk-1,aD⟩;rcases HK.get with ⟨_,h0⟩|⟨g,cd,ar,ay,al,be,K⟩
    .rw[h0]at C;simp at C
    obtain⟨u,hu,ah⟩:=K k C;cases ar;have I:wr.heap[g]?=w.heap[g]?:=n.block g ay.2;have r0:dP wr g k u:=(iN I).trans hu;have cf:g<H_ wr:=ej al n.size;have m:=ah.h_ (w':=wr) λk hk=>n.block k hk.2
    obtain⟨o,ub,bv,rfl,rfl,av,ba,u0,u1,u2,u3, -⟩:=m.cells
    have F:(a.y_.take (k+1)).foldl (eQ l (o+1)) { s0 with e_:=[] }=eQ l (o+1) ((a.y_.take k).foldl (eQ l (o+1)) { s0 with e_:=[] }) a.y_[k]:=by rw[g9 C,List.foldl_append];rfl
    have ad:((a.y_.take k).map (cV (o+1))).sum+cV (o+1) a.y_[k]<=(a.y_.map (cV (o+1))).sum:=by
     have e:a.y_=a.y_.take k++a.y_[k]::a.y_.drop (k+1):=s_
     have e2:(a.y_.map (cV (o+1))).sum=((a.y_.take k++a.y_[k]::a.y_.drop (k+1)).map (cV (o+1))).sum:=by rw[<-e]
     rw[e2,fw,jd,fm,fu];exact aD
    have N:=sj.fold (f:=eQ l (o+1)) (g:=λk=>cV (o+1) k+1) (λs k=>F7 l (o+1) s k) (a.y_.take k) { s0 with e_:=[] }
    have bf:((a.y_.take k).foldl (eQ l (o+1)) { s0 with e_:=[] }).e_.length+cV (o+1) a.y_[k]<=80000:=by obtain⟨t,h1,h2⟩:=N;rw[h1];rw[UA,hH]at h2;rw[cV]at bc;simp;exact aD
    have ak:=aB F;have X:=aB n;have Q:=aw.2 _ (ge C);clear F ad N K hu I ah n;generalize ((a.y_.take k).foldl (eQ l (o+1)) { s0 with e_:=[] })=J at*
    generalize a.y_[k]=y at*;have bo:(bs y.op).toList=y.op:=aX _;have HP:Hid (eQ l (o+1) J y=if y.op==[112,97,114,97,109]then { Hs.oo J y with e_:=(Hs.oo J y).e_++[y.x_] } else aT l Uc (o+1) y J):=rfl
    cases M:(y.op==[112,97,114,97,109])
    .rw[M]at HP;have HC:=aB (aj _ y J wr r m Q aD);clear r m Q;go_wp2_with fail;refine rf HC λw1 ⟨cg,bw⟩=>?_
     go_wp2
     go_roundg j
     case measure=>exact aD
     grind [Below.trans,d7]
    rw[M]at HP;have HC:=aB (BY z L l V Uc wr J r aD _ y _ m);have bt:=aB m;clear r m Q;go_wp2_with fail;refine rf HC λD ⟨G,T⟩=>?_
    have O:D.heap[ub]?=wr.heap[ub]?:=G.block ub av.2;have x2:D.cell? (aL ub 2)=_:=(iN (i:=2) O).trans u2;have bi:ub<H_ D:=ej ba G.size;obtain⟨bn,p,q⟩:=T.i_;obtain⟨bj,c0,c1,c2,c3,c4,fz⟩:=lX (w:=D) p;obtain⟨am,ap,rfl,bl,an, -⟩:=rL q _ mJ;have ca:(Hs.oo J y).e_.length<=90000:=by rw[lG];exact aD
    have f1:=fz 1;obtain⟨i0,hi,ao,bb,ax⟩:=info_parts FY;have A:D.drew.heap[z]?=_:=p;have ab:=aB A;have S:=aB (show D.drew.ownsRow _ _ _ _ _ _ from q)
    have Y:=aB (T.ue (w':=D.drew) aJ);have ac:=aB (X.trans G);clear p A q T G HC fz O u0 u1 u2 u3 q3 r0;generalize Hs.oo J y=s2 at*;go_wp2
    go_region_law (refine step_append_lies _ r_ _ _ 54 r_ (z+1) 9 i0 _ 1 16 underlying54 hi ao bb ax rfl d_ (P_ am (Ty s2.e_) ap) (Ty s2.e_) (kE s2.e_) r_ (S.alloc _) (aL (H_ D) 0) 1 1 [Q_ (bs y.x_)] r_ r_ (BL D.drew _) (FX _) d_ kk aD kj (H_ D+1) s_ ?_;intro g5 bg w5 U B bh ch;have af:=KA ab S B;obtain⟨bu, -,q1, -, -, -,aa⟩:=lX af;have e1:=aa 1;clear aa af)
    all_goals
     go_wp2
     go_roundg j
     case measure=>exact aD
     case rel=>
      have ag:=Y.add ab S U B;exact⟨k+1,aD,la,ac.trans ((dz _ D).drew.trans ag.1),by rw[ak,HP];grind⟩
   obtain rfl:k=Ty a.y_:=aD;rw[iz]at r;have X:=aB n;have ai:=aB r;clear n r;go_wp2
   go_end0;exact⟨aJ,X,by rw[HS];exact ai⟩
