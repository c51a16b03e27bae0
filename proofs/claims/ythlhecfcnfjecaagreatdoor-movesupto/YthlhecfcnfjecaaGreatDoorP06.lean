import Derived.Test.YthlhecfcnfjecaaGreatDoorP04
import Derived.Test.YthlhecfcnfjecaaGreatDoorP05
set_option linter.all false
set_option maxRecDepth 100000
set_option maxHeartbeats 0
open List renaming length->aA
open Go renaming bodyPost_ret->Wx,Calls->W_
open Bool renaming false->WD
namespace Go.Proofs.YthlhecfcnfjecaaGreatDoor
open Hs _root_.Go.Proofs.Tryz Go.RowKit
variable{v:List aC}{s:Nat}{t:aN}
attribute [local go_sem ↓] Go.wp_at_zero Go.wp_at_succ
def YB{C:Ctx}{B:Nat->bU aC}{e:bQ}{f:bU (List aC)}{r:bU aC}{c:Except Nat Nat}(h:f=fI c λq=>.ok (v,q))(g:r=bN (aQ C.ts [41] f) λl q=>bV (λb=>aW [102,117,110,99] s e (l++[b])) (B q)):r=fI (nL (fI (fR C c [41]) B)) λq=>.ok (aW [102,117,110,99] s e (v++iT (fI (fR C c [41]) B)),q):=by subst g h;cases c with|error l=>rfl|ok q=>show bN (aQ C.ts [41] (.ok (v,q))) _=_;cases h:cA C.ts q [41];grind[aQ,Hs.bad,bN,fI,nL,fR];rw[mW h,show fI (.ok (q+1)) B=B (q+1)from rfl];simp [aQ,h,bN];cases B (q+1)<;>rfl
def JT{C:Ctx}{q:Nat}{b:bU aC}(c:b=fI (nM C (.ok q)) λp=>.ok (aW [112,97,114,97,109] (oQ C (.ok q)) (nF C (.ok q)) [],p)):eC C.ts (s+1) q v=fI (uN C (nL b) [44]) λp=>if sF C (nL b) [44]then eC C.ts s p (v++iT b)else .ok (v++iT b,p):=by grind[eC,fI,nL,sF,iT,Hs.bad,uN,nM,nF,oQ]
def Pc(C:Ctx)(B:Nat->bU aC)(HB:Hid (Reads C 218 B))(w:aN)(S:Except Nat Nat)(h:lK C w S)(z:bU (List aC))(r:bU aC)
 (u:Hid (z=fI (fR C (nM C (fR C S [102,117,110,99])) [40]) λq=>if cA C.ts q [41]then .ok ([],q)else eC C.ts (aA C.ts+1) q [])) (N:Hid (r=bN (aQ C.ts [41] z) λl q=>bV (λb=>aW [102,117,110,99] (oQ C (fR C S [102,117,110,99])) (nF C (fR C S [102,117,110,99])) (l++[b])) (B q))) (M:Hid (r≠.error 0)):
 W_ prog 165 #[aY C.pb] w (eQ C w r):=by
 obtain⟨K,T,aa⟩:=h.facts;have HT:=O (zO C w S ⟨#[102,117,110,99]⟩ h);clear h;go_in
 go_wp2_with fail;apply HT.mono
 rw[show fR C S (⟨#[102,117,110,99]⟩:ByteArray).data.toList=fR C S [102,117,110,99]from rfl]
 generalize fR C S [102,117,110,99]=A at*;rintro e w1 ⟨rfl,s,p⟩;have HM:=O ((Gn C w1 A s).mono λ_ _ ⟨h1,h2,h3⟩=>(⟨h1,Nd.new (p.trans h3) h2 [102,117,110,99] (nF C A) (oQ C A) (λ_ _=>aJ) K T⟩:_/\_))
 clear s p HT;generalize nM C A=P at*;generalize nF C A=te at*;generalize oQ C A=li at*;go_wp21
 refine mh HM λw2 a=>?_
 go_wp21
 refine mh (pH a ⟨#[40]⟩) λw3 a=>?_
 rw[show fR C P (⟨#[40]⟩:ByteArray).data.toList=fR C P [40]from rfl]at a
 generalize fR C P [40]=G at*;go_wp21
 refine mh (zw a ⟨#[41]⟩) λV a=>?_
 cases Q:sF C G [41]
 .have H1:Hid (z=fI G λq=>if true then eC C.ts (aA C.ts+1) q []else .ok ([],q)):=by
   rw[u.out];cases G with
   |error l=>rfl
   |ok q=>show (if cA C.ts q [41]then _ else _)=_;grind [fI,sF]
  clear Q u;go_wp2
  go_loopg [6] (aA C.ts+1) (λk D wr=>∃i v m b,D=.bool b/\m+k<=3500/\z=(fI v λq=>if b then eC C.ts k q i else .ok (i,q))/\Nd C w (H_ w2) [102,117,110,99] te li m i v wr)
  case atStart=>grind [dw]
  case round=>
   obtain⟨i,v,m,b,rfl,hm,d,f⟩:=hrel;have o:=O d;have a:=O f;clear d f H1
   have J:(b=true/\∃q,v=.ok q)\/Hid (z=fI v λq=>.ok (i,q))/\(b=WD\/b=true/\C.pb<H_ wr/\∃L:Int,(L==0)=WD/\dR wr C.pb 2 (Y L)):=by
    cases b
    .exact .inr ⟨o,.inl aJ⟩
    cases v with
    |ok q=>simp
    |error l=>obtain⟨x,n,c,f⟩:=a.out;exact .inr ⟨o,.inr ⟨aJ,lK.bad f.at_⟩⟩
   rcases J with ⟨rfl,q,rfl⟩|⟨y,rfl|⟨rfl,I,L,ab,F⟩⟩
   .have d:=o.out;cases gk with
    |zero=>exact ep (show r=.error 0 by rw[N,d];rfl) M
    |succ k=>
     have H1:=O (d.trans (JT (C:=C) aJ));obtain⟨x,n,c,f⟩:=a.out;have ⟨I,F⟩:=At.vw f.at_;clear d o f;go_wp
     refine mh (M9 a) λv2 a=>?_
     obtain⟨x,n,c,f⟩:=a.out;obtain⟨z0,z1,z2⟩:=f.cells;have H:=O f;have j:=O (f.leaf [112,97,114,97,109] (nF C (.ok q)) (oQ C (.ok q)));clear f a I F;go_wp2_with (at_builtin;refine Fm H j λw5 g k5 E a y0 X y2=>?_)
     go_wp
     refine mh (l8 a ⟨#[44]⟩) λW a=>?_
     go_wp2
     go_roundg k
     case measure=>exact Z
     grind [dw]
   all_goals
    have y:=O (YB y N);have t:Hid (fI (fR C v [41]) B≠.error 0):=λe=>M (by rw[y,e];rfl)
    go_wp
    refine mh (pH a ⟨#[41]⟩) λW a=>?_
    obtain⟨x,n,c,H,z0,z1,z2⟩:=a.pre;go_wp2
    go_region_law (first|refine DV H j λw5 g k5 E a y0 X y2=>?_|(go_simp;go_at_call 218;refine GF H HB t λV b4 j u0 u1 u2=>?_))
    all_goals
     go_wp2
     go_ret;exact a.post y
 obtain⟨q,rfl⟩:∃q,G=.ok q:=by cases G with|ok q=>simp|error l=>cases Q
 have J:z=fI (.ok q) λq=>.ok ([],q):=by grind [dw,fI,sF]
 have y:=O (YB J N);have t:Hid (fI (fR C (.ok q) [41]) B≠.error 0):=λe=>M (by rw[y,e];rfl)
 clear J Q u;go_wp21
 refine mh (pH a ⟨#[41]⟩) λW a=>?_
 have ⟨x,n,c,H,z0,z1,z2⟩:=a.pre;go_wp2
 go_region_law (first|refine DV H j λw5 g k5 E a y0 X y2=>?_|(go_simp;go_at_call 218;refine GF H HB t λV b4 j u0 u1 u2=>?_))
 all_goals
  go_wp2
  go_ret;exact a.post y
attribute [local go_sem ↓] Go.wp_at_zero Go.wp_at_succ
def R6(C:Ctx)(B:Nat->bU aC)(c:Reads C 218 B):Reads C 165 (lW B C.ts):=by intro w S h d;refine Pc C B c w S h _ _ aJ ?_ d;cases S with|error l=>rfl|ok p=>show lW B C.ts p=_;unfold lW;cases b:cA C.ts p [102,117,110,99];rw[vU b,dy s_];rfl;rw[mW b,ec rfl];by_cases a:(aR C.ts (p+1)).c_=110;grind[bN,kV,Hs.bad,aQ,fI,fR,nM,oQ,nF];rw[(KA a).1,dy G_];rfl
def To(a:Int)(b:ByteArray)(c:Int)(w:aN):(Instr.field 220 (.agg #[.int .u8 a,Q_ b,Y c]) 0).run prog w=.ok (.int .u8 a) w:=k_
def Q4(C:Ctx)(X:Nat->bU aC)(D:Hid (Reads C 165 X))(w:aN)(p:Nat)(h:At C w p 0)(r:bU (List aC))(I:Hid (r=fS X C.ts (aA C.ts+1) p []))(s:Hid (r≠.error 0)):W_ prog 102 #[aY C.pb] w (eQ C w (bV (aW [112,114,111,103,114,97,109] 0 []) r)):=by
 have ⟨hpb,hgb,hlen⟩:=lK.facts (S:=.ok p) h;have v:=O (Nd.new (S:=.ok p) (Fr.refl C.pb w) h [112,114,111,103,114,97,109] [] 0 (λ_ _=>aJ) hpb hgb);have z:=To;clear h;go_in;go_wp2;go_loopg [] (aA C.ts+1) (λk wr=>∃b o m,m+k<=4000/\r=fI o (λq=>fS X C.ts k q b)/\Nd C w (H_ w) [112,114,111,103,114,97,109] [] 0 m b o wr);case atStart=>grind[dw,fI,bs]
 case round=>
  have ⟨b,o,m,hm,hr1,x,n,c,d⟩:=hrel;have H:=O d;clear v;cases o with|error l=>have f:=O hr1;have ⟨hl1,cc,hc0,hc2⟩:=lK.bad d.at_;clear d hr1;go_wp2;go_ret;exact Nd.post ⟨x,n,c,H⟩ (by rw[f];rfl)|ok q=>
   cases gk with|zero=>exact ep hr1 s|succ k=>
    rw[show (fI (.ok q) λq=>fS X C.ts (k+1) q b)=fS X C.ts (k+1) q b from rfl,fS]at hr1;have ⟨hl1,hc2⟩:=At.vw d.at_;have j:=O (lU C wr q 0 d.at_);by_cases i:(aR C.ts q).c_=101;.rw[ec G_]at hr1;have f:=O hr1;have B:(((aR C.ts q).c_:Int) !=101)=WD:=G_;clear hr1 d i;go_wp;apply j.mono;rw[zM];rintro e y ⟨rfl,a⟩;go_wp2;go_ret;exact Nd.post ⟨x,n,c,H.go (Fr.below a) (H.at_.below a) λq e=>⟨q,e⟩⟩ (by rw[f];rfl)
    rw[dy G_]at hr1;have f:=O hr1;have B:(((aR C.ts q).c_:Int) !=101)=true:=G_;have u:Hid (fI (.ok q) X≠.error 0):=λe=>(by grind[dw,fI]);clear hr1 d i;go_wp;apply j.mono;rw[zM];rintro e y ⟨rfl,a⟩;have d:=H.go (Fr.below a) (H.at_.below a) λq e=>⟨q,e⟩;have ⟨z0,z1,z2⟩:=d.cells;have H:=O d.drew;clear a j hc2 d;go_wp2;go_region_law (first|refine DV H t λM g G A v L F J=>?_|(go_simp;go_at_call 165;refine GF H D u λE K t u0 u1 u2=>?_));all_goals
     go_wp2;go_roundg k;case measure=>exact Z
     grind[dw,fI,nL,iT]
def J5(C:Ctx)(w:aN)(h:At C w 0 0)(a:lC C.ts≠.error 0):W_ prog 102 #[aY C.pb] w (eQ C w (bV (aW [112,114,111,103,114,97,109] 0 []) (lC C.ts))):=Q4 C _ (R6 C _ (TI C _ (R9 C _) _)) w 0 h _ rfl a
def Below.Dj{W b:aN}(h:R_ t W)(a:Fr s W b)(d:H_ t<=s):R_ t b:=h.trans ⟨a.os,a.tape,a.output,a.size,(by grind[Fr.block,Nat.lt_of_lt_of_le,Below.size])⟩
def E0{v:aX}{c:List bH}(h:t.ownsRow s 220 3 v (aA c) (qG c))(e:0<aA c):∃g a,v=P_ (some (aL g 0)) (aA c) a:=by rcases h.2 with ⟨_,f⟩|⟨g,a,d,rfl,_⟩;exact Z;simp
def WM(s:ByteArray)(w:aN)(L:gK w)(hs:s.size<=2000)(y:dU s.size (eA s) 0=none)(t:List bH)(I:gS (eA s)=.ok t)(x:Except (Nat×Nat) (List aC)) (u:Hid (x=match lC t with|.error n=>.error (4,n)|.ok (ks,_)=>.ok ks)):W_ prog 58 #[Q_ s,.bool WD] w (mO w x):=by
 have E:s.size<=2000000000:=Z;have G:=O (λw=>zT s w E);rw[y]at G;have J:=O (λo=>IQ s (w.alloc o) (L.alloc o) hs);rw[I]at J;obtain⟨f,N⟩:=sY I;have F:aA t<=3000:=by have:aA (eA s)=s.size:=s_;exact Z
 have HALL:=O f;have j:=f.some_;clear y L I f;go_in;go_wp21;refine sa (G _) λw1 X=>?_;obtain rfl:=X.symm;rw[JN];go_wp21;apply (J _).mono;rintro e A ⟨r,he⟩;obtain⟨v,rfl,c⟩:∃v,e=bR (.tuple #[v,Y 0])/\A.ownsRow _ 220 3 v (aA t) (qG t):=he;obtain⟨g,D,rfl⟩:=E0 c j;have W:H_ w<H_ A:=by have:=r.size;simp at this;exact Z
 have H:=O r;have B:=O (At.new c HALL F);clear r c;go_wp21;apply (J5 ⟨H_ A,g,D,t⟩ _ B (HALL.ok.prog j)).mono;rintro e i ⟨l,a,C,rfl,d⟩;have m:=Below.Dj ((((dv _ _).alloc (Z) _).trans (H.mono s_)).alloc Z _) l G_;have b:i.heap[H_ w]?=some (bO #[Y 0,Y 0] 38):=by rw[l.block (H_ w) la G_];apply kX _ _ W _;grind[ef,dw,aV]
 have M:=aB (i:=0) b aJ;have K:=aB (i:=1) b aJ;have V:i.frozen? (aL (H_ w) 0)=WD:=aF b;have aa:i.frozen? (aL (H_ w) 1)=WD:=aF b;clear b;have HBEL:=O m;have HREP:=O d;clear m d G J;cases z:lC t with|error n=>rw[z]at u a;have ⟨h0,q,hq⟩:=a;have ab:(0:Int)<(n:Int):=Z;have hl:=aH hq.i_;have p:dR i (H_ A) 2 (Y n):=aB hq.i_ aJ;have P:=u.out;clear u hq HREP z;go_wp2;go_region;go_wp2;apply Wx (v:=.tuple #[.pointer none,.agg #[Y 4,Y n]]) (by simp[results,results58,go_sem,M,K]) rfl;grind[Below.drew,Below.setCell,dw,mO]|ok kq=>have ⟨ks,q⟩:=kq;rw[z]at u a;have ⟨hl,p⟩:=At.vw a;have Q:=p;have P:=u.out;have HK:Hid (ve (sm (H_ w+1) (H_ i)) i (aY C) (aW [112,114,111,103,114,97,109] 0 [] ks)):=(HREP _ q rg).mono λk y=>⟨by have:=y.1;simp at this;exact Z,y.2⟩;clear p u a HREP z;go_wp2;apply Wx (v:=.tuple #[aY C,.agg #[Y 0,Y 0]]) (by simp[results,results58,go_sem,M,K]) rfl;refine⟨(by grind[Below.setCell,dw]),?_⟩;rw[P];refine⟨C,aJ,HK.grow (λk T S=>?_) Z s_⟩;grind[ej]
def JS(s:ByteArray)(w:aN)(c:gK w)(e:s.size<=maxLen):W_ prog 58 #[Q_ s,.bool WD] w (mO w (eB (eA s))):=by unfold eB;have g:aA (eA s)=s.size:=s_;rw[g];by_cases b:2000<s.size;rw[ec b];exact WL s w b e;rw[dy b];cases a:dU s.size (eA s) 0 with|some k=>exact MO s w Z k a|none=>cases d:gS (eA s)with|error n=>exact RP s w c Z a n d|ok f=>exact WM s w c Z a f d _ rfl
def eY.dp{F:bL}:∀{d:Nat}{v:aX}{a:aC},eY d F t v a->gC d a|0,_,_,h=>h.elim|d+1,v,a,h=>λk f=>by obtain⟨l,b,q,o,_,_,_,_,_,_,_,e⟩:=h.cells;obtain rfl:d=l:=Z;obtain⟨i,n,rfl⟩:=kg.1 f;rcases e.get with ⟨_,p⟩|⟨g,j,_,_,_,_,c⟩;grind;obtain⟨v,_,m⟩:=c i n;exact m.dp
theorem K3(a:List aC)(d e:Nat)(s:bK)(k:aC)(h:gC d k)(b:gC e k):eP a d s k=eP a e s k:=by grind[eP,sX]
def T9(a:List aC)(d e:Nat)(s:bK)(n:aC)(first:Bool)(h:gC (d+1) n)(b:gC (e+1) n):gP a d s n first=gP a e s n first:=by grind[gP,qS,K3,gC]
def QG(b:List aC)(d:Nat):∀(l a:List aC) (n:aC) (s:bK),eW b d a (l++[n]) s=gP b d (eW b d a l s) n (dG (a++l) n.x_).isNone|[],a,n,s=>by simp[eW]|x::l,a,n,s=>by rw[ip,eW,eW,QG b d l];simp
def rS(w:aN)(s:bQ)(e:Ending)(w':aN):Prop:=R_ w w'/\if (dQ s).1=0 then ∃b ks,e=bR (.tuple #[aY b,.agg #[Y 0,Y 0]])/\eB s=.ok ks/\ve (sm w.heap.size w'.heap.size) w' (aY b) (aW [112,114,111,103,114,97,109] 0 [] ks) else e=bR (.tuple #[.pointer none,.agg #[Y (dQ s).1,Y (dQ s).2]])
def WN{l:bQ}{n:Nat}(h:eB l=.error (s,n)):s≠0/\s<=4:=by grind[eB]
def QH(b:List aC)(d e:Nat):∀(l a:List aC) (s:bK),(∀n∈l,gC (d+1) n/\gC (e+1) n)->eW b d a l s=eW b e a l s|[],_,_,_=>rfl|n::l,a,s,h=>by have c:=h n (js ..);rw[eW,eW,T9 b d e s n _ c.1 c.2];exact QH b d e l _ _ G_
def se.mem(h:Hs.se s v){f:aC}(a:f∈v):Hs.rP s f:=(by grind[zP,Hs.rP,Hs.se])
def se.len(h:Hs.se s v):aA v<=s:=em (pP 0 v) (h 1).1
def rP.len{a:aC}(h:Hs.rP s a):aA a.y_<=s:=by have b:1+(a.y_.map (cV (0+1))).sum<=s:=(h 2).1;grind[pP]
def Hu(s:ByteArray)(w:aN)(g:gK w)(p:s.size<=maxLen)(k n:Nat)(b:eB (eA s)=.error (k,n)):W_ prog 20 #[Q_ s] w (rS w (eA s)):=by
 have m:dQ (eA s)=(k,n):=by unfold dQ;rw[b]
 have i:=(WN b).1;have d:=O (λo=>JS s (w.alloc o) (g.alloc o) p);rw[b]at d;have j:=O m;go_in;go_wp;apply (d _).mono;rintro e f ⟨a,q⟩;obtain rfl:e=bR (.tuple #[.pointer none,.agg #[Y k,Y n]]):=q;have ⟨hc,hf⟩:=wi a;have l:H_ w<H_ f:=by have:=a.size;simp at this;exact Z
 have c:=O a;go_wp2;go_region;go_wp2;refine Wx (v:=.tuple #[.pointer none,.agg #[Y k,Y n]]) (by simp[results,results20,go_sem,World.cell?_alloc_past,l,hc]) rfl ?_;unfold rS;rw[j];refine⟨?_,G_⟩;exact(((((dv _ _).alloc (Z) _).trans (c.mono s_)).setCell s_ _).setCell s_ _ |>.alloc la _).drew
def yh.Dk{F G:bL}{a:aN}{i:aX}(h:nK (eY s F t) F t i v)(l:∀b,F b->a.heap[b]?=t.heap[b]?)(j:∀b,F b->G b):nK (eY s G a) G a i v:=by rcases h with h|⟨g,c,e,m,k,p,r,q,n,o⟩;exact ea h;exact dz ⟨g,c,e,m,k,j _ p,G_,q,n,o.mono λ_ _ h=>(h.h_ l).mono j (Z)⟩
def UD{Z_:Prop}(Y_:Z_:=by go_wp2;refine Wx (v:=.tuple #[.pointer none,.agg #[Y 5,Y 0]]) (by simp[results,results20,go_sem,y0,y1]) rfl ?_;grind[rS,dw,Below.setCell]):Z_:=Y_
def TY{Z_:Prop}(Y_:Z_:=by
 go_wp2;go_roundg j;case measure=>exact Z
 case rel=>exact⟨k+1,Z,ll,HBW.trans ((dv _ _).drew.trans hb4),G_⟩):Z_:=Y_
def Uh(s:ByteArray)(w:aN)(hg:gK w)(hm:s.size<=maxLen)(a:List aC)(hp:eB (eA s)=.ok a):W_ prog 20 #[Q_ s] w (rS w (eA s)):=by
 have l:=mX hp;have hr:dQ (eA s)=lE 2001 a:=by unfold dQ;rw[hp]
 have HP:=O (λo=>JS s (w.alloc o) (hg.alloc o) hm);rw[hp]at HP;have hkl:=se.len l;have E:=O l;have HR:=O hr;have ax:=O hp;go_in;go_wp;apply (HP _).mono;rintro e A ⟨T,b,he,ab⟩;subst he;have ⟨hc,hf⟩:=wi T;have hz:H_ w<H_ A:=by have:=T.size;simp at this;exact Z
 have ⟨d,hrd⟩:=ab;obtain⟨d0,b',kv,rfl,az,bx,bo,n0,n1,n2,n3,ad⟩:=hrd.cells;cases az;obtain⟨S,G,rfl⟩:=ad.slice;have n3':=n3;have ar:=O hrd;have af:=O T;have L:nK (eY d0 (sm (H_ w+1) (H_ A+1)) (eF (eF A #[Y 0,Y 0] 38) #[P_ S (aA a) G,bP,.bool WD,Y 0,Y 0] 123)) (sm (H_ w+1) (H_ A+1)) (eF (eF A #[Y 0,Y 0] 38) #[P_ S (aA a) G,bP,.bool WD,Y 0,Y 0] 123) (P_ S (aA a) G) a:=yh.Dk ad ((by grind[ed,sm])) (λk x=>⟨by have:=x.1;simpa using this,by have:=x.2;exact Z⟩);have aj:=O L;have W:=O (uH a [109,97,105,110] _ _ _ Z d0 L);go_wp21;apply W.mono;rintro e t ⟨V,fp,rfl,y⟩;have q:=V;have C:R_ w t:=by rw[q];exact((((dv _ _).alloc (Z) _).trans (af.mono s_)).alloc Z _).alloc la _
 have H:mV (H_ A+1) (H_ w+1) a (P_ S (aA a) G) WD t ⟨[],0,0⟩:=by refine⟨⟨bP,?_,World.ownsRow_nil _ _ _ _⟩,?_⟩;rw[q];exact aV _ _ s_ _;rw[q];rcases aj with h|⟨g,ak,ao,vs,k1,k2,k3,k4,k5,k6⟩;exact ea h;exact dz ⟨g,ak,ao,vs,k1,k2,k3,k4,k5,(by grind[jN.mono,ve])⟩
 have al:Hid (nK (eY d0 (sm (H_ w+1) (H_ A+1)) t) (sm (H_ w+1) (H_ A+1)) t (P_ S (aA a) G) a):=G_;have br:H_ t=H_ A+2:=by rw[q];simp
 have x3:dR t b 3 (P_ S (aA a) G):=by grind[iN,ed,aW]
 have p:t.heap[H_ w]?=some (bO #[Y 0,Y 0] 38):=by grind[ed,ef,aV]
 have y0:=aB (i:=0) p aJ;have y1:=aB (i:=1) p aJ;have fy:∀o,t.frozen? (aL (H_ w) o)=WD:=λo=>aF p;have be:=fy 0;have bv:=fy 1;rw[<-q]at y;have ai:b<H_ t:=Z;have bg:H_ w<H_ t:=Z;have J:Hid (eY (d0+1) (sm (H_ w+1) (H_ A)) t (aY b) (aW [112,114,111,103,114,97,109] 0 [] a)):=by grind[sm,World.alloc,eY.h_]
 have HBEL:=O C;have an:=O H;have HRES:=O p;clear V C H p ar aj W fy n0 n1 n2 n3' hc hf af;generalize bu:H_ A+1=cb at*;cases D:dG a [109,97,105,110]with
 |none=>
  rw[D]at y;obtain rfl:fp=.pointer none:=y;have HN:Hid (dQ (eA s)=(5,0)):=by grind[lE]
  clear q;exact UD|some m=>
  rw[D]at y;obtain⟨r,mb,bz,rfl,rfl,bm,bj,m0,m1,m2,m3,aa⟩:=y.cells;obtain⟨bc,bi,rfl⟩:=aa.slice;have hmem:=ka D;have hmkl:=rP.len (se.mem E hmem);clear q y aa;by_cases ag:1<aA m.y_;have HN:Hid (dQ (eA s)=(5,0)):=by grind[lE]
  exact UD;have HN:Hid (dQ (eA s)=((eW a r [] a ⟨[],0,0⟩).kind,(eW a r [] a ⟨[],0,0⟩).l_)):=by show _=_;rw[HR];unfold lE;rw[D];simp only[ag,if_false];rw[QH a r 2001 a [] ⟨[],0,0⟩ λn hn=>⟨?_,qB _ _ (Hs.rP.le (se.mem E hn) Z)⟩];exact(eY.dp J) n hn
  go_wp2;go_loopg [8,9] (aA a) (λgk i er wr=>∃k:Nat,k+gk=aA a/\i=Y k/\Below cb t wr/\mV cb (H_ w+1) a (P_ S (aA a) G) WD wr (eW a r [] (a.take k) ⟨[],0,0⟩));case atStart=>exact⟨0,Z,rfl,dv _ _,an⟩
  case round=>
   obtain⟨k,bd,rfl,c,P⟩:=hrel;have hbb:=c.block b Z;have q3:=(iN hbb).trans x3;have hblr:=eh ai c.size;by_cases B:k<aA a
   .obtain⟨j,rfl⟩:∃j,gk=j+1:=⟨gk-1,Z⟩;rcases al.get with ⟨_,h0⟩|⟨g,ak,au,ae,aq,ba,I⟩;rw[h0]at B;simp at B;have ⟨u,hu,hru⟩:=I k B;cases au;have hgb:=c.block g ae.2;have r0:=(iN hgb).trans hu;have hgr:=eh aq c.size;have M:=hru.h_ (w':=wr) λk x=>c.block k x.2;obtain⟨d2,ub,bh,bn,rfl,bp,bw,u0,u1,u2,u3,-⟩:=M.cells;have l:=se.mem E (ga B);have Q:eW a r [] (a.take (k+1)) ⟨[],0,0⟩=gP a r (eW a r [] (a.take k) ⟨[],0,0⟩) a[k] (dG (a.take k) a[k].x_).isNone:=by rw[hQ B,QG];rfl
    have ap:aA (a.take k)=k:=by rw[ia];exact Z
    have ah:=yS (a.take k) a[k].x_ g G (sm (H_ w+1) cb) wr.drew Z hgr (r+1) (λi hi=>by have ⟨v,h1,h2⟩:=I i Z;refine⟨v,(iN (c.block g ae.2)).trans h1,?_⟩;rw[List.getElem_take];exact(h2.h_ (w':=wr) λk x=>c.block k x.2).vj aJ);rw[ap]at ah;have ay:=O ah;have HD:=O (λfirst=>Kq cb (H_ w+1) a _ Z (λf hf=>em (rP.len (se.mem E hf)) Z) r _ a[k] _ wr.drew first (P.vj rfl) (M.vj rfl) (l (r+1+0)).2 (by have:=(l (r+1)).1;exact Z));have am:=O Q;have HBW:=O c;have bf:k<=G:=Z;go_wp2;go_cut [9] (λer wc=>wc=wr.drew/\Dw (r+1) (sm (H_ w+1) cb) wr.drew (dG (a.take k) a[k].x_) er);case first=>go_region_law (go_simp;go_at_call 59;apply ay.mono;rintro e w3 ⟨aw,er,rfl,z⟩;obtain rfl:=aw.symm);all_goals go_wp;go_meet;case rel=>exact⟨aJ,z⟩
    case rest=>obtain⟨rfl,z⟩:=hcut;cases K:dG (a.take k) a[k].x_ with|none=>rw[K]at z am;obtain rfl:u9=.pointer none:=z;go_wp;refine sa (HD true) λw4 ⟨hb4,av⟩=>?_;exact TY|some f=>rw[K]at z am;obtain⟨d3,fb,bl,-,rfl,-⟩:=eY.cells z;go_wp;refine sa (HD WD) λw4 ⟨hb4,av⟩=>?_;exact TY
   obtain rfl:k=aA a:=Z;rw[jj]at P;obtain⟨bt,N,-⟩:=P.i_;obtain⟨bb,-,-,-,c3,c4,-⟩:=lX N;have hres1:=(c.block (H_ w) Z).trans HRES;have z0:=aB (i:=0) hres1 aJ;have z1:=aB (i:=1) hres1 aJ;have bq:wr.frozen? (aL (H_ w) 0)=WD:=aF hres1;have ca:wr.frozen? (aL (H_ w) 1)=WD:=aF hres1;have hzr:=Z;have HBW:=O (HBEL.trans (c.mono Z));have ac:=O (J.h_ (w':=wr) λk x=>c.block k (by have:=x.2;exact Z));generalize eW a r [] a ⟨[],0,0⟩=s1 at*;by_cases X:s1.kind=0
   .have e0:((s1.kind:Int) !=0)=WD:=by simp;exact Z
    go_wp2;apply Wx (v:=.tuple #[aY b,.agg #[Y 0,Y 0]]) (by simp[results,results20,go_sem,z0,z1]) rfl;unfold rS;rw[HN,ec (by exact X)];refine⟨(HBW.setCell s_ _).setCell s_ _,b,a,rfl,ax,r+1+1,eY.mono (F:=sm (H_ w+1) (H_ A)) (λk x=>⟨by have:=x.1;exact Z,?_⟩) (eY.h_ (λk x=>?_) ac) (Z)⟩;rotate_left;have h1:=x.2;simp;exact Z;have h1:=x.1;rw[ej _ _ _ _ (by show k≠H_ w;exact Z),ej _ _ _ _ (by show k≠H_ w;exact Z)]
   have e0:((s1.kind:Int) !=0)=true:=by simp;exact Z
   go_wp2;go_region;go_wp2;apply Wx (v:=.tuple #[.pointer none,.agg #[Y s1.kind,Y s1.l_]]) (by simp[results,results20,go_sem,z0,z1]) rfl;unfold rS;rw[HN,dy (by exact X)];exact⟨((HBW.setCell s_ _).setCell s_ _).drew,rfl⟩
def VV(s:ByteArray)(w:aN)(c:gK w)(b:s.size<=maxLen):W_ prog 20 #[Q_ s] w (rS w (eA s)):=by cases a:eB (eA s)with|error f=>exact Hu s w c b f.1 f.2 a|ok d=>exact Uh s w c b d a
