import Derived.Test.YthnhjhlinlhflaaGreatDoorP17
import Derived.Test.YthnhjhlinlhflaaGreatDoorP21
set_option linter.all false
set_option maxRecDepth 100000
set_option maxHeartbeats 0
open List renaming length->aA
open Go.World renaming alloc->h_,cell?->i9
open Option renaming some->Wj,none->Wk
open Bool renaming false->Wl,true->Wm
open Go renaming Calls->Wn
open Go.Proofs.Tryz renaming prog->Ww
open Go.Value renaming slice->Wz,string->WD,agg->W1,pointer->W_,iface->Xb
open Go.Obj renaming cells->Xe
namespace Go.Proofs.YthnhjhlinlhflaaGreatDoor
open Hs _root_.Go.Proofs.Tryz Go.RowKit
theorem FB.of_lt{a:Nat}{w b:aL}(h:cB w b)(c:a<H_ w):FB a a w b:=(by grind[FB.q_])
def DN(fp:iD)(F:bI)(w:aL)(xs:List Value)(code:List (Option aM)):Prop:=(aA xs)=aA code/\∀(i:Nat) o,code[i]?=Wj o->∃u,xs[i]?=Wj u/\(match o with|none=>u=.nilIface|some i=>lP fp F w u i)
theorem DN.j_{fp:iD}{F G:bI}{w w':aL}{c:List Value}{a:List (Option aM)}(h:DN fp F w c a)(d:∀b,F b->w'.heap[b]?=w.heap[b]?)(f:∀b,F b->G b):DN fp G w' c a:=⟨h.1,λi o e=>by grind[lP.j_,DN]⟩
def GI(fp:iD)(fb:Nat->Nat)(nms:cU)(F:bI)(w:aL)(fv:aU):Prop:=(nms=[]/\fv=bR)\/∃g cap,fv=Wz (Wj (aJ g 0)) (aA nms) cap/\F g/\aA nms<=cap/\g<w.heap.size/\∀k (h:k<aA nms),i9 w (aJ g k)=Wj (fp k)/\fp k=aW (fb k)/\F (fb k)/\∃x,w.heap[fb k]?=Wj (Xe #[WD (bs nms[k]),x] 199)
theorem GI.j_{fp:iD}{fb:Nat->Nat}{a:cU}{F G:bI}{w w':aL}{c:aU}(h:GI fp fb a F w c)(d:∀b,F b->w'.heap[b]?=w.heap[b]?)(f:∀b,F b->G b)(e:w.heap.size<=w'.heap.size):GI fp fb a G w' c:=by grind[World.cell?_of_block,GI]
structure CP(fp:iD)(fb:Nat->Nat)(nms:cU)(cb:Nat)(F:bI)(w:aL)(code:List (Option aM))(e_:cU):Prop where
 n_:∃fv cv sp,w.heap[cb]?=Wj (Xe #[fv,cv,sp] 197)/\(∃xs,w.ownsRow (cb+1) 271 1 cv (aA code) xs/\DN fp F w xs code)/\gR F w sp e_/\GI fp fb nms F w fv
 fix:∀k,F k->k<w.heap.size/\k≠cb/\lY cb w≠Wj k
section
variable {fp:iD} {fb:Nat->Nat} {nms:cU} {cb:Nat} {F:bI} {w w':aL} {code:List (Option aM)} {e_:cU}
theorem CP.lt(h:CP fp fb nms cb F w code e_):cb<w.heap.size:=by grind[CP.n_]
def qR{c a b:aU}(h:w.heap[cb]?=Wj (bM #[c,a,b] 197)):lY cb w=a.ownBlock:=by unfold lY;grind
theorem CP.grow(h:CP fp fb nms cb F w code e_)(c:cB w w'):CP fp fb nms cb F w' code e_:=by have ⟨fv,cv,sp,h1,⟨xs,h2,h3⟩,h4,h5⟩:=h.n_;have hF:=λb a=>c.block b (h.fix b a).1;refine⟨⟨fv,cv,sp,lm,⟨xs,lD h2 c,h3.j_ hF s_⟩,(by grind[gR.j_]),h5.j_ hF (s_) c.size⟩,λk d=>?_⟩;have ⟨e1,e2,e3⟩:=h.fix k d;grind[ej,lY]
def CP.new(h:CP fp fb nms cb F w code e_)(o:Obj):Loc cb cb w w.heap.size o (w.alloc o)/\CP fp fb nms cb F (w.alloc o) code e_:=by have a:=h.lt;have b:cB w (w.alloc o):=(by grind[eo,dw]);refine⟨⟨FB.of_lt b a,aS _ _ i_ _,λe=>?_,Z⟩,h.grow b⟩;have ⟨fv,cv,sp,h1,⟨xs,h2,_⟩,_⟩:=h.n_;rw[JM (b.block cb a),qR h1]at e;have:=dT h2 _ e;exact Z
def Sl:(prog.info? 271).map (λi=>(i.zero,i.size,i.bytes))=Wj (Wj .nilIface,1,16):=k_
def Uo(w:aL)(u:aU):∀j v,([u]:List Value)[j]?=Wj v->i9 (dZ w #[u] 271) ((⟨H_ w,0,Wk⟩:Addr).add j)=Wj v:=by intro j v a;match j,a with|0,a=>simp at a;subst a;simp[Addr.add]|j+1,a=>simp at a
def Dx(fp:iD)(F:bI)(w:aL)(u:aU):Option aM->Prop|none=>u=.nilIface|some i=>lP fp F w u i
def Dx.one{u:aU}{o:Option aM}(h:Dx fp F w u o):u.oneCell'=Wm/\(u=.nilIface\/∃t z,u=Xb t z):=by cases o with|none=>rw[show u=.nilIface from h];exact⟨i_,ea i_⟩|some i=>obtain⟨t,z,rfl⟩:=lP.form h;exact⟨i_,s_⟩
def Sg(a n:Nat)(C J A u:aU)(B:List Value)(w:aL)(g:w.heap[a]?=Wj (bM #[C,J,A] 197))(j:w.ownsRow (a+1) 271 1 J n B)(P:u.oneCell'=Wm)(V:u=.nilIface\/∃t z,u=dA t z)(hn:n<=1000000):Wn Ww 150 #[aW a,u] w λe w'=>e=bP (Y n)/\∃f,w'.heap[a]?=Wj (bM #[C,f,A] 197)/\w'.ownsRow (a+1) 271 1 f (n+1) (B++[u])/\FB a a w w':=by
 have ⟨i0,hi,hz0,hz1,hz2⟩:=info_parts Sl;obtain⟨x,c,rfl⟩:=gG j;have H:=aH g;have X:=aB (i:=1) g i_;have F:=O j;have L:=O g;have y:∀v∈([u]:List Value),v.oneCell'=Wm:=(by grind);have HONE:=O y;have p:∀o:aU,u=o->(o=.nilIface\/∃t z,o=dA t z)->Wn Ww 150 #[aW a,o] w λe w'=>e=bP (Y n)/\∃f,w'.heap[a]?=Wj (bM #[C,f,A] 197)/\w'.ownsRow (a+1) 271 1 f (n+1) (B++[o])/\FB a a w w':=by
  intro o e E;subst e;rcases E with rfl|⟨t,z,rfl⟩;all_goals
   go_in;go_wp2_with (at_builtin;refine wpList_append_lies _ r_ _ _ 195 r_ (a+1) 271 i0 _ 1 16 underlying195 hi hz0 hz1 hz2 rfl d_ (P_ x n c) n B r_ (F.alloc _) (aJ (H_ w) 0) 1 1 [_] r_ r_ (Uo w _) HONE d_ ky Z ku (H_ w+1) s_ ?_);intro M r I m d q T;have D:Wj a≠(Value.slice x n c).ownBlock:=λe=>by have:=(F.lt a e.symm).1;exact Z
   have b:I.heap[a]?=Wj (bM #[C,P_ x n c,A] 197):=by rw[d.block a ku D,ed _ _ _ H];exact Z
   have S:=aB (i:=1) b i_;have W:=aE b (i:=1);have G:M≠a:=by grind
   have HOWN:=O m;have K:=O d;have Q:=O q;have s:=O b;go_wp2;go_ret;refine⟨lj,P_ (Wj (aJ M 0)) (n+1) r,aN s,aX HOWN λk l=>eh _ _ _ _ (by cases l;exact G),⟨?_,λk l U N=>?_,λk l=>?_⟩⟩;exact(((dw a w).alloc Z _).grown K ku λk l=>by have:=(F.lt k l).1;exact Z).setCell (by exact fk a) _;rw[qR L]at N;rw[eh _ _ _ _ U,K.block k ku (G_),ed _ _ _ l];rw[qR (aN s.out),qR L]at*;cases l;grind
 exact p u i_ V
def CP.step{a:List (Option aM)}{i b d:aU}{xs':List Value}(h:CP fp fb nms cb F w code e_)(c:FB cb cb w w')(g:w'.heap[cb]?=Wj (Xe #[i,b,d] 197))(f:w'.ownsRow (cb+1) 271 1 b (aA a) xs')(q:DN fp F w' xs' a)(l:gR F w' d e_)(m:GI fp fb nms F w' i):CP fp fb nms cb F w' a e_:=⟨G_,λk j=>by obtain⟨n,o,p⟩:=h.fix k j;refine⟨ef n c.rP.size,o,λe=>?_⟩;grind[FB.row]⟩
theorem CP.fixed(h:CP fp fb nms cb F w code e_)(a:FB cb cb w w'):∀b,F b->w'.heap[b]?=w.heap[b]?:=(by grind[CP.fix,FB.n_])
def xN{u:aU}{o:Option aM}(h:CP fp fb nms cb F w code e_)(d:Dx fp F w u o)(n:aA code<=1000000):Wn Ww 150 #[aW cb,u] w λe w'=>e=bP (Y (aA code))/\CP fp fb nms cb F w' (code++[o]) e_/\FB cb cb w w':=by
 have ⟨fv,cv,sp,h1,⟨xs,h2,h3⟩,h4,h5⟩:=h.n_;have ⟨o1,o2⟩:=d.one;apply (Sg cb (aA code) fv cv sp u xs w h1 h2 o1 o2 n).mono;rintro e w' ⟨p,l,k,q,a⟩;have c:=h.fixed a;refine⟨p,h.step a k (by rw[et];exact q) ?_ ((by grind[gR.j_])) (h5.j_ c (s_) a.rP.size),a⟩;have m:=h3.j_ c zW;refine⟨by simp[h3.1],λi r b=>?_⟩;rcases gu i (aA code) with g|g;grind[DN];rw[jd g]at b;have f:i-aA code=0:=by grind
 rw[f]at b;simp at b;subst b;refine⟨u,by grind[DN],?_⟩;cases o with|none=>exact d|some j=>exact lP.j_ d c s_
def YQ(h:CP fp fb nms cb F w code e_)(g:aA e_<=1000000):Wn Ww 202 #[aW cb] w λe w'=>e=bP (Y (aA e_))/\w'=w:=by obtain⟨p,k,c,f,-,d,-⟩:=h.n_;have n:=aB (i:=2) f i_;cases e_ with|nil=>obtain rfl:c=W_ Wk:=d;go_in;go_wp2;go_ret;simp|cons x l=>obtain⟨b,o,rfl,j,a,i⟩:=d;have m:=aB (i:=1) a i_;simp at g;go_in;go_wp2;go_ret;simp
end
section
variable {fp:iD} {fb:Nat->Nat} {nms:cU} {cb:Nat} {F:bI} {w w':aL} {code:List (Option aM)} {e_:cU}
def Jw(w:aL)(a n:Nat)(x:bS)(p:Option Addr)(f:a<H_ w)(c:eJ w a 2 (W_ p))(d:w.frozen? (aJ a 2)=Wl) (b:Hid (Wn Ww 202 #[aW a] w.drew λe w'=>e=bP (Y n)/\w'=w.drew)):Wn Ww 148 #[aW a,Q_ (bs x)] w λe w'=>e=eV/\bZ (dZ (w.setCell (aJ a 2) (aW (H_ w))) #[Q_ (bs x),Y n,W_ p] 292) w':=by go_in;go_wp2;go_region_law (go_simp;go_at_call 202;apply pN b);all_goals go_wp2;go_end0;grind[bZ.drew]
def bZ.block{W a:aL}(h:bZ W a)(k:Nat):a.heap[k]?=W.heap[k]?:=by rw[h.heap]
def Z3(x:bS)(h:CP fp fb nms cb F w code e_)(r:aA e_<=1000000):Wn Ww 148 #[aW cb,Q_ (bs x)] w λe w'=>e=eV/\CP fp fb nms cb (λk=>F k\/k=w.heap.size) w' code (x::e_)/\FB cb cb w w':=by
 have d:=h.lt;have ⟨fv,cv,sp,f,⟨xs,i,h3⟩,h4,h5⟩:=h.n_;obtain⟨p,rfl⟩:=h4.form;have l:=h.grow (bZ.drew w).below;apply (Jw w cb (aA e_) x p d (aB f i_) (aE f) (YQ l r)).mono;rintro e w' ⟨s,a⟩;generalize c:dZ (w.setCell (aJ cb 2) (aW w.heap.size)) #[Q_ (bs x),Y (aA e_),W_ p] 292=W at a;have t:∀k,k<w.heap.size->k≠cb->w'.heap[k]?=w.heap[k]?:=λk f i=>by rw[a.heap,<-c,ed _ _ _ (by simpa using f),eh _ _ _ _ i]
 have g:w'.heap[cb]?=Wj (bM #[fv,cv,aW w.heap.size] 197):=by rw[a.heap,<-c,ed _ _ _ (by simpa using d)];exact aN f
 have j:w'.heap[w.heap.size]?=Wj (bM #[Q_ (bs x),Y (aA e_),W_ p] 292):=by rw[a.heap,<-c];exact aS _ _ s_ _
 have o:w'.heap.size=w.heap.size+1:=by rw[a.heap,<-c];simp
 have m:lY cb w'=lY cb w:=by grind[lY]
 have u:∀b,F b->w'.heap[b]?=w.heap[b]?:=(by grind[CP.fix]);have q:=λk (e:cv.ownBlock=Wj k)=>i.lt k e;refine⟨s,⟨⟨fv,cv,_,g,⟨xs,(by grind[aX]),(by grind[DN.j_])⟩,(by grind[gR.j_,gR]),(by grind[GI.j_])⟩,λk n=>?_⟩,⟨?_,G_,G_⟩⟩;grind[CP.fix,lY];refine⟨by rw[a.os,<-c];rfl,by rw[a.tape,<-c];rfl,by rw[a.output,<-c];rfl,Z,G_⟩
def Jv{x y:bS}{l:cU}(h:y∈x::l)(a:x≠y):y∈l/\dY (x::l) y=dY l y:=by grind[dY]
def WF(a:bS)(h:CP fp fb nms cb F w code e_)(n:a∈e_)(_hn:aA e_<=1000000):Wn Ww 251 #[aW cb,WD (bs a)] w λe w'=>e=bP (Y (dY e_ a))/\w'=w:=by
 obtain⟨J,B,k,j,-,i,-⟩:=h.n_;have H:=aH j;have E:=aB (i:=2) j i_;have C:Hid (gR F w k e_/\a∈e_):=⟨i,n⟩;obtain⟨p,rfl⟩:=i.form;clear h j i n;go_in;go_wp2;go_loopg [5] (aA e_) (λgk v wr=>∃l,aA l=gk/\gR F w v l/\a∈l/\dY l a=dY e_ a/\wr=w);case atStart=>grind[dz]
 case round=>
  obtain⟨l,t,u,d,g,rfl⟩:=hrel;cases l with|nil=>cases d|cons x l=>
   obtain⟨b,o,rfl,A,c,f⟩:=u;obtain⟨y,rfl⟩:=f.form;have G:=aB (i:=0) c i_;have D:=aB (i:=1) c i_;have z:=aB (i:=2) c i_;have q:=aH c;by_cases m:x=a
   .subst m;have s:dY (x::l) x=aA l:=by rw[dY,ec rfl]
    rw[s]at g;clear c f d;go_wp2;go_ret;simp
   have ⟨q1,q2⟩:=Jv d m;have r:((bs x).toList==(bs a).toList)=Wl:=by grind[bA]
   have I:=f;rw[q2]at g;clear c f d;go_wp2;go_roundg (aA l);case measure=>grind
   grind[dz]
def zS(a:bS)(h:CP fp fb nms cb F w code e_)(v:a∈nms)(I:aA nms<=1000000):Wn Ww 91 #[aW cb,WD (bs a)] w λe w'=>e=bP (fp (nms.findIdx λx=>x==a))/\w'=w:=by
 obtain⟨L,G,D,f,-,-,r⟩:=h.n_;rcases r with ⟨rfl,_⟩|⟨g,k,rfl,A,n,B,b⟩;cases v;have H:=aH f;have M:=aB (i:=0) f i_;have o:=O b;clear h f b;go_in;go_wp2;go_loopg [6,12] (aA nms) (λgk _ i wr=>∃j:Nat,j+gk=aA nms/\i=Y j/\j<=nms.findIdx (λx=>x==a)/\wr=w);case atStart=>simp
 case round=>
  obtain⟨j,K,rfl,z,rfl⟩:=hrel;have C:nms.findIdx (λx=>x==a)<aA nms:=(by grind);have d:j<aA nms:=Z;obtain⟨m,rfl⟩:∃m,gk=m+1:=⟨gk-1,Z⟩;have ⟨e1,e2,e3,x,e4⟩:=o j d;rw[e2]at e1;have t:=aB (i:=0) e4 i_;have p:=aH e4;have J:(0:Int)<=(j:Int):=Z;have E:(j:Int)<(aA nms:Int):=Z;by_cases u:nms[j]=a
  .have l:nms.findIdx (λx=>x==a)=j:=by grind
   have s:=O e2;rw[u]at t;clear e4 e2 o;go_wp2;go_ret;exact⟨by rw[l,s.out];rfl,rfl⟩
  have q:((bs nms[j]).toList==(bs a).toList)=Wl:=by grind[bA]
  have c:j+1<=nms.findIdx (λx=>x==a):=by grind
  generalize nms[j]=y at*;clear e4 e2;go_wp2;go_roundg m;case measure=>exact Z
  case rel=>exact⟨j+1,Z,lj,c,rfl⟩
end
def zJ(w:aL)(a:Nat)(l k:Int)(P:lF) (b:Hid (Wn Ww 150 #[aW a,Xb 266 (W1 #[Xb 262 (Y k)])] (h_ w (Xe #[Y l,Y k] 366)) λe w'=>(∃k:Nat,e=bP (Y k))/\P w')):Wn Ww 234 #[aW a,Xb 366 (W1 #[Y l,Y k])] w λe w'=>e=eV/\P w':=by go_in;go_wp;apply b.mono;rintro e c ⟨⟨m,rfl⟩,d⟩;go_wp2;go_end0;grind
def NQ(w:aL)(a:Nat)(l:Int)(s:ByteArray)(P:lF) (b:Hid (Wn Ww 150 #[aW a,Xb 266 (W1 #[Xb 322 (WD s)])] (h_ w (Xe #[Y l,WD s] 395)) λe w'=>(∃k:Nat,e=bP (Y k))/\P w')):Wn Ww 234 #[aW a,Xb 395 (W1 #[Y l,WD s])] w λe w'=>e=eV/\P w':=by go_in;go_wp;apply b.mono;rintro e c ⟨⟨m,rfl⟩,d⟩;go_wp2;go_end0;grind
def YZ(w:aL)(a:Nat)(l:Int)(b:Bool)(P:lF) (c:Hid (Wn Ww 150 #[aW a,Xb 266 (W1 #[Xb 320 (.bool b)])] (h_ w (Xe #[Y l,.bool b] 397)) λe w'=>(∃k:Nat,e=bP (Y k))/\P w')):Wn Ww 234 #[aW a,Xb 397 (W1 #[Y l,.bool b])] w λe w'=>e=eV/\P w':=by go_in;go_wp;apply c.mono;rintro e d ⟨⟨m,rfl⟩,f⟩;go_wp2;go_end0;grind
def GT(w:aL)(a:Nat)(l:Int)(s:ByteArray)(k:Nat)(P:lF) (c:Hid (Wn Ww 251 #[aW a,WD s] (h_ w (Xe #[Y l,WD s] 345)) λe w'=>e=bP (Y k)/\w'=h_ w (Xe #[Y l,WD s] 345))) (b:Hid (Wn Ww 150 #[aW a,Xb 398 (W1 #[Y k])] (h_ w (Xe #[Y l,WD s] 345)) λe w'=>(∃k:Nat,e=bP (Y k))/\P w')):Wn Ww 234 #[aW a,Xb 345 (W1 #[Y l,WD s])] w λe w'=>e=eV/\P w':=by go_in;go_wp;apply pN c;go_wp21;apply b.mono;rintro e f ⟨⟨m,rfl⟩,d⟩;go_wp2;go_end0;grind
def YY(w:aL)(d n c:Nat)(l:Int)(x:Option Addr)(P Q:lF) (i:Hid (Wn Ww 250 #[aW d,Wz x n c] (h_ w (Xe #[Y l,Wz x n c] 347)) λe w'=>e=eV/\Q w')) (f:Hid (∀W,Q W->i9 W (aJ (H_ w) 1)=Wj (Wz x n c)/\H_ w<H_ W)) (g:Hid (∀W,Q W->Wn Ww 150 #[aW d,Xb 400 (W1 #[Y n])] W λe w'=>(∃k:Nat,e=bP (Y k))/\P w')):Wn Ww 234 #[aW d,Xb 347 (W1 #[Y l,Wz x n c])] w λe w'=>e=eV/\P w':=by go_in;go_wp;refine rB i λj b=>?_;obtain⟨o,q⟩:=f _ b;have a:=O (g _ b);clear b;go_wp21;apply a.mono;rintro e r ⟨⟨m,rfl⟩,p⟩;go_wp2;go_end0;grind
def TO(w:aL)(c:Nat)(l:Int)(j a:TypeId)(f b:aU)(P Q R:lF) (r:Hid (Wn Ww 234 #[aW c,Xb j f] (h_ w (Xe #[Y l,Xb j f,Xb a b] 349)) λe w'=>e=eV/\Q w')) (o:Hid (∀W,Q W->i9 W (aJ (H_ w) 2)=Wj (Xb a b)/\H_ w<H_ W)) (p:Hid (∀W,Q W->Wn Ww 234 #[aW c,Xb a b] W λe w'=>e=eV/\R w')) (q:Hid (∀W,R W->Wn Ww 150 #[aW c,Xb 401 (W1 #[])] W λe w'=>(∃k:Nat,e=bP (Y k))/\P w')):Wn Ww 234 #[aW c,Xb 349 (W1 #[Y l,Xb j f,Xb a b])] w λe w'=>e=eV/\P w':=by go_in;go_wp;refine rB r λs g=>?_;obtain⟨t,v⟩:=o _ g;have i:=O (p _ g);clear g;go_wp21;refine rB i λy n=>?_;have d:=O (q _ n);clear n;go_wp21;apply d.mono;rintro e u ⟨⟨m,rfl⟩,x⟩;go_wp2;go_end0;grind
def TN(w:aL)(f:Nat)(l:Int)(a:ByteArray)(g:TypeId)(c:aU)(P Q:lF) (n:Hid (Wn Ww 234 #[aW f,Xb g c] (h_ w (Xe #[Y l,WD a,Xb g c] 351)) λe w'=>e=eV/\Q w')) (i:Hid (∀W,Q W->i9 W (aJ (H_ w) 1)=Wj (WD a)/\H_ w<H_ W)) (j:Hid (∀W,Q W->Wn Ww 150 #[aW f,Xb 403 (W1 #[WD a])] W λe w'=>(∃k:Nat,e=bP (Y k))/\P w')):Wn Ww 234 #[aW f,Xb 351 (W1 #[Y l,WD a,Xb g c])] w λe w'=>e=eV/\P w':=by go_in;go_wp;refine rB n λo d=>?_;obtain⟨p,r⟩:=i _ d;have b:=O (j _ d);clear d;go_wp21;apply b.mono;rintro e q ⟨⟨m,rfl⟩,s⟩;go_wp2;go_end0;grind
def zK(w:aL)(g:Nat)(l:Int)(a:ByteArray)(d b:TypeId)(f c:aU)(P:lF) (i:Hid (Wn Ww 279 #[aW g,W1 #[Y l,WD a,Xb d f,Xb b c]] (h_ w (Xe #[Y l,WD a,Xb d f,Xb b c] 353)) λe w'=>e=eV/\P w')):Wn Ww 234 #[aW g,Xb 353 (W1 #[Y l,WD a,Xb d f,Xb b c])] w λe w'=>e=eV/\P w':=by go_in;go_wp;refine rB i λj k=>?_;go_wp2;go_end0;grind
def xM(w:aL)(a n c:Nat)(l:Int)(s:ByteArray)(x:Option Addr)(P:lF) (b:Hid (Wn Ww 254 #[aW a,W1 #[Y l,WD s,Wz x n c]] (h_ w (Xe #[Y l,WD s,Wz x n c] 342)) λe w'=>e=eV/\P w')):Wn Ww 234 #[aW a,Xb 342 (W1 #[Y l,WD s,Wz x n c])] w λe w'=>e=eV/\P w':=by go_in;go_wp;refine rB b λd f=>?_;go_wp2;go_end0;grind
def UY{Z_:Prop}(Y_:Z_:=by
 obtain⟨j,hj,rfl,hC⟩:=hrel;by_cases hlt:j<n
 .obtain⟨m,rfl⟩:∃m,gk=m+1:=⟨gk-1,Z⟩;obtain⟨hg,t,z,c1,hcl⟩:=HC _ _ hC hlt;have HX:=O hcl;have e1:(0:Int)<=(j:Int):=Z;have e2:(j:Int)<(n:Int):=Z;clear hC hcl;go_wp2_with fail;refine rB HX λw1 h1=>?_;go_wp2;go_roundg m;case measure=>exact Z
  grind
 have hjn:j=n:=Z;subst hjn;have HC':=O hC;clear hC;go_wp2;go_end0;exact⟨i_,HC'⟩):Z_:=Y_
def S6(w:aL)(c g n a:Nat)(C:Nat->World->Prop)(f:n<=1000000)(b:C 0 w) (HC:Hid (∀j W,C j W->j<n->g<H_ W/\∃t z,i9 W (aJ g j)=Wj (Xb t z)/\Wn Ww 234 #[aW c,Xb t z] W λe w'=>e=eV/\C (j+1) w')):Wn Ww 250 #[aW c,Wz (Wj (aJ g 0)) n a] w λe w'=>e=eV/\C n w':=by
 have d:=O b;clear b;go_in;go_wp2;go_loopg [5,8] n (λgk _ i wr=>∃j:Nat,j+gk=n/\i=Y j/\C j wr);case atStart=>grind[dz]
 case round=>exact UY
def Gx(w:aL)(a:Nat):Wn Ww 250 #[aW a,bR] w λe w'=>e=eV/\w'=w:=by
 go_in;go_wp2;go_loopg [5,8] 0 (λ_ _ i wr=>i=Y 0/\wr=w);case atStart=>simp
 case round=>go_wp2;go_end0;simp
def B5(w:aL)(d n c:Nat)(l:Int)(x:Option Addr)(P Q:lF) (i:Hid (Wn Ww 250 #[aW d,Wz x n c] (h_ w (Xe #[Y l,WD (bs [108,101,110]),Wz x n c] 342)) λe w'=>e=eV/\Q w')) (f:Hid (∀W,Q W->i9 W (aJ (H_ w) 1)=Wj (WD (bs [108,101,110]))/\H_ w<H_ W)) (g:Hid (∀W,Q W->Wn Ww 150 #[aW d,Xb 410 (W1 #[])] W λe w'=>(∃k:Nat,e=bP (Y k))/\P w')):Wn Ww 254 #[aW d,W1 #[Y l,WD (bs [108,101,110]),Wz x n c]] w λe w'=>e=eV/\P w':=by
 have r:((bs [108,101,110]).toList==[108,101,110])=Wm:=by rw[bA];rfl
 generalize bs [108,101,110]=t at*;go_in;go_wp;refine rB i λj b=>?_;obtain⟨o,q⟩:=f _ b;have a:=O (g _ b);clear b;go_wp21;apply a.mono;rintro e s ⟨⟨m,rfl⟩,p⟩;go_wp2;go_end0;grind
def QS(w:aL)(d n c:Nat)(l:Int)(x:Option Addr)(P Q:lF) (i:Hid (Wn Ww 250 #[aW d,Wz x n c] (h_ w (Xe #[Y l,WD (bs [114,101,97,100]),Wz x n c] 342)) λe w'=>e=eV/\Q w')) (f:Hid (∀W,Q W->i9 W (aJ (H_ w) 1)=Wj (WD (bs [114,101,97,100]))/\H_ w<H_ W)) (g:Hid (∀W,Q W->Wn Ww 150 #[aW d,Xb 411 (W1 #[])] W λe w'=>(∃k:Nat,e=bP (Y k))/\P w')):Wn Ww 254 #[aW d,W1 #[Y l,WD (bs [114,101,97,100]),Wz x n c]] w λe w'=>e=eV/\P w':=by
 have s:((bs [114,101,97,100]).toList==[108,101,110])=Wl:=by rw[bA];rfl
 have q:((bs [114,101,97,100]).toList==[114,101,97,100])=Wm:=by rw[bA];rfl
 generalize bs [114,101,97,100]=u at*;go_in;go_wp;refine rB i λj b=>?_;obtain⟨o,r⟩:=f _ b;have a:=O (g _ b);clear b;go_wp21;apply a.mono;rintro e t ⟨⟨m,rfl⟩,p⟩;go_wp2;go_end0;grind
def LN(w:aL)(f n c i:Nat)(l:Int)(a:bS)(x:Option Addr)(P Q:lF)(d:a≠[108,101,110])(j:a≠[114,101,97,100]) (r:Hid (Wn Ww 250 #[aW f,Wz x n c] (h_ w (Xe #[Y l,WD (bs a),Wz x n c] 342)) λe w'=>e=eV/\Q w')) (p:Hid (∀W,Q W->i9 W (aJ (H_ w) 1)=Wj (WD (bs a))/\i9 W (aJ (H_ w) 2)=Wj (Wz x n c)/\H_ w<H_ W)) (o:Hid (∀W b,Q W->bZ W b->Wn Ww 91 #[aW f,WD (bs a)] b λe w'=>e=bP (aW i)/\w'=b)) (q:Hid (∀W b,Q W->bZ W b->Wn Ww 150 #[aW f,Xb 413 (W1 #[aW i,Y n])] b λe w'=>(∃k:Nat,e=bP (Y k))/\P w')):Wn Ww 254 #[aW f,W1 #[Y l,WD (bs a),Wz x n c]] w λe w'=>e=eV/\P w':=by
 have B:((bs a).toList==[108,101,110])=Wl:=by grind[bA]
 have y:((bs a).toList==[114,101,97,100])=Wl:=by grind[bA]
 clear d j;go_in;go_wp;refine rB r λs d=>?_;obtain⟨t,z,v⟩:=p _ d;have g:=O d;clear d;go_wp2;go_region_law (go_simp;first|(go_at_call 91;apply pN (o _ _ g (bZ.drew _)))|(go_at_call 150;apply (q _ _ g (bZ.drew _)).mono;rintro e u ⟨⟨m,rfl⟩,A⟩));all_goals go_wp2;go_end0;grind
def UD(w:aL)(g:Nat)(l:Int)(a:bS)(o d:TypeId)(j f:aU)(P Q R:lF)(c:a≠[38,38])(b:a≠[124,124]) (u:Hid (Wn Ww 234 #[aW g,Xb o j] (h_ w (Xe #[Y l,WD (bs a),Xb o j,Xb d f] 353)) λe w'=>e=eV/\Q w')) (q:Hid (∀W,Q W->i9 W (aJ (H_ w) 1)=Wj (WD (bs a))/\i9 W (aJ (H_ w) 3)=Wj (Xb d f)/\H_ w<H_ W)) (r:Hid (∀W,Q W->Wn Ww 234 #[aW g,Xb d f] W λe w'=>e=eV/\R w')) (p:Hid (∀W,R W->i9 W (aJ (H_ w) 1)=Wj (WD (bs a))/\H_ w<H_ W)) (t:Hid (∀W,R W->Wn Ww 150 #[aW g,Xb 432 (W1 #[WD (bs a)])] W λe w'=>(∃k:Nat,e=bP (Y k))/\P w')):Wn Ww 279 #[aW g,W1 #[Y l,WD (bs a),Xb o j,Xb d f]] w λe w'=>e=eV/\P w':=by
 have C:((bs a).toList==[38,38])=Wl:=by grind[bA]
 have A:((bs a).toList==[124,124])=Wl:=by grind[bA]
 clear c b;generalize bs a=ob at*;go_in;go_wp;refine rB u λv c=>?_;obtain⟨x,B,z⟩:=q _ c;have n:=O (r _ c);clear c;go_wp21;refine rB n λD b=>?_;have ⟨d1,d2⟩:=p _ b;have i:=O (t _ b);clear b;go_wp21;apply i.mono;rintro e y ⟨⟨m,rfl⟩,s⟩;go_wp21;exact⟨i_,_,results_none r_ _ _ _,rfl,s⟩
def UC(w:aL)(a k:Nat)(l:Int)(b:Bool)(d:bS)(v i:TypeId)(r j:aU)(P Q y R S:lF)(q:d=if b then [124,124]else [38,38]) (E:Hid (Wn Ww 234 #[aW a,Xb v r] (h_ w (Xe #[Y l,WD (bs d),Xb v r,Xb i j] 353)) λe w'=>e=eV/\Q w')) (A:Hid (∀W,Q W->i9 W (aJ (H_ w) 1)=Wj (WD (bs d))/\H_ w<H_ W)) (G:Hid (∀W,Q W->Wn Ww 150 #[aW a,.nilIface] W λe w'=>e=bP (Y k)/\y w')) (x:Hid (∀W,y W->i9 W (aJ (H_ w) 3)=Wj (Xb i j)/\H_ w<H_ W)) (F:Hid (∀W,y W->Wn Ww 234 #[aW a,Xb i j] W λe w'=>e=eV/\R w')) (I:Hid (∀W,R W->Wn Ww 150 #[aW a,Xb 433 (W1 #[])] W λe w'=>(∃k:Nat,e=bP (Y k))/\S w')) (f:Hid (∀W,S W->i9 W (aJ (H_ w) 1)=Wj (WD (bs d))/\H_ w<H_ W/\a<H_ W/\∃g n c,i9 W (aJ a 1)=Wj (Wz (Wj (aJ g 0)) n c)/\k<n/\n<=1000000/\(∃u,i9 W (aJ g k)=Wj u)/\W.frozen? (aJ g k)=Wl/\g<H_ W/\∀D,bZ (W.setCell (aJ g k) (Xb 435 (W1 #[.bool b,Y n]))) D->P D)):Wn Ww 279 #[aW a,W1 #[Y l,WD (bs d),Xb v r,Xb i j]] w λe w'=>e=eV/\P w':=by have H:∃ob:ByteArray,ob=bs d/\(ob.toList==[38,38])=!b/\(ob.toList==[124,124])=b:=(by grind[bA]);have ⟨ob,ho,e1,e2⟩:=H;rw[<-ho]at E A f⊢;clear ho q;cases b;all_goals simp[Bool.not_true,Bool.not_false]at e1;go_in;go_wp;refine rB E λK s=>?_;obtain⟨L,U⟩:=A _ s;have z:=O (G _ s);clear s;go_wp21;refine rB z λX p=>?_;have ⟨d1,d2⟩:=x _ p;have t:=O (F _ p);clear p;go_wp21;refine rB t λM C=>?_;have o:=O (I _ C);clear C;go_wp21;apply o.mono;rintro e J ⟨⟨m,rfl⟩,B⟩;have ⟨f1,f2,f3,g,n,c,f4,f5,f6,⟨u,f7⟩,f8,f9,f10⟩:=f _ B;have T:=O f10;have V:(0:Int)<=(k:Int):=Z;have N:(k:Int)<(n:Int):=Z;clear B f10;go_wp2;go_region;all_goals go_wp2;go_end0;grind[dz,bZ.drew]
theorem sV(c:aC->Nat->List aM):∀(l m:List aC) (p:Nat),bC c (l++m) p=bC c l p++bC c m (p+aA (bC c l p))|[],m,p=>by simp[bC]|a::l,m,p=>by rw[il,bC,bC,sV c l m,gv,et,Nat.add_assoc]
def JJ(c:aC->Nat->List aM)(a:aC)(p:Nat):bC c [a] p=c a p:=by simp[bC]
def WJ(c:aC->Nat->List aM)(a b:aC)(p:Nat):bC c [a,b] p=c a p++c b (p+aA (c a p)):=by simp[bC]
section
variable (fs:List aC) (e_:cU) (d:Nat) (a:aC) (p:Nat)
def Q5(h:a.op=[48]):aF fs e_ (d+1) a p=[.push (bB (((dQ 0 a.x_).getD 0:Nat):Int))]:=by rw[aF];simp[h]
def Hz(h:a.op=[115]):aF fs e_ (d+1) a p=[.push (bT a.x_)]:=by rw[aF];simp[h]
def S8(h:a.op=[98,111,111,108]):aF fs e_ (d+1) a p=[.push (cF (a.x_==[116,114,117,101]))]:=by rw[aF];simp[h]
def Rq(h:a.op=[110,97,109,101]):aF fs e_ (d+1) a p=[.load (dY e_ a.x_)]:=by rw[aF];simp[h]
def S7(h:a.op=[108,105,115,116]):aF fs e_ (d+1) a p=bC (aF fs e_ d) a.y_ p++[.list (aA a.y_)]:=by rw[aF];simp[h]
def YX(h:a.op=[105,110,100,101,120]):aF fs e_ (d+1) a p=bC (aF fs e_ d) a.y_ p++[.index]:=by rw[aF];simp[h]
def YV(o:UInt8)(b:o=45\/o=33)(h:a.op=[o,120]):aF fs e_ (d+1) a p=bC (aF fs e_ d) a.y_ p++[.unary [o]]:=by grind[aF]
def KZ(h:a.op=[99,97,108,108]):aF fs e_ (d+1) a p=bC (aF fs e_ d) a.y_ p++[if a.x_==[108,101,110]then .length else if a.x_==[114,101,97,100]then .read else .call (dU fs a.x_) (aA a.y_)]:=by rw[aF];simp[h]
def YW(b:Bool)(l r:aC)(h:a.op=if b then [124,124]else [38,38])(c:a.y_=[l,r]):aF fs e_ (d+1) a p=aF fs e_ d l p++[.sr b (p+aA (aF fs e_ d l p)+1+aA (aF fs e_ d r (p+aA (aF fs e_ d l p)+1))+1)]++aF fs e_ d r (p+aA (aF fs e_ d l p)+1)++[.tr]:=by rw[aF];cases b<;>simp[h,c]
def TM(h:cR a.op≠9)(b:a.op≠[38,38])(c:a.op≠[124,124]):aF fs e_ (d+1) a p=bC (aF fs e_ d) a.y_ p++[.binary a.op]:=by rcases pF h with e|e|e|e|e|e|e|e|e|e|e;all_goals first|exact ep e c|exact ep e b|(rw[aF];simp[e])
end
def OO:∀(l:bS) (n k:Nat),n<=9223372036854775807->dQ n l=Wj k->k<=9223372036854775807|[],n,k,a,h=>by grind[dQ]|c::r,n,k,a,h=>by rw[dQ]at h;split at h;cases h;refine OO r _ k ?_ h;grind[UInt8.toNat_lt,rO]
section
variable {fp:iD} {fb:Nat->Nat} {nms:cU} {cb:Nat} {F:bI} {w w':aL} {code:List (Option aM)} {e_:cU}
def CP.patch{a b:List (Option aM)}(h:CP fp fb nms cb F w (a++Wk::b) e_):∃g c,i9 w (aJ cb 1)=Wj (Wz (Wj (aJ g 0)) (aA (a++Wk::b)) c)/\(∃x,i9 w (aJ g (aA a))=Wj x)/\w.frozen? (aJ g (aA a))=Wl/\g<H_ w/\∀u i e,lP fp F w u i->bZ (w.setCell (aJ g (aA a)) u) e->CP fp fb nms cb F e (a++Wj i::b) e_/\FB cb cb w e:=by
 have ⟨fv,cv,sp,h1,⟨xs,h2,h3⟩,h4,h5⟩:=h.n_;have A:=h.lt;have J:aA (a++Wk::b)=aA a+aA b+1:=G_;rcases h2.2 with ⟨_,z⟩|⟨g,c,l,rfl,z,n,H,C,G,I⟩;exact Z;have y:=aH n;have m:∃x,l[aA a]?=Wj x:=⟨_,ft Z⟩;have ⟨x,hx⟩:=m;refine⟨g,c,aB h1 i_,⟨x,aB n hx⟩,aE n,y,λu i e D f=>?_⟩;have q:∀k,k≠g->e.heap[k]?=w.heap[k]?:=λk q=>by rw[f.heap,eh _ _ _ _ q]
 have B:lY cb w=Wj g:=qR h1;have p:e.heap[cb]?=_:=(q cb Z).trans h1;have d:FB cb cb w e:=⟨⟨f.os.trans i_,f.tape.trans i_,f.output.trans i_,by rw[f.heap];simp,G_⟩,G_,(by grind[lY])⟩;have r:=h.fixed d;refine⟨h.step (xs':=xs.set (aA a) u) d p ⟨G_,dv ⟨g,c,l.setIfInBounds (aA a) u,s_,z,by rw[f.heap];exact aN n,G_,C,G_,?_⟩⟩ ?_ ((by grind[gR.j_])) (h5.j_ r (s_) d.rP.size),d⟩;grind[List.take_set];have v:=h3.j_ r zW;refine⟨G_,λj o s=>?_⟩;by_cases E:j=aA a;subst E;rw[jd (Z)]at s;simp at s;subst s;exact⟨u,G_,lP.j_ D r s_⟩;have t:(a++Wk::b)[j]?=Wj o:=by grind
 have ⟨u',e1,e2⟩:=v.2 j o t;grind
end
def iH(fp:iD)(fb:Nat->Nat)(nms:cU)(cb:Nat)(F:bI)(w:aL)(code:List (Option aM))(e_:cU)(w':aL):Prop:=CP fp fb nms cb F w' code e_/\FB cb cb w w'
def ME(fp:iD)(fb:Nat->Nat)(fs:List aC)(cb lo:Nat)(F:bI)(a_:Bool)(e_:cU)(d:Nat):Prop:=∀(v:aU) (a:aC) (code:List (Option aM)) (w:aL),CP fp fb (fs.map (·.x_)) cb F w code e_->PN (si lo cb) w v a->Hs.rE fs a_ e_ d a->rK d a->aA code+aA (aF fs e_ d a (aA code))<=1000000->Wn Ww 234 #[aW cb,v] w λe w'=>e=eV/\iH fp fb (fs.map (·.x_)) cb F w (code++(aF fs e_ d a (aA code)).map Wj) e_ w'
section
variable {fp:iD} {fb:Nat->Nat} {fs:List aC} {cb lo:Nat} {F:bI} {a_:Bool} {e_:cU} {d:Nat}
theorem iH.then{w c d:aL}{b:cU}{a:List (Option aM)}(e:FB cb cb w c)(h:iH fp fb b cb F c a e_ d):iH fp fb b cb F w a e_ d:=⟨h.1,e.trans h.2⟩
def sy.um{F:bI}{w:aL}{v:aU}{l:List aC}(h:sy F w v l):∃x c,v=Wz x (aA l) c:=by grind[sy.get]
def rE.op{g:List aC}{c:Bool}{b:cU}{d:Nat}{a:aC}(h:Hs.rE g c b (d+1) a):(∀k∈a.y_,Hs.rE g c b d k)/\(a.op=[110,97,109,101]->a.x_∈b)/\(a.op=[99,97,108,108]->a.x_=[108,101,110]\/a.x_=[114,101,97,100]\/(a.x_≠[108,101,110]/\a.x_≠[114,101,97,100]/\gC g (dU g a.x_)=Wj (aA a.y_))):=by rcases h with ⟨e,i⟩|⟨e,i,f⟩|⟨e,f⟩|⟨e,l,r,i,f,j⟩|⟨e,l,i,f⟩|⟨e,f,j⟩|⟨e,l,r,i,f,j⟩;grind;grind;grind;grind;grind;grind;grind[cR]
def yI(s:ME fp fb fs cb lo F a_ e_ d)(v:aU)(l:List aC)(b:List (Option aM))(w:aL)(h:CP fp fb (fs.map (·.x_)) cb F w b e_)(x:sy (si lo cb) w v l)(A:∀a∈l,Hs.rE fs a_ e_ d a)(y:∀a∈l,rK d a)(r:aA l<=1000000)(B:aA b+aA (bC (aF fs e_ d) l (aA b))<=1000000):Wn Ww 250 #[aW cb,v] w λe w'=>e=eV/\iH fp fb (fs.map (·.x_)) cb F w (b++(bC (aF fs e_ d) l (aA b)).map Wj) e_ w':=by
 rcases x.get with ⟨rfl,rfl⟩|⟨g,c,rfl,n,f,i,z⟩;apply (Gx w cb).mono;grind[bC,FB.refl,iH];refine(S6 w cb g (aA l) c (λj W=>j<=aA l/\iH fp fb (fs.map (·.x_)) cb F w (b++(bC (aF fs e_ d) (l.take j) (aA b)).map Wj) e_ W) r (by grind[bC,FB.refl,iH]) λj W o m=>?_).mono ?_;have ⟨_,hcp,hfb⟩:=o;have ⟨u,hu,hn'⟩:=z j m;obtain⟨T,q,rfl⟩:=hn'.form;have htk:=gw m;have t:bC (aF fs e_ d) (l.take (j+1)) (aA b)=bC (aF fs e_ d) (l.take j) (aA b)++aF fs e_ d l[j] (aA b+aA (bC (aF fs e_ d) (l.take j) (aA b))):=by rw[htk,sV,JJ]
 have k:aA (bC (aF fs e_ d) (l.take (j+1)) (aA b))<=aA (bC (aF fs e_ d) l (aA b)):=by grind[List.take_append_drop,sV]
 refine⟨ef f hfb.rP.size,T,W1 q,by rw[hfb.rP.cell (p:=(aJ g j)) n.2];exact hu,(s _ l[j] _ W hcp (hn'.below hfb.rP) (G_) (G_) ?_).mono ?_⟩;grind;grind[iH.then];simp
def uq{b:cU}{w W:aL}{a:List (Option aM)}{u:aU}{i:aM}(c:iH fp fb b cb F w a e_ W)(d:lP fp F W u i)(f:aA a+1<=1000000):Wn Ww 150 #[aW cb,u] W λe w'=>(∃k:Nat,e=bP (Y k))/\iH fp fb b cb F w (a++[Wj i]) e_ w':=by apply (xN (o:=Wj i) c.1 d Z).mono;grind[FB.trans,iH]
theorem KV(a:List aC)(x:bS):(a.map (·.x_)).findIdx (λy=>y==x)=dU a x:=by unfold dU;induction a with|nil=>rfl|cons f a b=>grind
def sI(a:List (Option aM))(c:List aM):aA (a++c.map Wj)=aA a+aA c:=s_
def W7(IH:ME fp fb fs cb lo F a_ e_ d)(ar:aA e_<=1000000)(bp:aA fs<=1000000)(bn:∀k,k<aA fs->fp k=aW (fb k)):ME fp fb fs cb lo F a_ e_ (d+1):=by
 intro v a f w h be ai ba m;obtain⟨T,s,ps,rfl,bf,au⟩:=be.parts;have ⟨hlit,hk1,hlik⟩:=ba;have z:=rE.op ai;have ⟨hloc,hcp⟩:=h.new (bM s T)
 have t:∀p∈ps,vg.ok (si lo cb) (h_ w (bM s T)) p:=λp M=>by
  rcases au p M with ⟨S,b,h2,h3⟩|⟨S,h2⟩
  .exact ea ⟨S,b,h2,h3.below hloc.fb.rP⟩
  exact dv ⟨S,sy.below h2 hloc.fb.rP⟩
 have bo:∀{W:aL} {c:List (Option aM)},iH fp fb (fs.map (·.x_)) cb F (h_ w (bM s T)) c e_ W->W.heap[w.heap.size]?=Wj (bM s T):=λA=>(hloc.step A.2).n_
 have B:∀{c:List (Option aM)} {e:Ending} {W:aL},(e=eV/\iH fp fb (fs.map (·.x_)) cb F (h_ w (bM s T)) c e_ W)->(e=eV/\iH fp fb (fs.map (·.x_)) cb F w c e_ W):=λj=>⟨j.1,j.2.then hloc.fb⟩
 have u:iH fp fb (fs.map (·.x_)) cb F (h_ w (bM s T)) f e_ (h_ w (bM s T)):=⟨hcp,FB.refl _⟩
 have af:∀{W:aL} {v:aU} {k:aC} {c:List (Option aM)},iH fp fb (fs.map (·.x_)) cb F (h_ w (bM s T)) c e_ W->vg.ok (si lo cb) (h_ w (bM s T)) ⟨v,[k],Wm⟩->Hs.rE fs a_ e_ d k->rK d k->aA c+aA (aF fs e_ d k (aA c))<=1000000->
  Wn Ww 234 #[aW cb,v] W λe w'=>e=eV/\iH fp fb (fs.map (·.x_)) cb F (h_ w (bM s T)) (c++(aF fs e_ d k (aA c)).map Wj) e_ w':=λA M hx hl hn=>
  (IH _ _ _ _ A.1 (M.uo.below A.2.rP) hx hl hn).mono (by grind [iH.then,iH])
 have ab:∀{W:aL} {v:aU} {l:List aC} {c:List (Option aM)},iH fp fb (fs.map (·.x_)) cb F (h_ w (bM s T)) c e_ W->vg.ok (si lo cb) (h_ w (bM s T)) ⟨v,l,Wl⟩->(∀k∈l,Hs.rE fs a_ e_ d k)->(∀k∈l,rK d k)->aA l<=1000000->aA c+aA (bC (aF fs e_ d) l (aA c))<=1000000->
  Wn Ww 250 #[aW cb,v] W λe w'=>e=eV/\iH fp fb (fs.map (·.x_)) cb F (h_ w (bM s T)) (c++(bC (aF fs e_ d) l (aA c)).map Wj) e_ w':=λA M hx hl bb hn=>
  (yI IH _ _ _ _ A.1 (M.many.below A.2.rP) hx hl bb hn).mono (by grind [iH.then,iH])
 rcases bf with ⟨rfl,k,rfl,q,ah,r,rfl⟩|⟨rfl,rfl,q,r,rfl⟩|⟨rfl,rfl,q,r,rfl⟩|⟨rfl,sv,rfl,q,rfl⟩|⟨rfl,sv,rfl,q,rfl⟩|⟨rfl,rfl,q,r,rfl⟩|⟨rfl,l,v1,v2,V,a2,rfl,q,r,rfl⟩|⟨rfl,o,v1,V,rfl,ap,q,r,rfl⟩|⟨rfl,l,v1,v2,V,a2,rfl,q,r,rfl⟩|ao
 ·-- a number
  rw[Q5 fs e_ d a _ q,ah]at m ⊢
  have hk:=OO _ _ _ Z ah;exact(zJ w cb a.l_ k _ (uq (i:=.push (bB k)) u (by grind [PV.num,vA,lP]) Z)).mono λ_ _=>B
 .rw[Hz fs e_ d a _ q]at m ⊢
  exact(NQ w cb a.l_ _ _ (uq (i:=.push (bT a.x_)) u (by grind [PV.str,oV,lP,lG]) Z)).mono λ_ _=>B
 .rw[S8 fs e_ d a _ q]at m ⊢
  exact(YZ w cb a.l_ _ _ (uq (i:=.push (cF (a.x_==[116,114,117,101]))) u (by grind [PV.yj,qD,lP]) Z)).mono λ_ _=>B
 ·-- a list
  rw[S7 fs e_ d a _ q]at m ⊢
  rw[et,ib]at m;have D:=z.1;have M:=t ⟨sv,a.y_,Wl⟩ s_
  obtain⟨x,c,rfl⟩:=M.many.um;apply (YY w cb (aA a.y_) c a.l_ x _ _ (ab u M D hlik hk1 Z) (λW j=>(by grind [aB])) λW j=>uq (i:=.list (aA a.y_)) j rfl G_).mono
  intro e W j;rw[fo,<-gv];exact B j
 ·-- a call
  rw[KZ fs e_ d a _ q]at m ⊢
  rw[et,ib]at m;have D:=z.1;have ag:=z.2.2 q;have M:=t ⟨sv,a.y_,Wl⟩ s_
  obtain⟨x,c,rfl⟩:=M.many.um;have ⟨hloc2,hcp2⟩:=hcp.new (bM #[Y a.l_,Q_ (bs a.x_),P_ x (aA a.y_) c] 342);generalize H:h_ w (bM #[Y a.l_,Q_ (bs a.x_),P_ x (aA a.y_) c] 342)=n at*;have aa:iH fp fb (fs.map (·.x_)) cb F n f e_ (h_ n (bM #[Y a.l_,Q_ (bs a.x_),P_ x (aA a.y_) c] 342)):=⟨hcp2,hloc2.fb⟩
  have hx:=ab aa M D hlik hk1 Z;have bi:∀{W:aL},FB cb cb (h_ n (bM #[Y a.l_,Q_ (bs a.x_),P_ x (aA a.y_) c] 342)) W->W.heap[n.heap.size]?=Wj (bM #[Y a.l_,Q_ (bs a.x_),P_ x (aA a.y_) c] 342):=λbc=>(hloc2.step bc).n_
  have G:Wn Ww 250 #[aW cb,P_ x (aA a.y_) c] (h_ n (bM #[Y a.l_,Q_ (bs a.x_),P_ x (aA a.y_) c] 342)) λe w'=>e=eV/\(iH fp fb (fs.map (·.x_)) cb F n (f++(bC (aF fs e_ d) a.y_ (aA f)).map Wj) e_ w'/\w'.heap[n.heap.size]?=Wj (bM #[Y a.l_,Q_ (bs a.x_),P_ x (aA a.y_) c] 342)):=by
   apply (yI IH _ _ _ _ hcp2 (M.many.below hloc2.fb.rP) D hlik hk1 Z).mono
   grind [iH.then,iH]
  have X:∀{i:aM} {e:Ending} {W:aL},(e=eV/\iH fp fb (fs.map (·.x_)) cb F n ((f++(bC (aF fs e_ d) a.y_ (aA f)).map Wj)++[Wj i]) e_ W)->e=eV/\iH fp fb (fs.map (·.x_)) cb F w (f++(bC (aF fs e_ d) a.y_ (aA f)++[i]).map Wj) e_ W:=λj=>by rw[fo,<-gv];exact B j
  have ad:aA (f++(bC (aF fs e_ d) a.y_ (aA f)).map Wj)+1<=1000000:=G_
  rcases ag with ac|ac|⟨ax,ay,bj⟩
  .rw[ac]at G H ⊢
   refine(xM w cb (aA a.y_) c a.l_ _ x (λW=>iH fp fb (fs.map (·.x_)) cb F n ((f++(bC (aF fs e_ d) a.y_ (aA f)).map Wj)++[Wj .length]) e_ W) (by rw[H];exact B5 n cb (aA a.y_) c a.l_ x _ _ G (λW j=>(by grind [aB])) λW j=>uq (i:=.length) j.1 rfl ad)).mono ?_
   intro e W j;exact X j
  .rw[ac]at G H ⊢
   refine(xM w cb (aA a.y_) c a.l_ _ x (λW=>iH fp fb (fs.map (·.x_)) cb F n ((f++(bC (aF fs e_ d) a.y_ (aA f)).map Wj)++[Wj .read]) e_ W) (by rw[H];exact QS n cb (aA a.y_) c a.l_ x _ _ G (λW j=>(by grind [aB])) λW j=>uq (i:=.read) j.1 rfl ad)).mono ?_
   intro e W j;exact X j
  have bm:dU fs a.x_<aA fs:=by grind [gC]
  have ak:a.x_∈fs.map (·.x_):=by grind [dU]
  have e1:(a.x_==[108,101,110])=Wl:=G_
  have e2:(a.x_==[114,101,97,100])=Wl:=G_
  rw[e1,e2];refine(xM w cb (aA a.y_) c a.l_ _ x (λW=>iH fp fb (fs.map (·.x_)) cb F n ((f++(bC (aF fs e_ d) a.y_ (aA f)).map Wj)++[Wj (.call (dU fs a.x_) (aA a.y_))]) e_ W) ?_).mono ?_
  .rw[H];refine LN n cb (aA a.y_) c (fb (dU fs a.x_)) a.l_ a.x_ x _ _ ax ay G (λW j=>(by grind [aB])) (λW W' j hS=>?_) (λW W' j hS=>?_)
   .apply (zS a.x_ (j.1.1.grow hS.below) ak G_).mono
    grind [KV]
   have az:iH fp fb (fs.map (·.x_)) cb F n (f++(bC (aF fs e_ d) a.y_ (aA f)).map Wj) e_ W':=(by grind [CP.grow,bZ.below,FB.trans,FB.of_lt,CP.lt,iH])
   exact uq (i:=.call (dU fs a.x_) (aA a.y_)) az (by show _=_;grind) ad
  intro e W j;exact X j
 ·-- a variable
  rw[Rq fs e_ d a _ q]at m ⊢
  have hm:=z.2.1 q;exact(GT w cb a.l_ _ (dY e_ a.x_) _ (WF a.x_ hcp hm ar) (uq (i:=.load (dY e_ a.x_)) u i_ Z)).mono λ_ _=>B
 ·-- an index
  rw[YX fs e_ d a _ q,r,WJ]at m ⊢
  rw[et,et,ib]at m;have D:=z.1;have E:=t ⟨v1,[V],Wm⟩ s_
  have Q:=t ⟨v2,[a2],Wm⟩ s_
  obtain⟨T1,K,rfl⟩:=E.uo.form;obtain⟨T2,L,rfl⟩:=Q.uo.form;apply (TO w cb l T1 T2 _ _ _ _ _ (af u E (G_) (G_) Z) (λW j=>(by grind [aB])) (λW j=>af j Q (G_) (G_) G_) λW j=>uq (i:=.index) j rfl G_).mono
  intro e W j;rw[sI]at j;rw[fo,fo,<-gv,<-gv];exact B j
 ·-- one operand
  rw[YV fs e_ d a _ o ap q,r,JJ]at m ⊢
  rw[et,ib]at m;have D:=z.1;have E:=t ⟨v1,[V],Wm⟩ s_
  obtain⟨T1,K,rfl⟩:=E.uo.form;apply (TN w cb a.l_ _ T1 _ _ _ (af u E (G_) (G_) Z) (λW j=>(by grind [aB])) λW j=>uq (i:=.unary [o]) j rfl G_).mono
  intro e W j;rw[fo,<-gv];exact B j
 ·-- two operands
  have D:=z.1;have E:=t ⟨v1,[V],Wm⟩ s_
  have Q:=t ⟨v2,[a2],Wm⟩ s_
  obtain⟨T1,K,rfl⟩:=E.uo.form;obtain⟨T2,L,rfl⟩:=Q.uo.form;have am:=D V (by rw[r];simp)
  have G:=D a2 (by rw[r];simp)
  have aj:=hlik V (by rw[r];simp)
  have al:=hlik a2 (by rw[r];simp)
  generalize I:(#[Y (l:Nat),Q_ (bs a.op),dA T1 (W1 K),dA T2 (W1 L)]:Array Value)=s at*;have ⟨hloc2,hcp2⟩:=hcp.new (bM s 353);have aa:iH fp fb (fs.map (·.x_)) cb F (h_ w (bM s 353)) f e_ (h_ (h_ w (bM s 353)) (bM s 353)):=⟨hcp2,hloc2.fb⟩
  generalize H:h_ w (bM s 353)=n at*
  have N:∀{W:aL} {v:aU} {k:aC} {c:List (Option aM)},(iH fp fb (fs.map (·.x_)) cb F n c e_ W/\Loc cb cb n n.heap.size (bM s 353) W)->vg.ok (si lo cb) n ⟨v,[k],Wm⟩->Hs.rE fs a_ e_ d k->rK d k->aA c+aA (aF fs e_ d k (aA c))<=1000000->
   Wn Ww 234 #[aW cb,v] W λe w'=>e=eV/\(iH fp fb (fs.map (·.x_)) cb F n (c++(aF fs e_ d k (aA c)).map Wj) e_ w'/\Loc cb cb n n.heap.size (bM s 353) w'):=λA M hx hl hn=>
   (IH _ _ _ _ A.1.1 (M.uo.below A.1.2.rP) hx hl hn).mono (by grind [iH.then,Loc.step,iH])
  have ae:∀{W:aL},Loc cb cb n n.heap.size (bM s 353) W->i9 W (aJ n.heap.size 1)=Wj (Q_ (bs a.op))/\i9 W (aJ n.heap.size 3)=Wj (dA T2 (W1 L))/\n.heap.size<W.heap.size:=(by grind [aB,Loc.n_])
  by_cases U:a.op=[38,38]\/a.op=[124,124]
  .have ⟨b,hb⟩:∃b:Bool,a.op=if b then [124,124]else [38,38]:=by
    rcases U with e|e
    .exact⟨Wl,e⟩
    exact⟨Wm,e⟩
   rw[YW fs e_ d a _ b V a2 hb r]at m ⊢
   generalize bh:aF fs e_ d V (aA f)=C at*;generalize bg:aF fs e_ d a2 (aA f+aA C+1)=P at*;simp[et,ib]at m
   have J:=UC n cb (aA f+aA C) l b a.op T1 T2 (W1 K) (W1 L) (λW=>iH fp fb (fs.map (·.x_)) cb F n (f++C.map Wj++Wj (.sr b (aA f+aA C+1+aA P+1))::(P.map Wj++[Wj .tr])) e_ W)
    (λW=>iH fp fb (fs.map (·.x_)) cb F n (f++C.map Wj) e_ W/\Loc cb cb n n.heap.size (bM s 353) W)
    (λW=>iH fp fb (fs.map (·.x_)) cb F n (f++C.map Wj++[Wk]) e_ W/\Loc cb cb n n.heap.size (bM s 353) W)
    (λW=>iH fp fb (fs.map (·.x_)) cb F n (f++C.map Wj++[Wk]++P.map Wj) e_ W/\Loc cb cb n n.heap.size (bM s 353) W)
    (λW=>iH fp fb (fs.map (·.x_)) cb F n (f++C.map Wj++[Wk]++P.map Wj++[Wj .tr]) e_ W/\Loc cb cb n n.heap.size (bM s 353) W) hb
    (by
      rw[I];have:=N (c:=f) ⟨aa,hloc2⟩ E am aj G_
      rw[bh]at this;exact this)
    (λW j=>(by grind))
    (λW j=>(xN (o:=Wk) j.1.1 rfl G_).mono λe w' hr=>⟨by rw[hr.1,sI],⟨hr.2.1,j.1.2.trans hr.2.2⟩,j.2.step hr.2.2⟩)
    (λW j=>(by grind))
    (λW j=>by
      have av:aA (f++C.map Wj++[Wk])=aA f+aA C+1:=by simp;exact Z
      have:=N j Q G al G_
      rw[av,bg]at this;exact this)
    (λW j=>(xN (o:=Wj .tr) j.1.1 rfl ku).mono λe w' hr=>⟨G_,⟨hr.2.1,j.1.2.trans hr.2.2⟩,j.2.step hr.2.2⟩)
    (λW j=>by
      have ⟨⟨hc1,hc2⟩,hL⟩:=j;have e0:f++C.map Wj++[Wk]++P.map Wj++[Wj aM.tr]=(f++C.map Wj)++Wk::(P.map Wj++[Wj aM.tr]):=s_
      rw[e0]at hc1;have aq:=hc1.lt;have ⟨g,c,p1,p2,p3,p4,p5⟩:=hc1.patch;have aw:aA (f++C.map Wj)=aA f+aA C:=(by simp)
      have bd:aA ((f++C.map Wj)++Wk::(P.map Wj++[Wj aM.tr]))=aA f+aA C+1+aA P+1:=G_
      rw[aw]at p2 p3 p5;rw[bd]at p1;refine⟨G_,G_,aq,g,_,c,p1,Z,Z,p2,p3,p4,λW' hS=>?_⟩
      have ⟨q1,q2⟩:=p5 _ (.sr b (aA f+aA C+1+aA P+1)) W' rfl hS;exact⟨q1,hc2.trans q2⟩)
   rw[I]at J;rw[<-I];refine(zK w cb l (bs a.op) T1 T2 (W1 K) (W1 L) _ (by rw[I,H];exact J)).mono ?_
   intro e W j;have e9:f++(C++[aM.sr b (aA f+aA C+1+aA P+1)]++P++[aM.tr]).map Wj=f++C.map Wj++Wj (.sr b (aA f+aA C+1+aA P+1))::(P.map Wj++[Wj .tr]):=s_
   rw[e9];exact B j
  have hn1 :=λe=>U (ea e)
  have hn2 :=λe=>U (dv e)
  rw[TM fs e_ d a _ q hn1 hn2,r,WJ]at m ⊢
  simp[et,ib]at m
  have J:=UD n cb l a.op T1 T2 (W1 K) (W1 L) (λW=>iH fp fb (fs.map (·.x_)) cb F n (f++(aF fs e_ d V (aA f)).map Wj++(aF fs e_ d a2 (aA f+aA (aF fs e_ d V (aA f)))).map Wj++[Wj (.binary a.op)]) e_ W) _ _ hn1 hn2
   (by rw[I];exact N (c:=f) G_ E am aj Z)
   (λW j=>ae j.2)
   (λW j=>N j Q G al (by rw[sI];exact Z))
   (λW j=>(by grind))
   (λW j=>by have ⟨hq1,hq2⟩:=j;rw[sI]at hq1;exact uq (i:=.binary a.op) hq1 i_ (by simp[sI];exact Z))
  rw[I]at J;rw[<-I];refine(zK w cb l (bs a.op) T1 T2 (W1 K) (W1 L) _ (by rw[I,H];exact J)).mono ?_
  intro e W j;rw[fo,fo,<-gv,<-gv];exact B j
 exfalso
 have bl:∀x∈([[118,97,114],[115,101,116],[105,102],[119,104,105,108,101],[114,101,116,117,114,110],[112,114,105,110,116],[100,111]]:cU),a.op≠x:=λx hx e=>by
  have hc:∀y∈([[48],[115],[98,111,111,108],[110,97,109,101],[108,105,115,116],[105,110,100,101,120],[45,120],[33,120],[99,97,108,108],[124,124],[38,38],[61,61],[33,61],[60],[60,61],[43],[45],[42],[47],[37]]:cU),a.op≠y:=λy hy e2=>by rw[e]at e2;subst e2;simp at hx hy;rcases hx with rfl|rfl|rfl|rfl|rfl|rfl|rfl<;>simp at hy
  rcases ai with ⟨S,_⟩|⟨S,_⟩|⟨S,_⟩|⟨S,_⟩|⟨S,_⟩|⟨S,_⟩|⟨S,_⟩
  .grind
  .grind
  .grind
  .grind
  .grind
  .exact hc _ s_ S
  rcases pF S with e|e|e|e|e|e|e|e|e|e|e<;>exact hc _ s_ e
 grind
theorem uB(c:aA e_<=1000000)(a:aA fs<=1000000)(b:∀k,k<aA fs->fp k=aW (fb k)):∀d,ME fp fb fs cb lo F a_ e_ d|0=>λ_ _ _ _ _ _ h=>h.elim|d+1=>W7 (uB c a b d) c a b
end
