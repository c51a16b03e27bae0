import Derived.Test.YtjhbbdpfkccohaaGreatDoorP07
import Derived.Test.YtjhbbdpfkccohaaGreatDoorP05
set_option linter.all false
set_option maxRecDepth 100000
set_option maxHeartbeats 4000000
open List renaming length->Ty
open Go.World renaming setCell->Tz,cell?->T_
open Option renaming some->Ua
open Bool renaming false->Uc
open Go renaming Calls->Ue,Value->Uf
open Go.RowKit renaming Hid->Ul
open Go.Proofs.Tryz renaming prog->Un
namespace Go.Proofs.YtjhbbdpfkccohaaGreatDoor
open Hs
open _root_.Go.Proofs.Tryz
open Go.RowKit
variable{C:Ctx}{E:List (Nat × Obj)}{B:List ua}{J:List aC}{M N S:Nat}{o:Obj}{I:aC}{O R:aN}{F P Q z:aW}{D:bN}{x:bP}{K:cY}
def Du{b c:Type}(a:List bH)(x:bP)(f:b->c)(r:bS b):aQ a x (bT f r)=bT f (aQ a x r):=by
 cases r with
 |error l=>rfl
 |ok d=>
  unfold bT aQ;simp;split<;>rfl
def WJ(C:Ctx)(E:Nat->bS aC)(k:ru C 176 E):ru C 246 (λp=>aQ C.ts [59] (E p)):=by
 intro w p h b;have e:=aB k;have c:=aB (Pg.new h);revert b
 show aQ _ _ _≠_->Ue _ _ _ _ (CM C w (aQ _ _ _))
 generalize j:aQ C.ts [59] (E p)=r;intro b;have g:=aB j.symm;have d:=aB b;go_in
 go_wp2_with fail;refine uq e d c ((by grind [aQ])) (λl m H=>?_) λa q T s m f c=>?_
 .exact⟨aJ,Out.err H.1 H.2⟩
 go_wp2_with fail;refine vG d c [59] ((by grind [d7,ED])) (λl n H=>?_) λi o c=>?_
 .exact⟨aJ,Out.err H.1 H.2⟩
 go_wp2
 go_ret;exact c.one (by rw[g,f.out];exact rK i)
def Pg.Dv{a:aW}(h:Pg C O ((S,cD #[a,P,Q] 341)::E) [] B R N):dP R S 0 a/\dP R S 1 P/\dP R S 2 Q/\R.frozen? (aL S 0)=Uc/\R.frozen? (aL S 1)=Uc/\R.frozen? (aL S 2)=Uc/\S<H_ R:=
 have k:=(h.own _ (.head _)).1;(by grind [aA,aF])
def Pg.early{V:aN}{c a:aW}(H:Pg C O E [] [] R N)(K:Pg C O ((H_ R,cD #[P,Q,z] 341)::E) [] B V S)(m:rP (rn (H_ R+1) (H_ V)) V a J):
 Pg C O ((H_ R,cD #[F,c,a] 341)::E) [] [⟨a,J,Uc⟩] (Tz (Tz (Tz V (aL (H_ R) 0) F) (aL (H_ R) 1) c) (aL (H_ R) 2) a) S:=by
 have g:=H.fr.size;have n:=H.at_.vd;have j:=H.at_.xt;have e:∀k,k≠H_ R->(Tz (Tz (Tz V (aL (H_ R) 0) F) (aL (H_ R) 1) c) (aL (H_ R) 2) a).heap[k]?=V.heap[k]?:=(by grind [em])
 refine⟨(by grind [Fr.setCell,Pg.fr]),(by grind [sr.other,Pg.at_]),λy b=>?_,λy b=>?_,H.pb,s_⟩
 .rcases ff.1 b with rfl|b
  .exact⟨aP (aP (aP (K.own _ (.head _)).1)),g⟩
  have:=aH (H.own y b).1;grind [Pg.own]
 grind [ua.ok.list,rP.grow,World.setCell]
def D4(C:Ctx)(E:Nat->bS aC)(K:ru C 176 E):ru C 248 (fX E C.ts):=by
 intro w p h u;have s:=aB K;have G:=aB (WJ C E K);have d:=aB (Pg.new h);have M:=h.len;obtain⟨r,hr⟩:=E_ (fX E C.ts p);rw[<-hr]at u ⊢
 rw[fX]at hr;simp only[Du]at hr;have f:=aB hr;have HNE:=aB u;clear h K u hr;go_in
 go_wp2_with fail;refine yj (t:=aS C.ts p) HNE aJ d (λi=>by rw[f,i];rfl) (λl A H=>?_) λi D d=>?_
 .go_wp2_with fail;exact⟨aJ,Out.err H.1 H.2⟩
 have hr:=f.out;rw[i.out,ef rfl]at hr;have f:=aB hr;have d:=aB (d.add (cD #[I_ (aS C.ts p).l_,Q_ (bs (aS C.ts p).x_)] 179));clear i hr;go_wp2_with fail;refine oL d [40] (λi I d=>?_) λi I d=>?_
 .have f:Ul (r=bT (λl=>aV [100,111] (aS C.ts p).l_ (aS C.ts p).x_ [aV [99,97,108,108] (aS C.ts p).l_ (aS C.ts p).x_ l]) (aQ C.ts [59] (aQ C.ts [41] (gK E C.ts (p+1+1) [41])))):=by show _=_;rw[f,i.out];unfold fU;rw[i.out];rfl
  obtain⟨c0,c1,hz⟩:=d.yo;have Z:=aB (d.add (cD #[I_ 0,Q_ ⟨#[]⟩,bO] 341));go_wp2
  go_cut [4] (λv wc=>∃b F l q,v=bF b/\aQ C.ts [41] (gK E C.ts (p+1+1) [41])=.ok (l,q)/\Pg C w [(b,cD #[I_ (aS C.ts p).l_,Q_ (bs (aS C.ts p).x_),F] 341),(H_ D,cD #[I_ (aS C.ts p).l_,Q_ (bs (aS C.ts p).x_)] 179)] [] [⟨F,l,Uc⟩] wc q)
  case first=>
   go_region_law (go_simp;go_at_call 282;first|(refine Am s HNE Z.drew [41] (λl e=>by rw[f,e];rfl) (λl B H=>⟨rfl,Out.err H.1 H.2⟩) λl q z c B n o P=>?_;obtain⟨z0,V,U,y0,y1,y2,S⟩:=o.Dv;have N:=aA (i:=0) (o.own _ (.tail _ (.head _))).1 aJ;have L:=aA (i:=1) (o.own _ (.tail _ (.head _))).1 aJ;have O:=aH (o.own _ (.tail _ (.head _))).1)|(refine Am s HNE d.drew [41] (λl e=>by rw[f,e];rfl) (λl B H=>⟨rfl,Out.err H.1 H.2⟩) λl q z c B n o P=>?_;obtain⟨N,L,O⟩:=o.yo))
   all_goals
    go_wp2_with fail;go_meet
    case rel=>first|exact⟨_,_,_,_,aJ,n,o.add _⟩|exact⟨_,_,_,_,aJ,n,d.early o (by simpa using P.out)⟩
  case rest=>
   obtain⟨b,F,l,q,rfl,n,y⟩:=hcut;obtain⟨x,c,rfl⟩:=rP.slice (ua.ok.many (y.yv _ (.head _)));have Q:=aB n;have d:=aB y;clear n y;go_wp2_with fail;refine vG HNE d [59] (λi=>by rw[f,Q,ED i];rfl) (λl A H=>?_) λi A d=>?_
   .go_wp2_with fail;exact⟨aJ,Out.err H.1 H.2⟩
   obtain⟨z0,V,U, -, -, -,S⟩:=d.Dv;go_wp2
   go_ret;exact d.ret (a:=aV [100,111] _ _ [_]) (by rw[f,Q,rK i];rfl) (.inr (.inr (.inr (.inr (.inr (.inr (.inr (.inr (.inr (.inr (.inr (.inr (.inr (.inr (.inr (.inr (.inr ⟨rfl,_,aV [99,97,108,108] (aS C.ts p).l_ (aS C.ts p).x_ l,rfl,rfl,rfl,rfl,rfl,rfl,rfl⟩)))))))))))))))))
 have f:Ul (r=bL (aQ C.ts [61] (fP E C.ts (Ty C.ts+1) (p+1) [])) λm q=>bT (λv=>aV [115,101,116] (aS C.ts p).l_ (aS C.ts p).x_ (m++[v])) (aQ C.ts [59] (E q))):=by show _=_;rw[f,i.out];rfl
 have J:H_ D<H_ I:=d.yo.2.2;have d:=aB d.open;go_wp2
 go_loopg [5] (Ty C.ts+1) (λk v wr=>∃q j,Pg C w [(H_ D,cD #[I_ (aS C.ts p).l_,Q_ (bs (aS C.ts p).x_)] 179)] [Nl (H_ I) v j] [] wr q/\Ty j+k<=4000/\r=bL (aQ C.ts [61] (fP E C.ts k q j)) λm q=>bT (λv=>aV [115,101,116] (aS C.ts p).l_ (aS C.ts p).x_ (m++[v])) (aQ C.ts [59] (E q)))
 case atStart=>exact⟨_,_,d,kj,f⟩
 case round=>
  obtain⟨q,j,y,aa,hr⟩:=hrel;obtain⟨x,c,rfl⟩:=y.sl
  obtain⟨k,rfl⟩:∃k,gk=k+1:=by exact AN
  rw[fP]at hr;have d:=aB y;have f:=aB hr;clear y hr;go_wp2_with fail;refine oL d [91] (λi Y d=>?_) λi Y d=>?_
  .have hr:=f.out;rw[i.out,ef rfl]at hr;have f:=aB hr;clear i hr;go_wp2_with fail;refine X1 s HNE d (λl e=>by rw[f,e];rfl) (λl w2 H=>?_) λa q T W w2 n o=>?_
   .go_wp2_with fail;exact⟨aJ,Out.err H.1 H.2⟩
   go_wp2_with (at_builtin;refine Y1 o aD (by simpa using J) _ _ λg X w3 d=>?_)
   go_wp2_with fail;refine vG HNE d [93] (λi=>by rw[f,n.out];simp only[ED i];rfl) (λl A H=>?_) λi A d=>?_
   .go_wp2_with fail;exact⟨aJ,Out.err H.1 H.2⟩
   go_wp2
   go_roundg k
   case measure=>exact aD
   case rel=>exact⟨_,_,d,kj,by rw[f,n.out];simp only[rK i.out]⟩
  have f:Ul (r=bL (aQ C.ts [61] (.ok (j,q))) λm q=>bT (λv=>aV [115,101,116] (aS C.ts p).l_ (aS C.ts p).x_ (m++[v])) (aQ C.ts [59] (E q))):=by show _=_;rw[f,i.out];rfl
  have d:=aB d.shut;go_wp2_with fail;refine vG HNE d [61] (λi=>by rw[f,ED i];rfl) (λl A H=>?_) λi A d=>?_
  .go_wp2_with fail;exact⟨aJ,Out.err H.1 H.2⟩
  have f:Ul (r=bT (λv=>aV [115,101,116] (aS C.ts p).l_ (aS C.ts p).x_ (j++[v])) (aQ C.ts [59] (E (q+1)))):=by show _=_;rw[f,rK i];rfl
  obtain⟨m0,m1,hz⟩:=d.yo;go_wp2
  go_region_law (go_simp;go_at_call 246;refine uq G HNE d.drew (λl e=>by rw[f];exact fg _ e) (λl B H=>⟨aJ,Out.err H.1 H.2⟩) λa q T W B n d=>?_;obtain⟨N,L,O⟩:=d.yo)
  all_goals
   go_wp2
   go_ret;exact d.ret (by rw[f];exact fg _ n.out) (.inr (.inr (.inr (.inr (.inr (.inr (.inr (.inr (.inr (.inr (.inl ⟨aJ,_,_,j,_,aJ,aJ,aJ,aJ⟩)))))))))))
def Dm(lo:Nat)(w':aN)(v:aW)(b:aC):Prop:=b.op=[98,108,111,99,107]/\rP (rn lo w'.heap.size) w' v b.y_
def DS(C:Ctx)(w:aN)(r:bS aC)(e:Ending)(w':aN):Prop:=Out C w r (Dm w.heap.size) e w'
def vf(C:Ctx)(F:Nat)(X:Nat->bS aC):Prop:=∀w p,sr C w p->X p≠.error 0->Ue Un F #[bF C.pb] w (DS C w (X p))
def BV(B:Nat->bS aC)(ts:List bH)(q:Nat):bS (Option aC):=if bZ ts q [101,108,115,101]then bT Ua (B (q+1))else .ok (none,q)
def Pm(lo:Nat)(w':aN)(v:aW):Option aC->Prop
 |none=>v=bO
 |some b=>Dm lo w' v b
def Sx(E B:Nat->bS aC)(a:List bH)(p:Nat):
 AD E B a p=bL (E (p+1)) λc q=>bL (B q) λb d=>bT (λo=>aV [105,102] (aS a p).l_ [] (c::b::o.toList)) (BV B a d):=by
 unfold AD;cases E (p+1)with
 |error l=>rfl
 |ok f=>
  obtain⟨c,q⟩:=f;show bL (B q) _=bL (B q) _
  cases B q with
  |error l=>rfl
  |ok e=>
   obtain⟨b,d⟩:=e;show (if _ then _ else _)=bT _ (BV B a d)
   unfold BV;split
   .cases B (d+1)<;>rfl
   rfl
section
variable {C:Ctx} {w W:aN} {L:List (Nat × Obj)} {K:List (Nat × (World->Prop))} {M:List ua} {p:Nat} {Q:Ending->World->Prop} {α:Type} {r:bS α} {B:Nat->bS aC}
def Al{f:Nat}(t:Ul (vf C f B))(g:Ul (r≠.error 0))(H:Ul (Pg C w L K M W p))(o:∀l,B p=.error l->r=.error l)(s:∀l a,Ul (r=.error l/\Fr C.pb w a)->Q (iD 4 l) a)
 (x:∀b q z n c a,Ul (B p=.ok (b,q)/\b.op=[98,108,111,99,107])->Ul (Pg C w L K (⟨P_ z n c,b.y_,Uc⟩::M) a q)->Q (bY (P_ z n c)) a):Ue Un f #[bF C.pb] W Q:=
 (t W p H.at_ λe=>g (o 0 e)).mono λe a h=>by
   obtain⟨k,d⟩:=h;cases i:B p<;>rw[i]at d
   .obtain rfl:e=_:=d;exact s _ a ⟨o _ i,H.fr.trans k⟩
   obtain⟨y,v,rfl,u,m⟩:=d;obtain⟨z,c,rfl⟩:=m.slice;exact x _ _ _ _ _ a ⟨i,u⟩ ((H.h_ k y).put (.list (m.h_ (s_) λb j=>⟨eo H.fr.size j.1,j.2⟩)))
def Ip(k:Ul (vf C 144 B))(h:sr C w p){r:bS (Option aC)}(e:Ul (r=BV B C.ts p))(f:Ul (r≠.error 0)):
 Ue Un 247 #[bF C.pb] w (Out C w r (Pm (H_ w))):=by
 have d:=aB (Pg.new h);unfold BV at e;go_in
 go_wp2_with fail;refine oL d [101,108,115,101] (λi j d=>?_) λi j d=>?_
 .have e:=aB (e.trans (ef i));go_wp2_with fail;refine Al k f d ((by grind [d7,bT])) (λl m H=>?_) λb q z n c m g d=>?_
  .exact⟨aJ,Out.err H.1 H.2⟩
  go_wp2
  go_ret;exact Out.ok (a:=Ua b) (by rw[e,g.out.1];rfl) d.fr d.at_ ⟨g.out.2,(d.yv _ (.head _)).many⟩
 go_wp2
 go_ret;exact Out.ok (a:=none) (mg) d.fr d.at_ rfl
def Dp(y:Ul (vf C 144 B))(j:Ul (r≠.error 0))(H:Ul (Pg C w L K M W p))(u:∀l,BV B C.ts p=.error l->r=.error l)(x:∀l a,Ul (r=.error l/\Fr C.pb w a)->Q (iD 4 l) a)
 (s:∀o q z n c a,Ul (BV B C.ts p=.ok (o,q)/\(o=none->Value.slice z n c=bO)/\∀b,o=Ua b->b.op=[98,108,111,99,107])->Ul (Pg C w L K (⟨P_ z n c,(o.map (·.y_)).getD [],Uc⟩::M) a q)->Q (bY (P_ z n c)) a):Ue Un 247 #[bF C.pb] W Q:=
 (Ip y H.at_ rfl λe=>j (u 0 e)).mono λe a h=>by
   obtain⟨g,d⟩:=h;cases i:BV B C.ts p with
   |error l=>
    rw[i]at d;obtain rfl:e=_:=d;exact x _ a ⟨u _ i,H.fr.trans g⟩
   |ok A=>
    obtain⟨o,q⟩:=A;rw[i]at d;obtain⟨t,v,rfl,f⟩:=d;cases o with
    |none=>
     obtain rfl:v=_:=f;exact s _ _ _ _ _ a ⟨i,s_,s_⟩ ((H.h_ g t).put (.list (.inl s_)))
    |some b=>
     obtain⟨f,m⟩:Dm _ _ _ _:=f;obtain⟨z,c,rfl⟩:=m.slice;exact s _ _ _ _ _ a ⟨i,s_,G_⟩ ((H.h_ g t).put (.list (m.h_ (s_) λb k=>⟨eo H.fr.size k.1,k.2⟩)))
end
def Jz(C:Ctx)(E B:Nat->bS aC)(N:ru C 176 E)(U:vf C 144 B):ru C 199 (jU E B C.ts):=by
 intro w p h u;have D:=aB N;have v:=aB U;have x:=aB (WJ C E N);have P:=aB (D4 C E N);have f:=aB (Pg.new h);obtain⟨r,A⟩:=E_ (jU E B C.ts p);rw[<-A]at u ⊢
 rw[jU,Sx]at A;unfold sJ xO pN xR at A;simp only[Du]at A;have g:=aB A;have j:=aB u;clear h N U u A;go_in
 go_wp2_with fail;refine yi (t:=aS C.ts p) aJ f λY f=>?_
 have f:=aB (f.add (cD #[I_ (aS C.ts p).l_] 177));go_wp2_with fail;refine oL f [118,97,114] (λi J f=>?_) λi J f=>?_
 .have g:=aB (g.trans (ef i));go_wp2_with fail;refine yj (t:=aS C.ts (p+1)) j aJ f (λi=>by rw[g,i];rfl) (λl F H=>?_) λi S f=>?_
  .go_wp2_with fail;exact⟨aJ,Out.err H.1 H.2⟩
  have g:=aB (g.trans (ef i));have f:=aB (f.add (cD #[I_ (aS C.ts (p+1)).l_,Q_ (bs (aS C.ts (p+1)).x_)] 179));go_wp2_with fail;refine vG j f [61] (λi=>by rw[g,i];rfl) (λl F H=>?_) λi O f=>?_
  .go_wp2_with fail;exact⟨aJ,Out.err H.1 H.2⟩
  have g:=aB (g.trans (ef i));obtain⟨m0,m1,I⟩:=f.yo;have K:=aA (i:=0) (f.own _ (.tail _ (.head _))).1 aJ;have hy:=aH (f.own _ (.tail _ (.head _))).1;go_wp2
  go_region_law (go_simp;go_at_call 246;refine uq x j f.drew (λl e=>by rw[g];exact fg _ e) (λl s H=>⟨aJ,Out.err H.1 H.2⟩) λa q T G s k f=>?_;obtain⟨L,d1,m⟩:=f.yo;have X:=aA (i:=0) (f.own _ (.tail _ (.head _))).1 aJ;have W:=aH (f.own _ (.tail _ (.head _))).1)
  all_goals
   go_wp2
   go_ret;exact f.ret ql (.inr (.inr (.inr (.inr (.inr (.inr (.inr (.inr (.inr (.inl ⟨aJ,_,aV [116,97,114,103,101,116] (aS C.ts (p+1)).l_ (aS C.ts (p+1)).x_ [],_,aJ,aJ,aJ,aJ⟩))))))))))
 have g:=aB (g.trans (ea ns))
 go_wp2_with fail;refine oL f [105,102] (λi S f=>?_) λi S f=>?_
 .have g:=aB (g.trans (ef i));go_wp2_with fail;refine uq D j f (λl e=>by rw[g,e];rfl) (λl J H=>?_) λa q T G O k f=>?_
  .go_wp2_with fail;exact⟨aJ,Out.err H.1 H.2⟩
  go_wp2_with fail;refine Al v j f (λl e=>by rw[g,k.out];simp only[bL,e]) (λl J H=>?_) λb V z n c Q y f=>?_
  .go_wp2_with fail;exact⟨aJ,Out.err H.1 H.2⟩
  have g:Ul (r=bT (λo=>aV [105,102] (aS C.ts p).l_ [] (a::b::o.toList)) (BV B C.ts V)):=by show _=_;rw[g,k.out];simp only[bL,y.out.1]
  obtain⟨K,I⟩:=f.xp;go_wp2
  go_region_law (go_simp;go_at_call 247;refine Dp v j f.drew (λl e=>by rw[g,e];rfl) (λl s H=>⟨rfl,Out.err H.1 H.2⟩) λo q3 z2 n2 c2 s M f=>?_;obtain⟨L,m⟩:=f.xp)
  all_goals
   go_wp2
   go_ret;cases o with
   |none=>
    cases M.out.2.1 rfl;exact f.ret (by rw[g,M.out.1];rfl) (.inr (.inr (.inr (.inr (.inr (.inr (.inr (.inr (.inr (.inr (.inr (.inl ⟨rfl,_,_,a,b,rfl,rfl,y.out.2,rfl,rfl⟩))))))))))))
   |some d=>exact f.ret (by rw[g,M.out.1];rfl) (.inr (.inr (.inr (.inr (.inr (.inr (.inr (.inr (.inr (.inr (.inr (.inr (.inl ⟨rfl,_,_,_,a,b,d,rfl,rfl,y.out.2,M.out.2.2 d rfl,rfl,rfl⟩)))))))))))))
 have g:=aB (g.trans (ea ns))
 go_wp2_with fail;refine oL f [119,104,105,108,101] (λi O f=>?_) λi O f=>?_
 .have g:=aB (g.trans (ef i));go_wp2_with fail;refine uq D j f (λl e=>by rw[g,e];rfl) (λl J H=>?_) λa q T G Q k f=>?_
  .go_wp2_with fail;exact⟨aJ,Out.err H.1 H.2⟩
  have g:Ul (r=bT (λb=>aV [119,104,105,108,101] (aS C.ts p).l_ [] [a,b]) (B q)):=by show _=_;rw[g,k.out];rfl
  obtain⟨K,I⟩:=f.xp;go_wp2
  go_region_law (go_simp;go_at_call 144;refine Al v j f.drew (λl e=>by rw[g,e];rfl) (λl s H=>⟨rfl,Out.err H.1 H.2⟩) λb V z n c s y f=>?_;obtain⟨L,m⟩:=f.xp)
  all_goals
   go_wp2
   go_ret;exact f.ret (by rw[g,y.out.1];rfl) (.inr (.inr (.inr (.inr (.inr (.inr (.inr (.inr (.inr (.inr (.inr (.inr (.inr (.inl ⟨rfl,_,_,a,b,rfl,rfl,y.out.2,rfl,rfl⟩))))))))))))))
 have g:=aB (g.trans (ea ns))
 go_wp2_with fail;refine oL f [114,101,116,117,114,110] (λi Q f=>?_) λi Q f=>?_
 .have g:=aB (g.trans (ef i));go_wp2_with fail;refine oL f [59] (λi F f=>?_) λi F f=>?_
  .obtain⟨K,I⟩:=f.xp;go_wp2
   go_ret;exact f.ret (g.trans (ef i)) (.inr (.inr (.inr (.inr (.inr (.inr (.inr (.inr (.inr (.inr (.inr (.inr (.inr (.inr (.inl ⟨aJ,_,aJ,aJ,aJ,aJ⟩)))))))))))))))
  have g:=aB (g.trans (ea ns))
  obtain⟨K,I⟩:=f.xp;go_wp2
  go_region_law (go_simp;go_at_call 246;refine uq x j f.drew (λl e=>by rw[g];exact fg _ e) (λl s H=>⟨aJ,Out.err H.1 H.2⟩) λa q T G s k f=>?_;obtain⟨L,m⟩:=f.xp)
  all_goals
   go_wp2
   go_ret;exact f.ret ql (.inr (.inr (.inr (.inr (.inr (.inr (.inr (.inr (.inr (.inr (.inr (.inr (.inr (.inr (.inr (.inl ⟨aJ,_,_,aJ,aJ,aJ,aJ⟩))))))))))))))))
 have g:=aB (g.trans (ea ns))
 go_wp2_with fail;refine oL f [112,114,105,110,116] (λi F f=>?_) λi F f=>?_
 .have g:=aB (g.trans (ef i));obtain⟨K,I⟩:=f.xp;go_wp2
  go_region_law (go_simp;go_at_call 246;refine uq x j f.drew (λl e=>by rw[g];exact fg _ e) (λl s H=>⟨aJ,Out.err H.1 H.2⟩) λa q T G s k f=>?_;obtain⟨L,m⟩:=f.xp)
  all_goals
   go_wp2
   go_ret;exact f.ret ql (.inr (.inr (.inr (.inr (.inr (.inr (.inr (.inr (.inr (.inr (.inr (.inr (.inr (.inr (.inr (.inr (.inl ⟨aJ,_,_,aJ,aJ,aJ,aJ⟩)))))))))))))))))
 have g:=aB (g.trans (ea ns))
 go_wp2_with fail;refine uq P j f (λl e=>g.trans e) (λl J H=>?_) λa q T G Z k f=>?_
 .go_wp2_with fail;exact⟨aJ,Out.err H.1 H.2⟩
 go_wp2
 go_ret;exact f.one (g.trans k)
def R7(C:Ctx)(S:Nat->bS aC)(t:ru C 199 S):
 vf C 144 (λp=>if bZ C.ts p [123]then bT (aV [98,108,111,99,107] (aS C.ts p).l_ []) (aQ C.ts [125] (eY S C.ts (Ty C.ts+1) (p+1) []))else Hs.bad C.ts p):=by
 intro w p h j;have o:=aB t;have b:=aB (Pg.new h).open;have s:=h.len;revert j
 show (ite _ _ _:bS aC)≠_->Ue _ _ _ _ (DS C w (ite _ _ _))
 generalize hr:(if bZ C.ts p [123]then bT (aV [98,108,111,99,107] (aS C.ts p).l_ []) (aQ C.ts [125] (eY S C.ts (Ty C.ts+1) (p+1) []))else Hs.bad C.ts p)=r
 intro j;have f:=aB hr.symm;have HNE:=aB j;clear h t j hr;go_in
 go_wp2_with fail;refine vG HNE b [123] (λi=>by rw[f,i];rfl) (λl G H=>?_) λi E b=>?_
 .go_wp2_with fail;exact⟨aJ,Out.err H.1 H.2⟩
 have f:=aB (f.trans (ef i));go_wp2
 go_loopg [3] (Ty C.ts+1) (λk v wr=>∃q d,Pg C w [] [Nl (H_ w) v d] [] wr q/\Ty d+k<=4000/\r=bT (aV [98,108,111,99,107] (aS C.ts p).l_ []) (aQ C.ts [125] (eY S C.ts k q d)))
 case atStart=>exact⟨_,_,b,kj,f⟩
 case round=>
  obtain⟨q,d,n,A,hr⟩:=hrel;obtain⟨x,c,rfl⟩:=n.sl
  obtain⟨k,rfl⟩:∃k,gk=k+1:=by exact AN
  rw[eY]at hr;have b:=aB n;have f:=aB hr;clear n hr;go_wp2_with fail;refine oL b [125] (λi D b=>?_) λi D b=>?_
  .go_wp2
   go_ret;exact Out.ok (a:=aV _ _ [] d) (by rw[f,ef i.out,rK i];rfl) b.fr b.at_ ⟨rfl,b.lk⟩
  have hr:=f.out;rw[ea ns]at hr
  have f:=aB hr;clear hr;go_wp2_with fail;refine X1 o HNE b (λl e=>by rw[f,e];rfl) (λl B H=>?_) λa q T I B u z=>?_
  .go_wp2_with fail;exact⟨aJ,Out.err H.1 H.2⟩
  go_wp2_with (at_builtin;refine Y1 z aD s_ _ _ λg y F b=>?_)
  go_wp2
  go_roundg k
  case measure=>exact aD
  case rel=>exact⟨_,_,b,kj,by rw[f,u.out]⟩
theorem OW(C:Ctx)(f:Nat):∀g,vf C 144 (iO (jP C.ts f) C.ts g)
 |0=>λ_ _ _ a=>eu rfl a
 |g+1=>λw p h a=>R7 C (jU (jP C.ts f) (iO (jP C.ts f) C.ts g) C.ts) (Jz C _ _ (OS C f) (OW C f g)) w p h a
def Iz:(prog.info? 179).map (λi=>(i.zero,i.size,i.bytes))=Ua (Ua (.agg #[I_ 0,Q_ (bs [])]),2,24):=k_
def Aq:List aC->List Uf
 |[]=>[]
 |a::l=>I_ a.l_::.string (bs a.x_)::Aq l
def Fj(l:List aC)(a:aC):Aq (l++[a])=Aq l++[I_ a.l_,Q_ (bs a.x_)]:=by
 induction l with
 |nil=>rfl
 |cons x l b=>simp[Aq,b]
def xq(F:bN)(w:aN)(v:aW)(l:List aC):Prop:=
 (∀a∈l,a.op=[112,97,114,97,109])/\((v=bO/\l=[])\/
 ∃g cap cur,v=.slice (Ua (aL g 0)) (Ty l) cap/\F g/\w.heap[g]?=Ua (.cells cur 179)/\Ty l<=cap/\cur.toList.take (Ty l*2)=Aq l)
theorem xq.h_{G:bN}{w w':aN}{v:aW}(h:xq D w v J)(k:∀b,D b->w'.heap[b]?=w.heap[b]?)(j:∀b,D b->G b):xq G w' v J:=by
 obtain⟨d,h|⟨g,c,a,i,e,m,f⟩⟩:=h
 .exact⟨d,ed h⟩
 exact⟨d,ec ⟨g,c,a,i,j g e,G_,f⟩⟩
def xq.slice{F:bN}{w:aN}{v:aW}{l:List aC}(h:xq F w v l):∃x c,v=.slice x (Ty l) c:=by grind [xq]
def yq(b_:Nat)(w:aN)(v:aW)(acc:List aC):Prop:=(∀a∈acc,a.op=[112,97,114,97,109])/\w.ownsRow b_ 179 2 v (Ty acc) (Aq acc)
theorem yq.nil(a:Nat)(w:aN):yq a w (bO) []:=⟨s_,World.ownsRow_nil _ _ _ _⟩
def yq.slice{b:Nat}{w:aN}{v:aW}(h:yq b w v J):∃x c,v=.slice x (Ty J) c:=by
 rcases h.2.2 with ⟨e,i⟩|⟨g,f,d,e,_⟩
 .grind
 grind
theorem yq.h_{a d:Nat}{w:aN}{v:aW}{b:List aC}(h:yq a w v b)(g:Fr d w O)(f:d<a):yq a O v b:=by
 refine⟨h.1,bC h.2 λk e=>?_⟩
 have:=bX h.2 k e;grind [Fr.block,eG,yq]
def yq.nm{a:Nat}(h:yq a O P J):xq (rn a (H_ O)) O P J:=by
 rcases h.2.2 with ⟨f,e⟩|⟨g,d,c,f,e,j,i,m,l,k⟩
 .grind [xq]
 exact⟨h.1,ec ⟨g,d,c,f,⟨e,G_⟩,j,i,k⟩⟩
def Fh(w:aN)(a b:aW):∀j u,([a,b]:List Uf)[j]?=Ua u->T_ (eH w #[a,b] 179) ((⟨H_ w,0,none⟩:Addr).add j)=Ua u:=by
 intro j u c;match j,c with
 |0,c=>simp at c;subst c;simp[Addr.add]
 |1,c=>simp at c;subst c;simp[Addr.add]
 |j+2,c=>simp at c
def Kt(l:Int)(b:ByteArray):∀u∈([I_ l,Q_ b]:List Uf),u.oneCell'=true:=by intro u a;simp at a;rcases a with rfl|rfl<;>rfl
def ye(t:bH):aC:=aV [112,97,114,97,109] t.l_ t.x_ []
theorem Pr{b:List bH}(h:((aS b S).c_==110)=true):eB b (N+1) S J=if bZ b (S+1) [44]then eB b N (S+1+1) (J++[ye (aS b S)])else .ok (J++[ye (aS b S)],S+1):=by rw[eB,ef h];rfl
def Es{a:List bH}{acc:List aC}(h:((aS a S).c_==110)=Uc):eB a (N+1) S acc=.error (aS a S).l_:=by rw[eB,ea G_];rfl
def Cp(lo:Nat)(w':aN)(v:aW)(l:List aC):Prop:=xq (rn lo w'.heap.size) w' v l
abbrev Nm(b_:Nat)(v:aW)(acc:List aC):Nat × (World->Prop):=(b_,λW=>yq b_ W v acc)
def Ej{acc:List aC}{t:bH}{i:Array Oper}{h:List Oper}{o:Oper}{f:Act}{Q:Exit->Act->World->Prop}{z:Option Addr}(H:Ul (Pg C O [] [Nm S (P_ z (Ty acc) M) acc] [] R N))(K:Ty acc<=4000)(s x:Operand)
 (k:∀g e l,Ul (Pg C O [] [Nm S (P_ (Ua (aL g 0)) (Ty acc+1) e) (acc++[ye t])] [] l N)->wpList Un i Q h (f.put o.dst (P_ (Ua (aL g 0)) (Ty acc+1) e)) l) (m:o.guard=none:=by rfl) (D:o.op=.call { callee:=.builtin .append,args:= #[s,x],argTypes:= #[180,180] }:=by rfl) (E:f.eval s=P_ z (Ty acc) M:=by rfl) (G:f.eval x=P_ (Ua (aL (H_ R) 0)) 1 1:=by rfl):
 wpList Un i Q (o::h) f (eH R #[I_ t.l_,Q_ (bs t.x_)] 179):=by
 obtain⟨B,F,n,q,r⟩:=info_parts Iz;obtain⟨⟨v,b⟩, -,I, -, -,y⟩:=H.uw _ (.head _);simp at b v y;refine wpList_append_lies _ m s x 180 D S 179 B _ 2 24 underlying180 F n q r aJ d_ _ (Ty acc) _ E (b.alloc _) (aL (H_ R) 0) 1 1 [I_ t.l_,Q_ (bs t.x_)] G rfl (Fh _ _ _) (Kt _ _) d_ kk aD kj (H_ R+1) s_ ?_
 refine λg e l A u J _=>k g e l (H.grow u (bX b) s_ ⟨λa j=>?_,by rw[Fj,ew];exact A⟩ (by grind [yq.h_]))
 rcases fo.1 j with j|j
 .grind
 rw[ia.1 j];rfl
def F9(C:Ctx)(w:aN)(p:Nat)(h:sr C w p)(r:bS (List aC))(f:r=if bZ C.ts p [40]then kV C.ts (p+1)else Hs.bad C.ts p)(j:r≠.error 0):
 Ue Un 143 #[bF C.pb] w (Out C w r (Cp (H_ w))):=by
 have d:=aB f;have e:=aB j;have a:Ul (Pg C w [] [Nm (H_ w) (bO) []] [] w p):=(by grind [Pg.begin,Pg.new,yq.nil])
 have s:=h.len;clear h f j;go_in
 go_wp2_with fail;refine vG e a [40] ((by grind [d7,Hs.bad])) (λl m H=>?_) λi B a=>?_
 .go_wp2_with fail;exact⟨aJ,Out.err H.1 H.2⟩
 have d:Ul (r=aQ C.ts [41] (if bZ C.ts (p+1) [41]then .ok ([],p+1)else eB C.ts (Ty C.ts+1) (p+1) [])):=d.trans (ef i)
 go_wp2_with fail;refine oL a [41] (λi z a=>?_) λi z a=>?_
 .go_wp2
  go_ret;exact Out.ok (by rw[d,ef i.out,rK i]) a.fr a.at_ (a.uw _ (.head _)).1.nm
 have f:=d.out;rw[ea ns]at f
 have d:=aB f;clear f;go_wp2_with fail;refine yj (t:=aS C.ts (p+1)) e aJ a (λi=>by rw[d,Es i];rfl) (λl m H=>?_) λi D a=>?_
 .go_wp2_with fail;exact⟨aJ,Out.err H.1 H.2⟩
 go_wp2_with (at_builtin;refine Ej (acc:=[]) a s_ _ _ λg o u a=>?_)
 go_wp2
 go_loopg [3] (Ty C.ts) (λk v wr=>∃q b,Pg C w [] [Nm (H_ w) v b] [] wr q/\Ty b+k<=4000/\r=aQ C.ts [41] (if bZ C.ts q [44]then eB C.ts k (q+1) b else .ok (b,q)))
 case atStart=>grind [d7,eB,ye]
 case round=>
  obtain⟨q,b,n,y,f⟩:=hrel;obtain⟨x,c,rfl⟩:=(n.uw _ (.head _)).1.slice;have a:=aB n;have d:=aB f;clear n f;go_wp2_with fail;refine oL a [44] (λi A a=>?_) λi A a=>?_
  .have d:Ul (r=aQ C.ts [41] (eB C.ts gk (q+1) b)):=by grind [d7]
   obtain⟨k,rfl⟩:∃k,gk=k+1:=by
    cases gk with
    |zero=>exact eu d e
    |succ k=>simp
   go_wp2_with fail;refine yj (t:=aS C.ts (q+1)) e aJ a (λi=>by rw[d,Es i];rfl) (λl m H=>?_) λi m a=>?_
   .go_wp2_with fail;exact⟨aJ,Out.err H.1 H.2⟩
   go_wp2_with (at_builtin;refine Ej a aD _ _ λg o u a=>?_)
   go_wp2
   go_roundg k
   case measure=>exact aD
   grind [d7,Pr]
  have d:Ul (r=aQ C.ts [41] (.ok (b,q))):=by grind [d7]
  go_wp2_with fail;refine vG e a [41] ((by grind [d7,ED])) (λl m H=>?_) λi m a=>?_
  .go_wp2_with fail;exact⟨aJ,Out.err H.1 H.2⟩
  go_wp2
  go_ret;exact Out.ok (by rw[d];exact rK i) a.fr a.at_ (a.uw _ (.head _)).1.nm
def CN(F:bN)(w:aN)(v:aW)(f:aC):Prop:=
 ∃pv bv ps b,v=.agg #[I_ f.l_,.string (bs f.x_),pv,bv]/\f.y_=ps++[b]/\xq F w pv ps/\b.op=[98,108,111,99,107]/\rP F w bv b.y_
def CN.h_{G:bN}{w w':aN}{v:aW}(h:CN D w v I)(a:∀b,D b->w'.heap[b]?=w.heap[b]?)(c:∀b,D b->G b):CN G w' v I:=by grind [xq.h_,rP.h_,CN]
def Cy(lo:Nat)(w:aN)(v:aW)(f:aC):Prop:=CN (rn lo w.heap.size) w v f
def Cw{K:List (Nat × (World->Prop))}{Q:Ending->World->Prop}{u:Type}{r:bS u}{b:bS (List aC)}(A:Ul (b=if bZ C.ts N [40]then kV C.ts (N+1)else Hs.bad C.ts N))(g:Ul (r≠.error 0))(H:Ul (Pg C O E K B R N))(n:∀l,b=.error l->r=.error l)(o:∀l a,Ul (r=.error l/\Fr C.pb O a)->Q (iD 4 l) a)
 (t:∀l q z c a,Ul (b=.ok (l,q))->Ul (Pg C O E ((H_ R,λV=>Cp (H_ R) V (P_ z (Ty l) c) l)::K) B a q)->Q (bY (P_ z (Ty l) c)) a):Ue Un 143 #[bF C.pb] R Q:=
 (F9 C R N H.at_ b A λe=>g (n 0 e)).mono λe a h=>by
   obtain⟨f,d⟩:=h;have s:=H.at_.vd;cases i:b<;>rw[i]at d
   .obtain rfl:e=_:=d;exact o _ a ⟨n _ i,H.fr.trans f⟩
   obtain⟨y,v,rfl,m⟩:=d;obtain⟨z,c,rfl⟩:=m.slice;have k:=H.h_ f y;refine t _ _ _ _ a i ⟨k.fr,k.at_,k.own,k.yv,k.pb,λx j=>?_⟩
   rcases ff.1 j with rfl|j
   .exact⟨m,(by grind [xq.h_,Fr.block,Nat.lt_of_lt_of_le,Fr.size,Cp,rn]),s,H.at_.xt,H.fr.size,f.size⟩
   exact k.uw x j
def Rt{t:TypeId}(h:O.heap[N]?=Ua (cD #[P,Q,z,F] t)):N<H_ O/\dP O N 0 P/\dP O N 1 Q/\dP O N 2 z/\dP O N 3 F/\O.frozen? (aL N 0)=Uc/\O.frozen? (aL N 1)=Uc/\O.frozen? (aL N 2)=Uc/\O.frozen? (aL N 3)=Uc:=
 (by grind [aA,aF])
def Rm{u:Nat}{r:bS aC}{f:aC}{y n:aW}(h:sr C O N)(H:Ul (Pg C (O.alloc o) E [(M,λR=>Cp M R P J),(u,λR=>R.heap[H_ O]?=Ua (cD #[F,z,y,n] 183))] [⟨Q,I.y_,Uc⟩] R S))(j:I.op=[98,108,111,99,107])(t:f.y_=J++[I])(v:r=.ok (f,S)):
 Out C O r (Cy (H_ O)) (bY (.agg #[I_ f.l_,Q_ (bs f.x_),P,Q])) (Tz (Tz (Tz (Tz R (aL (H_ O) 0) (I_ f.l_)) (aL (H_ O) 1) (Q_ (bs f.x_))) (aL (H_ O) 2) P) (aL (H_ O) 3) Q):=by
 have D:=h.vd;have B:=h.xt;have i:H_ O<=H_ O:=aD;have A:=H.uw _ (.head _);have s:=aD;simp at s;have x:(Tz (Tz (Tz (Tz R (aL (H_ O) 0) (I_ f.l_)) (aL (H_ O) 1) (Q_ (bs f.x_))) (aL (H_ O) 2) P) (aL (H_ O) 3) Q).heap.size=H_ R:=s_
 have e:∀k,H_ O<k->(Tz (Tz (Tz (Tz R (aL (H_ O) 0) (I_ f.l_)) (aL (H_ O) 1) (Q_ (bs f.x_))) (aL (H_ O) 2) P) (aL (H_ O) 3) Q).heap[k]?=R.heap[k]?:=(by grind [em])
 refine Out.ok v ((((((Fr.refl _ O).alloc o).trans H.fr |>.setCell (.inr i) _).setCell (.inr i) _).setCell (.inr i) _).setCell (.inr i) _) ((((H.at_.other aD aD).other aD aD).other aD aD).other aD aD) ⟨P,Q,J,I,rfl,t,?_,j,?_⟩
 .exact A.1.h_ (qa) qa
 refine(H.yv _ (.head _)).many.h_ (λk a=>e k ?_) λk a=>⟨?_,by rw[x];exact a.2⟩<;>(have:=a.1;simp at this;exact aD)
def Fq(C:Ctx)(B:Nat->bS aC)(y:vf C 144 B)(w:aN)(p:Nat)(h:sr C w p)(r:bS aC)(x:r=lW B C.ts p)(e:r≠.error 0):
 Ue Un 86 #[bF C.pb] w (Out C w r (Cy (H_ w))):=by
 obtain⟨o,N⟩:∃o:Obj,o=cD #[I_ 0,Q_ ⟨#[]⟩,bO,bO] 183:=(by simp)
 have d:Ul (Pg C (w.alloc o) [] [((w.alloc o).heap.size,λV=>V.heap[H_ w]?=Ua o)] [] (w.alloc o) p):=(Pg.new (h.alloc _)).begin (aZ _ _ aJ _) λV V' M k=>M.Cb k (by have:=h.vd;exact aD)
 have n:=aB y;have D:=aB h;unfold lW at x;have s:=aB x;have a:=aB e;subst N;clear h x e y;go_in
 go_wp2_with fail;refine vG a d [102,117,110,99] ((by grind [d7,Hs.bad])) (λl E H=>?_) λi Y d=>?_
 .go_wp2_with fail;exact⟨aJ,Out.err H.1 (((Fr.refl _ w).alloc _).trans H.2)⟩
 have s:=aB (s.trans (ef i));go_wp2_with fail;refine yj (t:=aS C.ts (p+1)) a aJ d ((by grind [d7,Hs.bad])) (λl E H=>?_) λi w2 d=>?_
 .go_wp2_with fail;exact⟨aJ,Out.err H.1 (((Fr.refl _ w).alloc _).trans H.2)⟩
 obtain⟨u,g⟩:∃u,u=if bZ C.ts (p+1+1) [40]then kV C.ts (p+1+1+1)else Hs.bad C.ts (p+1+1):=(by simp)
 have s:Ul (r=bL u λl q=>bT (λb=>aV [102,117,110,99] (aS C.ts (p+1)).l_ (aS C.ts (p+1)).x_ (l++[b])) (B q)):=by grind [d7,bL,Hs.bad]
 have W:=aB g;have d:=aB (d.add (cD #[I_ (aS C.ts (p+1)).l_,Q_ (bs (aS C.ts (p+1)).x_)] 179));obtain⟨c0,c1,hz⟩:=d.yo;clear g i;go_wp2
 go_region_law (first|(go_simp;go_at_call 143;refine Cw W a d.drew ((by grind [d7,bL])) (λl U H=>⟨rfl,Out.err H.1 (((Fr.refl _ w).alloc _).trans H.2)⟩) λl q z c Z hX A=>?_;obtain⟨d0,d1,S⟩:=A.yo)|(go_simp;go_at_call 144;refine Al n a A ((by grind [d7,bT,bL])) (λl U H=>⟨rfl,Out.err H.1 (((Fr.refl _ w).alloc _).trans H.2)⟩) λb q2 Q G K X L m=>?_;obtain⟨f0,f1,J⟩:=m.yo;have j:=(m.uw _ (.tail _ (.head _))).1;obtain⟨-,T,I,F,P,y0,y1,y2,y3⟩:=Rt j;have O:=aH j))
 all_goals
  go_wp2
  refine bodyPost_ret (v:=.agg #[I_ (aS C.ts (p+1)).l_,Q_ (bs (aS C.ts (p+1)).x_),P_ z (Ty l) c,P_ Q G K]) (by simp[results,results86,go_sem,T,I,F,P]) rfl ?_
  exact Rm (f:=aV [102,117,110,99] (aS C.ts (p+1)).l_ (aS C.ts (p+1)).x_ (l++[b])) D m L.out.2 aJ (by grind [d7,bT,bL])
def Rq:(prog.info? 183).map (λi=>(i.zero,i.size,i.bytes))=Ua (Ua (.agg #[I_ 0,Q_ (bs []),bO,bO]),4,72):=k_
def KD:Uf->List Uf
 |.agg a=>a.toList
 |v=>[v]
def pE:List Uf->List Uf
 |[]=>[]
 |v::l=>KD v++pE l
def N7(l:List Uf)(v:aW):pE (l++[v])=pE l++KD v:=by
 induction l with
 |nil=>simp[pE]
 |cons x l a=>simp[pE,a]
def uj(F:bN)(w:aN)(v:aW)(fs:List aC):Prop:=
 (v=bO/\fs=[])\/
 ∃g cap cur us,v=.slice (Ua (aL g 0)) (Ty fs) cap/\F g/\w.heap[g]?=Ua (.cells cur 183)/\Ty fs<=cap/\cur.toList.take (Ty fs*4)=pE us/\jM (CN F w) us fs
def xT(b_:Nat)(w:aN)(v:aW)(acc:List aC):Prop:=
 ∃us F,w.ownsRow b_ 183 4 v (Ty acc) (pE us)/\jM (CN F w) us acc/\∀b,F b->b_<=b/\b<w.heap.size/\v.ownBlock≠Ua b
def xT.nil(a:Nat)(w:aN):xT a w (bO) []:=⟨[],λ_=>False,World.ownsRow_nil _ _ _ _,trivial,s_⟩
def xT.slice{b:Nat}{w:aN}{v:aW}(h:xT b w v J):∃x c,v=.slice x (Ty J) c:=by
 obtain⟨k,F,f,_⟩:=h;rcases f.2 with ⟨e,j⟩|⟨g,i,d,e,_⟩
 .grind
 grind
def xT.h_{a:Nat}{w d:aN}{v:aW}(h:xT a w v J)(f:Fr N w d)(m:N<a):xT a d v J:=by
 obtain⟨g,F,j,i,o⟩:=h;refine⟨g,F,bC j λk n=>?_,i.mono λ_ _ h=>h.h_ (λb l=>?_) (s_),λb l=>?_⟩
 .grind [bX,Fr.block,eG]
 .have:=f.size;grind
 grind [Fr.block]
def xT.snoc{b_ lo:Nat}{p:aN}{s:List Uf}(x:jM (CN D O) s J)(B:∀b,D b->b_<=b/\b<H_ O/\P.ownBlock≠Ua b)
 (A:CN (rn lo (H_ O)) O Q I) (C:b_<=lo) (o:∀k,P.ownBlock=Ua k->k<lo) (r:∀k,k<H_ O->R.heap[k]?=O.heap[k]?) (z:H_ O<=H_ R)
 (m:p.ownsRow b_ 183 4 (P_ (Ua (aL N 0)) (Ty J+1) S) (Ty J+1) (pE s++KD Q))
 (j:R.grownBy p P.ownBlock) (l:P.ownBlock=Ua N\/H_ O<=N):xT b_ p (P_ (Ua (aL N 0)) (Ty J+1) S) (J++[I]):=by
 have u:∀b,(D b\/rn lo (H_ O) b)->b_<=b/\b<H_ O/\P.ownBlock≠Ua b:=by
  rintro b (c|c)
  .exact B b c
  exact⟨by have:=c.1;exact aD,c.2,λe=>by have:=o b e;have:=c.1;exact aD⟩
 have f:∀b,(D b\/rn lo (H_ O) b)->p.heap[b]?=O.heap[b]?:=λb c=>by have i:=u b c;rw[j.block b aD λe=>i.2.2 e.symm,r b i.2.1]
 refine⟨s++[Q],λb=>D b\/rn lo (H_ O) b,?_,?_,?_⟩
 .rw[ew,N7];exact m
 .exact jM.snoc (x.mono λ_ _ h=>h.h_ (λb c=>f b (ed c)) λ_=>ed) (A.h_ (λb c=>f b (ec c)) λ_=>ec)
 intro b c;have i:=u b c;have:=j.size;refine⟨i.1,aD,λe=>?_⟩
 have y:N=b:=ft e;rcases l with l|l
 .exact i.2.2 (by rw[l,y])
 exact aD
def xT.Of(h:xT N O P J):uj (rn N (H_ O)) O P J:=by
 obtain⟨n,F,m,j,q⟩:=h;rcases m.2 with ⟨e,f⟩|⟨g,c,d,e,f,i,k,p,o,l⟩
 .grind [uj]
 exact ec ⟨g,c,d,n,e,⟨f,G_⟩,i,k,l,j.mono λ_ _ h=>h.h_ (s_) qa⟩
def Ou(a c d:Int)(b:ByteArray)(w:aN):(Instr.field 174 (.agg #[I_ a,Q_ b,I_ c,I_ d]) 0).run Un w=.ok (I_ a) w:=k_
def Iq{t:bH}(h:oR t):(sf t.c_=4↔t.c_=101):=by grind [sf]
def F_(w:aN)(a b c d:aW):∀j u,([a,b,c,d]:List Uf)[j]?=Ua u->T_ (eH w #[a,b,c,d] 183) ((⟨H_ w,0,none⟩:Addr).add j)=Ua u:=by
 intro j u e;match j,e with
 |0,e=>simp at e;subst e;simp[Addr.add]
 |1,e=>simp at e;subst e;simp[Addr.add]
 |2,e=>simp at e;subst e;simp[Addr.add]
 |3,e=>simp at e;subst e;simp[Addr.add]
 |j+4,e=>simp at e
def Mx(l:Int)(b:ByteArray)(x y:Option Addr)(n m c d:Nat):∀u∈([I_ l,Q_ b,P_ x n c,P_ y m d]:List Uf),u.oneCell'=true:=by intro u a;simp at a;rcases a with rfl|rfl|rfl|rfl<;>rfl
def T0(C:Ctx)(X:Nat->bS aC)(w:aN)(r:bS (List aC))(k:Nat)(v:aW)(wr:aN):Prop:=
 Fr C.pb w wr/\∃q acc,sr C wr q/\r=fK X C.ts k q acc/\Ty acc+k<=4000/\xT w.heap.size wr v acc
def Y4(lo:Nat)(w':aN)(v:aW)(l:List aC):Prop:=uj (rn lo w'.heap.size) w' v l
def Py(C:Ctx)(X:Nat->bS aC)(HX:∀w p,sr C w p->X p≠.error 0->Ue Un 86 #[bF C.pb] w (Out C w (X p) (Cy (H_ w))))(w:aN)(p:Nat)(h:sr C w p)(r:bS (List aC))(hr:r=fK X C.ts (Ty C.ts+1) p [])(y:r≠.error 0):
 Ue Un 48 #[bF C.pb] w (Out C w r (Y4 (H_ w))):=by
 obtain⟨i0,hi,S,ah,ab⟩:=info_parts Rq;have an:=h.len;have d:=h.vd;have am:=h.xt;have HI:Ul (T0 C X w r (Ty C.ts+1) (bO) w):=⟨Fr.refl _ _,p,[],h,hr,G_,xT.nil _ _⟩
 have ac:=aB y;have ag:=aB HX;have ba:=Ou;clear h hr y HX;go_in
 go_wp2
 go_loopg [3] (Ty C.ts+1) (λk v wr=>T0 C X w r k v wr)
 case atStart=>exact HI
 case round=>
  obtain⟨A,x,j,f,m,aw,I⟩:=hrel;obtain⟨x4,c4,rfl⟩:=I.slice;have s:=aB (rG C wr x f);simp only[tI]at s;have J:=Iq (f.Bn.tk x f.lt);have E:=aB A;have D:=aB I;have z:=aB f;have bd:=A.size
  obtain⟨k,rfl⟩:∃k,gk=k+1:=by
   cases gk with
   |zero=>exact eu m ac
   |succ k=>simp
  rw[fK]at m;have av:=aB m;have aj:=aB J;clear m J;generalize aS C.ts x=t at*;generalize sf t.c_=ps at*;generalize ug t=pv at*;by_cases hs:t.c_=101
  .have HL:Ul (r=.ok (j,x)):=G_
   obtain rfl:ps=4:=aj.2 hs;go_wp2_with fail;refine rf s λM b=>?_
   have u:=aB b;go_wp2
   go_ret;exact Out.ok HL (E.trans (Fr.below u)) (z.below u) (D.h_ (Fr.below u) d).Of
  have bb:((ps:Int) != 4)=true:=by grind [d7]
  obtain⟨L,U⟩:∃L,L=X x:=(by simp)
  have K:Ul (r=bL L λi q=>fK X C.ts k q (j++[i])):=by grind [bL]
  have Q:X x≠.error 0:=(by grind [d7])
  have al:=aB U;go_wp2_with fail;refine rf s λM b=>?_
  have HY:=aB (ag M x (z.below b) Q);simp only[<-al.out]at HY;have H:=aB (E.trans (Fr.below b));have ad:=aB (D.h_ (Fr.below b) d);have ay:=b.size;cases L with
  |error l=>
   go_wp2_with fail;apply HY.mono
   rintro e T ⟨c,rfl⟩;go_wp2_with fail;exact⟨aJ,Out.err K (H.trans c)⟩
  |ok af=>
   obtain⟨a6,q6⟩:=af;have ar:Ul (r=fK X C.ts k q6 (j++[a6])):=K.out;go_wp2_with fail;apply HY.mono
   rintro e T ⟨c,Z,v6,rfl,G⟩;have W:=aB G;obtain⟨be,ax,P,b6,O, -,ak, -,aa⟩:=G;obtain⟨x7,c7,rfl⟩:=ak.slice;obtain⟨x8,c8,rfl⟩:=aa.slice;subst O;obtain⟨us,F,n,B,Y⟩:=ad.h_ c d
   have ai:∀g,(Value.slice x4 (Ty j) c4).ownBlock=Ua g->g<H_ M:=by grind [eG,xT]
   have N:=aB ai;have ae:=aB (H.trans c);have V:=aB Z;have HALL:=aB (dy B Y);have au:=c.size;have hge :=bX n;go_wp2_with (at_builtin;refine wpList_append_lies _ r_ _ _ 48 r_ (H_ w) 183 i0 _ 4 72 underlying48 hi S ah ab rfl d_ _ _ _ r_ (n.alloc _) (aL (H_ T) 0) 1 1 [I_ a6.l_,Q_ (bs a6.x_),P_ x7 (Ty P) c7,P_ x8 (Ty b6.y_) c8] r_ r_ (F_ _ _ _ _ _) (Mx _ _ _ _ _ _ _ _) d_ kk aD kj (H_ T+1) s_ ?_)
   intro g7 ap w9 o a ao bf;have az:=aB (xT.snoc (lo:=H_ M) HALL.1 HALL.2 W aD N (λk hk=>eh _ _ _ hk) s_ o a (G_))
   have aq:=aB ((V.alloc _).grown (b_:=H_ w) a hge d am);have bc:=aB ((ae.alloc _).grown a hge);go_wp2
   go_roundg k
   case measure=>exact aD
   grind [d7,T0]
def UX(C:Ctx)(w:aN)(h:sr C w 0)(a:lC C.ts≠.error 0):
 Ue Un 48 #[bF C.pb] w (Out C w (lC C.ts) (Y4 (H_ w))):=
 Py C _ (λw p h b=>Fq C _ ((by grind [OW])) w p h _ rfl b) w 0 h _ rfl a
def wY(l:Nat)(w:aN):
 Ue Un 145 #[.agg #[I_ l]] w λe a=>e=bY (I_ l)/\R_ w a:=by
 go_in
 go_wp2
 go_ret;exact⟨aJ,lr⟩
def yy(n:Int)(l:cY)(x:bP):Prop:=decide (0<=n)=l.contains x
def M5(l:cY)(x:bP)(g b:Nat)(w:aN)(s:Ty l<=100000)(_hlc:Ty l<=b)(f:∀i (h:i<Ty l),dP w g i (Q_ (bs l[i]))):
 Ue Un 249 #[P_ (Ua (aL g 0)) (Ty l) b,Q_ (bs x)] w λe j=>(∃n:Int,e=bY (I_ n)/\yy n l x)/\j=w:=by
 have hx :=aX x;have o:=aB f;clear f;go_in
 go_wp2
 go_loop [5,8] (λ_ i=>∃k:Nat,k<=Ty l/\i=I_ k/\Ul (∀y∈l.take k,y≠x)) (λ_ i=>Ty l-(intOf i).toNat)
 case atStart=>exact⟨0,aD,rfl,λy d=>by simp at d⟩
 case round=>
  obtain⟨k,p,rfl,t⟩:=hrel;by_cases a:k<Ty l
  .have c:=o k a;have hget :=ge a
   have u:Ul (∀y∈l.take (k+1),y∈l.take k\/y=l[k]):=λy d=>by grind [List.take_succ_eq_append_getElem]
   have q:=aB hget;generalize l[k]=y at*;have d :=aX y;cases m:(x==y)
   .have HF:Ul (∀z∈l.take (k+1),z≠x):=λz r=>by grind [d7]
    exact SS
   have HF:Ul (l.contains x=true):=by grind
   go_wp2
   go_ret;exact⟨⟨k,aJ,by grind [yy]⟩,rfl⟩
  have HF:Ul (l.contains x=Uc):=by grind [d7]
  go_wp2
  go_ret;exact⟨⟨-1,aJ,by grind [yy,d7]⟩,rfl⟩
def M6(x:bP)(w:aN):
 Ue Un 249 #[bO,Q_ (bs x)] w λe a=>(∃n:Int,e=bY (I_ n)/\yy n [] x)/\a=w:=by
 go_in
 go_wp2
 go_loop [5,8] (λ_ i=>i=I_ 0) (λ_ _=>0)
 case atStart=>rfl
 case round=>
  go_wp2
  go_ret;exact⟨⟨-1,aJ,aJ⟩,aJ⟩
def CB(l:cY)(x:bP)(v:aW)(b:Nat)(w:aN)(m:Ty l<=100000)(a:w.ownsRow b 9 1 v (Ty l) (kE l)):
 Ue Un 200 #[v,Q_ (bs x)] w λe c=>e=bY (.bool (l.contains x))/\c=w:=by
 have f:Ul (Ue Un 249 #[v,Q_ (bs x)] w λe c=>(∃n:Int,e=bY (I_ n)/\yy n l x)/\c=w):=by
  rcases a.2 with ⟨rfl,u⟩|⟨g,d,k,rfl,t,p,j,z,B,y⟩
  .obtain rfl:l=[]:=(by grind)
   exact M6 x w
  refine M5 l x g d w m j λi q=>aA p ?_
  have e:(kE l)[i]?=Ua (Q_ (bs l[i])):=by simp[kE,q]
  grind
 go_in
 go_wp2_with fail;apply f.mono
 rintro e s ⟨⟨n,rfl,r⟩,A⟩;have o:=aB r;go_wp2
 go_ret;exact⟨gO o,aJ⟩
def pP(fs:List aC)(x:bP):Option Nat:=
 if x==[108,101,110]then Ua 1 else if x==[114,101,97,100]then Ua 0 else (dG fs x).map λf=>Ty f.y_-1
def OO:∀{c:List Uf} {a:List aC} (k:Nat) (i:k<Ty a),jM (CN D O) c a->
 ∃d g e b,(pE c)[k*4]?=Ua (I_ a[k].l_)/\(pE c)[k*4+1]?=Ua (Q_ (bs a[k].x_))/\(pE c)[k*4+1+1]?=Ua d/\(pE c)[k*4+1+1+1]?=Ua g/\a[k].y_=e++[b]/\xq D O d e/\b.op=[98,108,111,99,107]/\rP D O g b.y_
 |[],[],k,i,_=>(by grind)
 |_::c,f::a,0,_,⟨⟨d,g,e,b,j,m,r,o,p⟩,_⟩=>by subst j;exact⟨d,g,e,b,aJ,aJ,aJ,aJ,m,r,o,p⟩
 |_::c,f::a,k+1,i,⟨⟨d,g,e,b,j,_⟩,h⟩=>by
  obtain⟨l,n,q,t,v,u,x,y,s⟩:=OO k G_ h
  grind [pE,KD]
 |[],_::_,_,_,h=>h.elim
 |_::_,[],_,i,_=>(by grind)
def KT(F:bN)(w:aN)(g:Nat)(fs:List aC):Prop:=
 ∀k (hk:k<Ty fs),∃pv bv ps b,T_ w (aL g (k*4))=Ua (I_ fs[k].l_)/\T_ w (aL g (k*4+1))=Ua (.string (bs fs[k].x_))/\T_ w (aL g (k*4+1+1))=Ua pv/\T_ w (aL g (k*4+1+1+1))=Ua bv/\fs[k].y_=ps++[b]/\xq F w pv ps/\b.op=[98,108,111,99,107]/\rP F w bv b.y_
theorem uj.cells{F:bN}{w:aN}{v:aW}(h:uj F w v J):(v=bO/\J=[])\/∃g a,v=.slice (Ua (aL g 0)) (Ty J) a/\F g/\g<w.heap.size/\Ty J<=a/\KT F w g J:=by
 rcases h with h|⟨g,a,j,s,i,d,r,f,p,l⟩
 .grind
 refine ec ⟨g,a,i,d,G_,f,λk e=>?_⟩
 obtain⟨n,y,o,b,t,q,u,x,m⟩:=OO k e l;grind [aA]
def Ha(c:N<Ty J)(e:∀f∈J.take N,f.x_≠x)(d:J[N].x_=x):dG J x=Ua J[N]:=by
 unfold dG;have b:J=J.take N++J[N]::J.drop (N+1):=s_
 grind
theorem Ft(b:∀f∈J,f.x_≠x):dG J x=none:=by grind [dG]
def Mh(a:List aC)(F:bN)(x:bP)(g l:Nat)(w:aN)(Y:Ty a<=100000)(A:∀f∈a,Ty f.y_<=90000)(_hlc:Ty a<=l)(B:g<w.heap.size)(O:KT F w g a)(K:(x==[108,101,110])=Uc)(D:(x==[114,101,97,100])=Uc):
 Ue Un 87 #[P_ (Ua (aL g 0)) (Ty a) l,Q_ (bs x)] w λe E=>e=bY (.tuple #[I_ ((pP a x).getD 0:Nat),.bool (pP a x).isSome])/\R_ w E:=by
 have hx :=aX x;have L:=aB O;have N:=aB A;have HP:Ul (pP a x=(dG a x).map λf=>Ty f.y_-1):=by grind [pP]
 go_in
 go_wp2
 go_loopg [7,15] (Ty a) (λgk _ i wr=>∃k:Nat,k+gk=Ty a/\i=I_ k/\R_ w wr/\Ul (∀f∈a.take k,f.x_≠x))
 case atStart=>exact⟨0,aD,rfl,dz _ _,λy s=>by simp at s⟩
 case round=>
  obtain⟨k,T,rfl,m,M⟩:=hrel;have hgr :=ej B m.size;by_cases c:k<Ty a
  .obtain⟨j,rfl⟩:∃j,gk=j+1:=⟨gk-1,aD⟩;obtain⟨S,Z,C,b,c0,V,X,c3,r,v,I,t⟩:=L k c;obtain⟨Q,pc,rfl⟩:=v.slice;obtain⟨P,U,rfl⟩:=t.slice;have d:∀o u,T_ w (aL g o)=Ua u->T_ wr (aL g o)=Ua u:=λo u h=>(m.cell (p:=(aL g o)) B).trans h
   have hget :=ge c
   have HT:Ul (∀y∈a.take (k+1),y∈a.take k\/y=a[k]):=λy s=>by grind [List.take_succ_eq_append_getElem]
   have H:Ul (a[k].x_=x->dG a x=Ua a[k]):=λe=>Ha c M e
   have G:Ty C+1=a[k].y_.length:=G_
   have q:=aB m;generalize a[k]=f at*;have s:(bs f.x_).toList=f.x_:=aX _;cases J:(f.x_==x)
   .have n:Ul (∀z∈a.take (k+1),z.x_≠x):=λz W=>by grind [d7]
    go_wp2
    go_roundg j
    case measure=>exact aD
    grind [ep,d7,Below.size]
   have n:Ul (pP a x=Ua (Ty C)):=by grind [d7]
   go_wp2
   go_ret2
   rw[n];exact⟨aJ,q.alloc q.size _⟩
  have n:Ul (pP a x=none):=by grind [d7,Ft,List.take_of_length_le]
  have q:=aB m;go_wp2
  go_ret2
  rw[n];exact⟨aJ,q⟩
def Lk(x:bP)(w:aN)(b:(x==[108,101,110])=Uc)(a:(x==[114,101,97,100])=Uc):
 Ue Un 87 #[bO,Q_ (bs x)] w λe c=>e=bY (.tuple #[I_ ((pP [] x).getD 0:Nat),.bool (pP [] x).isSome])/\R_ w c:=by
 have hx :=aX x;have d:Ul (pP [] x=none):=by unfold pP;rw[b,a];rfl
 go_in
 go_wp2
 go_loop [7,15] (λ_ i=>i=I_ 0) (λ_ _=>0)
 case atStart=>rfl
 case round=>
  go_wp2
  go_ret2
  rw[d];exact⟨aJ,dz _ _⟩
def JC(v:aW)(x:bP)(w:aN)(n:Nat)(a:List aC)(c:(x=[108,101,110]/\n=1)\/(x=[114,101,97,100]/\n=0)):
 Ue Un 87 #[v,Q_ (bs x)] w λe b=>e=bY (.tuple #[I_ ((pP a x).getD 0:Nat),.bool (pP a x).isSome])/\R_ w b:=by
 rcases c with ⟨rfl,rfl⟩|⟨rfl,rfl⟩
 .simp [bs];go_in
  go_wp2
  go_ret2
  exact⟨aJ,dz _ _⟩
 simp [bs];go_in
 go_wp2
 go_ret2
 exact⟨aJ,dz _ _⟩
def JD(a:List aC)(F:bN)(v:aW)(x:bP)(w:aN)(k:Ty a<=100000)(d:∀f∈a,Ty f.y_<=90000)(h:uj F w v a):
 Ue Un 87 #[v,Q_ (bs x)] w λe i=>e=bY (.tuple #[I_ ((pP a x).getD 0:Nat),.bool (pP a x).isSome])/\R_ w i:=by
 by_cases n:x=[108,101,110]
 .exact JC v x w 1 a (G_)
 by_cases m:x=[114,101,97,100]
 .exact JC v x w 0 a (G_)
 rcases h.cells with ⟨rfl,rfl⟩|⟨g,c,rfl,o,j,b,l⟩
 .exact Lk x w G_ G_
 exact Mh a F x g c w k d b j l G_ G_
abbrev FV(pv:aW):Uf:=.func (.func 87) #[pv] #[]
abbrev zw:Uf:=.func (.func 178) #[] #[]
def Br(F:bN)(w:aN)(fv:aW)(fs:List aC):Prop:=(∃pv,fv=FV pv/\uj F w pv fs)\/(fv=zw/\fs=[])
def mI:Uf->Bool
 |.func (.func k) _ _=>k==178
 |_=>Uc
structure CK(cb tp lo:Nat)(fs:List aC)(fv:aW)(w:aN)(e_:cY):Prop where
 i_:∃sv,w.heap[cb]?=Ua (.cells #[fv,sv] 189)/\w.ownsRow tp 9 1 sv (Ty e_) (kE e_)/\sv.ownBlock≠Ua cb/\tp<=cb
 vh:Br (rn lo tp) w fv fs
theorem uj.h_{w w':aN}{v:aW}{d:List aC}(h:uj D w v d)(e:∀b,D b->w'.heap[b]?=w.heap[b]?):uj D w' v d:=by
 rcases h with h|⟨g,c,a,i,l,j,n,k,m,f⟩
 .exact ed h
 exact ec ⟨g,c,a,i,l,j,G_,k,m,f.mono λ_ _ h=>h.h_ e s_⟩
def Br.h_{w w':aN}{v:aW}{a:List aC}(h:Br D w v a)(c:∀b,D b->w'.heap[b]?=w.heap[b]?):Br D w' v a:=by grind [uj.h_,Br]
def CK.lt{b:Nat}{d:List aC}{w:aN}{a:cY}(h:CK b N S d P w a):b<w.heap.size/\N<=b:=by grind [CK.i_]
theorem CK.grow{cb c:Nat}{d:List aC}{a:cY}(h:CK cb c N d P O a)(k:R_ O R):CK cb c N d P R a:=by obtain⟨i,j,g,l⟩:=h.i_;exact⟨(by grind [eg,bC,eG]),h.vh.h_ (by grind [eg,rn])⟩
def mS(h:O.heap[N]?=Ua (cD #[P,Q] 189)):
 N<H_ O/\dP O N 0 P/\dP O N 1 Q/\O.frozen? (aL N 1)=Uc:=
 (by grind [aA,aF])
def lT(cb:Nat)(w:aN):Option Nat:=
 match w.heap[cb]? with
 |some (.cells cs _ _)=>(cs[1]?.getD undef).ownBlock
 |_=>none
def IN(h:R.heap[N]?=O.heap[N]?):lT N R=lT N O:=by unfold lT;rw[h]
def rS(h:O.heap[N]?=Ua (cD #[P,Q] 189)):lT N O=Q.ownBlock:=by unfold lT;grind
structure FB(cb tp:Nat)(w w':aN):Prop where
 re:Below tp w w'
 i_:∀k,k<w.heap.size->k≠cb->lT cb w≠Ua k->w'.heap[k]?=w.heap[k]?
 row:∀k,lT cb w'=Ua k->lT cb w=Ua k\/w.heap.size<=k
theorem FB.trans{d e:Nat}{a b c:aN}(h:FB d e a b)(k:FB d e b c):FB d e a c:=by
 refine⟨h.re.trans k.re,λi f l g=>?_,λi f=>?_⟩
 .grind [FB.i_,FB.row]
 have j:=h.re.size;grind [FB.row]
theorem FB.p_{cb b:Nat}(h:R_ O R)(c:cb<O.heap.size/\b<=cb):FB cb b O R:=
 ⟨h.mono aD,ku,(by grind [eg,lT])⟩
theorem FB.refl{a:Nat}(w:aN):FB N a w w:=⟨dz _ _,s_,G_⟩
def gJ(cb tp lo:Nat)(fs:List aC)(fv:aW)(w:aN)(c:bJ)(e:Ending)(w':aN):Prop:=
 FB cb tp w w'/\((∃s,c=⟨s,0,0⟩/\e=fD/\CK cb tp lo fs fv w' s)\/(c.kind≠0/\e=iD c.kind c.l_))
def sq(a b:bJ):Prop:=a.kind≠0->b.kind=a.kind/\b.l_=a.l_
def sq.refl(a:bJ):sq a a:=λ_=>aD
theorem sq.trans{a b c:bJ}(h:sq a b)(k:sq b c):sq a c:=(by grind [sq])
theorem sq.found(s:bJ)(l k:Nat):sq s (s.found l k):=(by grind [bJ.found,sq])
theorem sq.declares(s:bJ)(n:aC):sq s (Hs.oo s n):=by grind [Hs.oo,sq.found,sq]
def sq.look(b:List aC)(a:Bool)(s:bJ)(n:aC):sq s (cQ b a s n):=by grind [cQ,gH,sq.found,sq]
theorem sq.fold{f:bJ->aC->bJ}(h:∀s k,sq s (f s k)):∀(l:List aC) (s:bJ),sq s (l.foldl f s)
 |[],s=>sq.refl s
 |k::l,s=>(h s k).trans (sq.fold h l (f s k))
theorem sq.e_(s:bJ)(x:cY):sq s { s with e_:=x }:=λ_=>(by simp)
theorem sq.walk(b:List aC)(a:Bool):∀(d:Nat) (n:aC) (s:bJ),sq s (aT b a d n s)
 |0,_,s=>sq.refl s
 |d+1,n,s=>by
  rw[aT];split
  .split
   .exact((sq.declares s _).trans (sq.walk b a d _ _)).trans (sq.e_ _ _)
   exact sq.refl s
  have h:sq s (n.y_.foldl (λs k=>aT b a d k s) (cQ b a s n)):=(sq.look b a s n).trans (sq.fold (λs k=>sq.walk b a d k s) _ _)
  grind [sq]
theorem gJ.fault{c1 c:bJ}(j:FB N S O R)(h:c1.kind≠0)(i:sq c1 c):gJ N S M J P O c (iD c1.kind c1.l_) R:=by grind [gJ,sq]
def gJ.done{a d:Nat}{c:bJ}(i:FB a d O R)(j:c=⟨K,0,0⟩)(h:CK a d N J P R K):gJ a d N J P O c (fD) R:=(by grind [gJ])
theorem CH(h:Below N O R)(n:Nat):Below N O (R.drewN n):=⟨h.os,h.tape,h.output,h.size,h.block⟩
def Hh(k m y:Nat)(u:List aC)(v:aW)(w:aN)(a:cY)(h:CK k m y u v w a)(G:Ty a<=100000)(l:Nat)(x:bP):
 Ue Un 232 #[bF k,.agg #[I_ l,Q_ (bs x)]] w (gJ k m y u v w (if a.contains x then ⟨a,0,0⟩else bJ.found ⟨a,0,0⟩ l 6)):=by
 have t:=h.grow ((dz _ _).alloc mJ (cD #[I_ l,Q_ (bs x)] 179));obtain⟨F,e,d,_⟩:=t.i_;have i:=h.lt;obtain⟨z,M,C,K⟩:=mS e
 obtain⟨o,r,rfl⟩:∃o r,F=P_ o (Ty a) r:=by
  rcases d.2 with ⟨rfl,J⟩|⟨g,B,D,rfl,_⟩
  .grind
  simp
 have s:=aB (λn=>CB a x (P_ o (Ty a) r) m ((eH w #[I_ l,Q_ (bs x)] 179).drewN n) G (bC d s_))
 have H:=aB t;have A:Ul (R_ w (eH w #[I_ l,Q_ (bs x)] 179)):=(by grind [ep,dz])
 generalize j:(if a.contains x then (⟨a,0,0⟩:bJ)else bJ.found ⟨a,0,0⟩ l 6)=c
 have f:=aB j;generalize a.contains x=b at*;cases b
 .have hc :=f.symm;subst hc;go_in
  go_wp2_with fail;go_quiet ((go_at_call 200;exact Calls.quiet_of_same (s _)))
  go_wp2_with fail;refine rf (wY l _) λL q=>?_
  have p:=aB q;go_wp2_with (go_at_call 88;refine rf (lD 6 l _) λI E=>?_;obtain rfl:=E.symm)
  exact⟨aJ,gJ.fault (c1:=⟨a,6,l⟩) (FB.p_ ((CH A _).trans (p.mono s_)) i) s_ (sq.refl _)⟩
 have hc :=f.symm;subst hc;go_in
 go_wp2_with fail;go_quiet ((go_at_call 200;exact Calls.quiet_of_same (s _)))
 go_wp2
 go_end0;grind [FB.p_,CH,d7,CK.grow,gJ]
def wV(m o v:Nat)(y:List aC)(z:aW)(w:aN)(a:cY)(h:CK m o v y z w a)(K:Ty a<=100000)(l:Nat)(x:bP):
 Ue Un 146 #[bF m,.agg #[I_ l,Q_ (bs x)]] w (gJ m o v y z w (if gL x || a.contains x then bJ.found ⟨a,0,0⟩ l 6 else ⟨a,0,0⟩)):=by
 have i:=h.grow ((dz _ _).alloc mJ (cD #[I_ l,Q_ (bs x)] 179));obtain⟨J,f,e,_⟩:=i.i_;have j:=h.lt;obtain⟨A,P,F,N⟩:=mS f
 obtain⟨p,s,rfl⟩:∃p s,J=P_ p (Ty a) s:=by
  rcases e.2 with ⟨rfl,M⟩|⟨g,E,G,rfl,_⟩
  .grind
  simp
 have u:=aB (λn=>CB a x (P_ p (Ty a) s) o ((eH w #[I_ l,Q_ (bs x)] 179).drewN n) K (bC e s_))
 have H:=aB i;have D:Ul (R_ w (eH w #[I_ l,Q_ (bs x)] 179)):=(by grind [ep,dz])
 have hx :=aX x;have C:Ul (gL x=(x==[108,101,110] || x==[114,101,97,100])):=rfl
 generalize k:(if gL x || a.contains x then bJ.found ⟨a,0,0⟩ l 6 else (⟨a,0,0⟩:bJ))=c
 have d:=aB k;rw[C]at d;generalize a.contains x=b at*;cases i:(x==[108,101,110])<;>cases B:(x==[114,101,97,100])<;>cases b
 all_goals
  rw[i,B]at d
  first
   |(have t:c=⟨a,0,0⟩:=d.symm
     subst t;go_in
     go_wp2_with fail;go_quiet ((go_at_call 200;exact Calls.quiet_of_same (u _)))
     go_wp2
     go_end0;grind [FB.p_,CH,d7,CK.grow,gJ])
   |(have t :=d.symm
     subst t;go_in
     go_wp2_with fail;go_quiet ((go_at_call 200;exact Calls.quiet_of_same (u _)))
     go_wp2_with fail;refine rf (wY l _) λO r=>?_
     have q:=aB r;go_wp2_with (go_at_call 88;refine rf (lD 6 l _) λL I=>?_;obtain rfl:=I.symm)
     exact⟨aJ,gJ.fault (c1:=⟨a,6,l⟩) (FB.p_ ((CH D _).trans (q.mono s_)) j) s_ (sq.refl _)⟩)
def KE(g:O.heap[N]?=Ua (cD #[P,Q] 189))(i:(O.alloc o).grownBy R z.ownBlock)(h:z.ownBlock≠Ua N):
 R.heap[N]?=Ua (cD #[P,Q] 189):=by
 have b:=aH g;rw[i.block N kj (G_)]
 exact kX _ _ b _ g
def CK.add{i:Nat}{b:Nat}(h:CK N i S J P O K)(d:O.heap[N]?=Ua (cD #[P,Q] 189))
 (n:O.ownsRow i 9 1 Q (Ty K) (kE K)) (l:R.ownsRow i 9 1 (P_ (Ua (aL M 0)) (Ty K+1) b) (Ty K+1) (kE K++[Q_ (bs x)])) (j:(O.alloc o).grownBy R Q.ownBlock) (D:Q.ownBlock=Ua M\/H_ O<=M):
 FB N i O (Tz R (aL N 1) (P_ (Ua (aL M 0)) (Ty K+1) b))/\CK N i S J P (Tz R (aL N 1) (P_ (Ua (aL M 0)) (Ty K+1) b)) (K++[x]):=by
 have C:=aH d
 obtain⟨v,p⟩:Q.ownBlock≠Ua N/\i<=N:=by grind [CK.i_]
 have y:=KE d j v
 have s:Below i O R:=⟨j.os.trans aJ,j.tape.trans aJ,j.output.trans aJ,eo s_ j.size,λk f=>by
  rw[j.block k kj λe=>by have:=bX n k e.symm;exact aD]
  grind [eh]⟩
 have r:Below i O (Tz R (aL N 1) (P_ (Ua (aL M 0)) (Ty K+1) b)):=s.setCell p _;have A:(Tz R (aL N 1) (P_ (Ua (aL M 0)) (Ty K+1) b)).heap[N]?=Ua (cD #[P,P_ (Ua (aL M 0)) (Ty K+1) b] 189):=by rw[aP y];rfl
 have E:=rS d;refine⟨⟨r,λk f H I=>?_,λk f=>?_⟩,⟨P_ (Ua (aL M 0)) (Ty K+1) b,A,?_⟩,h.vh.h_ λk f=>r.block k f.2⟩
 .rw[em _ _ _ _ aD,j.block k kj (G_),eh _ _ _ f]
 .rw[rS A]at f;have e :=ft f;grind
 have G:Ty (K++[x])=Ty K+1:=s_
 have F:kE (K++[x])=kE K++[Q_ (bs x)]:=by simp[kE]
 rw[G,F];have t:M≠N:=(by grind)
 exact⟨bC l λk f=>em _ _ _ _ (by cases f;exact t),λe=>t (ft e),p⟩
def mU(cb tp lo:Nat)(fs:List aC)(fv:aW)(d:Nat):Prop:=
 ∀(v:aW) (a:aC) (e_:cY) (w:aN),CK cb tp lo fs fv w e_->PN (rn lo tp) w v a->fV d a->Ty e_+cV d a<=90000->
  Ue Un 179 #[bF cb,v] w (gJ cb tp lo fs fv w (aT fs (mI fv) d a ⟨e_,0,0⟩))
def CK.cut(h:CK N S M J P O K):∃e b,O.heap[N]?=Ua (cD #[P,P_ e (Ty K) b] 189)/\Ty K<=b/\b<=maxLen/\O.ownsRow S 9 1 (P_ e (Ty K) b) (Ty K) (kE K)/\(Value.slice e (Ty K) b).ownBlock≠Ua N:=by obtain⟨o,n,i,p,_⟩:=h.i_;obtain⟨x,c,rfl,m,j,_⟩:=rL i _ mJ;grind
theorem PN.below{d b:Nat}{c:aN}{v:aW}{a:aC}(h:PN (rn d b) O v a)(f:Below b O c):PN (rn d b) c v a:=h.h_ λk e=>f.block k e.2
def rP.below{c a:Nat}{b:aN}{v:aW}(h:rP (rn c a) O v J)(e:Below a O b):rP (rn c a) b v J:=h.h_ (λk d=>e.block k d.2) s_
def YG(n x E:Nat)(o:List aC)(p:aW)(d:Nat)(IH:mU n x E o p d)(w:aN)(e_:cY)(h:CK n x E o p w e_)(V:Nat)(t u:aC)(v1:aW)(hu:PN (rn E x) w v1 u)(aj:fV d u)(ax:Ty e_+cV d u<=90000):
 Ue Un 231 #[bF n,.agg #[I_ V,I_ t.l_,Q_ (bs t.x_),v1]] w
  (gJ n x E o p w { aT o (mI p) d u (Hs.oo ⟨e_,0,0⟩ t)with e_:=(aT o (mI p) d u (Hs.oo ⟨e_,0,0⟩ t)).e_++[t.x_] }):=by
 obtain⟨T,l,rfl⟩:=hu.form;have Q:=h.lt;have z:Ul (R_ w (eH w #[I_ V,I_ t.l_,Q_ (bs t.x_),dH T (.agg l)] 329)):=(dz _ _).alloc (aD) _;have ah:Ul ((eH w #[I_ V,I_ t.l_,Q_ (bs t.x_),dH T (.agg l)] 329).heap[H_ w]?=Ua (cD #[I_ V,I_ t.l_,Q_ (bs t.x_),dH T (.agg l)] 329)):=aZ _ _ aJ _;have X:=aB (wV n x E o p _ e_ (h.grow z) aD t.l_ t.x_);have I:Ul (Hs.oo ⟨e_,0,0⟩ t=if gL t.x_ || e_.contains t.x_ then bJ.found ⟨e_,0,0⟩ t.l_ 6 else ⟨e_,0,0⟩):=rfl
 rw[<-I]at X;have HU:=aB hu;have Y:=aB IH;have r:=gY o (mI p) d u (Hs.oo ⟨e_,0,0⟩ t);have HADD:=aB r;have L:=lG ⟨e_,0,0⟩ t;have H:=aB L;have A:=aB (FB.p_ z Q)
 have J:lT n (eH w #[I_ V,I_ t.l_,Q_ (bs t.x_),dH T (.agg l)] 329)≠Ua (H_ w):=by obtain⟨sv,hb,ho,_⟩:=h.i_;intro e;rw[IN (z.block n Q.1),rS hb]at e;have:=eG ho _ e;exact aD
 have W:=aB J;clear h hu IH I r L J;generalize ak:Hs.oo ⟨e_,0,0⟩ t=c1 at*;clear ak;obtain⟨i0,hi,ab,ai,af⟩:=info_parts FY;go_in
 go_wp2_with fail;apply X.mono
 rintro e w1 ⟨j,⟨s1,rfl,rfl,q⟩|⟨S,rfl⟩⟩
 rotate_left
 .have C:=aB (A.trans j);have aq:=aB S;clear j S;go_wp2_with fail;exact⟨aJ,(by grind [gJ.fault,d7,sq.trans,sq.walk,sq.e_])⟩
 obtain rfl:s1=e_:=H.out;have HX:=aB (Y (dH T (.agg l)) u s1 w1 q (HU.below (A.trans j).re) aj aD);have a:=aB ((j.i_ (H_ w) s_ aD W).trans ah)
 have C:=aB (A.trans j);have N:Ul (lT n w1≠Ua (H_ w)):=(by grind [FB.row,d7])
 have m0:=aA a (i:=0) aJ;have m1:=aA a (i:=1) aJ;have m2:=aA a (i:=2) aJ;have m3:=aA a (i:=3) aJ;have P:=aH a;clear j q X H;generalize ad:aT o (mI p) d u ⟨s1,0,0⟩=c2 at*;clear ad;go_wp2_with fail;apply HX.mono
 rintro e D ⟨m,⟨U,rfl,rfl,f⟩|⟨F,rfl⟩⟩
 rotate_left
 .have y:=aB (C.trans m);have aw:=aB F;clear m F;go_wp2_with fail;exact⟨aJ,(by grind [d7,gJ])⟩
 clear m0 m1 m2 m3 P;have b:=aB ((m.i_ (H_ w) (aH a) aD N).trans a);have m0:=aA b (i:=0) aJ;have m1:=aA b (i:=1) aJ;have m2:=aA b (i:=2) aJ;have m3:=aA b (i:=3) aJ;have am:=aH b;obtain⟨Z,ac,c,ap,aa,k,v⟩:=f.cut;obtain⟨ao,c0,c1,f1⟩:=mS c
 have av:Ty U<=90000:=by grind [d7,sj]
 have y:=aB (show D.drew.heap[n]?=_ from c)
 have G:=aB (show D.drew.ownsRow _ _ _ _ _ _ from k)
 have ae:=aB (show CK n x E o p D.drew U from f.grow (dz _ _).drew)
 have K:=aB (C.trans (m.trans (FB.p_ (dz _ _).drew f.lt)));have ag:=aB v;clear c k v f m HX;go_wp2
 go_region_law (refine step_append_lies _ r_ _ _ 54 r_ x 9 i0 _ 1 16 underlying54 hi ab ai af rfl d_ (P_ Z (Ty U) ac) (Ty U) (kE U) r_ (G.alloc _) (aL (H_ D) 0) 1 1 [Q_ (bs t.x_)] r_ r_ (BL D.drew _) (FX _) d_ kk aD kj (H_ D+1) s_ ?_;intro g5 an w5 B g O ay;have M:=KE y g ag;obtain⟨au, -,q1,ar⟩:=mS M;clear M)
 all_goals
  go_wp2_with fail;first|go_end0|refine bodyPost_ret (results_none aJ _ _ _) aJ ?_
  have s:=ae.add y G B g (O.imp_right λe=>by show H_ D<=g5;exact aD)
  exact gJ.done (K.trans s.1) aJ s.2
