import Derived.Test.YthlhecfcnfjecaaGreatDoorP07
set_option linter.all false
set_option maxRecDepth 100000
set_option maxHeartbeats 0
open List renaming length->aA
open Bool renaming false->WD,true->W1
open Go renaming Calls->W_,Value->Xa,World->Xb
open Go.RowKit renaming Hid->Xg
namespace Go.Proofs.YthlhecfcnfjecaaGreatDoor
open Hs _root_.Go.Proofs.Tryz Go.RowKit
variable{C:Ctx}{A:List (Nat × Obj)}{B:List vk}{d:List bH}{F q:Nat}{j:Type}{D E o:aN}{m:bQ}
def Out.err{a:aN}{r:bU j}{P:Xb->Xa->j->Prop}(d:r=.error q)(c:Fr C.pb D a):Out C D r P (iE 4 q) a:=by grind[Out]
def Out.ok{b:aN}{r:bU j}{P:Xb->Xa->j->Prop}{a:j}{v:aX}(g:r=.ok (a,q))(e:Fr C.pb D b)(f:uh C b q)(d:P b v a):Out C D r P (bR v) b:=by grind[Out]
def rJ{a:j}(h:cA d q m=W1):aQ d m (.ok (a,q):bU j)=.ok (a,q+1):=by grind[aQ]
theorem EJ{a:j}(h:cA d q m=WD):aQ d m (.ok (a,q):bU j)=.error (aR d q).l_:=by unfold aQ;grind[Hs.bad]
def So(w:aN)(v:aX):∀j u,([v]:List Xa)[j]?=some u->(eF w #[v] 149).cell? ((⟨H_ w,0,none⟩:Addr).add j)=some u:=by exact GR
def Us(T:TypeId)(b:Array Xa):∀u∈([dI T (.agg b)]:List Xa),u.oneCell'=W1:=by intro u a;simp at a;subst a;rfl
def Fk(C:Ctx)(w:aN)(r:bU (List aC))(e:Ending)(w':aN):Prop:=Out C w r (λw' v l=>th (sm w.heap.size w'.heap.size) w' v l) e w'
def th.slice{F:bL}{w:aN}{v:aX}{l:List aC}(h:th F w v l):∃x c,v=.slice x (aA l) c:=by rcases h with ⟨b,f⟩|⟨g,d,a,e,b,_⟩;grind;grind
structure Pg(C:Ctx)(w:aN)(L:List (Nat × Obj))(K:List (Nat × (Xb->Prop)))(M:List vk)(W:aN)(p:Nat):Prop where
 fr:Fr C.pb w W
 at_:uh C W p
 own:∀x∈L,W.heap[x.1]?=some x.2/\w.heap.size<=x.1
 Ah:∀x∈M,x.ok (sm w.heap.size W.heap.size) W
 pb:C.pb<w.heap.size
 wa:∀x∈K,x.2 W/\(∀V V',Fr C.pb V V'->x.2 V->x.2 V')/\C.pb<x.1/\C.g<x.1/\w.heap.size<=x.1/\x.1<=W.heap.size
section
variable {C:Ctx} {w W W':aN} {L:List (Nat × Obj)} {K:List (Nat × (Xb->Prop))} {M:List vk} {p q:Nat} {Q:Ending->Xb->Prop} {α:Type} {r:bU α} {x:ByteArray} {t:bH}
def vk.ok.go{x:vk}{F G:bL}(h:x.ok F W)(a:∀b,F b->W'.heap[b]?=W.heap[b]?)(c:∀b,F b->G b):x.ok G W':=(sU.h_ h a).mono (λ_ _ h=>(h.h_ a).mono c) c
theorem vk.ok.uu{F:bL}{v:aX}{a:aC}(h:vk.ok F w ⟨v,[a],W1⟩):PN F w v a:=by rcases h with ⟨_,b,c,d⟩|⟨c,_⟩;grind;grind
theorem vk.ok.many{F:bL}{w:aN}{v:aX}{l:List aC}(h:vk.ok F w ⟨v,l,WD⟩):th F w v l:=by rcases h with ⟨b,_⟩|⟨_,a⟩;cases b;exact a
def Pg.h_(h:Pg C w L K M W p)(i:Fr C.pb W W')(k:uh C W' q):Pg C w L K M W' q:=have j:=h.pb
 ⟨h.fr.trans i,k,λx g=>by obtain⟨m,l⟩:=h.own x g;grind[Fr.block],λx g=>(h.Ah x g).go ((by grind[Fr.block,sm])) (by grind[Nat.lt_of_lt_of_le,Fr.size,sm]),j,λx g=>have ⟨a,b,c,d,e,f⟩:=h.wa x g;⟨b _ _ i a,b,c,d,e,em f i.size⟩⟩
theorem Pg.new(h:uh C w p):Pg C w [] [] [] w p:=⟨Fr.refl _ _,h,s_,s_,h.wj,s_⟩
theorem Pg.sd(h:Pg C w L K M W p)(a:R_ W W'):Pg C w L K M W' p:=h.h_ (Fr.below a) (h.at_.below a)
def Pg.drew(h:Pg C w L K M W p):Pg C w L K M W.drew p:=h.sd (dv _ _).drew
def Pg.add(h:Pg C w L K M W p)(o:Obj):Pg C w ((H_ W,o)::L) K M (W.alloc o) p:=have k:=h.sd ((dv _ _).alloc lZ o)
 {k with own:=λx a=>(ew.1 a).elim (λe=>e▸⟨aV _ _ rfl _,h.fr.size⟩) (k.own x)}
def Pg.DS(h:Pg C w L K M W p)(o u:Obj):Pg C w ((H_ W+1,u)::(H_ W,o)::L) K M ((W.alloc o).alloc u) p:=by simpa using (h.add o).add u
def Pg.inc(h:Pg C w L K M W p)(a:p+1<aA C.ts):Pg C w L K M (W.setCell (aL C.pb 1) (Y (p+1:Nat))) (p+1):=have k:=h.at_.move (dv _ _) (p+1) a;h.h_ k.2 k.1
def Pg.tok{a b:Nat}{c d f e y:aX}(h:Pg C w ((b,bO #[y] 179)::(a,bO #[c,d,f,e] 176)::L) K M W p):dR W b 0 y/\b<H_ W/\dR W a 0 c/\dR W a 1 d/\dR W a 2 f/\dR W a 3 e/\a<H_ W:=have k:=(h.own _ (.head _)).1;have l:=(h.own _ (.tail _ (.head _))).1;(by grind[aB])
def Pg.yv{b:Nat}{y:aX}(h:Pg C w ((b,bO #[y] 179)::L) K M W p):dR W b 0 y/\b<H_ W:=have k:=(h.own _ (.head _)).1;(by grind[aB])
def Pg.Ad{a:Nat}{b c:aX}(h:Pg C w ((a,bO #[b,c] 181)::L) K M W p):dR W a 0 b/\dR W a 1 c/\a<H_ W:=have l:=(h.own _ (.head _)).1;(by grind[aB])
def Pg.put{x:vk}(h:Pg C w L K M W p)(a:x.ok (sm (H_ w) (H_ W)) W):Pg C w L K (x::M) W p:={h with Ah:=(by grind[Pg.Ah])}
def Pg.ret{T:TypeId}{c:Array Xa}{a:aC}{b:List vk}{r:bU aC}(H:Pg C w L K M W q)(e:r=.ok (a,q))(f:Shape T c a b)(d:∀x∈b,x∈M:=by simp[aW]):CR C w r (bR (dI T (.agg c))) W:=Out.ok e H.fr H.at_ (PN.mk f λx g=>H.Ah x (d x g))
def Pg.node{T:TypeId}{d:Array Xa}{a:aC}{c:List vk}(H:Pg C w L K M W q)(f:Shape T d a c)(e:∀x∈c,x∈M:=by simp[aW]):Pg C w L K [⟨dI T (.agg d),[a],W1⟩] W q:={H with Ah:=λx b=>by obtain rfl:=ie.1 b;exact .node (PN.mk f λx b=>H.Ah x (e x b))}
def Pg.one{v:aX}{a:aC}{r:bU aC}(H:Pg C w L K (⟨v,[a],W1⟩::M) W q)(b:r=.ok (a,q)):CR C w r (bR v) W:=Out.ok b H.fr H.at_ (H.Ah _ (.head _)).uu
def Pg.form{v:aX}{a:aC}(H:Pg C w L K (⟨v,[a],W1⟩::M) W q):∃T cs,v=.iface T (.agg cs):=(H.Ah _ (.head _)).uu.form
def Ep(a:Xg (aR C.ts p=t))(H:Xg (Pg C w L K M W p))(k:∀W',Xg (Pg C w L K M W' p)->Q (bR (.agg #[Y (tu t.c_),Q_ (bs t.x_),Y (vp t),Y t.l_])) W'):W_ prog 86 #[aY C.pb] W Q:=(rF C W p H.at_).mono (by grind[tK,dw,Pg.sd])
def Aa(a:Xg (aR C.ts p=t))(H:Xg (Pg C w L K M W p))(k:∀W',Xg (Pg C w L K M W' p)->Q (bR (.agg #[Y t.l_])) W'):W_ prog 246 #[aY C.pb] W Q:=(Hv C W p H.at_).mono (by grind[dw,Pg.sd])
def oJ(H:Xg (Pg C w L K M W p))(y:bQ)(c:Xg (cA C.ts p y=W1)->∀W',Xg (Pg C w L K M W' (p+1))->Q (bR (.bool W1)) W')(f:Xg (cA C.ts p y=WD)->∀W',Xg (Pg C w L K M W' p)->Q (bR (.bool WD)) W')(d:eA x=y:=by rfl):W_ prog 199 #[aY C.pb,Q_ x] W Q:=(AJ C W p x H.at_).mono λe W' h=>by subst d;obtain⟨rfl,a,b⟩:=h;cases i:cA C.ts p (eA x)<;>rw[i]at a;exact f i W' (H.h_ b a);exact c i W' (H.h_ b a)
def vI(_HNE:Xg (r≠.error 0))(H:Xg (Pg C w L K M W p))(y:bQ)(a:cA C.ts p y=WD->r=.error (aR C.ts p).l_)(c:∀l W',Xg (r=.error l/\Fr C.pb w W')->Q (iE 4 l) W')(d:Xg (cA C.ts p y=W1)->∀W',Xg (Pg C w L K M W' (p+1))->Q (fA) W')(b:eA x=y:=by rfl):W_ prog 142 #[aY C.pb,Q_ x] W Q:=(S5 C W p x H.at_).mono λe W' h=>by subst b;have ⟨h1,h2⟩:=h;cases i:cA C.ts p (eA x)<;>rw[i]at h2;obtain rfl:e=_:=h2;exact c _ W' ⟨a i,H.fr.trans h1⟩;obtain⟨rfl,f⟩:=h2;exact d i W' (H.h_ h1 f)
def zz(_HNE:Xg (r≠.error 0))(g:Xg (aR C.ts p=t))(H:Xg (Pg C w L K M W p))(c:(t.c_==110)=WD->r=.error t.l_)(d:∀l W',Xg (r=.error l/\Fr C.pb w W')->Q (iE 4 l) W')(f:Xg ((t.c_==110)=W1)->∀W',Xg (Pg C w L K M W' (p+1))->Q (bR (.agg #[Y t.l_,Q_ (bs t.x_)])) W'):W_ prog 143 #[aY C.pb] W Q:=(Oi C W p H.at_).mono λe W' h=>by rw[g.out]at h;obtain⟨b,a⟩:=h;cases i:(t.c_==110)<;>rw[i]at a;obtain rfl:e=_:=a;exact d _ W' ⟨c i,H.fr.trans b⟩;obtain⟨rfl,j⟩:=a;exact f i W' (H.h_ b j)
def vy{f:Nat}{X:Nat->bU aC}(t:Xg (ss C f X))(d:Xg (r≠.error 0))(H:Xg (Pg C w L K M W p))(m:∀l,X p=.error l->r=.error l)(n:∀l W',Xg (r=.error l/\Fr C.pb w W')->Q (iE 4 l) W') (o:∀a q T cs W',Xg (X p=.ok (a,q))->Xg (Pg C w L K (⟨dI T (.agg cs),[a],W1⟩::M) W' q)->Q (bR (dI T (.agg cs))) W'):W_ prog f #[aY C.pb] W Q:=(t W p H.at_ λe=>d (m 0 e)).mono λe W' h=>by obtain⟨k,c⟩:=h;cases i:X p<;>rw[i]at c;obtain rfl:e=_:=c;exact n _ W' ⟨m _ i,H.fr.trans k⟩;obtain⟨s,v,rfl,j⟩:=c;obtain⟨T,cs,rfl⟩:=j.form;exact o _ _ _ _ W' i ((H.h_ k s).put (.node (j.mono λb g=>⟨em H.fr.size g.1,g.2⟩)))
def Pn{f:Nat}{a:Array Xa}{r:bU aC}(j:W_ prog f a W (CR C w r))(g:∀l W',Xg (r=.error l/\Fr C.pb w W')->Q (iE 4 l) W')(i:∀T cs W',Xg (CR C w r (bR (dI T (.agg cs))) W')->Q (bR (dI T (.agg cs))) W'):W_ prog f a W Q:=j.mono λe W' h=>by cases r with|error l=>obtain⟨b,rfl⟩:=h;exact g l W' ⟨aJ,b⟩|ok k=>obtain⟨b,d,v,rfl,c⟩:=h;obtain⟨T,cs,rfl⟩:=c.form;exact i T cs W' ⟨b,d,_,aJ,c⟩
theorem Pg.begin{F:lA}(h:Pg C w L [] M W p)(b:F W)(h2:∀V a,Fr C.pb V a->F V->F a):Pg C w L [(H_ W,F)] M W p:={h with wa:=λx c=>by obtain rfl:=ie.1 c;exact⟨b,h2,h.at_.wj,h.at_.zh,h.fr.size,Z⟩}
variable {b_:Nat} {v:aX} {acc:List aC} {T:TypeId} {cs:Array Xa} {a:aC}
def Pg.grow{F G:lA}{o:Obj}{a:Option Nat}(H:Pg C w L [(b_,F)] [] W p)(b:(W.alloc o).grownBy W' a)(j:∀k,a=some k->b_<=k)(m:∀y∈L,y.1<b_)(h:G W')(g:∀V e,Fr C.pb V e->G V->G e):Pg C w L [(b_,G)] [] W' p:=by obtain⟨-,-,d,f,i,l⟩:=H.wa _ (.head _);refine⟨(H.fr.alloc _).grown b G_,(H.at_.alloc _).grown b j d f,λy c=>?_,s_,H.pb,λy c=>?_⟩;have ⟨k1,k2⟩:=H.own y c;have:=aH k1;exact⟨(b.block _ la G_).trans (ri),k2⟩;obtain rfl:=ie.1 c;exact⟨h,g,d,f,i,by have:=b.size;simp at this;exact Z⟩
abbrev Nl(b_:Nat)(v:aX)(acc:List aC):Nat×(Xb->Prop):=(b_,λW=>vt b_ W v acc)
def Pg.open(h:Pg C w L [] M W p):Pg C w L [Nl (H_ W) (bP) []] M W p:=(by grind[Pg.begin,vt.nil])
def Pg.lk(h:Pg C w L [Nl b_ v acc] M W p):th (sm b_ (H_ W)) W v acc:=vt.uz (h.wa _ (.head _)).1
def Pg.shut(h:Pg C w L [Nl b_ v acc] M W p):Pg C w L [] (⟨v,acc,WD⟩::M) W p:=Pg.put {h with wa:=by simp} (.list (h.lk.grow (s_) (h.wa _ (.head _)).2.2.2.2.1 (Z)))
def Pg.list{r:bU (List aC)}(h:Pg C w L [Nl (H_ w) v acc] M W p)(a:r=.ok (acc,p)):Fk C w r (bR v) W:=Out.ok a h.fr h.at_ h.lk
def Pg.sl(h:Pg C w L [Nl b_ v acc] M W p):∃x c,v=P_ x (aA acc) c:=vt.slice (h.wa _ (.head _)).1
structure E2(C:Ctx)(w:aN)(L:List (Nat × Obj))(b_:Nat)(v:aX)(acc:List aC)(T:TypeId)(cs:Array Xa)(a:aC)(W:aN)(p:Nat):Prop where
 g:Pg C w L [Nl b_ v acc] [] W p
 n:∃lo,PN (sm lo W.heap.size) W (.iface T (.agg cs)) a/\b_<=lo/\∀k,v.ownBlock=some k->k<lo
def j9{f:Nat}{X:Nat->bU aC}(s:Xg (ss C f X))(c:Xg (r≠.error 0))(H:Xg (Pg C w L [Nl b_ v acc] [] W p))(j:∀l,X p=.error l->r=.error l)(m:∀l W',Xg (r=.error l/\Fr C.pb w W')->Q (iE 4 l) W') (n:∀a q T cs W',Xg (X p=.ok (a,q))->Xg (E2 C w L b_ v acc T cs a W' q)->Q (bR (dI T (.agg cs))) W'):W_ prog f #[aY C.pb] W Q:=(s W p H.at_ λe=>c (j 0 e)).mono λe W' h=>by obtain⟨g,b⟩:=h;cases i:X p<;>rw[i]at b;obtain rfl:e=_:=b;exact m _ W' ⟨j _ i,H.fr.trans g⟩;obtain⟨o,v,rfl,d⟩:=b;obtain⟨T,cs,rfl⟩:=d.form;obtain⟨⟨t,F,k,-⟩,-,-,-,-,l⟩:=H.wa _ (.head _);exact n _ _ _ _ W' i ⟨H.h_ g o,_,d,l,eI k⟩
def o9{i:Array Oper}{h:List Oper}{o:Oper}{e:Act}{Q:Exit->Act->Xb->Prop}{z:Option Addr}{c:Nat}(H:Xg (E2 C w L b_ (P_ z (aA acc) c) acc T cs a W p))(E:aA acc<=4000)(t:∀y∈L,y.1<b_)(s x:Operand) (k:∀g d W',Xg (Pg C w L [Nl b_ (P_ (some (aL g 0)) (aA acc+1) d) (acc++[a])] [] W' p)->wpList prog i Q h (e.put o.dst (P_ (some (aL g 0)) (aA acc+1) d)) W') (j:o.guard=none:=by rfl) (u:o.op=.call {callee:=.builtin .append,args:=#[s,x],argTypes:=#[183,183]}:=by rfl) (v:e.eval s=P_ z (aA acc) c:=by rfl) (A:e.eval x=P_ (some (aL (H_ W) 0)) 1 1:=by rfl):wpList prog i Q (o::h) e (eF W #[dI T (.agg cs)] 149):=by have ⟨i0,hi,hz0,hz1,hz2⟩:=info_parts Pk;obtain⟨⟨q,F,b,f,m⟩,-,B,-,-,n⟩:=H.g.wa _ (.head _);simp at b f m n;have ⟨lo,hN,hlo,hrow⟩:=H.n;refine wpList_append_lies _ j s x 183 u b_ 149 i0 _ 1 16 underlying183 hi hz0 hz1 hz2 aJ d_ _ (aA acc) q v (b.alloc _) (aL (H_ W) 0) 1 1 [dI T (.agg cs)] A rfl (So _ _) (Us _ _) d_ lg Z la (H_ W+1) s_ ?_;exact λg d W' r l D _=>k g d W' (H.g.grow l (bX b) t (vt.snoc f m hN hlo hrow (ri) s_ r l (G_)) (by grind[vt.h_]))
end
def C8(C:Ctx)(E:Nat->bU aC)(z:ss C 177 E)(w:aN)(p:Nat)(y:ByteArray)(h:uh C w p)(j:aQ C.ts (eA y) (gL E C.ts p (eA y))≠.error 0):W_ prog 283 #[aY C.pb,Q_ y] w (Fk C w (aQ C.ts (eA y) (gL E C.ts p (eA y)))):=by
 have ⟨r,hr⟩:∃r,r=aQ C.ts (eA y) (gL E C.ts p (eA y)):=⟨_,rfl⟩;rw[<-hr]at j⊢;unfold gL at hr;have d:=O hr;have f:=O j;have m:=O z;have b:=O (Pg.new h).open;have u:=h.len;clear h z j hr;go_in;go_wp;refine oJ b (eA y) (λi A b=>?_) λi A b=>?_;.go_wp2;go_ret;exact b.list (by rw[d,i.out];exact rJ i)
 have d:Xg (r=aQ C.ts (eA y) (fJ E C.ts (aA C.ts+1) p [])):=by show _=_;rw[d,i.out];rfl
 go_wp21;refine j9 m f b (λl e=>by rw[d,fJ,e];rfl) (λl t H=>?_) λa q T F t n s=>?_;.go_wp;exact⟨aJ,Out.err H.1 H.2⟩
 go_wp2_with (at_builtin;refine o9 (acc:=[]) s s_ s_ _ _ λg o B b=>?_);go_wp2;go_loopg [5] (aA C.ts) (λk v wr=>∃q acc,Pg C w [] [Nl (H_ w) v acc] [] wr q/\aA acc+k<=4000/\r=aQ C.ts (eA y) (if cA C.ts q [44]then fJ E C.ts k (q+1) acc else .ok (acc,q)));case atStart=>exact⟨q,_,b,la,by rw[d,fJ,n.out]⟩
 case round=>
  have ⟨q,acc,hg,hal,hr⟩:=hrel;obtain⟨x,c,rfl⟩:=hg.sl;have b:=O hg;have d:=O hr;clear hg hr n;go_wp;refine oJ b [44] (λi G b=>?_) λi G b=>?_
  .have d:Xg (r=aQ C.ts (eA y) (fJ E C.ts gk (q+1) acc)):=by show _=_;rw[d,i.out];rfl
   obtain⟨k,rfl⟩:∃k,gk=k+1:=by cases gk with|zero=>exact ep d f|succ k=>exact⟨k,aJ⟩
   go_wp21;refine j9 m f b (λl e=>by rw[d,fJ,e];rfl) (λl t H=>?_) λa q T F t n s=>?_;.go_wp;exact⟨aJ,Out.err H.1 H.2⟩
   go_wp2_with (at_builtin;refine o9 s Z s_ _ _ λg o B b=>?_);go_wp2;go_roundg k;case measure=>exact Z
   case rel=>exact⟨q,_,b,la,by rw[d,fJ,n.out]⟩
  have d:Xg (r=aQ C.ts (eA y) (.ok (acc,q))):=by show _=_;rw[d,i.out];rfl
  go_wp21;refine vI f b (eA y) (λi=>by rw[d];exact EJ i) (λl D H=>?_) λi D b=>?_;.go_wp;exact⟨aJ,Out.err H.1 H.2⟩
  go_wp2;go_ret;exact b.list (by rw[d];exact rJ i)
section
variable {C:Ctx} {w W:aN} {L:List (Nat × Obj)} {K:List (Nat × (Xb->Prop))} {M:List vk} {p:Nat} {Q:Ending->Xb->Prop} {α:Type} {r:bU α} {x:ByteArray}
def Bl{E:Nat->bU aC}(o:Xg (ss C 177 E))(d:Xg (r≠.error 0))(H:Xg (Pg C w L K M W p))(y:bQ)(j:∀l,aQ C.ts y (gL E C.ts p y)=.error l->r=.error l)(k:∀l W',Xg (r=.error l/\Fr C.pb w W')->Q (iE 4 l) W') (m:∀l q z c W',Xg (aQ C.ts y (gL E C.ts p y)=.ok (l,q))->Xg (Pg C w L K (⟨P_ z (aA l) c,l,WD⟩::M) W' q)->Xg (th (sm (H_ W) (H_ W')) W' (P_ z (aA l) c) l)->Q (bR (P_ z (aA l) c)) W') (g:eA x=y:=by rfl):W_ prog 283 #[aY C.pb,Q_ x] W Q:=(C8 C E o W p x H.at_ λe=>d (j 0 (g▸e))).mono λe W' h=>by subst g;have ⟨h1,h2⟩:=h;cases i:aQ C.ts (eA x) (gL E C.ts p (eA x))<;>rw[i]at h2;obtain rfl:e=_:=h2;exact k _ W' ⟨j _ i,H.fr.trans h1⟩;obtain⟨n,v,rfl,a⟩:=h2;obtain⟨z,c,rfl⟩:=th.slice a;exact m _ _ _ _ W' i ((H.h_ h1 n).put (.list (a.h_ (λ_ _=>aJ) λb f=>⟨em H.fr.size f.1,f.2⟩))) a
end
def Fr.C_{o:Obj}(d:Fr q D E)(h:D.heap[F]?=some o)(e:F≠q):E.heap[F]?=some o:=(d.block F (aH h) e).trans h
def WC(C:Ctx)(E:Nat->bU aC)(HE:ss C 177 E):ss C 324 (eJ E C.ts):=by
 intro w p h k;have u:=O HE;have y:=h.Cs.tk p h.lt;have S:Xg ((aR C.ts p).c_≠101->p+1<aA C.ts):=λe=>h.all.ok.next p h.lt e;have ab:p<=3000:=by have:=h.lt;have:=h.len;exact Z
 have b:=O (Pg.new h);have ⟨r,j⟩:∃r,r=eJ E C.ts p:=⟨_,rfl⟩;rw[<-j]at k⊢;rw[eJ]at j;have ⟨t,ht⟩:∃t,aR C.ts p=t:=⟨_,rfl⟩;rw[ht]at j S y;have v:Xg (∀x,cA C.ts p x=W1->t.x_=x):=λx hx=>by unfold cA at hx;grind
 have o:=O ht;have d:=O j;have f:=O k;have m:Xg ((tu t.c_=2->t.c_=48/\∃P,dS 0 t.x_=some P)/\(tu t.c_=3->t.c_=115)/\(¬tu t.c_=2->¬tu t.c_=3->(t.c_==48||t.c_==115)=WD)):=by clear j d f k;show _/\_;rcases y with h|⟨h,_⟩|h|⟨h,h2⟩|h|h<;>simp[tu,h];exact Option.isSome_iff_exists.1 h2
 clear h HE k j ht y;go_in;go_wp;refine Ep o b λw1 b=>?_;go_wp2_with fail;refine Aa o b λw2 b=>?_;have b:=O (b.DS (bO #[Y (tu t.c_),Q_ (bs t.x_),Y (vp t),Y t.l_] 176) (bO #[Y t.l_] 179));have ⟨Q,N,k2,k3,k4,k5,k6⟩:=b.tok;go_upto_region 2 with fail;generalize (w2.alloc (bO #[Y (tu t.c_),Q_ (bs t.x_),Y (vp t),Y t.l_] 176)).alloc (bO #[Y t.l_] 179)=W at*;have ⟨k7,k8,k9⟩:=b.at_.cells (dv _ _);have aa:C.pb<w2.heap.size:=by have:=(b.own _ (.tail _ (.head _))).2;have:=b.pb;exact Z
 generalize V:tu t.c_=L at*;by_cases n:L=2;.subst n;have ⟨s,P,hkk⟩:=m.1 rfl;have I:Xg (r=.ok (aW [UInt8.ofNat t.c_] t.l_ t.x_ [],p+1)/\Shape 367 #[Y t.l_,Y (vp t)] (aW [UInt8.ofNat t.c_] t.l_ t.x_ []) []):=⟨by rw[d,s];rfl,ea ⟨rfl,P,by unfold vp;rw[ec s,hkk];rfl,by rw[s];rfl,hkk,rfl,rfl⟩⟩;have b:=O (b.inc (S Z));clear s hkk;go_wp2;go_ret;exact b.ret I.1 I.2
 by_cases g:L=3;.subst g;have s:=m.2.1 aJ;have I:Xg (r=.ok (aW [UInt8.ofNat t.c_] t.l_ t.x_ [],p+1)/\Shape 396 #[Y t.l_,Q_ (bs t.x_)] (aW [UInt8.ofNat t.c_] t.l_ t.x_ []) []):=⟨by rw[d,s];rfl,dz (ea ⟨rfl,rfl,by rw[s];rfl,rfl,rfl⟩)⟩;have b:=O (b.inc (S Z));clear s n;go_wp2;go_ret;exact b.ret I.1 I.2
 have ac:((L:Int)==2)=WD:=by simp;exact Z
 have X:((L:Int)==3)=WD:=by simp;exact Z
 have M:=O (m.2.2 n g);clear n g m;go_wp;refine oJ b [116,114,117,101] (λF w3 b=>?_) λF w3 b=>?_;.obtain⟨Q,N,-⟩:=b.tok;go_wp2;go_ret;exact b.ret (by rw[d,M,F.out];rfl) (dz (dz (ea ⟨rfl,by show _=#[_,Value.bool (t.x_==_)];rw[v _ F];rfl,rfl,rfl,rfl⟩)))
 go_wp21;refine oJ b [102,97,108,115,101] (λG w4 b=>?_) λG w4 b=>?_;.obtain⟨Q,N,-⟩:=b.tok;go_wp2;go_ret;exact b.ret (by rw[d,M,F.out,G.out];rfl) (dz (dz (ea ⟨rfl,by show _=#[_,Value.bool (t.x_==_)];rw[v _ G];rfl,rfl,rfl,rfl⟩)))
 have j:=d.out;rw[M,F.out,G.out]at j;have d:=O j;clear v M F G j;go_wp21;refine oJ b [40] (λB w5 b=>?_) λB w5 b=>?_
 .have d:Xg (r=aQ C.ts [41] (E (p+1))):=by show _=_;rw[d,B.out];rfl
  go_wp21;refine vy u f b (λl e=>by rw[d,e];rfl) (λl J H=>?_) λa q T cs J A b=>?_;.go_wp;exact⟨aJ,Out.err H.1 H.2⟩
  go_wp21;refine vI f b [41] (λi=>by rw[d,A.out];exact EJ i) (λl J H=>?_) λi K b=>?_;.go_wp;exact⟨aJ,Out.err H.1 H.2⟩
  go_wp2;go_ret;exact b.one (by rw[d,A.out];exact rJ i)
 go_wp21;refine oJ b [91] (λD J b=>?_) λD J b=>?_
 .have d:Xg (r=bV (aW [108,105,115,116] t.l_ t.x_) (aQ C.ts [93] (gL E C.ts (p+1) [93]))):=by show _=_;rw[d,B.out,D.out];unfold fU;rw[D.out];rfl
  obtain⟨Q,N,-⟩:=b.tok;go_wp2;go_region_law (go_simp;go_at_call 283;refine Bl u f b.drew [93] (λl e=>by rw[d,e];rfl) (λl K H=>⟨rfl,Out.err H.1 H.2⟩) λl q z c K A b _=>?_;obtain⟨c0,c1,-⟩:=b.tok);all_goals go_wp2;go_ret;exact b.ret (by rw[d,A.out];rfl) (dz (dz (dz (ea ⟨rfl,_,rfl,rfl,rfl⟩))))
 go_wp21;refine zz f o b (λi=>by rw[d,B.out,D.out,i];show Hs.bad _ _=_;unfold Hs.bad;rw[o]) (λl K H=>?_) λi5 K b=>?_;.go_wp;exact⟨aJ,Out.err H.1 H.2⟩
 have d:Xg (r=if cA C.ts (p+1) [40]then bV (aW [99,97,108,108] t.l_ t.x_) (fU E C.ts (p+1) [40] [41])else .ok (aW [110,97,109,101] t.l_ t.x_ [],p+1)):=by show _=_;rw[d,B.out,D.out,i5.out];rfl
 have b:=O (b.add (bO #[Y t.l_,Q_ (bs t.x_)] 181));clear B D i5;go_wp21;refine oJ b [40] (λi w8 b=>?_) λi w8 b=>?_
 .have d:Xg (r=bV (aW [99,97,108,108] t.l_ t.x_) (aQ C.ts [41] (gL E C.ts (p+1+1) [41]))):=by show _=_;rw[d,i.out];unfold fU;rw[i.out];rfl
  have ⟨c0,c1,hz⟩:=b.Ad;go_wp2;go_region_law (go_simp;go_at_call 283;refine Bl u f b.drew [41] (λl e=>by rw[d,e];rfl) (λl w9 H=>⟨rfl,Out.err H.1 H.2⟩) λl q z c w9 A b _=>?_;have ⟨d0,d1,hy⟩:=b.Ad);all_goals go_wp2;go_ret;exact b.ret (by rw[d,A.out];rfl) (dz (dz (dz (dz (ea ⟨rfl,_,rfl,rfl,rfl⟩)))))
 have ⟨c0,c1,hz⟩:=b.Ad;go_wp2;go_ret;exact b.ret (by rw[d,i.out];rfl) (dz (dz (dz (dz (dz (ea ⟨rfl,rfl,rfl,rfl,rfl⟩))))))
abbrev Eo(b l:Nat):Nat×Obj:=(b,.cells #[Y l] 179)
def AO{Z_:Prop}(Y_:Z_:=by cases gk with|zero=>exact ep hr HNE|succ k=>exact⟨k,aJ⟩):Z_:=Y_
def Hb(C:Ctx)(E:Nat->bU aC)(n:ss C 177 E):ss C 323 (λp=>bN (eJ E C.ts p) (eT E C.ts (aA C.ts+1))):=by
 intro w p h c;have G:=O (WC C E n);have m:=O n;have b:=O (Pg.new h);revert c;show (bN _ _:bU aC)≠_->W_ _ _ _ _ (CR C w (bN _ _));generalize hr:bN (eJ E C.ts p) (eT E C.ts (aA C.ts+1))=r;intro c;have d:=O hr.symm;have HNE:=O c;clear h n c hr;go_in;go_wp2_with fail;refine Aa (t:=aR C.ts p) aJ b λI b=>?_;go_wp2_with fail;refine vy G HNE b (λl e=>by rw[d,e];rfl) (λl o H=>?_) λB y Q x o f b=>?_;.go_wp2_with fail;exact⟨aJ,Out.err H.1 H.2⟩
 have b:=O (b.add (bO #[Y (aR C.ts p).l_] 179));go_wp2;go_loopg [4] (aA C.ts+1) (λk v wr=>∃q a,Pg C w [Eo (H_ o) (aR C.ts p).l_] [] [⟨v,[a],W1⟩] wr q/\r=eT E C.ts k a q);case atStart=>exact⟨y,B,b,by rw[d,f.out];rfl⟩
 case round=>
  obtain⟨q,a,g,hr⟩:=hrel;obtain⟨M,F,rfl⟩:=g.form;obtain⟨k,rfl⟩:∃k,gk=k+1:=by exact AO
  rw[eT]at hr;have d:=O hr;have b:=O g;clear g hr f;go_wp2_with fail;refine oJ b [91] (λi u b=>?_) λi u b=>?_;rotate_left;.go_wp2;go_ret;exact b.one (by rw[d,i.out];rfl)
  have hr:=d.out;rw[i.out]at hr;have d:=O hr;obtain⟨T,P⟩:=b.yv;clear i hr;go_wp2;go_cut [4] (λv wc=>∃i j,E (q+1)=.ok (i,j)/\Pg C w [Eo (H_ o) (aR C.ts p).l_] [] [⟨v,[aW [105,110,100,101,120] (aR C.ts q).l_ [] [a,i]],W1⟩] wc j);case first=>go_region_law (go_simp;go_at_call 177;refine vy m HNE b.drew (λl e=>by rw[d,e];rfl) (λl A H=>⟨rfl,Out.err H.1 H.2⟩) λN j L D A f b=>?_;have ⟨d0,hz5⟩:=b.yv);all_goals go_wp;go_meet;case rel=>exact⟨_,_,f,b.node (.inr (.inr (.inr (.inr (.inr (.inr (.inl ⟨aJ,_,_,_,_,_,aJ,aJ,aJ,aJ⟩)))))))⟩
  case rest=>
   obtain⟨i,j,f,g⟩:=hcut;obtain⟨S,z,rfl⟩:=g.form;have s:=O f;have b:=O g;clear f g;go_wp2_with fail;refine vI HNE b [93] (λi=>by rw[d,s];simp only[EJ i];rfl) (λl J H=>?_) λi K b=>?_;.go_wp;exact⟨aJ,Out.err H.1 H.2⟩
   go_wp2;go_roundg k;case measure=>exact Z
   case rel=>exact⟨_,_,b,by rw[d,s];simp only[rJ i.out];rfl⟩
theorem j8(t:bQ):∀l:cY,l.find? (λx=>t==x)=if t∈l then some t else none|[]=>by simp|y::l=>by rw[List.find?_cons];by_cases h:t=y;grind;rw[show (t==y)=WD by grind];simp [j8 t l,h]
theorem Gx(t:bQ)(h:fN.contains t=W1):cU t=9:=by unfold fN at h;simp [List.contains_eq_mem,ew,jo,or_false,decide_eq_true_eq]at h;rcases h with rfl|rfl|rfl|rfl|rfl|rfl|rfl|rfl|rfl<;>decide
def WT(h:oP (aR d q))(k:Nat)(b:k≠9)(l:cY)(c:∀x,x∈l↔cU x=k):tL d q l=if (aR d q).c_==112&&cU (aR d q).x_==k then (aR d q).x_ else []:=by unfold tL;grind[cA,j8,List.find?_eq_none,Gx,oP]
def Uv(x:bQ):x∈([[124,124]]:cY)↔cU x=0:=by grind[cU]
def Kb(x:bQ):x∈([[38,38]]:cY)↔cU x=1:=by grind[cU]
def Nf(x:bQ):x∈([[61,61],[33,61],[60],[60,61]]:cY)↔cU x=2:=by grind[cU]
def Lo(x:bQ):x∈([[43],[45]]:cY)↔cU x=3:=by grind[cU]
def Un(x:bQ):x∈([[42],[47],[37]]:cY)↔cU x=4:=by grind[cU]
def PD(C:Ctx)(w:aN)(p:Nat)(h:uh C w p)(l:cY)(o:aA l<=100)(a:∀x∈l,x≠[])(c:bQ)(f:tL C.ts p l=c)(g:Nat)(d:g=H_ w)(n:Nat)(s:n=aA l)(i:Array Xa)(r:i=(l.map λx=>Value.string (bs x)).toArray):W_ prog 278 #[aY C.pb,P_ (some (aL g 0)) n n] (eF w i 9) λe b=>e=bR (Q_ (bs c))/\uh C b (if c=[]then p else p+1)/\Fr C.pb w b:=by subst f d s;have j:=h.wj;refine(OS C _ p l (H_ w) (aA l) s_ Z o a ?_ (h.alloc _)).mono λe b ⟨m,k,q⟩=>⟨m,k,((Fr.refl _ _).alloc _).trans q⟩;grind[aB,aV]
def Df{K:List (Nat×(Xb->Prop))}{Q:Ending->Xb->Prop}{a:Array Xa}(k:W_ prog 278 a o λe c=>e=bR (Q_ (bs m))/\uh C c (if m=[]then q else q+1)/\Fr C.pb E c)(H:Xg (Pg C D A K B E q)) (i:(bs m).toList.isEmpty=WD->∀W',Xg (Pg C D A K B W' (q+1))->Q (bR (Q_ (bs m))) W') (j:m=[]->∀W',Xg (Pg C D A K B W' q)->Q (bR (Q_ ⟨#[]⟩)) W'):W_ prog 278 a o Q:=k.mono λe W' h=>by obtain⟨rfl,f,d⟩:=h;cases m with|nil=>exact j aJ W' (H.h_ d f)|cons x l=>exact i (by rw[bA];rfl) W' (H.h_ d f)
theorem D5(C:Ctx)(E:Nat->bU aC)(y:ss C 177 E)(g:Nat)(i:ss C 321 (iD E C.ts g)):ss C 321 (iD E C.ts (g+1)):=by
 intro w p h c;have G:=O i;have b:=O (Pg.new h);have s:=O (Hb C E y);have ⟨r,k⟩:∃r,r=iD E C.ts (g+1) p:=(by simp);rw[<-k]at c⊢;have ⟨f,hoo⟩:∃f,tL C.ts p [[45],[33]]=f:=(by simp);have d:Xg ((f≠[]->∃o,f=[o]/\(o=45\/o=33)/\r=bV (λx=>aW [o,120] (aR C.ts p).l_ [] [x]) (iD E C.ts g (p+1)))/\(f=[]->r=bN (eJ E C.ts p) (eT E C.ts (aA C.ts+1)))):=by rw[iD]at k;show _/\_;grind[tL]
 have j:=O c;have n:=O hoo;clear h y c k i hoo;go_in;go_wp;refine Aa (t:=aR C.ts p) aJ b λz b=>?_;have b:=O (b.add (bO #[Y (aR C.ts p).l_] 179));go_wp2_with fail;refine Df (PD C _ p b.at_ [[45],[33]] d_ s_ f n (H_ z+1) s_ 2 rfl #[Q_ ⟨#[45]⟩,Q_ ⟨#[33]⟩] rfl) b (λI J b=>?_) λF J b=>?_;.have d:Xg (∃o,f=[o]/\(o=45\/o=33)/\r=bV (λx=>aW [o,120] (aR C.ts p).l_ [] [x]) (iD E C.ts g (p+1))):=d.1 (by grind[bA]);obtain⟨M,K⟩:=b.yv;go_wp2;go_region_law (go_simp;go_at_call 321;refine vy G j b.drew ((by grind[dw,bV])) (λl v H=>⟨rfl,Out.err H.1 H.2⟩) λa q A u v m b=>?_;obtain⟨L,B⟩:=b.yv);all_goals go_wp2;go_ret;obtain⟨o,rfl,D,k⟩:=d.out;exact b.ret (by rw[k,m.out];rfl) (.inr (.inr (.inr (.inr (.inr (.inr (.inr (.inl ⟨rfl,o,_,_,rfl,D,rfl,rfl,rfl⟩))))))))
 have d:=O (d.2 F);go_wp21;refine vy s j b (λl e=>d.trans e) (λl v H=>?_) λa q A u v m b=>?_;.go_wp;exact⟨aJ,Out.err H.1 H.2⟩
 go_wp2;go_ret;exact b.one (d.trans m)
def Tt(C:Ctx)(E:Nat->bU aC)(b:ss C 177 E)(g:Nat):ss C 321 (iD E C.ts g):=by induction g with|zero=>grind[ss,iD]|succ g a=>grind[D5]
def Ff{K:List (Nat×(Xb->Prop))}{g:Nat}{Q:Ending->Xb->Prop}{x:Array Xa}{d:cY}{L:Nat->bU aC}{a:aC}{r:bU aC}(u:W_ prog 278 x o λe n=>e=bR (Q_ (bs (tL C.ts q d)))/\uh C n (if tL C.ts q d=[]then q else q+1)/\Fr C.pb E n)(H:Xg (Pg C D A K B E q))(y:g≠9)(h:∀x,x∈d↔cU x=g)(i:Xg (r=cH L C.ts g (F+1) a q)) (p:∀m,(bs m).toList.isEmpty=WD->Xg (m=(aR C.ts q).x_/\cU (aR C.ts q).x_≠9/\(∀l,L (q+1)=.error l->r=.error l)/\∀b s,L (q+1)=.ok (b,s)->r=if g=2 then .ok (aW (aR C.ts q).x_ (aR C.ts q).l_ [] [a,b],s)else cH L C.ts g F (aW (aR C.ts q).x_ (aR C.ts q).l_ [] [a,b]) s)->∀W',Xg (Pg C D A K B W' (q+1))->Q (bR (Q_ (bs m))) W') (t:Xg (r=.ok (a,q))->∀W',Xg (Pg C D A K B W' q)->Q (bR (Q_ ⟨#[]⟩)) W'):W_ prog 278 x o Q:=by have v:=WT (H.at_.Cs.tk q H.at_.lt) g y d h;rw[cH]at i;have i:=i.out;refine Df u H (λf W' j=>p _ f ?_ W' j) λz W' j=>t ?_ W' j;rw[v]at f⊢;split at f;rename_i c;rw[ec c]at i⊢;exact⟨aJ,G_,G_,G_⟩;grind[bA];grind[cU]
def Ih(C:Ctx)(L:Nat->bU aC)(F:Nat)(ac:∀j w,Sem.run prog (callFunc F j) w=.ok (.enter F j) w)(M:ss C F L)(n:Nat)(h2:n≠2)(J:n≠9)(c:cY)(d:∀x,x∈c↔cU x=n)(z:aA c<=100)(w:aN)(p:Nat)(h:uh C w p)(g y:Nat)(s:g<H_ w)(D:g≠C.pb)(S:∀i (P:i<aA c),dR w g i (Q_ (bs c[i]))) (m:bN (L p) (cH L C.ts n (aA C.ts+1))≠.error 0):W_ prog 230 #[aY C.pb,.func (.func F) #[aY C.pb] #[],P_ (some (aL g 0)) (aA c) y] w (CR C w (bN (L p) (cH L C.ts n (aA C.ts+1)))):=by
 have f:∀x∈c,x≠[]:=λx A e=>by rw[d,e]at A;exact J (A.symm.trans aJ)
 have f:∀x∈c,x≠[]:=λx A e=>by rw[d,e]at A;exact J (A.symm.trans aJ)
 have I:=O (λW q (N:Fr C.pb w W) (hq:uh C W q)=>OS C W q c g y (eh s N.size) D z f (λi P=>(iN (N.block g s D)).trans (S i P)) hq);have B:=O M;have b:=O (Pg.new h);have K:=O d;have ⟨r,hr⟩:∃r,r=bN (L p) (cH L C.ts n (aA C.ts+1)):=⟨_,rfl⟩;rw[<-hr]at m⊢;have u:=O hr;have HNE:=O m;clear h M m hr f S d;go_in;go_wp;refine Aa (t:=aR C.ts p) aJ b λw1 b=>?_;go_wp2_with fail;refine vy B HNE b (λl e=>by rw[u,e];rfl) (λl Q H=>?_) λa0 X T2 V Q E b=>?_;.go_wp;exact⟨aJ,Out.err H.1 H.2⟩
 have b:=O (b.add (bO #[Y (aR C.ts p).l_] 179));go_wp2;go_loopg [8,9] (aA C.ts+1) (λk v o wr=>∃q a,Pg C w [Eo (H_ Q) (aR C.ts p).l_] [] [⟨v,[a],W1⟩] wr q/\r=cH L C.ts n k a q);case atStart=>exact⟨X,a0,b,by rw[u,E.out];rfl⟩
 case round=>
  have ⟨q,a,s,hr⟩:=hrel;obtain⟨T3,ad,rfl⟩:=s.form;obtain⟨k,rfl⟩:∃k,gk=k+1:=by exact AO
  have u:=O hr;have b:=O s;clear s hr E;go_wp;refine Ff (I _ q b.fr b.at_) b J K u (λoo ab G T b=>?_) λu T b=>?_;.have ⟨c0,hz⟩:=b.yv;go_wp2;go_region_law (go_simp;refine vy B HNE b.drew G.2.2.1 (λl w5 H=>⟨aJ,Out.err H.1 H.2⟩) λi q5 T5 aa w5 E b=>?_;have ⟨d0,hz5⟩:=b.yv);all_goals
    go_wp2;go_roundg k;case measure=>exact Z
    case rel=>exact⟨q5,_,b.node (.inr (.inr (.inr (.inr (.inr (.inr (.inr (.inr (.inl ⟨aJ,_,_,_,a,i,by rw[G.1];rfl,G.2.1,rfl,rfl⟩))))))))),(G.2.2.2 _ _ E).trans (dy h2)⟩
  go_wp2;go_ret;exact b.one u
def uP(C:Ctx)(L:Nat->bU aC)(F:Nat)(o:∀b w,Sem.run prog (callFunc F b) w=.ok (.enter F b) w)(t:ss C F L)(c:Nat)(d:c≠2)(z:c≠9)(a:cY)(f:∀x,x∈a↔cU x=c)(g:aA a<=100)(w:aN)(p:Nat)(h:uh C w p)(n:Nat)(m:n=aA a)(r:Array Xa)(k:r=(a.map λx=>Value.string (bs x)).toArray) (j:bN (L p) (cH L C.ts c (aA C.ts+1))≠.error 0):W_ prog 230 #[aY C.pb,.func (.func F) #[aY C.pb] #[],P_ (some (aL (H_ w) 0)) n n] (eF w r 9) (CR C w (bN (L p) (cH L C.ts c (aA C.ts+1)))):=by subst m;have s:=h.wj;refine(Ih C L F o t c d z a f g _ p (h.alloc _) (H_ w) (aA a) s_ Z ?_ j).mono λe A ⟨u,d⟩=>⟨((Fr.refl _ _).alloc _).trans u,?_⟩;intro i y;apply aB (aV _ _ aJ _);rw[k];simp[y];cases q:bN (L p) (cH L C.ts c (aA C.ts+1))with|error l=>rw[q]at d;exact d|ok B=>rw[q]at d;have ⟨hp,v,hv,m⟩:=d;exact⟨hp,v,hv,m.grow (λ_ _ _=>aJ) s_ lZ⟩
def Z8(c:Fn)(a b:Array Xa)(w:aN):(Instr.makeFunc c a b).run prog w=.ok (.func c a b) w:=rfl
def AM{Z_:Prop}(Y_:Z_:=by
 clear h hne HL;go_in;go_wp2_with fail;refine Pn HC (λl w1 H=>?_) λT cs w1 H=>?_;.go_wp2_with fail;exact⟨aJ,Out.err H.1 H.2⟩
 go_wp2;go_ret;exact H):Z_:=Y_
def WB(C:Ctx)(L:Nat->bU aC)(HL:ss C 321 L):ss C 312 (λp=>bN (L p) (cH L C.ts 4 (aA C.ts+1))):=by intro w p h hne;have HC:=O (uP C L 321 (λ_ _=>aJ) HL 4 d_ d_ [[42],[47],[37]] Un d_ w p h 3 rfl #[Q_ ⟨#[42]⟩,Q_ ⟨#[47]⟩,Q_ ⟨#[37]⟩] rfl hne);have a:=Z8;show W_ _ _ _ _ (CR C w (bN (L p) (cH L C.ts 4 (aA C.ts+1))));generalize bN (L p) (cH L C.ts 4 (aA C.ts+1))=r at*;exact AM
def Lw(C:Ctx)(L:Nat->bU aC)(HL:ss C 312 L):ss C 299 (λp=>bN (L p) (cH L C.ts 3 (aA C.ts+1))):=by intro w p h hne;have HC:=O (uP C L 312 (λ_ _=>aJ) HL 3 d_ d_ [[43],[45]] Lo d_ w p h 2 rfl #[Q_ ⟨#[43]⟩,Q_ ⟨#[45]⟩] rfl hne);have a:=Z8;show W_ _ _ _ _ (CR C w (bN (L p) (cH L C.ts 3 (aA C.ts+1))));generalize bN (L p) (cH L C.ts 3 (aA C.ts+1))=r at*;exact AM
def Hr(C:Ctx)(L:Nat->bU aC)(HL:ss C 279 L):ss C 231 (λp=>bN (L p) (cH L C.ts 1 (aA C.ts+1))):=by intro w p h hne;have HC:=O (uP C L 279 (λ_ _=>aJ) HL 1 d_ d_ [[38,38]] Kb d_ w p h 1 rfl #[Q_ ⟨#[38,38]⟩] rfl hne);have a:=Z8;show W_ _ _ _ _ (CR C w (bN (L p) (cH L C.ts 1 (aA C.ts+1))));generalize bN (L p) (cH L C.ts 1 (aA C.ts+1))=r at*;exact AM
def Vs(C:Ctx)(L:Nat->bU aC)(HL:ss C 231 L):ss C 177 (λp=>bN (L p) (cH L C.ts 0 (aA C.ts+1))):=by intro w p h hne;have HC:=O (uP C L 231 (λ_ _=>aJ) HL 0 d_ d_ [[124,124]] Uv d_ w p h 1 rfl #[Q_ ⟨#[124,124]⟩] rfl hne);have a:=Z8;show W_ _ _ _ _ (CR C w (bN (L p) (cH L C.ts 0 (aA C.ts+1))));generalize bN (L p) (cH L C.ts 0 (aA C.ts+1))=r at*;exact AM
def RE(C:Ctx)(L:Nat->bU aC)(n:ss C 299 L):ss C 279 (λp=>bN (L p) (cH L C.ts 2 (aA C.ts+1))):=by
 intro w p h c;have g:=O n;have b:=O (Pg.new h);revert c;show (bN _ _:bU aC)≠_->W_ _ _ _ _ (CR C w (bN _ _));generalize m:bN (L p) (cH L C.ts 2 (aA C.ts+1))=r;intro c;have d:=O m.symm;have f:=O c;clear h n c m;go_in;go_wp2_with fail;refine Aa (t:=aR C.ts p) aJ b λA b=>?_;go_wp2_with fail;refine vy g f b (λl e=>by rw[d,e];rfl) (λl o H=>?_) λa q J u o k b=>?_;.go_wp;exact⟨aJ,Out.err H.1 H.2⟩
 have d:Xg (r=cH L C.ts 2 (aA C.ts+1) a q):=by show _=_;rw[d,k.out];rfl
 have b:=O (b.add (bO #[Y (aR C.ts p).l_] 179));go_wp2_with fail;refine Ff (PD C _ q b.at_ [[61,61],[33,61],[60],[60,61]] d_ s_ _ rfl (H_ o+1) s_ 4 rfl #[Q_ ⟨#[61,61]⟩,Q_ ⟨#[33,61]⟩,Q_ ⟨#[60]⟩,Q_ ⟨#[60,61]⟩] rfl) b d_ Nf d (λG y j s b=>?_) λd s b=>?_;.obtain⟨I,E⟩:=b.yv;go_wp2;go_region_law (go_simp;go_at_call 299;refine vy g f b.drew j.2.2.1 (λl z H=>⟨aJ,Out.err H.1 H.2⟩) λi D B x z k b=>?_;obtain⟨F,v⟩:=b.yv);all_goals go_wp2;go_ret;exact b.ret (j.2.2.2 _ _ k) (.inr (.inr (.inr (.inr (.inr (.inr (.inr (.inr (.inl ⟨aJ,_,_,_,a,i,by rw[j.1];rfl,j.2.1,rfl,rfl⟩)))))))))
 go_wp2;go_ret;exact b.one d
def PX(C:Ctx):∀f,ss C 177 (jQ C.ts f)|0=>λ_ _ _ a=>ep rfl a|f+1=>λw p h a=>Vs C (iM (jQ C.ts f) C.ts 4) (Hr C (iM (jQ C.ts f) C.ts 3) (RE C (iM (jQ C.ts f) C.ts 2) (Lw C (iM (jQ C.ts f) C.ts 1) (WB C (iM (jQ C.ts f) C.ts 0) (Tt C (jQ C.ts f) (PX C f) (aA C.ts+1)))))) w p h a
def Ga{c:Type}(a:List bH)(x:bQ)(f:j->c)(r:bU j):aQ a x (bV f r)=bV f (aQ a x r):=by cases r with|error l=>rfl|ok d=>unfold bV aQ;simp;split<;>rfl
def XN(C:Ctx)(E:Nat->bU aC)(k:ss C 177 E):ss C 247 (λp=>aQ C.ts [59] (E p)):=by intro w p h b;have e:=O k;have c:=O (Pg.new h);revert b;show aQ _ _ _≠_->W_ _ _ _ _ (CR C w (aQ _ _ _));generalize j:aQ C.ts [59] (E p)=r;intro b;have g:=O j.symm;have d:=O b;go_in;go_wp2_with fail;refine vy e d c ((by grind[aQ])) (λl m H=>?_) λa q T s m f c=>?_;exact⟨aJ,Out.err H.1 H.2⟩;go_wp2_with fail;refine vI d c [59] ((by grind[dw,EJ])) (λl n H=>?_) λi o c=>?_;exact⟨aJ,Out.err H.1 H.2⟩;go_wp2;go_ret;exact c.one (by rw[g,f.out];exact rJ i)
def Pg.Gb{a d c:aX}(h:Pg C D ((F,bO #[a,d,c] 343)::A) [] B E q):dR E F 0 a/\dR E F 1 d/\dR E F 2 c/\E.frozen? (aL F 0)=WD/\E.frozen? (aL F 1)=WD/\E.frozen? (aL F 2)=WD/\F<H_ E:=have k:=(h.own _ (.head _)).1;(by grind[aB,aF])
def Pg.early{f i h d c a:aX}{l:List aC}(H:Pg C D A [] [] E F)(K:Pg C D ((H_ E,bO #[f,i,h] 343)::A) [] B o q)(m:th (sm (H_ E+1) (H_ o)) o a l):Pg C D ((H_ E,bO #[d,c,a] 343)::A) [] [⟨a,l,WD⟩] (((o.setCell (aL (H_ E) 0) d).setCell (aL (H_ E) 1) c).setCell (aL (H_ E) 2) a) q:=by have g:=H.fr.size;have n:=H.at_.wj;have j:=H.at_.zh;have e:∀k,k≠H_ E->(((o.setCell (aL (H_ E) 0) d).setCell (aL (H_ E) 1) c).setCell (aL (H_ E) 2) a).heap[k]?=o.heap[k]?:=(by grind[ej]);refine⟨(by grind[Fr.setCell,Pg.fr]),(by grind[uh.other,Pg.at_]),λy b=>?_,λy b=>?_,H.pb,s_⟩;rcases ew.1 b with rfl|b;exact⟨aP (aP (aP (K.own _ (.head _)).1)),g⟩;have:=aH (H.own y b).1;grind[Pg.own];grind[vk.ok.list,th.grow,World.setCell]
def H9(C:Ctx)(E:Nat->bU aC)(I:ss C 177 E):ss C 249 (fW E C.ts):=by
 intro w p h u;have s:=O I;have F:=O (XN C E I);have d:=O (Pg.new h);have L:=h.len;have ⟨r,hr⟩:∃r,r=fW E C.ts p:=⟨_,rfl⟩;rw[<-hr]at u⊢;rw[fW]at hr;simp only[Ga]at hr;have f:=O hr;have HNE:=O u;clear h I u hr;go_in;go_wp2_with fail;refine zz (t:=aR C.ts p) HNE aJ d (λi=>by rw[f,i];rfl) (λl A H=>?_) λi J d=>?_;.go_wp2_with fail;exact⟨aJ,Out.err H.1 H.2⟩
 have hr:=f.out;rw[i.out,ec rfl]at hr;have f:=O hr;have d:=O (d.add (bO #[Y (aR C.ts p).l_,Q_ (bs (aR C.ts p).x_)] 181));clear i hr;go_wp21;refine oJ d [40] (λi Q d=>?_) λi Q d=>?_
 .have f:Xg (r=bV (λl=>aW [100,111] (aR C.ts p).l_ (aR C.ts p).x_ [aW [99,97,108,108] (aR C.ts p).l_ (aR C.ts p).x_ l]) (aQ C.ts [59] (aQ C.ts [41] (gL E C.ts (p+1+1) [41])))):=by show _=_;rw[f,i.out];unfold fU;rw[i.out];rfl
  have ⟨c0,c1,hz⟩:=d.Ad;have HC:=O (d.add (bO #[Y 0,Q_ ⟨#[]⟩,bP] 343));go_wp2;go_cut [4] (λv wc=>∃b D l q,v=aY b/\aQ C.ts [41] (gL E C.ts (p+1+1) [41])=.ok (l,q)/\Pg C w [(b,bO #[Y (aR C.ts p).l_,Q_ (bs (aR C.ts p).x_),D] 343),(H_ J,bO #[Y (aR C.ts p).l_,Q_ (bs (aR C.ts p).x_)] 181)] [] [⟨D,l,WD⟩] wc q);case first=>go_region_law (go_simp;go_at_call 283;first|(refine Bl s HNE HC.drew [41] (λl e=>by rw[f,e];rfl) (λl B H=>⟨rfl,Out.err H.1 H.2⟩) λl q z c B n o P=>?_;have ⟨z0,X,W,y0,y1,y2,V⟩:=o.Gb;have M:=aB (i:=0) (o.own _ (.tail _ (.head _))).1 aJ;have K:=aB (i:=1) (o.own _ (.tail _ (.head _))).1 aJ;have N:=aH (o.own _ (.tail _ (.head _))).1)|(refine Bl s HNE d.drew [41] (λl e=>by rw[f,e];rfl) (λl B H=>⟨rfl,Out.err H.1 H.2⟩) λl q z c B n o P=>?_;have ⟨M,K,N⟩:=o.Ad));all_goals go_wp;go_meet;case rel=>first|exact⟨_,_,_,_,aJ,n,o.add _⟩|exact⟨_,_,_,_,aJ,n,d.early o (by simpa using P.out)⟩
  case rest=>
   obtain⟨b,D,l,q,rfl,n,y⟩:=hcut;obtain⟨x,c,rfl⟩:=th.slice (vk.ok.many (y.Ah _ (.head _)));have S:=O n;have d:=O y;clear n y;go_wp;refine vI HNE d [59] (λi=>by rw[f,S,EJ i];rfl) (λl A H=>?_) λi A d=>?_;.go_wp;exact⟨aJ,Out.err H.1 H.2⟩
   obtain⟨z0,X,W,-,-,-,V⟩:=d.Gb;go_wp2;go_ret;exact d.ret (a:=aW [100,111] _ _ [_]) (by rw[f,S,rJ i];rfl) (.inr (.inr (.inr (.inr (.inr (.inr (.inr (.inr (.inr (.inr (.inr (.inr (.inr (.inr (.inr (.inr (.inr ⟨rfl,_,aW [99,97,108,108] (aR C.ts p).l_ (aR C.ts p).x_ l,rfl,rfl,rfl,rfl,rfl,rfl,rfl⟩)))))))))))))))))
 have f:Xg (r=bN (aQ C.ts [61] (fL E C.ts (aA C.ts+1) (p+1) [])) λm q=>bV (λv=>aW [115,101,116] (aR C.ts p).l_ (aR C.ts p).x_ (m++[v])) (aQ C.ts [59] (E q))):=by show _=_;rw[f,i.out];rfl
 have G:=d.Ad.2.2;have d:=O d.open;go_wp2;go_loopg [5] (aA C.ts+1) (λk v wr=>∃q j,Pg C w [(H_ J,bO #[Y (aR C.ts p).l_,Q_ (bs (aR C.ts p).x_)] 181)] [Nl (H_ Q) v j] [] wr q/\aA j+k<=4000/\r=bN (aQ C.ts [61] (fL E C.ts k q j)) λm q=>bV (λv=>aW [115,101,116] (aR C.ts p).l_ (aR C.ts p).x_ (m++[v])) (aQ C.ts [59] (E q)));case atStart=>exact⟨_,_,d,la,f⟩
 case round=>
  have ⟨q,j,y,hal,hr⟩:=hrel;obtain⟨x,c,rfl⟩:=y.sl;obtain⟨k,rfl⟩:∃k,gk=k+1:=by exact AO
  rw[fL]at hr;have d:=O y;have f:=O hr;clear y hr;go_wp;refine oJ d [91] (λi w5 d=>?_) λi w5 d=>?_
  .have hr:=f.out;rw[i.out,ec rfl]at hr;have f:=O hr;clear i hr;go_wp21;refine j9 s HNE d (λl e=>by rw[f,e];rfl) (λl w2 H=>?_) λa q T cs w2 n o=>?_;.go_wp;exact⟨aJ,Out.err H.1 H.2⟩
   go_wp2_with (at_builtin;refine o9 o Z (by simpa using G) _ _ λg aa w3 d=>?_);go_wp;refine vI HNE d [93] (λi=>by rw[f,n.out];simp[EJ i];rfl) (λl A H=>?_) λi A d=>?_;.go_wp;exact⟨aJ,Out.err H.1 H.2⟩
   go_wp2;go_roundg k;case measure=>exact Z
   case rel=>exact⟨_,_,d,la,by rw[f,n.out];simp[rJ i.out]⟩
  have f:Xg (r=bN (aQ C.ts [61] (.ok (j,q))) λm q=>bV (λv=>aW [115,101,116] (aR C.ts p).l_ (aR C.ts p).x_ (m++[v])) (aQ C.ts [59] (E q))):=by show _=_;rw[f,i.out];rfl
  have d:=O d.shut;go_wp21;refine vI HNE d [61] (λi=>by rw[f,EJ i];rfl) (λl A H=>?_) λi A d=>?_;.go_wp;exact⟨aJ,Out.err H.1 H.2⟩
  have f:Xg (r=bV (λv=>aW [115,101,116] (aR C.ts p).l_ (aR C.ts p).x_ (j++[v])) (aQ C.ts [59] (E (q+1)))):=by show _=_;rw[f,rJ i];rfl
  have ⟨m0,m1,hz⟩:=d.Ad;go_wp2;go_region_law (go_simp;go_at_call 247;refine vy F HNE d.drew (λl e=>by rw[f];exact fe _ e) (λl B H=>⟨aJ,Out.err H.1 H.2⟩) λa q T cs B n d=>?_;have ⟨M,K,N⟩:=d.Ad);all_goals go_wp2;go_ret;exact d.ret (by rw[f];exact fe _ n.out) (.inr (.inr (.inr (.inr (.inr (.inr (.inr (.inr (.inr (.inr (.inl ⟨aJ,_,_,j,_,aJ,aJ,aJ,aJ⟩)))))))))))
