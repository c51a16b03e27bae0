import Derived.Test.YthnhjhlinlhflaaGreatDoorP06
set_option linter.all false
set_option maxRecDepth 100000
set_option maxHeartbeats 0
open List renaming length->aA
open Bool renaming false->Wl,true->Wm
open Go renaming Calls->Wn,Value->Wo,World->Wp
open Go.RowKit renaming Hid->Wu
namespace Go.Proofs.YthnhjhlinlhflaaGreatDoor
open Hs _root_.Go.Proofs.Tryz Go.RowKit
variable{C:Ctx}{A:List (Nat × Obj)}{B:List vg}{d:List bE}{F q:Nat}{j:Type}{D E o:aL}{m:bS}
def Out.err{a:aL}{r:bN j}{P:Wp->Wo->j->Prop}(d:r=.error q)(c:Fr C.pb E a):Out C E r P (gE 4 q) a:=by grind[Out]
def Out.ok{b:aL}{r:bN j}{P:Wp->Wo->j->Prop}{a:j}{v:aU}(g:r=.ok (a,q))(e:Fr C.pb E b)(f:ud C b q)(d:P b v a):Out C E r P (bP v) b:=by grind[Out]
def rY{a:j}(h:bX d q m=Wm):aQ d m (.ok (a,q):bN j)=.ok (a,q+1):=by grind[aQ]
theorem ES{a:j}(h:bX d q m=Wl):aQ d m (.ok (a,q):bN j)=.error (aP d q).l_:=by unfold aQ;grind[Hs.bad]
def Kw(w:aL)(v:aU):∀j u,([v]:List Wo)[j]?=some u->(dZ w #[v] 148).cell? ((⟨H_ w,0,none⟩:Addr).add j)=some u:=by exact IF
def Lr(T:TypeId)(b:Array Wo):∀u∈([dA T (.agg b)]:List Wo),u.oneCell'=Wm:=by intro u a;simp at a;subst a;rfl
def Gc(C:Ctx)(w:aL)(r:bN (List aC))(e:Ending)(w':aL):Prop:=Out C w r (λw' v l=>sy (si w.heap.size w'.heap.size) w' v l) e w'
def sy.slice{F:bI}{w:aL}{v:aU}{l:List aC}(h:sy F w v l):∃x c,v=.slice x (aA l) c:=by rcases h with ⟨b,f⟩|⟨g,d,a,e,b,_⟩;grind;grind
structure Pg(C:Ctx)(w:aL)(L:List (Nat × Obj))(K:List (Nat × (Wp->Prop)))(M:List vg)(W:aL)(p:Nat):Prop where
 fr:Fr C.pb w W
 at_:ud C W p
 own:∀x∈L,W.heap[x.1]?=some x.2/\w.heap.size<=x.1
 Af:∀x∈M,x.ok (si w.heap.size W.heap.size) W
 pb:C.pb<w.heap.size
 vw:∀x∈K,x.2 W/\(∀V V',Fr C.pb V V'->x.2 V->x.2 V')/\C.pb<x.1/\C.g<x.1/\w.heap.size<=x.1/\x.1<=W.heap.size
section
variable {C:Ctx} {w W W':aL} {L:List (Nat × Obj)} {K:List (Nat × (Wp->Prop))} {M:List vg} {p q:Nat} {Q:Ending->Wp->Prop} {α:Type} {r:bN α} {x:ByteArray} {t:bE}
def vg.ok.go{x:vg}{F G:bI}(h:x.ok F W)(a:∀b,F b->W'.heap[b]?=W.heap[b]?)(c:∀b,F b->G b):x.ok G W':=(tH.j_ h a).mono (λ_ _ h=>(h.j_ a).mono c) c
theorem vg.ok.uo{F:bI}{v:aU}{a:aC}(h:vg.ok F w ⟨v,[a],Wm⟩):PN F w v a:=by rcases h with ⟨_,b,c,d⟩|⟨c,_⟩;grind;grind
theorem vg.ok.many{F:bI}{w:aL}{v:aU}{l:List aC}(h:vg.ok F w ⟨v,l,Wl⟩):sy F w v l:=by rcases h with ⟨b,_⟩|⟨_,a⟩;cases b;exact a
def Pg.j_(h:Pg C w L K M W p)(i:Fr C.pb W W')(k:ud C W' q):Pg C w L K M W' q:=have j:=h.pb
 ⟨h.fr.trans i,k,λx g=>by obtain⟨m,l⟩:=h.own x g;grind[Fr.block],λx g=>(h.Af x g).go ((by grind[Fr.block,si])) (by grind[Nat.lt_of_lt_of_le,Fr.size,si]),j,λx g=>have ⟨a,b,c,d,e,f⟩:=h.vw x g;⟨b _ _ i a,b,c,d,e,em f i.size⟩⟩
theorem Pg.new(h:ud C w p):Pg C w [] [] [] w p:=⟨Fr.refl _ _,h,s_,s_,h.vz,s_⟩
theorem Pg.rP(h:Pg C w L K M W p)(a:cB W W'):Pg C w L K M W' p:=h.j_ (Fr.below a) (h.at_.below a)
def Pg.drew(h:Pg C w L K M W p):Pg C w L K M W.drew p:=h.rP (dw _ _).drew
def Pg.add(h:Pg C w L K M W p)(o:Obj):Pg C w ((H_ W,o)::L) K M (W.alloc o) p:=have k:=h.rP ((dw _ _).alloc kB o)
 {k with own:=λx a=>(fe.1 a).elim (λe=>e▸⟨aS _ _ rfl _,h.fr.size⟩) (k.own x)}
def Pg.DH(h:Pg C w L K M W p)(o u:Obj):Pg C w ((H_ W+1,u)::(H_ W,o)::L) K M ((W.alloc o).alloc u) p:=by simpa using (h.add o).add u
def Pg.inc(h:Pg C w L K M W p)(a:p+1<aA C.ts):Pg C w L K M (W.setCell (aJ C.pb 1) (Y (p+1:Nat))) (p+1):=have k:=h.at_.move (dw _ _) (p+1) a;h.j_ k.2 k.1
def Pg.tok{a b:Nat}{c d f e y:aU}(h:Pg C w ((b,bM #[y] 178)::(a,bM #[c,d,f,e] 175)::L) K M W p):eJ W b 0 y/\b<H_ W/\eJ W a 0 c/\eJ W a 1 d/\eJ W a 2 f/\eJ W a 3 e/\a<H_ W:=have k:=(h.own _ (.head _)).1;have l:=(h.own _ (.tail _ (.head _))).1;(by grind[aB])
def Pg.yr{b:Nat}{y:aU}(h:Pg C w ((b,bM #[y] 178)::L) K M W p):eJ W b 0 y/\b<H_ W:=have k:=(h.own _ (.head _)).1;(by grind[aB])
def Pg.z_{a:Nat}{b c:aU}(h:Pg C w ((a,bM #[b,c] 180)::L) K M W p):eJ W a 0 b/\eJ W a 1 c/\a<H_ W:=have l:=(h.own _ (.head _)).1;(by grind[aB])
def Pg.put{x:vg}(h:Pg C w L K M W p)(a:x.ok (si (H_ w) (H_ W)) W):Pg C w L K (x::M) W p:={h with Af:=(by grind[Pg.Af])}
def Pg.ret{T:TypeId}{c:Array Wo}{a:aC}{b:List vg}{r:bN aC}(H:Pg C w L K M W q)(e:r=.ok (a,q))(f:Shape T c a b)(d:∀x∈b,x∈M:=by simp[aV]):DF C w r (bP (dA T (.agg c))) W:=Out.ok e H.fr H.at_ (PN.mk f λx g=>H.Af x (d x g))
def Pg.node{T:TypeId}{d:Array Wo}{a:aC}{c:List vg}(H:Pg C w L K M W q)(f:Shape T d a c)(e:∀x∈c,x∈M:=by simp[aV]):Pg C w L K [⟨dA T (.agg d),[a],Wm⟩] W q:={H with Af:=λx b=>by obtain rfl:=hH.1 b;exact .node (PN.mk f λx b=>H.Af x (e x b))}
def Pg.one{v:aU}{a:aC}{r:bN aC}(H:Pg C w L K (⟨v,[a],Wm⟩::M) W q)(b:r=.ok (a,q)):DF C w r (bP v) W:=Out.ok b H.fr H.at_ (H.Af _ (.head _)).uo
def Pg.form{v:aU}{a:aC}(H:Pg C w L K (⟨v,[a],Wm⟩::M) W q):∃T cs,v=.iface T (.agg cs):=(H.Af _ (.head _)).uo.form
def Eu(a:Wu (aP C.ts p=t))(H:Wu (Pg C w L K M W p))(k:∀W',Wu (Pg C w L K M W' p)->Q (bP (.agg #[Y (tf t.c_),Q_ (bs t.x_),Y (vk t),Y t.l_])) W'):Wn prog 85 #[aW C.pb] W Q:=(pY C W p H.at_).mono (by grind[sZ,dz,Pg.rP])
def Aa(a:Wu (aP C.ts p=t))(H:Wu (Pg C w L K M W p))(k:∀W',Wu (Pg C w L K M W' p)->Q (bP (.agg #[Y t.l_])) W'):Wn prog 245 #[aW C.pb] W Q:=(Ly C W p H.at_).mono (by grind[dz,Pg.rP])
def oW(H:Wu (Pg C w L K M W p))(y:bS)(c:Wu (bX C.ts p y=Wm)->∀W',Wu (Pg C w L K M W' (p+1))->Q (bP (.bool Wm)) W')(f:Wu (bX C.ts p y=Wl)->∀W',Wu (Pg C w L K M W' p)->Q (bP (.bool Wl)) W')(d:dL x=y:=by rfl):Wn prog 198 #[aW C.pb,Q_ x] W Q:=(AW C W p x H.at_).mono λe W' h=>by subst d;obtain⟨rfl,a,b⟩:=h;cases i:bX C.ts p (dL x)<;>rw[i]at a;exact f i W' (H.j_ b a);exact c i W' (H.j_ b a)
def vS(_HNE:Wu (r≠.error 0))(H:Wu (Pg C w L K M W p))(y:bS)(a:bX C.ts p y=Wl->r=.error (aP C.ts p).l_)(c:∀l W',Wu (r=.error l/\Fr C.pb w W')->Q (gE 4 l) W')(d:Wu (bX C.ts p y=Wm)->∀W',Wu (Pg C w L K M W' (p+1))->Q (eV) W')(b:dL x=y:=by rfl):Wn prog 141 #[aW C.pb,Q_ x] W Q:=(S9 C W p x H.at_).mono λe W' h=>by subst b;have ⟨h1,h2⟩:=h;cases i:bX C.ts p (dL x)<;>rw[i]at h2;obtain rfl:e=_:=h2;exact c _ W' ⟨a i,H.fr.trans h1⟩;obtain⟨rfl,f⟩:=h2;exact d i W' (H.j_ h1 f)
def Ab(_HNE:Wu (r≠.error 0))(g:Wu (aP C.ts p=t))(H:Wu (Pg C w L K M W p))(c:(t.c_==110)=Wl->r=.error t.l_)(d:∀l W',Wu (r=.error l/\Fr C.pb w W')->Q (gE 4 l) W')(f:Wu ((t.c_==110)=Wm)->∀W',Wu (Pg C w L K M W' (p+1))->Q (bP (.agg #[Y t.l_,Q_ (bs t.x_)])) W'):Wn prog 142 #[aW C.pb] W Q:=(Np C W p H.at_).mono λe W' h=>by rw[g.out]at h;obtain⟨b,a⟩:=h;cases i:(t.c_==110)<;>rw[i]at a;obtain rfl:e=_:=a;exact d _ W' ⟨c i,H.fr.trans b⟩;obtain⟨rfl,j⟩:=a;exact f i W' (H.j_ b j)
def vp{f:Nat}{X:Nat->bN aC}(t:Wu (sm C f X))(d:Wu (r≠.error 0))(H:Wu (Pg C w L K M W p))(m:∀l,X p=.error l->r=.error l)(n:∀l W',Wu (r=.error l/\Fr C.pb w W')->Q (gE 4 l) W') (o:∀a q T cs W',Wu (X p=.ok (a,q))->Wu (Pg C w L K (⟨dA T (.agg cs),[a],Wm⟩::M) W' q)->Q (bP (dA T (.agg cs))) W'):Wn prog f #[aW C.pb] W Q:=(t W p H.at_ λe=>d (m 0 e)).mono λe W' h=>by obtain⟨k,c⟩:=h;cases i:X p<;>rw[i]at c;obtain rfl:e=_:=c;exact n _ W' ⟨m _ i,H.fr.trans k⟩;obtain⟨s,v,rfl,j⟩:=c;obtain⟨T,cs,rfl⟩:=j.form;exact o _ _ _ _ W' i ((H.j_ k s).put (.node (j.mono λb g=>⟨em H.fr.size g.1,g.2⟩)))
def Pb{f:Nat}{a:Array Wo}{r:bN aC}(j:Wn prog f a W (DF C w r))(g:∀l W',Wu (r=.error l/\Fr C.pb w W')->Q (gE 4 l) W')(i:∀T cs W',Wu (DF C w r (bP (dA T (.agg cs))) W')->Q (bP (dA T (.agg cs))) W'):Wn prog f a W Q:=j.mono λe W' h=>by cases r with|error l=>obtain⟨b,rfl⟩:=h;exact g l W' ⟨i_,b⟩|ok k=>obtain⟨b,d,v,rfl,c⟩:=h;obtain⟨T,cs,rfl⟩:=c.form;exact i T cs W' ⟨b,d,_,i_,c⟩
theorem Pg.begin{F:lF}(h:Pg C w L [] M W p)(b:F W)(h2:∀V a,Fr C.pb V a->F V->F a):Pg C w L [(H_ W,F)] M W p:={h with vw:=λx c=>by obtain rfl:=hH.1 c;exact⟨b,h2,h.at_.vz,h.at_.zo,h.fr.size,Z⟩}
variable {b_:Nat} {v:aU} {acc:List aC} {T:TypeId} {cs:Array Wo} {a:aC}
def Pg.grow{F G:lF}{o:Obj}{a:Option Nat}(H:Pg C w L [(b_,F)] [] W p)(b:(W.alloc o).grownBy W' a)(j:∀k,a=some k->b_<=k)(m:∀y∈L,y.1<b_)(h:G W')(g:∀V e,Fr C.pb V e->G V->G e):Pg C w L [(b_,G)] [] W' p:=by obtain⟨-,-,d,f,i,l⟩:=H.vw _ (.head _);refine⟨(H.fr.alloc _).grown b G_,(H.at_.alloc _).grown b j d f,λy c=>?_,s_,H.pb,λy c=>?_⟩;have ⟨k1,k2⟩:=H.own y c;have:=aH k1;exact⟨(b.block _ ku G_).trans (qw),k2⟩;obtain rfl:=hH.1 c;exact⟨h,g,d,f,i,by have:=b.size;simp at this;exact Z⟩
abbrev Nl(b_:Nat)(v:aU)(acc:List aC):Nat×(Wp->Prop):=(b_,λW=>vr b_ W v acc)
def Pg.open(h:Pg C w L [] M W p):Pg C w L [Nl (H_ W) (bR) []] M W p:=(by grind[Pg.begin,vr.nil])
def Pg.lk(h:Pg C w L [Nl b_ v acc] M W p):sy (si b_ (H_ W)) W v acc:=vr.uu (h.vw _ (.head _)).1
def Pg.shut(h:Pg C w L [Nl b_ v acc] M W p):Pg C w L [] (⟨v,acc,Wl⟩::M) W p:=Pg.put {h with vw:=by simp} (.list (h.lk.grow (s_) (h.vw _ (.head _)).2.2.2.2.1 (Z)))
def Pg.list{r:bN (List aC)}(h:Pg C w L [Nl (H_ w) v acc] M W p)(a:r=.ok (acc,p)):Gc C w r (bP v) W:=Out.ok a h.fr h.at_ h.lk
def Pg.sl(h:Pg C w L [Nl b_ v acc] M W p):∃x c,v=P_ x (aA acc) c:=vr.slice (h.vw _ (.head _)).1
structure Fg(C:Ctx)(w:aL)(L:List (Nat × Obj))(b_:Nat)(v:aU)(acc:List aC)(T:TypeId)(cs:Array Wo)(a:aC)(W:aL)(p:Nat):Prop where
 g:Pg C w L [Nl b_ v acc] [] W p
 n:∃lo,PN (si lo W.heap.size) W (.iface T (.agg cs)) a/\b_<=lo/\∀k,v.ownBlock=some k->k<lo
def l7{f:Nat}{X:Nat->bN aC}(s:Wu (sm C f X))(c:Wu (r≠.error 0))(H:Wu (Pg C w L [Nl b_ v acc] [] W p))(j:∀l,X p=.error l->r=.error l)(m:∀l W',Wu (r=.error l/\Fr C.pb w W')->Q (gE 4 l) W') (n:∀a q T cs W',Wu (X p=.ok (a,q))->Wu (Fg C w L b_ v acc T cs a W' q)->Q (bP (dA T (.agg cs))) W'):Wn prog f #[aW C.pb] W Q:=(s W p H.at_ λe=>c (j 0 e)).mono λe W' h=>by obtain⟨g,b⟩:=h;cases i:X p<;>rw[i]at b;obtain rfl:e=_:=b;exact m _ W' ⟨j _ i,H.fr.trans g⟩;obtain⟨o,v,rfl,d⟩:=b;obtain⟨T,cs,rfl⟩:=d.form;obtain⟨⟨t,F,k,-⟩,-,-,-,-,l⟩:=H.vw _ (.head _);exact n _ _ _ _ W' i ⟨H.j_ g o,_,d,l,dT k⟩
def p7{i:Array Oper}{h:List Oper}{o:Oper}{e:Act}{Q:Exit->Act->Wp->Prop}{z:Option Addr}{c:Nat}(H:Wu (Fg C w L b_ (P_ z (aA acc) c) acc T cs a W p))(E:aA acc<=4000)(t:∀y∈L,y.1<b_)(s x:Operand) (k:∀g d W',Wu (Pg C w L [Nl b_ (P_ (some (aJ g 0)) (aA acc+1) d) (acc++[a])] [] W' p)->wpList prog i Q h (e.put o.dst (P_ (some (aJ g 0)) (aA acc+1) d)) W') (j:o.guard=none:=by rfl) (u:o.op=.call {callee:=.builtin .append,args:=#[s,x],argTypes:=#[182,182]}:=by rfl) (v:e.eval s=P_ z (aA acc) c:=by rfl) (A:e.eval x=P_ (some (aJ (H_ W) 0)) 1 1:=by rfl):wpList prog i Q (o::h) e (dZ W #[dA T (.agg cs)] 148):=by have ⟨i0,hi,hz0,hz1,hz2⟩:=info_parts Lk;obtain⟨⟨q,F,b,f,m⟩,-,B,-,-,n⟩:=H.g.vw _ (.head _);simp at b f m n;have ⟨lo,hN,hlo,hrow⟩:=H.n;refine wpList_append_lies _ j s x 182 u b_ 148 i0 _ 1 16 underlying182 hi hz0 hz1 hz2 i_ d_ _ (aA acc) q v (b.alloc _) (aJ (H_ W) 0) 1 1 [dA T (.agg cs)] A rfl (Kw _ _) (Lr _ _) d_ ky Z ku (H_ W+1) s_ ?_;exact λg d W' r l D _=>k g d W' (H.g.grow l (cA b) t (vr.snoc f m hN hlo hrow (qw) s_ r l (G_)) (by grind[vr.j_]))
end
def E3(C:Ctx)(E:Nat->bN aC)(z:sm C 176 E)(w:aL)(p:Nat)(y:ByteArray)(h:ud C w p)(j:aQ C.ts (dL y) (gL E C.ts p (dL y))≠.error 0):Wn prog 282 #[aW C.pb,Q_ y] w (Gc C w (aQ C.ts (dL y) (gL E C.ts p (dL y)))):=by
 have ⟨r,hr⟩:∃r,r=aQ C.ts (dL y) (gL E C.ts p (dL y)):=⟨_,rfl⟩;rw[<-hr]at j⊢;unfold gL at hr;have d:=O hr;have f:=O j;have m:=O z;have b:=O (Pg.new h).open;have u:=h.len;clear h z j hr;go_in;go_wp;refine oW b (dL y) (λi A b=>?_) λi A b=>?_;.go_wp2;go_ret;exact b.list (by rw[d,i.out];exact rY i)
 have d:Wu (r=aQ C.ts (dL y) (fG E C.ts (aA C.ts+1) p [])):=by show _=_;rw[d,i.out];rfl
 go_wp21;refine l7 m f b (λl e=>by rw[d,fG,e];rfl) (λl t H=>?_) λa q T F t n s=>?_;.go_wp;exact⟨i_,Out.err H.1 H.2⟩
 go_wp2_with (at_builtin;refine p7 (acc:=[]) s s_ s_ _ _ λg o B b=>?_);go_wp2;go_loopg [5] (aA C.ts) (λk v wr=>∃q acc,Pg C w [] [Nl (H_ w) v acc] [] wr q/\aA acc+k<=4000/\r=aQ C.ts (dL y) (if bX C.ts q [44]then fG E C.ts k (q+1) acc else .ok (acc,q)));case atStart=>exact⟨q,_,b,ku,by rw[d,fG,n.out]⟩
 case round=>
  have ⟨q,acc,hg,hal,hr⟩:=hrel;obtain⟨x,c,rfl⟩:=hg.sl;have b:=O hg;have d:=O hr;clear hg hr n;go_wp;refine oW b [44] (λi G b=>?_) λi G b=>?_
  .have d:Wu (r=aQ C.ts (dL y) (fG E C.ts gk (q+1) acc)):=by show _=_;rw[d,i.out];rfl
   obtain⟨k,rfl⟩:∃k,gk=k+1:=by cases gk with|zero=>exact ep d f|succ k=>exact⟨k,i_⟩
   go_wp21;refine l7 m f b (λl e=>by rw[d,fG,e];rfl) (λl t H=>?_) λa q T F t n s=>?_;.go_wp;exact⟨i_,Out.err H.1 H.2⟩
   go_wp2_with (at_builtin;refine p7 s Z s_ _ _ λg o B b=>?_);go_wp2;go_roundg k;case measure=>exact Z
   case rel=>exact⟨q,_,b,ku,by rw[d,fG,n.out]⟩
  have d:Wu (r=aQ C.ts (dL y) (.ok (acc,q))):=by show _=_;rw[d,i.out];rfl
  go_wp21;refine vS f b (dL y) (λi=>by rw[d];exact ES i) (λl D H=>?_) λi D b=>?_;.go_wp;exact⟨i_,Out.err H.1 H.2⟩
  go_wp2;go_ret;exact b.list (by rw[d];exact rY i)
section
variable {C:Ctx} {w W:aL} {L:List (Nat × Obj)} {K:List (Nat × (Wp->Prop))} {M:List vg} {p:Nat} {Q:Ending->Wp->Prop} {α:Type} {r:bN α} {x:ByteArray}
def Bi{E:Nat->bN aC}(o:Wu (sm C 176 E))(d:Wu (r≠.error 0))(H:Wu (Pg C w L K M W p))(y:bS)(j:∀l,aQ C.ts y (gL E C.ts p y)=.error l->r=.error l)(k:∀l W',Wu (r=.error l/\Fr C.pb w W')->Q (gE 4 l) W') (m:∀l q z c W',Wu (aQ C.ts y (gL E C.ts p y)=.ok (l,q))->Wu (Pg C w L K (⟨P_ z (aA l) c,l,Wl⟩::M) W' q)->Wu (sy (si (H_ W) (H_ W')) W' (P_ z (aA l) c) l)->Q (bP (P_ z (aA l) c)) W') (g:dL x=y:=by rfl):Wn prog 282 #[aW C.pb,Q_ x] W Q:=(E3 C E o W p x H.at_ λe=>d (j 0 (g▸e))).mono λe W' h=>by subst g;have ⟨h1,h2⟩:=h;cases i:aQ C.ts (dL x) (gL E C.ts p (dL x))<;>rw[i]at h2;obtain rfl:e=_:=h2;exact k _ W' ⟨j _ i,H.fr.trans h1⟩;obtain⟨n,v,rfl,a⟩:=h2;obtain⟨z,c,rfl⟩:=sy.slice a;exact m _ _ _ _ W' i ((H.j_ h1 n).put (.list (a.j_ (λ_ _=>i_) λb f=>⟨em H.fr.size f.1,f.2⟩))) a
end
def Fr.Df{o:Obj}(d:Fr q E D)(h:E.heap[F]?=some o)(e:F≠q):D.heap[F]?=some o:=(d.block F (aH h) e).trans h
def WU(C:Ctx)(E:Nat->bN aC)(HE:sm C 176 E):sm C 323 (eL E C.ts):=by
 intro w p h k;have u:=O HE;have y:=h.Ce.tk p h.lt;have S:Wu ((aP C.ts p).c_≠101->p+1<aA C.ts):=λe=>h.all.ok.next p h.lt e;have ab:p<=3000:=by have:=h.lt;have:=h.len;exact Z
 have b:=O (Pg.new h);have ⟨r,j⟩:∃r,r=eL E C.ts p:=⟨_,rfl⟩;rw[<-j]at k⊢;rw[eL]at j;have ⟨t,ht⟩:∃t,aP C.ts p=t:=⟨_,rfl⟩;rw[ht]at j S y;have v:Wu (∀x,bX C.ts p x=Wm->t.x_=x):=λx hx=>by unfold bX at hx;grind
 have o:=O ht;have d:=O j;have f:=O k;have m:Wu ((tf t.c_=2->t.c_=48/\∃P,dQ 0 t.x_=some P)/\(tf t.c_=3->t.c_=115)/\(¬tf t.c_=2->¬tf t.c_=3->(t.c_==48||t.c_==115)=Wl)):=by clear j d f k;show _/\_;rcases y with h|⟨h,_⟩|h|⟨h,h2⟩|h|h<;>simp[tf,h];exact Option.isSome_iff_exists.1 h2
 clear h HE k j ht y;go_in;go_wp;refine Eu o b λw1 b=>?_;go_wp2_with fail;refine Aa o b λw2 b=>?_;have b:=O (b.DH (bM #[Y (tf t.c_),Q_ (bs t.x_),Y (vk t),Y t.l_] 175) (bM #[Y t.l_] 178));have ⟨Q,N,k2,k3,k4,k5,k6⟩:=b.tok;go_upto_region 2 with fail;generalize (w2.alloc (bM #[Y (tf t.c_),Q_ (bs t.x_),Y (vk t),Y t.l_] 175)).alloc (bM #[Y t.l_] 178)=W at*;have ⟨k7,k8,k9⟩:=b.at_.cells (dw _ _);have aa:C.pb<w2.heap.size:=by have:=(b.own _ (.tail _ (.head _))).2;have:=b.pb;exact Z
 generalize U:tf t.c_=L at*;by_cases n:L=2;.subst n;have ⟨s,P,hkk⟩:=m.1 rfl;have I:Wu (r=.ok (aV [UInt8.ofNat t.c_] t.l_ t.x_ [],p+1)/\Shape 366 #[Y t.l_,Y (vk t)] (aV [UInt8.ofNat t.c_] t.l_ t.x_ []) []):=⟨by rw[d,s];rfl,ea ⟨rfl,P,by unfold vk;rw[ec s,hkk];rfl,by rw[s];rfl,hkk,rfl,rfl⟩⟩;have b:=O (b.inc (S Z));clear s hkk;go_wp2;go_ret;exact b.ret I.1 I.2
 by_cases g:L=3;.subst g;have s:=m.2.1 i_;have I:Wu (r=.ok (aV [UInt8.ofNat t.c_] t.l_ t.x_ [],p+1)/\Shape 395 #[Y t.l_,Q_ (bs t.x_)] (aV [UInt8.ofNat t.c_] t.l_ t.x_ []) []):=⟨by rw[d,s];rfl,dv (ea ⟨rfl,rfl,by rw[s];rfl,rfl,rfl⟩)⟩;have b:=O (b.inc (S Z));clear s n;go_wp2;go_ret;exact b.ret I.1 I.2
 have ac:((L:Int)==2)=Wl:=by simp;exact Z
 have V:((L:Int)==3)=Wl:=by simp;exact Z
 have M:=O (m.2.2 n g);clear n g m;go_wp;refine oW b [116,114,117,101] (λF w3 b=>?_) λF w3 b=>?_;.obtain⟨Q,N,-⟩:=b.tok;go_wp2;go_ret;exact b.ret (by rw[d,M,F.out];rfl) (dv (dv (ea ⟨rfl,by show _=#[_,Value.bool (t.x_==_)];rw[v _ F];rfl,rfl,rfl,rfl⟩)))
 go_wp21;refine oW b [102,97,108,115,101] (λG w4 b=>?_) λG w4 b=>?_;.obtain⟨Q,N,-⟩:=b.tok;go_wp2;go_ret;exact b.ret (by rw[d,M,F.out,G.out];rfl) (dv (dv (ea ⟨rfl,by show _=#[_,Value.bool (t.x_==_)];rw[v _ G];rfl,rfl,rfl,rfl⟩)))
 have j:=d.out;rw[M,F.out,G.out]at j;have d:=O j;clear v M F G j;go_wp21;refine oW b [40] (λB w5 b=>?_) λB w5 b=>?_
 .have d:Wu (r=aQ C.ts [41] (E (p+1))):=by show _=_;rw[d,B.out];rfl
  go_wp21;refine vp u f b (λl e=>by rw[d,e];rfl) (λl J H=>?_) λa q T cs J A b=>?_;.go_wp;exact⟨i_,Out.err H.1 H.2⟩
  go_wp21;refine vS f b [41] (λi=>by rw[d,A.out];exact ES i) (λl J H=>?_) λi K b=>?_;.go_wp;exact⟨i_,Out.err H.1 H.2⟩
  go_wp2;go_ret;exact b.one (by rw[d,A.out];exact rY i)
 go_wp21;refine oW b [91] (λD J b=>?_) λD J b=>?_
 .have d:Wu (r=bQ (aV [108,105,115,116] t.l_ t.x_) (aQ C.ts [93] (gL E C.ts (p+1) [93]))):=by show _=_;rw[d,B.out,D.out];unfold fU;rw[D.out];rfl
  obtain⟨Q,N,-⟩:=b.tok;go_wp2;go_region_law (go_simp;go_at_call 282;refine Bi u f b.drew [93] (λl e=>by rw[d,e];rfl) (λl K H=>⟨rfl,Out.err H.1 H.2⟩) λl q z c K A b _=>?_;obtain⟨c0,c1,-⟩:=b.tok);all_goals go_wp2;go_ret;exact b.ret (by rw[d,A.out];rfl) (dv (dv (dv (ea ⟨rfl,_,rfl,rfl,rfl⟩))))
 go_wp21;refine Ab f o b (λi=>by rw[d,B.out,D.out,i];show Hs.bad _ _=_;unfold Hs.bad;rw[o]) (λl K H=>?_) λX K b=>?_;.go_wp;exact⟨i_,Out.err H.1 H.2⟩
 have d:Wu (r=if bX C.ts (p+1) [40]then bQ (aV [99,97,108,108] t.l_ t.x_) (fU E C.ts (p+1) [40] [41])else .ok (aV [110,97,109,101] t.l_ t.x_ [],p+1)):=by show _=_;rw[d,B.out,D.out,X.out];rfl
 have b:=O (b.add (bM #[Y t.l_,Q_ (bs t.x_)] 180));clear B D X;go_wp21;refine oW b [40] (λi w8 b=>?_) λi w8 b=>?_
 .have d:Wu (r=bQ (aV [99,97,108,108] t.l_ t.x_) (aQ C.ts [41] (gL E C.ts (p+1+1) [41]))):=by show _=_;rw[d,i.out];unfold fU;rw[i.out];rfl
  have ⟨c0,c1,hz⟩:=b.z_;go_wp2;go_region_law (go_simp;go_at_call 282;refine Bi u f b.drew [41] (λl e=>by rw[d,e];rfl) (λl w9 H=>⟨rfl,Out.err H.1 H.2⟩) λl q z c w9 A b _=>?_;have ⟨d0,d1,hy⟩:=b.z_);all_goals go_wp2;go_ret;exact b.ret (by rw[d,A.out];rfl) (dv (dv (dv (dv (ea ⟨rfl,_,rfl,rfl,rfl⟩)))))
 have ⟨c0,c1,hz⟩:=b.z_;go_wp2;go_ret;exact b.ret (by rw[d,i.out];rfl) (dv (dv (dv (dv (dv (ea ⟨rfl,rfl,rfl,rfl,rfl⟩))))))
abbrev DQ(b l:Nat):Nat×Obj:=(b,.cells #[Y l] 178)
def BB{Z_:Prop}(Y_:Z_:=by cases gk with|zero=>exact ep hr HNE|succ k=>exact⟨k,i_⟩):Z_:=Y_
def Vy(C:Ctx)(E:Nat->bN aC)(n:sm C 176 E):sm C 322 (λp=>bK (eL E C.ts p) (eR E C.ts (aA C.ts+1))):=by
 intro w p h c;have G:=O (WU C E n);have m:=O n;have b:=O (Pg.new h);revert c;show (bK _ _:bN aC)≠_->Wn _ _ _ _ (DF C w (bK _ _));generalize hr:bK (eL E C.ts p) (eR E C.ts (aA C.ts+1))=r;intro c;have d:=O hr.symm;have HNE:=O c;clear h n c hr;go_in;go_wp2_with fail;refine Aa (t:=aP C.ts p) i_ b λI b=>?_;go_wp2_with fail;refine vp G HNE b (λl e=>by rw[d,e];rfl) (λl o H=>?_) λB y Q x o f b=>?_;.go_wp2_with fail;exact⟨i_,Out.err H.1 H.2⟩
 have b:=O (b.add (bM #[Y (aP C.ts p).l_] 178));go_wp2;go_loopg [4] (aA C.ts+1) (λk v wr=>∃q a,Pg C w [DQ (H_ o) (aP C.ts p).l_] [] [⟨v,[a],Wm⟩] wr q/\r=eR E C.ts k a q);case atStart=>exact⟨y,B,b,by rw[d,f.out];rfl⟩
 case round=>
  obtain⟨q,a,g,hr⟩:=hrel;obtain⟨M,F,rfl⟩:=g.form;obtain⟨k,rfl⟩:∃k,gk=k+1:=by exact BB
  rw[eR]at hr;have d:=O hr;have b:=O g;clear g hr f;go_wp2_with fail;refine oW b [91] (λi u b=>?_) λi u b=>?_;rotate_left;.go_wp2;go_ret;exact b.one (by rw[d,i.out];rfl)
  have hr:=d.out;rw[i.out]at hr;have d:=O hr;obtain⟨T,P⟩:=b.yr;clear i hr;go_wp2;go_cut [4] (λv wc=>∃i j,E (q+1)=.ok (i,j)/\Pg C w [DQ (H_ o) (aP C.ts p).l_] [] [⟨v,[aV [105,110,100,101,120] (aP C.ts q).l_ [] [a,i]],Wm⟩] wc j);case first=>go_region_law (go_simp;go_at_call 176;refine vp m HNE b.drew (λl e=>by rw[d,e];rfl) (λl A H=>⟨rfl,Out.err H.1 H.2⟩) λN j L D A f b=>?_;have ⟨d0,hz5⟩:=b.yr);all_goals go_wp;go_meet;case rel=>exact⟨_,_,f,b.node (.inr (.inr (.inr (.inr (.inr (.inr (.inl ⟨i_,_,_,_,_,_,i_,i_,i_,i_⟩)))))))⟩
  case rest=>
   obtain⟨i,j,f,g⟩:=hcut;obtain⟨S,z,rfl⟩:=g.form;have s:=O f;have b:=O g;clear f g;go_wp2_with fail;refine vS HNE b [93] (λi=>by rw[d,s];simp only[ES i];rfl) (λl J H=>?_) λi K b=>?_;.go_wp;exact⟨i_,Out.err H.1 H.2⟩
   go_wp2;go_roundg k;case measure=>exact Z
   case rel=>exact⟨_,_,b,by rw[d,s];simp only[rY i.out];rfl⟩
theorem l6(t:bS):∀l:cU,l.find? (λx=>t==x)=if t∈l then some t else none|[]=>by simp|y::l=>by rw[List.find?_cons];by_cases h:t=y;grind;rw[show (t==y)=Wl by grind];simp [l6 t l,h]
theorem Ns(t:bS)(h:fK.contains t=Wm):cR t=9:=by unfold fK at h;simp [List.contains_eq_mem,fe,jo,or_false,decide_eq_true_eq]at h;rcases h with rfl|rfl|rfl|rfl|rfl|rfl|rfl|rfl|rfl<;>decide
def XJ(h:pD (aP d q))(k:Nat)(b:k≠9)(l:cU)(c:∀x,x∈l↔cR x=k):tU d q l=if (aP d q).c_==112&&cR (aP d q).x_==k then (aP d q).x_ else []:=by unfold tU;grind[bX,l6,List.find?_eq_none,Ns,pD]
def Va(x:bS):x∈([[124,124]]:cU)↔cR x=0:=by grind[cR]
def Lg(x:bS):x∈([[38,38]]:cU)↔cR x=1:=by grind[cR]
def Ud(x:bS):x∈([[61,61],[33,61],[60],[60,61]]:cU)↔cR x=2:=by grind[cR]
def Uv(x:bS):x∈([[43],[45]]:cU)↔cR x=3:=by grind[cR]
def L_(x:bS):x∈([[42],[47],[37]]:cU)↔cR x=4:=by grind[cR]
def PZ(C:Ctx)(w:aL)(p:Nat)(h:ud C w p)(l:cU)(o:aA l<=100)(a:∀x∈l,x≠[])(c:bS)(f:tU C.ts p l=c)(g:Nat)(d:g=H_ w)(n:Nat)(s:n=aA l)(i:Array Wo)(r:i=(l.map λx=>Value.string (bs x)).toArray):Wn prog 277 #[aW C.pb,P_ (some (aJ g 0)) n n] (dZ w i 9) λe b=>e=bP (Q_ (bs c))/\ud C b (if c=[]then p else p+1)/\Fr C.pb w b:=by subst f d s;have j:=h.vz;refine(PR C _ p l (H_ w) (aA l) s_ Z o a ?_ (h.alloc _)).mono λe b ⟨m,k,q⟩=>⟨m,k,((Fr.refl _ _).alloc _).trans q⟩;grind[aB,aS]
def Db{K:List (Nat×(Wp->Prop))}{Q:Ending->Wp->Prop}{a:Array Wo}(k:Wn prog 277 a o λe c=>e=bP (Q_ (bs m))/\ud C c (if m=[]then q else q+1)/\Fr C.pb D c)(H:Wu (Pg C E A K B D q)) (i:(bs m).toList.isEmpty=Wl->∀W',Wu (Pg C E A K B W' (q+1))->Q (bP (Q_ (bs m))) W') (j:m=[]->∀W',Wu (Pg C E A K B W' q)->Q (bP (Q_ ⟨#[]⟩)) W'):Wn prog 277 a o Q:=k.mono λe W' h=>by obtain⟨rfl,f,d⟩:=h;cases m with|nil=>exact j i_ W' (H.j_ d f)|cons x l=>exact i (by rw[bA];rfl) W' (H.j_ d f)
theorem E7(C:Ctx)(E:Nat->bN aC)(y:sm C 176 E)(g:Nat)(i:sm C 320 (iE E C.ts g)):sm C 320 (iE E C.ts (g+1)):=by
 intro w p h c;have G:=O i;have b:=O (Pg.new h);have s:=O (Vy C E y);have ⟨r,k⟩:∃r,r=iE E C.ts (g+1) p:=(by simp);rw[<-k]at c⊢;have ⟨f,hoo⟩:∃f,tU C.ts p [[45],[33]]=f:=(by simp);have d:Wu ((f≠[]->∃o,f=[o]/\(o=45\/o=33)/\r=bQ (λx=>aV [o,120] (aP C.ts p).l_ [] [x]) (iE E C.ts g (p+1)))/\(f=[]->r=bK (eL E C.ts p) (eR E C.ts (aA C.ts+1)))):=by rw[iE]at k;show _/\_;grind[tU]
 have j:=O c;have n:=O hoo;clear h y c k i hoo;go_in;go_wp;refine Aa (t:=aP C.ts p) i_ b λz b=>?_;have b:=O (b.add (bM #[Y (aP C.ts p).l_] 178));go_wp2_with fail;refine Db (PZ C _ p b.at_ [[45],[33]] d_ s_ f n (H_ z+1) s_ 2 rfl #[Q_ ⟨#[45]⟩,Q_ ⟨#[33]⟩] rfl) b (λI J b=>?_) λF J b=>?_;.have d:Wu (∃o,f=[o]/\(o=45\/o=33)/\r=bQ (λx=>aV [o,120] (aP C.ts p).l_ [] [x]) (iE E C.ts g (p+1))):=d.1 (by grind[bA]);obtain⟨M,K⟩:=b.yr;go_wp2;go_region_law (go_simp;go_at_call 320;refine vp G j b.drew ((by grind[dz,bQ])) (λl v H=>⟨rfl,Out.err H.1 H.2⟩) λa q A u v m b=>?_;obtain⟨L,B⟩:=b.yr);all_goals go_wp2;go_ret;obtain⟨o,rfl,D,k⟩:=d.out;exact b.ret (by rw[k,m.out];rfl) (.inr (.inr (.inr (.inr (.inr (.inr (.inr (.inl ⟨rfl,o,_,_,rfl,D,rfl,rfl,rfl⟩))))))))
 have d:=O (d.2 F);go_wp21;refine vp s j b (λl e=>d.trans e) (λl v H=>?_) λa q A u v m b=>?_;.go_wp;exact⟨i_,Out.err H.1 H.2⟩
 go_wp2;go_ret;exact b.one (d.trans m)
def My(C:Ctx)(E:Nat->bN aC)(b:sm C 176 E)(g:Nat):sm C 320 (iE E C.ts g):=by induction g with|zero=>grind[sm,iE]|succ g a=>grind[E7]
def Fu{K:List (Nat×(Wp->Prop))}{g:Nat}{Q:Ending->Wp->Prop}{x:Array Wo}{d:cU}{L:Nat->bN aC}{a:aC}{r:bN aC}(u:Wn prog 277 x o λe n=>e=bP (Q_ (bs (tU C.ts q d)))/\ud C n (if tU C.ts q d=[]then q else q+1)/\Fr C.pb D n)(H:Wu (Pg C E A K B D q))(y:g≠9)(h:∀x,x∈d↔cR x=g)(i:Wu (r=cG L C.ts g (F+1) a q)) (p:∀m,(bs m).toList.isEmpty=Wl->Wu (m=(aP C.ts q).x_/\cR (aP C.ts q).x_≠9/\(∀l,L (q+1)=.error l->r=.error l)/\∀b s,L (q+1)=.ok (b,s)->r=if g=2 then .ok (aV (aP C.ts q).x_ (aP C.ts q).l_ [] [a,b],s)else cG L C.ts g F (aV (aP C.ts q).x_ (aP C.ts q).l_ [] [a,b]) s)->∀W',Wu (Pg C E A K B W' (q+1))->Q (bP (Q_ (bs m))) W') (t:Wu (r=.ok (a,q))->∀W',Wu (Pg C E A K B W' q)->Q (bP (Q_ ⟨#[]⟩)) W'):Wn prog 277 x o Q:=by have v:=XJ (H.at_.Ce.tk q H.at_.lt) g y d h;rw[cG]at i;have i:=i.out;refine Db u H (λf W' j=>p _ f ?_ W' j) λz W' j=>t ?_ W' j;rw[v]at f⊢;split at f;rename_i c;rw[ec c]at i⊢;exact⟨i_,G_,G_,G_⟩;grind[bA];grind[cR]
def Ty(C:Ctx)(L:Nat->bN aC)(F:Nat)(ac:∀j w,Sem.run prog (callFunc F j) w=.ok (.enter F j) w)(M:sm C F L)(n:Nat)(X:n≠2)(J:n≠9)(c:cU)(d:∀x,x∈c↔cR x=n)(z:aA c<=100)(w:aL)(p:Nat)(h:ud C w p)(g y:Nat)(s:g<H_ w)(D:g≠C.pb)(S:∀i (P:i<aA c),eJ w g i (Q_ (bs c[i]))) (m:bK (L p) (cG L C.ts n (aA C.ts+1))≠.error 0):Wn prog 229 #[aW C.pb,.func (.func F) #[aW C.pb] #[],P_ (some (aJ g 0)) (aA c) y] w (DF C w (bK (L p) (cG L C.ts n (aA C.ts+1)))):=by
 have f:∀x∈c,x≠[]:=λx A e=>by rw[d,e]at A;exact J (A.symm.trans i_)
 have f:∀x∈c,x≠[]:=λx A e=>by rw[d,e]at A;exact J (A.symm.trans i_)
 have I:=O (λW q (N:Fr C.pb w W) (hq:ud C W q)=>PR C W q c g y (ef s N.size) D z f (λi P=>(iO (N.block g s D)).trans (S i P)) hq);have B:=O M;have b:=O (Pg.new h);have K:=O d;have ⟨r,hr⟩:∃r,r=bK (L p) (cG L C.ts n (aA C.ts+1)):=⟨_,rfl⟩;rw[<-hr]at m⊢;have u:=O hr;have HNE:=O m;clear h M m hr f S d;go_in;go_wp;refine Aa (t:=aP C.ts p) i_ b λw1 b=>?_;go_wp2_with fail;refine vp B HNE b (λl e=>by rw[u,e];rfl) (λl Q H=>?_) λa0 V T2 U Q E b=>?_;.go_wp;exact⟨i_,Out.err H.1 H.2⟩
 have b:=O (b.add (bM #[Y (aP C.ts p).l_] 178));go_wp2;go_loopg [8,9] (aA C.ts+1) (λk v o wr=>∃q a,Pg C w [DQ (H_ Q) (aP C.ts p).l_] [] [⟨v,[a],Wm⟩] wr q/\r=cG L C.ts n k a q);case atStart=>exact⟨V,a0,b,by rw[u,E.out];rfl⟩
 case round=>
  have ⟨q,a,s,hr⟩:=hrel;obtain⟨T3,ad,rfl⟩:=s.form;obtain⟨k,rfl⟩:∃k,gk=k+1:=by exact BB
  have u:=O hr;have b:=O s;clear s hr E;go_wp;refine Fu (I _ q b.fr b.at_) b J K u (λoo ab G T b=>?_) λu T b=>?_;.have ⟨c0,hz⟩:=b.yr;go_wp2;go_region_law (go_simp;refine vp B HNE b.drew G.2.2.1 (λl w5 H=>⟨i_,Out.err H.1 H.2⟩) λi q5 T5 aa w5 E b=>?_;have ⟨d0,hz5⟩:=b.yr);all_goals
    go_wp2;go_roundg k;case measure=>exact Z
    case rel=>exact⟨q5,_,b.node (.inr (.inr (.inr (.inr (.inr (.inr (.inr (.inr (.inl ⟨i_,_,_,_,a,i,by rw[G.1];rfl,G.2.1,rfl,rfl⟩))))))))),(G.2.2.2 _ _ E).trans (dy X)⟩
  go_wp2;go_ret;exact b.one u
def uZ(C:Ctx)(L:Nat->bN aC)(F:Nat)(o:∀b w,Sem.run prog (callFunc F b) w=.ok (.enter F b) w)(t:sm C F L)(c:Nat)(d:c≠2)(z:c≠9)(a:cU)(f:∀x,x∈a↔cR x=c)(g:aA a<=100)(w:aL)(p:Nat)(h:ud C w p)(n:Nat)(m:n=aA a)(r:Array Wo)(k:r=(a.map λx=>Value.string (bs x)).toArray) (j:bK (L p) (cG L C.ts c (aA C.ts+1))≠.error 0):Wn prog 229 #[aW C.pb,.func (.func F) #[aW C.pb] #[],P_ (some (aJ (H_ w) 0)) n n] (dZ w r 9) (DF C w (bK (L p) (cG L C.ts c (aA C.ts+1)))):=by subst m;have s:=h.vz;refine(Ty C L F o t c d z a f g _ p (h.alloc _) (H_ w) (aA a) s_ Z ?_ j).mono λe A ⟨u,d⟩=>⟨((Fr.refl _ _).alloc _).trans u,?_⟩;intro i y;apply aB (aS _ _ i_ _);rw[k];simp[y];cases q:bK (L p) (cG L C.ts c (aA C.ts+1))with|error l=>rw[q]at d;exact d|ok B=>rw[q]at d;have ⟨hp,v,hv,m⟩:=d;exact⟨hp,v,hv,m.grow (λ_ _ _=>i_) s_ kB⟩
def d9(c:Fn)(a b:Array Wo)(w:aL):(Instr.makeFunc c a b).run prog w=.ok (.func c a b) w:=rfl
def AZ{Z_:Prop}(Y_:Z_:=by
 clear h hne HL;go_in;go_wp2_with fail;refine Pb HC (λl w1 H=>?_) λT cs w1 H=>?_;.go_wp2_with fail;exact⟨i_,Out.err H.1 H.2⟩
 go_wp2;go_ret;exact H):Z_:=Y_
def WT(C:Ctx)(L:Nat->bN aC)(HL:sm C 320 L):sm C 311 (λp=>bK (L p) (cG L C.ts 4 (aA C.ts+1))):=by intro w p h hne;have HC:=O (uZ C L 320 (λ_ _=>i_) HL 4 d_ d_ [[42],[47],[37]] L_ d_ w p h 3 rfl #[Q_ ⟨#[42]⟩,Q_ ⟨#[47]⟩,Q_ ⟨#[37]⟩] rfl hne);have a:=d9;show Wn _ _ _ _ (DF C w (bK (L p) (cG L C.ts 4 (aA C.ts+1))));generalize bK (L p) (cG L C.ts 4 (aA C.ts+1))=r at*;exact AZ
def Gz(C:Ctx)(L:Nat->bN aC)(HL:sm C 311 L):sm C 298 (λp=>bK (L p) (cG L C.ts 3 (aA C.ts+1))):=by intro w p h hne;have HC:=O (uZ C L 311 (λ_ _=>i_) HL 3 d_ d_ [[43],[45]] Uv d_ w p h 2 rfl #[Q_ ⟨#[43]⟩,Q_ ⟨#[45]⟩] rfl hne);have a:=d9;show Wn _ _ _ _ (DF C w (bK (L p) (cG L C.ts 3 (aA C.ts+1))));generalize bK (L p) (cG L C.ts 3 (aA C.ts+1))=r at*;exact AZ
def Nr(C:Ctx)(L:Nat->bN aC)(HL:sm C 278 L):sm C 230 (λp=>bK (L p) (cG L C.ts 1 (aA C.ts+1))):=by intro w p h hne;have HC:=O (uZ C L 278 (λ_ _=>i_) HL 1 d_ d_ [[38,38]] Lg d_ w p h 1 rfl #[Q_ ⟨#[38,38]⟩] rfl hne);have a:=d9;show Wn _ _ _ _ (DF C w (bK (L p) (cG L C.ts 1 (aA C.ts+1))));generalize bK (L p) (cG L C.ts 1 (aA C.ts+1))=r at*;exact AZ
def Ia(C:Ctx)(L:Nat->bN aC)(HL:sm C 230 L):sm C 176 (λp=>bK (L p) (cG L C.ts 0 (aA C.ts+1))):=by intro w p h hne;have HC:=O (uZ C L 230 (λ_ _=>i_) HL 0 d_ d_ [[124,124]] Va d_ w p h 1 rfl #[Q_ ⟨#[124,124]⟩] rfl hne);have a:=d9;show Wn _ _ _ _ (DF C w (bK (L p) (cG L C.ts 0 (aA C.ts+1))));generalize bK (L p) (cG L C.ts 0 (aA C.ts+1))=r at*;exact AZ
def SF(C:Ctx)(L:Nat->bN aC)(n:sm C 298 L):sm C 278 (λp=>bK (L p) (cG L C.ts 2 (aA C.ts+1))):=by
 intro w p h c;have g:=O n;have b:=O (Pg.new h);revert c;show (bK _ _:bN aC)≠_->Wn _ _ _ _ (DF C w (bK _ _));generalize m:bK (L p) (cG L C.ts 2 (aA C.ts+1))=r;intro c;have d:=O m.symm;have f:=O c;clear h n c m;go_in;go_wp2_with fail;refine Aa (t:=aP C.ts p) i_ b λA b=>?_;go_wp2_with fail;refine vp g f b (λl e=>by rw[d,e];rfl) (λl o H=>?_) λa q J u o k b=>?_;.go_wp;exact⟨i_,Out.err H.1 H.2⟩
 have d:Wu (r=cG L C.ts 2 (aA C.ts+1) a q):=by show _=_;rw[d,k.out];rfl
 have b:=O (b.add (bM #[Y (aP C.ts p).l_] 178));go_wp2_with fail;refine Fu (PZ C _ q b.at_ [[61,61],[33,61],[60],[60,61]] d_ s_ _ rfl (H_ o+1) s_ 4 rfl #[Q_ ⟨#[61,61]⟩,Q_ ⟨#[33,61]⟩,Q_ ⟨#[60]⟩,Q_ ⟨#[60,61]⟩] rfl) b d_ Ud d (λG y j s b=>?_) λd s b=>?_;.obtain⟨I,E⟩:=b.yr;go_wp2;go_region_law (go_simp;go_at_call 298;refine vp g f b.drew j.2.2.1 (λl z H=>⟨i_,Out.err H.1 H.2⟩) λi D B x z k b=>?_;obtain⟨F,v⟩:=b.yr);all_goals go_wp2;go_ret;exact b.ret (j.2.2.2 _ _ k) (.inr (.inr (.inr (.inr (.inr (.inr (.inr (.inr (.inl ⟨i_,_,_,_,a,i,by rw[j.1];rfl,j.2.1,rfl,rfl⟩)))))))))
 go_wp2;go_ret;exact b.one d
def EI(C:Ctx):∀f,sm C 176 (gK C.ts f)|0=>λ_ _ _ a=>ep rfl a|f+1=>λw p h a=>Ia C (iN (gK C.ts f) C.ts 4) (Nr C (iN (gK C.ts f) C.ts 3) (SF C (iN (gK C.ts f) C.ts 2) (Gz C (iN (gK C.ts f) C.ts 1) (WT C (iN (gK C.ts f) C.ts 0) (My C (gK C.ts f) (EI C f) (aA C.ts+1)))))) w p h a
def Fe{c:Type}(a:List bE)(x:bS)(f:j->c)(r:bN j):aQ a x (bQ f r)=bQ f (aQ a x r):=by cases r with|error l=>rfl|ok d=>unfold bQ aQ;simp;split<;>rfl
def YC(C:Ctx)(E:Nat->bN aC)(k:sm C 176 E):sm C 246 (λp=>aQ C.ts [59] (E p)):=by intro w p h b;have e:=O k;have c:=O (Pg.new h);revert b;show aQ _ _ _≠_->Wn _ _ _ _ (DF C w (aQ _ _ _));generalize j:aQ C.ts [59] (E p)=r;intro b;have g:=O j.symm;have d:=O b;go_in;go_wp2_with fail;refine vp e d c ((by grind[aQ])) (λl m H=>?_) λa q T s m f c=>?_;exact⟨i_,Out.err H.1 H.2⟩;go_wp2_with fail;refine vS d c [59] ((by grind[dz,ES])) (λl n H=>?_) λi o c=>?_;exact⟨i_,Out.err H.1 H.2⟩;go_wp2;go_ret;exact c.one (by rw[g,f.out];exact rY i)
def Pg.Gk{a d c:aU}(h:Pg C E ((F,bM #[a,d,c] 342)::A) [] B D q):eJ D F 0 a/\eJ D F 1 d/\eJ D F 2 c/\D.frozen? (aJ F 0)=Wl/\D.frozen? (aJ F 1)=Wl/\D.frozen? (aJ F 2)=Wl/\F<H_ D:=have k:=(h.own _ (.head _)).1;(by grind[aB,aE])
def Pg.early{f i h d c a:aU}{l:List aC}(H:Pg C E A [] [] D F)(K:Pg C E ((H_ D,bM #[f,i,h] 342)::A) [] B o q)(m:sy (si (H_ D+1) (H_ o)) o a l):Pg C E ((H_ D,bM #[d,c,a] 342)::A) [] [⟨a,l,Wl⟩] (((o.setCell (aJ (H_ D) 0) d).setCell (aJ (H_ D) 1) c).setCell (aJ (H_ D) 2) a) q:=by have g:=H.fr.size;have n:=H.at_.vz;have j:=H.at_.zo;have e:∀k,k≠H_ D->(((o.setCell (aJ (H_ D) 0) d).setCell (aJ (H_ D) 1) c).setCell (aJ (H_ D) 2) a).heap[k]?=o.heap[k]?:=(by grind[eh]);refine⟨(by grind[Fr.setCell,Pg.fr]),(by grind[ud.other,Pg.at_]),λy b=>?_,λy b=>?_,H.pb,s_⟩;rcases fe.1 b with rfl|b;exact⟨aN (aN (aN (K.own _ (.head _)).1)),g⟩;have:=aH (H.own y b).1;grind[Pg.own];grind[vg.ok.list,sy.grow,World.setCell]
def I7(C:Ctx)(E:Nat->bN aC)(I:sm C 176 E):sm C 248 (fY E C.ts):=by
 intro w p h u;have s:=O I;have F:=O (YC C E I);have d:=O (Pg.new h);have L:=h.len;have ⟨r,hr⟩:∃r,r=fY E C.ts p:=⟨_,rfl⟩;rw[<-hr]at u⊢;rw[fY]at hr;simp only[Fe]at hr;have f:=O hr;have HNE:=O u;clear h I u hr;go_in;go_wp2_with fail;refine Ab (t:=aP C.ts p) HNE i_ d (λi=>by rw[f,i];rfl) (λl A H=>?_) λi J d=>?_;.go_wp2_with fail;exact⟨i_,Out.err H.1 H.2⟩
 have hr:=f.out;rw[i.out,ec rfl]at hr;have f:=O hr;have d:=O (d.add (bM #[Y (aP C.ts p).l_,Q_ (bs (aP C.ts p).x_)] 180));clear i hr;go_wp21;refine oW d [40] (λi Q d=>?_) λi Q d=>?_
 .have f:Wu (r=bQ (λl=>aV [100,111] (aP C.ts p).l_ (aP C.ts p).x_ [aV [99,97,108,108] (aP C.ts p).l_ (aP C.ts p).x_ l]) (aQ C.ts [59] (aQ C.ts [41] (gL E C.ts (p+1+1) [41])))):=by show _=_;rw[f,i.out];unfold fU;rw[i.out];rfl
  have ⟨c0,c1,hz⟩:=d.z_;have HC:=O (d.add (bM #[Y 0,Q_ ⟨#[]⟩,bR] 342));go_wp2;go_cut [4] (λv wc=>∃b D l q,v=aW b/\aQ C.ts [41] (gL E C.ts (p+1+1) [41])=.ok (l,q)/\Pg C w [(b,bM #[Y (aP C.ts p).l_,Q_ (bs (aP C.ts p).x_),D] 342),(H_ J,bM #[Y (aP C.ts p).l_,Q_ (bs (aP C.ts p).x_)] 180)] [] [⟨D,l,Wl⟩] wc q);case first=>go_region_law (go_simp;go_at_call 282;first|(refine Bi s HNE HC.drew [41] (λl e=>by rw[f,e];rfl) (λl B H=>⟨rfl,Out.err H.1 H.2⟩) λl q z c B n o P=>?_;have ⟨z0,W,V,y0,y1,y2,U⟩:=o.Gk;have M:=aB (i:=0) (o.own _ (.tail _ (.head _))).1 i_;have K:=aB (i:=1) (o.own _ (.tail _ (.head _))).1 i_;have N:=aH (o.own _ (.tail _ (.head _))).1)|(refine Bi s HNE d.drew [41] (λl e=>by rw[f,e];rfl) (λl B H=>⟨rfl,Out.err H.1 H.2⟩) λl q z c B n o P=>?_;have ⟨M,K,N⟩:=o.z_));all_goals go_wp;go_meet;case rel=>first|exact⟨_,_,_,_,i_,n,o.add _⟩|exact⟨_,_,_,_,i_,n,d.early o (by simpa using P.out)⟩
  case rest=>
   obtain⟨b,D,l,q,rfl,n,y⟩:=hcut;obtain⟨x,c,rfl⟩:=sy.slice (vg.ok.many (y.Af _ (.head _)));have S:=O n;have d:=O y;clear n y;go_wp;refine vS HNE d [59] (λi=>by rw[f,S,ES i];rfl) (λl A H=>?_) λi A d=>?_;.go_wp;exact⟨i_,Out.err H.1 H.2⟩
   obtain⟨z0,W,V,-,-,-,U⟩:=d.Gk;go_wp2;go_ret;exact d.ret (a:=aV [100,111] _ _ [_]) (by rw[f,S,rY i];rfl) (.inr (.inr (.inr (.inr (.inr (.inr (.inr (.inr (.inr (.inr (.inr (.inr (.inr (.inr (.inr (.inr (.inr ⟨rfl,_,aV [99,97,108,108] (aP C.ts p).l_ (aP C.ts p).x_ l,rfl,rfl,rfl,rfl,rfl,rfl,rfl⟩)))))))))))))))))
 have f:Wu (r=bK (aQ C.ts [61] (fJ E C.ts (aA C.ts+1) (p+1) [])) λm q=>bQ (λv=>aV [115,101,116] (aP C.ts p).l_ (aP C.ts p).x_ (m++[v])) (aQ C.ts [59] (E q))):=by show _=_;rw[f,i.out];rfl
 have G:=d.z_.2.2;have d:=O d.open;go_wp2;go_loopg [5] (aA C.ts+1) (λk v wr=>∃q j,Pg C w [(H_ J,bM #[Y (aP C.ts p).l_,Q_ (bs (aP C.ts p).x_)] 180)] [Nl (H_ Q) v j] [] wr q/\aA j+k<=4000/\r=bK (aQ C.ts [61] (fJ E C.ts k q j)) λm q=>bQ (λv=>aV [115,101,116] (aP C.ts p).l_ (aP C.ts p).x_ (m++[v])) (aQ C.ts [59] (E q)));case atStart=>exact⟨_,_,d,ku,f⟩
 case round=>
  have ⟨q,j,y,hal,hr⟩:=hrel;obtain⟨x,c,rfl⟩:=y.sl;obtain⟨k,rfl⟩:∃k,gk=k+1:=by exact BB
  rw[fJ]at hr;have d:=O y;have f:=O hr;clear y hr;go_wp;refine oW d [91] (λi w5 d=>?_) λi w5 d=>?_
  .have hr:=f.out;rw[i.out,ec rfl]at hr;have f:=O hr;clear i hr;go_wp21;refine l7 s HNE d (λl e=>by rw[f,e];rfl) (λl w2 H=>?_) λa q T X w2 n o=>?_;.go_wp;exact⟨i_,Out.err H.1 H.2⟩
   go_wp2_with (at_builtin;refine p7 o Z (by simpa using G) _ _ λg aa w3 d=>?_);go_wp;refine vS HNE d [93] (λi=>by rw[f,n.out];simp[ES i];rfl) (λl A H=>?_) λi A d=>?_;.go_wp;exact⟨i_,Out.err H.1 H.2⟩
   go_wp2;go_roundg k;case measure=>exact Z
   case rel=>exact⟨_,_,d,ku,by rw[f,n.out];simp[rY i.out]⟩
  have f:Wu (r=bK (aQ C.ts [61] (.ok (j,q))) λm q=>bQ (λv=>aV [115,101,116] (aP C.ts p).l_ (aP C.ts p).x_ (m++[v])) (aQ C.ts [59] (E q))):=by show _=_;rw[f,i.out];rfl
  have d:=O d.shut;go_wp21;refine vS HNE d [61] (λi=>by rw[f,ES i];rfl) (λl A H=>?_) λi A d=>?_;.go_wp;exact⟨i_,Out.err H.1 H.2⟩
  have f:Wu (r=bQ (λv=>aV [115,101,116] (aP C.ts p).l_ (aP C.ts p).x_ (j++[v])) (aQ C.ts [59] (E (q+1)))):=by show _=_;rw[f,rY i];rfl
  have ⟨m0,m1,hz⟩:=d.z_;go_wp2;go_region_law (go_simp;go_at_call 246;refine vp F HNE d.drew (λl e=>by rw[f];exact ey _ e) (λl B H=>⟨i_,Out.err H.1 H.2⟩) λa q T X B n d=>?_;have ⟨M,K,N⟩:=d.z_);all_goals go_wp2;go_ret;exact d.ret (by rw[f];exact ey _ n.out) (.inr (.inr (.inr (.inr (.inr (.inr (.inr (.inr (.inr (.inr (.inl ⟨i_,_,_,j,_,i_,i_,i_,i_⟩)))))))))))
