import Derived.Test.YthlhecfcnfjecaaGreatDoorP09
import Derived.Test.YthlhecfcnfjecaaGreatDoorP05
set_option linter.all false
set_option maxRecDepth 100000
set_option maxHeartbeats 0
open List renaming length->aA
open Go.World renaming setCell->c9,cell?->I_
open Option renaming some->Wy
open Go renaming Calls->W_,Value->Xa
open Go.RowKit renaming Hid->Xg
namespace Go.Proofs.YthlhecfcnfjecaaGreatDoor
open Hs _root_.Go.Proofs.Tryz Go.RowKit
variable{C:Ctx}{E:List aC}{G M:Nat}{K:aC}{I N:aN}{J P:aX}{D:bL}
def DR(lo:Nat)(w':aN)(v:aX)(b:aC):Prop:=b.op=[98,108,111,99,107]/\th (sm lo w'.heap.size) w' v b.y_
def Fq(C:Ctx)(w:aN)(r:bU aC)(e:Ending)(w':aN):Prop:=Out C w r (DR w.heap.size) e w'
def wt(C:Ctx)(F:Nat)(X:Nat->bU aC):Prop:=∀w p,uh C w p->X p≠.error 0->W_ prog F #[aY C.pb] w (Fq C w (X p))
def BW(B:Nat->bU aC)(ts:List bH)(q:Nat):bU (Option aC):=if cA ts q [101,108,115,101]then bV Wy (B (q+1))else .ok (none,q)
def Pv(lo:Nat)(w':aN)(v:aX):Option aC->Prop|none=>v=bP|some b=>DR lo w' v b
def Hz(E B:Nat->bU aC)(a:List bH)(p:Nat):AE E B a p=bN (E (p+1)) λc q=>bN (B q) λb d=>bV (λo=>aW [105,102] (aR a p).l_ [] (c::b::o.toList)) (BW B a d):=by unfold AE;cases E (p+1)with|error l=>rfl|ok f=>have ⟨c,q⟩:=f;show bN (B q) _=bN (B q) _;cases B q with|error l=>rfl|ok e=>have ⟨b,d⟩:=e;show (if _ then _ else _)=bV _ (BW B a d);unfold BW;split;cases B (d+1)<;>rfl;rfl
section
variable {C:Ctx} {w W:aN} {L:List (Nat × Obj)} {K:List (Nat × (World->Prop))} {M:List vk} {p:Nat} {Q:Ending->World->Prop} {α:Type} {r:bU α} {B:Nat->bU aC}
def Br{f:Nat}(t:Xg (wt C f B))(g:Xg (r≠.error 0))(H:Xg (Pg C w L K M W p))(o:∀l,B p=.error l->r=.error l)(s:∀l a,Xg (r=.error l/\Fr C.pb w a)->Q (iE 4 l) a) (x:∀b q z n c a,Xg (B p=.ok (b,q)/\b.op=[98,108,111,99,107])->Xg (Pg C w L K (⟨P_ z n c,b.y_,false⟩::M) a q)->Q (bR (P_ z n c)) a):W_ prog f #[aY C.pb] W Q:=(t W p H.at_ λe=>g (o 0 e)).mono λe a h=>by obtain⟨k,d⟩:=h;cases i:B p<;>rw[i]at d;obtain rfl:e=_:=d;exact s _ a ⟨o _ i,H.fr.trans k⟩;obtain⟨y,v,rfl,u,m⟩:=d;obtain⟨z,c,rfl⟩:=m.slice;exact x _ _ _ _ _ a ⟨i,u⟩ ((H.h_ k y).put (.list (m.h_ (s_) λb j=>⟨em H.fr.size j.1,j.2⟩)))
def Ul(k:Xg (wt C 145 B))(h:uh C w p){r:bU (Option aC)}(e:Xg (r=BW B C.ts p))(f:Xg (r≠.error 0)):W_ prog 248 #[aY C.pb] w (Out C w r (Pv (H_ w))):=by
 have d:=O (Pg.new h);unfold BW at e;go_in;go_wp;refine oJ d [101,108,115,101] (λi j d=>?_) λi j d=>?_;.have e:=O (e.trans (ec i));go_wp21;refine Br k f d ((by grind[dw,bV])) (λl m H=>?_) λb q z n c m g d=>?_;exact⟨aJ,Out.err H.1 H.2⟩;go_wp2;go_ret;exact Out.ok (a:=Wy b) (by rw[e,g.out.1];rfl) d.fr d.at_ ⟨g.out.2,(d.Ah _ (.head _)).many⟩
 go_wp2;go_ret;exact Out.ok (a:=none) (ng) d.fr d.at_ rfl
def Ef(y:Xg (wt C 145 B))(j:Xg (r≠.error 0))(H:Xg (Pg C w L K M W p))(u:∀l,BW B C.ts p=.error l->r=.error l)(x:∀l a,Xg (r=.error l/\Fr C.pb w a)->Q (iE 4 l) a) (s:∀o q z n c a,Xg (BW B C.ts p=.ok (o,q)/\(o=none->Value.slice z n c=bP)/\∀b,o=Wy b->b.op=[98,108,111,99,107])->Xg (Pg C w L K (⟨P_ z n c,(o.map (·.y_)).getD [],false⟩::M) a q)->Q (bR (P_ z n c)) a):W_ prog 248 #[aY C.pb] W Q:=(Ul y H.at_ rfl λe=>j (u 0 e)).mono λe a h=>by obtain⟨g,d⟩:=h;cases i:BW B C.ts p with|error l=>rw[i]at d;obtain rfl:e=_:=d;exact x _ a ⟨u _ i,H.fr.trans g⟩|ok A=>obtain⟨o,q⟩:=A;rw[i]at d;obtain⟨t,v,rfl,f⟩:=d;cases o with|none=>obtain rfl:v=_:=f;exact s _ _ _ _ _ a ⟨i,s_,s_⟩ ((H.h_ g t).put (.list (.inl s_)))|some b=>obtain⟨f,m⟩:DR _ _ _ _:=f;obtain⟨z,c,rfl⟩:=m.slice;exact s _ _ _ _ _ a ⟨i,s_,G_⟩ ((H.h_ g t).put (.list (m.h_ (s_) λb k=>⟨em H.fr.size k.1,k.2⟩)))
end
def Pw(C:Ctx)(E B:Nat->bU aC)(J:ss C 177 E)(P:wt C 145 B):ss C 200 (jU E B C.ts):=by
 intro w p h s;have y:=O J;have u:=O P;have v:=O (XN C E J);have L:=O (H9 C E J);have f:=O (Pg.new h);have ⟨r,hr⟩:∃r,r=jU E B C.ts p:=⟨_,rfl⟩;rw[<-hr]at s⊢;rw[jU,Hz]at hr;unfold sI xO pM xR at hr;simp only[Ga]at hr;have g:=O hr;have j:=O s;clear h J P s hr;go_in;go_wp2_with fail;refine Aa (t:=aR C.ts p) aJ f λW f=>?_;have f:=O (f.add (bO #[Y (aR C.ts p).l_] 179));go_wp2_with fail;refine oJ f [118,97,114] (λi F f=>?_) λi F f=>?_
 .have g:=O (g.trans (ec i));go_wp2_with fail;refine zz (t:=aR C.ts (p+1)) j aJ f (λi=>by rw[g,i];rfl) (λl A H=>?_) λi N f=>?_;.go_wp2_with fail;exact⟨aJ,Out.err H.1 H.2⟩
  have g:=O (g.trans (ec i));have f:=O (f.add (bO #[Y (aR C.ts (p+1)).l_,Q_ (bs (aR C.ts (p+1)).x_)] 181));go_wp21;refine vI j f [61] (λi=>by rw[g,i];rfl) (λl A H=>?_) λi K f=>?_;.go_wp;exact⟨aJ,Out.err H.1 H.2⟩
  have g:=O (g.trans (ec i));have ⟨m0,m1,hz⟩:=f.Ad;have G:=aB (i:=0) (f.own _ (.tail _ (.head _))).1 aJ;have hy:=aH (f.own _ (.tail _ (.head _))).1;go_wp2;go_region_law (go_simp;go_at_call 247;refine vy v j f.drew (λl e=>by rw[g];exact fe _ e) (λl m H=>⟨aJ,Out.err H.1 H.2⟩) λa q T D m k f=>?_;have ⟨d0,d1,hz9⟩:=f.Ad;have V:=aB (i:=0) (f.own _ (.tail _ (.head _))).1 aJ;have S:=aH (f.own _ (.tail _ (.head _))).1);all_goals go_wp2;go_ret;exact f.ret ra (.inr (.inr (.inr (.inr (.inr (.inr (.inr (.inr (.inr (.inl ⟨aJ,_,aW [116,97,114,103,101,116] (aR C.ts (p+1)).l_ (aR C.ts (p+1)).x_ [],_,aJ,aJ,aJ,aJ⟩))))))))))
 have g:=O (g.trans (dy oq));go_wp21;refine oJ f [105,102] (λi N f=>?_) λi N f=>?_
 .have g:=O (g.trans (ec i));go_wp21;refine vy y j f (λl e=>by rw[g,e];rfl) (λl F H=>?_) λa q T D K k f=>?_;.go_wp;exact⟨aJ,Out.err H.1 H.2⟩
  go_wp21;refine Br u j f (λl e=>by rw[g,k.out];simp[bN,e]) (λl F H=>?_) λb Q z n c M x f=>?_;.go_wp;exact⟨aJ,Out.err H.1 H.2⟩
  have g:Xg (r=bV (λo=>aW [105,102] (aR C.ts p).l_ [] (a::b::o.toList)) (BW B C.ts Q)):=by show _=_;rw[g,k.out];simp[bN,x.out.1]
  have ⟨G,hz⟩:=f.yv;go_wp2;go_region_law (go_simp;go_at_call 248;refine Ef u j f.drew (λl e=>by rw[g,e];rfl) (λl m H=>⟨rfl,Out.err H.1 H.2⟩) λo q3 z2 n2 c2 m I f=>?_;have ⟨d0,hz9⟩:=f.yv);all_goals go_wp2;go_ret;cases o with|none=>cases I.out.2.1 rfl;exact f.ret (by rw[g,I.out.1];rfl) (.inr (.inr (.inr (.inr (.inr (.inr (.inr (.inr (.inr (.inr (.inr (.inl ⟨rfl,_,_,a,b,rfl,rfl,x.out.2,rfl,rfl⟩))))))))))))|some d=>exact f.ret (by rw[g,I.out.1];rfl) (.inr (.inr (.inr (.inr (.inr (.inr (.inr (.inr (.inr (.inr (.inr (.inr (.inl ⟨rfl,_,_,_,a,b,d,rfl,rfl,x.out.2,I.out.2.2 d rfl,rfl,rfl⟩)))))))))))))
 have g:=O (g.trans (dy oq));go_wp21;refine oJ f [119,104,105,108,101] (λi K f=>?_) λi K f=>?_
 .have g:=O (g.trans (ec i));go_wp21;refine vy y j f (λl e=>by rw[g,e];rfl) (λl F H=>?_) λa q T D M k f=>?_;.go_wp;exact⟨aJ,Out.err H.1 H.2⟩
  have g:Xg (r=bV (λb=>aW [119,104,105,108,101] (aR C.ts p).l_ [] [a,b]) (B q)):=by show _=_;rw[g,k.out];rfl
  have ⟨G,hz⟩:=f.yv;go_wp2;go_region_law (go_simp;go_at_call 145;refine Br u j f.drew (λl e=>by rw[g,e];rfl) (λl m H=>⟨rfl,Out.err H.1 H.2⟩) λb Q z n c m x f=>?_;have ⟨d0,hz9⟩:=f.yv);all_goals go_wp2;go_ret;exact f.ret (by rw[g,x.out.1];rfl) (.inr (.inr (.inr (.inr (.inr (.inr (.inr (.inr (.inr (.inr (.inr (.inr (.inr (.inl ⟨rfl,_,_,a,b,rfl,rfl,x.out.2,rfl,rfl⟩))))))))))))))
 have g:=O (g.trans (dy oq));go_wp21;refine oJ f [114,101,116,117,114,110] (λi M f=>?_) λi M f=>?_
 .have g:=O (g.trans (ec i));go_wp21;refine oJ f [59] (λi A f=>?_) λi A f=>?_;.have ⟨G,hz⟩:=f.yv;go_wp2;go_ret;exact f.ret (g.trans (ec i)) (.inr (.inr (.inr (.inr (.inr (.inr (.inr (.inr (.inr (.inr (.inr (.inr (.inr (.inr (.inl ⟨aJ,_,aJ,aJ,aJ,aJ⟩)))))))))))))))
  have g:=O (g.trans (dy oq));have ⟨G,hz⟩:=f.yv;go_wp2;go_region_law (go_simp;go_at_call 247;refine vy v j f.drew (λl e=>by rw[g];exact fe _ e) (λl m H=>⟨aJ,Out.err H.1 H.2⟩) λa q T D m k f=>?_;have ⟨d0,hz9⟩:=f.yv);all_goals go_wp2;go_ret;exact f.ret ra (.inr (.inr (.inr (.inr (.inr (.inr (.inr (.inr (.inr (.inr (.inr (.inr (.inr (.inr (.inr (.inl ⟨aJ,_,_,aJ,aJ,aJ,aJ⟩))))))))))))))))
 have g:=O (g.trans (dy oq));go_wp21;refine oJ f [112,114,105,110,116] (λi A f=>?_) λi A f=>?_;.have g:=O (g.trans (ec i));have ⟨G,hz⟩:=f.yv;go_wp2;go_region_law (go_simp;go_at_call 247;refine vy v j f.drew (λl e=>by rw[g];exact fe _ e) (λl m H=>⟨aJ,Out.err H.1 H.2⟩) λa q T D m k f=>?_;have ⟨d0,hz9⟩:=f.yv);all_goals go_wp2;go_ret;exact f.ret ra (.inr (.inr (.inr (.inr (.inr (.inr (.inr (.inr (.inr (.inr (.inr (.inr (.inr (.inr (.inr (.inr (.inl ⟨aJ,_,_,aJ,aJ,aJ,aJ⟩)))))))))))))))))
 have g:=O (g.trans (dy oq));go_wp21;refine vy L j f (λl e=>g.trans e) (λl F H=>?_) λa q T D X k f=>?_;.go_wp;exact⟨aJ,Out.err H.1 H.2⟩
 go_wp2;go_ret;exact f.one (g.trans k)
def W7(C:Ctx)(S:Nat->bU aC)(s:ss C 200 S):wt C 145 (λp=>if cA C.ts p [123]then bV (aW [98,108,111,99,107] (aR C.ts p).l_ []) (aQ C.ts [125] (eX S C.ts (aA C.ts+1) (p+1) []))else Hs.bad C.ts p):=by
 intro w p h j;have n:=O s;have b:=O (Pg.new h).open;have o:=h.len;revert j;show (ite _ _ _:bU aC)≠_->W_ _ _ _ _ (Fq C w (ite _ _ _));generalize hr:(if cA C.ts p [123]then bV (aW [98,108,111,99,107] (aR C.ts p).l_ []) (aQ C.ts [125] (eX S C.ts (aA C.ts+1) (p+1) []))else Hs.bad C.ts p)=r;intro j;have f:=O hr.symm;have HNE:=O j;clear h s j hr;go_in;go_wp2_with fail;refine vI HNE b [123] (λi=>by rw[f,i];rfl) (λl F H=>?_) λi D b=>?_;.go_wp2_with fail;exact⟨aJ,Out.err H.1 H.2⟩
 have f:=O (f.trans (ec i));go_wp2;go_loopg [3] (aA C.ts+1) (λk v wr=>∃q d,Pg C w [] [Nl (H_ w) v d] [] wr q/\aA d+k<=4000/\r=bV (aW [98,108,111,99,107] (aR C.ts p).l_ []) (aQ C.ts [125] (eX S C.ts k q d)));case atStart=>exact⟨_,_,b,la,f⟩
 case round=>
  obtain⟨q,d,m,z,hr⟩:=hrel;obtain⟨x,c,rfl⟩:=m.sl;obtain⟨k,rfl⟩:∃k,gk=k+1:=by exact AO
  rw[eX]at hr;have b:=O m;have f:=O hr;clear m hr;go_wp21;refine oJ b [125] (λi B b=>?_) λi B b=>?_;.go_wp2;go_ret;exact Out.ok (a:=aW _ _ [] d) (by rw[f,ec i.out,rJ i];rfl) b.fr b.at_ ⟨rfl,b.lk⟩
  have hr:=f.out;rw[dy oq]at hr;have f:=O hr;clear hr;go_wp21;refine j9 n HNE b (λl e=>by rw[f,e];rfl) (λl A H=>?_) λa q T G A t y=>?_;.go_wp;exact⟨aJ,Out.err H.1 H.2⟩
  go_wp2_with (at_builtin;refine o9 y Z s_ _ _ λg u E b=>?_);go_wp2;go_roundg k;case measure=>exact Z
  case rel=>exact⟨_,_,b,la,by rw[f,t.out]⟩
theorem QC(C:Ctx)(f:Nat):∀g,wt C 145 (iO (jQ C.ts f) C.ts g)|0=>λ_ _ _ a=>ep rfl a|g+1=>λw p h a=>W7 C (jU (jQ C.ts f) (iO (jQ C.ts f) C.ts g) C.ts) (Pw C _ _ (PX C f) (QC C f g)) w p h a
def Od:(prog.info? 181).map (λi=>(i.zero,i.size,i.bytes))=Wy (Wy (.agg #[Y 0,Q_ (bs [])]),2,24):=k_
def Bu:List aC->List Xa|[]=>[]|a::l=>Y a.l_::.string (bs a.x_)::Bu l
def Nv(l:List aC)(a:aC):Bu (l++[a])=Bu l++[Y a.l_,Q_ (bs a.x_)]:=by induction l with|nil=>rfl|cons x l b=>simp[Bu,b]
def zd(F:bL)(w:aN)(v:aX)(l:List aC):Prop:=(∀a∈l,a.op=[112,97,114,97,109])/\((v=bP/\l=[])\/∃g cap cur,v=.slice (Wy (aL g 0)) (aA l) cap/\F g/\w.heap[g]?=Wy (.cells cur 181)/\aA l<=cap/\cur.toList.take (aA l*2)=Bu l)
theorem zd.h_{G:bL}{w w':aN}{v:aX}(h:zd D w v E)(k:∀b,D b->w'.heap[b]?=w.heap[b]?)(j:∀b,D b->G b):zd G w' v E:=by obtain⟨d,h|⟨g,c,a,i,e,m,f⟩⟩:=h;exact⟨d,ea h⟩;exact⟨d,dz ⟨g,c,a,i,j g e,G_,f⟩⟩
def zd.slice{F:bL}{w:aN}{v:aX}{l:List aC}(h:zd F w v l):∃x c,v=.slice x (aA l) c:=by grind[zd]
def z_(b_:Nat)(w:aN)(v:aX)(acc:List aC):Prop:=(∀a∈acc,a.op=[112,97,114,97,109])/\w.ownsRow b_ 181 2 v (aA acc) (Bu acc)
theorem z_.nil(a:Nat)(w:aN):z_ a w (bP) []:=⟨s_,World.ownsRow_nil _ _ _ _⟩
def z_.slice{b:Nat}{w:aN}{v:aX}(h:z_ b w v E):∃x c,v=.slice x (aA E) c:=by rcases h.2.2 with ⟨e,i⟩|⟨g,f,d,e,_⟩;grind;grind
theorem z_.h_{a d:Nat}{w:aN}{v:aX}{b:List aC}(h:z_ a w v b)(g:Fr d w I)(f:d<a):z_ a I v b:=by refine⟨h.1,bE h.2 λk e=>?_⟩;have:=bX h.2 k e;grind[Fr.block,eI,z_]
def z_.nm{a:Nat}(h:z_ a I J E):zd (sm a (H_ I)) I J E:=by rcases h.2.2 with ⟨f,e⟩|⟨g,d,c,f,e,j,i,m,l,k⟩;grind[zd];exact⟨h.1,dz ⟨g,d,c,f,⟨e,G_⟩,j,i,k⟩⟩
def T_(w:aN)(a b:aX):∀j u,([a,b]:List Xa)[j]?=Wy u->I_ (eF w #[a,b] 181) ((⟨H_ w,0,none⟩:Addr).add j)=Wy u:=by intro j u c;match j,c with|0,c=>simp at c;subst c;simp[Addr.add]|1,c=>simp at c;subst c;simp[Addr.add]|j+2,c=>simp at c
def Up(l:Int)(b:ByteArray):∀u∈([Y l,Q_ b]:List Xa),u.oneCell'=true:=by intro u a;simp at a;rcases a with rfl|rfl<;>rfl
def zq(t:bH):aC:=aW [112,97,114,97,109] t.l_ t.x_ []
theorem Ss{b:List bH}(h:((aR b M).c_==110)=true):eC b (G+1) M E=if cA b (M+1) [44]then eC b G (M+1+1) (E++[zq (aR b M)])else .ok (E++[zq (aR b M)],M+1):=by rw[eC,ec h];rfl
def Fs{a:List bH}(h:((aR a M).c_==110)=false):eC a (G+1) M E=.error (aR a M).l_:=by rw[eC,dy G_];rfl
def Ds(lo:Nat)(w':aN)(v:aX)(l:List aC):Prop:=zd (sm lo w'.heap.size) w' v l
abbrev Nm(b_:Nat)(v:aX)(acc:List aC):Nat×(World->Prop):=(b_,λW=>z_ b_ W v acc)
def Gj{acc:List aC}{t:bH}{i:Array Oper}{h:List Oper}{o:Oper}{f:Act}{Q:Exit->Act->World->Prop}{z:Option Addr}{c:Nat}(H:Xg (Pg C I [] [Nm M (P_ z (aA acc) c) acc] [] N G))(E:aA acc<=4000)(s x:Operand) (k:∀g e l,Xg (Pg C I [] [Nm M (P_ (Wy (aL g 0)) (aA acc+1) e) (acc++[zq t])] [] l G)->wpList prog i Q h (f.put o.dst (P_ (Wy (aL g 0)) (aA acc+1) e)) l) (m:o.guard=none:=by rfl) (v:o.op=.call {callee:=.builtin .append,args:=#[s,x],argTypes:=#[182,182]}:=by rfl) (y:f.eval s=P_ z (aA acc) c:=by rfl) (A:f.eval x=P_ (Wy (aL (H_ N) 0)) 1 1:=by rfl):wpList prog i Q (o::h) f (eF N #[Y t.l_,Q_ (bs t.x_)] 181):=by have ⟨i0,hi,hz0,hz1,hz2⟩:=info_parts Od;obtain⟨⟨q,b⟩,-,B,-,-,r⟩:=H.wa _ (.head _);simp at b q r;refine wpList_append_lies _ m s x 182 v M 181 i0 _ 2 24 underlying182 hi hz0 hz1 hz2 aJ d_ _ (aA acc) _ y (b.alloc _) (aL (H_ N) 0) 1 1 [Y t.l_,Q_ (bs t.x_)] A rfl (T_ _ _ _) (Up _ _) d_ lg Z la (H_ N+1) s_ ?_;refine λg e l u n D _=>k g e l (H.grow n (bX b) s_ ⟨λa j=>?_,by rw[Nv,et];exact u⟩ (by grind[z_.h_]));rcases fm.1 j with j|j;grind;rw[ie.1 j];rfl
def K6(C:Ctx)(w:aN)(p:Nat)(h:uh C w p)(r:bU (List aC))(e:r=if cA C.ts p [40]then kV C.ts (p+1)else Hs.bad C.ts p)(f:r≠.error 0):W_ prog 144 #[aY C.pb] w (Out C w r (Ds (H_ w))):=by
 have b:=O e;have d:=O f;have a:Xg (Pg C w [] [Nm (H_ w) (bP) []] [] w p):=(by grind[Pg.begin,Pg.new,z_.nil]);have n:=h.len;clear h e f;go_in;go_wp2_with fail;refine vI d a [40] ((by grind[dw,Hs.bad])) (λl j H=>?_) λi y a=>?_;.go_wp;exact⟨aJ,Out.err H.1 H.2⟩
 have b:Xg (r=aQ C.ts [41] (if cA C.ts (p+1) [41]then .ok ([],p+1)else eC C.ts (aA C.ts+1) (p+1) [])):=b.trans (ec i);go_wp2_with fail;refine oJ a [41] (λi s a=>?_) λi s a=>?_;.go_wp2;go_ret;exact Out.ok (by rw[b,ec i.out,rJ i]) a.fr a.at_ (a.wa _ (.head _)).1.nm
 have e:=b.out;rw[dy oq]at e;have b:=O e;clear e;go_wp21;refine zz (t:=aR C.ts (p+1)) d aJ a (λi=>by rw[b,Fs i];rfl) (λl j H=>?_) λi z a=>?_;.go_wp;exact⟨aJ,Out.err H.1 H.2⟩
 go_wp2_with (at_builtin;refine Gj (acc:=[]) a s_ _ _ λg m o a=>?_);go_wp2;go_loopg [3] (aA C.ts) (λk v wr=>∃q acc,Pg C w [] [Nm (H_ w) v acc] [] wr q/\aA acc+k<=4000/\r=aQ C.ts [41] (if cA C.ts q [44]then eC C.ts k (q+1) acc else .ok (acc,q)));case atStart=>grind[dw,eC,zq]
 case round=>
  have ⟨q,acc,hg,hal,e⟩:=hrel;obtain⟨x,c,rfl⟩:=(hg.wa _ (.head _)).1.slice;have a:=O hg;have b:=O e;clear hg e;go_wp;refine oJ a [44] (λi u a=>?_) λi u a=>?_
  .have b:Xg (r=aQ C.ts [41] (eC C.ts gk (q+1) acc)):=by grind[dw]
   obtain⟨k,rfl⟩:∃k,gk=k+1:=by cases gk with|zero=>exact ep b d|succ k=>simp
   go_wp21;refine zz (t:=aR C.ts (q+1)) d aJ a (λi=>by rw[b,Fs i];rfl) (λl j H=>?_) λi j a=>?_;.go_wp;exact⟨aJ,Out.err H.1 H.2⟩
   go_wp2_with (at_builtin;refine Gj a Z _ _ λg m o a=>?_);go_wp2;go_roundg k;case measure=>exact Z
   grind[dw,Ss]
  have b:Xg (r=aQ C.ts [41] (.ok (acc,q))):=by grind[dw]
  go_wp21;refine vI d a [41] ((by grind[dw,EJ])) (λl j H=>?_) λi j a=>?_;.go_wp;exact⟨aJ,Out.err H.1 H.2⟩
  go_wp2;go_ret;exact Out.ok (by rw[b];exact rJ i) a.fr a.at_ (a.wa _ (.head _)).1.nm
def CS(F:bL)(w:aN)(v:aX)(f:aC):Prop:=∃pv bv ps b,v=.agg #[Y f.l_,.string (bs f.x_),pv,bv]/\f.y_=ps++[b]/\zd F w pv ps/\b.op=[98,108,111,99,107]/\th F w bv b.y_
def CS.h_{G:bL}{w w':aN}{v:aX}(h:CS D w v K)(a:∀b,D b->w'.heap[b]?=w.heap[b]?)(c:∀b,D b->G b):CS G w' v K:=by grind[zd.h_,th.h_,CS]
def Eu(lo:Nat)(w:aN)(v:aX)(f:aC):Prop:=CS (sm lo w.heap.size) w v f
def Eh{L:List (Nat×Obj)}{K:List (Nat×(World->Prop))}{M:List vk}{Q:Ending->World->Prop}{u:Type}{r:bU u}{b:bU (List aC)}(A:Xg (b=if cA C.ts G [40]then kV C.ts (G+1)else Hs.bad C.ts G))(g:Xg (r≠.error 0))(H:Xg (Pg C I L K M N G))(n:∀l,b=.error l->r=.error l)(o:∀l a,Xg (r=.error l/\Fr C.pb I a)->Q (iE 4 l) a) (t:∀l q z c a,Xg (b=.ok (l,q))->Xg (Pg C I L ((H_ N,λV=>Ds (H_ N) V (P_ z (aA l) c) l)::K) M a q)->Q (bR (P_ z (aA l) c)) a):W_ prog 144 #[aY C.pb] N Q:=(K6 C N G H.at_ b A λe=>g (n 0 e)).mono λe a h=>by obtain⟨f,d⟩:=h;have s:=H.at_.wj;cases i:b<;>rw[i]at d;obtain rfl:e=_:=d;exact o _ a ⟨n _ i,H.fr.trans f⟩;obtain⟨y,v,rfl,m⟩:=d;obtain⟨z,c,rfl⟩:=m.slice;have k:=H.h_ f y;refine t _ _ _ _ a i ⟨k.fr,k.at_,k.own,k.Ah,k.pb,λx j=>?_⟩;rcases ew.1 j with rfl|j;exact⟨m,(by grind[zd.h_,Fr.block,Nat.lt_of_lt_of_le,Fr.size,Ds,sm]),s,H.at_.zh,H.fr.size,f.size⟩;exact k.wa x j
def Hj{e d:aX}{t:TypeId}(h:I.heap[G]?=Wy (bO #[J,P,e,d] t)):G<H_ I/\dR I G 0 J/\dR I G 1 P/\dR I G 2 e/\dR I G 3 d/\I.frozen? (aL G 0)=false/\I.frozen? (aL G 1)=false/\I.frozen? (aL G 2)=false/\I.frozen? (aL G 3)=false:=(by grind[aB,aF])
def Ug{o:Obj}{L:List (Nat×Obj)}{c u:Nat}{r:bU aC}{f:aC}{m z y n:aX}(h:uh C I G)(H:Xg (Pg C (I.alloc o) L [(c,λN=>Ds c N J E),(u,λN=>N.heap[H_ I]?=Wy (bO #[m,z,y,n] 185))] [⟨P,K.y_,false⟩] N M))(j:K.op=[98,108,111,99,107])(t:f.y_=E++[K])(v:r=.ok (f,M)):Out C I r (Eu (H_ I)) (bR (.agg #[Y f.l_,Q_ (bs f.x_),J,P])) (c9 (c9 (c9 (c9 N (aL (H_ I) 0) (Y f.l_)) (aL (H_ I) 1) (Q_ (bs f.x_))) (aL (H_ I) 2) J) (aL (H_ I) 3) P):=by have D:=h.wj;have B:=h.zh;have i:H_ I<=H_ I:=Z;have A:=H.wa _ (.head _);have s:=Z;simp at s;have x:(c9 (c9 (c9 (c9 N (aL (H_ I) 0) (Y f.l_)) (aL (H_ I) 1) (Q_ (bs f.x_))) (aL (H_ I) 2) J) (aL (H_ I) 3) P).heap.size=H_ N:=s_;have e:∀k,H_ I<k->(c9 (c9 (c9 (c9 N (aL (H_ I) 0) (Y f.l_)) (aL (H_ I) 1) (Q_ (bs f.x_))) (aL (H_ I) 2) J) (aL (H_ I) 3) P).heap[k]?=N.heap[k]?:=(by grind[ej]);refine Out.ok v ((((((Fr.refl _ I).alloc o).trans H.fr |>.setCell (.inr i) _).setCell (.inr i) _).setCell (.inr i) _).setCell (.inr i) _) ((((H.at_.other Z Z).other Z Z).other Z Z).other Z Z) ⟨J,P,E,K,rfl,t,?_,j,?_⟩;exact A.1.h_ (qp) qp;refine(H.Ah _ (.head _)).many.h_ (λk a=>e k ?_) λk a=>⟨?_,by rw[x];exact a.2⟩<;>(have:=a.1;simp at this;exact Z)
def Vy(C:Ctx)(B:Nat->bU aC)(x:wt C 145 B)(w:aN)(p:Nat)(h:uh C w p)(r:bU aC)(u:r=lW B C.ts p)(e:r≠.error 0):W_ prog 87 #[aY C.pb] w (Out C w r (Eu (H_ w))):=by
 obtain⟨o,L⟩:∃o:Obj,o=bO #[Y 0,Q_ ⟨#[]⟩,bP,bP] 185:=(by simp);have d:Xg (Pg C (w.alloc o) [] [((w.alloc o).heap.size,λV=>V.heap[H_ w]?=Wy o)] [] (w.alloc o) p):=(Pg.new (h.alloc _)).begin (aV _ _ aJ _) λV V' K k=>K.C_ k (by have:=h.wj;exact Z);have m:=O x;have A:=O h;unfold lW at u;have n:=O u;have a:=O e;subst L;clear h u e x;go_in;go_wp;refine vI a d [102,117,110,99] ((by grind[dw,Hs.bad])) (λl D H=>?_) λi X d=>?_;.go_wp;exact⟨aJ,Out.err H.1 (((Fr.refl _ w).alloc _).trans H.2)⟩
 have n:=O (n.trans (ec i));go_wp21;refine zz (t:=aR C.ts (p+1)) a aJ d ((by grind[dw,Hs.bad])) (λl D H=>?_) λi w2 d=>?_;.go_wp;exact⟨aJ,Out.err H.1 (((Fr.refl _ w).alloc _).trans H.2)⟩
 have ⟨s,hrP⟩:∃s,s=if cA C.ts (p+1+1) [40]then kV C.ts (p+1+1+1)else Hs.bad C.ts (p+1+1):=(by simp);have n:Xg (r=bN s λl q=>bV (λb=>aW [102,117,110,99] (aR C.ts (p+1)).l_ (aR C.ts (p+1)).x_ (l++[b])) (B q)):=by grind[dw,bN,Hs.bad]
 have T:=O hrP;have d:=O (d.add (bO #[Y (aR C.ts (p+1)).l_,Q_ (bs (aR C.ts (p+1)).x_)] 181));have ⟨c0,c1,hz⟩:=d.Ad;clear hrP i;go_wp2;go_region_law (first|(go_simp;go_at_call 144;refine Eh T a d.drew ((by grind[dw,bN])) (λl S H=>⟨rfl,Out.err H.1 (((Fr.refl _ w).alloc _).trans H.2)⟩) λl q z c w3 hX y=>?_;have ⟨d0,d1,hz3⟩:=y.Ad)|(go_simp;go_at_call 145;refine Br m a y ((by grind[dw,bV,bN])) (λl S H=>⟨rfl,Out.err H.1 (((Fr.refl _ w).alloc _).trans H.2)⟩) λb q2 P F J W I j=>?_;have ⟨f0,f1,hz4⟩:=j.Ad;have g:=(j.wa _ (.tail _ (.head _))).1;obtain⟨-,Q,G,E,N,y0,y1,y2,y3⟩:=Hj g;have M:=aH g));all_goals go_wp2;apply bodyPost_ret (v:=.agg #[Y (aR C.ts (p+1)).l_,Q_ (bs (aR C.ts (p+1)).x_),P_ z (aA l) c,P_ P F J]) (by simp[results,results87,go_sem,Q,G,E,N]) rfl;exact Ug (f:=aW [102,117,110,99] (aR C.ts (p+1)).l_ (aR C.ts (p+1)).x_ (l++[b])) A j I.out.2 aJ (by grind[dw,bV,bN])
def Ty:(prog.info? 185).map (λi=>(i.zero,i.size,i.bytes))=Wy (Wy (.agg #[Y 0,Q_ (bs []),bP,bP]),4,72):=k_
def KY:Xa->List Xa|.agg a=>a.toList|v=>[v]
def pC:List Xa->List Xa|[]=>[]|v::l=>KY v++pC l
def R7(l:List Xa)(v:aX):pC (l++[v])=pC l++KY v:=by induction l with|nil=>simp[pC]|cons x l a=>simp[pC,a]
def vq(F:bL)(w:aN)(v:aX)(fs:List aC):Prop:=(v=bP/\fs=[])\/∃g cap cur us,v=.slice (Wy (aL g 0)) (aA fs) cap/\F g/\w.heap[g]?=Wy (.cells cur 185)/\aA fs<=cap/\cur.toList.take (aA fs*4)=pC us/\jN (CS F w) us fs
def zm(b_:Nat)(w:aN)(v:aX)(acc:List aC):Prop:=∃us F,w.ownsRow b_ 185 4 v (aA acc) (pC us)/\jN (CS F w) us acc/\∀b,F b->b_<=b/\b<w.heap.size/\v.ownBlock≠Wy b
def zm.nil(a:Nat)(w:aN):zm a w (bP) []:=⟨[],λ_=>False,World.ownsRow_nil _ _ _ _,trivial,s_⟩
def zm.slice{b:Nat}{w:aN}{v:aX}(h:zm b w v E):∃x c,v=.slice x (aA E) c:=by have ⟨vs,F,h1,_⟩:=h;rcases h1.2 with ⟨e,i⟩|⟨g,f,d,e,_⟩;grind;grind
def zm.h_{a:Nat}{w d:aN}{v:aX}(h:zm a w v E)(f:Fr G w d)(i:G<a):zm a d v E:=by have ⟨vs,F,h1,h2,h3⟩:=h;refine⟨vs,F,bE h1 λk j=>?_,h2.mono λ_ _ h=>h.h_ (λb g=>?_) (s_),λb g=>?_⟩;grind[bX,Fr.block,eI];have:=f.size;grind;grind[Fr.block]
def zm.snoc{b_ lo:Nat}{p:aN}{s:List Xa}(x:jN (CS D I) s E)(B:∀b,D b->b_<=b/\b<H_ I/\J.ownBlock≠Wy b) (A:CS (sm lo (H_ I)) I P K) (C:b_<=lo) (o:∀k,J.ownBlock=Wy k->k<lo) (r:∀k,k<H_ I->N.heap[k]?=I.heap[k]?) (z:H_ I<=H_ N) (m:p.ownsRow b_ 185 4 (P_ (Wy (aL G 0)) (aA E+1) M) (aA E+1) (pC s++KY P)) (j:N.grownBy p J.ownBlock) (l:J.ownBlock=Wy G\/H_ I<=G):zm b_ p (P_ (Wy (aL G 0)) (aA E+1) M) (E++[K]):=by
 have u:∀b,(D b\/sm lo (H_ I) b)->b_<=b/\b<H_ I/\J.ownBlock≠Wy b:=by rintro b (c|c);exact B b c;exact⟨by have:=c.1;exact Z,c.2,λe=>by have:=o b e;have:=c.1;exact Z⟩
 have f:∀b,(D b\/sm lo (H_ I) b)->p.heap[b]?=I.heap[b]?:=λb c=>by have i:=u b c;rw[j.block b Z λe=>i.2.2 e.symm,r b i.2.1]
 refine⟨s++[P],λb=>D b\/sm lo (H_ I) b,?_,?_,?_⟩;rw[et,R7];exact m;exact jN.snoc (x.mono λ_ _ h=>h.h_ (λb c=>f b (ea c)) λ_=>ea) (A.h_ (λb c=>f b (dz c)) λ_=>dz);intro b c;have i:=u b c;have:=j.size;refine⟨i.1,Z,λe=>?_⟩;have y:G=b:=fo e;rcases l with l|l;exact i.2.2 (by rw[l,y]);exact Z
def zm.Tz(h:zm G I J E):vq (sm G (H_ I)) I J E:=by have ⟨us,F,h1,h2,h3⟩:=h;rcases h1.2 with ⟨f,e⟩|⟨g,d,c,f,e,j,i,m,l,k⟩;grind[vq];exact dz ⟨g,d,c,us,f,⟨e,G_⟩,j,i,k,h2.mono λ_ _ h=>h.h_ (s_) qp⟩
def Np(a c d:Int)(b:ByteArray)(w:aN):(Instr.field 176 (.agg #[Y a,Q_ b,Y c,Y d]) 0).run prog w=.ok (Y a) w:=k_
def Mg{t:bH}(h:oP t):(tu t.c_=4↔t.c_=101):=by grind[tu]
def Jv(w:aN)(a b c d:aX):∀j u,([a,b,c,d]:List Xa)[j]?=Wy u->I_ (eF w #[a,b,c,d] 185) ((⟨H_ w,0,none⟩:Addr).add j)=Wy u:=by intro j u e;match j,e with|0,e=>simp at e;subst e;simp[Addr.add]|1,e=>simp at e;subst e;simp[Addr.add]|2,e=>simp at e;subst e;simp[Addr.add]|3,e=>simp at e;subst e;simp[Addr.add]|j+4,e=>simp at e
def Ns(l:Int)(b:ByteArray)(x y:Option Addr)(n m c d:Nat):∀u∈([Y l,Q_ b,P_ x n c,P_ y m d]:List Xa),u.oneCell'=true:=by intro u a;simp at a;rcases a with rfl|rfl|rfl|rfl<;>rfl
def X9(C:Ctx)(X:Nat->bU aC)(w:aN)(r:bU (List aC))(k:Nat)(v:aX)(wr:aN):Prop:=Fr C.pb w wr/\∃q acc,uh C wr q/\r=fS X C.ts k q acc/\aA acc+k<=4000/\zm w.heap.size wr v acc
def p9(lo:Nat)(w':aN)(v:aX)(l:List aC):Prop:=vq (sm lo w'.heap.size) w' v l
def Jd(C:Ctx)(X:Nat->bU aC)(HX:∀w p,uh C w p->X p≠.error 0->W_ prog 87 #[aY C.pb] w (Out C w (X p) (Eu (H_ w))))(w:aN)(p:Nat)(h:uh C w p)(r:bU (List aC))(hr:r=fS X C.ts (aA C.ts+1) p [])(n:r≠.error 0):W_ prog 49 #[aY C.pb] w (Out C w r (p9 (H_ w))):=by
 have ⟨i0,hi,hz0,hz1,hz2⟩:=info_parts Ty;have af:=h.len;have d:=h.wj;have ae:=h.zh;have HI:Xg (X9 C X w r (aA C.ts+1) (bP) w):=⟨Fr.refl _ _,p,[],h,hr,G_,zm.nil _ _⟩;have P:=O n;have W:=O HX;have ap:=Np;clear h hr n HX;go_in;go_wp2;go_loopg [3] (aA C.ts+1) (λk v wr=>X9 C X w r k v wr);case atStart=>exact HI
 case round=>
  have ⟨hf4,q4,acc,hp4,hr4,hal,hls⟩:=hrel;obtain⟨x4,c4,rfl⟩:=hls.slice;have j:=O (rF C wr q4 hp4);simp[tK]at j;have z:=Mg (hp4.Cs.tk q4 hp4.lt);have u:=O hf4;have s:=O hls;have o:=O hp4;have au:=hf4.size;obtain⟨k,rfl⟩:∃k,gk=k+1:=by cases gk with|zero=>exact ep hr4 P|succ k=>simp
  rw[fS]at hr4;have al:=O hr4;have ab:=O z;clear hr4 z;generalize aR C.ts q4=t at*;generalize tu t.c_=ps at*;generalize vp t=pv at*;by_cases hs:t.c_=101;.have HL:Xg (r=.ok (acc,q4)):=G_;obtain rfl:ps=4:=ab.2 hs;go_wp;refine sa j λD b=>?_;have m:=O b;go_wp2;go_ret;exact Out.ok HL (u.trans (Fr.below m)) (o.below m) (s.h_ (Fr.below m) d).Tz
  have aq:((ps:Int) !=4)=true:=by grind[dw]
  have ⟨B,hrE⟩:∃B,B=X q4:=(by simp);have A:Xg (r=bN B λi q=>fS X C.ts k q (acc++[i])):=by grind[bN]
  have I:X q4≠.error 0:=(by grind[dw]);have ad:=O hrE;go_wp;refine sa j λD b=>?_;have S:=O (W D q4 (o.below b) I);simp only[<-ad.out]at S;have y:=O (u.trans (Fr.below b));have Q:=O (s.h_ (Fr.below b) d);have an:=b.size;cases B with|error l=>go_wp21;apply S.mono;rintro e J ⟨c,rfl⟩;go_wp;exact⟨aJ,Out.err A (y.trans c)⟩|ok V=>
   have ⟨a6,q6⟩:=V;have aj:=A.out;go_wp21;apply S.mono;rintro e J ⟨c,M,v6,rfl,x⟩;have L:=O x;obtain⟨av,am,H,b6,G,-,ac,-,N⟩:=x;obtain⟨x7,c7,rfl⟩:=ac.slice;obtain⟨x8,c8,rfl⟩:=N.slice;subst G;have ⟨us,F,hown,hall,hFF⟩:=Q.h_ c d;have aa:∀g,(Value.slice x4 (aA acc) c4).ownBlock=Wy g->g<H_ D:=by grind[eI,zm]
   have E:=O aa;have T:=O (y.trans c);have K:=O M;have HALL:=O (du hall hFF);have ak:=c.size;have hge:=bX hown;go_wp2_with (at_builtin;refine wpList_append_lies _ r_ _ _ 46 r_ (H_ w) 185 i0 _ 4 72 underlying46 hi hz0 hz1 hz2 rfl d_ _ _ _ r_ (hown.alloc _) (aL (H_ J) 0) 1 1 [Y a6.l_,Q_ (bs a6.x_),P_ x7 (aA H) c7,P_ x8 (aA b6.y_) c8] r_ r_ (Jv _ _ _ _ _) (Ns _ _ _ _ _ _ _ _) d_ lg Z la (H_ J+1) s_ ?_);intro g7 ah w9 f a ag aw;have ao:=O (zm.snoc (lo:=H_ D) HALL.1 HALL.2 L Z E (λk hk=>ed _ _ _ hk) s_ f a (G_));have ai:=O ((K.alloc _).grown (b_:=H_ w) a hge d ae);have ar:=O ((T.alloc _).grown a hge);go_wp2;go_roundg k;case measure=>exact Z
   grind[dw,X9]
def WA(C:Ctx)(w:aN)(h:uh C w 0)(a:lC C.ts≠.error 0):W_ prog 49 #[aY C.pb] w (Out C w (lC C.ts) (p9 (H_ w))):=Jd C _ (λw p h b=>Vy C _ ((by grind[QC])) w p h _ rfl b) w 0 h _ rfl a
def wY(l:Nat)(w:aN):W_ prog 146 #[.agg #[Y l]] w λe a=>e=bR (Y l)/\R_ w a:=by go_in;go_wp2;go_ret;exact⟨aJ,mn⟩
def An(n:Int)(l:cY)(x:bQ):Prop:=decide (0<=n)=l.contains x
def P9(l:cY)(x:bQ)(g b:Nat)(w:aN)(s:aA l<=100000)(_hlc:aA l<=b)(f:∀i (h:i<aA l),dR w g i (Q_ (bs l[i]))):W_ prog 250 #[P_ (Wy (aL g 0)) (aA l) b,Q_ (bs x)] w λe j=>(∃n:Int,e=bR (Y n)/\An n l x)/\j=w:=by
 have hx:=bA x;have o:=O f;clear f;go_in;go_wp2;go_loop [5,8] (λ_ i=>∃k:Nat,k<=aA l/\i=Y k/\Xg (∀y∈l.take k,y≠x)) (λ_ i=>aA l-(intOf i).toNat);case atStart=>exact⟨0,Z,rfl,λy d=>by simp at d⟩
 case round=>
  obtain⟨k,p,rfl,t⟩:=hrel;by_cases a:k<aA l
  .have c:=o k a;have hget:=ga a;have u:Xg (∀y∈l.take (k+1),y∈l.take k\/y=l[k]):=λy d=>by grind[List.take_succ_eq_append_getElem]
   have q:=O hget;generalize l[k]=y at*;have d:=bA y;cases m:(x==y);have HF:Xg (∀z∈l.take (k+1),z≠x):=λz r=>by grind[dw]
   exact TV;have HF:Xg (l.contains x=true):=by grind
   go_wp2;go_ret;exact⟨⟨k,aJ,by grind[An]⟩,rfl⟩
  have HF:Xg (l.contains x=false):=by grind[dw]
  go_wp2;go_ret;exact⟨⟨-1,aJ,by grind[An,dw]⟩,rfl⟩
def Q0(x:bQ)(w:aN):W_ prog 250 #[bP,Q_ (bs x)] w λe a=>(∃n:Int,e=bR (Y n)/\An n [] x)/\a=w:=by
 go_in;go_wp2;go_loop [5,8] (λ_ i=>i=Y 0) (λ_ _=>0);case atStart=>rfl
 case round=>go_wp2;go_ret;exact⟨⟨-1,aJ,aJ⟩,aJ⟩
def CE(l:cY)(x:bQ)(v:aX)(b:Nat)(w:aN)(m:aA l<=100000)(a:w.ownsRow b 9 1 v (aA l) (kE l)):W_ prog 201 #[v,Q_ (bs x)] w λe c=>e=bR (.bool (l.contains x))/\c=w:=by
 have f:Xg (W_ prog 250 #[v,Q_ (bs x)] w λe c=>(∃n:Int,e=bR (Y n)/\An n l x)/\c=w):=by
  rcases a.2 with ⟨rfl,u⟩|⟨g,d,k,rfl,t,p,j,z,B,y⟩;obtain rfl:l=[]:=(by grind);exact Q0 x w;refine P9 l x g d w m j λi q=>aB p ?_;have e:(kE l)[i]?=Wy (Q_ (bs l[i])):=by simp[kE,q]
  grind
 go_in;go_wp;apply f.mono;rintro e s ⟨⟨n,rfl,r⟩,A⟩;have o:=O r;go_wp2;go_ret;exact⟨gO o,aJ⟩
def pO(fs:List aC)(x:bQ):Option Nat:=if x==[108,101,110]then Wy 1 else if x==[114,101,97,100]then Wy 0 else (dG fs x).map λf=>aA f.y_-1
def PS:∀{c:List Xa}{a:List aC} (k:Nat) (i:k<aA a),jN (CS D I) c a->∃d g e b,(pC c)[k*4]?=Wy (Y a[k].l_)/\(pC c)[k*4+1]?=Wy (Q_ (bs a[k].x_))/\(pC c)[k*4+1+1]?=Wy d/\(pC c)[k*4+1+1+1]?=Wy g/\a[k].y_=e++[b]/\zd D I d e/\b.op=[98,108,111,99,107]/\th D I g b.y_|[],[],k,i,_=>(by grind)|_::c,f::a,0,_,⟨⟨d,g,e,b,j,m,r,o,p⟩,_⟩=>by subst j;exact⟨d,g,e,b,aJ,aJ,aJ,aJ,m,r,o,p⟩|_::c,f::a,k+1,i,⟨⟨d,g,e,b,j,_⟩,h⟩=>by obtain⟨l,n,q,t,v,u,x,y,s⟩:=PS k G_ h;grind[pC,KY]|[],_::_,_,_,h=>h.elim|_::_,[],_,i,_=>(by grind)
def LM(F:bL)(w:aN)(g:Nat)(fs:List aC):Prop:=∀k (hk:k<aA fs),∃pv bv ps b,I_ w (aL g (k*4))=Wy (Y fs[k].l_)/\I_ w (aL g (k*4+1))=Wy (.string (bs fs[k].x_))/\I_ w (aL g (k*4+1+1))=Wy pv/\I_ w (aL g (k*4+1+1+1))=Wy bv/\fs[k].y_=ps++[b]/\zd F w pv ps/\b.op=[98,108,111,99,107]/\th F w bv b.y_
theorem vq.cells{F:bL}{w:aN}{v:aX}(h:vq F w v E):(v=bP/\E=[])\/∃g a,v=.slice (Wy (aL g 0)) (aA E) a/\F g/\g<w.heap.size/\aA E<=a/\LM F w g E:=by rcases h with h|⟨g,a,d,m,l,i,o,j,n,e⟩;grind;refine dz ⟨g,a,l,i,G_,j,λk f=>?_⟩;have ⟨pv,bv,ps,b,e1,e2,e3,e4,e5⟩:=PS k f e;grind[aB]
def Qa{x:bQ}(c:G<aA E)(e:∀f∈E.take G,f.x_≠x)(d:E[G].x_=x):dG E x=Wy E[G]:=by unfold dG;have b:E=E.take G++E[G]::E.drop (G+1):=s_;grind
theorem Jb{x:bQ}(b:∀f∈E,f.x_≠x):dG E x=none:=by grind[dG]
def Lq(a:List aC)(F:bL)(x:bQ)(g l:Nat)(w:aN)(Q:aA a<=100000)(s:∀f∈a,aA f.y_<=90000)(_hlc:aA a<=l)(t:g<w.heap.size)(J:LM F w g a)(E:(x==[108,101,110])=false)(v:(x==[114,101,97,100])=false):W_ prog 88 #[P_ (Wy (aL g 0)) (aA a) l,Q_ (bs x)] w λe A=>e=bR (.tuple #[Y ((pO a x).getD 0:Nat),.bool (pO a x).isSome])/\R_ w A:=by
 have hx:=bA x;have G:=O J;have I:=O s;have T:Xg (pO a x=(dG a x).map λf=>aA f.y_-1):=by grind[pO]
 go_in;go_wp2;go_loopg [7,15] (aA a) (λgk _ i wr=>∃k:Nat,k+gk=aA a/\i=Y k/\R_ w wr/\Xg (∀f∈a.take k,f.x_≠x));case atStart=>exact⟨0,Z,rfl,dv _ _,λy r=>by simp at r⟩
 case round=>
  obtain⟨k,M,rfl,m,H⟩:=hrel;have hgr:=eh t m.size;by_cases c:k<aA a
  .obtain⟨j,rfl⟩:∃j,gk=j+1:=⟨gk-1,Z⟩;have ⟨pv,bv,ps,b,c0,c1,c2,c3,hkids,hps,hbo,hbk⟩:=G k c;obtain⟨L,S,rfl⟩:=hps.slice;obtain⟨K,N,rfl⟩:=hbk.slice;have d:∀o u,I_ w (aL g o)=Wy u->I_ wr (aL g o)=Wy u:=λo u h=>(m.cell (p:=(aL g o)) t).trans h;have hget:=ga c;have V:Xg (∀y∈a.take (k+1),y∈a.take k\/y=a[k]):=λy r=>by grind[List.take_succ_eq_append_getElem]
   have C:Xg (a[k].x_=x->dG a x=Wy a[k]):=λe=>Qa c H e;have B:aA ps+1=a[k].y_.length:=G_;have q:=O m;generalize a[k]=f at*;have r:(bs f.x_).toList=f.x_:=bA _;cases D:(f.x_==x)
   .have n:Xg (∀z∈a.take (k+1),z.x_≠x):=λz P=>by grind[dw]
    go_wp2;go_roundg j;case measure=>exact Z
    grind[eo,dw,Below.size]
   have n:Xg (pO a x=Wy (aA ps)):=by grind[dw]
   go_wp2;go_ret2;rw[n];exact⟨aJ,q.alloc q.size _⟩
  have n:Xg (pO a x=none):=by grind[dw,Jb,List.take_of_length_le]
  have q:=O m;go_wp2;go_ret2;rw[n];exact⟨aJ,q⟩
def Me(x:bQ)(w:aN)(b:(x==[108,101,110])=false)(a:(x==[114,101,97,100])=false):W_ prog 88 #[bP,Q_ (bs x)] w λe c=>e=bR (.tuple #[Y ((pO [] x).getD 0:Nat),.bool (pO [] x).isSome])/\R_ w c:=by
 have hx:=bA x;have d:Xg (pO [] x=none):=by unfold pO;rw[b,a];rfl
 go_in;go_wp2;go_loop [7,15] (λ_ i=>i=Y 0) (λ_ _=>0);case atStart=>rfl
 case round=>go_wp2;go_ret2;rw[d];exact⟨aJ,dv _ _⟩
def JU(v:aX)(x:bQ)(w:aN)(n:Nat)(a:List aC)(c:(x=[108,101,110]/\n=1)\/(x=[114,101,97,100]/\n=0)):W_ prog 88 #[v,Q_ (bs x)] w λe b=>e=bR (.tuple #[Y ((pO a x).getD 0:Nat),.bool (pO a x).isSome])/\R_ w b:=by
 rcases c with ⟨rfl,rfl⟩|⟨rfl,rfl⟩;.simp [bs];go_in;go_wp2;go_ret2;exact⟨aJ,dv _ _⟩
 simp [bs];go_in;go_wp2;go_ret2;exact⟨aJ,dv _ _⟩
def JV(a:List aC)(F:bL)(v:aX)(x:bQ)(w:aN)(k:aA a<=100000)(d:∀f∈a,aA f.y_<=90000)(h:vq F w v a):W_ prog 88 #[v,Q_ (bs x)] w λe i=>e=bR (.tuple #[Y ((pO a x).getD 0:Nat),.bool (pO a x).isSome])/\R_ w i:=by by_cases n:x=[108,101,110];exact JU v x w 1 a (G_);by_cases m:x=[114,101,97,100];exact JU v x w 0 a (G_);rcases h.cells with ⟨rfl,rfl⟩|⟨g,c,rfl,o,j,b,l⟩;exact Me x w G_ G_;exact Lq a F x g c w k d b j l G_ G_
