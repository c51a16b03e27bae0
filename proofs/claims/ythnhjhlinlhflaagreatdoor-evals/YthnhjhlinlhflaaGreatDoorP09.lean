import Derived.Test.YthnhjhlinlhflaaGreatDoorP08
import Derived.Test.YthnhjhlinlhflaaGreatDoorP05
set_option linter.all false
set_option maxRecDepth 100000
set_option maxHeartbeats 0
open List renaming length->aA
open Go.World renaming setCell->c9,cell?->i9
open Option renaming some->Wj
open Go renaming Calls->Wn,Value->Wo
open Go.RowKit renaming Hid->Wu
namespace Go.Proofs.YthnhjhlinlhflaaGreatDoor
open Hs _root_.Go.Proofs.Tryz Go.RowKit
variable{C:Ctx}{E:List aC}{G M:Nat}{K:aC}{I N:aL}{J P:aU}{D:bI}
def DA(lo:Nat)(w':aL)(v:aU)(b:aC):Prop:=b.op=[98,108,111,99,107]/\sy (si lo w'.heap.size) w' v b.y_
def Fa(C:Ctx)(w:aL)(r:bN aC)(e:Ending)(w':aL):Prop:=Out C w r (DA w.heap.size) e w'
def wb(C:Ctx)(F:Nat)(X:Nat->bN aC):Prop:=∀w p,ud C w p->X p≠.error 0->Wn prog F #[aW C.pb] w (Fa C w (X p))
def CM(B:Nat->bN aC)(ts:List bE)(q:Nat):bN (Option aC):=if bX ts q [101,108,115,101]then bQ Wj (B (q+1))else .ok (none,q)
def Rr(lo:Nat)(w':aL)(v:aU):Option aC->Prop|none=>v=bR|some b=>DA lo w' v b
def Rt(E B:Nat->bN aC)(a:List bE)(p:Nat):AT E B a p=bK (E (p+1)) λc q=>bK (B q) λb d=>bQ (λo=>aV [105,102] (aP a p).l_ [] (c::b::o.toList)) (CM B a d):=by unfold AT;cases E (p+1)with|error l=>rfl|ok f=>have ⟨c,q⟩:=f;show bK (B q) _=bK (B q) _;cases B q with|error l=>rfl|ok e=>have ⟨b,d⟩:=e;show (if _ then _ else _)=bQ _ (CM B a d);unfold CM;split;cases B (d+1)<;>rfl;rfl
section
variable {C:Ctx} {w W:aL} {L:List (Nat × Obj)} {K:List (Nat × (World->Prop))} {M:List vg} {p:Nat} {Q:Ending->World->Prop} {α:Type} {r:bN α} {B:Nat->bN aC}
def Bs{f:Nat}(t:Wu (wb C f B))(g:Wu (r≠.error 0))(H:Wu (Pg C w L K M W p))(o:∀l,B p=.error l->r=.error l)(s:∀l a,Wu (r=.error l/\Fr C.pb w a)->Q (gE 4 l) a) (x:∀b q z n c a,Wu (B p=.ok (b,q)/\b.op=[98,108,111,99,107])->Wu (Pg C w L K (⟨P_ z n c,b.y_,false⟩::M) a q)->Q (bP (P_ z n c)) a):Wn prog f #[aW C.pb] W Q:=(t W p H.at_ λe=>g (o 0 e)).mono λe a h=>by obtain⟨k,d⟩:=h;cases i:B p<;>rw[i]at d;obtain rfl:e=_:=d;exact s _ a ⟨o _ i,H.fr.trans k⟩;obtain⟨y,v,rfl,u,m⟩:=d;obtain⟨z,c,rfl⟩:=m.slice;exact x _ _ _ _ _ a ⟨i,u⟩ ((H.j_ k y).put (.list (m.j_ (s_) λb j=>⟨em H.fr.size j.1,j.2⟩)))
def RK(k:Wu (wb C 144 B))(h:ud C w p){r:bN (Option aC)}(e:Wu (r=CM B C.ts p))(f:Wu (r≠.error 0)):Wn prog 247 #[aW C.pb] w (Out C w r (Rr (H_ w))):=by
 have d:=O (Pg.new h);unfold CM at e;go_in;go_wp;refine oW d [101,108,115,101] (λi j d=>?_) λi j d=>?_;.have e:=O (e.trans (ec i));go_wp21;refine Bs k f d ((by grind[dz,bQ])) (λl m H=>?_) λb q z n c m g d=>?_;exact⟨i_,Out.err H.1 H.2⟩;go_wp2;go_ret;exact Out.ok (a:=Wj b) (by rw[e,g.out.1];rfl) d.fr d.at_ ⟨g.out.2,(d.Af _ (.head _)).many⟩
 go_wp2;go_ret;exact Out.ok (a:=none) (mz) d.fr d.at_ rfl
def DS(y:Wu (wb C 144 B))(j:Wu (r≠.error 0))(H:Wu (Pg C w L K M W p))(u:∀l,CM B C.ts p=.error l->r=.error l)(x:∀l a,Wu (r=.error l/\Fr C.pb w a)->Q (gE 4 l) a) (s:∀o q z n c a,Wu (CM B C.ts p=.ok (o,q)/\(o=none->Value.slice z n c=bR)/\∀b,o=Wj b->b.op=[98,108,111,99,107])->Wu (Pg C w L K (⟨P_ z n c,(o.map (·.y_)).getD [],false⟩::M) a q)->Q (bP (P_ z n c)) a):Wn prog 247 #[aW C.pb] W Q:=(RK y H.at_ rfl λe=>j (u 0 e)).mono λe a h=>by obtain⟨g,d⟩:=h;cases i:CM B C.ts p with|error l=>rw[i]at d;obtain rfl:e=_:=d;exact x _ a ⟨u _ i,H.fr.trans g⟩|ok A=>obtain⟨o,q⟩:=A;rw[i]at d;obtain⟨t,v,rfl,f⟩:=d;cases o with|none=>obtain rfl:v=_:=f;exact s _ _ _ _ _ a ⟨i,s_,s_⟩ ((H.j_ g t).put (.list (.inl s_)))|some b=>obtain⟨f,m⟩:DA _ _ _ _:=f;obtain⟨z,c,rfl⟩:=m.slice;exact s _ _ _ _ _ a ⟨i,s_,G_⟩ ((H.j_ g t).put (.list (m.j_ (s_) λb k=>⟨em H.fr.size k.1,k.2⟩)))
end
def J_(C:Ctx)(E B:Nat->bN aC)(J:sm C 176 E)(P:wb C 144 B):sm C 199 (kE E B C.ts):=by
 intro w p h s;have y:=O J;have u:=O P;have v:=O (YC C E J);have L:=O (I7 C E J);have f:=O (Pg.new h);have ⟨r,hr⟩:∃r,r=kE E B C.ts p:=⟨_,rfl⟩;rw[<-hr]at s⊢;rw[kE,Rt]at hr;unfold sT xZ pX yC at hr;simp only[Fe]at hr;have g:=O hr;have j:=O s;clear h J P s hr;go_in;go_wp2_with fail;refine Aa (t:=aP C.ts p) i_ f λV f=>?_;have f:=O (f.add (bM #[Y (aP C.ts p).l_] 178));go_wp2_with fail;refine oW f [118,97,114] (λi F f=>?_) λi F f=>?_
 .have g:=O (g.trans (ec i));go_wp2_with fail;refine Ab (t:=aP C.ts (p+1)) j i_ f (λi=>by rw[g,i];rfl) (λl A H=>?_) λi N f=>?_;.go_wp2_with fail;exact⟨i_,Out.err H.1 H.2⟩
  have g:=O (g.trans (ec i));have f:=O (f.add (bM #[Y (aP C.ts (p+1)).l_,Q_ (bs (aP C.ts (p+1)).x_)] 180));go_wp21;refine vS j f [61] (λi=>by rw[g,i];rfl) (λl A H=>?_) λi K f=>?_;.go_wp;exact⟨i_,Out.err H.1 H.2⟩
  have g:=O (g.trans (ec i));have ⟨m0,m1,hz⟩:=f.z_;have G:=aB (i:=0) (f.own _ (.tail _ (.head _))).1 i_;have hy:=aH (f.own _ (.tail _ (.head _))).1;go_wp2;go_region_law (go_simp;go_at_call 246;refine vp v j f.drew (λl e=>by rw[g];exact ey _ e) (λl m H=>⟨i_,Out.err H.1 H.2⟩) λa q T D m k f=>?_;have ⟨d0,d1,hz9⟩:=f.z_;have U:=aB (i:=0) (f.own _ (.tail _ (.head _))).1 i_;have S:=aH (f.own _ (.tail _ (.head _))).1);all_goals go_wp2;go_ret;exact f.ret qs (.inr (.inr (.inr (.inr (.inr (.inr (.inr (.inr (.inr (.inl ⟨i_,_,aV [116,97,114,103,101,116] (aP C.ts (p+1)).l_ (aP C.ts (p+1)).x_ [],_,i_,i_,i_,i_⟩))))))))))
 have g:=O (g.trans (dy oa));go_wp21;refine oW f [105,102] (λi N f=>?_) λi N f=>?_
 .have g:=O (g.trans (ec i));go_wp21;refine vp y j f (λl e=>by rw[g,e];rfl) (λl F H=>?_) λa q T D K k f=>?_;.go_wp;exact⟨i_,Out.err H.1 H.2⟩
  go_wp21;refine Bs u j f (λl e=>by rw[g,k.out];simp[bK,e]) (λl F H=>?_) λb Q z n c M x f=>?_;.go_wp;exact⟨i_,Out.err H.1 H.2⟩
  have g:Wu (r=bQ (λo=>aV [105,102] (aP C.ts p).l_ [] (a::b::o.toList)) (CM B C.ts Q)):=by show _=_;rw[g,k.out];simp[bK,x.out.1]
  have ⟨G,hz⟩:=f.yr;go_wp2;go_region_law (go_simp;go_at_call 247;refine DS u j f.drew (λl e=>by rw[g,e];rfl) (λl m H=>⟨rfl,Out.err H.1 H.2⟩) λo q3 X n2 c2 m I f=>?_;have ⟨d0,hz9⟩:=f.yr);all_goals go_wp2;go_ret;cases o with|none=>cases I.out.2.1 rfl;exact f.ret (by rw[g,I.out.1];rfl) (.inr (.inr (.inr (.inr (.inr (.inr (.inr (.inr (.inr (.inr (.inr (.inl ⟨rfl,_,_,a,b,rfl,rfl,x.out.2,rfl,rfl⟩))))))))))))|some d=>exact f.ret (by rw[g,I.out.1];rfl) (.inr (.inr (.inr (.inr (.inr (.inr (.inr (.inr (.inr (.inr (.inr (.inr (.inl ⟨rfl,_,_,_,a,b,d,rfl,rfl,x.out.2,I.out.2.2 d rfl,rfl,rfl⟩)))))))))))))
 have g:=O (g.trans (dy oa));go_wp21;refine oW f [119,104,105,108,101] (λi K f=>?_) λi K f=>?_
 .have g:=O (g.trans (ec i));go_wp21;refine vp y j f (λl e=>by rw[g,e];rfl) (λl F H=>?_) λa q T D M k f=>?_;.go_wp;exact⟨i_,Out.err H.1 H.2⟩
  have g:Wu (r=bQ (λb=>aV [119,104,105,108,101] (aP C.ts p).l_ [] [a,b]) (B q)):=by show _=_;rw[g,k.out];rfl
  have ⟨G,hz⟩:=f.yr;go_wp2;go_region_law (go_simp;go_at_call 144;refine Bs u j f.drew (λl e=>by rw[g,e];rfl) (λl m H=>⟨rfl,Out.err H.1 H.2⟩) λb Q z n c m x f=>?_;have ⟨d0,hz9⟩:=f.yr);all_goals go_wp2;go_ret;exact f.ret (by rw[g,x.out.1];rfl) (.inr (.inr (.inr (.inr (.inr (.inr (.inr (.inr (.inr (.inr (.inr (.inr (.inr (.inl ⟨rfl,_,_,a,b,rfl,rfl,x.out.2,rfl,rfl⟩))))))))))))))
 have g:=O (g.trans (dy oa));go_wp21;refine oW f [114,101,116,117,114,110] (λi M f=>?_) λi M f=>?_
 .have g:=O (g.trans (ec i));go_wp21;refine oW f [59] (λi A f=>?_) λi A f=>?_;.have ⟨G,hz⟩:=f.yr;go_wp2;go_ret;exact f.ret (g.trans (ec i)) (.inr (.inr (.inr (.inr (.inr (.inr (.inr (.inr (.inr (.inr (.inr (.inr (.inr (.inr (.inl ⟨i_,_,i_,i_,i_,i_⟩)))))))))))))))
  have g:=O (g.trans (dy oa));have ⟨G,hz⟩:=f.yr;go_wp2;go_region_law (go_simp;go_at_call 246;refine vp v j f.drew (λl e=>by rw[g];exact ey _ e) (λl m H=>⟨i_,Out.err H.1 H.2⟩) λa q T D m k f=>?_;have ⟨d0,hz9⟩:=f.yr);all_goals go_wp2;go_ret;exact f.ret qs (.inr (.inr (.inr (.inr (.inr (.inr (.inr (.inr (.inr (.inr (.inr (.inr (.inr (.inr (.inr (.inl ⟨i_,_,_,i_,i_,i_,i_⟩))))))))))))))))
 have g:=O (g.trans (dy oa));go_wp21;refine oW f [112,114,105,110,116] (λi A f=>?_) λi A f=>?_;.have g:=O (g.trans (ec i));have ⟨G,hz⟩:=f.yr;go_wp2;go_region_law (go_simp;go_at_call 246;refine vp v j f.drew (λl e=>by rw[g];exact ey _ e) (λl m H=>⟨i_,Out.err H.1 H.2⟩) λa q T D m k f=>?_;have ⟨d0,hz9⟩:=f.yr);all_goals go_wp2;go_ret;exact f.ret qs (.inr (.inr (.inr (.inr (.inr (.inr (.inr (.inr (.inr (.inr (.inr (.inr (.inr (.inr (.inr (.inr (.inl ⟨i_,_,_,i_,i_,i_,i_⟩)))))))))))))))))
 have g:=O (g.trans (dy oa));go_wp21;refine vp L j f (λl e=>g.trans e) (λl F H=>?_) λa q T D W k f=>?_;.go_wp;exact⟨i_,Out.err H.1 H.2⟩
 go_wp2;go_ret;exact f.one (g.trans k)
def X4(C:Ctx)(S:Nat->bN aC)(s:sm C 199 S):wb C 144 (λp=>if bX C.ts p [123]then bQ (aV [98,108,111,99,107] (aP C.ts p).l_ []) (aQ C.ts [125] (eX S C.ts (aA C.ts+1) (p+1) []))else Hs.bad C.ts p):=by
 intro w p h j;have n:=O s;have b:=O (Pg.new h).open;have o:=h.len;revert j;show (ite _ _ _:bN aC)≠_->Wn _ _ _ _ (Fa C w (ite _ _ _));generalize hr:(if bX C.ts p [123]then bQ (aV [98,108,111,99,107] (aP C.ts p).l_ []) (aQ C.ts [125] (eX S C.ts (aA C.ts+1) (p+1) []))else Hs.bad C.ts p)=r;intro j;have f:=O hr.symm;have HNE:=O j;clear h s j hr;go_in;go_wp2_with fail;refine vS HNE b [123] (λi=>by rw[f,i];rfl) (λl F H=>?_) λi D b=>?_;.go_wp2_with fail;exact⟨i_,Out.err H.1 H.2⟩
 have f:=O (f.trans (ec i));go_wp2;go_loopg [3] (aA C.ts+1) (λk v wr=>∃q d,Pg C w [] [Nl (H_ w) v d] [] wr q/\aA d+k<=4000/\r=bQ (aV [98,108,111,99,107] (aP C.ts p).l_ []) (aQ C.ts [125] (eX S C.ts k q d)));case atStart=>exact⟨_,_,b,ku,f⟩
 case round=>
  obtain⟨q,d,m,z,hr⟩:=hrel;obtain⟨x,c,rfl⟩:=m.sl;obtain⟨k,rfl⟩:∃k,gk=k+1:=by exact BB
  rw[eX]at hr;have b:=O m;have f:=O hr;clear m hr;go_wp21;refine oW b [125] (λi B b=>?_) λi B b=>?_;.go_wp2;go_ret;exact Out.ok (a:=aV _ _ [] d) (by rw[f,ec i.out,rY i];rfl) b.fr b.at_ ⟨rfl,b.lk⟩
  have hr:=f.out;rw[dy oa]at hr;have f:=O hr;clear hr;go_wp21;refine l7 n HNE b (λl e=>by rw[f,e];rfl) (λl A H=>?_) λa q T G A t y=>?_;.go_wp;exact⟨i_,Out.err H.1 H.2⟩
  go_wp2_with (at_builtin;refine p7 y Z s_ _ _ λg u E b=>?_);go_wp2;go_roundg k;case measure=>exact Z
  case rel=>exact⟨_,_,b,ku,by rw[f,t.out]⟩
theorem QT(C:Ctx)(f:Nat):∀g,wb C 144 (iP (gK C.ts f) C.ts g)|0=>λ_ _ _ a=>ep rfl a|g+1=>λw p h a=>X4 C (kE (gK C.ts f) (iP (gK C.ts f) C.ts g) C.ts) (J_ C _ _ (EI C f) (QT C f g)) w p h a
def PJ:(prog.info? 180).map (λi=>(i.zero,i.size,i.bytes))=Wj (Wj (.agg #[Y 0,Q_ (bs [])]),2,24):=k_
def Bg:List aC->List Wo|[]=>[]|a::l=>Y a.l_::.string (bs a.x_)::Bg l
def Pa(l:List aC)(a:aC):Bg (l++[a])=Bg l++[Y a.l_,Q_ (bs a.x_)]:=by induction l with|nil=>rfl|cons x l b=>simp[Bg,b]
def y8(F:bI)(w:aL)(v:aU)(l:List aC):Prop:=(∀a∈l,a.op=[112,97,114,97,109])/\((v=bR/\l=[])\/∃g cap cur,v=.slice (Wj (aJ g 0)) (aA l) cap/\F g/\w.heap[g]?=Wj (.cells cur 180)/\aA l<=cap/\cur.toList.take (aA l*2)=Bg l)
theorem y8.j_{F:bI}{w w':aL}{v:aU}(h:y8 F w v E)(k:∀b,F b->w'.heap[b]?=w.heap[b]?)(j:∀b,F b->D b):y8 D w' v E:=by obtain⟨d,h|⟨g,c,a,i,e,m,f⟩⟩:=h;exact⟨d,ea h⟩;exact⟨d,dv ⟨g,c,a,i,j g e,G_,f⟩⟩
def y8.slice{F:bI}{w:aL}{v:aU}{l:List aC}(h:y8 F w v l):∃x c,v=.slice x (aA l) c:=by grind[y8]
def zz(b_:Nat)(w:aL)(v:aU)(acc:List aC):Prop:=(∀a∈acc,a.op=[112,97,114,97,109])/\w.ownsRow b_ 180 2 v (aA acc) (Bg acc)
theorem zz.nil(a:Nat)(w:aL):zz a w (bR) []:=⟨s_,World.ownsRow_nil _ _ _ _⟩
def zz.slice{b:Nat}{w:aL}{v:aU}(h:zz b w v E):∃x c,v=.slice x (aA E) c:=by rcases h.2.2 with ⟨e,i⟩|⟨g,f,d,e,_⟩;grind;grind
theorem zz.j_{a d:Nat}{w:aL}{v:aU}{b:List aC}(h:zz a w v b)(g:Fr d w I)(f:d<a):zz a I v b:=by refine⟨h.1,aX h.2 λk e=>?_⟩;have:=cA h.2 k e;grind[Fr.block,dT,zz]
def zz.nm(h:zz G I J E):y8 (si G (H_ I)) I J E:=by rcases h.2.2 with ⟨f,e⟩|⟨g,d,c,f,e,j,i,m,l,k⟩;grind[y8];exact⟨h.1,dv ⟨g,d,c,f,⟨e,G_⟩,j,i,k⟩⟩
def Lq(w:aL)(a b:aU):∀j u,([a,b]:List Wo)[j]?=Wj u->i9 (dZ w #[a,b] 180) ((⟨H_ w,0,none⟩:Addr).add j)=Wj u:=by intro j u c;match j,c with|0,c=>simp at c;subst c;simp[Addr.add]|1,c=>simp at c;subst c;simp[Addr.add]|j+2,c=>simp at c
def Pe(l:Int)(b:ByteArray):∀u∈([Y l,Q_ b]:List Wo),u.oneCell'=true:=by intro u a;simp at a;rcases a with rfl|rfl<;>rfl
def zv(t:bE):aC:=aV [112,97,114,97,109] t.l_ t.x_ []
theorem Jb{b:List bE}(h:((aP b M).c_==110)=true):eB b (G+1) M E=if bX b (M+1) [44]then eB b G (M+1+1) (E++[zv (aP b M)])else .ok (E++[zv (aP b M)],M+1):=by rw[eB,ec h];rfl
def Fz{a:List bE}(h:((aP a M).c_==110)=false):eB a (G+1) M E=.error (aP a M).l_:=by rw[eB,dy G_];rfl
def Dw(lo:Nat)(w':aL)(v:aU)(l:List aC):Prop:=y8 (si lo w'.heap.size) w' v l
abbrev Nm(b_:Nat)(v:aU)(acc:List aC):Nat×(World->Prop):=(b_,λW=>zz b_ W v acc)
def Fi{acc:List aC}{t:bE}{i:Array Oper}{h:List Oper}{o:Oper}{f:Act}{Q:Exit->Act->World->Prop}{z:Option Addr}{c:Nat}(H:Wu (Pg C I [] [Nm M (P_ z (aA acc) c) acc] [] N G))(E:aA acc<=4000)(s x:Operand) (k:∀g e l,Wu (Pg C I [] [Nm M (P_ (Wj (aJ g 0)) (aA acc+1) e) (acc++[zv t])] [] l G)->wpList prog i Q h (f.put o.dst (P_ (Wj (aJ g 0)) (aA acc+1) e)) l) (m:o.guard=none:=by rfl) (v:o.op=.call {callee:=.builtin .append,args:=#[s,x],argTypes:=#[181,181]}:=by rfl) (y:f.eval s=P_ z (aA acc) c:=by rfl) (A:f.eval x=P_ (Wj (aJ (H_ N) 0)) 1 1:=by rfl):wpList prog i Q (o::h) f (dZ N #[Y t.l_,Q_ (bs t.x_)] 180):=by have ⟨i0,hi,hz0,hz1,hz2⟩:=info_parts PJ;obtain⟨⟨q,b⟩,-,B,-,-,r⟩:=H.vw _ (.head _);simp at b q r;refine wpList_append_lies _ m s x 181 v M 180 i0 _ 2 24 underlying181 hi hz0 hz1 hz2 i_ d_ _ (aA acc) _ y (b.alloc _) (aJ (H_ N) 0) 1 1 [Y t.l_,Q_ (bs t.x_)] A rfl (Lq _ _ _) (Pe _ _) d_ ky Z ku (H_ N+1) s_ ?_;refine λg e l u n D _=>k g e l (H.grow n (cA b) s_ ⟨λa j=>?_,by rw[Pa,et];exact u⟩ (by grind[zz.j_]));rcases fg.1 j with j|j;grind;rw[hH.1 j];rfl
def L5(C:Ctx)(w:aL)(p:Nat)(h:ud C w p)(r:bN (List aC))(e:r=if bX C.ts p [40]then lC C.ts (p+1)else Hs.bad C.ts p)(f:r≠.error 0):Wn prog 143 #[aW C.pb] w (Out C w r (Dw (H_ w))):=by
 have b:=O e;have d:=O f;have a:Wu (Pg C w [] [Nm (H_ w) (bR) []] [] w p):=(by grind[Pg.begin,Pg.new,zz.nil]);have n:=h.len;clear h e f;go_in;go_wp2_with fail;refine vS d a [40] ((by grind[dz,Hs.bad])) (λl j H=>?_) λi y a=>?_;.go_wp;exact⟨i_,Out.err H.1 H.2⟩
 have b:Wu (r=aQ C.ts [41] (if bX C.ts (p+1) [41]then .ok ([],p+1)else eB C.ts (aA C.ts+1) (p+1) [])):=b.trans (ec i);go_wp2_with fail;refine oW a [41] (λi s a=>?_) λi s a=>?_;.go_wp2;go_ret;exact Out.ok (by rw[b,ec i.out,rY i]) a.fr a.at_ (a.vw _ (.head _)).1.nm
 have e:=b.out;rw[dy oa]at e;have b:=O e;clear e;go_wp21;refine Ab (t:=aP C.ts (p+1)) d i_ a (λi=>by rw[b,Fz i];rfl) (λl j H=>?_) λi z a=>?_;.go_wp;exact⟨i_,Out.err H.1 H.2⟩
 go_wp2_with (at_builtin;refine Fi (acc:=[]) a s_ _ _ λg m o a=>?_);go_wp2;go_loopg [3] (aA C.ts) (λk v wr=>∃q acc,Pg C w [] [Nm (H_ w) v acc] [] wr q/\aA acc+k<=4000/\r=aQ C.ts [41] (if bX C.ts q [44]then eB C.ts k (q+1) acc else .ok (acc,q)));case atStart=>grind[dz,eB,zv]
 case round=>
  have ⟨q,acc,hg,hal,e⟩:=hrel;obtain⟨x,c,rfl⟩:=(hg.vw _ (.head _)).1.slice;have a:=O hg;have b:=O e;clear hg e;go_wp;refine oW a [44] (λi u a=>?_) λi u a=>?_
  .have b:Wu (r=aQ C.ts [41] (eB C.ts gk (q+1) acc)):=by grind[dz]
   obtain⟨k,rfl⟩:∃k,gk=k+1:=by cases gk with|zero=>exact ep b d|succ k=>simp
   go_wp21;refine Ab (t:=aP C.ts (q+1)) d i_ a (λi=>by rw[b,Fz i];rfl) (λl j H=>?_) λi j a=>?_;.go_wp;exact⟨i_,Out.err H.1 H.2⟩
   go_wp2_with (at_builtin;refine Fi a Z _ _ λg m o a=>?_);go_wp2;go_roundg k;case measure=>exact Z
   grind[dz,Jb]
  have b:Wu (r=aQ C.ts [41] (.ok (acc,q))):=by grind[dz]
  go_wp21;refine vS d a [41] ((by grind[dz,ES])) (λl j H=>?_) λi j a=>?_;.go_wp;exact⟨i_,Out.err H.1 H.2⟩
  go_wp2;go_ret;exact Out.ok (by rw[b];exact rY i) a.fr a.at_ (a.vw _ (.head _)).1.nm
def DJ(F:bI)(w:aL)(v:aU)(f:aC):Prop:=∃pv bv ps b,v=.agg #[Y f.l_,.string (bs f.x_),pv,bv]/\f.y_=ps++[b]/\y8 F w pv ps/\b.op=[98,108,111,99,107]/\sy F w bv b.y_
def DJ.j_{F:bI}{w w':aL}{v:aU}(h:DJ F w v K)(a:∀b,F b->w'.heap[b]?=w.heap[b]?)(c:∀b,F b->D b):DJ D w' v K:=by grind[y8.j_,sy.j_,DJ]
def Eb(lo:Nat)(w:aL)(v:aU)(f:aC):Prop:=DJ (si lo w.heap.size) w v f
def Ej{L:List (Nat×Obj)}{K:List (Nat×(World->Prop))}{M:List vg}{Q:Ending->World->Prop}{u:Type}{r:bN u}{b:bN (List aC)}(A:Wu (b=if bX C.ts G [40]then lC C.ts (G+1)else Hs.bad C.ts G))(g:Wu (r≠.error 0))(H:Wu (Pg C I L K M N G))(n:∀l,b=.error l->r=.error l)(o:∀l a,Wu (r=.error l/\Fr C.pb I a)->Q (gE 4 l) a) (t:∀l q z c a,Wu (b=.ok (l,q))->Wu (Pg C I L ((H_ N,λV=>Dw (H_ N) V (P_ z (aA l) c) l)::K) M a q)->Q (bP (P_ z (aA l) c)) a):Wn prog 143 #[aW C.pb] N Q:=(L5 C N G H.at_ b A λe=>g (n 0 e)).mono λe a h=>by obtain⟨f,d⟩:=h;have s:=H.at_.vz;cases i:b<;>rw[i]at d;obtain rfl:e=_:=d;exact o _ a ⟨n _ i,H.fr.trans f⟩;obtain⟨y,v,rfl,m⟩:=d;obtain⟨z,c,rfl⟩:=m.slice;have k:=H.j_ f y;refine t _ _ _ _ a i ⟨k.fr,k.at_,k.own,k.Af,k.pb,λx j=>?_⟩;rcases fe.1 j with rfl|j;exact⟨m,(by grind[y8.j_,Fr.block,Nat.lt_of_lt_of_le,Fr.size,Dw,si]),s,H.at_.zo,H.fr.size,f.size⟩;exact k.vw x j
def Qy{e d:aU}{t:TypeId}(h:I.heap[G]?=Wj (bM #[J,P,e,d] t)):G<H_ I/\eJ I G 0 J/\eJ I G 1 P/\eJ I G 2 e/\eJ I G 3 d/\I.frozen? (aJ G 0)=false/\I.frozen? (aJ G 1)=false/\I.frozen? (aJ G 2)=false/\I.frozen? (aJ G 3)=false:=(by grind[aB,aE])
def Ur{o:Obj}{L:List (Nat×Obj)}{c u:Nat}{r:bN aC}{f:aC}{m z y n:aU}(h:ud C I G)(H:Wu (Pg C (I.alloc o) L [(c,λN=>Dw c N J E),(u,λN=>N.heap[H_ I]?=Wj (bM #[m,z,y,n] 184))] [⟨P,K.y_,false⟩] N M))(j:K.op=[98,108,111,99,107])(t:f.y_=E++[K])(v:r=.ok (f,M)):Out C I r (Eb (H_ I)) (bP (.agg #[Y f.l_,Q_ (bs f.x_),J,P])) (c9 (c9 (c9 (c9 N (aJ (H_ I) 0) (Y f.l_)) (aJ (H_ I) 1) (Q_ (bs f.x_))) (aJ (H_ I) 2) J) (aJ (H_ I) 3) P):=by have D:=h.vz;have B:=h.zo;have i:H_ I<=H_ I:=Z;have A:=H.vw _ (.head _);have s:=Z;simp at s;have x:(c9 (c9 (c9 (c9 N (aJ (H_ I) 0) (Y f.l_)) (aJ (H_ I) 1) (Q_ (bs f.x_))) (aJ (H_ I) 2) J) (aJ (H_ I) 3) P).heap.size=H_ N:=s_;have e:∀k,H_ I<k->(c9 (c9 (c9 (c9 N (aJ (H_ I) 0) (Y f.l_)) (aJ (H_ I) 1) (Q_ (bs f.x_))) (aJ (H_ I) 2) J) (aJ (H_ I) 3) P).heap[k]?=N.heap[k]?:=(by grind[eh]);refine Out.ok v ((((((Fr.refl _ I).alloc o).trans H.fr |>.setCell (.inr i) _).setCell (.inr i) _).setCell (.inr i) _).setCell (.inr i) _) ((((H.at_.other Z Z).other Z Z).other Z Z).other Z Z) ⟨J,P,E,K,rfl,t,?_,j,?_⟩;exact A.1.j_ (qi) qi;refine(H.Af _ (.head _)).many.j_ (λk a=>e k ?_) λk a=>⟨?_,by rw[x];exact a.2⟩<;>(have:=a.1;simp at this;exact Z)
def La(C:Ctx)(B:Nat->bN aC)(x:wb C 144 B)(w:aL)(p:Nat)(h:ud C w p)(r:bN aC)(u:r=mC B C.ts p)(e:r≠.error 0):Wn prog 86 #[aW C.pb] w (Out C w r (Eb (H_ w))):=by
 obtain⟨o,L⟩:∃o:Obj,o=bM #[Y 0,Q_ ⟨#[]⟩,bR,bR] 184:=(by simp);have d:Wu (Pg C (w.alloc o) [] [((w.alloc o).heap.size,λV=>V.heap[H_ w]?=Wj o)] [] (w.alloc o) p):=(Pg.new (h.alloc _)).begin (aS _ _ i_ _) λV V' K k=>K.Df k (by have:=h.vz;exact Z);have m:=O x;have A:=O h;unfold mC at u;have n:=O u;have a:=O e;subst L;clear h u e x;go_in;go_wp;refine vS a d [102,117,110,99] ((by grind[dz,Hs.bad])) (λl D H=>?_) λi W d=>?_;.go_wp;exact⟨i_,Out.err H.1 (((Fr.refl _ w).alloc _).trans H.2)⟩
 have n:=O (n.trans (ec i));go_wp21;refine Ab (t:=aP C.ts (p+1)) a i_ d ((by grind[dz,Hs.bad])) (λl D H=>?_) λi w2 d=>?_;.go_wp;exact⟨i_,Out.err H.1 (((Fr.refl _ w).alloc _).trans H.2)⟩
 have ⟨s,hrP⟩:∃s,s=if bX C.ts (p+1+1) [40]then lC C.ts (p+1+1+1)else Hs.bad C.ts (p+1+1):=(by simp);have n:Wu (r=bK s λl q=>bQ (λb=>aV [102,117,110,99] (aP C.ts (p+1)).l_ (aP C.ts (p+1)).x_ (l++[b])) (B q)):=by grind[dz,bK,Hs.bad]
 have T:=O hrP;have d:=O (d.add (bM #[Y (aP C.ts (p+1)).l_,Q_ (bs (aP C.ts (p+1)).x_)] 180));have ⟨c0,c1,hz⟩:=d.z_;clear hrP i;go_wp2;go_region_law (first|(go_simp;go_at_call 143;refine Ej T a d.drew ((by grind[dz,bK])) (λl S H=>⟨rfl,Out.err H.1 (((Fr.refl _ w).alloc _).trans H.2)⟩) λl q z c X hX y=>?_;have ⟨d0,d1,hz3⟩:=y.z_)|(go_simp;go_at_call 144;refine Bs m a y ((by grind[dz,bQ,bK])) (λl S H=>⟨rfl,Out.err H.1 (((Fr.refl _ w).alloc _).trans H.2)⟩) λb q2 P F J U I j=>?_;have ⟨f0,f1,hz4⟩:=j.z_;have g:=(j.vw _ (.tail _ (.head _))).1;obtain⟨-,Q,G,E,N,y0,y1,y2,y3⟩:=Qy g;have M:=aH g));all_goals go_wp2;apply bodyPost_ret (v:=.agg #[Y (aP C.ts (p+1)).l_,Q_ (bs (aP C.ts (p+1)).x_),P_ z (aA l) c,P_ P F J]) (by simp[results,results86,go_sem,Q,G,E,N]) rfl;exact Ur (f:=aV [102,117,110,99] (aP C.ts (p+1)).l_ (aP C.ts (p+1)).x_ (l++[b])) A j I.out.2 i_ (by grind[dz,bQ,bK])
def Mw:(prog.info? 184).map (λi=>(i.zero,i.size,i.bytes))=Wj (Wj (.agg #[Y 0,Q_ (bs []),bR,bR]),4,72):=k_
def LL:Wo->List Wo|.agg a=>a.toList|v=>[v]
def pO:List Wo->List Wo|[]=>[]|v::l=>LL v++pO l
def S5(l:List Wo)(v:aU):pO (l++[v])=pO l++LL v:=by induction l with|nil=>simp[pO]|cons x l a=>simp[pO,a]
def vo(F:bI)(w:aL)(v:aU)(fs:List aC):Prop:=(v=bR/\fs=[])\/∃g cap cur us,v=.slice (Wj (aJ g 0)) (aA fs) cap/\F g/\w.heap[g]?=Wj (.cells cur 184)/\aA fs<=cap/\cur.toList.take (aA fs*4)=pO us/\jW (DJ F w) us fs
def zp(b_:Nat)(w:aL)(v:aU)(acc:List aC):Prop:=∃us F,w.ownsRow b_ 184 4 v (aA acc) (pO us)/\jW (DJ F w) us acc/\∀b,F b->b_<=b/\b<w.heap.size/\v.ownBlock≠Wj b
def zp.nil(a:Nat)(w:aL):zp a w (bR) []:=⟨[],λ_=>False,World.ownsRow_nil _ _ _ _,trivial,s_⟩
def zp.slice{b:Nat}{w:aL}{v:aU}(h:zp b w v E):∃x c,v=.slice x (aA E) c:=by have ⟨vs,F,h1,_⟩:=h;rcases h1.2 with ⟨e,i⟩|⟨g,f,d,e,_⟩;grind;grind
def zp.j_{a:Nat}{w d:aL}{v:aU}(h:zp a w v E)(f:Fr G w d)(i:G<a):zp a d v E:=by have ⟨vs,F,h1,h2,h3⟩:=h;refine⟨vs,F,aX h1 λk j=>?_,h2.mono λ_ _ h=>h.j_ (λb g=>?_) (s_),λb g=>?_⟩;grind[cA,Fr.block,dT];have:=f.size;grind;grind[Fr.block]
def zp.snoc{b_ lo:Nat}{p:aL}{s:List Wo}(x:jW (DJ D I) s E)(B:∀b,D b->b_<=b/\b<H_ I/\J.ownBlock≠Wj b) (A:DJ (si lo (H_ I)) I P K) (C:b_<=lo) (o:∀k,J.ownBlock=Wj k->k<lo) (r:∀k,k<H_ I->N.heap[k]?=I.heap[k]?) (z:H_ I<=H_ N) (m:p.ownsRow b_ 184 4 (P_ (Wj (aJ G 0)) (aA E+1) M) (aA E+1) (pO s++LL P)) (j:N.grownBy p J.ownBlock) (l:J.ownBlock=Wj G\/H_ I<=G):zp b_ p (P_ (Wj (aJ G 0)) (aA E+1) M) (E++[K]):=by
 have u:∀b,(D b\/si lo (H_ I) b)->b_<=b/\b<H_ I/\J.ownBlock≠Wj b:=by rintro b (c|c);exact B b c;exact⟨by have:=c.1;exact Z,c.2,λe=>by have:=o b e;have:=c.1;exact Z⟩
 have f:∀b,(D b\/si lo (H_ I) b)->p.heap[b]?=I.heap[b]?:=λb c=>by have i:=u b c;rw[j.block b Z λe=>i.2.2 e.symm,r b i.2.1]
 refine⟨s++[P],λb=>D b\/si lo (H_ I) b,?_,?_,?_⟩;rw[et,S5];exact m;exact jW.snoc (x.mono λ_ _ h=>h.j_ (λb c=>f b (ea c)) λ_=>ea) (A.j_ (λb c=>f b (dv c)) λ_=>dv);intro b c;have i:=u b c;have:=j.size;refine⟨i.1,Z,λe=>?_⟩;have y:G=b:=fm e;rcases l with l|l;exact i.2.2 (by rw[l,y]);exact Z
def zp.Lz(h:zp G I J E):vo (si G (H_ I)) I J E:=by have ⟨us,F,h1,h2,h3⟩:=h;rcases h1.2 with ⟨f,e⟩|⟨g,d,c,f,e,j,i,m,l,k⟩;grind[vo];exact dv ⟨g,d,c,us,f,⟨e,G_⟩,j,i,k,h2.mono λ_ _ h=>h.j_ (s_) qi⟩
def Uw(a c d:Int)(b:ByteArray)(w:aL):(Instr.field 175 (.agg #[Y a,Q_ b,Y c,Y d]) 0).run prog w=.ok (Y a) w:=k_
def PO{t:bE}(h:pD t):(tf t.c_=4↔t.c_=101):=by grind[tf]
def Py(w:aL)(a b c d:aU):∀j u,([a,b,c,d]:List Wo)[j]?=Wj u->i9 (dZ w #[a,b,c,d] 184) ((⟨H_ w,0,none⟩:Addr).add j)=Wj u:=by intro j u e;match j,e with|0,e=>simp at e;subst e;simp[Addr.add]|1,e=>simp at e;subst e;simp[Addr.add]|2,e=>simp at e;subst e;simp[Addr.add]|3,e=>simp at e;subst e;simp[Addr.add]|j+4,e=>simp at e
def Mm(l:Int)(b:ByteArray)(x y:Option Addr)(n m c d:Nat):∀u∈([Y l,Q_ b,P_ x n c,P_ y m d]:List Wo),u.oneCell'=true:=by intro u a;simp at a;rcases a with rfl|rfl|rfl|rfl<;>rfl
def Y6(C:Ctx)(X:Nat->bN aC)(w:aL)(r:bN (List aC))(k:Nat)(v:aU)(wr:aL):Prop:=Fr C.pb w wr/\∃q acc,ud C wr q/\r=fR X C.ts k q acc/\aA acc+k<=4000/\zp w.heap.size wr v acc
def r8(lo:Nat)(w':aL)(v:aU)(l:List aC):Prop:=vo (si lo w'.heap.size) w' v l
def Iv(C:Ctx)(X:Nat->bN aC)(HX:∀w p,ud C w p->X p≠.error 0->Wn prog 86 #[aW C.pb] w (Out C w (X p) (Eb (H_ w))))(w:aL)(p:Nat)(h:ud C w p)(r:bN (List aC))(hr:r=fR X C.ts (aA C.ts+1) p [])(n:r≠.error 0):Wn prog 48 #[aW C.pb] w (Out C w r (r8 (H_ w))):=by
 have ⟨i0,hi,hz0,hz1,hz2⟩:=info_parts Mw;have ae:=h.len;have d:=h.vz;have ad:=h.zo;have HI:Wu (Y6 C X w r (aA C.ts+1) (bR) w):=⟨Fr.refl _ _,p,[],h,hr,G_,zp.nil _ _⟩;have P:=O n;have V:=O HX;have ao:=Uw;clear h hr n HX;go_in;go_wp2;go_loopg [3] (aA C.ts+1) (λk v wr=>Y6 C X w r k v wr);case atStart=>exact HI
 case round=>
  have ⟨hf4,q4,acc,hp4,hr4,hal,hls⟩:=hrel;obtain⟨x4,c4,rfl⟩:=hls.slice;have j:=O (pY C wr q4 hp4);simp[sZ]at j;have z:=PO (hp4.Ce.tk q4 hp4.lt);have u:=O hf4;have s:=O hls;have o:=O hp4;have ar:=hf4.size;obtain⟨k,rfl⟩:∃k,gk=k+1:=by cases gk with|zero=>exact ep hr4 P|succ k=>simp
  rw[fR]at hr4;have ak:=O hr4;have aa:=O z;clear hr4 z;generalize aP C.ts q4=t at*;generalize tf t.c_=ps at*;generalize vk t=pv at*;by_cases hs:t.c_=101;.have HL:Wu (r=.ok (acc,q4)):=G_;obtain rfl:ps=4:=aa.2 hs;go_wp;refine rB j λD b=>?_;have m:=O b;go_wp2;go_ret;exact Out.ok HL (u.trans (Fr.below m)) (o.below m) (s.j_ (Fr.below m) d).Lz
  have ap:((ps:Int) !=4)=true:=by grind[dz]
  have ⟨B,hrE⟩:∃B,B=X q4:=(by simp);have A:Wu (r=bK B λi q=>fR X C.ts k q (acc++[i])):=by grind[bK]
  have I:X q4≠.error 0:=(by grind[dz]);have ac:=O hrE;go_wp;refine rB j λD b=>?_;have S:=O (V D q4 (o.below b) I);simp only[<-ac.out]at S;have y:=O (u.trans (Fr.below b));have Q:=O (s.j_ (Fr.below b) d);have am:=b.size;cases B with|error l=>go_wp21;apply S.mono;rintro e J ⟨c,rfl⟩;go_wp;exact⟨i_,Out.err A (y.trans c)⟩|ok U=>
   have ⟨a6,q6⟩:=U;have ai:=A.out;go_wp21;apply S.mono;rintro e J ⟨c,M,v6,rfl,x⟩;have L:=O x;obtain⟨au,al,H,b6,G,-,ab,-,N⟩:=x;obtain⟨x7,c7,rfl⟩:=ab.slice;obtain⟨x8,c8,rfl⟩:=N.slice;subst G;have ⟨us,F,hown,hall,hFF⟩:=Q.j_ c d;have W:∀g,(Value.slice x4 (aA acc) c4).ownBlock=Wj g->g<H_ D:=by grind[dT,zp]
   have E:=O W;have T:=O (y.trans c);have K:=O M;have HALL:=O (du hall hFF);have aj:=c.size;have hge:=cA hown;go_wp2_with (at_builtin;refine wpList_append_lies _ r_ _ _ 45 r_ (H_ w) 184 i0 _ 4 72 underlying45 hi hz0 hz1 hz2 rfl d_ _ _ _ r_ (hown.alloc _) (aJ (H_ J) 0) 1 1 [Y a6.l_,Q_ (bs a6.x_),P_ x7 (aA H) c7,P_ x8 (aA b6.y_) c8] r_ r_ (Py _ _ _ _ _) (Mm _ _ _ _ _ _ _ _) d_ ky Z ku (H_ J+1) s_ ?_);intro g7 ag w9 f a af av;have an:=O (zp.snoc (lo:=H_ D) HALL.1 HALL.2 L Z E (λk hk=>ed _ _ _ hk) s_ f a (G_));have ah:=O ((K.alloc _).grown (b_:=H_ w) a hge d ad);have aq:=O ((T.alloc _).grown a hge);go_wp2;go_roundg k;case measure=>exact Z
   grind[dz,Y6]
def WS(C:Ctx)(w:aL)(h:ud C w 0)(a:lZ C.ts≠.error 0):Wn prog 48 #[aW C.pb] w (Out C w (lZ C.ts) (r8 (H_ w))):=Iv C _ (λw p h b=>La C _ ((by grind[QT])) w p h _ rfl b) w 0 h _ rfl a
def xH(l:Nat)(w:aL):Wn prog 145 #[.agg #[Y l]] w λe a=>e=bP (Y l)/\cB w a:=by go_in;go_wp2;go_ret;exact⟨i_,mq⟩
def Ba(n:Int)(l:cU)(x:bS):Prop:=decide (0<=n)=l.contains x
def R3(l:cU)(x:bS)(g b:Nat)(w:aL)(s:aA l<=100000)(_hlc:aA l<=b)(f:∀i (h:i<aA l),eJ w g i (Q_ (bs l[i]))):Wn prog 249 #[P_ (Wj (aJ g 0)) (aA l) b,Q_ (bs x)] w λe j=>(∃n:Int,e=bP (Y n)/\Ba n l x)/\j=w:=by
 have hx:=bA x;have o:=O f;clear f;go_in;go_wp2;go_loop [5,8] (λ_ i=>∃k:Nat,k<=aA l/\i=Y k/\Wu (∀y∈l.take k,y≠x)) (λ_ i=>aA l-(intOf i).toNat);case atStart=>exact⟨0,Z,rfl,λy d=>by simp at d⟩
 case round=>
  obtain⟨k,p,rfl,t⟩:=hrel;by_cases a:k<aA l
  .have c:=o k a;have hget:=ga a;have u:Wu (∀y∈l.take (k+1),y∈l.take k\/y=l[k]):=λy d=>by grind[List.take_succ_eq_append_getElem]
   have q:=O hget;generalize l[k]=y at*;have d:=bA y;cases m:(x==y);have HF:Wu (∀z∈l.take (k+1),z≠x):=λz r=>by grind[dz]
   exact UO;have HF:Wu (l.contains x=true):=by grind
   go_wp2;go_ret;exact⟨⟨k,i_,by grind[Ba]⟩,rfl⟩
  have HF:Wu (l.contains x=false):=by grind[dz]
  go_wp2;go_ret;exact⟨⟨-1,i_,by grind[Ba,dz]⟩,rfl⟩
def R5(x:bS)(w:aL):Wn prog 249 #[bR,Q_ (bs x)] w λe a=>(∃n:Int,e=bP (Y n)/\Ba n [] x)/\a=w:=by
 go_in;go_wp2;go_loop [5,8] (λ_ i=>i=Y 0) (λ_ _=>0);case atStart=>rfl
 case round=>go_wp2;go_ret;exact⟨⟨-1,i_,i_⟩,i_⟩
def CU(l:cU)(x:bS)(v:aU)(b:Nat)(w:aL)(m:aA l<=100000)(a:w.ownsRow b 9 1 v (aA l) (jR l)):Wn prog 200 #[v,Q_ (bs x)] w λe c=>e=bP (.bool (l.contains x))/\c=w:=by
 have f:Wu (Wn prog 249 #[v,Q_ (bs x)] w λe c=>(∃n:Int,e=bP (Y n)/\Ba n l x)/\c=w):=by
  rcases a.2 with ⟨rfl,u⟩|⟨g,d,k,rfl,t,p,j,z,B,y⟩;obtain rfl:l=[]:=(by grind);exact R5 x w;refine R3 l x g d w m j λi q=>aB p ?_;have e:(jR l)[i]?=Wj (Q_ (bs l[i])):=by simp[jR,q]
  grind
 go_in;go_wp;apply f.mono;rintro e s ⟨⟨n,rfl,r⟩,A⟩;have o:=O r;go_wp2;go_ret;exact⟨gP o,i_⟩
def qA(fs:List aC)(x:bS):Option Nat:=if x==[108,101,110]then Wj 1 else if x==[114,101,97,100]then Wj 0 else (dE fs x).map λf=>aA f.y_-1
def QL:∀{c:List Wo}{a:List aC} (k:Nat) (i:k<aA a),jW (DJ D I) c a->∃d g e b,(pO c)[k*4]?=Wj (Y a[k].l_)/\(pO c)[k*4+1]?=Wj (Q_ (bs a[k].x_))/\(pO c)[k*4+1+1]?=Wj d/\(pO c)[k*4+1+1+1]?=Wj g/\a[k].y_=e++[b]/\y8 D I d e/\b.op=[98,108,111,99,107]/\sy D I g b.y_|[],[],k,i,_=>(by grind)|_::c,f::a,0,_,⟨⟨d,g,e,b,j,m,r,o,p⟩,_⟩=>by subst j;exact⟨d,g,e,b,i_,i_,i_,i_,m,r,o,p⟩|_::c,f::a,k+1,i,⟨⟨d,g,e,b,j,_⟩,h⟩=>by obtain⟨l,n,q,t,v,u,x,y,s⟩:=QL k G_ h;grind[pO,LL]|[],_::_,_,_,h=>h.elim|_::_,[],_,i,_=>(by grind)
def MD(F:bI)(w:aL)(g:Nat)(fs:List aC):Prop:=∀k (hk:k<aA fs),∃pv bv ps b,i9 w (aJ g (k*4))=Wj (Y fs[k].l_)/\i9 w (aJ g (k*4+1))=Wj (.string (bs fs[k].x_))/\i9 w (aJ g (k*4+1+1))=Wj pv/\i9 w (aJ g (k*4+1+1+1))=Wj bv/\fs[k].y_=ps++[b]/\y8 F w pv ps/\b.op=[98,108,111,99,107]/\sy F w bv b.y_
theorem vo.cells{F:bI}{w:aL}{v:aU}(h:vo F w v E):(v=bR/\E=[])\/∃g a,v=.slice (Wj (aJ g 0)) (aA E) a/\F g/\g<w.heap.size/\aA E<=a/\MD F w g E:=by rcases h with h|⟨g,a,d,m,l,i,o,j,n,e⟩;grind;refine dv ⟨g,a,l,i,G_,j,λk f=>?_⟩;have ⟨pv,bv,ps,b,e1,e2,e3,e4,e5⟩:=QL k f e;grind[aB]
def Kl{x:bS}(c:G<aA E)(e:∀f∈E.take G,f.x_≠x)(d:E[G].x_=x):dE E x=Wj E[G]:=by unfold dE;have b:E=E.take G++E[G]::E.drop (G+1):=s_;grind
theorem Rv{x:bS}(b:∀f∈E,f.x_≠x):dE E x=none:=by grind[dE]
def Vz(a:List aC)(F:bI)(x:bS)(g l:Nat)(w:aL)(Q:aA a<=100000)(s:∀f∈a,aA f.y_<=90000)(_hlc:aA a<=l)(t:g<w.heap.size)(J:MD F w g a)(E:(x==[108,101,110])=false)(v:(x==[114,101,97,100])=false):Wn prog 87 #[P_ (Wj (aJ g 0)) (aA a) l,Q_ (bs x)] w λe A=>e=bP (.tuple #[Y ((qA a x).getD 0:Nat),.bool (qA a x).isSome])/\cB w A:=by
 have hx:=bA x;have G:=O J;have I:=O s;have T:Wu (qA a x=(dE a x).map λf=>aA f.y_-1):=by grind[qA]
 go_in;go_wp2;go_loopg [7,15] (aA a) (λgk _ i wr=>∃k:Nat,k+gk=aA a/\i=Y k/\cB w wr/\Wu (∀f∈a.take k,f.x_≠x));case atStart=>exact⟨0,Z,rfl,dw _ _,λy r=>by simp at r⟩
 case round=>
  obtain⟨k,M,rfl,m,H⟩:=hrel;have hgr:=ef t m.size;by_cases c:k<aA a
  .obtain⟨j,rfl⟩:∃j,gk=j+1:=⟨gk-1,Z⟩;have ⟨pv,bv,ps,b,c0,c1,c2,c3,hkids,hps,hbo,hbk⟩:=G k c;obtain⟨L,S,rfl⟩:=hps.slice;obtain⟨K,N,rfl⟩:=hbk.slice;have d:∀o u,i9 w (aJ g o)=Wj u->i9 wr (aJ g o)=Wj u:=λo u h=>(m.cell (p:=(aJ g o)) t).trans h;have hget:=ga c;have U:Wu (∀y∈a.take (k+1),y∈a.take k\/y=a[k]):=λy r=>by grind[List.take_succ_eq_append_getElem]
   have C:Wu (a[k].x_=x->dE a x=Wj a[k]):=λe=>Kl c H e;have B:aA ps+1=a[k].y_.length:=G_;have q:=O m;generalize a[k]=f at*;have r:(bs f.x_).toList=f.x_:=bA _;cases D:(f.x_==x)
   .have n:Wu (∀z∈a.take (k+1),z.x_≠x):=λz P=>by grind[dz]
    go_wp2;go_roundg j;case measure=>exact Z
    grind[eo,dz,Below.size]
   have n:Wu (qA a x=Wj (aA ps)):=by grind[dz]
   go_wp2;go_ret2;rw[n];exact⟨i_,q.alloc q.size _⟩
  have n:Wu (qA a x=none):=by grind[dz,Rv,List.take_of_length_le]
  have q:=O m;go_wp2;go_ret2;rw[n];exact⟨i_,q⟩
def Jc(x:bS)(w:aL)(b:(x==[108,101,110])=false)(a:(x==[114,101,97,100])=false):Wn prog 87 #[bR,Q_ (bs x)] w λe c=>e=bP (.tuple #[Y ((qA [] x).getD 0:Nat),.bool (qA [] x).isSome])/\cB w c:=by
 have hx:=bA x;have d:Wu (qA [] x=none):=by unfold qA;rw[b,a];rfl
 go_in;go_wp2;go_loop [7,15] (λ_ i=>i=Y 0) (λ_ _=>0);case atStart=>rfl
 case round=>go_wp2;go_ret2;rw[d];exact⟨i_,dw _ _⟩
def KA(v:aU)(x:bS)(w:aL)(n:Nat)(a:List aC)(c:(x=[108,101,110]/\n=1)\/(x=[114,101,97,100]/\n=0)):Wn prog 87 #[v,Q_ (bs x)] w λe b=>e=bP (.tuple #[Y ((qA a x).getD 0:Nat),.bool (qA a x).isSome])/\cB w b:=by
 rcases c with ⟨rfl,rfl⟩|⟨rfl,rfl⟩;.simp [bs];go_in;go_wp2;go_ret2;exact⟨i_,dw _ _⟩
 simp [bs];go_in;go_wp2;go_ret2;exact⟨i_,dw _ _⟩
def KB(a:List aC)(F:bI)(v:aU)(x:bS)(w:aL)(k:aA a<=100000)(d:∀f∈a,aA f.y_<=90000)(h:vo F w v a):Wn prog 87 #[v,Q_ (bs x)] w λe i=>e=bP (.tuple #[Y ((qA a x).getD 0:Nat),.bool (qA a x).isSome])/\cB w i:=by by_cases n:x=[108,101,110];exact KA v x w 1 a (G_);by_cases m:x=[114,101,97,100];exact KA v x w 0 a (G_);rcases h.cells with ⟨rfl,rfl⟩|⟨g,c,rfl,o,j,b,l⟩;exact Jc x w G_ G_;exact Vz a F x g c w k d b j l G_ G_
