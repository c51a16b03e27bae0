/- Contracts of the program: a call begins: what it does. -/
import Derived.Test.YtlflgmdcghfngaaGreatDoorP14
set_option linter.defProp false
set_option maxRecDepth 100000
set_option maxHeartbeats 4000000
namespace Go.Proofs.YtlflgmdcghfngaaGreatDoor
open Hs
open _root_.Go.Proofs.Tryz
open Go.RowKit
variable{w:aG}
def OI{b i:Nat}{e:TypeId}{a:Nat}{v:aQ}{n:Nat}{xs:List Value}(h:w.ownsRow i e a v n xs)(o:b<=i):w.ownsRow b e a v n xs:=by
 rcases h with ⟨f,l|⟨g,c,d,m,j,k⟩⟩
 ·exact⟨f,d7 l⟩
 ·exact⟨f,d6 ⟨g,c,d,m,em o j,k⟩⟩
section
variable {fp:eK} {F:bY} {b_:Nat} {w:aG} {sb gf cap:Nat} {t0 tv u_ s0:aQ} {v_:List FVal} {w_:List aJ} {f:aJ} {tape:List Int} {out:cN}
def dA.called{m:cS}{fn:eV}{us:List aM}{T:List Value}{x i:Option Addr}{d n g B:Nat}{p:aG}(h:dA false fp F b_ w sb gf cap t0 tv u_ s0 v_ m)(W:C9 fp F w (.pointer i) fn)(hB:b_<=B)(j:∀k∈aR false sb gf u_ v_,k<B)(X:∀k,F k->k<B)
 (A:w.ownsRow B 136 1 (.slice x us.length d) us.length T) (U:gP F w T us) (S:∀a∈us,aO a<=200)
 (r:p.ownsRow b_ 118 6 (.slice (some (aH n 0)) (v_.length+1) g) (v_.length+1) (gU v_++[.pointer i,I_ 0,I_ 0,.pointer none,.slice x us.length d,bG]))
 (H:(w.drew.alloc (.cells #[.pointer i,I_ 0,I_ 0,.pointer none,.slice x us.length d,bG] 118)).grownBy p (some gf)) (y:some gf=some n\/n=w.heap.size+1):
 dA false fp F b_ (p.setCell (aH sb 1) (.slice (some (aH n 0)) (v_.length+1) g)) sb n g t0 tv u_ s0 (v_++[⟨.pointer i,I_ 0,I_ 0,.pointer none,.slice x us.length d,bG⟩]) ⟨m.f_++[⟨fn,0,0,[],us,[]⟩],m.tape,m.out⟩/\
  Kept (aR false sb gf u_ v_) w (p.setCell (aH sb 1) (.slice (some (aH n 0)) (v_.length+1) g)):=by
 generalize O:Value.slice (some (aH n 0)) (v_.length+1) g=V at*;have q:=e7.1 h.nodup;have D:=e7.1 q.2;have K:sb≠gf:=λe=>q.1 (by simp[e])
 have P:=aC h.blk
 have L:n≠sb:=by
  rcases y with e|e
  ·cases e;exact λe=>K e.symm
  ·omega
 have Y:n<p.heap.size:=by
  subst O;exact cQ r n rfl
 have I:∀k,k<w.heap.size->k≠gf->p.heap[k]?=w.heap[k]?:=λk z E=>by
  rw[H.block k t_ (λe=>E (by cases e;rfl)),ek _ _ _ (by exact z)];rfl
 have M:∀k,k<w.heap.size->k≠gf->k≠sb->(p.setCell (aH sb 1) V).heap[k]?=w.heap[k]?:=λk z E h3=>by
  rw[ei _ _ _ _ h3,I k z E]
 have t:∀b,F b->(p.setCell (aH sb 1) V).heap[b]?=w.heap[b]?:=λb G=>M b (h.apart b G).1 (λe=>(h.apart b G).2 (by simp[aR,e])) (λe=>(h.apart b G).2 (by simp[aR,e]))
 have J:∀k,k∈u_.ownBlock.toList++cB false v_->(p.setCell (aH sb 1) V).heap[k]?=w.heap[k]?:=λk c=>M k (h.lt k (by unfold aR;exact fe _ (fe _ c))) (λe=>D.1 (by rw[<-e];exact c)) (λe=>q.1 (by rw[<-e];exact fe _ c))
 have Q:w.heap.size<=(p.setCell (aH sb 1) V).heap.size:=em s_ (em H.size s_)
 have o:∀k,(Value.slice x us.length d).ownBlock=some k->B<=k/\k<w.heap.size:=λk e=>⟨cT A k e,cQ A k e⟩
 have l:∀k,(Value.slice x us.length d).ownBlock=some k->k≠gf/\k≠sb:=λk e=>by
  have z:=j gf (by simp[aR])
  have E:=j sb (by simp[aR])
  have:=(o k e).1;omega
 have C:(⟨.pointer i,I_ 0,I_ 0,.pointer none,.slice x us.length d,bG⟩:FVal).ownX false=(Value.slice x us.length d).ownBlock.toList:=by simp[FVal.ownX,show (Value.slice none 0 0).ownBlock=none from rfl]
 have s:aR false sb n u_ (v_++[⟨.pointer i,I_ 0,I_ 0,.pointer none,.slice x us.length d,bG⟩])=sb::n::((u_.ownBlock.toList++cB false v_)++(Value.slice x us.length d).ownBlock.toList):=by simp[aR,cB,C]
 have u:(v_++[(⟨.pointer i,I_ 0,I_ 0,.pointer none,.slice x us.length d,bG⟩:FVal)]).length=v_.length+1:=s_
 refine⟨⟨?_,?_,?_,h.tape.keep t dP,aY h.out λk f=>J k (by simp[f]),?_,?_,?_⟩,?_⟩
 ·rw[u,aK (show p.heap[sb]?=_ from (I sb P K).trans h.blk),O];rfl
 ·rw[u,kJ,O];subst O;exact aY r λk f=>ei _ _ _ _ (by cases f;exact L)
 ·refine(h.frs.keep t dP λv hv k f=>J k (fq _ (ig.2 ⟨v,hv,f⟩))).snoc ⟨W.keep t dP,rfl,rfl,rfl,⟨⟨T,?_,U.keep t⟩,S⟩,⟨⟨[],World.ownsRow_nil _ _ _ _,gP.nil _ _⟩,λ_ h=>by simp at h⟩⟩
  exact aY (OI A hB) λk e=>M k (o k e).2 (l k e).1 (l k e).2
 ·rw[s];refine e7.2 ⟨?_,e7.2 ⟨?_,gt.2 ⟨D.2,by cases (Value.slice x us.length d).ownBlock<;>simp,?_⟩⟩⟩
  ·intro c;simp only[eo,eu] at c;rcases c with e|(e|e)|e
   ·exact L e.symm
   ·exact q.1 (by simp[e])
   ·exact q.1 (by simp[e])
   ·exact(l sb (by simpa using e)).2 rfl
  ·intro c;rcases y with e|e
   ·cases e;rcases eu.1 c with c|c
    ·exact D.1 c
    ·exact(l gf (by simpa using c)).1 rfl
   ·rcases eu.1 c with c|c
    ·have:=h.lt n (by unfold aR;exact fe _ (fe _ c));omega
    ·have:=(o n (by simpa using c)).2;omega
  ·intro a ha b G e;subst e;have z:=j a (by unfold aR;exact fe _ (fe _ ha))
   have E:=(o a (by simpa using G)).1
   omega
 ·intro k c;rw[s] at c;have h5:p.heap.size<=(p.setCell (aH sb 1) V).heap.size:=s_
  simp only[eo,eu] at c;rcases c with e|e|(e|e)|e
  ·rw[e];omega
  ·rw[e];omega
  ·have:=h.lt k (by simp[aR,e]);omega
  ·have:=h.lt k (by simp[aR,e]);omega
  ·have:=(o k (by simpa using e)).2;omega
 ·intro k f;obtain⟨a1,N⟩:=h.apart k f;refine⟨o_,λc=>?_⟩
  rw[s] at c;simp only[eo,eu] at c;rcases c with e|e|(e|e)|e
  ·exact N (by simp[aR,e])
  ·rcases y with Z|Z
   ·cases Z;exact N (by simp[aR,e])
   ·omega
  ·exact N (by simp[aR,e])
  ·exact N (by simp[aR,e])
  ·have:=(o k (by simpa using e)).1;have:=X k f;omega
 ·exact⟨H.os.trans rfl,H.tape.trans rfl,H.output.trans rfl,Q,λk z hn=>M k z (λe=>hn (by simp[aR,e])) (λe=>hn (by simp[aR,e]))⟩
def ClQ(fp:eK)(F:bY)(b_ sb gf cap:Nat)(t0 tv u_ s0:aQ)(v_:List FVal)(w_:List aJ)(f:aJ)(tape:List Int)(out:cN)(w0:aG)(us:List aM)(x:Option Addr)(d:Nat)(xs:List Value)(W:aG):Prop:=
 ∃fvs' ys,xs=gU fvs'/\Kept (aR false sb gf u_ v_) w0 W/\aR false sb gf u_ fvs'=aR false sb gf u_ v_/\fvs'.length=v_.length/\dA false fp F b_ W sb gf cap t0 tv u_ s0 fvs' ⟨w_++[f.popMany us.length],tape,out⟩/\
  W.ownsRow w0.heap.size 136 1 (.slice x us.length d) us.length ys/\gP F W ys us/\(∀a∈us,aO a<=200)/\∀k,F k->W.heap[k]?=w0.heap[k]?
def cm_(v:List eV)(k:Nat)(fn:eV)(vs us:List aM)(h:dA false fp F b_ w sb gf cap t0 tv u_ s0 v_ ⟨w_++[f],tape,out⟩)(A:w_.length<=15)(E:b_<=w.heap.size)(ad:f.ops.length<=99000)(hf:f.ops=vs++us)(Q:lZ fp F w v)(hk:v[k]?=some fn):
 Calls prog 282 #[.agg #[fp k,I_ us.length],aZ sb] w (DoM fp F b_ sb t0 s0 (aR false sb gf u_ v_) w (Hs.doI v (.call k us.length) w_ f tape out)):=by
 have I:=Q k fn hk;have H:∃q,fp k=.pointer q:=by obtain⟨fb,gc,cp,af,e,_⟩:=I;exact⟨_,e⟩
 obtain⟨g,H⟩:=H;rw[H] at I ⊢
 have hM:=h.mid E (.cells #[.pointer g,I_ us.length] 313);have G:Below w.heap.size w (w.alloc (.cells #[.pointer g,I_ us.length] 313)):=(eh _ w).alloc cL _;have h0:=h.grow G dP (λ_ h=>d7 h)
 have P:v_.length=w_.length+1:=by rw[h.count];simp
 have C:(w.alloc (.cells #[.pointer g,I_ us.length] 313)).heap[w.heap.size]?=some (.cells #[.pointer g,I_ us.length] 313 (0,0)):=aN _ _ rfl _;have hm:f.many us.length=us:=by simp[aJ.many,hf]
 have hr:Hs.doI v (.call k us.length) w_ f tape out=if w_.length+1=16 then (⟨w_++[f.popMany us.length],tape,out⟩,5) else (⟨(w_++[f.popMany us.length])++[⟨fn,0,0,[],us,[]⟩],tape,out⟩,0):=by
  simp[Hs.doI,hm,hk]
 rw[hr];have Y:w.heap.size<(w.alloc (.cells #[.pointer g,I_ us.length] 313)).heap.size:=aC C;generalize V:w.alloc (.cells #[.pointer g,I_ us.length] 313)=D at*
 have HP:∀W,aU D W->Calls prog 257 #[.pointer (some (aH gf (w_.length*6))),I_ us.length] W λe z=>∃x d t,e=aX (.slice x us.length d)/\ClQ fp F b_ sb gf cap t0 tv u_ s0 v_ w_ f tape out D us x d t z:=λW O=>by
  refine((h0.grow O.below dP (λ_ h=>d7 h)).popMany hf o_).mono ?_
  rintro e z ⟨v',N,c,he,o,s,u,l,y,M,K,L⟩;rw[O.heap] at y;obtain⟨x,d,rfl⟩:=dE y;exact⟨x,d,_,he,c,N,rfl,(Kept.of_below (own:=aR false sb gf u_ v_) O.below).trans o λ_ h=>d7 h,s,u,l,y,M,K,λj m=>by rw[L j m,O.heap]⟩
 have HK:∀{W W'},Kept (aR false sb gf u_ v_) D W->Kept (aR false sb gf u_ v_) W W'->Kept (aR false sb gf u_ v_) w W':=λa b=>((Kept.of_below (own:=aR false sb gf u_ v_) G).trans a λ_ h=>d7 h).trans b λ_ h=>d7 h
 by_cases p:w_.length+1=16
 ·rw[if_pos p];refine(VM w D sb gf (w_.length*6) gf cap us.length g (λz=>Done fp F b_ sb t0 s0 (aR false sb gf u_ v_) w ⟨w_++[f.popMany us.length],tape,out⟩ z) (λx d W=>∃t,ClQ fp F b_ sb gf cap t0 tv u_ s0 v_ w_ f tape out D us x d t W) V (hM.topS A) (λW O=>?_) (λW x d r=>?_)).mono ?_
  ·refine(HP W O).mono ?_;rintro e z ⟨x,d,t,he,r⟩;exact⟨x,d,he,t,r⟩
  ·obtain⟨t,c,N,_,o,s,u,l,_⟩:=r;have i:=l.blk;rw[u,P,p] at i;exact⟨aA i rfl,HK o (Kept.refl _ _),F,gf,cap,tv,u_,c,Ext.refl _ _,l,λj m=>d7 (by rw[<-s];exact m)⟩
  ·rintro e z ⟨rfl,h2⟩;exact⟨d6 ⟨show (5:Nat)≠0 by decide,rfl⟩,h2⟩
 ·rw[if_neg p];refine(VL w D sb gf (w_.length*6) gf cap us.length b_ v_.length g (λz=>Done fp F b_ sb t0 s0 (aR false sb gf u_ v_) w ⟨(w_++[f.popMany us.length])++[⟨fn,0,0,[],us,[]⟩],tape,out⟩ z) (ClQ fp F b_ sb gf cap t0 tv u_ s0 v_ w_ f tape out D us) V o_ (hM.topS A) HP (λW x d t r=>?_) (λW x d t r=>?_) (λW x d t r=>?_) (λW x d t r=>?_)).mono ?_
  ·obtain⟨c,N,_,o,s,u,l,y,M,K,L⟩:=r;have i:=l.blk;rw[u] at i;have S:W.heap[w.heap.size]?=_:=(o.block w.heap.size Y (λhm=>Nat.lt_irrefl _ (h.lt _ hm))).trans C
   exact⟨aA i rfl,aA S rfl,aC S,aC i,by have:=o.size;omega⟩
  ·obtain⟨c,N,rfl,o,s,u,l,y,M,K,L⟩:=r;have:=l.row;rw[u] at this;exact aY this λ_ _=>rfl
  ·obtain⟨c,N,_,o,s,u,l,y,M,K,L⟩:=r;intro w5 Z;have aa:=aC l.blk;have ab:sb≠gf:=λe=>(e7.1 l.nodup).1 (by simp[e])
   have J:w5.heap[sb]?=_:=(Z.block sb t_ (λe=>ab (by cases e;rfl))).trans ((ek _ _ _ (by exact aa)).trans l.blk)
   exact⟨⟨_,aA J rfl⟩,aD J,aC J⟩
  ·obtain⟨c,N,rfl,o,s,u,l,y,M,K,L⟩:=r;intro g5 U w5 n Z X;rw[<-u] at n ⊢
   have ac:C9 fp F W (.pointer g) fn:=I.keep (λb hb=>by rw[L b hb];exact G.block b (h.apart b hb).1) dP
   obtain⟨q1,q2⟩:=l.called (B:=D.heap.size) ac o_ (λj m=>by rw[s] at m;exact h0.lt j m) (λj m=>(h0.apart j m).1) y M K n Z X
   rw[s] at q2;refine⟨HK o q2,F,g5,U,tv,u_,_,Ext.refl _ _,q1,λj m=>?_⟩
   have T:aR false sb g5 u_ (c++[⟨.pointer g,I_ 0,I_ 0,.pointer none,.slice x us.length d,bG⟩])=sb::g5::((u_.ownBlock.toList++cB false c)++(Value.slice x us.length d).ownBlock.toList):=by simp[aR,cB,FVal.ownX,show (Value.slice none 0 0).ownBlock=none from rfl]
   rw[T] at m;rw[<-s];have ae:=o.size;simp only[eo,eu] at m;rcases m with e|e|(e|e)|e
   ·exact d7 (by simp[aR,e])
   ·rcases X with e2|e2
    ·cases e2;exact d7 (by simp[aR,e])
    ·exact d6 o_
   ·exact d7 (by simp[aR,e])
   ·exact d7 (by simp[aR,e])
   ·have:=cT y j (by simpa using e)
    exact d6 o_
  ·rintro e z ⟨rfl,h2⟩;exact⟨d7 ⟨rfl,rfl⟩,h2⟩
end
def KX(w:aG)(fa fj d m g n c:Nat)(W:aG):Prop:=
 W.cell? (aH w.heap.size 0)=some (I_ d)/\W.cell? (aH w.heap.size 1)=some (I_ m)/\W.cell? (aH fa (fj+4))=some (.slice (some (aH g 0)) n c)
def KX.same{W W':aG}{b e d m g n c:Nat}(h:KX w b e d m g n c W)(a:aU W W'):KX w b e d m g n c W':=
 ⟨bN a.heap h.1,bN a.heap h.2.1,bN a.heap h.2.2⟩
def KS(w J:aG)(sb r s d m g n c k:Nat)(O:TypeId)(Z:aQ)(ac:d<n)(P S:World->Prop)(Q:TypeId->Value->World->Prop)(R:TypeId->Value->Option Addr->Nat->World->Prop)(U:TypeId->Value->World->Prop)(hW:w.alloc (.cells #[I_ d,I_ m] 323)=J)
 (HT:Hid (∀W,aU J W->Calls prog 74 #[aZ sb] W λe o=>e=aX (.pointer (some (aH r s)))/\aU J o))
 (HP:Hid (∀W,aU J W->Calls prog 87 #[.pointer (some (aH r s))] W λe o=>∃t z,e=aX (.iface t z)/\Q t z o))
 (HQ:Hid (∀W t z,Q t z W->KX w r s d m g n c W/\W.cell? (aH g d)=some (.iface O Z)))
 (HM:Hid (∀W W' t z,Q t z W->aU W W'->Calls prog 257 #[.pointer (some (aH r s)),I_ m] W' λe o=>∃x y,e=aX (.slice x m y)/\R t z x y o))
 (HR:Hid (∀W t z x y,R t z x y W->KX w r s d m g n c W/\W.cell? (aH g d)=some (.iface O Z)))
 (HV:Hid (∀W t z x y,R t z x y W->Calls prog 285 #[.iface O Z,.slice x m y,.iface t z] W λe o=>(∃I H,e=aX (.iface I H)/\U I H o)\/(e=fQ k/\S o)))
 (HU:Hid (∀W t z,U t z W->KX w r s d m g n c W/\(∃u,W.cell? (aH g d)=some u)/\W.frozen? (aH g d)=false/\g<W.heap.size/\KX w r s d m g n c (W.setCell (aH g d) (.iface t z))))
 (HN:Hid (∀W t z,U t z W->P (W.setCell (aH g d) (.iface t z)))):
 Calls prog 284 #[.agg #[I_ d,I_ m],aZ sb] w λe o=>(e=aX (.tuple #[])/\P o)\/(e=fQ k/\S o):=by
 have HW:=aB hW;have e1:(0:Int)<=(d:Int):=o_
 have e2:(d:Int)<(n:Int):=o_
 clear hW;go_in
 go_wp2_with fail;rw[HW.out];refine(HT _ (aU.refl _)).mono ?_;rintro e w1 ⟨rfl,T⟩;go_wp2_with fail;refine(HP _ T).mono ?_;rintro e L ⟨t,z,rfl,M⟩;have F:=aB M;have N:=HQ _ _ _ M;have G:=N.1.same (aU.drew L);have ab:=bN (aU.drew L).heap N.2;clear N M;go_wp2_with fail;refine wp_region_held_drew (S:=λW=>W.cell? (aH w.heap.size 0)=some (I_ d)/\W.cell? (aH w.heap.size 1)=some (I_ m)/\W.cell? (aH r (s+4))=some (.slice (some (aH g 0)) n c)) k_ G (λa=>?_)
 (refine wpAnyH_take (i:=0) (v:=?_) rfl k_ k_ k_ (λ_ _ _ h=>h) (d7 ⟨r_,?_⟩) a ?_;rotate_left;(intro w b;(try dsimp only at b);go_simp<;>with_reducible rfl))
 (refine wpAnyH_take (i:=1) (v:=?_) rfl k_ k_ k_ (λ_ _ _ h=>h) (d7 ⟨r_,?_⟩) a ?_;rotate_left;(intro w b;(try dsimp only at b);go_simp<;>with_reducible rfl))
 (refine wpAnyH_take (i:=2) (v:=?_) rfl k_ k_ k_ (λ_ _ _ h=>h) (d7 ⟨r_,?_⟩) a ?_;rotate_left;(intro w b;(try dsimp only at b);go_simp<;>with_reducible rfl))
 (refine wpAnyH_take (i:=4) (v:=?_) rfl k_ k_ k_ (λ_ _ _ h=>h) (d7 ⟨r_,?_⟩) a ?_;rotate_left;(intro w b;(try dsimp only at b);go_simp<;>with_reducible rfl))
 (refine wpAnyH_take (i:=6) (v:=?_) rfl k_ k_ k_ (λ_ _ _ h=>h) (d7 ⟨r_,?_⟩) a ?_;rotate_left;(intro w b;(try dsimp only at b);go_simp<;>with_reducible rfl))
 (refine wpAnyH_take (i:=7) (v:=?_) rfl k_ k_ k_ (λ_ _ _ h=>h) (d7 ⟨r_,?_⟩) a ?_;rotate_left;(intro w b;(try dsimp only at b);go_simp<;>with_reducible rfl))
 (refine wpAnyH_take (i:=8) (v:=?_) rfl k_ k_ k_ (λ_ _ _ h=>h) (d7 ⟨r_,?_⟩) a ?_;rotate_left;(intro w b;(try dsimp only at b);go_simp<;>with_reducible rfl))
 (refine wpAnyH_take (i:=10) (v:=?_) rfl k_ k_ k_ (λ_ _ _ h=>h) (d7 ⟨r_,?_⟩) a ?_;rotate_left;(intro w b;(try dsimp only at b);go_simp<;>with_reducible rfl))
 (refine wpAnyH_take (i:=14) (v:=?_) rfl k_ k_ k_ (λ_ _ _ h=>h) (d7 ⟨r_,?_⟩) a ?_;rotate_left;(intro w b;(try dsimp only at b);go_simp<;>with_reducible rfl))
 (refine wpAnyH_take (i:=15) (v:=?_) rfl k_ k_ k_ (λ_ _ _ h=>h) (d7 ⟨r_,?_⟩) a ?_;rotate_left;(intro w b;(try dsimp only at b);go_simp<;>with_reducible rfl))
 (refine wpAnyH_take (i:=18) (v:=?_) rfl k_ k_ k_ (λ_ _ _ h=>h) (d7 ⟨r_,?_⟩) a ?_;rotate_left;(intro w b;(try dsimp only at b);go_simp<;>with_reducible rfl))
 (refine wpAnyH_take (i:=3) (v:=?_) rfl k_ k_ k_ (λ_ _ _ h=>h) (d7 ⟨r_,?_⟩) a ?_;rotate_left;(intro w b;(try dsimp only at b);go_simp<;>with_reducible rfl))
 (refine wpAnyH_take (i:=5) (v:=?_) rfl k_ k_ k_ (λ_ _ _ h=>h) (d7 ⟨r_,?_⟩) a ?_;rotate_left;(intro w b;(try dsimp only at b);go_simp<;>with_reducible rfl))
 (refine wpAnyH_take (i:=9) (v:=?_) rfl k_ k_ k_ (λ_ _ _ h=>h) (d7 ⟨r_,?_⟩) a ?_;rotate_left;(intro w b;(try dsimp only at b);go_simp<;>with_reducible rfl))
 (refine wpAnyH_take (i:=11) (v:=?_) rfl k_ k_ k_ (λ_ _ _ h=>h) (d7 ⟨r_,?_⟩) a ?_;rotate_left;(intro w b;(try dsimp only at b);go_simp<;>with_reducible rfl))
 (refine wpAnyH_take (i:=12) (v:=?_) rfl k_ k_ k_ (λ_ _ _ h=>h) (d7 ⟨r_,?_⟩) a ?_;rotate_left;(intro w b;(try dsimp only at b);go_simp<;>with_reducible rfl))
 (refine wpAnyH_take (i:=16) (v:=?_) rfl k_ k_ k_ (λ_ _ _ h=>h) (d7 ⟨r_,?_⟩) a ?_;rotate_left;(intro w b;(try dsimp only at b);go_simp<;>with_reducible rfl))
 refine wpAnyH_ready (rs:=[13,17]) k_ s_ ?_
 refine AllReadyH.cons rfl (λK j=>?_) (AllReadyH.cons rfl (λK j=>?_) AllReadyH.nil)
 ·go_simp;refine j.out _ _ G (λa=>?_)
  clear j K;refine wpAnyH_ready (rs:=[17]) k_ s_ ?_
  refine AllReadyH.cons rfl (λK j=>?_) AllReadyH.nil
  go_simp;go_at_call 257
  refine(HM _ _ _ _ F (aU.drew L)).mono ?_;rintro e w3 ⟨x,y,rfl,E⟩;have C:=aB E;have l:=HR _ _ _ _ _ E;have q:=l.1;have aa:=l.2;clear l E;go_wp2_with fail;refine j.out _ _ q (λa=>?_)
  clear j K;refine wpAnyH_ready (rs:=[19]) k_ s_ ?_
  refine AllReadyH.cons rfl (λK j=>?_) AllReadyH.nil
  go_simp;go_at_call 285
  refine(HV _ _ _ _ _ C).mono ?_;rintro e w4 (⟨I,H,rfl,p⟩|⟨rfl,p⟩)
  rotate_left
  exact⟨rfl,d6 ⟨rfl,p⟩⟩;have B:=aB p;have f:=HU _ _ _ p;have D:=f.1;obtain⟨u4,V⟩:=f.2.1;have X:=f.2.2.1;have Y:=f.2.2.2.1;have A:=f.2.2.2.2;clear f p;go_wp2_with fail;refine j.out _ _ D (λa=>?_)
  clear j K;refine wpAnyH_take (i:=20) (v:=?_) rfl k_ k_ k_ (λ_ _ _ h=>h) (d7 ⟨r_,?_⟩) a ?_
  rotate_left
  ·intro w b;(try dsimp only at b);go_simp<;>with_reducible rfl
  refine wpAnyH_ready (rs:=[21]) k_ s_ ?_
  refine AllReadyH.cons rfl (λK j=>?_) AllReadyH.nil
  go_simp;refine j.out _ _ A (λa=>?_)
  clear j K;refine wpAnyH_done k_ ?_ _
  go_wp2
  go_end0;exact d7 ⟨rfl,HN _ _ _ B⟩
 ·go_simp;go_at_call 257
  refine(HM _ _ _ _ F (aU.drew L)).mono ?_;rintro e w3 ⟨x,y,rfl,E⟩;have C:=aB E;have l:=HR _ _ _ _ _ E;have q:=l.1;have aa:=l.2;clear l E;go_wp2_with fail;refine j.out _ _ q (λa=>?_)
  clear j K;refine wpAnyH_ready (rs:=[13]) k_ s_ ?_
  refine AllReadyH.cons rfl (λK j=>?_) AllReadyH.nil
  go_simp;refine j.out _ _ q (λa=>?_)
  clear j K;refine wpAnyH_ready (rs:=[19]) k_ s_ ?_
  refine AllReadyH.cons rfl (λK j=>?_) AllReadyH.nil
  go_simp;go_at_call 285
  refine(HV _ _ _ _ _ C).mono ?_;rintro e w4 (⟨I,H,rfl,p⟩|⟨rfl,p⟩)
  rotate_left
  exact⟨rfl,d6 ⟨rfl,p⟩⟩;have B:=aB p;have f:=HU _ _ _ p;have D:=f.1;obtain⟨u4,V⟩:=f.2.1;have X:=f.2.2.1;have Y:=f.2.2.2.1;have A:=f.2.2.2.2;clear f p;go_wp2_with fail;refine j.out _ _ D (λa=>?_)
  clear j K;refine wpAnyH_take (i:=20) (v:=?_) rfl k_ k_ k_ (λ_ _ _ h=>h) (d7 ⟨r_,?_⟩) a ?_
  rotate_left
  ·intro w b;(try dsimp only at b);go_simp<;>with_reducible rfl
  refine wpAnyH_ready (rs:=[21]) k_ s_ ?_
  refine AllReadyH.cons rfl (λK j=>?_) AllReadyH.nil
  go_simp;refine j.out _ _ A (λa=>?_)
  clear j K;refine wpAnyH_done k_ ?_ _
  go_wp2
  go_end0;exact d7 ⟨rfl,HN _ _ _ B⟩
def IxR.ofRow{F:bY}{b_:Nat}{v:aQ}{xs:List Value}{l:List aM}(h:w.ownsRow b_ 136 1 v l.length xs)(n:gP F w xs l):IxR F w v l:=by
 rcases h.2 with ⟨a,d⟩|⟨g,c,m,a,d,b,f,q,p,j⟩
 ·exact d7 ⟨ja.1 d,none,0,by rw[a]⟩
 ·refine d6 ⟨g,0,c,a,f,aC b,λi o=>?_⟩
  obtain⟨u,e,k⟩:=n.2 i o;refine⟨u,aA b ?_,k⟩;rw[<-j,ga,if_pos o_] at e
  simpa using e
section
variable {fp:eK} {F:bY} {b_:Nat} {w:aG} {sb gf cap:Nat} {t0 tv u_ s0:aQ} {v_:List FVal} {w_:List aJ} {f:aJ} {tape:List Int} {out:cN}
def dA.popManyR{fb:List FVal}{v:FVal}{vs us:List aM}(h:dA false fp F b_ w sb gf cap t0 tv u_ s0 (fb++[v]) ⟨w_++[f],tape,out⟩)(J:f.ops=vs++us)(u:f.ops.length<=100000):
 Calls prog 257 #[.pointer (some (aH gf (fb.length*6))),I_ us.length] w λe t=>∃x y c,e=aX (.slice x us.length y)/\c.ownBlock=v.ov.ownBlock/\IxR F t (.slice x us.length y) us/\(∀a∈us,aO a<=200)/\
  dA false fp F b_ t sb gf cap t0 tv u_ s0 (fb++[{ v with ov:=c }]) ⟨w_++[f.popMany us.length],tape,out⟩/\Kept (aR false sb gf u_ (fb++[v])) w t/\∀k,k<w.heap.size->k≠gf->t.heap[k]?=w.heap[k]?:=by
 obtain⟨Y,v0,I,e,Z,P,Q,p,N,k0,k1,k2,k3,k4,W⟩:=h.top;obtain⟨rfl,X⟩:=ib e rfl;cases X;obtain⟨⟨xs,i,z⟩,g⟩:=P.ops;rw[J] at i z g;obtain⟨r,O,rfl,L,G,H,s⟩:=z.split;rw[J,el] at u;rw[el] at i;refine(xJ b_ gf (fb.length*6) vs.length us.length I v.ov r O w p W i L G (qA s) o_).mono ?_
 rintro e t ⟨S,c,C,he,q,K,rfl,T,B⟩;have n:(f.popMany us.length).ops=vs:=by simp[aJ.popMany,J]
 have M:=h.grow q dP (λ_ h=>d7 h)
 have D:QH false fp F b_ C { v with ov:=c } (f.popMany us.length):=by
  have m:∀b,F b->C.heap[b]?=w.heap[b]?:=λb o=>q.block b (h.apart b o).1
  have A:∀k∈(v.ownX false),k<w.heap.size:=λk m=>h.lt k (by simp[aR,cB,m])
  have l:=P.keep m dP λk hm=>q.block k (A k hm)
  refine⟨l.fn,l.nx,l.ln,l.sp,l.g_,⟨r,?_,?_⟩,λb o=>g b (fk _ (by rw[n] at o;exact o))⟩
  ·rw[n];exact aY T λk e=>q.block k (A k (by rw[B] at e;simp[FVal.ownX,e]))
  ·rw[n];exact H.keep m
 obtain⟨V,q2⟩:=M.setTop (j:=5) (x:=c) (v':={ v with ov:=c }) o_ rfl (by simp[FVal.ownX,B]) D
 have U:gf<w.heap.size:=aC p
 have E:∀k,F k->(C.setCell (aH gf (fb.length*6+5)) c).heap[k]?=w.heap[k]?:=λk m=>by
  rw[ei _ _ _ _ λe=>(h.apart k m).2 (by simp[aR,e]),q.block k (h.apart k m).1]
 obtain⟨x,d,rfl⟩:=dE K;refine⟨x,d,c,he,B,IxR.ofRow (b_:=w.heap.size) (xs:=O) (aY K λk m=>ei _ _ _ _ ?_) (s.keep E),λa ha=>g a (fq _ ha),V,(Kept.of_below q).trans q2 λx hx=>d7 hx,λk m hn=>by rw[ei _ _ _ _ hn,q.block k m]⟩
 have:=cT K k m;show k≠gf
 omega
def dA.assigned{fb:List FVal}{v:FVal}{g n c d:Nat}{u:aQ}{a:aM}(h:dA false fp F b_ w sb gf cap t0 tv u_ s0 (fb++[v]) ⟨w_++[f],tape,out⟩)(j:v.vv=.slice (some (aH g 0)) n c)(Y:PV F w u a)(C:aO a<=200):
 dA false fp F b_ (w.setCell (aH g d) u) sb gf cap t0 tv u_ s0 (fb++[v]) ⟨w_++[{ f with g_:=f.g_.set d a }],tape,out⟩/\Kept (aR false sb gf u_ (fb++[v])) w (w.setCell (aH g d) u):=by
 obtain⟨V,v0,U,e,W,x,L,J,I,k0,k1,k2,k3,k4,k5⟩:=h.top;obtain⟨rfl,S⟩:=ib e rfl;cases S;have z:v.vv.ownBlock=some g:=by rw[j];rfl
 have m:g∈(v.ownX false):=by simp[FVal.ownX,z]
 have r:∀k∈(v.ownX false),k∈aR false sb gf u_ (fb++[v]):=λk i=>by simp[aR,cB,i]
 have H:gf∉(v.ownX false):=λB=>by
  have:=(e7.1 (e7.1 h.nodup).2).1;exact this (by simp[cB,B])
 have l:(v.ownX false).Nodup:=by
  have t:=h.nodup;have:aR false sb gf u_ (fb++[v])=(sb::gf::(u_.ownBlock.toList++cB false fb))++(v.ownX false):=by simp[aR,cB]
  rw[this] at t;exact(gt.1 t).2.1
 have i:∀k,k≠g->(w.setCell (aH g d) u).heap[k]?=w.heap[k]?:=λk i=>ei _ _ _ _ i
 have o:∀b,F b->(w.setCell (aH g d) u).heap[b]?=w.heap[b]?:=λb D=>i b λe=>(h.apart b D).2 (r b (by rw[e];exact m))
 have y:∀k,v.ov.ownBlock=some k->k≠g:=λk i e=>by
  unfold FVal.ownX at l;rw[i,z,e] at l;simp at l
 have q:=h.row;rw[show (fb++[v]).length=fb.length+1 by simp] at q
 obtain⟨⟨X,p,E⟩,s⟩:=x.g_;refine⟨h.step (G:=F) s_ (λk _ _ Z=>i k λe=>Z (by rw[e];exact m)) (aY q λk e=>i k ?_) ?_ (λk B=>⟨ej (h.lt k (r k B)) s_,d7 B⟩) l dP (λ_ h=>d7 h),⟨rfl,rfl,rfl,s_,λk _ hn=>i k λe=>hn (r k (by rw[e];exact m))⟩⟩
 ·cases e;exact λe=>H (by have Q:gf=g:=e;rw[Q];exact m)
 ·refine⟨x.fn.keep o dP,x.nx,x.ln,eF.keep o dP x.sp,⟨⟨X.set d u,?_,(gP.set E d Y).keep o⟩,λb D=>?_⟩,x.ops.keep o dP λk e=>i k (y k e)⟩
  ·rcases p.2 with ⟨A,K⟩|⟨g',c',aa,A,K,M,O,T,N,P⟩
   ·rw[A] at j;cases j
   ·rw[j] at A;cases A;refine⟨by simp[p.1],d6 ⟨g,c,_,?_,K,aK M,by simpa using O,T,by simpa using N,?_⟩⟩
    ·show v.vv=_
     rw[j];simp
    ·show List.take ((f.g_.set d a).length*1) _=_
     rw[jy,jz,im,P]
  ·rcases kr D with t|t
   ·exact s b t
   ·rw[t];exact C
def tP(fp:eK)(F:bY)(b_ sb gf cap:Nat)(t0 tv u_ s0:aQ)(fb:List FVal)(v:FVal)(w_:List aJ)(f:aJ)(tape:List Int)(out:cN)(w0:aG)(W:aG):Prop:=
 ∃ov',ov'.ownBlock=v.ov.ownBlock/\dA false fp F b_ W sb gf cap t0 tv u_ s0 (fb++[{ v with ov:=ov' }]) ⟨w_++[f],tape,out⟩/\Kept (aR false sb gf u_ (fb++[v])) w0 W/\∀k,k<w0.heap.size->k≠gf->W.heap[k]?=w0.heap[k]?
def tP.grow{G:bY}{fb:List FVal}{v:FVal}{d W W':aG}(h:tP fp F b_ sb gf cap t0 tv u_ s0 fb v w_ f tape out d W)(a:Below W.heap.size W W')(l:∀k,F k->G k)(m:∀k,G k->F k\/(W.heap.size<=k/\k<W'.heap.size)):tP fp G b_ sb gf cap t0 tv u_ s0 fb v w_ f tape out d W':=by
 obtain⟨b,j,g,e,i⟩:=h;exact⟨b,j,g.grow a l m,e.trans (Kept.of_below (own:=[]) a) (λx n=>by simp at n),λk c o=>by rw[a.block k (ej c e.size),i k c o]⟩
def tP.reads{fb:List FVal}{v:FVal}{k W:aG}{g n c d m:Nat}{x:aQ}(h:tP fp F b_ sb gf cap t0 tv u_ s0 fb v w_ f tape out k W)(C:gf<w.heap.size)(b:k=w.alloc (.cells #[I_ d,I_ m] 323))(r:v.vv=.slice (some (aH g 0)) n c)(M:g<w.heap.size)(j:g≠gf)(H:k.cell? (aH g d)=some x):
 KX w gf (fb.length*6) d m g n c W/\W.cell? (aH g d)=some x/\∀u,KX w gf (fb.length*6) d m g n c (W.setCell (aH g d) u):=by
 obtain⟨q,P,B,S,s⟩:=h;obtain⟨E,J,D,e,G,U,A,i,t,O,L,T,N,K,Q⟩:=B.top;obtain⟨rfl,o⟩:=ib e rfl;have I:J={ v with ov:=q }:=by simpa using o.symm
 subst I
 have a:W.heap[w.heap.size]?=some (.cells #[I_ d,I_ m] 323 (0,0)):=by
  rw[s _ (by rw[b];simp) o_,b];exact aN _ _ rfl _
 have p:W.heap[g]?=k.heap[g]?:=s g (by rw[b];simp;omega) j
 have z:∀l:aG,l.heap[w.heap.size]?=W.heap[w.heap.size]?->l.heap[gf]?=W.heap[gf]?->KX w gf (fb.length*6) d m g n c l:=λl y o=>by
  refine⟨aA (y.trans a) rfl,aA (y.trans a) rfl,aA (o.trans i) ?_⟩;rw[K,<-r]
 exact⟨z W rfl rfl,by rw[World.cell?_of_block p];exact H,λu=>z _ (ei _ _ _ _ (by show w.heap.size≠g;omega)) (ei _ _ _ _ (λe=>j e.symm))⟩
def tP.done{G:bY}{fb:List FVal}{v:FVal}{W:aG}{a:Obj}{b:aJ}(h:tP fp G b_ sb gf cap t0 tv u_ s0 fb v w_ b tape out (w.alloc a) W)(i:Ext F G w.heap.size):Done fp F b_ sb t0 s0 (aR false sb gf u_ (fb++[v])) w ⟨w_++[b],tape,out⟩ W:=by
 obtain⟨g,e,d,f,j⟩:=h;exact⟨(Kept.of_below (own:=aR false sb gf u_ (fb++[v])) ((eh _ w).alloc cL a)).trans f λ_ h=>d7 h,G,gf,cap,tv,u_,_,i,d,λk c=>d7 (by simpa [aR,cB,FVal.ownX,e] using c)⟩
def Z1(d:Nat)(vs us:List aM)(b:aM)(h:dA false fp F b_ w sb gf cap t0 tv u_ s0 v_ ⟨w_++[f],tape,out⟩)(aa:w_.length<=15)(O:b_<=w.heap.size)(H:f.ops.length<=99000)(hf:f.ops=vs++us++[b])(hd:d<f.g_.length):
 Calls prog 284 #[.agg #[I_ d,I_ us.length],aZ sb] w (DoP fp F b_ sb t0 s0 (aR false sb gf u_ v_) w w_ tape out (aL (.assign d us.length) f)):=by
 have hM:=h.mid O (.cells #[I_ d,I_ us.length] 323);obtain⟨o,v,al,rfl,am, -⟩:=h.top;have L:gf<w.heap.size:=h.lt gf (by simp[aR])
 have h0:=h.grow ((eh _ w).alloc cL (.cells #[I_ d,I_ us.length] 323)) dP (λ_ h=>d7 h)
 have hT:=hM.topS aa;rw[<-am] at hT;obtain⟨az,v0,al,e, -,hv,ad,ai,av,k0,k1,k2,k3,k4,k5⟩:=h0.top;obtain⟨rfl,e2⟩:=ib e rfl;cases e2;generalize m:w.alloc (.cells #[I_ d,I_ us.length] 323)=T at h0 hT hv ad ai;obtain⟨⟨xs,af,au⟩,Q⟩:=hv.g_
 have aq:v.vv.ownBlock≠some gf:=λe=>by
  have:=(e7.1 (e7.1 h.nodup).2).1;exact this (by simp[cB,FVal.ownX,e])
 obtain⟨u,ag,V⟩:=au.2 d hd;obtain⟨ta,za,rfl⟩:=V.form;have P:f.pop.ops=vs++us:=nN (by rw[hf])
 have M:f.pop.many us.length=us:=by simp[aJ.many,P]
 have S:f.last=b:=jS (by rw[hf])
 have aw:vs.length+us.length+1<=99000:=by rw[hf] at H;simp at H;omega
 have ak:f.g_[d]?.getD bS=f.g_[d]:=by rw[fh hd];rfl
 obtain⟨r,hr⟩:=E_ (oO f.g_[d] us b)
 have ae:aL (.assign d us.length) f=if r.2=0 then ({ f.pop.popMany us.length with g_:=f.g_.set d r.1 },0) else (f.pop.popMany us.length,r.2):=by
  simp only[aL,M,S,ak,<-hr]
 have ao:r.2=0->aO r.1<=200:=λn=>by rw[hr] at n ⊢;exact TE _ n
 rw[ae];rcases af.2 with ⟨U,r2⟩|⟨g,c,ab,U,ay,J,ax,bb,ba,ar⟩
 ·omega
 have aj:v.vv.ownBlock=some g:=by rw[U];rfl
 have B:g≠gf:=λe=>aq (by rw[aj,e])
 have N:g<w.heap.size:=h.lt g (by simp[aR,cB,FVal.ownX,aj])
 have ap:ab[d]?=some (.iface ta za):=by
  rw[<-ar,ga,if_pos o_] at ag
  simpa using ag
 have Y:T.cell? (aH g d)=some (.iface ta za):=aA J ap
 have ac:∀{W:aG} {f':aJ},tP fp F b_ sb gf cap t0 tv u_ s0 o v w_ f' tape out T W->∀k,F k->k<W.heap.size:=λi k j=>by
  obtain⟨_,_,p,_⟩:=i;exact(p.apart k j).1
 have ah:∀{W:aG} {f':aJ},tP fp F b_ sb gf cap t0 tv u_ s0 o v w_ f' tape out T W->PV F W (.iface ta za) f.g_[d]:=λi=>by
  obtain⟨_,_,_,s,I⟩:=i;exact V.keep λk j=>I k (by rw[<-m];exact ej (h.apart k j).1 s_) λe=>(h.apart k j).2 (by simp[aR,e])
 refine(KS w T sb gf (o.length*6) d us.length g f.g_.length c r.2 ta za hd
  (λK=>r.2=0/\Done fp F b_ sb t0 s0 (aR false sb gf u_ (o++[v])) w ⟨w_++[{ f.pop.popMany us.length with g_:=f.g_.set d r.1 }],tape,out⟩ K)
  (λK=>r.2≠0/\Done fp F b_ sb t0 s0 (aR false sb gf u_ (o++[v])) w ⟨w_++[f.pop.popMany us.length],tape,out⟩ K)
  (λt z W=>(PV F W (.iface t z) b/\aO b<=200)/\tP fp F b_ sb gf cap t0 tv u_ s0 o v w_ f.pop tape out T W)
  (λt z x y W=>((PV F W (.iface t z) b/\aO b<=200)/\IxR F W (.slice x us.length y) us)/\tP fp F b_ sb gf cap t0 tv u_ s0 o v w_ (f.pop.popMany us.length) tape out T W)
  (λt z W=>r.2=0/\∃G,Ext F G w.heap.size/\PV G W (.iface t z) r.1/\tP fp G b_ sb gf cap t0 tv u_ s0 o v w_ (f.pop.popMany us.length) tape out T W)
  m hT (λW D=>?_) (λW t z i=>?_) (λW W' t z i D=>?_) (λW t z x y i=>?_) (λW t z x y i=>?_) (λW t z i=>?_) (λW t z i=>?_)).mono ?_
 ·refine((h0.grow D.below dP (λ_ h=>d7 h)).popR (vs:=vs++us) (a:=b) (by rw[hf]) o_).mono ?_
  rintro e K ⟨t,z,q,he,n,p,s,I,h5,h6⟩;exact⟨t,z,he,⟨n,p⟩,q,s,I,(Kept.of_below (own:=aR false sb gf u_ (o++[v])) D.below).trans h5 λ_ h=>d7 h,λk _ j=>by rw[h6 k j,D.heap]⟩
 ·obtain⟨_,i⟩:=i;obtain⟨C,A,_⟩:=i.reads L m.symm U N B Y;exact⟨C,A⟩
 ·obtain⟨⟨p1,p2⟩,q,n,p,s,I⟩:=i;refine((p.grow D.below dP (λ_ h=>d7 h)).popManyR (vs:=vs) (us:=us) P (by rw[P,el];omega)).mono ?_
  rintro e K ⟨x,y,an,he,C,A,q3,q4,q5,q6⟩;have l:aR false sb gf u_ (o++[{ v with ov:=q }])=aR false sb gf u_ (o++[v]):=by simp[aR,cB,FVal.ownX,n]
  rw[l] at q5;have X:W.heap.size=W'.heap.size:=by rw[D.heap]
  refine⟨x,y,he,⟨⟨p1.keep λk j=>?_,p2⟩,A⟩,an,by rw[C,n],q4,(s.trans (Kept.of_below (own:=[]) D.below) (λx Y=>by simp at Y)).trans q5 λ_ h=>d7 h,λk j hn=>by rw[q6 k (by rw[<-X];exact ej j s.size) hn,D.heap,I k j hn]⟩
  rw[q6 k (by rw[<-X];exact(p.apart k j).1) (λe=>(p.apart k j).2 (by simp[aR,e])),D.heap]
 ·obtain⟨_,i⟩:=i;obtain⟨C,A,_⟩:=i.reads L m.symm U N B Y;exact⟨C,A⟩
 ·obtain⟨⟨⟨p1,p2⟩,p3⟩,i⟩:=i;refine(SJ F us _ _ _ f.g_[d] b W p3 (ah i) p1 (ac i) (em (Q _ (fo hd)) o_) o_ o_).mono ?_
  rintro e K ⟨hb,⟨Z,u,rfl,e3⟩|⟨Z,e2⟩⟩
  ·rw[<-hr] at Z e3;obtain⟨t1,z1,rfl⟩:=e3.form;exact d7 ⟨t1,z1,rfl,Z,Grow F W K,⟨λk j=>d7 j,λk j=>j.imp_right λn=>em (by obtain⟨_,_,_,s,_⟩:=i;rw[<-m] at s;exact em s_ s.size) n.1⟩,e3,i.grow hb (λk j=>d7 j) (λk j=>j)⟩
  ·rw[<-hr] at Z e2;subst m;exact d6 ⟨e2,Z,(i.grow hb dP (λ_ h=>d7 h)).done (Ext.refl _ _)⟩
 ·obtain⟨_,G,hG,_,i⟩:=i;obtain⟨C,A,q3⟩:=i.reads L m.symm U N B Y;obtain⟨_,_,_,_,I⟩:=i;have E:W.heap[g]?=some (.cells ab 136 (0,0)):=by rw[I g (by rw[<-m];simp;omega) B];exact J
  exact⟨C,⟨_,A⟩,aD E,aC E,q3 _⟩
 ·obtain⟨hz,G,hG,p1,q,n,p,s,I⟩:=i;obtain⟨C,A⟩:=p.assigned (d:=d) (a:=r.1) (u:=.iface t z) U p1 (ao hz);have l:aR false sb gf u_ (o++[{ v with ov:=q }])=aR false sb gf u_ (o++[v]):=by simp[aR,cB,FVal.ownX,n]
  rw[l] at A;subst m;refine⟨hz,((Kept.of_below (own:=aR false sb gf u_ (o++[v])) ((eh _ w).alloc cL _)).trans s λ_ h=>d7 h).trans A λ_ h=>d7 h,G,gf,cap,tv,u_,_,hG,C,λk j=>d7 (by rw[l] at j;exact j)⟩
 ·rintro e K (⟨rfl,n,p⟩|⟨rfl,n,p⟩)
  ·exact DoP.ok (if_pos n) p
  ·exact DoP.stop (if_neg n) n p
end
def OE(w l:aG)(sb A C b_ n c:Nat)(x:Option Addr)(tx:cC)(hn:n<50)(P:World->Prop)(Q:TypeId->Value->World->Prop)(R:World->Prop)(xs:List Value)(B:w.alloc (.cells #[] 326)=l)
 (U:Hid (∀W,aU l W->Calls prog 74 #[aZ sb] W λe f=>e=aX (.pointer (some (aH A C)))/\aU l f))
 (T:Hid (∀W,aU l W->Calls prog 87 #[.pointer (some (aH A C))] W λe f=>∃t z,e=aX (.iface t z)/\Q t z f))
 (F:Hid (∀W t z,Q t z W->W.cell? (aH sb 3)=some (.slice x n c)/\sb<W.heap.size))
 (O:Hid (∀W D t z,Q t z W->aU W D->Calls prog 289 #[.iface t z] D λe f=>e=aX (.string (bs tx))/\R f))
 (H:Hid (∀W,R W->W.cell? (aH sb 3)=some (.slice x n c)/\sb<W.heap.size/\b_<=W.heap.size))
 (K:Hid (∀W,R W->W.ownsRow b_ 9 1 (.slice x n c) n xs))
 (G:Hid (∀W,R W->∀d:aG,(W.alloc (.cells #[.string (bs tx)] 9)).grownBy d (Value.slice x n c).ownBlock->(∃u,d.cell? (aH sb 3)=some u)/\d.frozen? (aH sb 3)=false/\sb<d.heap.size))
 (L:Hid (∀W,R W->∀j b (d:aG),d.ownsRow b_ 9 1 (.slice (some (aH j 0)) (n+1) b) (n+1) (xs++[.string (bs tx)])->(W.alloc (.cells #[.string (bs tx)] 9)).grownBy d (Value.slice x n c).ownBlock->((Value.slice x n c).ownBlock=some j\/W.heap.size+1<=j)->P (d.setCell (aH sb 3) (.slice (some (aH j 0)) (n+1) b)))):
 Calls prog 288 #[.agg #[],aZ sb] w λe f=>e=aX (.tuple #[])/\P f:=by
 obtain⟨J,M,p,r,s⟩:=info_parts xI;have N:=aB B;have E:¬(n:Int)=50:=o_
 clear B;go_in
 go_wp2_with fail;rw[N.out];refine(U _ (aU.refl _)).mono ?_;rintro e V ⟨rfl,v⟩;go_wp2_with fail;refine(T _ v).mono ?_;rintro e w2 ⟨t,z,rfl,m⟩;obtain⟨c1,l1⟩:=F _ _ _ m;have q:=aB m;clear m;go_wp2_with fail;go_region_law (first|(go_simp;go_at_call 289;refine(O _ _ _ _ q (aU.drew _)).mono ?_;rintro e o ⟨rfl,y⟩;have g:=aB y;have k:=H _ y;have X:=k.1;have b2:=k.2.1;have Y:=k.2.2;clear k y)|(refine step_append_lies _ r_ _ _ 32 r_ b_ 9 J _ 1 16 underlying32 M p r s rfl d_ (.slice x n c) n xs r_ ((K _ g).alloc _) (aH o.heap.size 0) 1 1 [.string (bs tx)] r_ r_ (zC o _) (FR _) d_ (by unfold maxLen;omega) o_ t_ (o.heap.size+1) s_ ?_;intro j b d h a i S;have I:=G _ g d a;obtain⟨⟨u5,Z⟩,y2,y3⟩:=I))
 all_goals
  go_wp2
  go_end0;exact⟨rfl,L _ g _ _ _ h a (i.imp_right λe=>jl e.symm)⟩
def OF(w b:aG)(sb h j c:Nat)(x:Option Addr)(P:World->Prop)(Q:TypeId->Value->World->Prop)(i:w.alloc (.cells #[] 326)=b)
 (o:Hid (∀W,aU b W->Calls prog 74 #[aZ sb] W λe a=>e=aX (.pointer (some (aH h j)))/\aU b a))
 (n:Hid (∀W,aU b W->Calls prog 87 #[.pointer (some (aH h j))] W λe a=>∃t z,e=aX (.iface t z)/\Q t z a))
 (k:Hid (∀W t z,Q t z W->W.cell? (aH sb 3)=some (.slice x 50 c)/\sb<W.heap.size))
 (l:Hid (∀W t z,Q t z W->P W)):
 Calls prog 288 #[.agg #[],aZ sb] w λe a=>e=fQ 8/\P a:=by
 have m:=aB i;clear i;go_in
 go_wp2_with fail;rw[m.out];refine(o _ (aU.refl _)).mono ?_;rintro e p ⟨rfl,g⟩;go_wp2_with fail;refine(n _ g).mono ?_;rintro e s ⟨t,z,rfl,d⟩;obtain⟨q,r⟩:=k _ _ _ d;have f:=aB d;clear d;go_wp2_with fail;exact⟨rfl,rfl,l _ _ _ f⟩
def DC(own:List Nat)(w:aG):Prop:=∀W,Kept own w W->kE W
def DC.step{own a:List Nat}{w':aG}(h:DC own w)(b:Kept own w w')(d:∀x∈a,x∈own\/w.heap.size<=x):DC a w':=λW c=>h W (b.trans c d)
section
variable {fp:eK} {F:bY} {b_:Nat} {w:aG} {sb gf cap:Nat} {t0 tv u_ s0:aQ} {v_:List FVal} {w_:List aJ} {f:aJ} {tape:List Int} {out:cN}
def dA.printed{m:cS}{j:aG}{Q:Obj}{i d:Nat}{tx:cC}(h:dA false fp F b_ w sb gf cap t0 tv u_ s0 v_ m)
 (J:j.ownsRow b_ 9 1 (.slice (some (aH i 0)) (m.out.length+1) d) (m.out.length+1) (mZ m.out++[.string (bs tx)])) (z:(w.alloc Q).grownBy j u_.ownBlock) (u:u_.ownBlock=some i\/w.heap.size+1<=i):
 dA false fp F b_ (j.setCell (aH sb 3) (.slice (some (aH i 0)) (m.out.length+1) d)) sb gf cap t0 tv (.slice (some (aH i 0)) (m.out.length+1) d) s0 v_ ⟨m.f_,m.tape,m.out++[tx]⟩/\Kept (aR false sb gf u_ v_) w (j.setCell (aH sb 3) (.slice (some (aH i 0)) (m.out.length+1) d))/\
  ∀k∈aR false sb gf (.slice (some (aH i 0)) (m.out.length+1) d) v_,k∈aR false sb gf u_ v_\/w.heap.size<=k:=by
 obtain⟨I,O⟩:=e7.1 h.nodup;obtain⟨K,N⟩:=e7.1 O;obtain⟨Z,T,U⟩:=gt.1 N
 have L:∀k,k<w.heap.size->some k≠u_.ownBlock->j.heap[k]?=w.heap[k]?:=λk x l=>by
  rw[z.block k t_ l,ek _ _ _ x]
 have p:∀k,k<w.heap.size->some k≠u_.ownBlock->k≠sb->(j.setCell (aH sb 3) (.slice (some (aH i 0)) (m.out.length+1) d)).heap[k]?=w.heap[k]?:=λk x l V=>by
  rw[ei _ _ _ _ V,L k x l]
 have t:sb<w.heap.size:=h.lt sb (by simp[aR])
 have s:some sb≠u_.ownBlock:=λe=>I (by simp[<-e])
 have r:some gf≠u_.ownBlock:=λe=>K (by simp[<-e])
 have B:gf≠sb:=λe=>I (by simp[e])
 have C:j.heap[sb]?=_:=(L sb t s).trans h.blk
 have g:∀k∈cB false v_,k<w.heap.size/\some k≠u_.ownBlock/\k≠sb/\k≠gf:=λk c=>
  ⟨h.lt k (by simp[aR,c]),λe=>U k (by simp[<-e]) k c rfl,λe=>I (by simp[<-e,c]),λe=>K (by simp[<-e,c])⟩
 have q:i≠sb/\i≠gf/\i∉cB false v_:=by
  rcases u with e|e
  ·exact⟨λH=>s (by rw[e,H]),λH=>r (by rw[e,H]),λc=>(g i c).2.1 e.symm⟩
  ·have W:gf<w.heap.size:=h.lt gf (by simp[aR])
   exact⟨o_,o_,λc=>by have:=(g i c).1;omega⟩
 have D:∀b,F b->(j.setCell (aH sb 3) (.slice (some (aH i 0)) (m.out.length+1) d)).heap[b]?=w.heap[b]?:=λb y=>
  p b (h.apart b y).1 (λe=>(h.apart b y).2 (by simp[aR,<-e])) λe=>(h.apart b y).2 (by simp[aR,e])
 have o:w.heap.size<=j.heap.size:=em s_ z.size
 have n:(Value.slice (some (aH i 0)) (m.out.length+1) d).ownBlock=some i:=rfl;have A:i<j.heap.size:=(J.lt i n).2;refine⟨⟨aK C,aY h.row λk e=>?_,h.frs.keep D dP λv X k f=>?_,h.tape.keep D dP,?_,?_,λk f=>?_,λk E=>?_⟩,⟨z.os.trans rfl,z.tape.trans rfl,z.output.trans rfl,by simpa using o,λk x l=>?_⟩,λk f=>?_⟩
 ·cases e;exact p gf (h.lt gf (by simp[aR])) r B
 ·have c:k∈cB false v_:=ig.2 ⟨v,X,f⟩;obtain⟨P,Y,S,_⟩:=g k c;exact p k P Y S
 ·rw[el];have e:mZ (m.out++[tx])=mZ m.out++[.string (bs tx)]:=by simp[mZ]
  rw[e];exact aY J λk G=>ei _ _ _ _ (by cases G;exact q.1)
 ·unfold aR;rw[n];refine e7.2 ⟨λc=>?_,e7.2 ⟨λc=>?_,gt.2 ⟨s_,T,λa M b y e=>?_⟩⟩⟩
  ·rcases eo.1 c with e|c
   ·exact B e.symm
   ·rcases eu.1 c with c|c
    ·simp at c;exact q.1 c.symm
    ·exact(g sb c).2.2.1 rfl
  ·rcases eu.1 c with c|c
   ·simp at c;exact q.2.1 c.symm
   ·exact(g gf c).2.2.2 rfl
  ·simp at M;subst e;exact q.2.2 (by rw[<-M];exact y)
 ·have:(j.setCell (aH sb 3) (.slice (some (aH i 0)) (m.out.length+1) d)).heap.size=j.heap.size:=s_
  rw[this];unfold aR at f;rw[n] at f;simp only[Option.toList_some,eo,eu,fi,or_false] at f;rcases f with rfl|rfl|rfl|c
  ·exact ej t o
  ·exact ej (h.lt _ (by simp[aR])) o
  ·exact A
  ·exact ej (g k c).1 o
 ·obtain⟨x,l⟩:=h.apart k E;refine⟨ej x (by simpa using o),λc=>?_⟩
  unfold aR at c;rw[n] at c;simp only[Option.toList_some,eo,eu,fi,or_false] at c;rcases c with rfl|rfl|rfl|c
  ·exact l (by simp[aR])
  ·exact l (by simp[aR])
  ·rcases u with e|e
   ·exact l (by simp[aR,e])
   ·omega
  ·exact l (by simp[aR,c])
 ·exact p k x (λe=>l (by simp[aR,<-e])) λe=>l (by simp[aR,e])
 ·unfold aR at f;rw[n] at f;simp only[Option.toList_some,eo,eu,fi,or_false] at f;rcases f with rfl|rfl|rfl|c
  ·exact d7 (by simp[aR])
  ·exact d7 (by simp[aR])
  ·rcases u with e|e
   ·exact d7 (by simp[aR,e])
   ·exact d6 o_
  ·exact d7 (by simp[aR,c])
def v8(r:List eV){vs:List aM}{b:aM}(h:dA false fp F b_ w sb gf cap t0 tv u_ s0 v_ ⟨w_++[f],tape,out⟩)(hp:DC (aR false sb gf u_ v_) w)(H:w_.length<=15)(i:b_<=w.heap.size)(Z:f.ops.length<=99000)(hf:f.ops=vs++[b])(ab:out.length<=50):
 Calls prog 288 #[.agg #[],aZ sb] w (DoM fp F b_ sb t0 s0 (aR false sb gf u_ v_) w (Hs.doI r .print w_ f tape out)):=by
 have hM:=h.mid i (.cells #[] 326);obtain⟨g,v,ac,rfl,T, -⟩:=h.top;have h0:=h.grow ((eh _ w).alloc cL (.cells #[] 326)) dP (λ_ h=>d7 h)
 have K:=hM.topS H;rw[<-T] at K;have n:Kept (aR false sb gf u_ (g++[v])) w (w.alloc (.cells #[] 326)):=Kept.of_below ((eh _ w).alloc cL _);generalize B:w.alloc (.cells #[] 326)=p at h0 K n;obtain⟨x,c,rfl⟩:=dE h.out;have s:f.last=b:=jS hf
 have X:Hid (∀W,aU p W->Calls prog 87 #[.pointer (some (aH gf (g.length*6)))] W λe m=>∃t z,e=aX (.iface t z)/\(PV F m (.iface t z) b/\aO b<=200/\tP fp F b_ sb gf cap t0 tv (.slice x out.length c) s0 g v w_ f.pop tape out p m)):=λW D=>by
  refine((h0.grow D.below dP (λ_ h=>d7 h)).popR hf o_).mono ?_
  rintro e m ⟨t,z,l,V,S,d,C,h4,h5,h6⟩;exact⟨t,z,V,S,d,l,C,h4,(Kept.of_below (own:=aR false sb gf (.slice x out.length c) (g++[v])) D.below).trans h5 λ_ h=>d7 h,λk _ E=>by rw[h6 k E,D.heap]⟩
 have j:∀{W:aG} {f':aJ},tP fp F b_ sb gf cap t0 tv (.slice x out.length c) s0 g v w_ f' tape out p W->W.cell? (aH sb 3)=some (.slice x out.length c)/\sb<W.heap.size/\b_<=W.heap.size/\Kept (aR false sb gf (.slice x out.length c) (g++[v])) w W:=λa=>by
  obtain⟨l,_,d,C,_⟩:=a;exact⟨aA d.blk rfl,aC d.blk,em i (em n.size C.size),n.trans C λ_ h=>d7 h⟩
 by_cases o:out.length=50
 ·rw[o] at j X;refine(OF w p sb gf (g.length*6) c x (λm=>Done fp F b_ sb t0 s0 (aR false sb gf (.slice x out.length c) (g++[v])) w ⟨w_++[f.pop],tape,out⟩ m) (λt z W=>PV F W (.iface t z) b/\aO b<=200/\tP fp F b_ sb gf cap t0 tv (.slice x 50 c) s0 g v w_ f.pop tape out p W) B K X (λW t z a=>?_) (λW t z a=>?_)).mono ?_
  ·obtain⟨y,q,_⟩:=j a.2.2;exact⟨y,q⟩
  ·subst B;rw[o];exact a.2.2.done (Ext.refl _ _)
  ·rintro e m ⟨rfl,d⟩;have U:Hs.doI r .print w_ f tape out=(⟨w_++[f.pop],tape,out⟩,8):=by simp[Hs.doI,o]
   rw[U];exact⟨d6 ⟨show (8:Nat)≠0 by decide,rfl⟩,d⟩
 ·refine(OE w p sb gf (g.length*6) b_ out.length c x (kQ b) o_ (λm=>Done fp F b_ sb t0 s0 (aR false sb gf (.slice x out.length c) (g++[v])) w ⟨w_++[f.pop],tape,out++[kQ b]⟩ m) (λt z W=>PV F W (.iface t z) b/\aO b<=200/\tP fp F b_ sb gf cap t0 tv (.slice x out.length c) s0 g v w_ f.pop tape out p W) (λW=>tP fp F b_ sb gf cap t0 tv (.slice x out.length c) s0 g v w_ f.pop tape out p W) (mZ out) B K X (λW t z a=>?_) (λW P t z a D=>?_) (λW a=>?_) (λW a=>?_) (λW a=>?_) (λW a=>?_)).mono ?_
  ·obtain⟨y,q,_⟩:=j a.2.2;exact⟨y,q⟩
  ·obtain⟨p1,Y,a⟩:=a;have A:=a.grow D.below dP (λ_ h=>d7 h)
   have I:∀k,F k->k<P.heap.size:=λk E=>by obtain⟨_,_,d,_⟩:=A;exact(d.apart k E).1
   refine(M7 F _ b P (p1.keep λk _=>by rw[D.heap]) I (hp P (j A).2.2.2) o_).mono ?_
   rintro e m ⟨V,hb⟩;exact⟨V,A.grow hb dP (λ_ h=>d7 h)⟩
  ·obtain⟨y,q,L,_⟩:=j a;exact⟨y,q,L⟩
  ·obtain⟨_,_,d,_⟩:=a;exact d.out
  ·intro w5 N;obtain⟨l,_,d,_⟩:=a;have Q:=aC d.blk;have J:some sb≠(Value.slice x out.length c).ownBlock:=λe=>(e7.1 d.nodup).1 (by simp[<-e])
   have M:w5.heap[sb]?=_:=(N.block sb t_ J).trans ((ek _ _ _ Q).trans d.blk)
   exact⟨⟨_,aA M rfl⟩,aD M,aC M⟩
  ·intro g5 aa w5 Y N O;obtain⟨l,S,d,C,h4⟩:=a;obtain⟨y,q,L⟩:=d.printed (tx:=kQ b) Y N O;have u:aR false sb gf (.slice x out.length c) (g++[{ v with ov:=l }])=aR false sb gf (.slice x out.length c) (g++[v]):=by simp[aR,cB,FVal.ownX,S]
   rw[u] at q L;have G:=n.trans C λ_ h=>d7 h
   exact⟨G.trans q λ_ h=>d7 h,F,gf,cap,tv,_,_,Ext.refl _ _,y,λk E=>(L k E).imp_right λh=>em G.size h⟩
  ·rintro e m ⟨rfl,d⟩;have U:Hs.doI r .print w_ f tape out=(⟨w_++[f.pop],tape,out++[kQ b]⟩,0):=by simp[Hs.doI,o,s]
   rw[U];exact⟨d7 ⟨rfl,rfl⟩,d⟩
end
end Go.Proofs.YtlflgmdcghfngaaGreatDoor
