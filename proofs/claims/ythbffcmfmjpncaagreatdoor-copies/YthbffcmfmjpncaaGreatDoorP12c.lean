/- Contracts of the program: a call begins: the walk. -/
import Derived.Test.YthbffcmfmjpncaaGreatDoorP11c
set_option linter.defProp false
set_option maxRecDepth 100000
set_option maxHeartbeats 4000000
namespace Go.Proofs.YthbffcmfmjpncaaGreatDoor
open Hs
open _root_.Go.Proofs.Tryz
open Go.RowKit
variable{w:World}
def JE:(prog.info? 136).map (λi=>(i.zero,i.size,i.bytes))=some (some (.agg #[.pointer none,.int .i64 0,.int .i64 0,.pointer none,.slice none 0 0,.slice none 0 0]),6,80):=k_
def UP(w:World)(b c d e a f:Value):∀j u,([b,c,d,e,a,f]:List Value)[j]?=some u->(w.alloc (.cells #[b,c,d,e,a,f] 136)).cell? ((⟨w.heap.size,0,none⟩:Addr).add j)=some u:=by
 intro j u g;exact World.news_of_block (cs:= #[b,c,d,e,a,f]) (aS _ _ rfl _) j u g
def ZN(x y:Option Addr)(c d:Nat):∀u∈([.pointer x,.int .i64 0,.int .i64 0,.pointer none,.slice y c d,.slice none 0 0]:List Value),u.oneCell'=true:=by
 intro u a;simp at a;rcases a with rfl|rfl|rfl|rfl|rfl<;>rfl
def SG(w v:World)(sb E F gf l j b_ n:Nat)(a:Option Addr)(P:World->Prop)(Q:Option Addr->Nat->List Value->World->Prop)(A:w.alloc (.cells #[.pointer a,.int .i64 j] 357)=v)(hn:n<=15)
 (U:Hid (∀W,aZ v W->Calls prog 95 #[.pointer (some ⟨sb,0,none⟩)] W λe p=>e=.returned (.pointer (some ⟨E,F,none⟩))/\aZ v p))
 (T:Hid (∀W,aZ v W->Calls prog 287 #[.pointer (some ⟨E,F,none⟩),.int .i64 j] W λe p=>∃x d f,e=.returned (.slice x j d)/\Q x d f p))
 (H:Hid (∀W x d f,Q x d f W->W.cell? ⟨sb,1,none⟩=some (.slice (some ⟨gf,0,none⟩) n l)/\W.cell? ⟨w.heap.size,0,none⟩=some (.pointer a)/\w.heap.size<W.heap.size/\sb<W.heap.size/\b_<=W.heap.size))
 (L:Hid (∀W x d f,Q x d f W->W.drew.ownsRow b_ 136 6 (.slice (some ⟨gf,0,none⟩) n l) n f))
 (G:Hid (∀W x d f,Q x d f W->∀k:World,(W.drew.alloc (.cells #[.pointer a,.int .i64 0,.int .i64 0,.pointer none,.slice x j d,.slice none 0 0] 136)).grownBy k (some gf)->(∃u,k.cell? ⟨sb,1,none⟩=some u)/\k.frozen? ⟨sb,1,none⟩=false/\sb<k.heap.size))
 (M:Hid (∀W x d f,Q x d f W->∀r g (k:World),k.ownsRow b_ 136 6 (.slice (some ⟨r,0,none⟩) (n+1) g) (n+1) (f++[.pointer a,.int .i64 0,.int .i64 0,.pointer none,.slice x j d,.slice none 0 0])->(W.drew.alloc (.cells #[.pointer a,.int .i64 0,.int .i64 0,.pointer none,.slice x j d,.slice none 0 0] 136)).grownBy k (some gf)->(some gf=some r\/r=W.heap.size+1)->P (k.setCell ⟨sb,1,none⟩ (.slice (some ⟨r,0,none⟩) (n+1) g)))):
 Calls prog 320 #[.agg #[.pointer a,.int .i64 j],.pointer (some ⟨sb,0,none⟩)] w λe p=>e=.returned (.tuple #[])/\P p:=by
 obtain⟨K,N,z,B,C⟩:=info_parts JE;have b:(w.alloc (.cells #[.pointer a,.int .i64 j] 357)).heap[w.heap.size]?=some (.cells #[.pointer a,.int .i64 j] 357 (0,0)):=aS _ _ rfl _;rw[A] at b;have O:=aB A;have s:=aB (aA (i:=1) b rfl);have c0:=s.out;have y:=aD b;have X:((n:Int)==16)=false:=t_
 clear A b;go_enter func320,ntmps320;go_wp2_with fail;rw[O.out];go_region_law (go_simp;first|(go_at_call 95;refine(U.out _ (aZ.drew _)).mono ?_;rintro e V ⟨rfl,m⟩;have d1:=cW m.heap s.out;have Y:=kC m.heap y)|(go_at_call 287;refine(T.out _ m).mono ?_;rintro e D ⟨x,d,f,rfl,t⟩;have I:=H.out _ _ _ _ t;obtain⟨Z,y2,y3,y4,y5⟩:=I))
 all_goals
  go_wp2_with fail;go_region_law (refine step_append_lies _ r_ _ _ 70 r_ b_ 136 K _ 6 80 underlying70 N z B C rfl d_ (.slice (some ⟨gf,0,none⟩) n l) n f r_ ((L.out _ _ _ _ t).alloc _) ⟨D.heap.size,0,none⟩ 1 1 [.pointer a,.int .i64 0,.int .i64 0,.pointer none,.slice x j d,.slice none 0 0] r_ r_ (UP D.drew _ _ _ _ _ _) (ZN _ _ _ _) d_ (by unfold maxLen;omega) o_ t_ (D.heap.size+1) s_ ?_;intro r g k o c q S;have J:=G.out _ _ _ _ t k c;obtain⟨⟨u5,z1⟩,z2,z3⟩:=J)
  all_goals
   go_wp2_with fail;go_end0;exact⟨rfl,M.out _ _ _ _ t _ _ _ o c q⟩
def LQ{b i:Nat}{e:TypeId}{a:Nat}{v:Value}{n:Nat}{xs:List Value}(h:w.ownsRow i e a v n xs)(o:b<=i):w.ownsRow b e a v n xs:=by
 rcases h with ⟨f,l|⟨g,c,d,m,j,k⟩⟩
 ·exact⟨f,d6 l⟩
 ·exact⟨f,d5 ⟨g,c,d,m,em o j,k⟩⟩
section
variable {fp:Nat->Value} {F:Nat->Prop} {b_:Nat} {w:World} {sb gf cap:Nat} {t0 tv u_ s0:Value} {v_:List FVal} {w_:List aI} {f:aI} {tape:List Int} {out:List (List UInt8)}
def cT.called{m:bX}{fn:dQ}{us:List aJ}{T:List Value}{x i:Option Addr}{d n g B:Nat}{p:World}(h:cT fp F b_ w sb gf cap t0 tv u_ s0 v_ m)(W:G8 fp F w (.pointer i) fn)(hB:b_<=B)(j:∀k∈aF sb gf u_ v_,k<B)(X:∀k,F k->k<B)
 (A:w.ownsRow B 180 1 (.slice x us.length d) us.length T) (U:fZ F w T us) (S:∀a∈us,aK a<=200)
 (r:p.ownsRow b_ 136 6 (.slice (some ⟨n,0,none⟩) (v_.length+1) g) (v_.length+1) (gA v_++[.pointer i,.int .i64 0,.int .i64 0,.pointer none,.slice x us.length d,.slice none 0 0]))
 (H:(w.drew.alloc (.cells #[.pointer i,.int .i64 0,.int .i64 0,.pointer none,.slice x us.length d,.slice none 0 0] 136)).grownBy p (some gf)) (y:some gf=some n\/n=w.heap.size+1):
 cT fp F b_ (p.setCell ⟨sb,1,none⟩ (.slice (some ⟨n,0,none⟩) (v_.length+1) g)) sb n g t0 tv u_ s0 (v_++[⟨.pointer i,.int .i64 0,.int .i64 0,.pointer none,.slice x us.length d,.slice none 0 0⟩]) ⟨m.f_++[⟨fn,0,0,[],us,[]⟩],m.tape,m.out⟩/\
  Kept (aF sb gf u_ v_) w (p.setCell ⟨sb,1,none⟩ (.slice (some ⟨n,0,none⟩) (v_.length+1) g)):=by
 generalize O:Value.slice (some ⟨n,0,none⟩) (v_.length+1) g=V at*;have q:=eu.1 h.nodup;have D:=eu.1 q.2;have K:sb≠gf:=λe=>q.1 (by simp[e])
 have P:=aD h.blk
 have L:n≠sb:=by
  rcases y with e|e
  ·cases e;exact λe=>K e.symm
  ·omega
 have Y:n<p.heap.size:=by
  subst O;exact cI r n rfl
 have I:∀k,k<w.heap.size->k≠gf->p.heap[k]?=w.heap[k]?:=λk z E=>by
  rw[H.block k t_ (λe=>E (by cases e;rfl)),eq _ _ _ (by exact z)];rfl
 have M:∀k,k<w.heap.size->k≠gf->k≠sb->(p.setCell ⟨sb,1,none⟩ V).heap[k]?=w.heap[k]?:=λk z E h3=>by
  rw[ej _ _ _ _ h3,I k z E]
 have t:∀b,F b->(p.setCell ⟨sb,1,none⟩ V).heap[b]?=w.heap[b]?:=λb G=>M b (h.apart b G).1 (λe=>(h.apart b G).2 (by simp[aF,e])) (λe=>(h.apart b G).2 (by simp[aF,e]))
 have J:∀k,k∈u_.ownBlock.toList++aY v_->(p.setCell ⟨sb,1,none⟩ V).heap[k]?=w.heap[k]?:=λk c=>M k (h.lt k (by unfold aF;exact fe _ (fe _ c))) (λe=>D.1 (by rw[<-e];exact c)) (λe=>q.1 (by rw[<-e];exact fe _ c))
 have Q:w.heap.size<=(p.setCell ⟨sb,1,none⟩ V).heap.size:=em s_ (em H.size s_)
 have o:∀k,(Value.slice x us.length d).ownBlock=some k->B<=k/\k<w.heap.size:=λk e=>⟨bT A k e,cI A k e⟩
 have l:∀k,(Value.slice x us.length d).ownBlock=some k->k≠gf/\k≠sb:=λk e=>by
  have z:=j gf (by simp[aF])
  have E:=j sb (by simp[aF])
  have:=(o k e).1;omega
 have C:(⟨.pointer i,.int .i64 0,.int .i64 0,.pointer none,.slice x us.length d,.slice none 0 0⟩:FVal).owns=(Value.slice x us.length d).ownBlock.toList:=by simp[FVal.owns,show (Value.slice none 0 0).ownBlock=none from rfl]
 have s:aF sb n u_ (v_++[⟨.pointer i,.int .i64 0,.int .i64 0,.pointer none,.slice x us.length d,.slice none 0 0⟩])=sb::n::((u_.ownBlock.toList++aY v_)++(Value.slice x us.length d).ownBlock.toList):=by simp[aF,aY,C]
 have u:(v_++[(⟨.pointer i,.int .i64 0,.int .i64 0,.pointer none,.slice x us.length d,.slice none 0 0⟩:FVal)]).length=v_.length+1:=s_
 refine⟨⟨?_,?_,?_,h.tape.keep t λ_ h=>h,aX h.out λk f=>J k (by simp[f]),?_,?_,?_⟩,?_⟩
 ·rw[u,aQ (show p.heap[sb]?=_ from (I sb P K).trans h.blk),O];rfl
 ·rw[u,jQ,O];subst O;exact aX r λk f=>ej _ _ _ _ (by cases f;exact L)
 ·refine(h.frs.keep t (λ_ h=>h) λv hv k f=>J k (gq _ (hH.2 ⟨v,hv,f⟩))).snoc ⟨W.keep t λ_ h=>h,rfl,rfl,rfl,⟨⟨T,?_,U.keep t⟩,S⟩,⟨⟨[],World.ownsRow_nil _ _ _ _,fZ.nil _ _⟩,λ_ h=>by simp at h⟩⟩
  exact aX (LQ A hB) λk e=>M k (o k e).2 (l k e).1 (l k e).2
 ·rw[s];refine eu.2 ⟨?_,eu.2 ⟨?_,gi.2 ⟨D.2,by cases (Value.slice x us.length d).ownBlock<;>simp,?_⟩⟩⟩
  ·intro c;simp only[en,eo] at c;rcases c with e|(e|e)|e
   ·exact L e.symm
   ·exact q.1 (by simp[e])
   ·exact q.1 (by simp[e])
   ·exact(l sb (by simpa using e)).2 rfl
  ·intro c;rcases y with e|e
   ·cases e;rcases eo.1 c with c|c
    ·exact D.1 c
    ·exact(l gf (by simpa using c)).1 rfl
   ·rcases eo.1 c with c|c
    ·have:=h.lt n (by unfold aF;exact fe _ (fe _ c));omega
    ·have:=(o n (by simpa using c)).2;omega
  ·intro a ha b G e;subst e;have z:=j a (by unfold aF;exact fe _ (fe _ ha))
   have E:=(o a (by simpa using G)).1
   omega
 ·intro k c;rw[s] at c;have h5:p.heap.size<=(p.setCell ⟨sb,1,none⟩ V).heap.size:=s_
  simp only[en,eo] at c;rcases c with e|e|(e|e)|e
  ·rw[e];omega
  ·rw[e];omega
  ·have:=h.lt k (by simp[aF,e]);omega
  ·have:=h.lt k (by simp[aF,e]);omega
  ·have:=(o k (by simpa using e)).2;omega
 ·intro k f;obtain⟨a1,N⟩:=h.apart k f;refine⟨o_,λc=>?_⟩
  rw[s] at c;simp only[en,eo] at c;rcases c with e|e|(e|e)|e
  ·exact N (by simp[aF,e])
  ·rcases y with Z|Z
   ·cases Z;exact N (by simp[aF,e])
   ·omega
  ·exact N (by simp[aF,e])
  ·exact N (by simp[aF,e])
  ·have:=(o k (by simpa using e)).1;have:=X k f;omega
 ·exact⟨H.os.trans rfl,H.tape.trans rfl,H.output.trans rfl,Q,λk z hn=>M k z (λe=>hn (by simp[aF,e])) (λe=>hn (by simp[aF,e]))⟩
def ClQ(fp:Nat->Value)(F:Nat->Prop)(b_ sb gf cap:Nat)(t0 tv u_ s0:Value)(v_:List FVal)(w_:List aI)(f:aI)(tape:List Int)(out:List (List UInt8))(w0:World)(us:List aJ)(x:Option Addr)(d:Nat)(xs:List Value)(W:World):Prop:=
 ∃fvs' ys,xs=gA fvs'/\Kept (aF sb gf u_ v_) w0 W/\aF sb gf u_ fvs'=aF sb gf u_ v_/\fvs'.length=v_.length/\cT fp F b_ W sb gf cap t0 tv u_ s0 fvs' ⟨w_++[f.popMany us.length],tape,out⟩/\
  W.ownsRow w0.heap.size 180 1 (.slice x us.length d) us.length ys/\fZ F W ys us/\(∀a∈us,aK a<=200)/\∀k,F k->W.heap[k]?=w0.heap[k]?
def e8(v:List dQ)(k:Nat)(Y:dQ)(vs us:List aJ)(h:cT fp F b_ w sb gf cap t0 tv u_ s0 v_ ⟨w_++[f],tape,out⟩)(A:w_.length<=15)(E:b_<=w.heap.size)(ad:f.ops.length<=99000)(hf:f.ops=vs++us)(Q:lE fp F w v)(hk:v[k]?=some Y):
 Calls prog 320 #[.agg #[fp k,.int .i64 us.length],.pointer (some ⟨sb,0,none⟩)] w (s6 fp F b_ sb t0 s0 (aF sb gf u_ v_) w (bY v (.call k us.length) w_ f tape out)):=by
 have I:=Q k Y hk;have H:∃q,fp k=.pointer q:=by obtain⟨fb,gc,cp,af,e,_⟩:=I;exact⟨_,e⟩
 obtain⟨g,H⟩:=H;rw[H] at I ⊢
 have hM:=h.mid E (.cells #[.pointer g,.int .i64 us.length] 357);have G:Below w.heap.size w (w.alloc (.cells #[.pointer g,.int .i64 us.length] 357)):=(eh _ w).alloc (d7 _) _;have h0:=h.grow G (λ_ h=>h) (λ_ h=>d6 h)
 have P:v_.length=w_.length+1:=by rw[h.count];simp
 have C:(w.alloc (.cells #[.pointer g,.int .i64 us.length] 357)).heap[w.heap.size]?=some (.cells #[.pointer g,.int .i64 us.length] 357 (0,0)):=aS _ _ rfl _;have hm:f.many us.length=us:=by simp[aI.many,hf]
 have hr:bY v (.call k us.length) w_ f tape out=if w_.length+1=16 then (⟨w_++[f.popMany us.length],tape,out⟩,5) else (⟨(w_++[f.popMany us.length])++[⟨Y,0,0,[],us,[]⟩],tape,out⟩,0):=by
  simp[bY,hm,hk]
 rw[hr];have Z:w.heap.size<(w.alloc (.cells #[.pointer g,.int .i64 us.length] 357)).heap.size:=aD C;generalize V:w.alloc (.cells #[.pointer g,.int .i64 us.length] 357)=D at*
 have HP:∀W,aZ D W->Calls prog 287 #[.pointer (some ⟨gf,w_.length*6,none⟩),.int .i64 us.length] W λe z=>∃x d t,e=.returned (.slice x us.length d)/\ClQ fp F b_ sb gf cap t0 tv u_ s0 v_ w_ f tape out D us x d t z:=λW O=>by
  refine((h0.grow O.below (λ_ h=>h) (λ_ h=>d6 h)).popMany hf o_).mono ?_
  rintro e z ⟨v',N,c,he,o,s,u,l,y,M,K,L⟩;rw[O.heap] at y;obtain⟨x,d,rfl⟩:=cV y;exact⟨x,d,_,he,c,N,rfl,(Kept.of_below (own:=aF sb gf u_ v_) O.below).trans o λ_ h=>d6 h,s,u,l,y,M,K,λj m=>by rw[L j m,O.heap]⟩
 have HK:∀{W W'},Kept (aF sb gf u_ v_) D W->Kept (aF sb gf u_ v_) W W'->Kept (aF sb gf u_ v_) w W':=λa b=>((Kept.of_below (own:=aF sb gf u_ v_) G).trans a λ_ h=>d6 h).trans b λ_ h=>d6 h
 by_cases p:w_.length+1=16
 ·rw[if_pos p];refine(SH w D sb gf (w_.length*6) gf cap us.length g (λz=>Done fp F b_ sb t0 s0 (aF sb gf u_ v_) w ⟨w_++[f.popMany us.length],tape,out⟩ z) (λx d W=>∃t,ClQ fp F b_ sb gf cap t0 tv u_ s0 v_ w_ f tape out D us x d t W) V (hM.topS A) (λW O=>?_) (λW x d r=>?_)).mono ?_
  ·refine(HP W O).mono ?_;rintro e z ⟨x,d,t,he,r⟩;exact⟨x,d,he,t,r⟩
  ·obtain⟨t,c,N,_,o,s,u,l,_⟩:=r;have i:=l.blk;rw[u,P,p] at i;exact⟨aA i rfl,HK o (Kept.refl _ _),F,gf,cap,tv,u_,c,Ext.refl _ _,l,λj m=>d6 (by rw[<-s];exact m)⟩
  ·rintro e z ⟨rfl,h2⟩;exact⟨d5 ⟨show (5:Nat)≠0 by decide,rfl⟩,h2⟩
 ·rw[if_neg p];refine(SG w D sb gf (w_.length*6) gf cap us.length b_ v_.length g (λz=>Done fp F b_ sb t0 s0 (aF sb gf u_ v_) w ⟨(w_++[f.popMany us.length])++[⟨Y,0,0,[],us,[]⟩],tape,out⟩ z) (ClQ fp F b_ sb gf cap t0 tv u_ s0 v_ w_ f tape out D us) V o_ (hM.topS A) HP (λW x d t r=>?_) (λW x d t r=>?_) (λW x d t r=>?_) (λW x d t r=>?_)).mono ?_
  ·obtain⟨c,N,_,o,s,u,l,y,M,K,L⟩:=r;have i:=l.blk;rw[u] at i;have S:W.heap[w.heap.size]?=_:=(o.block w.heap.size Z (λhm=>Nat.lt_irrefl _ (h.lt _ hm))).trans C
   exact⟨aA i rfl,aA S rfl,aD S,aD i,by have:=o.size;omega⟩
  ·obtain⟨c,N,rfl,o,s,u,l,y,M,K,L⟩:=r;have:=l.row;rw[u] at this;exact aX this λ_ _=>rfl
  ·obtain⟨c,N,_,o,s,u,l,y,M,K,L⟩:=r;intro w5 hg;have aa:=aD l.blk;have ab:sb≠gf:=λe=>(eu.1 l.nodup).1 (by simp[e])
   have J:w5.heap[sb]?=_:=(hg.block sb t_ (λe=>ab (by cases e;rfl))).trans ((eq _ _ _ (by exact aa)).trans l.blk)
   exact⟨⟨_,aA J rfl⟩,aE J,aD J⟩
  ·obtain⟨c,N,rfl,o,s,u,l,y,M,K,L⟩:=r;intro g5 U w5 n hg X;rw[<-u] at n ⊢
   have ac:G8 fp F W (.pointer g) Y:=I.keep (λb hb=>by rw[L b hb];exact G.block b (h.apart b hb).1) λ_ h=>h
   obtain⟨q1,q2⟩:=l.called (B:=D.heap.size) ac o_ (λj m=>by rw[s] at m;exact h0.lt j m) (λj m=>(h0.apart j m).1) y M K n hg X
   rw[s] at q2;refine⟨HK o q2,F,g5,U,tv,u_,_,Ext.refl _ _,q1,λj m=>?_⟩
   have T:aF sb g5 u_ (c++[⟨.pointer g,.int .i64 0,.int .i64 0,.pointer none,.slice x us.length d,.slice none 0 0⟩])=sb::g5::((u_.ownBlock.toList++aY c)++(Value.slice x us.length d).ownBlock.toList):=by simp[aF,aY,FVal.owns,show (Value.slice none 0 0).ownBlock=none from rfl]
   rw[T] at m;rw[<-s];have ae:=o.size;simp only[en,eo] at m;rcases m with e|e|(e|e)|e
   ·exact d6 (by simp[aF,e])
   ·rcases X with e2|e2
    ·cases e2;exact d6 (by simp[aF,e])
    ·exact d5 o_
   ·exact d6 (by simp[aF,e])
   ·exact d6 (by simp[aF,e])
   ·have:=bT y j (by simpa using e)
    exact d5 o_
  ·rintro e z ⟨rfl,h2⟩;exact⟨d6 ⟨rfl,rfl⟩,h2⟩
end
def IF(w:World)(fa fj d m g n c:Nat)(W:World):Prop:=
 W.cell? ⟨w.heap.size,0,none⟩=some (.int .i64 d)/\W.cell? ⟨w.heap.size,1,none⟩=some (.int .i64 m)/\W.cell? ⟨fa,fj+4,none⟩=some (.slice (some ⟨g,0,none⟩) n c)
def IF.same{W f:World}{b e d m g n c:Nat}(h:IF w b e d m g n c W)(a:aZ W f):IF w b e d m g n c f:=
 ⟨cW a.heap h.1,cW a.heap h.2.1,cW a.heap h.2.2⟩
def IB(w J:World)(sb r s d m g n c k:Nat)(O:TypeId)(Z:Value)(ac:d<n)(P S:World->Prop)(Q:TypeId->Value->World->Prop)(R:TypeId->Value->Option Addr->Nat->World->Prop)(U:TypeId->Value->World->Prop)(hW:w.alloc (.cells #[.int .i64 d,.int .i64 m] 344)=J)
 (HT:Hid (∀W,aZ J W->Calls prog 95 #[.pointer (some ⟨sb,0,none⟩)] W λe o=>e=.returned (.pointer (some ⟨r,s,none⟩))/\aZ J o))
 (HP:Hid (∀W,aZ J W->Calls prog 114 #[.pointer (some ⟨r,s,none⟩)] W λe o=>∃t z,e=.returned (.iface t z)/\Q t z o))
 (HQ:Hid (∀W t z,Q t z W->IF w r s d m g n c W/\W.cell? ⟨g,d,none⟩=some (.iface O Z)))
 (HM:Hid (∀W W' t z,Q t z W->aZ W W'->Calls prog 287 #[.pointer (some ⟨r,s,none⟩),.int .i64 m] W' λe o=>∃x y,e=.returned (.slice x m y)/\R t z x y o))
 (HR:Hid (∀W t z x y,R t z x y W->IF w r s d m g n c W/\W.cell? ⟨g,d,none⟩=some (.iface O Z)))
 (HV:Hid (∀W t z x y,R t z x y W->Calls prog 299 #[.iface O Z,.slice x m y,.iface t z] W λe o=>(∃I H,e=.returned (.iface I H)/\U I H o)\/(e=fL k/\S o)))
 (HU:Hid (∀W t z,U t z W->IF w r s d m g n c W/\(∃u,W.cell? ⟨g,d,none⟩=some u)/\W.frozen? ⟨g,d,none⟩=false/\g<W.heap.size/\IF w r s d m g n c (W.setCell ⟨g,d,none⟩ (.iface t z))))
 (HN:Hid (∀W t z,U t z W->P (W.setCell ⟨g,d,none⟩ (.iface t z)))):
 Calls prog 298 #[.agg #[.int .i64 d,.int .i64 m],.pointer (some ⟨sb,0,none⟩)] w λe o=>(e=.returned (.tuple #[])/\P o)\/(e=fL k/\S o):=by
 have HW:=aB hW;have e1:(0:Int)<=(d:Int):=o_
 have e2:(d:Int)<(n:Int):=o_
 clear hW;go_enter func298,ntmps298;go_wp2_with fail;rw[HW.out];refine(HT.out _ (aZ.refl _)).mono ?_;rintro e w1 ⟨rfl,T⟩;go_wp2_with fail;refine(HP.out _ T).mono ?_;rintro e L ⟨t,z,rfl,M⟩;have F:=aB M;have N:=HQ.out _ _ _ M;have G:=N.1.same (aZ.drew L);have ab:=cW (aZ.drew L).heap N.2;clear N M;go_wp2_with fail;refine wp_region_held_drew (S:=λW=>W.cell? ⟨w.heap.size,0,none⟩=some (.int .i64 d)/\W.cell? ⟨w.heap.size,1,none⟩=some (.int .i64 m)/\W.cell? ⟨r,s+4,none⟩=some (.slice (some ⟨g,0,none⟩) n c)) k_ G (λa=>?_)
 (refine wpAnyH_take (i:=0) (v:=?_) rfl k_ k_ k_ (λ_ _ _ h=>h) (d6 ⟨r_,?_⟩) a ?_;rotate_left;(intro w b;(try dsimp only at b);go_simp<;>with_reducible rfl))
 (refine wpAnyH_take (i:=1) (v:=?_) rfl k_ k_ k_ (λ_ _ _ h=>h) (d6 ⟨r_,?_⟩) a ?_;rotate_left;(intro w b;(try dsimp only at b);go_simp<;>with_reducible rfl))
 (refine wpAnyH_take (i:=2) (v:=?_) rfl k_ k_ k_ (λ_ _ _ h=>h) (d6 ⟨r_,?_⟩) a ?_;rotate_left;(intro w b;(try dsimp only at b);go_simp<;>with_reducible rfl))
 (refine wpAnyH_take (i:=4) (v:=?_) rfl k_ k_ k_ (λ_ _ _ h=>h) (d6 ⟨r_,?_⟩) a ?_;rotate_left;(intro w b;(try dsimp only at b);go_simp<;>with_reducible rfl))
 (refine wpAnyH_take (i:=6) (v:=?_) rfl k_ k_ k_ (λ_ _ _ h=>h) (d6 ⟨r_,?_⟩) a ?_;rotate_left;(intro w b;(try dsimp only at b);go_simp<;>with_reducible rfl))
 (refine wpAnyH_take (i:=7) (v:=?_) rfl k_ k_ k_ (λ_ _ _ h=>h) (d6 ⟨r_,?_⟩) a ?_;rotate_left;(intro w b;(try dsimp only at b);go_simp<;>with_reducible rfl))
 (refine wpAnyH_take (i:=8) (v:=?_) rfl k_ k_ k_ (λ_ _ _ h=>h) (d6 ⟨r_,?_⟩) a ?_;rotate_left;(intro w b;(try dsimp only at b);go_simp<;>with_reducible rfl))
 (refine wpAnyH_take (i:=10) (v:=?_) rfl k_ k_ k_ (λ_ _ _ h=>h) (d6 ⟨r_,?_⟩) a ?_;rotate_left;(intro w b;(try dsimp only at b);go_simp<;>with_reducible rfl))
 (refine wpAnyH_take (i:=14) (v:=?_) rfl k_ k_ k_ (λ_ _ _ h=>h) (d6 ⟨r_,?_⟩) a ?_;rotate_left;(intro w b;(try dsimp only at b);go_simp<;>with_reducible rfl))
 (refine wpAnyH_take (i:=15) (v:=?_) rfl k_ k_ k_ (λ_ _ _ h=>h) (d6 ⟨r_,?_⟩) a ?_;rotate_left;(intro w b;(try dsimp only at b);go_simp<;>with_reducible rfl))
 (refine wpAnyH_take (i:=18) (v:=?_) rfl k_ k_ k_ (λ_ _ _ h=>h) (d6 ⟨r_,?_⟩) a ?_;rotate_left;(intro w b;(try dsimp only at b);go_simp<;>with_reducible rfl))
 (refine wpAnyH_take (i:=3) (v:=?_) rfl k_ k_ k_ (λ_ _ _ h=>h) (d6 ⟨r_,?_⟩) a ?_;rotate_left;(intro w b;(try dsimp only at b);go_simp<;>with_reducible rfl))
 (refine wpAnyH_take (i:=5) (v:=?_) rfl k_ k_ k_ (λ_ _ _ h=>h) (d6 ⟨r_,?_⟩) a ?_;rotate_left;(intro w b;(try dsimp only at b);go_simp<;>with_reducible rfl))
 (refine wpAnyH_take (i:=9) (v:=?_) rfl k_ k_ k_ (λ_ _ _ h=>h) (d6 ⟨r_,?_⟩) a ?_;rotate_left;(intro w b;(try dsimp only at b);go_simp<;>with_reducible rfl))
 (refine wpAnyH_take (i:=11) (v:=?_) rfl k_ k_ k_ (λ_ _ _ h=>h) (d6 ⟨r_,?_⟩) a ?_;rotate_left;(intro w b;(try dsimp only at b);go_simp<;>with_reducible rfl))
 (refine wpAnyH_take (i:=12) (v:=?_) rfl k_ k_ k_ (λ_ _ _ h=>h) (d6 ⟨r_,?_⟩) a ?_;rotate_left;(intro w b;(try dsimp only at b);go_simp<;>with_reducible rfl))
 (refine wpAnyH_take (i:=16) (v:=?_) rfl k_ k_ k_ (λ_ _ _ h=>h) (d6 ⟨r_,?_⟩) a ?_;rotate_left;(intro w b;(try dsimp only at b);go_simp<;>with_reducible rfl))
 refine wpAnyH_ready (rs:=[13,17]) k_ s_ ?_
 refine AllReadyH.cons rfl (λK j=>?_) (AllReadyH.cons rfl (λK j=>?_) AllReadyH.nil)
 ·go_simp;refine j.out _ _ G (λa=>?_)
  clear j K;refine wpAnyH_ready (rs:=[17]) k_ s_ ?_
  refine AllReadyH.cons rfl (λK j=>?_) AllReadyH.nil
  go_simp;go_at_call 287
  refine(HM.out _ _ _ _ F.out (aZ.drew L)).mono ?_;rintro e w3 ⟨x,y,rfl,E⟩;have C:=aB E;have l:=HR.out _ _ _ _ _ E;have q:=l.1;have aa:=l.2;clear l E;go_wp2_with fail;refine j.out _ _ q (λa=>?_)
  clear j K;refine wpAnyH_ready (rs:=[19]) k_ s_ ?_
  refine AllReadyH.cons rfl (λK j=>?_) AllReadyH.nil
  go_simp;go_at_call 299
  refine(HV.out _ _ _ _ _ C.out).mono ?_;rintro e w4 (⟨I,H,rfl,p⟩|⟨rfl,p⟩)
  rotate_left
  exact⟨rfl,d5 ⟨rfl,p⟩⟩;have B:=aB p;have f:=HU.out _ _ _ p;have D:=f.1;obtain⟨u4,V⟩:=f.2.1;have X:=f.2.2.1;have Y:=f.2.2.2.1;have A:=f.2.2.2.2;clear f p;go_wp2_with fail;refine j.out _ _ D (λa=>?_)
  clear j K;refine wpAnyH_take (i:=20) (v:=?_) rfl k_ k_ k_ (λ_ _ _ h=>h) (d6 ⟨r_,?_⟩) a ?_
  rotate_left
  ·intro w b;(try dsimp only at b);go_simp<;>with_reducible rfl
  refine wpAnyH_ready (rs:=[21]) k_ s_ ?_
  refine AllReadyH.cons rfl (λK j=>?_) AllReadyH.nil
  go_simp;refine j.out _ _ A (λa=>?_)
  clear j K;refine wpAnyH_done k_ ?_ _
  go_wp2_with fail;go_end0;exact d6 ⟨rfl,HN.out _ _ _ B.out⟩
 ·go_simp;go_at_call 287
  refine(HM.out _ _ _ _ F.out (aZ.drew L)).mono ?_;rintro e w3 ⟨x,y,rfl,E⟩;have C:=aB E;have l:=HR.out _ _ _ _ _ E;have q:=l.1;have aa:=l.2;clear l E;go_wp2_with fail;refine j.out _ _ q (λa=>?_)
  clear j K;refine wpAnyH_ready (rs:=[13]) k_ s_ ?_
  refine AllReadyH.cons rfl (λK j=>?_) AllReadyH.nil
  go_simp;refine j.out _ _ q (λa=>?_)
  clear j K;refine wpAnyH_ready (rs:=[19]) k_ s_ ?_
  refine AllReadyH.cons rfl (λK j=>?_) AllReadyH.nil
  go_simp;go_at_call 299
  refine(HV.out _ _ _ _ _ C.out).mono ?_;rintro e w4 (⟨I,H,rfl,p⟩|⟨rfl,p⟩)
  rotate_left
  exact⟨rfl,d5 ⟨rfl,p⟩⟩;have B:=aB p;have f:=HU.out _ _ _ p;have D:=f.1;obtain⟨u4,V⟩:=f.2.1;have X:=f.2.2.1;have Y:=f.2.2.2.1;have A:=f.2.2.2.2;clear f p;go_wp2_with fail;refine j.out _ _ D (λa=>?_)
  clear j K;refine wpAnyH_take (i:=20) (v:=?_) rfl k_ k_ k_ (λ_ _ _ h=>h) (d6 ⟨r_,?_⟩) a ?_
  rotate_left
  ·intro w b;(try dsimp only at b);go_simp<;>with_reducible rfl
  refine wpAnyH_ready (rs:=[21]) k_ s_ ?_
  refine AllReadyH.cons rfl (λK j=>?_) AllReadyH.nil
  go_simp;refine j.out _ _ A (λa=>?_)
  clear j K;refine wpAnyH_done k_ ?_ _
  go_wp2_with fail;go_end0;exact d6 ⟨rfl,HN.out _ _ _ B.out⟩
def S7.ofRow{F:Nat->Prop}{b_:Nat}{v:Value}{xs:List Value}{l:List aJ}(h:w.ownsRow b_ 180 1 v l.length xs)(n:fZ F w xs l):S7 F w v l:=by
 rcases h.2 with ⟨a,d⟩|⟨g,c,m,a,d,b,f,q,p,j⟩
 ·exact d6 ⟨io.1 d,none,0,by rw[a]⟩
 ·refine d5 ⟨g,0,c,a,f,aD b,λi o=>?_⟩
  obtain⟨u,e,k⟩:=n.2 i o;refine⟨u,aA b ?_,k⟩;rw[<-j,fm,if_pos o_] at e
  simpa using e
section
variable {fp:Nat->Value} {F:Nat->Prop} {b_:Nat} {w:World} {sb gf cap:Nat} {t0 tv u_ s0:Value} {v_:List FVal} {w_:List aI} {f:aI} {tape:List Int} {out:List (List UInt8)}
def cT.popManyR{r:List FVal}{v:FVal}{vs us:List aJ}(h:cT fp F b_ w sb gf cap t0 tv u_ s0 (r++[v]) ⟨w_++[f],tape,out⟩)(K:f.ops=vs++us)(z:f.ops.length<=100000):
 Calls prog 287 #[.pointer (some ⟨gf,r.length*6,none⟩),.int .i64 us.length] w λe u=>∃x y c,e=.returned (.slice x us.length y)/\c.ownBlock=v.ov.ownBlock/\S7 F u (.slice x us.length y) us/\(∀a∈us,aK a<=200)/\
  cT fp F b_ u sb gf cap t0 tv u_ s0 (r++[{ v with ov:=c }]) ⟨w_++[f.popMany us.length],tape,out⟩/\Kept (aF sb gf u_ (r++[v])) w u/\∀k,k<w.heap.size->k≠gf->u.heap[k]?=w.heap[k]?:=by
 obtain⟨Z,v0,J,e,aa,Q,S,p,O,k0,k1,k2,k3,k4,X⟩:=h.top;obtain⟨rfl,Y⟩:=gw e rfl;cases Y;obtain⟨⟨xs,i,A⟩,g⟩:=Q.ops;rw[K] at i A g;obtain⟨s,P,rfl,M,H,I,t⟩:=A.split;rw[K,ei] at z;rw[ei] at i;refine(vG b_ gf (r.length*6) vs.length us.length J v.ov s P w p X i M H (oK t) o_).mono ?_
 rintro e u ⟨T,c,D,he,q,L,rfl,U,C⟩;have n:(f.popMany us.length).ops=vs:=by simp[aI.popMany,K]
 have N:=h.grow q (λ_ h=>h) (λ_ h=>d6 h)
 have E:NL fp F b_ D { v with ov:=c } (f.popMany us.length):=by
  have m:∀b,F b->D.heap[b]?=w.heap[b]?:=λb o=>q.block b (h.apart b o).1
  have B:∀k∈v.owns,k<w.heap.size:=λk m=>h.lt k (by simp[aF,aY,m])
  have l:=Q.keep m (λ_ h=>h) λk hm=>q.block k (B k hm)
  refine⟨l.fn,l.nx,l.ln,l.sp,l.g_,⟨s,?_,?_⟩,λb o=>g b (gd _ (by rw[n] at o;exact o))⟩
  ·rw[n];exact aX U λk e=>q.block k (B k (by rw[C] at e;simp[FVal.owns,e]))
  ·rw[n];exact I.keep m
 obtain⟨W,q2⟩:=N.setTop (j:=5) (x:=c) (v':={ v with ov:=c }) o_ rfl (by simp[FVal.owns,C]) E
 have V:gf<w.heap.size:=aD p
 have G:∀k,F k->(D.setCell ⟨gf,r.length*6+5,none⟩ c).heap[k]?=w.heap[k]?:=λk m=>by
  rw[ej _ _ _ _ λe=>(h.apart k m).2 (by simp[aF,e]),q.block k (h.apart k m).1]
 obtain⟨x,d,rfl⟩:=cV L;refine⟨x,d,c,he,C,S7.ofRow (b_:=w.heap.size) (xs:=P) (aX L λk m=>ej _ _ _ _ ?_) (t.keep G),λa ha=>g a (gq _ ha),W,(Kept.of_below q).trans q2 λx hx=>d6 hx,λk m hn=>by rw[ej _ _ _ _ hn,q.block k m]⟩
 have:=bT L k m;show k≠gf
 omega
def cT.assigned{q:List FVal}{v:FVal}{g n c d:Nat}{u:Value}{a:aJ}(h:cT fp F b_ w sb gf cap t0 tv u_ s0 (q++[v]) ⟨w_++[f],tape,out⟩)(j:v.vv=.slice (some ⟨g,0,none⟩) n c)(Z:PV F w u a)(D:aK a<=200):
 cT fp F b_ (w.setCell ⟨g,d,none⟩ u) sb gf cap t0 tv u_ s0 (q++[v]) ⟨w_++[{ f with g_:=f.g_.set d a }],tape,out⟩/\Kept (aF sb gf u_ (q++[v])) w (w.setCell ⟨g,d,none⟩ u):=by
 obtain⟨W,v0,V,e,X,y,M,K,J,k0,k1,k2,k3,k4,k5⟩:=h.top;obtain⟨rfl,T⟩:=gw e rfl;cases T;have A:v.vv.ownBlock=some g:=by rw[j];rfl
 have m:g∈v.owns:=by simp[FVal.owns,A]
 have s:∀k∈v.owns,k∈aF sb gf u_ (q++[v]):=λk i=>by simp[aF,aY,i]
 have I:gf∉v.owns:=λC=>by
  have:=(eu.1 (eu.1 h.nodup).2).1;exact this (by simp[aY,C])
 have l:v.owns.Nodup:=by
  have x:=h.nodup;have:aF sb gf u_ (q++[v])=(sb::gf::(u_.ownBlock.toList++aY q))++v.owns:=by simp[aF,aY]
  rw[this] at x;exact(gi.1 x).2.1
 have i:∀k,k≠g->(w.setCell ⟨g,d,none⟩ u).heap[k]?=w.heap[k]?:=λk i=>ej _ _ _ _ i
 have o:∀b,F b->(w.setCell ⟨g,d,none⟩ u).heap[b]?=w.heap[b]?:=λb E=>i b λe=>(h.apart b E).2 (s b (by rw[e];exact m))
 have z:∀k,v.ov.ownBlock=some k->k≠g:=λk i e=>by
  unfold FVal.owns at l;rw[i,A,e] at l;simp at l
 have r:=h.row;rw[show (q++[v]).length=q.length+1 by simp] at r
 obtain⟨⟨Y,p,H⟩,t⟩:=y.g_;refine⟨h.step (G:=F) s_ (λk _ _ h3=>i k λe=>h3 (by rw[e];exact m)) (aX r λk e=>i k ?_) ?_ (λk C=>⟨el (h.lt k (s k C)) s_,d6 C⟩) l (λ_ h=>h) (λ_ h=>d6 h),⟨rfl,rfl,rfl,s_,λk _ hn=>i k λe=>hn (s k (by rw[e];exact m))⟩⟩
 ·cases e;exact λe=>I (by have S:gf=g:=e;rw[S];exact m)
 ·refine⟨y.fn.keep o λ_ h=>h,y.nx,y.ln,eW.keep o (λ_ h=>h) y.sp,⟨⟨Y.set d u,?_,(fZ.set H d Z).keep o⟩,λb E=>?_⟩,y.ops.keep o (λ_ h=>h) λk e=>i k (z k e)⟩
  ·rcases p.2 with ⟨B,L⟩|⟨g',c',aa,B,L,N,P,U,O,Q⟩
   ·rw[B] at j;cases j
   ·rw[j] at B;cases B;refine⟨by simp[p.1],d5 ⟨g,c,_,?_,L,aQ N,by simpa using P,U,by simpa using O,?_⟩⟩
    ·show v.vv=_
     rw[j];simp
    ·show List.take ((f.g_.set d a).length*1) _=_
     rw[jn,jo,hQ,Q]
  ·rcases jy E with x|x
   ·exact t b x
   ·rw[x];exact D
def rR(fp:Nat->Value)(F:Nat->Prop)(b_ sb gf cap:Nat)(t0 tv u_ s0:Value)(fb:List FVal)(v:FVal)(w_:List aI)(f:aI)(tape:List Int)(out:List (List UInt8))(w0:World)(W:World):Prop:=
 ∃ov',ov'.ownBlock=v.ov.ownBlock/\cT fp F b_ W sb gf cap t0 tv u_ s0 (fb++[{ v with ov:=ov' }]) ⟨w_++[f],tape,out⟩/\Kept (aF sb gf u_ (fb++[v])) w0 W/\∀k,k<w0.heap.size->k≠gf->W.heap[k]?=w0.heap[k]?
def rR.grow{G:Nat->Prop}{i:List FVal}{v:FVal}{e W c:World}(h:rR fp F b_ sb gf cap t0 tv u_ s0 i v w_ f tape out e W)(a:Below W.heap.size W c)(n:∀k,F k->G k)(o:∀k,G k->F k\/(W.heap.size<=k/\k<c.heap.size)):rR fp G b_ sb gf cap t0 tv u_ s0 i v w_ f tape out e c:=by
 obtain⟨b,m,j,g,l⟩:=h;exact⟨b,m,j.grow a n o,g.trans (Kept.of_below (own:=[]) a) (λx p=>by simp at p),λk d q=>by rw[a.block k (el d g.size),l k d q]⟩
def rR.reads{l:List FVal}{v:FVal}{k W:World}{g n c d m:Nat}{x:Value}(h:rR fp F b_ sb gf cap t0 tv u_ s0 l v w_ f tape out k W)(D:gf<w.heap.size)(b:k=w.alloc (.cells #[.int .i64 d,.int .i64 m] 344))(s:v.vv=.slice (some ⟨g,0,none⟩) n c)(N:g<w.heap.size)(j:g≠gf)(I:k.cell? ⟨g,d,none⟩=some x):
 IF w gf (l.length*6) d m g n c W/\W.cell? ⟨g,d,none⟩=some x/\∀u,IF w gf (l.length*6) d m g n c (W.setCell ⟨g,d,none⟩ u):=by
 obtain⟨r,Q,C,T,t⟩:=h;obtain⟨G,K,E,e,H,V,B,i,y,P,M,U,O,L,S⟩:=C.top;obtain⟨rfl,p⟩:=gw e rfl;have J:K={ v with ov:=r }:=by simpa using p.symm
 subst J
 have a:W.heap[w.heap.size]?=some (.cells #[.int .i64 d,.int .i64 m] 344 (0,0)):=by
  rw[t _ (by rw[b];simp) o_,b];exact aS _ _ rfl _
 have q:W.heap[g]?=k.heap[g]?:=t g (by rw[b];simp;omega) j
 have A:∀o:World,o.heap[w.heap.size]?=W.heap[w.heap.size]?->o.heap[gf]?=W.heap[gf]?->IF w gf (l.length*6) d m g n c o:=λo z p=>by
  refine⟨aA (z.trans a) rfl,aA (z.trans a) rfl,aA (p.trans i) ?_⟩;rw[L,<-s]
 exact⟨A W rfl rfl,by rw[World.cell?_of_block q];exact I,λu=>A _ (ej _ _ _ _ (by show w.heap.size≠g;omega)) (ej _ _ _ _ (λe=>j e.symm))⟩
def rR.done{G:Nat->Prop}{a:List FVal}{v:FVal}{W:World}{b:Obj}{c:aI}(h:rR fp G b_ sb gf cap t0 tv u_ s0 a v w_ c tape out (w.alloc b) W)(j:Ext F G w.heap.size):Done fp F b_ sb t0 s0 (aF sb gf u_ (a++[v])) w ⟨w_++[c],tape,out⟩ W:=by
 obtain⟨i,f,e,g,l⟩:=h;exact⟨(Kept.of_below (own:=aF sb gf u_ (a++[v])) ((eh _ w).alloc (d7 _) b)).trans g λ_ h=>d6 h,G,gf,cap,tv,u_,_,j,e,λk d=>d6 (by simpa [aF,aY,FVal.owns,f] using d)⟩
def G6(d:Nat)(vs us:List aJ)(b:aJ)(h:cT fp F b_ w sb gf cap t0 tv u_ s0 v_ ⟨w_++[f],tape,out⟩)(aa:w_.length<=15)(O:b_<=w.heap.size)(H:f.ops.length<=99000)(hf:f.ops=vs++us++[b])(hd:d<f.g_.length):
 Calls prog 298 #[.agg #[.int .i64 d,.int .i64 us.length],.pointer (some ⟨sb,0,none⟩)] w (oC fp F b_ sb t0 s0 (aF sb gf u_ v_) w w_ tape out (aO (.assign d us.length) f)):=by
 have hM:=h.mid O (.cells #[.int .i64 d,.int .i64 us.length] 344);obtain⟨o,v,al,rfl,am, -⟩:=h.top;have L:gf<w.heap.size:=h.lt gf (by simp[aF])
 have h0:=h.grow ((eh _ w).alloc (d7 _) (.cells #[.int .i64 d,.int .i64 us.length] 344)) (λ_ h=>h) (λ_ h=>d6 h)
 have hT:=hM.topS aa;rw[<-am] at hT;obtain⟨az,v0,al,e, -,hv,ad,ai,av,k0,k1,k2,k3,k4,k5⟩:=h0.top;obtain⟨rfl,e2⟩:=gw e rfl;cases e2;generalize m:w.alloc (.cells #[.int .i64 d,.int .i64 us.length] 344)=T at h0 hT hv ad ai;obtain⟨⟨xs,af,au⟩,Q⟩:=hv.g_
 have aq:v.vv.ownBlock≠some gf:=λe=>by
  have:=(eu.1 (eu.1 h.nodup).2).1;exact this (by simp[aY,FVal.owns,e])
 obtain⟨u,ag,V⟩:=au.2 d hd;obtain⟨ta,za,rfl⟩:=V.form;have P:f.pop.ops=vs++us:=mG (by rw[hf])
 have M:f.pop.many us.length=us:=by simp[aI.many,P]
 have S:f.last=b:=jA (by rw[hf])
 have aw:vs.length+us.length+1<=99000:=by rw[hf] at H;simp at H;omega
 have ak:f.g_[d]?.getD bL=f.g_[d]:=by rw[fg hd];rfl
 obtain⟨r,hr⟩:=E_ (nH f.g_[d] us b)
 have ae:aO (.assign d us.length) f=if r.2=0 then ({ f.pop.popMany us.length with g_:=f.g_.set d r.1 },0) else (f.pop.popMany us.length,r.2):=by
  simp only[aO,M,S,ak,<-hr]
 have ao:r.2=0->aK r.1<=200:=λn=>by rw[hr] at n ⊢;exact QE _ n
 rw[ae];rcases af.2 with ⟨U,r2⟩|⟨g,c,ab,U,ay,J,ax,bb,ba,ar⟩
 ·omega
 have aj:v.vv.ownBlock=some g:=by rw[U];rfl
 have B:g≠gf:=λe=>aq (by rw[aj,e])
 have N:g<w.heap.size:=h.lt g (by simp[aF,aY,FVal.owns,aj])
 have ap:ab[d]?=some (.iface ta za):=by
  rw[<-ar,fm,if_pos o_] at ag
  simpa using ag
 have Y:T.cell? ⟨g,d,none⟩=some (.iface ta za):=aA J ap
 have ac:∀{W:World} {f':aI},rR fp F b_ sb gf cap t0 tv u_ s0 o v w_ f' tape out T W->∀k,F k->k<W.heap.size:=λi k j=>by
  obtain⟨_,_,p,_⟩:=i;exact(p.apart k j).1
 have ah:∀{W:World} {f':aI},rR fp F b_ sb gf cap t0 tv u_ s0 o v w_ f' tape out T W->PV F W (.iface ta za) f.g_[d]:=λi=>by
  obtain⟨_,_,_,s,I⟩:=i;exact V.keep λk j=>I k (by rw[<-m];exact el (h.apart k j).1 s_) λe=>(h.apart k j).2 (by simp[aF,e])
 refine(IB w T sb gf (o.length*6) d us.length g f.g_.length c r.2 ta za hd
  (λK=>r.2=0/\Done fp F b_ sb t0 s0 (aF sb gf u_ (o++[v])) w ⟨w_++[{ f.pop.popMany us.length with g_:=f.g_.set d r.1 }],tape,out⟩ K)
  (λK=>r.2≠0/\Done fp F b_ sb t0 s0 (aF sb gf u_ (o++[v])) w ⟨w_++[f.pop.popMany us.length],tape,out⟩ K)
  (λt z W=>(PV F W (.iface t z) b/\aK b<=200)/\rR fp F b_ sb gf cap t0 tv u_ s0 o v w_ f.pop tape out T W)
  (λt z x y W=>((PV F W (.iface t z) b/\aK b<=200)/\S7 F W (.slice x us.length y) us)/\rR fp F b_ sb gf cap t0 tv u_ s0 o v w_ (f.pop.popMany us.length) tape out T W)
  (λt z W=>r.2=0/\∃G,Ext F G w.heap.size/\PV G W (.iface t z) r.1/\rR fp G b_ sb gf cap t0 tv u_ s0 o v w_ (f.pop.popMany us.length) tape out T W)
  m hT (λW D=>?_) (λW t z i=>?_) (λW W' t z i D=>?_) (λW t z x y i=>?_) (λW t z x y i=>?_) (λW t z i=>?_) (λW t z i=>?_)).mono ?_
 ·refine((h0.grow D.below (λ_ h=>h) (λ_ h=>d6 h)).popR (vs:=vs++us) (a:=b) (by rw[hf]) o_).mono ?_
  rintro e K ⟨t,z,q,he,n,p,s,I,h5,h6⟩;exact⟨t,z,he,⟨n,p⟩,q,s,I,(Kept.of_below (own:=aF sb gf u_ (o++[v])) D.below).trans h5 λ_ h=>d6 h,λk _ j=>by rw[h6 k j,D.heap]⟩
 ·obtain⟨_,i⟩:=i;obtain⟨C,A,_⟩:=i.reads L m.symm U N B Y;exact⟨C,A⟩
 ·obtain⟨⟨p1,p2⟩,q,n,p,s,I⟩:=i;refine((p.grow D.below (λ_ h=>h) (λ_ h=>d6 h)).popManyR (vs:=vs) (us:=us) P (by rw[P,ei];omega)).mono ?_
  rintro e K ⟨x,y,an,he,C,A,q3,q4,q5,q6⟩;have l:aF sb gf u_ (o++[{ v with ov:=q }])=aF sb gf u_ (o++[v]):=by simp[aF,aY,FVal.owns,n]
  rw[l] at q5;have X:W.heap.size=W'.heap.size:=by rw[D.heap]
  refine⟨x,y,he,⟨⟨p1.keep λk j=>?_,p2⟩,A⟩,an,by rw[C,n],q4,(s.trans (Kept.of_below (own:=[]) D.below) (λx Y=>by simp at Y)).trans q5 λ_ h=>d6 h,λk j hn=>by rw[q6 k (by rw[<-X];exact el j s.size) hn,D.heap,I k j hn]⟩
  rw[q6 k (by rw[<-X];exact(p.apart k j).1) (λe=>(p.apart k j).2 (by simp[aF,e])),D.heap]
 ·obtain⟨_,i⟩:=i;obtain⟨C,A,_⟩:=i.reads L m.symm U N B Y;exact⟨C,A⟩
 ·obtain⟨⟨⟨p1,p2⟩,p3⟩,i⟩:=i;refine(PH F us _ _ _ f.g_[d] b W p3 (ah i) p1 (ac i) (em (Q _ (fi hd)) o_) o_ o_).mono ?_
  rintro e K ⟨hb,⟨Z,u,rfl,e3⟩|⟨Z,e2⟩⟩
  ·rw[<-hr] at Z e3;obtain⟨t1,z1,rfl⟩:=e3.form;exact d6 ⟨t1,z1,rfl,Z,Grow F W K,⟨λk j=>d6 j,λk j=>j.imp_right λn=>em (by obtain⟨_,_,_,s,_⟩:=i;rw[<-m] at s;exact em s_ s.size) n.1⟩,e3,i.grow hb (λk j=>d6 j) (λk j=>j)⟩
  ·rw[<-hr] at Z e2;subst m;exact d5 ⟨e2,Z,(i.grow hb (λ_ h=>h) (λ_ h=>d6 h)).done (Ext.refl _ _)⟩
 ·obtain⟨_,G,hG,_,i⟩:=i;obtain⟨C,A,q3⟩:=i.reads L m.symm U N B Y;obtain⟨_,_,_,_,I⟩:=i;have E:W.heap[g]?=some (.cells ab 180 (0,0)):=by rw[I g (by rw[<-m];simp;omega) B];exact J
  exact⟨C,⟨_,A⟩,aE E,aD E,q3 _⟩
 ·obtain⟨hz,G,hG,p1,q,n,p,s,I⟩:=i;obtain⟨C,A⟩:=p.assigned (d:=d) (a:=r.1) (u:=.iface t z) U p1 (ao hz);have l:aF sb gf u_ (o++[{ v with ov:=q }])=aF sb gf u_ (o++[v]):=by simp[aF,aY,FVal.owns,n]
  rw[l] at A;subst m;refine⟨hz,((Kept.of_below (own:=aF sb gf u_ (o++[v])) ((eh _ w).alloc (d7 _) _)).trans s λ_ h=>d6 h).trans A λ_ h=>d6 h,G,gf,cap,tv,u_,_,hG,C,λk j=>d6 (by rw[l] at j;exact j)⟩
 ·rintro e K (⟨rfl,n,p⟩|⟨rfl,n,p⟩)
  ·exact oC.ok (if_pos n) p
  ·exact oC.stop (if_neg n) n p
end
def LL(w m:World)(sb B D b_ n c:Nat)(x:Option Addr)(tx:List UInt8)(hn:n<50)(P:World->Prop)(Q:TypeId->Value->World->Prop)(R:World->Prop)(xs:List Value)(C:w.alloc (.cells #[] 347)=m)
 (V:Hid (∀W,aZ m W->Calls prog 95 #[.pointer (some ⟨sb,0,none⟩)] W λe f=>e=.returned (.pointer (some ⟨B,D,none⟩))/\aZ m f))
 (U:Hid (∀W,aZ m W->Calls prog 114 #[.pointer (some ⟨B,D,none⟩)] W λe f=>∃t z,e=.returned (.iface t z)/\Q t z f))
 (G:Hid (∀W t z,Q t z W->W.cell? ⟨sb,3,none⟩=some (.slice x n c)/\sb<W.heap.size))
 (S:Hid (∀W E t z,Q t z W->aZ W E->Calls prog 303 #[.iface t z] E λe f=>e=.returned (.string (bs tx))/\R f))
 (I:Hid (∀W,R W->W.cell? ⟨sb,3,none⟩=some (.slice x n c)/\sb<W.heap.size/\b_<=W.heap.size))
 (L:Hid (∀W,R W->W.ownsRow b_ 9 1 (.slice x n c) n xs))
 (H:Hid (∀W,R W->∀d:World,(W.alloc (.cells #[.string (bs tx)] 9)).grownBy d (Value.slice x n c).ownBlock->(∃u,d.cell? ⟨sb,3,none⟩=some u)/\d.frozen? ⟨sb,3,none⟩=false/\sb<d.heap.size))
 (M:Hid (∀W,R W->∀k b (d:World),d.ownsRow b_ 9 1 (.slice (some ⟨k,0,none⟩) (n+1) b) (n+1) (xs++[.string (bs tx)])->(W.alloc (.cells #[.string (bs tx)] 9)).grownBy d (Value.slice x n c).ownBlock->((Value.slice x n c).ownBlock=some k\/W.heap.size+1<=k)->P (d.setCell ⟨sb,3,none⟩ (.slice (some ⟨k,0,none⟩) (n+1) b)))):
 Calls prog 302 #[.agg #[],.pointer (some ⟨sb,0,none⟩)] w λe f=>e=.returned (.tuple #[])/\P f:=by
 obtain⟨K,N,q,s,v⟩:=info_parts DM;have O:=aB C;have F:¬(n:Int)=50:=o_
 clear C;go_enter func302,ntmps302;go_wp2_with fail;rw[O.out];refine(V.out _ (aZ.refl _)).mono ?_;rintro e X ⟨rfl,y⟩;go_wp2_with fail;refine(U.out _ y).mono ?_;rintro e w2 ⟨t,z,rfl,o⟩;obtain⟨c1,l1⟩:=G.out _ _ _ o;have r:=aB o;clear o;go_wp2_with fail;go_region_law (first|(go_simp;go_at_call 303;refine(S.out _ _ _ _ r.out (aZ.drew _)).mono ?_;rintro e p ⟨rfl,A⟩;have g:=aB A;have l:=I.out _ A;have Y:=l.1;have b2:=l.2.1;have Z:=l.2.2;clear l A)|(refine step_append_lies _ r_ _ _ 37 r_ b_ 9 K _ 1 16 underlying37 N q s v rfl d_ (.slice x n c) n xs r_ ((L.out _ g.out).alloc _) ⟨p.heap.size,0,none⟩ 1 1 [.string (bs tx)] r_ r_ (IV p _) (PM _) d_ (by unfold maxLen;omega) o_ t_ (p.heap.size+1) s_ ?_;intro k b d i a j T;have J:=H.out _ g.out d a;obtain⟨⟨u5,y1⟩,y2,y3⟩:=J))
 all_goals
  go_wp2_with fail;go_end0;exact⟨rfl,M.out _ g.out _ _ _ i a (j.imp_right λe=>Nat.le_of_eq e.symm)⟩
def LM(w b:World)(sb i k c:Nat)(x:Option Addr)(P:World->Prop)(Q:TypeId->Value->World->Prop)(j:w.alloc (.cells #[] 347)=b)
 (p:Hid (∀W,aZ b W->Calls prog 95 #[.pointer (some ⟨sb,0,none⟩)] W λe a=>e=.returned (.pointer (some ⟨i,k,none⟩))/\aZ b a))
 (o:Hid (∀W,aZ b W->Calls prog 114 #[.pointer (some ⟨i,k,none⟩)] W λe a=>∃t z,e=.returned (.iface t z)/\Q t z a))
 (l:Hid (∀W t z,Q t z W->W.cell? ⟨sb,3,none⟩=some (.slice x 50 c)/\sb<W.heap.size))
 (m:Hid (∀W t z,Q t z W->P W)):
 Calls prog 302 #[.agg #[],.pointer (some ⟨sb,0,none⟩)] w λe a=>e=fL 8/\P a:=by
 have n:=aB j;clear j;go_enter func302,ntmps302;go_wp2_with fail;rw[n.out];refine(p.out _ (aZ.refl _)).mono ?_;rintro e q ⟨rfl,g⟩;go_wp2_with fail;refine(o.out _ g).mono ?_;rintro e u ⟨t,z,rfl,d⟩;obtain⟨r,s⟩:=l.out _ _ _ d;have f:=aB d;clear d;go_wp2_with fail;exact⟨rfl,rfl,m.out _ _ _ f.out⟩
def AL(own:List Nat)(w:World):Prop:=∀W,Kept own w W->kI W
def AL.step{own a:List Nat}{w':World}(h:AL own w)(b:Kept own w w')(d:∀x∈a,x∈own\/w.heap.size<=x):AL a w':=λW c=>h W (b.trans c d)
section
variable {fp:Nat->Value} {F:Nat->Prop} {b_:Nat} {w:World} {sb gf cap:Nat} {t0 tv u_ s0:Value} {v_:List FVal} {w_:List aI} {f:aI} {tape:List Int} {out:List (List UInt8)}
def cT.printed{m:bX}{j:World}{Q:Obj}{i d:Nat}{tx:List UInt8}(h:cT fp F b_ w sb gf cap t0 tv u_ s0 v_ m)
 (J:j.ownsRow b_ 9 1 (.slice (some ⟨i,0,none⟩) (m.out.length+1) d) (m.out.length+1) (lZ m.out++[.string (bs tx)])) (z:(w.alloc Q).grownBy j u_.ownBlock) (u:u_.ownBlock=some i\/w.heap.size+1<=i):
 cT fp F b_ (j.setCell ⟨sb,3,none⟩ (.slice (some ⟨i,0,none⟩) (m.out.length+1) d)) sb gf cap t0 tv (.slice (some ⟨i,0,none⟩) (m.out.length+1) d) s0 v_ ⟨m.f_,m.tape,m.out++[tx]⟩/\Kept (aF sb gf u_ v_) w (j.setCell ⟨sb,3,none⟩ (.slice (some ⟨i,0,none⟩) (m.out.length+1) d))/\
  ∀k∈aF sb gf (.slice (some ⟨i,0,none⟩) (m.out.length+1) d) v_,k∈aF sb gf u_ v_\/w.heap.size<=k:=by
 obtain⟨I,O⟩:=eu.1 h.nodup;obtain⟨K,N⟩:=eu.1 O;obtain⟨Z,T,U⟩:=gi.1 N
 have L:∀k,k<w.heap.size->some k≠u_.ownBlock->j.heap[k]?=w.heap[k]?:=λk x l=>by
  rw[z.block k t_ l,eq _ _ _ x]
 have p:∀k,k<w.heap.size->some k≠u_.ownBlock->k≠sb->(j.setCell ⟨sb,3,none⟩ (.slice (some ⟨i,0,none⟩) (m.out.length+1) d)).heap[k]?=w.heap[k]?:=λk x l V=>by
  rw[ej _ _ _ _ V,L k x l]
 have t:sb<w.heap.size:=h.lt sb (by simp[aF])
 have s:some sb≠u_.ownBlock:=λe=>I (by simp[<-e])
 have r:some gf≠u_.ownBlock:=λe=>K (by simp[<-e])
 have B:gf≠sb:=λe=>I (by simp[e])
 have C:j.heap[sb]?=_:=(L sb t s).trans h.blk
 have g:∀k∈aY v_,k<w.heap.size/\some k≠u_.ownBlock/\k≠sb/\k≠gf:=λk c=>
  ⟨h.lt k (by simp[aF,c]),λe=>U k (by simp[<-e]) k c rfl,λe=>I (by simp[<-e,c]),λe=>K (by simp[<-e,c])⟩
 have q:i≠sb/\i≠gf/\i∉aY v_:=by
  rcases u with e|e
  ·exact⟨λH=>s (by rw[e,H]),λH=>r (by rw[e,H]),λc=>(g i c).2.1 e.symm⟩
  ·have W:gf<w.heap.size:=h.lt gf (by simp[aF])
   exact⟨o_,o_,λc=>by have:=(g i c).1;omega⟩
 have D:∀b,F b->(j.setCell ⟨sb,3,none⟩ (.slice (some ⟨i,0,none⟩) (m.out.length+1) d)).heap[b]?=w.heap[b]?:=λb y=>
  p b (h.apart b y).1 (λe=>(h.apart b y).2 (by simp[aF,<-e])) λe=>(h.apart b y).2 (by simp[aF,e])
 have o:w.heap.size<=j.heap.size:=em s_ z.size
 have n:(Value.slice (some ⟨i,0,none⟩) (m.out.length+1) d).ownBlock=some i:=rfl;have A:i<j.heap.size:=(J.lt i n).2;refine⟨⟨aQ C,aX h.row λk e=>?_,h.frs.keep D (λ_ h=>h) λv X k f=>?_,h.tape.keep D (λ_ h=>h),?_,?_,λk f=>?_,λk E=>?_⟩,⟨z.os.trans rfl,z.tape.trans rfl,z.output.trans rfl,by simpa using o,λk x l=>?_⟩,λk f=>?_⟩
 ·cases e;exact p gf (h.lt gf (by simp[aF])) r B
 ·have c:k∈aY v_:=hH.2 ⟨v,X,f⟩;obtain⟨P,Y,S,_⟩:=g k c;exact p k P Y S
 ·rw[ei];have e:lZ (m.out++[tx])=lZ m.out++[.string (bs tx)]:=by simp[lZ]
  rw[e];exact aX J λk G=>ej _ _ _ _ (by cases G;exact q.1)
 ·unfold aF;rw[n];refine eu.2 ⟨λc=>?_,eu.2 ⟨λc=>?_,gi.2 ⟨s_,T,λa M b y e=>?_⟩⟩⟩
  ·rcases en.1 c with e|c
   ·exact B e.symm
   ·rcases eo.1 c with c|c
    ·simp at c;exact q.1 c.symm
    ·exact(g sb c).2.2.1 rfl
  ·rcases eo.1 c with c|c
   ·simp at c;exact q.2.1 c.symm
   ·exact(g gf c).2.2.2 rfl
  ·simp at M;subst e;exact q.2.2 (by rw[<-M];exact y)
 ·have:(j.setCell ⟨sb,3,none⟩ (.slice (some ⟨i,0,none⟩) (m.out.length+1) d)).heap.size=j.heap.size:=s_
  rw[this];unfold aF at f;rw[n] at f;simp only[Option.toList_some,en,eo,ff,or_false] at f;rcases f with rfl|rfl|rfl|c
  ·exact el t o
  ·exact el (h.lt _ (by simp[aF])) o
  ·exact A
  ·exact el (g k c).1 o
 ·obtain⟨x,l⟩:=h.apart k E;refine⟨el x (by simpa using o),λc=>?_⟩
  unfold aF at c;rw[n] at c;simp only[Option.toList_some,en,eo,ff,or_false] at c;rcases c with rfl|rfl|rfl|c
  ·exact l (by simp[aF])
  ·exact l (by simp[aF])
  ·rcases u with e|e
   ·exact l (by simp[aF,e])
   ·omega
  ·exact l (by simp[aF,c])
 ·exact p k x (λe=>l (by simp[aF,<-e])) λe=>l (by simp[aF,e])
 ·unfold aF at f;rw[n] at f;simp only[Option.toList_some,en,eo,ff,or_false] at f;rcases f with rfl|rfl|rfl|c
  ·exact d6 (by simp[aF])
  ·exact d6 (by simp[aF])
  ·rcases u with e|e
   ·exact d6 (by simp[aF,e])
   ·exact d5 o_
  ·exact d6 (by simp[aF,c])
def L4(r:List dQ){vs:List aJ}{b:aJ}(h:cT fp F b_ w sb gf cap t0 tv u_ s0 v_ ⟨w_++[f],tape,out⟩)(hp:AL (aF sb gf u_ v_) w)(H:w_.length<=15)(i:b_<=w.heap.size)(Z:f.ops.length<=99000)(hf:f.ops=vs++[b])(ab:out.length<=50):
 Calls prog 302 #[.agg #[],.pointer (some ⟨sb,0,none⟩)] w (s6 fp F b_ sb t0 s0 (aF sb gf u_ v_) w (bY r .print w_ f tape out)):=by
 have hM:=h.mid i (.cells #[] 347);obtain⟨g,v,ac,rfl,T, -⟩:=h.top;have h0:=h.grow ((eh _ w).alloc (d7 _) (.cells #[] 347)) (λ_ h=>h) (λ_ h=>d6 h)
 have K:=hM.topS H;rw[<-T] at K;have n:Kept (aF sb gf u_ (g++[v])) w (w.alloc (.cells #[] 347)):=Kept.of_below ((eh _ w).alloc (d7 _) _);generalize B:w.alloc (.cells #[] 347)=p at h0 K n;obtain⟨x,c,rfl⟩:=cV h.out;have s:f.last=b:=jA hf
 have X:Hid (∀W,aZ p W->Calls prog 114 #[.pointer (some ⟨gf,g.length*6,none⟩)] W λe m=>∃t z,e=.returned (.iface t z)/\(PV F m (.iface t z) b/\aK b<=200/\rR fp F b_ sb gf cap t0 tv (.slice x out.length c) s0 g v w_ f.pop tape out p m)):=λW D=>by
  refine((h0.grow D.below (λ_ h=>h) (λ_ h=>d6 h)).popR hf o_).mono ?_
  rintro e m ⟨t,z,l,V,S,d,C,h4,h5,h6⟩;exact⟨t,z,V,S,d,l,C,h4,(Kept.of_below (own:=aF sb gf (.slice x out.length c) (g++[v])) D.below).trans h5 λ_ h=>d6 h,λk _ E=>by rw[h6 k E,D.heap]⟩
 have j:∀{W:World} {f':aI},rR fp F b_ sb gf cap t0 tv (.slice x out.length c) s0 g v w_ f' tape out p W->W.cell? ⟨sb,3,none⟩=some (.slice x out.length c)/\sb<W.heap.size/\b_<=W.heap.size/\Kept (aF sb gf (.slice x out.length c) (g++[v])) w W:=λa=>by
  obtain⟨l,_,d,C,_⟩:=a;exact⟨aA d.blk rfl,aD d.blk,em i (em n.size C.size),n.trans C λ_ h=>d6 h⟩
 by_cases o:out.length=50
 ·rw[o] at j X;refine(LM w p sb gf (g.length*6) c x (λm=>Done fp F b_ sb t0 s0 (aF sb gf (.slice x out.length c) (g++[v])) w ⟨w_++[f.pop],tape,out⟩ m) (λt z W=>PV F W (.iface t z) b/\aK b<=200/\rR fp F b_ sb gf cap t0 tv (.slice x 50 c) s0 g v w_ f.pop tape out p W) B K X (λW t z a=>?_) (λW t z a=>?_)).mono ?_
  ·obtain⟨y,q,_⟩:=j a.2.2;exact⟨y,q⟩
  ·subst B;rw[o];exact a.2.2.done (Ext.refl _ _)
  ·rintro e m ⟨rfl,d⟩;have U:bY r .print w_ f tape out=(⟨w_++[f.pop],tape,out⟩,8):=by simp[bY,o]
   rw[U];exact⟨d5 ⟨show (8:Nat)≠0 by decide,rfl⟩,d⟩
 ·refine(LL w p sb gf (g.length*6) b_ out.length c x (gF b) o_ (λm=>Done fp F b_ sb t0 s0 (aF sb gf (.slice x out.length c) (g++[v])) w ⟨w_++[f.pop],tape,out++[gF b]⟩ m) (λt z W=>PV F W (.iface t z) b/\aK b<=200/\rR fp F b_ sb gf cap t0 tv (.slice x out.length c) s0 g v w_ f.pop tape out p W) (λW=>rR fp F b_ sb gf cap t0 tv (.slice x out.length c) s0 g v w_ f.pop tape out p W) (lZ out) B K X (λW t z a=>?_) (λW P t z a D=>?_) (λW a=>?_) (λW a=>?_) (λW a=>?_) (λW a=>?_)).mono ?_
  ·obtain⟨y,q,_⟩:=j a.2.2;exact⟨y,q⟩
  ·obtain⟨p1,Y,a⟩:=a;have A:=a.grow D.below (λ_ h=>h) (λ_ h=>d6 h)
   have I:∀k,F k->k<P.heap.size:=λk E=>by obtain⟨_,_,d,_⟩:=A;exact(d.apart k E).1
   refine(ZB F _ b P (p1.keep λk _=>by rw[D.heap]) I (hp P (j A).2.2.2) o_).mono ?_
   rintro e m ⟨V,hb⟩;exact⟨V,A.grow hb (λ_ h=>h) (λ_ h=>d6 h)⟩
  ·obtain⟨y,q,L,_⟩:=j a;exact⟨y,q,L⟩
  ·obtain⟨_,_,d,_⟩:=a;exact d.out
  ·intro w5 N;obtain⟨l,_,d,_⟩:=a;have Q:=aD d.blk;have J:some sb≠(Value.slice x out.length c).ownBlock:=λe=>(eu.1 d.nodup).1 (by simp[<-e])
   have M:w5.heap[sb]?=_:=(N.block sb t_ J).trans ((eq _ _ _ Q).trans d.blk)
   exact⟨⟨_,aA M rfl⟩,aE M,aD M⟩
  ·intro g5 aa w5 Y N O;obtain⟨l,S,d,C,h4⟩:=a;obtain⟨y,q,L⟩:=d.printed (tx:=gF b) Y N O;have u:aF sb gf (.slice x out.length c) (g++[{ v with ov:=l }])=aF sb gf (.slice x out.length c) (g++[v]):=by simp[aF,aY,FVal.owns,S]
   rw[u] at q L;have G:=n.trans C λ_ h=>d6 h
   exact⟨G.trans q λ_ h=>d6 h,F,gf,cap,tv,_,_,Ext.refl _ _,y,λk E=>(L k E).imp_right λh=>em G.size h⟩
  ·rintro e m ⟨rfl,d⟩;have U:bY r .print w_ f tape out=(⟨w_++[f.pop],tape,out++[gF b]⟩,0):=by simp[bY,o,s]
   rw[U];exact⟨d6 ⟨rfl,rfl⟩,d⟩
end
end Go.Proofs.YthbffcmfmjpncaaGreatDoor
