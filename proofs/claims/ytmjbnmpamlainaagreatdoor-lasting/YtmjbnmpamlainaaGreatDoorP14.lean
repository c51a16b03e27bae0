/- Contracts of the program: a call begins: the walk. -/
import Derived.Test.YtmjbnmpamlainaaGreatDoorB07
import Derived.Test.YtmjbnmpamlainaaGreatDoorP13
set_option linter.defProp false
set_option maxRecDepth 100000
set_option maxHeartbeats 4000000
namespace Go.Proofs.YtmjbnmpamlainaaGreatDoor
open Hs
open _root_.Go.Proofs.Tryz
open Go.RowKit
def KX:(prog.info? 108).map (fun i=>(i.zero,i.size,i.bytes))=some (some (.agg #[.pointer none,Iv0 0,Iv0 0,.pointer none,bF,bF]),6,80):=by kernel_rfl
def VY(w:aG)(b c d e a f:aQ):∀j u,([b,c,d,e,a,f]:List Value)[j]?=some u->(w.alloc (.cells #[b,c,d,e,a,f] 108)).cell? ((⟨w.heap.size,0,none⟩:Addr).add j)=some u:=by
 intro j u g;exact World.news_of_block (cs:= #[b,c,d,e,a,f]) (aO _ _ rfl _) j u g
def F3(x y:Option Addr)(c d:Nat):∀u∈([.pointer x,Iv0 0,Iv0 0,.pointer none,.slice y c d,bF]:List Value),u.oneCell'=true:=by
 intro u a;simp at a;rcases a with rfl|rfl|rfl|rfl|rfl<;>rfl
def TN(w t:World)(sb D E gf k h base n:Nat)(a:Option Addr)(P:World->Prop)(Q:Option Addr->Nat->List Value->World->Prop)(z:w.alloc (.cells #[.pointer a,.int .i64 h] 281)=t)(hn:n<=15)
 (T:Hid (∀W,aV t W->Calls prog 64 #[.pointer (some ⟨sb,0,none⟩)] W fun e o=>e=.returned (.pointer (some ⟨D,E,none⟩))/\aV t o))
 (S:Hid (∀W,aV t W->Calls prog 245 #[.pointer (some ⟨D,E,none⟩),.int .i64 h] W fun e o=>∃x d f,e=.returned (.slice x h d)/\Q x d f o))
 (G:Hid (∀W x d f,Q x d f W->W.cell? ⟨sb,1,none⟩=some (.slice (some ⟨gf,0,none⟩) n k)/\W.cell? ⟨w.heap.size,0,none⟩=some (.pointer a)/\w.heap.size<W.heap.size/\sb<W.heap.size/\base<=W.heap.size))
 (K:Hid (∀W x d f,Q x d f W->W.drew.ownsRow base 108 6 (.slice (some ⟨gf,0,none⟩) n k) n f))
 (F:Hid (∀W x d f,Q x d f W->∀j:World,(W.drew.alloc (.cells #[.pointer a,.int .i64 0,.int .i64 0,.pointer none,.slice x h d,.slice none 0 0] 108)).grownBy j (some gf)->(∃u,j.cell? ⟨sb,1,none⟩=some u)/\j.frozen? ⟨sb,1,none⟩=false/\sb<j.heap.size))
 (L:Hid (∀W x d f,Q x d f W->∀q g (j:World),j.ownsRow base 108 6 (.slice (some ⟨q,0,none⟩) (n+1) g) (n+1) (f++[.pointer a,.int .i64 0,.int .i64 0,.pointer none,.slice x h d,.slice none 0 0])->(W.drew.alloc (.cells #[.pointer a,.int .i64 0,.int .i64 0,.pointer none,.slice x h d,.slice none 0 0] 108)).grownBy j (some gf)->(some gf=some q\/q=W.heap.size+1)->P (j.setCell ⟨sb,1,none⟩ (.slice (some ⟨q,0,none⟩) (n+1) g)))):
 Calls prog 269 #[.agg #[.pointer a,.int .i64 h],.pointer (some ⟨sb,0,none⟩)] w fun e o=>e=.returned (.tuple #[])/\P o:=by
 obtain⟨J,M,y,A,B⟩:=info_parts KX;have b:(w.alloc (.cells #[.pointer a,.int .i64 h] 281)).heap[w.heap.size]?=some (.cells #[.pointer a,.int .i64 h] 281 (0,0)):=aO _ _ rfl _;rw[z] at b;have N:=aB z;have r:=aB (aA (i:=1) b rfl);have c0:=r.out;have v:=aC b;have V:((n:Int)==16)=false:=by simp;omega
 clear z b;go_enter func269,ntmps269;go_wp2_with fail;rw[N.out];go_region_law (go_simp;first|(go_at_call 64;refine(T.out _ (aV.drew _)).mono ?_;rintro e U ⟨rfl,l⟩;have d1:=cM l.heap r.out;have X:=kX l.heap v)|(go_at_call 245;refine(S.out _ l).mono ?_;rintro e C ⟨x,d,f,rfl,s⟩;have H:=G.out _ _ _ _ s;obtain⟨Y,y2,y3,y4,y5⟩:=H))
 all_goals
  go_wp2_with fail;go_region_law (refine step_append_lies _ (by rfl) _ _ 47 (by rfl) base 108 J _ 6 80 underlying47 M y A B rfl (by decide) (.slice (some ⟨gf,0,none⟩) n k) n f (by rfl) ((K.out _ _ _ _ s).alloc _) ⟨C.heap.size,0,none⟩ 1 1 [.pointer a,.int .i64 0,.int .i64 0,.pointer none,.slice x h d,.slice none 0 0] (by rfl) (by rfl) (VY C.drew _ _ _ _ _ _) (F3 _ _ _ _) (by decide) (by unfold maxLen;omega) (by omega) (by simp;omega) (C.heap.size+1) (by simp) ?_;intro q g j m c p O;have I:=F.out _ _ _ _ s j c;obtain⟨⟨u5,z1⟩,Z,z3⟩:=I)
  all_goals
   go_wp2_with fail;go_end0;exact⟨rfl,L.out _ _ _ _ s _ _ _ m c p⟩
def MV{w:aG}{b i:Nat}{e:TypeId}{a:Nat}{v:aQ}{n:Nat}{xs:List Value}(h:w.ownsRow i e a v n xs)(o:b<=i):w.ownsRow b e a v n xs:=by
 rcases h with ⟨f,l|⟨g,c,d,m,j,k⟩⟩
 ·exact⟨f,cl_ l⟩
 ·exact⟨f,ck_ ⟨g,c,d,m,cw_ o j,k⟩⟩
section
variable {fp:eQ} {F:bX} {base:Nat} {w:aG} {sb gf cap:Nat} {t0 tv outv s0:aQ} {fvs:List FVal} {below:List aJ} {f:aJ} {tape:List Int} {out:cN}
def dA.called{m:cR}{fn:eU}{us:List aM}{T:List Value}{x i:Option Addr}{d n g B:Nat}{p:aG}(h:dA false fp F base w sb gf cap t0 tv outv s0 fvs m)(W:YL fp F w (.pointer i) fn)(hB:base<=B)(j:∀k∈aR false sb gf outv fvs,k<B)(X:∀k,F k->k<B)
 (A:w.ownsRow B 129 1 (.slice x us.length d) us.length T) (U:gQ F w T us) (S:∀a∈us,aN a<=200)
 (r:p.ownsRow base 108 6 (.slice (some (aH n 0)) (fvs.length+1) g) (fvs.length+1) (gU fvs++[.pointer i,Iv0 0,Iv0 0,.pointer none,.slice x us.length d,bF]))
 (H:(w.drew.alloc (.cells #[.pointer i,Iv0 0,Iv0 0,.pointer none,.slice x us.length d,bF] 108)).grownBy p (some gf)) (y:some gf=some n\/n=w.heap.size+1):
 dA false fp F base (p.setCell (aH sb 1) (.slice (some (aH n 0)) (fvs.length+1) g)) sb n g t0 tv outv s0 (fvs++[⟨.pointer i,Iv0 0,Iv0 0,.pointer none,.slice x us.length d,bF⟩]) ⟨m.frames++[⟨fn,0,0,[],us,[]⟩],m.tape,m.out⟩/\
  Kept (aR false sb gf outv fvs) w (p.setCell (aH sb 1) (.slice (some (aH n 0)) (fvs.length+1) g)):=by
 generalize O:Value.slice (some (aH n 0)) (fvs.length+1) g=V at*;have q:=cB_.1 h.nodup;have D:=cB_.1 q.2;have K:sb≠gf:=fun e=>q.1 (by simp[e])
 have P:=aC h.blk
 have L:n≠sb:=by
  rcases y with e|e
  ·cases e;exact fun e=>K e.symm
  ·omega
 have Y:n<p.heap.size:=by
  subst O;exact cP r n rfl
 have I:∀k,k<w.heap.size->k≠gf->p.heap[k]?=w.heap[k]?:=fun k z E=>by
  rw[H.block k (by simp;omega) (fun e=>E (by cases e;rfl)),cq_ _ _ _ (by exact z)];rfl
 have M:∀k,k<w.heap.size->k≠gf->k≠sb->(p.setCell (aH sb 1) V).heap[k]?=w.heap[k]?:=fun k z E h3=>by
  rw[cm_ _ _ _ _ h3,I k z E]
 have t:∀b,F b->(p.setCell (aH sb 1) V).heap[b]?=w.heap[b]?:=fun b G=>M b (h.apart b G).1 (fun e=>(h.apart b G).2 (by simp[aR,e])) (fun e=>(h.apart b G).2 (by simp[aR,e]))
 have J:∀k,k∈outv.ownBlock.toList++cA false fvs->(p.setCell (aH sb 1) V).heap[k]?=w.heap[k]?:=fun k c=>M k (h.lt k (by unfold aR;exact cx_ _ (cx_ _ c))) (fun e=>D.1 (by rw[<-e];exact c)) (fun e=>q.1 (by rw[<-e];exact cx_ _ c))
 have Q:w.heap.size<=(p.setCell (aH sb 1) V).heap.size:=cw_ (by simp) (cw_ H.size (by simp))
 have o:∀k,(Value.slice x us.length d).ownBlock=some k->B<=k/\k<w.heap.size:=fun k e=>⟨cS A k e,cP A k e⟩
 have l:∀k,(Value.slice x us.length d).ownBlock=some k->k≠gf/\k≠sb:=fun k e=>by
  have z:=j gf (by simp[aR])
  have E:=j sb (by simp[aR])
  have:=(o k e).1;omega
 have C:(⟨.pointer i,Iv0 0,Iv0 0,.pointer none,.slice x us.length d,bF⟩:FVal).ownX false=(Value.slice x us.length d).ownBlock.toList:=by simp[FVal.ownX,show (Value.slice none 0 0).ownBlock=none from rfl]
 have s:aR false sb n outv (fvs++[⟨.pointer i,Iv0 0,Iv0 0,.pointer none,.slice x us.length d,bF⟩])=sb::n::((outv.ownBlock.toList++cA false fvs)++(Value.slice x us.length d).ownBlock.toList):=by simp[aR,cA,C]
 have u:(fvs++[(⟨.pointer i,Iv0 0,Iv0 0,.pointer none,.slice x us.length d,bF⟩:FVal)]).length=fvs.length+1:=by simp
 refine⟨⟨?_,?_,?_,h.tape.keep t dX,aW h.out fun k f=>J k (by simp[f]),?_,?_,?_⟩,?_⟩
 ·rw[u,aK (show p.heap[sb]?=_ from (I sb P K).trans h.blk),O];rfl
 ·rw[u,kJ,O];subst O;exact aW r fun k f=>cm_ _ _ _ _ (by cases f;exact L)
 ·refine(h.frs.keep t dX fun v hv k f=>J k (cI_ _ (de_.2 ⟨v,hv,f⟩))).snoc ⟨W.keep t dX,rfl,rfl,rfl,⟨⟨T,?_,U.keep t⟩,S⟩,⟨⟨[],World.ownsRow_nil _ _ _ _,gQ.nil _ _⟩,fun _ h=>by simp at h⟩⟩
  exact aW (MV A hB) fun k e=>M k (o k e).2 (l k e).1 (l k e).2
 ·rw[s];refine cB_.2 ⟨?_,cB_.2 ⟨?_,c5_.2 ⟨D.2,by cases (Value.slice x us.length d).ownBlock<;>simp,?_⟩⟩⟩
  ·intro c;simp only[cv_,cu_] at c;rcases c with e|(e|e)|e
   ·exact L e.symm
   ·exact q.1 (by simp[e])
   ·exact q.1 (by simp[e])
   ·exact(l sb (by simpa using e)).2 rfl
  ·intro c;rcases y with e|e
   ·cases e;rcases cu_.1 c with c|c
    ·exact D.1 c
    ·exact(l gf (by simpa using c)).1 rfl
   ·rcases cu_.1 c with c|c
    ·have:=h.lt n (by unfold aR;exact cx_ _ (cx_ _ c));omega
    ·have:=(o n (by simpa using c)).2;omega
  ·intro a ha b G e;subst e;have z:=j a (by unfold aR;exact cx_ _ (cx_ _ ha))
   have E:=(o a (by simpa using G)).1
   omega
 ·intro k c;rw[s] at c;have h5:p.heap.size<=(p.setCell (aH sb 1) V).heap.size:=by simp
  simp only[cv_,cu_] at c;rcases c with e|e|(e|e)|e
  ·rw[e];omega
  ·rw[e];omega
  ·have:=h.lt k (by simp[aR,e]);omega
  ·have:=h.lt k (by simp[aR,e]);omega
  ·have:=(o k (by simpa using e)).2;omega
 ·intro k f;obtain⟨a1,N⟩:=h.apart k f;refine⟨by omega,fun c=>?_⟩
  rw[s] at c;simp only[cv_,cu_] at c;rcases c with e|e|(e|e)|e
  ·exact N (by simp[aR,e])
  ·rcases y with Z|Z
   ·cases Z;exact N (by simp[aR,e])
   ·omega
  ·exact N (by simp[aR,e])
  ·exact N (by simp[aR,e])
  ·have:=(o k (by simpa using e)).1;have:=X k f;omega
 ·exact⟨H.os.trans rfl,H.tape.trans rfl,H.output.trans rfl,Q,fun k z hn=>M k z (fun e=>hn (by simp[aR,e])) (fun e=>hn (by simp[aR,e]))⟩
def ClQ(fp:eQ)(F:bX)(base sb gf cap:Nat)(t0 tv outv s0:aQ)(fvs:List FVal)(below:List aJ)(f:aJ)(tape:List Int)(out:cN)(w0:aG)(us:List aM)(x:Option Addr)(d:Nat)(xs:List Value)(W:aG):Prop:=
 ∃fvs' ys,xs=gU fvs'/\Kept (aR false sb gf outv fvs) w0 W/\aR false sb gf outv fvs'=aR false sb gf outv fvs/\fvs'.length=fvs.length/\dA false fp F base W sb gf cap t0 tv outv s0 fvs' ⟨below++[f.popMany us.length],tape,out⟩/\
  W.ownsRow w0.heap.size 129 1 (.slice x us.length d) us.length ys/\gQ F W ys us/\(∀a∈us,aN a<=200)/\∀k,F k->W.heap[k]?=w0.heap[k]?
def a3_(v:List eU)(k:Nat)(fn:eU)(vs us:List aM)(h:dA false fp F base w sb gf cap t0 tv outv s0 fvs ⟨below++[f],tape,out⟩)(A:below.length<=15)(E:base<=w.heap.size)(ad:f.ops.length<=99000)(hf:f.ops=vs++us)(Q:mC fp F w v)(hk:v[k]?=some fn):
 Calls prog 269 #[.agg #[fp k,Iv0 us.length],bH sb] w (DoM fp F base sb t0 s0 (aR false sb gf outv fvs) w (Hs.doI v (.call k us.length) below f tape out)):=by
 have I:=Q k fn hk;have H:∃q,fp k=.pointer q:=by obtain⟨fb,gc,cp,af,e,_⟩:=I;exact⟨_,e⟩
 obtain⟨g,H⟩:=H;rw[H] at I ⊢
 have hM:=h.mid E (.cells #[.pointer g,Iv0 us.length] 281);have G:Below w.heap.size w (w.alloc (.cells #[.pointer g,Iv0 us.length] 281)):=(co_ _ w).alloc cL _;have h0:=h.grow G dX (fun _ h=>cl_ h)
 have P:fvs.length=below.length+1:=by rw[h.count];simp
 have C:(w.alloc (.cells #[.pointer g,Iv0 us.length] 281)).heap[w.heap.size]?=some (.cells #[.pointer g,Iv0 us.length] 281 (0,0)):=aO _ _ rfl _;have hm:f.many us.length=us:=by simp[aJ.many,hf]
 have hr:Hs.doI v (.call k us.length) below f tape out=if below.length+1=16 then (⟨below++[f.popMany us.length],tape,out⟩,5) else (⟨(below++[f.popMany us.length])++[⟨fn,0,0,[],us,[]⟩],tape,out⟩,0):=by
  simp[Hs.doI,hm,hk]
 rw[hr];have Y:w.heap.size<(w.alloc (.cells #[.pointer g,Iv0 us.length] 281)).heap.size:=aC C;generalize V:w.alloc (.cells #[.pointer g,Iv0 us.length] 281)=D at*
 have HP:∀W,aV D W->Calls prog 245 #[.pointer (some (aH gf (below.length*6))),Iv0 us.length] W fun e z=>∃x d t,e=aZ (.slice x us.length d)/\ClQ fp F base sb gf cap t0 tv outv s0 fvs below f tape out D us x d t z:=fun W O=>by
  refine((h0.grow O.below dX (fun _ h=>cl_ h)).popMany hf (by omega)).mono ?_
  rintro e z ⟨v',N,c,he,o,s,u,l,y,M,K,L⟩;rw[O.heap] at y;obtain⟨x,d,rfl⟩:=dE y;exact⟨x,d,_,he,c,N,rfl,(Kept.of_below (own:=aR false sb gf outv fvs) O.below).trans o fun _ h=>cl_ h,s,u,l,y,M,K,fun j m=>by rw[L j m,O.heap]⟩
 have HK:∀{W W'},Kept (aR false sb gf outv fvs) D W->Kept (aR false sb gf outv fvs) W W'->Kept (aR false sb gf outv fvs) w W':=fun a b=>((Kept.of_below (own:=aR false sb gf outv fvs) G).trans a fun _ h=>cl_ h).trans b fun _ h=>cl_ h
 by_cases p:below.length+1=16
 ·rw[if_pos p];refine(TO w D sb gf (below.length*6) gf cap us.length g (fun z=>Done fp F base sb t0 s0 (aR false sb gf outv fvs) w ⟨below++[f.popMany us.length],tape,out⟩ z) (fun x d W=>∃t,ClQ fp F base sb gf cap t0 tv outv s0 fvs below f tape out D us x d t W) V (hM.topS A) (fun W O=>?_) (fun W x d r=>?_)).mono ?_
  ·refine(HP W O).mono ?_;rintro e z ⟨x,d,t,he,r⟩;exact⟨x,d,he,t,r⟩
  ·obtain⟨t,c,N,_,o,s,u,l,_⟩:=r;have i:=l.blk;rw[u,P,p] at i;exact⟨aA i rfl,HK o (Kept.refl _ _),F,gf,cap,tv,outv,c,Ext.refl _ _,l,fun j m=>cl_ (by rw[<-s];exact m)⟩
  ·rintro e z ⟨rfl,h2⟩;exact⟨ck_ ⟨show (5:Nat)≠0 by decide,rfl⟩,h2⟩
 ·rw[if_neg p];refine(TN w D sb gf (below.length*6) gf cap us.length base fvs.length g (fun z=>Done fp F base sb t0 s0 (aR false sb gf outv fvs) w ⟨(below++[f.popMany us.length])++[⟨fn,0,0,[],us,[]⟩],tape,out⟩ z) (ClQ fp F base sb gf cap t0 tv outv s0 fvs below f tape out D us) V (by omega) (hM.topS A) HP (fun W x d t r=>?_) (fun W x d t r=>?_) (fun W x d t r=>?_) (fun W x d t r=>?_)).mono ?_
  ·obtain⟨c,N,_,o,s,u,l,y,M,K,L⟩:=r;have i:=l.blk;rw[u] at i;have S:W.heap[w.heap.size]?=_:=(o.block w.heap.size Y (fun hm=>Nat.lt_irrefl _ (h.lt _ hm))).trans C
   exact⟨aA i rfl,aA S rfl,aC S,aC i,by have:=o.size;omega⟩
  ·obtain⟨c,N,rfl,o,s,u,l,y,M,K,L⟩:=r;have:=l.row;rw[u] at this;exact aW this fun _ _=>rfl
  ·obtain⟨c,N,_,o,s,u,l,y,M,K,L⟩:=r;intro w5 Z;have aa:=aC l.blk;have ab:sb≠gf:=fun e=>(cB_.1 l.nodup).1 (by simp[e])
   have J:w5.heap[sb]?=_:=(Z.block sb (by simp;omega) (fun e=>ab (by cases e;rfl))).trans ((cq_ _ _ _ (by exact aa)).trans l.blk)
   exact⟨⟨_,aA J rfl⟩,aD J,aC J⟩
  ·obtain⟨c,N,rfl,o,s,u,l,y,M,K,L⟩:=r;intro g5 U w5 n Z X;rw[<-u] at n ⊢
   have ac:YL fp F W (.pointer g) fn:=I.keep (fun b hb=>by rw[L b hb];exact G.block b (h.apart b hb).1) dX
   obtain⟨q1,q2⟩:=l.called (B:=D.heap.size) ac (by omega) (fun j m=>by rw[s] at m;exact h0.lt j m) (fun j m=>(h0.apart j m).1) y M K n Z X
   rw[s] at q2;refine⟨HK o q2,F,g5,U,tv,outv,_,Ext.refl _ _,q1,fun j m=>?_⟩
   have T:aR false sb g5 outv (c++[⟨.pointer g,Iv0 0,Iv0 0,.pointer none,.slice x us.length d,bF⟩])=sb::g5::((outv.ownBlock.toList++cA false c)++(Value.slice x us.length d).ownBlock.toList):=by simp[aR,cA,FVal.ownX,show (Value.slice none 0 0).ownBlock=none from rfl]
   rw[T] at m;rw[<-s];have ae:=o.size;simp only[cv_,cu_] at m;rcases m with e|e|(e|e)|e
   ·exact cl_ (by simp[aR,e])
   ·rcases X with e2|e2
    ·cases e2;exact cl_ (by simp[aR,e])
    ·exact ck_ (by omega)
   ·exact cl_ (by simp[aR,e])
   ·exact cl_ (by simp[aR,e])
   ·have:=cS y j (by simpa using e)
    exact ck_ (by omega)
  ·rintro e z ⟨rfl,h2⟩;exact⟨cl_ ⟨rfl,rfl⟩,h2⟩
end
def JV(w:aG)(fa fj d m g n c:Nat)(W:aG):Prop:=
 W.cell? (aH w.heap.size 0)=some (Iv0 d)/\W.cell? (aH w.heap.size 1)=some (Iv0 m)/\W.cell? (aH fa (fj+4))=some (.slice (some (aH g 0)) n c)
def JV.same{w W f:aG}{b e d m g n c:Nat}(h:JV w b e d m g n c W)(a:aV W f):JV w b e d m g n c f:=
 ⟨cM a.heap h.1,cM a.heap h.2.1,cM a.heap h.2.2⟩
def JR(w J:aG)(sb r s d m g n c k:Nat)(O:TypeId)(Z:aQ)(ac:d<n)(P S:World->Prop)(Q:TypeId->Value->World->Prop)(R:TypeId->Value->Option Addr->Nat->World->Prop)(U:TypeId->Value->World->Prop)(hW:w.alloc (.cells #[Iv0 d,Iv0 m] 311)=J)
 (HT:Hid (∀W,aV J W->Calls prog 64 #[bH sb] W fun e o=>e=aZ (.pointer (some (aH r s)))/\aV J o))
 (HP:Hid (∀W,aV J W->Calls prog 65 #[.pointer (some (aH r s))] W fun e o=>∃t z,e=aZ (.iface t z)/\Q t z o))
 (HQ:Hid (∀W t z,Q t z W->JV w r s d m g n c W/\W.cell? (aH g d)=some (.iface O Z)))
 (HM:Hid (∀W W' t z,Q t z W->aV W W'->Calls prog 245 #[.pointer (some (aH r s)),Iv0 m] W' fun e o=>∃x y,e=aZ (.slice x m y)/\R t z x y o))
 (HR:Hid (∀W t z x y,R t z x y W->JV w r s d m g n c W/\W.cell? (aH g d)=some (.iface O Z)))
 (HV:Hid (∀W t z x y,R t z x y W->Calls prog 273 #[.iface O Z,.slice x m y,.iface t z] W fun e o=>(∃I H,e=aZ (.iface I H)/\U I H o)\/(e=fR k/\S o)))
 (HU:Hid (∀W t z,U t z W->JV w r s d m g n c W/\(∃u,W.cell? (aH g d)=some u)/\W.frozen? (aH g d)=false/\g<W.heap.size/\JV w r s d m g n c (W.setCell (aH g d) (.iface t z))))
 (HN:Hid (∀W t z,U t z W->P (W.setCell (aH g d) (.iface t z)))):
 Calls prog 272 #[.agg #[Iv0 d,Iv0 m],bH sb] w fun e o=>(e=aZ (.tuple #[])/\P o)\/(e=fR k/\S o):=by
 have HW:=aB hW;have e1:(0:Int)<=(d:Int):=by omega
 have e2:(d:Int)<(n:Int):=by omega
 clear hW;go_in
 go_wp2_with fail;rw[HW.out];refine(HT _ (aV.refl _)).mono ?_;rintro e w1 ⟨rfl,T⟩;go_wp2_with fail;refine(HP _ T).mono ?_;rintro e L ⟨t,z,rfl,M⟩;have F:=aB M;have N:=HQ _ _ _ M;have G:=N.1.same (aV.drew L);have ab:=cM (aV.drew L).heap N.2;clear N M;go_wp2_with fail;refine wp_region_held_drew (S:=fun W=>W.cell? (aH w.heap.size 0)=some (Iv0 d)/\W.cell? (aH w.heap.size 1)=some (Iv0 m)/\W.cell? (aH r (s+4))=some (.slice (some (aH g 0)) n c)) (by kernel_rfl) G (fun a=>?_)
 (refine wpAnyH_take (i:=0) (v:=?_) rfl (by kernel_rfl) (by kernel_rfl) (by kernel_rfl) (fun _ _ _ h=>h) (cl_ ⟨by rfl,?_⟩) a ?_;rotate_left;(intro w b;(try dsimp only at b);go_simp<;>with_reducible rfl))
 (refine wpAnyH_take (i:=1) (v:=?_) rfl (by kernel_rfl) (by kernel_rfl) (by kernel_rfl) (fun _ _ _ h=>h) (cl_ ⟨by rfl,?_⟩) a ?_;rotate_left;(intro w b;(try dsimp only at b);go_simp<;>with_reducible rfl))
 (refine wpAnyH_take (i:=2) (v:=?_) rfl (by kernel_rfl) (by kernel_rfl) (by kernel_rfl) (fun _ _ _ h=>h) (cl_ ⟨by rfl,?_⟩) a ?_;rotate_left;(intro w b;(try dsimp only at b);go_simp<;>with_reducible rfl))
 (refine wpAnyH_take (i:=4) (v:=?_) rfl (by kernel_rfl) (by kernel_rfl) (by kernel_rfl) (fun _ _ _ h=>h) (cl_ ⟨by rfl,?_⟩) a ?_;rotate_left;(intro w b;(try dsimp only at b);go_simp<;>with_reducible rfl))
 (refine wpAnyH_take (i:=6) (v:=?_) rfl (by kernel_rfl) (by kernel_rfl) (by kernel_rfl) (fun _ _ _ h=>h) (cl_ ⟨by rfl,?_⟩) a ?_;rotate_left;(intro w b;(try dsimp only at b);go_simp<;>with_reducible rfl))
 (refine wpAnyH_take (i:=7) (v:=?_) rfl (by kernel_rfl) (by kernel_rfl) (by kernel_rfl) (fun _ _ _ h=>h) (cl_ ⟨by rfl,?_⟩) a ?_;rotate_left;(intro w b;(try dsimp only at b);go_simp<;>with_reducible rfl))
 (refine wpAnyH_take (i:=8) (v:=?_) rfl (by kernel_rfl) (by kernel_rfl) (by kernel_rfl) (fun _ _ _ h=>h) (cl_ ⟨by rfl,?_⟩) a ?_;rotate_left;(intro w b;(try dsimp only at b);go_simp<;>with_reducible rfl))
 (refine wpAnyH_take (i:=10) (v:=?_) rfl (by kernel_rfl) (by kernel_rfl) (by kernel_rfl) (fun _ _ _ h=>h) (cl_ ⟨by rfl,?_⟩) a ?_;rotate_left;(intro w b;(try dsimp only at b);go_simp<;>with_reducible rfl))
 (refine wpAnyH_take (i:=14) (v:=?_) rfl (by kernel_rfl) (by kernel_rfl) (by kernel_rfl) (fun _ _ _ h=>h) (cl_ ⟨by rfl,?_⟩) a ?_;rotate_left;(intro w b;(try dsimp only at b);go_simp<;>with_reducible rfl))
 (refine wpAnyH_take (i:=15) (v:=?_) rfl (by kernel_rfl) (by kernel_rfl) (by kernel_rfl) (fun _ _ _ h=>h) (cl_ ⟨by rfl,?_⟩) a ?_;rotate_left;(intro w b;(try dsimp only at b);go_simp<;>with_reducible rfl))
 (refine wpAnyH_take (i:=18) (v:=?_) rfl (by kernel_rfl) (by kernel_rfl) (by kernel_rfl) (fun _ _ _ h=>h) (cl_ ⟨by rfl,?_⟩) a ?_;rotate_left;(intro w b;(try dsimp only at b);go_simp<;>with_reducible rfl))
 (refine wpAnyH_take (i:=3) (v:=?_) rfl (by kernel_rfl) (by kernel_rfl) (by kernel_rfl) (fun _ _ _ h=>h) (cl_ ⟨by rfl,?_⟩) a ?_;rotate_left;(intro w b;(try dsimp only at b);go_simp<;>with_reducible rfl))
 (refine wpAnyH_take (i:=5) (v:=?_) rfl (by kernel_rfl) (by kernel_rfl) (by kernel_rfl) (fun _ _ _ h=>h) (cl_ ⟨by rfl,?_⟩) a ?_;rotate_left;(intro w b;(try dsimp only at b);go_simp<;>with_reducible rfl))
 (refine wpAnyH_take (i:=9) (v:=?_) rfl (by kernel_rfl) (by kernel_rfl) (by kernel_rfl) (fun _ _ _ h=>h) (cl_ ⟨by rfl,?_⟩) a ?_;rotate_left;(intro w b;(try dsimp only at b);go_simp<;>with_reducible rfl))
 (refine wpAnyH_take (i:=11) (v:=?_) rfl (by kernel_rfl) (by kernel_rfl) (by kernel_rfl) (fun _ _ _ h=>h) (cl_ ⟨by rfl,?_⟩) a ?_;rotate_left;(intro w b;(try dsimp only at b);go_simp<;>with_reducible rfl))
 (refine wpAnyH_take (i:=12) (v:=?_) rfl (by kernel_rfl) (by kernel_rfl) (by kernel_rfl) (fun _ _ _ h=>h) (cl_ ⟨by rfl,?_⟩) a ?_;rotate_left;(intro w b;(try dsimp only at b);go_simp<;>with_reducible rfl))
 (refine wpAnyH_take (i:=16) (v:=?_) rfl (by kernel_rfl) (by kernel_rfl) (by kernel_rfl) (fun _ _ _ h=>h) (cl_ ⟨by rfl,?_⟩) a ?_;rotate_left;(intro w b;(try dsimp only at b);go_simp<;>with_reducible rfl))
 refine wpAnyH_ready (rs:=[13,17]) (by kernel_rfl) (by simp) ?_
 refine AllReadyH.cons rfl (fun K j=>?_) (AllReadyH.cons rfl (fun K j=>?_) AllReadyH.nil)
 ·go_simp;refine j.out _ _ G (fun a=>?_)
  clear j K;refine wpAnyH_ready (rs:=[17]) (by kernel_rfl) (by simp) ?_
  refine AllReadyH.cons rfl (fun K j=>?_) AllReadyH.nil
  go_simp;go_at_call 245
  refine(HM _ _ _ _ F (aV.drew L)).mono ?_;rintro e w3 ⟨x,y,rfl,E⟩;have C:=aB E;have l:=HR _ _ _ _ _ E;have q:=l.1;have aa:=l.2;clear l E;go_wp2_with fail;refine j.out _ _ q (fun a=>?_)
  clear j K;refine wpAnyH_ready (rs:=[19]) (by kernel_rfl) (by simp) ?_
  refine AllReadyH.cons rfl (fun K j=>?_) AllReadyH.nil
  go_simp;go_at_call 273
  refine(HV _ _ _ _ _ C).mono ?_;rintro e w4 (⟨I,H,rfl,p⟩|⟨rfl,p⟩)
  rotate_left
  exact⟨rfl,ck_ ⟨rfl,p⟩⟩;have B:=aB p;have f:=HU _ _ _ p;have D:=f.1;obtain⟨u4,V⟩:=f.2.1;have X:=f.2.2.1;have Y:=f.2.2.2.1;have A:=f.2.2.2.2;clear f p;go_wp2_with fail;refine j.out _ _ D (fun a=>?_)
  clear j K;refine wpAnyH_take (i:=20) (v:=?_) rfl (by kernel_rfl) (by kernel_rfl) (by kernel_rfl) (fun _ _ _ h=>h) (cl_ ⟨by rfl,?_⟩) a ?_
  rotate_left
  ·intro w b;(try dsimp only at b);go_simp<;>with_reducible rfl
  refine wpAnyH_ready (rs:=[21]) (by kernel_rfl) (by simp) ?_
  refine AllReadyH.cons rfl (fun K j=>?_) AllReadyH.nil
  go_simp;refine j.out _ _ A (fun a=>?_)
  clear j K;refine wpAnyH_done (by kernel_rfl) ?_ _
  go_wp2
  go_end0;exact cl_ ⟨rfl,HN _ _ _ B⟩
 ·go_simp;go_at_call 245
  refine(HM _ _ _ _ F (aV.drew L)).mono ?_;rintro e w3 ⟨x,y,rfl,E⟩;have C:=aB E;have l:=HR _ _ _ _ _ E;have q:=l.1;have aa:=l.2;clear l E;go_wp2_with fail;refine j.out _ _ q (fun a=>?_)
  clear j K;refine wpAnyH_ready (rs:=[13]) (by kernel_rfl) (by simp) ?_
  refine AllReadyH.cons rfl (fun K j=>?_) AllReadyH.nil
  go_simp;refine j.out _ _ q (fun a=>?_)
  clear j K;refine wpAnyH_ready (rs:=[19]) (by kernel_rfl) (by simp) ?_
  refine AllReadyH.cons rfl (fun K j=>?_) AllReadyH.nil
  go_simp;go_at_call 273
  refine(HV _ _ _ _ _ C).mono ?_;rintro e w4 (⟨I,H,rfl,p⟩|⟨rfl,p⟩)
  rotate_left
  exact⟨rfl,ck_ ⟨rfl,p⟩⟩;have B:=aB p;have f:=HU _ _ _ p;have D:=f.1;obtain⟨u4,V⟩:=f.2.1;have X:=f.2.2.1;have Y:=f.2.2.2.1;have A:=f.2.2.2.2;clear f p;go_wp2_with fail;refine j.out _ _ D (fun a=>?_)
  clear j K;refine wpAnyH_take (i:=20) (v:=?_) rfl (by kernel_rfl) (by kernel_rfl) (by kernel_rfl) (fun _ _ _ h=>h) (cl_ ⟨by rfl,?_⟩) a ?_
  rotate_left
  ·intro w b;(try dsimp only at b);go_simp<;>with_reducible rfl
  refine wpAnyH_ready (rs:=[21]) (by kernel_rfl) (by simp) ?_
  refine AllReadyH.cons rfl (fun K j=>?_) AllReadyH.nil
  go_simp;refine j.out _ _ A (fun a=>?_)
  clear j K;refine wpAnyH_done (by kernel_rfl) ?_ _
  go_wp2
  go_end0;exact cl_ ⟨rfl,HN _ _ _ B⟩
def IxR.ofRow{F:bX}{w:aG}{base:Nat}{v:aQ}{xs:List Value}{l:List aM}(h:w.ownsRow base 129 1 v l.length xs)(n:gQ F w xs l):IxR F w v l:=by
 rcases h.2 with ⟨a,d⟩|⟨g,c,m,a,d,b,f,q,p,j⟩
 ·exact cl_ ⟨dh_.1 d,none,0,by rw[a]⟩
 ·refine ck_ ⟨g,0,c,a,f,aC b,fun i o=>?_⟩
  obtain⟨u,e,k⟩:=n.2 i o;refine⟨u,aA b ?_,k⟩;rw[<-j,cM_,if_pos (by omega)] at e
  simpa using e
section
variable {fp:eQ} {F:bX} {base:Nat} {w:aG} {sb gf cap:Nat} {t0 tv outv s0:aQ} {fvs:List FVal} {below:List aJ} {f:aJ} {tape:List Int} {out:cN}
def dA.popManyR{fb:List FVal}{v:FVal}{vs us:List aM}(h:dA false fp F base w sb gf cap t0 tv outv s0 (fb++[v]) ⟨below++[f],tape,out⟩)(J:f.ops=vs++us)(u:f.ops.length<=100000):
 Calls prog 245 #[.pointer (some (aH gf (fb.length*6))),Iv0 us.length] w fun e t=>∃x y c,e=aZ (.slice x us.length y)/\c.ownBlock=v.ov.ownBlock/\IxR F t (.slice x us.length y) us/\(∀a∈us,aN a<=200)/\
  dA false fp F base t sb gf cap t0 tv outv s0 (fb++[{ v with ov:=c }]) ⟨below++[f.popMany us.length],tape,out⟩/\Kept (aR false sb gf outv (fb++[v])) w t/\∀k,k<w.heap.size->k≠gf->t.heap[k]?=w.heap[k]?:=by
 obtain⟨Y,v0,I,e,Z,P,Q,p,N,k0,k1,k2,k3,k4,W⟩:=h.top;obtain⟨rfl,X⟩:=db_ e rfl;cases X;obtain⟨⟨xs,i,z⟩,g⟩:=P.ops;rw[J] at i z g;obtain⟨r,O,rfl,L,G,H,s⟩:=z.split;rw[J,cp_] at u;rw[cp_] at i;refine(wR base gf (fb.length*6) vs.length us.length I v.ov r O w p W i L G (pQ s) (by omega)).mono ?_
 rintro e t ⟨S,c,C,he,q,K,rfl,T,B⟩;have n:(f.popMany us.length).ops=vs:=by simp[aJ.popMany,J]
 have M:=h.grow q dX (fun _ h=>cl_ h)
 have D:OP false fp F base C { v with ov:=c } (f.popMany us.length):=by
  have m:∀b,F b->C.heap[b]?=w.heap[b]?:=fun b o=>q.block b (h.apart b o).1
  have A:∀k∈(v.ownX false),k<w.heap.size:=fun k m=>h.lt k (by simp[aR,cA,m])
  have l:=P.keep m dX fun k hm=>q.block k (A k hm)
  refine⟨l.fn,l.nx,l.ln,l.sp,l.vars,⟨r,?_,?_⟩,fun b o=>g b (cC_ _ (by rw[n] at o;exact o))⟩
  ·rw[n];exact aW T fun k e=>q.block k (A k (by rw[B] at e;simp[FVal.ownX,e]))
  ·rw[n];exact H.keep m
 obtain⟨V,q2⟩:=M.setTop (j:=5) (x:=c) (v':={ v with ov:=c }) (by omega) rfl (by simp[FVal.ownX,B]) D
 have U:gf<w.heap.size:=aC p
 have E:∀k,F k->(C.setCell (aH gf (fb.length*6+5)) c).heap[k]?=w.heap[k]?:=fun k m=>by
  rw[cm_ _ _ _ _ fun e=>(h.apart k m).2 (by simp[aR,e]),q.block k (h.apart k m).1]
 obtain⟨x,d,rfl⟩:=dE K;refine⟨x,d,c,he,B,IxR.ofRow (base:=w.heap.size) (xs:=O) (aW K fun k m=>cm_ _ _ _ _ ?_) (s.keep E),fun a ha=>g a (cI_ _ ha),V,(Kept.of_below q).trans q2 fun x hx=>cl_ hx,fun k m hn=>by rw[cm_ _ _ _ _ hn,q.block k m]⟩
 have:=cS K k m;show k≠gf
 omega
def dA.assigned{fb:List FVal}{v:FVal}{g n c d:Nat}{u:aQ}{a:aM}(h:dA false fp F base w sb gf cap t0 tv outv s0 (fb++[v]) ⟨below++[f],tape,out⟩)(j:v.vv=.slice (some (aH g 0)) n c)(Y:PV F w u a)(C:aN a<=200):
 dA false fp F base (w.setCell (aH g d) u) sb gf cap t0 tv outv s0 (fb++[v]) ⟨below++[{ f with vars:=f.vars.set d a }],tape,out⟩/\Kept (aR false sb gf outv (fb++[v])) w (w.setCell (aH g d) u):=by
 obtain⟨V,v0,U,e,W,x,L,J,I,k0,k1,k2,k3,k4,k5⟩:=h.top;obtain⟨rfl,S⟩:=db_ e rfl;cases S;have z:v.vv.ownBlock=some g:=by rw[j];rfl
 have m:g∈(v.ownX false):=by simp[FVal.ownX,z]
 have r:∀k∈(v.ownX false),k∈aR false sb gf outv (fb++[v]):=fun k i=>by simp[aR,cA,i]
 have H:gf∉(v.ownX false):=fun B=>by
  have:=(cB_.1 (cB_.1 h.nodup).2).1;exact this (by simp[cA,B])
 have l:(v.ownX false).Nodup:=by
  have t:=h.nodup;have:aR false sb gf outv (fb++[v])=(sb::gf::(outv.ownBlock.toList++cA false fb))++(v.ownX false):=by simp[aR,cA]
  rw[this] at t;exact(c5_.1 t).2.1
 have i:∀k,k≠g->(w.setCell (aH g d) u).heap[k]?=w.heap[k]?:=fun k i=>cm_ _ _ _ _ i
 have o:∀b,F b->(w.setCell (aH g d) u).heap[b]?=w.heap[b]?:=fun b D=>i b fun e=>(h.apart b D).2 (r b (by rw[e];exact m))
 have y:∀k,v.ov.ownBlock=some k->k≠g:=fun k i e=>by
  unfold FVal.ownX at l;rw[i,z,e] at l;simp at l
 have q:=h.row;rw[show (fb++[v]).length=fb.length+1 by simp] at q
 obtain⟨⟨X,p,E⟩,s⟩:=x.vars;refine⟨h.step (G:=F) (by simp) (fun k _ _ Z=>i k fun e=>Z (by rw[e];exact m)) (aW q fun k e=>i k ?_) ?_ (fun k B=>⟨cn_ (h.lt k (r k B)) (by simp),cl_ B⟩) l dX (fun _ h=>cl_ h),⟨rfl,rfl,rfl,by simp,fun k _ hn=>i k fun e=>hn (r k (by rw[e];exact m))⟩⟩
 ·cases e;exact fun e=>H (by have Q:gf=g:=e;rw[Q];exact m)
 ·refine⟨x.fn.keep o dX,x.nx,x.ln,eF.keep o dX x.sp,⟨⟨X.set d u,?_,(gQ.set E d Y).keep o⟩,fun b D=>?_⟩,x.ops.keep o dX fun k e=>i k (y k e)⟩
  ·rcases p.2 with ⟨A,K⟩|⟨g',c',aa,A,K,M,O,T,N,P⟩
   ·rw[A] at j;cases j
   ·rw[j] at A;cases A;refine⟨by simp[p.1],ck_ ⟨g,c,_,?_,K,aK M,by simpa using O,T,by simpa using N,?_⟩⟩
    ·show v.vv=_
     rw[j];simp
    ·show List.take ((f.vars.set d a).length*1) _=_
     rw[dr_,dY_,dp_,P]
  ·rcases dO_ D with t|t
   ·exact s b t
   ·rw[t];exact C
def sZ(fp:eQ)(F:bX)(base sb gf cap:Nat)(t0 tv outv s0:aQ)(fb:List FVal)(v:FVal)(below:List aJ)(f:aJ)(tape:List Int)(out:cN)(w0:aG)(W:aG):Prop:=
 ∃ov',ov'.ownBlock=v.ov.ownBlock/\dA false fp F base W sb gf cap t0 tv outv s0 (fb++[{ v with ov:=ov' }]) ⟨below++[f],tape,out⟩/\Kept (aR false sb gf outv (fb++[v])) w0 W/\∀k,k<w0.heap.size->k≠gf->W.heap[k]?=w0.heap[k]?
def sZ.grow{G:bX}{fb:List FVal}{v:FVal}{e W c:aG}(h:sZ fp F base sb gf cap t0 tv outv s0 fb v below f tape out e W)(a:Below W.heap.size W c)(m:∀k,F k->G k)(n:∀k,G k->F k\/(W.heap.size<=k/\k<c.heap.size)):sZ fp G base sb gf cap t0 tv outv s0 fb v below f tape out e c:=by
 obtain⟨b,l,i,g,j⟩:=h;exact⟨b,l,i.grow a m n,g.trans (Kept.of_below (own:=[]) a) (fun x o=>by simp at o),fun k d p=>by rw[a.block k (cn_ d g.size),j k d p]⟩
def sZ.reads{fb:List FVal}{v:FVal}{k W:aG}{g n c d m:Nat}{x:aQ}(h:sZ fp F base sb gf cap t0 tv outv s0 fb v below f tape out k W)(C:gf<w.heap.size)(b:k=w.alloc (.cells #[Iv0 d,Iv0 m] 311))(r:v.vv=.slice (some (aH g 0)) n c)(M:g<w.heap.size)(j:g≠gf)(H:k.cell? (aH g d)=some x):
 JV w gf (fb.length*6) d m g n c W/\W.cell? (aH g d)=some x/\∀u,JV w gf (fb.length*6) d m g n c (W.setCell (aH g d) u):=by
 obtain⟨q,P,B,S,s⟩:=h;obtain⟨E,J,D,e,G,U,A,i,t,O,L,T,N,K,Q⟩:=B.top;obtain⟨rfl,o⟩:=db_ e rfl;have I:J={ v with ov:=q }:=by simpa using o.symm
 subst I
 have a:W.heap[w.heap.size]?=some (.cells #[Iv0 d,Iv0 m] 311 (0,0)):=by
  rw[s _ (by rw[b];simp) (by omega),b];exact aO _ _ rfl _
 have p:W.heap[g]?=k.heap[g]?:=s g (by rw[b];simp;omega) j
 have z:∀l:aG,l.heap[w.heap.size]?=W.heap[w.heap.size]?->l.heap[gf]?=W.heap[gf]?->JV w gf (fb.length*6) d m g n c l:=fun l y o=>by
  refine⟨aA (y.trans a) rfl,aA (y.trans a) rfl,aA (o.trans i) ?_⟩;rw[K,<-r]
 exact⟨z W rfl rfl,by rw[World.cell?_of_block p];exact H,fun u=>z _ (cm_ _ _ _ _ (by show w.heap.size≠g;omega)) (cm_ _ _ _ _ (fun e=>j e.symm))⟩
def sZ.done{G:bX}{fb:List FVal}{v:FVal}{W:aG}{a:Obj}{b:aJ}(h:sZ fp G base sb gf cap t0 tv outv s0 fb v below b tape out (w.alloc a) W)(i:Ext F G w.heap.size):Done fp F base sb t0 s0 (aR false sb gf outv (fb++[v])) w ⟨below++[b],tape,out⟩ W:=by
 obtain⟨g,e,d,f,j⟩:=h;exact⟨(Kept.of_below (own:=aR false sb gf outv (fb++[v])) ((co_ _ w).alloc cL a)).trans f fun _ h=>cl_ h,G,gf,cap,tv,outv,_,i,d,fun k c=>cl_ (by simpa [aR,cA,FVal.ownX,e] using c)⟩
def P3(d:Nat)(vs us:List aM)(b:aM)(h:dA false fp F base w sb gf cap t0 tv outv s0 fvs ⟨below++[f],tape,out⟩)(aa:below.length<=15)(O:base<=w.heap.size)(H:f.ops.length<=99000)(hf:f.ops=vs++us++[b])(hd:d<f.vars.length):
 Calls prog 272 #[.agg #[Iv0 d,Iv0 us.length],bH sb] w (r9 fp F base sb t0 s0 (aR false sb gf outv fvs) w below tape out (aL (.assign d us.length) f)):=by
 have hM:=h.mid O (.cells #[Iv0 d,Iv0 us.length] 311);obtain⟨o,v,al,rfl,am, -⟩:=h.top;have L:gf<w.heap.size:=h.lt gf (by simp[aR])
 have h0:=h.grow ((co_ _ w).alloc cL (.cells #[Iv0 d,Iv0 us.length] 311)) dX (fun _ h=>cl_ h)
 have hT:=hM.topS aa;rw[<-am] at hT;obtain⟨az,v0,al,e, -,hv,ad,ai,av,k0,k1,k2,k3,k4,k5⟩:=h0.top;obtain⟨rfl,e2⟩:=db_ e rfl;cases e2;generalize m:w.alloc (.cells #[Iv0 d,Iv0 us.length] 311)=T at h0 hT hv ad ai;obtain⟨⟨xs,af,au⟩,Q⟩:=hv.vars
 have aq:v.vv.ownBlock≠some gf:=fun e=>by
  have:=(cB_.1 (cB_.1 h.nodup).2).1;exact this (by simp[cA,FVal.ownX,e])
 obtain⟨u,ag,V⟩:=au.2 d hd;obtain⟨ta,za,rfl⟩:=V.form;have P:f.pop.ops=vs++us:=nJ (by rw[hf])
 have M:f.pop.many us.length=us:=by simp[aJ.many,P]
 have S:f.last=b:=jS (by rw[hf])
 have aw:vs.length+us.length+1<=99000:=by rw[hf] at H;simp at H;omega
 have ak:f.vars[d]?.getD bR=f.vars[d]:=by rw[cz_ hd];rfl
 obtain⟨r,hr⟩:∃r,r=oH f.vars[d] us b:=⟨_,rfl⟩
 have ae:aL (.assign d us.length) f=if r.2=0 then ({ f.pop.popMany us.length with vars:=f.vars.set d r.1 },0) else (f.pop.popMany us.length,r.2):=by
  simp only[aL,M,S,ak,<-hr]
 have ao:r.2=0->aN r.1<=200:=fun n=>by rw[hr] at n ⊢;exact RH _ n
 rw[ae];rcases af.2 with ⟨U,r2⟩|⟨g,c,ab,U,ay,J,ax,bb,ba,ar⟩
 ·omega
 have aj:v.vv.ownBlock=some g:=by rw[U];rfl
 have B:g≠gf:=fun e=>aq (by rw[aj,e])
 have N:g<w.heap.size:=h.lt g (by simp[aR,cA,FVal.ownX,aj])
 have ap:ab[d]?=some (.iface ta za):=by
  rw[<-ar,cM_,if_pos (by omega)] at ag
  simpa using ag
 have Y:T.cell? (aH g d)=some (.iface ta za):=aA J ap
 have ac:∀{W:aG} {f':aJ},sZ fp F base sb gf cap t0 tv outv s0 o v below f' tape out T W->∀k,F k->k<W.heap.size:=fun i k j=>by
  obtain⟨_,_,p,_⟩:=i;exact(p.apart k j).1
 have ah:∀{W:aG} {f':aJ},sZ fp F base sb gf cap t0 tv outv s0 o v below f' tape out T W->PV F W (.iface ta za) f.vars[d]:=fun i=>by
  obtain⟨_,_,_,s,I⟩:=i;exact V.keep fun k j=>I k (by rw[<-m];exact cn_ (h.apart k j).1 (by simp)) fun e=>(h.apart k j).2 (by simp[aR,e])
 refine(JR w T sb gf (o.length*6) d us.length g f.vars.length c r.2 ta za hd
  (fun K=>r.2=0/\Done fp F base sb t0 s0 (aR false sb gf outv (o++[v])) w ⟨below++[{ f.pop.popMany us.length with vars:=f.vars.set d r.1 }],tape,out⟩ K)
  (fun K=>r.2≠0/\Done fp F base sb t0 s0 (aR false sb gf outv (o++[v])) w ⟨below++[f.pop.popMany us.length],tape,out⟩ K)
  (fun t z W=>(PV F W (.iface t z) b/\aN b<=200)/\sZ fp F base sb gf cap t0 tv outv s0 o v below f.pop tape out T W)
  (fun t z x y W=>((PV F W (.iface t z) b/\aN b<=200)/\IxR F W (.slice x us.length y) us)/\sZ fp F base sb gf cap t0 tv outv s0 o v below (f.pop.popMany us.length) tape out T W)
  (fun t z W=>r.2=0/\∃G,Ext F G w.heap.size/\PV G W (.iface t z) r.1/\sZ fp G base sb gf cap t0 tv outv s0 o v below (f.pop.popMany us.length) tape out T W)
  m hT (fun W D=>?_) (fun W t z i=>?_) (fun W W' t z i D=>?_) (fun W t z x y i=>?_) (fun W t z x y i=>?_) (fun W t z i=>?_) (fun W t z i=>?_)).mono ?_
 ·refine((h0.grow D.below dX (fun _ h=>cl_ h)).popR (vs:=vs++us) (a:=b) (by rw[hf]) (by omega)).mono ?_
  rintro e K ⟨t,z,q,he,n,p,s,I,h5,h6⟩;exact⟨t,z,he,⟨n,p⟩,q,s,I,(Kept.of_below (own:=aR false sb gf outv (o++[v])) D.below).trans h5 fun _ h=>cl_ h,fun k _ j=>by rw[h6 k j,D.heap]⟩
 ·obtain⟨_,i⟩:=i;obtain⟨C,A,_⟩:=i.reads L m.symm U N B Y;exact⟨C,A⟩
 ·obtain⟨⟨p1,p2⟩,q,n,p,s,I⟩:=i;refine((p.grow D.below dX (fun _ h=>cl_ h)).popManyR (vs:=vs) (us:=us) P (by rw[P,cp_];omega)).mono ?_
  rintro e K ⟨x,y,an,he,C,A,q3,q4,q5,q6⟩;have l:aR false sb gf outv (o++[{ v with ov:=q }])=aR false sb gf outv (o++[v]):=by simp[aR,cA,FVal.ownX,n]
  rw[l] at q5;have X:W.heap.size=W'.heap.size:=by rw[D.heap]
  refine⟨x,y,he,⟨⟨p1.keep fun k j=>?_,p2⟩,A⟩,an,by rw[C,n],q4,(s.trans (Kept.of_below (own:=[]) D.below) (fun x Y=>by simp at Y)).trans q5 fun _ h=>cl_ h,fun k j hn=>by rw[q6 k (by rw[<-X];exact cn_ j s.size) hn,D.heap,I k j hn]⟩
  rw[q6 k (by rw[<-X];exact(p.apart k j).1) (fun e=>(p.apart k j).2 (by simp[aR,e])),D.heap]
 ·obtain⟨_,i⟩:=i;obtain⟨C,A,_⟩:=i.reads L m.symm U N B Y;exact⟨C,A⟩
 ·obtain⟨⟨⟨p1,p2⟩,p3⟩,i⟩:=i;refine(QN F us _ _ _ f.vars[d] b W p3 (ah i) p1 (ac i) (cw_ (Q _ (cG_ hd)) (by omega)) (by omega) (by omega)).mono ?_
  rintro e K ⟨hb,⟨Z,u,rfl,e3⟩|⟨Z,e2⟩⟩
  ·rw[<-hr] at Z e3;obtain⟨t1,z1,rfl⟩:=e3.form;exact cl_ ⟨t1,z1,rfl,Z,Grow F W K,⟨fun k j=>cl_ j,fun k j=>j.imp_right fun n=>cw_ (by obtain⟨_,_,_,s,_⟩:=i;rw[<-m] at s;exact cw_ (by simp) s.size) n.1⟩,e3,i.grow hb (fun k j=>cl_ j) (fun k j=>j)⟩
  ·rw[<-hr] at Z e2;subst m;exact ck_ ⟨e2,Z,(i.grow hb dX (fun _ h=>cl_ h)).done (Ext.refl _ _)⟩
 ·obtain⟨_,G,hG,_,i⟩:=i;obtain⟨C,A,q3⟩:=i.reads L m.symm U N B Y;obtain⟨_,_,_,_,I⟩:=i;have E:W.heap[g]?=some (.cells ab 129 (0,0)):=by rw[I g (by rw[<-m];simp;omega) B];exact J
  exact⟨C,⟨_,A⟩,aD E,aC E,q3 _⟩
 ·obtain⟨hz,G,hG,p1,q,n,p,s,I⟩:=i;obtain⟨C,A⟩:=p.assigned (d:=d) (a:=r.1) (u:=.iface t z) U p1 (ao hz);have l:aR false sb gf outv (o++[{ v with ov:=q }])=aR false sb gf outv (o++[v]):=by simp[aR,cA,FVal.ownX,n]
  rw[l] at A;subst m;refine⟨hz,((Kept.of_below (own:=aR false sb gf outv (o++[v])) ((co_ _ w).alloc cL _)).trans s fun _ h=>cl_ h).trans A fun _ h=>cl_ h,G,gf,cap,tv,outv,_,hG,C,fun k j=>cl_ (by rw[l] at j;exact j)⟩
 ·rintro e K (⟨rfl,n,p⟩|⟨rfl,n,p⟩)
  ·exact r9.ok (if_pos n) p
  ·exact r9.stop (if_neg n) n p
end
def MR(w l:aG)(sb A C base n c:Nat)(x:Option Addr)(tx:cD)(hn:n<50)(P:World->Prop)(Q:TypeId->Value->World->Prop)(R:World->Prop)(xs:List Value)(B:w.alloc (.cells #[] 314)=l)
 (U:Hid (∀W,aV l W->Calls prog 64 #[bH sb] W fun e f=>e=aZ (.pointer (some (aH A C)))/\aV l f))
 (T:Hid (∀W,aV l W->Calls prog 65 #[.pointer (some (aH A C))] W fun e f=>∃t z,e=aZ (.iface t z)/\Q t z f))
 (F:Hid (∀W t z,Q t z W->W.cell? (aH sb 3)=some (.slice x n c)/\sb<W.heap.size))
 (O:Hid (∀W D t z,Q t z W->aV W D->Calls prog 277 #[.iface t z] D fun e f=>e=aZ (.string (bs tx))/\R f))
 (H:Hid (∀W,R W->W.cell? (aH sb 3)=some (.slice x n c)/\sb<W.heap.size/\base<=W.heap.size))
 (K:Hid (∀W,R W->W.ownsRow base 9 1 (.slice x n c) n xs))
 (G:Hid (∀W,R W->∀d:aG,(W.alloc (.cells #[.string (bs tx)] 9)).grownBy d (Value.slice x n c).ownBlock->(∃u,d.cell? (aH sb 3)=some u)/\d.frozen? (aH sb 3)=false/\sb<d.heap.size))
 (L:Hid (∀W,R W->∀j b (d:aG),d.ownsRow base 9 1 (.slice (some (aH j 0)) (n+1) b) (n+1) (xs++[.string (bs tx)])->(W.alloc (.cells #[.string (bs tx)] 9)).grownBy d (Value.slice x n c).ownBlock->((Value.slice x n c).ownBlock=some j\/W.heap.size+1<=j)->P (d.setCell (aH sb 3) (.slice (some (aH j 0)) (n+1) b)))):
 Calls prog 276 #[.agg #[],bH sb] w fun e f=>e=aZ (.tuple #[])/\P f:=by
 obtain⟨J,M,p,r,s⟩:=info_parts wQ;have N:=aB B;have E:¬(n:Int)=50:=by omega
 clear B;go_in
 go_wp2_with fail;rw[N.out];refine(U _ (aV.refl _)).mono ?_;rintro e V ⟨rfl,v⟩;go_wp2_with fail;refine(T _ v).mono ?_;rintro e w2 ⟨t,z,rfl,m⟩;obtain⟨c1,l1⟩:=F _ _ _ m;have q:=aB m;clear m;go_wp2_with fail;go_region_law (first|(go_simp;go_at_call 277;refine(O _ _ _ _ q (aV.drew _)).mono ?_;rintro e o ⟨rfl,y⟩;have g:=aB y;have k:=H _ y;have X:=k.1;have b2:=k.2.1;have Y:=k.2.2;clear k y)|(refine step_append_lies _ (by rfl) _ _ 37 (by rfl) base 9 J _ 1 16 underlying37 M p r s rfl (by decide) (.slice x n c) n xs (by rfl) ((K _ g).alloc _) (aH o.heap.size 0) 1 1 [.string (bs tx)] (by rfl) (by rfl) (yK o _) (ES _) (by decide) (by unfold maxLen;omega) (by omega) (by simp;omega) (o.heap.size+1) (by simp) ?_;intro j b d h a i S;have I:=G _ g d a;obtain⟨⟨u5,Z⟩,y2,y3⟩:=I))
 all_goals
  go_wp2
  go_end0;exact⟨rfl,L _ g _ _ _ h a (i.imp_right fun e=>dR_ e.symm)⟩
def MS(w b:aG)(sb h j c:Nat)(x:Option Addr)(P:World->Prop)(Q:TypeId->Value->World->Prop)(i:w.alloc (.cells #[] 314)=b)
 (o:Hid (∀W,aV b W->Calls prog 64 #[bH sb] W fun e a=>e=aZ (.pointer (some (aH h j)))/\aV b a))
 (n:Hid (∀W,aV b W->Calls prog 65 #[.pointer (some (aH h j))] W fun e a=>∃t z,e=aZ (.iface t z)/\Q t z a))
 (k:Hid (∀W t z,Q t z W->W.cell? (aH sb 3)=some (.slice x 50 c)/\sb<W.heap.size))
 (l:Hid (∀W t z,Q t z W->P W)):
 Calls prog 276 #[.agg #[],bH sb] w fun e a=>e=fR 8/\P a:=by
 have m:=aB i;clear i;go_in
 go_wp2_with fail;rw[m.out];refine(o _ (aV.refl _)).mono ?_;rintro e p ⟨rfl,g⟩;go_wp2_with fail;refine(n _ g).mono ?_;rintro e s ⟨t,z,rfl,d⟩;obtain⟨q,r⟩:=k _ _ _ d;have f:=aB d;clear d;go_wp2_with fail;exact⟨rfl,rfl,l _ _ _ f⟩
def BZ(own:List Nat)(w:aG):Prop:=∀W,Kept own w W->kM W
def BZ.step{own a:List Nat}{w w':aG}(h:BZ own w)(b:Kept own w w')(d:∀x∈a,x∈own\/w.heap.size<=x):BZ a w':=fun W c=>h W (b.trans c d)
section
variable {fp:eQ} {F:bX} {base:Nat} {w:aG} {sb gf cap:Nat} {t0 tv outv s0:aQ} {fvs:List FVal} {below:List aJ} {f:aJ} {tape:List Int} {out:cN}
def dA.printed{m:cR}{j:aG}{Q:Obj}{i d:Nat}{tx:cD}(h:dA false fp F base w sb gf cap t0 tv outv s0 fvs m)
 (J:j.ownsRow base 9 1 (.slice (some (aH i 0)) (m.out.length+1) d) (m.out.length+1) (mZ m.out++[.string (bs tx)])) (z:(w.alloc Q).grownBy j outv.ownBlock) (u:outv.ownBlock=some i\/w.heap.size+1<=i):
 dA false fp F base (j.setCell (aH sb 3) (.slice (some (aH i 0)) (m.out.length+1) d)) sb gf cap t0 tv (.slice (some (aH i 0)) (m.out.length+1) d) s0 fvs ⟨m.frames,m.tape,m.out++[tx]⟩/\Kept (aR false sb gf outv fvs) w (j.setCell (aH sb 3) (.slice (some (aH i 0)) (m.out.length+1) d))/\
  ∀k∈aR false sb gf (.slice (some (aH i 0)) (m.out.length+1) d) fvs,k∈aR false sb gf outv fvs\/w.heap.size<=k:=by
 obtain⟨I,O⟩:=cB_.1 h.nodup;obtain⟨K,N⟩:=cB_.1 O;obtain⟨Z,T,U⟩:=c5_.1 N
 have L:∀k,k<w.heap.size->some k≠outv.ownBlock->j.heap[k]?=w.heap[k]?:=fun k x l=>by
  rw[z.block k (by simp;omega) l,cq_ _ _ _ x]
 have p:∀k,k<w.heap.size->some k≠outv.ownBlock->k≠sb->(j.setCell (aH sb 3) (.slice (some (aH i 0)) (m.out.length+1) d)).heap[k]?=w.heap[k]?:=fun k x l V=>by
  rw[cm_ _ _ _ _ V,L k x l]
 have t:sb<w.heap.size:=h.lt sb (by simp[aR])
 have s:some sb≠outv.ownBlock:=fun e=>I (by simp[<-e])
 have r:some gf≠outv.ownBlock:=fun e=>K (by simp[<-e])
 have B:gf≠sb:=fun e=>I (by simp[e])
 have C:j.heap[sb]?=_:=(L sb t s).trans h.blk
 have g:∀k∈cA false fvs,k<w.heap.size/\some k≠outv.ownBlock/\k≠sb/\k≠gf:=fun k c=>
  ⟨h.lt k (by simp[aR,c]),fun e=>U k (by simp[<-e]) k c rfl,fun e=>I (by simp[<-e,c]),fun e=>K (by simp[<-e,c])⟩
 have q:i≠sb/\i≠gf/\i∉cA false fvs:=by
  rcases u with e|e
  ·exact⟨fun H=>s (by rw[e,H]),fun H=>r (by rw[e,H]),fun c=>(g i c).2.1 e.symm⟩
  ·have W:gf<w.heap.size:=h.lt gf (by simp[aR])
   exact⟨by omega,by omega,fun c=>by have:=(g i c).1;omega⟩
 have D:∀b,F b->(j.setCell (aH sb 3) (.slice (some (aH i 0)) (m.out.length+1) d)).heap[b]?=w.heap[b]?:=fun b y=>
  p b (h.apart b y).1 (fun e=>(h.apart b y).2 (by simp[aR,<-e])) fun e=>(h.apart b y).2 (by simp[aR,e])
 have o:w.heap.size<=j.heap.size:=cw_ (by simp) z.size
 have n:(Value.slice (some (aH i 0)) (m.out.length+1) d).ownBlock=some i:=rfl;have A:i<j.heap.size:=(J.lt i n).2;refine⟨⟨aK C,aW h.row fun k e=>?_,h.frs.keep D dX fun v X k f=>?_,h.tape.keep D dX,?_,?_,fun k f=>?_,fun k E=>?_⟩,⟨z.os.trans rfl,z.tape.trans rfl,z.output.trans rfl,by simpa using o,fun k x l=>?_⟩,fun k f=>?_⟩
 ·cases e;exact p gf (h.lt gf (by simp[aR])) r B
 ·have c:k∈cA false fvs:=de_.2 ⟨v,X,f⟩;obtain⟨P,Y,S,_⟩:=g k c;exact p k P Y S
 ·rw[cp_];have e:mZ (m.out++[tx])=mZ m.out++[.string (bs tx)]:=by simp[mZ]
  rw[e];exact aW J fun k G=>cm_ _ _ _ _ (by cases G;exact q.1)
 ·unfold aR;rw[n];refine cB_.2 ⟨fun c=>?_,cB_.2 ⟨fun c=>?_,c5_.2 ⟨by simp,T,fun a M b y e=>?_⟩⟩⟩
  ·rcases cv_.1 c with e|c
   ·exact B e.symm
   ·rcases cu_.1 c with c|c
    ·simp at c;exact q.1 c.symm
    ·exact(g sb c).2.2.1 rfl
  ·rcases cu_.1 c with c|c
   ·simp at c;exact q.2.1 c.symm
   ·exact(g gf c).2.2.2 rfl
  ·simp at M;subst e;exact q.2.2 (by rw[<-M];exact y)
 ·have:(j.setCell (aH sb 3) (.slice (some (aH i 0)) (m.out.length+1) d)).heap.size=j.heap.size:=by simp
  rw[this];unfold aR at f;rw[n] at f;simp only[Option.toList_some,cv_,cu_,cD_,or_false] at f;rcases f with rfl|rfl|rfl|c
  ·exact cn_ t o
  ·exact cn_ (h.lt _ (by simp[aR])) o
  ·exact A
  ·exact cn_ (g k c).1 o
 ·obtain⟨x,l⟩:=h.apart k E;refine⟨cn_ x (by simpa using o),fun c=>?_⟩
  unfold aR at c;rw[n] at c;simp only[Option.toList_some,cv_,cu_,cD_,or_false] at c;rcases c with rfl|rfl|rfl|c
  ·exact l (by simp[aR])
  ·exact l (by simp[aR])
  ·rcases u with e|e
   ·exact l (by simp[aR,e])
   ·omega
  ·exact l (by simp[aR,c])
 ·exact p k x (fun e=>l (by simp[aR,<-e])) fun e=>l (by simp[aR,e])
 ·unfold aR at f;rw[n] at f;simp only[Option.toList_some,cv_,cu_,cD_,or_false] at f;rcases f with rfl|rfl|rfl|c
  ·exact cl_ (by simp[aR])
  ·exact cl_ (by simp[aR])
  ·rcases u with e|e
   ·exact cl_ (by simp[aR,e])
   ·exact ck_ (by omega)
  ·exact cl_ (by simp[aR,c])
def U7(r:List eU){vs:List aM}{b:aM}(h:dA false fp F base w sb gf cap t0 tv outv s0 fvs ⟨below++[f],tape,out⟩)(hp:BZ (aR false sb gf outv fvs) w)(H:below.length<=15)(i:base<=w.heap.size)(Z:f.ops.length<=99000)(hf:f.ops=vs++[b])(ab:out.length<=50):
 Calls prog 276 #[.agg #[],bH sb] w (DoM fp F base sb t0 s0 (aR false sb gf outv fvs) w (Hs.doI r .print below f tape out)):=by
 have hM:=h.mid i (.cells #[] 314);obtain⟨g,v,ac,rfl,T, -⟩:=h.top;have h0:=h.grow ((co_ _ w).alloc cL (.cells #[] 314)) dX (fun _ h=>cl_ h)
 have K:=hM.topS H;rw[<-T] at K;have n:Kept (aR false sb gf outv (g++[v])) w (w.alloc (.cells #[] 314)):=Kept.of_below ((co_ _ w).alloc cL _);generalize B:w.alloc (.cells #[] 314)=p at h0 K n;obtain⟨x,c,rfl⟩:=dE h.out;have s:f.last=b:=jS hf
 have X:Hid (∀W,aV p W->Calls prog 65 #[.pointer (some (aH gf (g.length*6)))] W fun e m=>∃t z,e=aZ (.iface t z)/\(PV F m (.iface t z) b/\aN b<=200/\sZ fp F base sb gf cap t0 tv (.slice x out.length c) s0 g v below f.pop tape out p m)):=fun W D=>by
  refine((h0.grow D.below dX (fun _ h=>cl_ h)).popR hf (by omega)).mono ?_
  rintro e m ⟨t,z,l,V,S,d,C,h4,h5,h6⟩;exact⟨t,z,V,S,d,l,C,h4,(Kept.of_below (own:=aR false sb gf (.slice x out.length c) (g++[v])) D.below).trans h5 fun _ h=>cl_ h,fun k _ E=>by rw[h6 k E,D.heap]⟩
 have j:∀{W:aG} {f':aJ},sZ fp F base sb gf cap t0 tv (.slice x out.length c) s0 g v below f' tape out p W->W.cell? (aH sb 3)=some (.slice x out.length c)/\sb<W.heap.size/\base<=W.heap.size/\Kept (aR false sb gf (.slice x out.length c) (g++[v])) w W:=fun a=>by
  obtain⟨l,_,d,C,_⟩:=a;exact⟨aA d.blk rfl,aC d.blk,cw_ i (cw_ n.size C.size),n.trans C fun _ h=>cl_ h⟩
 by_cases o:out.length=50
 ·rw[o] at j X;refine(MS w p sb gf (g.length*6) c x (fun m=>Done fp F base sb t0 s0 (aR false sb gf (.slice x out.length c) (g++[v])) w ⟨below++[f.pop],tape,out⟩ m) (fun t z W=>PV F W (.iface t z) b/\aN b<=200/\sZ fp F base sb gf cap t0 tv (.slice x 50 c) s0 g v below f.pop tape out p W) B K X (fun W t z a=>?_) (fun W t z a=>?_)).mono ?_
  ·obtain⟨y,q,_⟩:=j a.2.2;exact⟨y,q⟩
  ·subst B;rw[o];exact a.2.2.done (Ext.refl _ _)
  ·rintro e m ⟨rfl,d⟩;have U:Hs.doI r .print below f tape out=(⟨below++[f.pop],tape,out⟩,8):=by simp[Hs.doI,o]
   rw[U];exact⟨ck_ ⟨show (8:Nat)≠0 by decide,rfl⟩,d⟩
 ·refine(MR w p sb gf (g.length*6) base out.length c x (kR b) (by omega) (fun m=>Done fp F base sb t0 s0 (aR false sb gf (.slice x out.length c) (g++[v])) w ⟨below++[f.pop],tape,out++[kR b]⟩ m) (fun t z W=>PV F W (.iface t z) b/\aN b<=200/\sZ fp F base sb gf cap t0 tv (.slice x out.length c) s0 g v below f.pop tape out p W) (fun W=>sZ fp F base sb gf cap t0 tv (.slice x out.length c) s0 g v below f.pop tape out p W) (mZ out) B K X (fun W t z a=>?_) (fun W P t z a D=>?_) (fun W a=>?_) (fun W a=>?_) (fun W a=>?_) (fun W a=>?_)).mono ?_
  ·obtain⟨y,q,_⟩:=j a.2.2;exact⟨y,q⟩
  ·obtain⟨p1,Y,a⟩:=a;have A:=a.grow D.below dX (fun _ h=>cl_ h)
   have I:∀k,F k->k<P.heap.size:=fun k E=>by obtain⟨_,_,d,_⟩:=A;exact(d.apart k E).1
   refine(D6 F _ b P (p1.keep fun k _=>by rw[D.heap]) I (hp P (j A).2.2.2) (by omega)).mono ?_
   rintro e m ⟨V,hb⟩;exact⟨V,A.grow hb dX (fun _ h=>cl_ h)⟩
  ·obtain⟨y,q,L,_⟩:=j a;exact⟨y,q,L⟩
  ·obtain⟨_,_,d,_⟩:=a;exact d.out
  ·intro w5 N;obtain⟨l,_,d,_⟩:=a;have Q:=aC d.blk;have J:some sb≠(Value.slice x out.length c).ownBlock:=fun e=>(cB_.1 d.nodup).1 (by simp[<-e])
   have M:w5.heap[sb]?=_:=(N.block sb (by simp;omega) J).trans ((cq_ _ _ _ Q).trans d.blk)
   exact⟨⟨_,aA M rfl⟩,aD M,aC M⟩
  ·intro g5 aa w5 Y N O;obtain⟨l,S,d,C,h4⟩:=a;obtain⟨y,q,L⟩:=d.printed (tx:=kR b) Y N O;have u:aR false sb gf (.slice x out.length c) (g++[{ v with ov:=l }])=aR false sb gf (.slice x out.length c) (g++[v]):=by simp[aR,cA,FVal.ownX,S]
   rw[u] at q L;have G:=n.trans C fun _ h=>cl_ h
   exact⟨G.trans q fun _ h=>cl_ h,F,gf,cap,tv,_,_,Ext.refl _ _,y,fun k E=>(L k E).imp_right fun h=>cw_ G.size h⟩
  ·rintro e m ⟨rfl,d⟩;have U:Hs.doI r .print below f tape out=(⟨below++[f.pop],tape,out++[kR b]⟩,0):=by simp[Hs.doI,o,s]
   rw[U];exact⟨cl_ ⟨rfl,rfl⟩,d⟩
end
end Go.Proofs.YtmjbnmpamlainaaGreatDoor
