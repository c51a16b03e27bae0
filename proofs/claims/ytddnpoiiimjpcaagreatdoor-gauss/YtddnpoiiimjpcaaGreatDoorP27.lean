/- Contracts of the program: a call begins: the walk. -/
import Derived.Test.YtddnpoiiimjpcaaGreatDoorP26
set_option linter.defProp false
set_option maxRecDepth 100000
set_option maxHeartbeats 4000000
namespace Go.Proofs.YtddnpoiiimjpcaaGreatDoor
open Hs
open _root_.Go.Proofs.Tryz
open Go.RowKit
def GB:(prog.info? 131).map (fun i=>(i.zero,i.size,i.bytes))=some (some (.agg #[.pointer none,Iv0 0,Iv0 0,.pointer none,bV,bV]),6,80):=by kernel_rfl
def RH(w:aH)(b c d e a f:aQ):∀j u,([b,c,d,e,a,f]:List Value)[j]?=some u->(w.alloc (.cells #[b,c,d,e,a,f] 131)).cell? ((⟨w.heap.size,0,none⟩:Addr).add j)=some u:=by
 intro j u g;exact World.news_of_block (cs:= #[b,c,d,e,a,f]) (aU _ _ rfl _) j u g
def WK(x y:Option Addr)(c d:Nat):∀u∈([.pointer x,Iv0 0,Iv0 0,.pointer none,.slice y c d,bV]:List Value),u.oneCell'=true:=by
 intro u a;simp at a;rcases a with rfl|rfl|rfl|rfl|rfl<;>rfl
def PB(w t:World)(sb D E gf k h base n:Nat)(a:Option Addr)(P:World->Prop)(Q:Option Addr->Nat->List Value->World->Prop)(z:w.alloc (.cells #[.pointer a,.int .i64 h] 320)=t)(hn:n<=15)
 (T:Hid (∀W,aY t W->Calls prog 82 #[.pointer (some ⟨sb,0,none⟩)] W fun e o=>e=.returned (.pointer (some ⟨D,E,none⟩))/\aY t o))
 (S:Hid (∀W,aY t W->Calls prog 262 #[.pointer (some ⟨D,E,none⟩),.int .i64 h] W fun e o=>∃x d f,e=.returned (.slice x h d)/\Q x d f o))
 (G:Hid (∀W x d f,Q x d f W->W.cell? ⟨sb,1,none⟩=some (.slice (some ⟨gf,0,none⟩) n k)/\W.cell? ⟨w.heap.size,0,none⟩=some (.pointer a)/\w.heap.size<W.heap.size/\sb<W.heap.size/\base<=W.heap.size))
 (K:Hid (∀W x d f,Q x d f W->W.drew.ownsRow base 131 6 (.slice (some ⟨gf,0,none⟩) n k) n f))
 (F:Hid (∀W x d f,Q x d f W->∀j:World,(W.drew.alloc (.cells #[.pointer a,.int .i64 0,.int .i64 0,.pointer none,.slice x h d,.slice none 0 0] 131)).grownBy j (some gf)->(∃u,j.cell? ⟨sb,1,none⟩=some u)/\j.frozen? ⟨sb,1,none⟩=false/\sb<j.heap.size))
 (L:Hid (∀W x d f,Q x d f W->∀q g (j:World),j.ownsRow base 131 6 (.slice (some ⟨q,0,none⟩) (n+1) g) (n+1) (f++[.pointer a,.int .i64 0,.int .i64 0,.pointer none,.slice x h d,.slice none 0 0])->(W.drew.alloc (.cells #[.pointer a,.int .i64 0,.int .i64 0,.pointer none,.slice x h d,.slice none 0 0] 131)).grownBy j (some gf)->(some gf=some q\/q=W.heap.size+1)->P (j.setCell ⟨sb,1,none⟩ (.slice (some ⟨q,0,none⟩) (n+1) g)))):
 Calls prog 287 #[.agg #[.pointer a,.int .i64 h],.pointer (some ⟨sb,0,none⟩)] w fun e o=>e=.returned (.tuple #[])/\P o:=by
 obtain⟨J,M,y,A,B⟩:=info_parts GB;have b:(w.alloc (.cells #[.pointer a,.int .i64 h] 320)).heap[w.heap.size]?=some (.cells #[.pointer a,.int .i64 h] 320 (0,0)):=aU _ _ rfl _;rw[z] at b;have N:=aB z;have r:=aB (aA (i:=1) b rfl);have c0:=r.out;have v:=aD b;have V:((n:Int)==16)=false:=by simp;omega
 clear z b;go_enter func287,ntmps287;go_wp2_with fail;rw[N.out];go_region_law (go_simp;first|(go_at_call 82;refine(T.out _ (aY.drew _)).mono ?_;rintro e U ⟨rfl,l⟩;have d1:=cZ l.heap r.out;have X:=kA l.heap v)|(go_at_call 262;refine(S.out _ l).mono ?_;rintro e C ⟨x,d,f,rfl,s⟩;have H:=G.out _ _ _ _ s;obtain⟨Y,y2,y3,y4,y5⟩:=H))
 all_goals
  go_wp2_with fail;go_region_law (refine step_append_lies _ (by rfl) _ _ 58 (by rfl) base 131 J _ 6 80 underlying58 M y A B rfl (by decide) (.slice (some ⟨gf,0,none⟩) n k) n f (by rfl) ((K.out _ _ _ _ s).alloc _) ⟨C.heap.size,0,none⟩ 1 1 [.pointer a,.int .i64 0,.int .i64 0,.pointer none,.slice x h d,.slice none 0 0] (by rfl) (by rfl) (RH C.drew _ _ _ _ _ _) (WK _ _ _ _) (by decide) (by unfold maxLen;omega) (by omega) (by simp;omega) (C.heap.size+1) (by simp) ?_;intro q g j m c p O;have I:=F.out _ _ _ _ s j c;obtain⟨⟨u5,z1⟩,Z,z3⟩:=I)
  all_goals
   go_wp2_with fail;go_end0;exact⟨rfl,L.out _ _ _ _ s _ _ _ m c p⟩
def JA{w:aH}{b i:Nat}{e:TypeId}{a:Nat}{v:aQ}{n:Nat}{xs:List Value}(h:w.ownsRow i e a v n xs)(o:b<=i):w.ownsRow b e a v n xs:=by
 rcases h with ⟨f,l|⟨g,c,d,m,j,k⟩⟩
 ·exact⟨f,Y4 l⟩
 ·exact⟨f,Y3 ⟨g,c,d,m,Z4 o j,k⟩⟩
section
variable {fp:fN} {F:cC} {base:Nat} {w:aH} {sb gf cap:Nat} {t0 tv outv s0:aQ} {fvs:List FVal} {below:List aJ} {f:aJ} {tape:List Int} {out:cO}
def cW.called{m:cT}{fn:eV}{us:List aI}{T:List Value}{x i:Option Addr}{d n g B:Nat}{p:aH}(h:cW false fp F base w sb gf cap t0 tv outv s0 fvs m)(W:ZG fp F w (.pointer i) fn)(hB:base<=B)(j:∀k∈aP false sb gf outv fvs,k<B)(X:∀k,F k->k<B)
 (A:w.ownsRow B 142 1 (.slice x us.length d) us.length T) (U:gF F w T us) (S:∀a∈us,aK a<=200)
 (r:p.ownsRow base 131 6 (.slice (some (aL n 0)) (fvs.length+1) g) (fvs.length+1) (gG fvs++[.pointer i,Iv0 0,Iv0 0,.pointer none,.slice x us.length d,bV]))
 (H:(w.drew.alloc (.cells #[.pointer i,Iv0 0,Iv0 0,.pointer none,.slice x us.length d,bV] 131)).grownBy p (some gf)) (y:some gf=some n\/n=w.heap.size+1):
 cW false fp F base (p.setCell (aL sb 1) (.slice (some (aL n 0)) (fvs.length+1) g)) sb n g t0 tv outv s0 (fvs++[⟨.pointer i,Iv0 0,Iv0 0,.pointer none,.slice x us.length d,bV⟩]) ⟨m.frames++[⟨fn,0,0,[],us,[]⟩],m.tape,m.out⟩/\
  Kept (aP false sb gf outv fvs) w (p.setCell (aL sb 1) (.slice (some (aL n 0)) (fvs.length+1) g)):=by
 generalize O:Value.slice (some (aL n 0)) (fvs.length+1) g=V at*;have q:=Z9.1 h.nodup;have D:=Z9.1 q.2;have K:sb≠gf:=fun e=>q.1 (by simp[e])
 have P:=aD h.blk
 have L:n≠sb:=by
  rcases y with e|e
  ·cases e;exact fun e=>K e.symm
  ·omega
 have Y:n<p.heap.size:=by
  subst O;exact cP r n rfl
 have I:∀k,k<w.heap.size->k≠gf->p.heap[k]?=w.heap[k]?:=fun k z E=>by
  rw[H.block k (by simp;omega) (fun e=>E (by cases e;rfl)),Z3 _ _ _ (by exact z)];rfl
 have M:∀k,k<w.heap.size->k≠gf->k≠sb->(p.setCell (aL sb 1) V).heap[k]?=w.heap[k]?:=fun k z E h3=>by
  rw[Y6 _ _ _ _ h3,I k z E]
 have t:∀b,F b->(p.setCell (aL sb 1) V).heap[b]?=w.heap[b]?:=fun b G=>M b (h.apart b G).1 (fun e=>(h.apart b G).2 (by simp[aP,e])) (fun e=>(h.apart b G).2 (by simp[aP,e]))
 have J:∀k,k∈outv.ownBlock.toList++bW false fvs->(p.setCell (aL sb 1) V).heap[k]?=w.heap[k]?:=fun k c=>M k (h.lt k (by unfold aP;exact b8 _ (b8 _ c))) (fun e=>D.1 (by rw[<-e];exact c)) (fun e=>q.1 (by rw[<-e];exact b8 _ c))
 have Q:w.heap.size<=(p.setCell (aL sb 1) V).heap.size:=Z4 (by simp) (Z4 H.size (by simp))
 have o:∀k,(Value.slice x us.length d).ownBlock=some k->B<=k/\k<w.heap.size:=fun k e=>⟨cM A k e,cP A k e⟩
 have l:∀k,(Value.slice x us.length d).ownBlock=some k->k≠gf/\k≠sb:=fun k e=>by
  have z:=j gf (by simp[aP])
  have E:=j sb (by simp[aP])
  have:=(o k e).1;omega
 have C:(⟨.pointer i,Iv0 0,Iv0 0,.pointer none,.slice x us.length d,bV⟩:FVal).ownX false=(Value.slice x us.length d).ownBlock.toList:=by simp[FVal.ownX,show (Value.slice none 0 0).ownBlock=none from rfl]
 have s:aP false sb n outv (fvs++[⟨.pointer i,Iv0 0,Iv0 0,.pointer none,.slice x us.length d,bV⟩])=sb::n::((outv.ownBlock.toList++bW false fvs)++(Value.slice x us.length d).ownBlock.toList):=by simp[aP,bW,C]
 have u:(fvs++[(⟨.pointer i,Iv0 0,Iv0 0,.pointer none,.slice x us.length d,bV⟩:FVal)]).length=fvs.length+1:=by simp
 refine⟨⟨?_,?_,?_,h.tape.keep t eD,bA h.out fun k f=>J k (by simp[f]),?_,?_,?_⟩,?_⟩
 ·rw[u,aT (show p.heap[sb]?=_ from (I sb P K).trans h.blk),O];rfl
 ·rw[u,jM,O];subst O;exact bA r fun k f=>Y6 _ _ _ _ (by cases f;exact L)
 ·refine(h.frs.keep t eD fun v hv k f=>J k (j9 _ (s9.2 ⟨v,hv,f⟩))).snoc ⟨W.keep t eD,rfl,rfl,rfl,⟨⟨T,?_,U.keep t⟩,S⟩,⟨⟨[],World.ownsRow_nil _ _ _ _,gF.nil _ _⟩,fun _ h=>by simp at h⟩⟩
  exact bA (JA A hB) fun k e=>M k (o k e).2 (l k e).1 (l k e).2
 ·rw[s];refine Z9.2 ⟨?_,Z9.2 ⟨?_,m9.2 ⟨D.2,by cases (Value.slice x us.length d).ownBlock<;>simp,?_⟩⟩⟩
  ·intro c;simp only[Z6,Z2] at c;rcases c with e|(e|e)|e
   ·exact L e.symm
   ·exact q.1 (by simp[e])
   ·exact q.1 (by simp[e])
   ·exact(l sb (by simpa using e)).2 rfl
  ·intro c;rcases y with e|e
   ·cases e;rcases Z2.1 c with c|c
    ·exact D.1 c
    ·exact(l gf (by simpa using c)).1 rfl
   ·rcases Z2.1 c with c|c
    ·have:=h.lt n (by unfold aP;exact b8 _ (b8 _ c));omega
    ·have:=(o n (by simpa using c)).2;omega
  ·intro a ha b G e;subst e;have z:=j a (by unfold aP;exact b8 _ (b8 _ ha))
   have E:=(o a (by simpa using G)).1
   omega
 ·intro k c;rw[s] at c;have h5:p.heap.size<=(p.setCell (aL sb 1) V).heap.size:=by simp
  simp only[Z6,Z2] at c;rcases c with e|e|(e|e)|e
  ·rw[e];omega
  ·rw[e];omega
  ·have:=h.lt k (by simp[aP,e]);omega
  ·have:=h.lt k (by simp[aP,e]);omega
  ·have:=(o k (by simpa using e)).2;omega
 ·intro k f;obtain⟨a1,N⟩:=h.apart k f;refine⟨by omega,fun c=>?_⟩
  rw[s] at c;simp only[Z6,Z2] at c;rcases c with e|e|(e|e)|e
  ·exact N (by simp[aP,e])
  ·rcases y with Z|Z
   ·cases Z;exact N (by simp[aP,e])
   ·omega
  ·exact N (by simp[aP,e])
  ·exact N (by simp[aP,e])
  ·have:=(o k (by simpa using e)).1;have:=X k f;omega
 ·exact⟨H.os.trans rfl,H.tape.trans rfl,H.output.trans rfl,Q,fun k z hn=>M k z (fun e=>hn (by simp[aP,e])) (fun e=>hn (by simp[aP,e]))⟩
def X9(fp:fN)(F:cC)(base sb gf cap:Nat)(t0 tv outv s0:aQ)(fvs:List FVal)(below:List aJ)(f:aJ)(tape:List Int)(out:cO)(w0:aH)(us:List aI)(x:Option Addr)(d:Nat)(xs:List Value)(W:aH):Prop:=
 ∃fvs' ys,xs=gG fvs'/\Kept (aP false sb gf outv fvs) w0 W/\aP false sb gf outv fvs'=aP false sb gf outv fvs/\fvs'.length=fvs.length/\cW false fp F base W sb gf cap t0 tv outv s0 fvs' ⟨below++[f.popMany us.length],tape,out⟩/\
  W.ownsRow w0.heap.size 142 1 (.slice x us.length d) us.length ys/\gF F W ys us/\(∀a∈us,aK a<=200)/\∀k,F k->W.heap[k]?=w0.heap[k]?
def P7(v:List eV)(k:Nat)(Y:eV)(vs us:List aI)(h:cW false fp F base w sb gf cap t0 tv outv s0 fvs ⟨below++[f],tape,out⟩)(A:below.length<=15)(E:base<=w.heap.size)(ad:f.ops.length<=99000)(hf:f.ops=vs++us)(Q:lA fp F w v)(hk:v[k]?=some Y):
 Calls prog 287 #[.agg #[fp k,Iv0 us.length],bO sb] w (V0 fp F base sb t0 s0 (aP false sb gf outv fvs) w (cJ v (.call k us.length) below f tape out)):=by
 have I:=Q k Y hk;have H:∃q,fp k=.pointer q:=by obtain⟨fb,gc,cp,af,e,_⟩:=I;exact⟨_,e⟩
 obtain⟨g,H⟩:=H;rw[H] at I ⊢
 have hM:=h.mid E (.cells #[.pointer g,Iv0 us.length] 320);have G:Below w.heap.size w (w.alloc (.cells #[.pointer g,Iv0 us.length] 320)):=(Y8 _ w).alloc dH _;have h0:=h.grow G eD (fun _ h=>Y4 h)
 have P:fvs.length=below.length+1:=by rw[h.count];simp
 have C:(w.alloc (.cells #[.pointer g,Iv0 us.length] 320)).heap[w.heap.size]?=some (.cells #[.pointer g,Iv0 us.length] 320 (0,0)):=aU _ _ rfl _;have hm:f.many us.length=us:=by simp[aJ.many,hf]
 have hr:cJ v (.call k us.length) below f tape out=if below.length+1=16 then (⟨below++[f.popMany us.length],tape,out⟩,5) else (⟨(below++[f.popMany us.length])++[⟨Y,0,0,[],us,[]⟩],tape,out⟩,0):=by
  simp[cJ,hm,hk]
 rw[hr];have Z:w.heap.size<(w.alloc (.cells #[.pointer g,Iv0 us.length] 320)).heap.size:=aD C;generalize V:w.alloc (.cells #[.pointer g,Iv0 us.length] 320)=D at*
 have HP:∀W,aY D W->Calls prog 262 #[.pointer (some (aL gf (below.length*6))),Iv0 us.length] W fun e z=>∃x d t,e=bE (.slice x us.length d)/\X9 fp F base sb gf cap t0 tv outv s0 fvs below f tape out D us x d t z:=fun W O=>by
  refine((h0.grow O.below eD (fun _ h=>Y4 h)).popMany hf (by omega)).mono ?_
  rintro e z ⟨v',N,c,he,o,s,u,l,y,M,K,L⟩;rw[O.heap] at y;obtain⟨x,d,rfl⟩:=cY y;exact⟨x,d,_,he,c,N,rfl,(Kept.of_below (own:=aP false sb gf outv fvs) O.below).trans o fun _ h=>Y4 h,s,u,l,y,M,K,fun j m=>by rw[L j m,O.heap]⟩
 have HK:∀{W W'},Kept (aP false sb gf outv fvs) D W->Kept (aP false sb gf outv fvs) W W'->Kept (aP false sb gf outv fvs) w W':=fun a b=>((Kept.of_below (own:=aP false sb gf outv fvs) G).trans a fun _ h=>Y4 h).trans b fun _ h=>Y4 h
 by_cases p:below.length+1=16
 ·rw[if_pos p];refine(PC w D sb gf (below.length*6) gf cap us.length g (fun z=>Done fp F base sb t0 s0 (aP false sb gf outv fvs) w ⟨below++[f.popMany us.length],tape,out⟩ z) (fun x d W=>∃t,X9 fp F base sb gf cap t0 tv outv s0 fvs below f tape out D us x d t W) V (hM.topS A) (fun W O=>?_) (fun W x d r=>?_)).mono ?_
  ·refine(HP W O).mono ?_;rintro e z ⟨x,d,t,he,r⟩;exact⟨x,d,he,t,r⟩
  ·obtain⟨t,c,N,_,o,s,u,l,_⟩:=r;have i:=l.blk;rw[u,P,p] at i;exact⟨aA i rfl,HK o (Kept.refl _ _),F,gf,cap,tv,outv,c,Ext.refl _ _,l,fun j m=>Y4 (by rw[<-s];exact m)⟩
  ·rintro e z ⟨rfl,h2⟩;exact⟨Y3 ⟨show (5:Nat)≠0 by decide,rfl⟩,h2⟩
 ·rw[if_neg p];refine(PB w D sb gf (below.length*6) gf cap us.length base fvs.length g (fun z=>Done fp F base sb t0 s0 (aP false sb gf outv fvs) w ⟨(below++[f.popMany us.length])++[⟨Y,0,0,[],us,[]⟩],tape,out⟩ z) (X9 fp F base sb gf cap t0 tv outv s0 fvs below f tape out D us) V (by omega) (hM.topS A) HP (fun W x d t r=>?_) (fun W x d t r=>?_) (fun W x d t r=>?_) (fun W x d t r=>?_)).mono ?_
  ·obtain⟨c,N,_,o,s,u,l,y,M,K,L⟩:=r;have i:=l.blk;rw[u] at i;have S:W.heap[w.heap.size]?=_:=(o.block w.heap.size Z (fun hm=>Nat.lt_irrefl _ (h.lt _ hm))).trans C
   exact⟨aA i rfl,aA S rfl,aD S,aD i,by have:=o.size;omega⟩
  ·obtain⟨c,N,rfl,o,s,u,l,y,M,K,L⟩:=r;have:=l.row;rw[u] at this;exact bA this fun _ _=>rfl
  ·obtain⟨c,N,_,o,s,u,l,y,M,K,L⟩:=r;intro w5 hg;have aa:=aD l.blk;have ab:sb≠gf:=fun e=>(Z9.1 l.nodup).1 (by simp[e])
   have J:w5.heap[sb]?=_:=(hg.block sb (by simp;omega) (fun e=>ab (by cases e;rfl))).trans ((Z3 _ _ _ (by exact aa)).trans l.blk)
   exact⟨⟨_,aA J rfl⟩,aE J,aD J⟩
  ·obtain⟨c,N,rfl,o,s,u,l,y,M,K,L⟩:=r;intro g5 U w5 n hg X;rw[<-u] at n ⊢
   have ac:ZG fp F W (.pointer g) Y:=I.keep (fun b hb=>by rw[L b hb];exact G.block b (h.apart b hb).1) eD
   obtain⟨q1,q2⟩:=l.called (B:=D.heap.size) ac (by omega) (fun j m=>by rw[s] at m;exact h0.lt j m) (fun j m=>(h0.apart j m).1) y M K n hg X
   rw[s] at q2;refine⟨HK o q2,F,g5,U,tv,outv,_,Ext.refl _ _,q1,fun j m=>?_⟩
   have T:aP false sb g5 outv (c++[⟨.pointer g,Iv0 0,Iv0 0,.pointer none,.slice x us.length d,bV⟩])=sb::g5::((outv.ownBlock.toList++bW false c)++(Value.slice x us.length d).ownBlock.toList):=by simp[aP,bW,FVal.ownX,show (Value.slice none 0 0).ownBlock=none from rfl]
   rw[T] at m;rw[<-s];have ae:=o.size;simp only[Z6,Z2] at m;rcases m with e|e|(e|e)|e
   ·exact Y4 (by simp[aP,e])
   ·rcases X with e2|e2
    ·cases e2;exact Y4 (by simp[aP,e])
    ·exact Y3 (by omega)
   ·exact Y4 (by simp[aP,e])
   ·exact Y4 (by simp[aP,e])
   ·have:=cM y j (by simpa using e)
    exact Y3 (by omega)
  ·rintro e z ⟨rfl,h2⟩;exact⟨Y4 ⟨rfl,rfl⟩,h2⟩
end
def FA(w:aH)(fa fj d m g n c:Nat)(W:aH):Prop:=
 W.cell? (aL w.heap.size 0)=some (Iv0 d)/\W.cell? (aL w.heap.size 1)=some (Iv0 m)/\W.cell? (aL fa (fj+4))=some (.slice (some (aL g 0)) n c)
def FA.same{w W f:aH}{b e d m g n c:Nat}(h:FA w b e d m g n c W)(a:aY W f):FA w b e d m g n c f:=
 ⟨cZ a.heap h.1,cZ a.heap h.2.1,cZ a.heap h.2.2⟩
def EW(w J:aH)(sb r s d m g n c k:Nat)(O:TypeId)(Z:aQ)(ac:d<n)(P S:World->Prop)(Q:TypeId->Value->World->Prop)(R:TypeId->Value->Option Addr->Nat->World->Prop)(U:TypeId->Value->World->Prop)(hW:w.alloc (.cells #[Iv0 d,Iv0 m] 332)=J)
 (HT:Hid (∀W,aY J W->Calls prog 82 #[bO sb] W fun e o=>e=bE (.pointer (some (aL r s)))/\aY J o))
 (HP:Hid (∀W,aY J W->Calls prog 95 #[.pointer (some (aL r s))] W fun e o=>∃t z,e=bE (.iface t z)/\Q t z o))
 (HQ:Hid (∀W t z,Q t z W->FA w r s d m g n c W/\W.cell? (aL g d)=some (.iface O Z)))
 (HM:Hid (∀W W' t z,Q t z W->aY W W'->Calls prog 262 #[.pointer (some (aL r s)),Iv0 m] W' fun e o=>∃x y,e=bE (.slice x m y)/\R t z x y o))
 (HR:Hid (∀W t z x y,R t z x y W->FA w r s d m g n c W/\W.cell? (aL g d)=some (.iface O Z)))
 (HV:Hid (∀W t z x y,R t z x y W->Calls prog 290 #[.iface O Z,.slice x m y,.iface t z] W fun e o=>(∃I H,e=bE (.iface I H)/\U I H o)\/(e=fP k/\S o)))
 (HU:Hid (∀W t z,U t z W->FA w r s d m g n c W/\(∃u,W.cell? (aL g d)=some u)/\W.frozen? (aL g d)=false/\g<W.heap.size/\FA w r s d m g n c (W.setCell (aL g d) (.iface t z))))
 (HN:Hid (∀W t z,U t z W->P (W.setCell (aL g d) (.iface t z)))):
 Calls prog 289 #[.agg #[Iv0 d,Iv0 m],bO sb] w fun e o=>(e=bE (.tuple #[])/\P o)\/(e=fP k/\S o):=by
 have HW:=aB hW;have e1:(0:Int)<=(d:Int):=by omega
 have e2:(d:Int)<(n:Int):=by omega
 clear hW;go_in
 go_wp2_with fail;rw[HW.out];refine(HT _ (aY.refl _)).mono ?_;rintro e w1 ⟨rfl,T⟩;go_wp2_with fail;refine(HP _ T).mono ?_;rintro e L ⟨t,z,rfl,M⟩;have F:=aB M;have N:=HQ _ _ _ M;have G:=N.1.same (aY.drew L);have ab:=cZ (aY.drew L).heap N.2;clear N M;go_wp2_with fail;refine wp_region_held_drew (S:=fun W=>W.cell? (aL w.heap.size 0)=some (Iv0 d)/\W.cell? (aL w.heap.size 1)=some (Iv0 m)/\W.cell? (aL r (s+4))=some (.slice (some (aL g 0)) n c)) (by kernel_rfl) G (fun a=>?_)
 (refine wpAnyH_take (i:=0) (v:=?_) rfl (by kernel_rfl) (by kernel_rfl) (by kernel_rfl) (fun _ _ _ h=>h) (Y4 ⟨by rfl,?_⟩) a ?_;rotate_left;(intro w b;(try dsimp only at b);go_simp<;>with_reducible rfl))
 (refine wpAnyH_take (i:=1) (v:=?_) rfl (by kernel_rfl) (by kernel_rfl) (by kernel_rfl) (fun _ _ _ h=>h) (Y4 ⟨by rfl,?_⟩) a ?_;rotate_left;(intro w b;(try dsimp only at b);go_simp<;>with_reducible rfl))
 (refine wpAnyH_take (i:=2) (v:=?_) rfl (by kernel_rfl) (by kernel_rfl) (by kernel_rfl) (fun _ _ _ h=>h) (Y4 ⟨by rfl,?_⟩) a ?_;rotate_left;(intro w b;(try dsimp only at b);go_simp<;>with_reducible rfl))
 (refine wpAnyH_take (i:=4) (v:=?_) rfl (by kernel_rfl) (by kernel_rfl) (by kernel_rfl) (fun _ _ _ h=>h) (Y4 ⟨by rfl,?_⟩) a ?_;rotate_left;(intro w b;(try dsimp only at b);go_simp<;>with_reducible rfl))
 (refine wpAnyH_take (i:=6) (v:=?_) rfl (by kernel_rfl) (by kernel_rfl) (by kernel_rfl) (fun _ _ _ h=>h) (Y4 ⟨by rfl,?_⟩) a ?_;rotate_left;(intro w b;(try dsimp only at b);go_simp<;>with_reducible rfl))
 (refine wpAnyH_take (i:=7) (v:=?_) rfl (by kernel_rfl) (by kernel_rfl) (by kernel_rfl) (fun _ _ _ h=>h) (Y4 ⟨by rfl,?_⟩) a ?_;rotate_left;(intro w b;(try dsimp only at b);go_simp<;>with_reducible rfl))
 (refine wpAnyH_take (i:=8) (v:=?_) rfl (by kernel_rfl) (by kernel_rfl) (by kernel_rfl) (fun _ _ _ h=>h) (Y4 ⟨by rfl,?_⟩) a ?_;rotate_left;(intro w b;(try dsimp only at b);go_simp<;>with_reducible rfl))
 (refine wpAnyH_take (i:=10) (v:=?_) rfl (by kernel_rfl) (by kernel_rfl) (by kernel_rfl) (fun _ _ _ h=>h) (Y4 ⟨by rfl,?_⟩) a ?_;rotate_left;(intro w b;(try dsimp only at b);go_simp<;>with_reducible rfl))
 (refine wpAnyH_take (i:=14) (v:=?_) rfl (by kernel_rfl) (by kernel_rfl) (by kernel_rfl) (fun _ _ _ h=>h) (Y4 ⟨by rfl,?_⟩) a ?_;rotate_left;(intro w b;(try dsimp only at b);go_simp<;>with_reducible rfl))
 (refine wpAnyH_take (i:=15) (v:=?_) rfl (by kernel_rfl) (by kernel_rfl) (by kernel_rfl) (fun _ _ _ h=>h) (Y4 ⟨by rfl,?_⟩) a ?_;rotate_left;(intro w b;(try dsimp only at b);go_simp<;>with_reducible rfl))
 (refine wpAnyH_take (i:=18) (v:=?_) rfl (by kernel_rfl) (by kernel_rfl) (by kernel_rfl) (fun _ _ _ h=>h) (Y4 ⟨by rfl,?_⟩) a ?_;rotate_left;(intro w b;(try dsimp only at b);go_simp<;>with_reducible rfl))
 (refine wpAnyH_take (i:=3) (v:=?_) rfl (by kernel_rfl) (by kernel_rfl) (by kernel_rfl) (fun _ _ _ h=>h) (Y4 ⟨by rfl,?_⟩) a ?_;rotate_left;(intro w b;(try dsimp only at b);go_simp<;>with_reducible rfl))
 (refine wpAnyH_take (i:=5) (v:=?_) rfl (by kernel_rfl) (by kernel_rfl) (by kernel_rfl) (fun _ _ _ h=>h) (Y4 ⟨by rfl,?_⟩) a ?_;rotate_left;(intro w b;(try dsimp only at b);go_simp<;>with_reducible rfl))
 (refine wpAnyH_take (i:=9) (v:=?_) rfl (by kernel_rfl) (by kernel_rfl) (by kernel_rfl) (fun _ _ _ h=>h) (Y4 ⟨by rfl,?_⟩) a ?_;rotate_left;(intro w b;(try dsimp only at b);go_simp<;>with_reducible rfl))
 (refine wpAnyH_take (i:=11) (v:=?_) rfl (by kernel_rfl) (by kernel_rfl) (by kernel_rfl) (fun _ _ _ h=>h) (Y4 ⟨by rfl,?_⟩) a ?_;rotate_left;(intro w b;(try dsimp only at b);go_simp<;>with_reducible rfl))
 (refine wpAnyH_take (i:=12) (v:=?_) rfl (by kernel_rfl) (by kernel_rfl) (by kernel_rfl) (fun _ _ _ h=>h) (Y4 ⟨by rfl,?_⟩) a ?_;rotate_left;(intro w b;(try dsimp only at b);go_simp<;>with_reducible rfl))
 (refine wpAnyH_take (i:=16) (v:=?_) rfl (by kernel_rfl) (by kernel_rfl) (by kernel_rfl) (fun _ _ _ h=>h) (Y4 ⟨by rfl,?_⟩) a ?_;rotate_left;(intro w b;(try dsimp only at b);go_simp<;>with_reducible rfl))
 refine wpAnyH_ready (rs:=[13,17]) (by kernel_rfl) (by simp) ?_
 refine AllReadyH.cons rfl (fun K j=>?_) (AllReadyH.cons rfl (fun K j=>?_) AllReadyH.nil)
 ·go_simp;refine j.out _ _ G (fun a=>?_)
  clear j K;refine wpAnyH_ready (rs:=[17]) (by kernel_rfl) (by simp) ?_
  refine AllReadyH.cons rfl (fun K j=>?_) AllReadyH.nil
  go_simp;go_at_call 262
  refine(HM _ _ _ _ F (aY.drew L)).mono ?_;rintro e w3 ⟨x,y,rfl,E⟩;have C:=aB E;have l:=HR _ _ _ _ _ E;have q:=l.1;have aa:=l.2;clear l E;go_wp2_with fail;refine j.out _ _ q (fun a=>?_)
  clear j K;refine wpAnyH_ready (rs:=[19]) (by kernel_rfl) (by simp) ?_
  refine AllReadyH.cons rfl (fun K j=>?_) AllReadyH.nil
  go_simp;go_at_call 290
  refine(HV _ _ _ _ _ C).mono ?_;rintro e w4 (⟨I,H,rfl,p⟩|⟨rfl,p⟩)
  rotate_left
  exact⟨rfl,Y3 ⟨rfl,p⟩⟩;have B:=aB p;have f:=HU _ _ _ p;have D:=f.1;obtain⟨u4,V⟩:=f.2.1;have X:=f.2.2.1;have Y:=f.2.2.2.1;have A:=f.2.2.2.2;clear f p;go_wp2_with fail;refine j.out _ _ D (fun a=>?_)
  clear j K;refine wpAnyH_take (i:=20) (v:=?_) rfl (by kernel_rfl) (by kernel_rfl) (by kernel_rfl) (fun _ _ _ h=>h) (Y4 ⟨by rfl,?_⟩) a ?_
  rotate_left
  ·intro w b;(try dsimp only at b);go_simp<;>with_reducible rfl
  refine wpAnyH_ready (rs:=[21]) (by kernel_rfl) (by simp) ?_
  refine AllReadyH.cons rfl (fun K j=>?_) AllReadyH.nil
  go_simp;refine j.out _ _ A (fun a=>?_)
  clear j K;refine wpAnyH_done (by kernel_rfl) ?_ _
  go_wp2
  go_end0;exact Y4 ⟨rfl,HN _ _ _ B⟩
 ·go_simp;go_at_call 262
  refine(HM _ _ _ _ F (aY.drew L)).mono ?_;rintro e w3 ⟨x,y,rfl,E⟩;have C:=aB E;have l:=HR _ _ _ _ _ E;have q:=l.1;have aa:=l.2;clear l E;go_wp2_with fail;refine j.out _ _ q (fun a=>?_)
  clear j K;refine wpAnyH_ready (rs:=[13]) (by kernel_rfl) (by simp) ?_
  refine AllReadyH.cons rfl (fun K j=>?_) AllReadyH.nil
  go_simp;refine j.out _ _ q (fun a=>?_)
  clear j K;refine wpAnyH_ready (rs:=[19]) (by kernel_rfl) (by simp) ?_
  refine AllReadyH.cons rfl (fun K j=>?_) AllReadyH.nil
  go_simp;go_at_call 290
  refine(HV _ _ _ _ _ C).mono ?_;rintro e w4 (⟨I,H,rfl,p⟩|⟨rfl,p⟩)
  rotate_left
  exact⟨rfl,Y3 ⟨rfl,p⟩⟩;have B:=aB p;have f:=HU _ _ _ p;have D:=f.1;obtain⟨u4,V⟩:=f.2.1;have X:=f.2.2.1;have Y:=f.2.2.2.1;have A:=f.2.2.2.2;clear f p;go_wp2_with fail;refine j.out _ _ D (fun a=>?_)
  clear j K;refine wpAnyH_take (i:=20) (v:=?_) rfl (by kernel_rfl) (by kernel_rfl) (by kernel_rfl) (fun _ _ _ h=>h) (Y4 ⟨by rfl,?_⟩) a ?_
  rotate_left
  ·intro w b;(try dsimp only at b);go_simp<;>with_reducible rfl
  refine wpAnyH_ready (rs:=[21]) (by kernel_rfl) (by simp) ?_
  refine AllReadyH.cons rfl (fun K j=>?_) AllReadyH.nil
  go_simp;refine j.out _ _ A (fun a=>?_)
  clear j K;refine wpAnyH_done (by kernel_rfl) ?_ _
  go_wp2
  go_end0;exact Y4 ⟨rfl,HN _ _ _ B⟩
def S3.ofRow{F:cC}{w:aH}{base:Nat}{v:aQ}{xs:List Value}{l:List aI}(h:w.ownsRow base 142 1 v l.length xs)(n:gF F w xs l):S3 F w v l:=by
 rcases h.2 with ⟨a,d⟩|⟨g,c,m,a,d,b,f,q,p,j⟩
 ·exact Y4 ⟨s6.1 d,none,0,by rw[a]⟩
 ·refine Y3 ⟨g,0,c,a,f,aD b,fun i o=>?_⟩
  obtain⟨u,e,k⟩:=n.2 i o;refine⟨u,aA b ?_,k⟩;rw[<-j,i8,if_pos (by omega)] at e
  simpa using e
section
variable {fp:fN} {F:cC} {base:Nat} {w:aH} {sb gf cap:Nat} {t0 tv outv s0:aQ} {fvs:List FVal} {below:List aJ} {f:aJ} {tape:List Int} {out:cO}
def cW.popManyR{r:List FVal}{v:FVal}{vs us:List aI}(h:cW false fp F base w sb gf cap t0 tv outv s0 (r++[v]) ⟨below++[f],tape,out⟩)(K:f.ops=vs++us)(z:f.ops.length<=100000):
 Calls prog 262 #[.pointer (some (aL gf (r.length*6))),Iv0 us.length] w fun e u=>∃x y c,e=bE (.slice x us.length y)/\c.ownBlock=v.ov.ownBlock/\S3 F u (.slice x us.length y) us/\(∀a∈us,aK a<=200)/\
  cW false fp F base u sb gf cap t0 tv outv s0 (r++[{ v with ov:=c }]) ⟨below++[f.popMany us.length],tape,out⟩/\Kept (aP false sb gf outv (r++[v])) w u/\∀k,k<w.heap.size->k≠gf->u.heap[k]?=w.heap[k]?:=by
 obtain⟨Z,v0,J,e,aa,Q,S,p,O,k0,k1,k2,k3,k4,X⟩:=h.top;obtain⟨rfl,Y⟩:=p7 e rfl;cases Y;obtain⟨⟨xs,i,A⟩,g⟩:=Q.ops;rw[K] at i A g;obtain⟨s,P,rfl,M,H,I,t⟩:=A.split;rw[K,Y5] at z;rw[Y5] at i;refine(uE base gf (r.length*6) vs.length us.length J v.ov s P w p X i M H (nW t) (by omega)).mono ?_
 rintro e u ⟨T,c,D,he,q,L,rfl,U,C⟩;have n:(f.popMany us.length).ops=vs:=by simp[aJ.popMany,K]
 have N:=h.grow q eD (fun _ h=>Y4 h)
 have E:KQ false fp F base D { v with ov:=c } (f.popMany us.length):=by
  have m:∀b,F b->D.heap[b]?=w.heap[b]?:=fun b o=>q.block b (h.apart b o).1
  have B:∀k∈(v.ownX false),k<w.heap.size:=fun k m=>h.lt k (by simp[aP,bW,m])
  have l:=Q.keep m eD fun k hm=>q.block k (B k hm)
  refine⟨l.fn,l.nx,l.ln,l.sp,l.vars,⟨s,?_,?_⟩,fun b o=>g b (j2 _ (by rw[n] at o;exact o))⟩
  ·rw[n];exact bA U fun k e=>q.block k (B k (by rw[C] at e;simp[FVal.ownX,e]))
  ·rw[n];exact I.keep m
 obtain⟨W,q2⟩:=N.setTop (j:=5) (x:=c) (v':={ v with ov:=c }) (by omega) rfl (by simp[FVal.ownX,C]) E
 have V:gf<w.heap.size:=aD p
 have G:∀k,F k->(D.setCell (aL gf (r.length*6+5)) c).heap[k]?=w.heap[k]?:=fun k m=>by
  rw[Y6 _ _ _ _ fun e=>(h.apart k m).2 (by simp[aP,e]),q.block k (h.apart k m).1]
 obtain⟨x,d,rfl⟩:=cY L;refine⟨x,d,c,he,C,S3.ofRow (base:=w.heap.size) (xs:=P) (bA L fun k m=>Y6 _ _ _ _ ?_) (t.keep G),fun a ha=>g a (j9 _ ha),W,(Kept.of_below q).trans q2 fun x hx=>Y4 hx,fun k m hn=>by rw[Y6 _ _ _ _ hn,q.block k m]⟩
 have:=cM L k m;show k≠gf
 omega
def cW.assigned{q:List FVal}{v:FVal}{g n c d:Nat}{u:aQ}{a:aI}(h:cW false fp F base w sb gf cap t0 tv outv s0 (q++[v]) ⟨below++[f],tape,out⟩)(j:v.vv=.slice (some (aL g 0)) n c)(Z:PV F w u a)(D:aK a<=200):
 cW false fp F base (w.setCell (aL g d) u) sb gf cap t0 tv outv s0 (q++[v]) ⟨below++[{ f with vars:=f.vars.set d a }],tape,out⟩/\Kept (aP false sb gf outv (q++[v])) w (w.setCell (aL g d) u):=by
 obtain⟨W,v0,V,e,X,y,M,K,J,k0,k1,k2,k3,k4,k5⟩:=h.top;obtain⟨rfl,T⟩:=p7 e rfl;cases T;have A:v.vv.ownBlock=some g:=by rw[j];rfl
 have m:g∈(v.ownX false):=by simp[FVal.ownX,A]
 have s:∀k∈(v.ownX false),k∈aP false sb gf outv (q++[v]):=fun k i=>by simp[aP,bW,i]
 have I:gf∉(v.ownX false):=fun C=>by
  have:=(Z9.1 (Z9.1 h.nodup).2).1;exact this (by simp[bW,C])
 have l:(v.ownX false).Nodup:=by
  have x:=h.nodup;have:aP false sb gf outv (q++[v])=(sb::gf::(outv.ownBlock.toList++bW false q))++(v.ownX false):=by simp[aP,bW]
  rw[this] at x;exact(m9.1 x).2.1
 have i:∀k,k≠g->(w.setCell (aL g d) u).heap[k]?=w.heap[k]?:=fun k i=>Y6 _ _ _ _ i
 have o:∀b,F b->(w.setCell (aL g d) u).heap[b]?=w.heap[b]?:=fun b E=>i b fun e=>(h.apart b E).2 (s b (by rw[e];exact m))
 have z:∀k,v.ov.ownBlock=some k->k≠g:=fun k i e=>by
  unfold FVal.ownX at l;rw[i,A,e] at l;simp at l
 have r:=h.row;rw[show (q++[v]).length=q.length+1 by simp] at r
 obtain⟨⟨Y,p,H⟩,t⟩:=y.vars;refine⟨h.step (G:=F) (by simp) (fun k _ _ h3=>i k fun e=>h3 (by rw[e];exact m)) (bA r fun k e=>i k ?_) ?_ (fun k C=>⟨Y7 (h.lt k (s k C)) (by simp),Y4 C⟩) l eD (fun _ h=>Y4 h),⟨rfl,rfl,rfl,by simp,fun k _ hn=>i k fun e=>hn (s k (by rw[e];exact m))⟩⟩
 ·cases e;exact fun e=>I (by have S:gf=g:=e;rw[S];exact m)
 ·refine⟨y.fn.keep o eD,y.nx,y.ln,fA.keep o eD y.sp,⟨⟨Y.set d u,?_,(gF.set H d Z).keep o⟩,fun b E=>?_⟩,y.ops.keep o eD fun k e=>i k (z k e)⟩
  ·rcases p.2 with ⟨B,L⟩|⟨g',c',aa,B,L,N,P,U,O,Q⟩
   ·rw[B] at j;cases j
   ·rw[j] at B;cases B;refine⟨by simp[p.1],Y3 ⟨g,c,_,?_,L,aT N,by simpa using P,U,by simpa using O,?_⟩⟩
    ·show v.vv=_
     rw[j];simp
    ·show List.take ((f.vars.set d a).length*1) _=_
     rw[y7,az_,x6,Q]
  ·rcases ap_ E with x|x
   ·exact t b x
   ·rw[x];exact D
def qT(fp:fN)(F:cC)(base sb gf cap:Nat)(t0 tv outv s0:aQ)(fb:List FVal)(v:FVal)(below:List aJ)(f:aJ)(tape:List Int)(out:cO)(w0:aH)(W:aH):Prop:=
 ∃ov',ov'.ownBlock=v.ov.ownBlock/\cW false fp F base W sb gf cap t0 tv outv s0 (fb++[{ v with ov:=ov' }]) ⟨below++[f],tape,out⟩/\Kept (aP false sb gf outv (fb++[v])) w0 W/\∀k,k<w0.heap.size->k≠gf->W.heap[k]?=w0.heap[k]?
def qT.grow{G:cC}{i:List FVal}{v:FVal}{e W c:aH}(h:qT fp F base sb gf cap t0 tv outv s0 i v below f tape out e W)(a:Below W.heap.size W c)(n:∀k,F k->G k)(o:∀k,G k->F k\/(W.heap.size<=k/\k<c.heap.size)):qT fp G base sb gf cap t0 tv outv s0 i v below f tape out e c:=by
 obtain⟨b,m,j,g,l⟩:=h;exact⟨b,m,j.grow a n o,g.trans (Kept.of_below (own:=[]) a) (fun x p=>by simp at p),fun k d q=>by rw[a.block k (Y7 d g.size),l k d q]⟩
def qT.reads{l:List FVal}{v:FVal}{k W:aH}{g n c d m:Nat}{x:aQ}(h:qT fp F base sb gf cap t0 tv outv s0 l v below f tape out k W)(D:gf<w.heap.size)(b:k=w.alloc (.cells #[Iv0 d,Iv0 m] 332))(s:v.vv=.slice (some (aL g 0)) n c)(N:g<w.heap.size)(j:g≠gf)(I:k.cell? (aL g d)=some x):
 FA w gf (l.length*6) d m g n c W/\W.cell? (aL g d)=some x/\∀u,FA w gf (l.length*6) d m g n c (W.setCell (aL g d) u):=by
 obtain⟨r,Q,C,T,t⟩:=h;obtain⟨G,K,E,e,H,V,B,i,y,P,M,U,O,L,S⟩:=C.top;obtain⟨rfl,p⟩:=p7 e rfl;have J:K={ v with ov:=r }:=by simpa using p.symm
 subst J
 have a:W.heap[w.heap.size]?=some (.cells #[Iv0 d,Iv0 m] 332 (0,0)):=by
  rw[t _ (by rw[b];simp) (by omega),b];exact aU _ _ rfl _
 have q:W.heap[g]?=k.heap[g]?:=t g (by rw[b];simp;omega) j
 have A:∀o:aH,o.heap[w.heap.size]?=W.heap[w.heap.size]?->o.heap[gf]?=W.heap[gf]?->FA w gf (l.length*6) d m g n c o:=fun o z p=>by
  refine⟨aA (z.trans a) rfl,aA (z.trans a) rfl,aA (p.trans i) ?_⟩;rw[L,<-s]
 exact⟨A W rfl rfl,by rw[World.cell?_of_block q];exact I,fun u=>A _ (Y6 _ _ _ _ (by show w.heap.size≠g;omega)) (Y6 _ _ _ _ (fun e=>j e.symm))⟩
def qT.done{G:cC}{a:List FVal}{v:FVal}{W:aH}{b:Obj}{c:aJ}(h:qT fp G base sb gf cap t0 tv outv s0 a v below c tape out (w.alloc b) W)(j:Ext F G w.heap.size):Done fp F base sb t0 s0 (aP false sb gf outv (a++[v])) w ⟨below++[c],tape,out⟩ W:=by
 obtain⟨i,f,e,g,l⟩:=h;exact⟨(Kept.of_below (own:=aP false sb gf outv (a++[v])) ((Y8 _ w).alloc dH b)).trans g fun _ h=>Y4 h,G,gf,cap,tv,outv,_,j,e,fun k d=>Y4 (by simpa [aP,bW,FVal.ownX,f] using d)⟩
def ZC(d:Nat)(vs us:List aI)(b:aI)(h:cW false fp F base w sb gf cap t0 tv outv s0 fvs ⟨below++[f],tape,out⟩)(aa:below.length<=15)(O:base<=w.heap.size)(H:f.ops.length<=99000)(hf:f.ops=vs++us++[b])(hd:d<f.vars.length):
 Calls prog 289 #[.agg #[Iv0 d,Iv0 us.length],bO sb] w (J5 fp F base sb t0 s0 (aP false sb gf outv fvs) w below tape out (aO (.assign d us.length) f)):=by
 have hM:=h.mid O (.cells #[Iv0 d,Iv0 us.length] 332);obtain⟨o,v,al,rfl,am, -⟩:=h.top;have L:gf<w.heap.size:=h.lt gf (by simp[aP])
 have h0:=h.grow ((Y8 _ w).alloc dH (.cells #[Iv0 d,Iv0 us.length] 332)) eD (fun _ h=>Y4 h)
 have hT:=hM.topS aa;rw[<-am] at hT;obtain⟨az,v0,al,e, -,hv,ad,ai,av,k0,k1,k2,k3,k4,k5⟩:=h0.top;obtain⟨rfl,e2⟩:=p7 e rfl;cases e2;generalize m:w.alloc (.cells #[Iv0 d,Iv0 us.length] 332)=T at h0 hT hv ad ai;obtain⟨⟨xs,af,au⟩,Q⟩:=hv.vars
 have aq:v.vv.ownBlock≠some gf:=fun e=>by
  have:=(Z9.1 (Z9.1 h.nodup).2).1;exact this (by simp[bW,FVal.ownX,e])
 obtain⟨u,ag,V⟩:=au.2 d hd;obtain⟨ta,za,rfl⟩:=V.form;have P:f.pop.ops=vs++us:=mB (by rw[hf])
 have M:f.pop.many us.length=us:=by simp[aJ.many,P]
 have S:f.last=b:=iX (by rw[hf])
 have aw:vs.length+us.length+1<=99000:=by rw[hf] at H;simp at H;omega
 have ak:f.vars[d]?.getD bN=f.vars[d]:=by rw[Z8 hd];rfl
 obtain⟨r,hr⟩:∃r,r=mZ f.vars[d] us b:=⟨_,rfl⟩
 have ae:aO (.assign d us.length) f=if r.2=0 then ({ f.pop.popMany us.length with vars:=f.vars.set d r.1 },0) else (f.pop.popMany us.length,r.2):=by
  simp only[aO,M,S,ak,<-hr]
 have ao:r.2=0->aK r.1<=200:=fun n=>by rw[hr] at n ⊢;exact NB _ n
 rw[ae];rcases af.2 with ⟨U,r2⟩|⟨g,c,ab,U,ay,J,ax,bb,ba,ar⟩
 ·omega
 have aj:v.vv.ownBlock=some g:=by rw[U];rfl
 have B:g≠gf:=fun e=>aq (by rw[aj,e])
 have N:g<w.heap.size:=h.lt g (by simp[aP,bW,FVal.ownX,aj])
 have ap:ab[d]?=some (.iface ta za):=by
  rw[<-ar,i8,if_pos (by omega)] at ag
  simpa using ag
 have Y:T.cell? (aL g d)=some (.iface ta za):=aA J ap
 have ac:∀{W:aH} {f':aJ},qT fp F base sb gf cap t0 tv outv s0 o v below f' tape out T W->∀k,F k->k<W.heap.size:=fun i k j=>by
  obtain⟨_,_,p,_⟩:=i;exact(p.apart k j).1
 have ah:∀{W:aH} {f':aJ},qT fp F base sb gf cap t0 tv outv s0 o v below f' tape out T W->PV F W (.iface ta za) f.vars[d]:=fun i=>by
  obtain⟨_,_,_,s,I⟩:=i;exact V.keep fun k j=>I k (by rw[<-m];exact Y7 (h.apart k j).1 (by simp)) fun e=>(h.apart k j).2 (by simp[aP,e])
 refine(EW w T sb gf (o.length*6) d us.length g f.vars.length c r.2 ta za hd
  (fun K=>r.2=0/\Done fp F base sb t0 s0 (aP false sb gf outv (o++[v])) w ⟨below++[{ f.pop.popMany us.length with vars:=f.vars.set d r.1 }],tape,out⟩ K)
  (fun K=>r.2≠0/\Done fp F base sb t0 s0 (aP false sb gf outv (o++[v])) w ⟨below++[f.pop.popMany us.length],tape,out⟩ K)
  (fun t z W=>(PV F W (.iface t z) b/\aK b<=200)/\qT fp F base sb gf cap t0 tv outv s0 o v below f.pop tape out T W)
  (fun t z x y W=>((PV F W (.iface t z) b/\aK b<=200)/\S3 F W (.slice x us.length y) us)/\qT fp F base sb gf cap t0 tv outv s0 o v below (f.pop.popMany us.length) tape out T W)
  (fun t z W=>r.2=0/\∃G,Ext F G w.heap.size/\PV G W (.iface t z) r.1/\qT fp G base sb gf cap t0 tv outv s0 o v below (f.pop.popMany us.length) tape out T W)
  m hT (fun W D=>?_) (fun W t z i=>?_) (fun W W' t z i D=>?_) (fun W t z x y i=>?_) (fun W t z x y i=>?_) (fun W t z i=>?_) (fun W t z i=>?_)).mono ?_
 ·refine((h0.grow D.below eD (fun _ h=>Y4 h)).popR (vs:=vs++us) (a:=b) (by rw[hf]) (by omega)).mono ?_
  rintro e K ⟨t,z,q,he,n,p,s,I,h5,h6⟩;exact⟨t,z,he,⟨n,p⟩,q,s,I,(Kept.of_below (own:=aP false sb gf outv (o++[v])) D.below).trans h5 fun _ h=>Y4 h,fun k _ j=>by rw[h6 k j,D.heap]⟩
 ·obtain⟨_,i⟩:=i;obtain⟨C,A,_⟩:=i.reads L m.symm U N B Y;exact⟨C,A⟩
 ·obtain⟨⟨p1,p2⟩,q,n,p,s,I⟩:=i;refine((p.grow D.below eD (fun _ h=>Y4 h)).popManyR (vs:=vs) (us:=us) P (by rw[P,Y5];omega)).mono ?_
  rintro e K ⟨x,y,an,he,C,A,q3,q4,q5,q6⟩;have l:aP false sb gf outv (o++[{ v with ov:=q }])=aP false sb gf outv (o++[v]):=by simp[aP,bW,FVal.ownX,n]
  rw[l] at q5;have X:W.heap.size=W'.heap.size:=by rw[D.heap]
  refine⟨x,y,he,⟨⟨p1.keep fun k j=>?_,p2⟩,A⟩,an,by rw[C,n],q4,(s.trans (Kept.of_below (own:=[]) D.below) (fun x Y=>by simp at Y)).trans q5 fun _ h=>Y4 h,fun k j hn=>by rw[q6 k (by rw[<-X];exact Y7 j s.size) hn,D.heap,I k j hn]⟩
  rw[q6 k (by rw[<-X];exact(p.apart k j).1) (fun e=>(p.apart k j).2 (by simp[aP,e])),D.heap]
 ·obtain⟨_,i⟩:=i;obtain⟨C,A,_⟩:=i.reads L m.symm U N B Y;exact⟨C,A⟩
 ·obtain⟨⟨⟨p1,p2⟩,p3⟩,i⟩:=i;refine(MH F us _ _ _ f.vars[d] b W p3 (ah i) p1 (ac i) (Z4 (Q _ (e8 hd)) (by omega)) (by omega) (by omega)).mono ?_
  rintro e K ⟨hb,⟨Z,u,rfl,e3⟩|⟨Z,e2⟩⟩
  ·rw[<-hr] at Z e3;obtain⟨t1,z1,rfl⟩:=e3.form;exact Y4 ⟨t1,z1,rfl,Z,Grow F W K,⟨fun k j=>Y4 j,fun k j=>j.imp_right fun n=>Z4 (by obtain⟨_,_,_,s,_⟩:=i;rw[<-m] at s;exact Z4 (by simp) s.size) n.1⟩,e3,i.grow hb (fun k j=>Y4 j) (fun k j=>j)⟩
  ·rw[<-hr] at Z e2;subst m;exact Y3 ⟨e2,Z,(i.grow hb eD (fun _ h=>Y4 h)).done (Ext.refl _ _)⟩
 ·obtain⟨_,G,hG,_,i⟩:=i;obtain⟨C,A,q3⟩:=i.reads L m.symm U N B Y;obtain⟨_,_,_,_,I⟩:=i;have E:W.heap[g]?=some (.cells ab 142 (0,0)):=by rw[I g (by rw[<-m];simp;omega) B];exact J
  exact⟨C,⟨_,A⟩,aE E,aD E,q3 _⟩
 ·obtain⟨hz,G,hG,p1,q,n,p,s,I⟩:=i;obtain⟨C,A⟩:=p.assigned (d:=d) (a:=r.1) (u:=.iface t z) U p1 (ao hz);have l:aP false sb gf outv (o++[{ v with ov:=q }])=aP false sb gf outv (o++[v]):=by simp[aP,bW,FVal.ownX,n]
  rw[l] at A;subst m;refine⟨hz,((Kept.of_below (own:=aP false sb gf outv (o++[v])) ((Y8 _ w).alloc dH _)).trans s fun _ h=>Y4 h).trans A fun _ h=>Y4 h,G,gf,cap,tv,outv,_,hG,C,fun k j=>Y4 (by rw[l] at j;exact j)⟩
 ·rintro e K (⟨rfl,n,p⟩|⟨rfl,n,p⟩)
  ·exact J5.ok (if_pos n) p
  ·exact J5.stop (if_neg n) n p
end
def IV(w l:aH)(sb A C base n c:Nat)(x:Option Addr)(tx:cE)(hn:n<50)(P:World->Prop)(Q:TypeId->Value->World->Prop)(R:World->Prop)(xs:List Value)(B:w.alloc (.cells #[] 335)=l)
 (U:Hid (∀W,aY l W->Calls prog 82 #[bO sb] W fun e f=>e=bE (.pointer (some (aL A C)))/\aY l f))
 (T:Hid (∀W,aY l W->Calls prog 95 #[.pointer (some (aL A C))] W fun e f=>∃t z,e=bE (.iface t z)/\Q t z f))
 (F:Hid (∀W t z,Q t z W->W.cell? (aL sb 3)=some (.slice x n c)/\sb<W.heap.size))
 (O:Hid (∀W D t z,Q t z W->aY W D->Calls prog 294 #[.iface t z] D fun e f=>e=bE (.string (bs tx))/\R f))
 (H:Hid (∀W,R W->W.cell? (aL sb 3)=some (.slice x n c)/\sb<W.heap.size/\base<=W.heap.size))
 (K:Hid (∀W,R W->W.ownsRow base 9 1 (.slice x n c) n xs))
 (G:Hid (∀W,R W->∀d:aH,(W.alloc (.cells #[.string (bs tx)] 9)).grownBy d (Value.slice x n c).ownBlock->(∃u,d.cell? (aL sb 3)=some u)/\d.frozen? (aL sb 3)=false/\sb<d.heap.size))
 (L:Hid (∀W,R W->∀j b (d:aH),d.ownsRow base 9 1 (.slice (some (aL j 0)) (n+1) b) (n+1) (xs++[.string (bs tx)])->(W.alloc (.cells #[.string (bs tx)] 9)).grownBy d (Value.slice x n c).ownBlock->((Value.slice x n c).ownBlock=some j\/W.heap.size+1<=j)->P (d.setCell (aL sb 3) (.slice (some (aL j 0)) (n+1) b)))):
 Calls prog 293 #[.agg #[],bO sb] w fun e f=>e=bE (.tuple #[])/\P f:=by
 obtain⟨J,M,p,r,s⟩:=info_parts BN;have N:=aB B;have E:¬(n:Int)=50:=by omega
 clear B;go_in
 go_wp2_with fail;rw[N.out];refine(U _ (aY.refl _)).mono ?_;rintro e V ⟨rfl,v⟩;go_wp2_with fail;refine(T _ v).mono ?_;rintro e w2 ⟨t,z,rfl,m⟩;obtain⟨c1,l1⟩:=F _ _ _ m;have q:=aB m;clear m;go_wp2_with fail;go_region_law (first|(go_simp;go_at_call 294;refine(O _ _ _ _ q (aY.drew _)).mono ?_;rintro e o ⟨rfl,y⟩;have g:=aB y;have k:=H _ y;have X:=k.1;have b2:=k.2.1;have Y:=k.2.2;clear k y)|(refine step_append_lies _ (by rfl) _ _ 32 (by rfl) base 9 J _ 1 16 underlying32 M p r s rfl (by decide) (.slice x n c) n xs (by rfl) ((K _ g).alloc _) (aL o.heap.size 0) 1 1 [.string (bs tx)] (by rfl) (by rfl) (FQ o _) (MM _) (by decide) (by unfold maxLen;omega) (by omega) (by simp;omega) (o.heap.size+1) (by simp) ?_;intro j b d h a i S;have I:=G _ g d a;obtain⟨⟨u5,Z⟩,y2,y3⟩:=I))
 all_goals
  go_wp2
  go_end0;exact⟨rfl,L _ g _ _ _ h a (i.imp_right fun e=>Nat.le_of_eq e.symm)⟩
def IW(w b:aH)(sb h j c:Nat)(x:Option Addr)(P:World->Prop)(Q:TypeId->Value->World->Prop)(i:w.alloc (.cells #[] 335)=b)
 (o:Hid (∀W,aY b W->Calls prog 82 #[bO sb] W fun e a=>e=bE (.pointer (some (aL h j)))/\aY b a))
 (n:Hid (∀W,aY b W->Calls prog 95 #[.pointer (some (aL h j))] W fun e a=>∃t z,e=bE (.iface t z)/\Q t z a))
 (k:Hid (∀W t z,Q t z W->W.cell? (aL sb 3)=some (.slice x 50 c)/\sb<W.heap.size))
 (l:Hid (∀W t z,Q t z W->P W)):
 Calls prog 293 #[.agg #[],bO sb] w fun e a=>e=fP 8/\P a:=by
 have m:=aB i;clear i;go_in
 go_wp2_with fail;rw[m.out];refine(o _ (aY.refl _)).mono ?_;rintro e p ⟨rfl,g⟩;go_wp2_with fail;refine(n _ g).mono ?_;rintro e s ⟨t,z,rfl,d⟩;obtain⟨q,r⟩:=k _ _ _ d;have f:=aB d;clear d;go_wp2_with fail;exact⟨rfl,rfl,l _ _ _ f⟩
def yX(own:List Nat)(w:aH):Prop:=∀W,Kept own w W->lB W
def yX.step{own a:List Nat}{w w':aH}(h:yX own w)(b:Kept own w w')(d:∀x∈a,x∈own\/w.heap.size<=x):yX a w':=fun W c=>h W (b.trans c d)
section
variable {fp:fN} {F:cC} {base:Nat} {w:aH} {sb gf cap:Nat} {t0 tv outv s0:aQ} {fvs:List FVal} {below:List aJ} {f:aJ} {tape:List Int} {out:cO}
def cW.printed{m:cT}{j:aH}{Q:Obj}{i d:Nat}{tx:cE}(h:cW false fp F base w sb gf cap t0 tv outv s0 fvs m)
 (J:j.ownsRow base 9 1 (.slice (some (aL i 0)) (m.out.length+1) d) (m.out.length+1) (lS m.out++[.string (bs tx)])) (z:(w.alloc Q).grownBy j outv.ownBlock) (u:outv.ownBlock=some i\/w.heap.size+1<=i):
 cW false fp F base (j.setCell (aL sb 3) (.slice (some (aL i 0)) (m.out.length+1) d)) sb gf cap t0 tv (.slice (some (aL i 0)) (m.out.length+1) d) s0 fvs ⟨m.frames,m.tape,m.out++[tx]⟩/\Kept (aP false sb gf outv fvs) w (j.setCell (aL sb 3) (.slice (some (aL i 0)) (m.out.length+1) d))/\
  ∀k∈aP false sb gf (.slice (some (aL i 0)) (m.out.length+1) d) fvs,k∈aP false sb gf outv fvs\/w.heap.size<=k:=by
 obtain⟨I,O⟩:=Z9.1 h.nodup;obtain⟨K,N⟩:=Z9.1 O;obtain⟨Z,T,U⟩:=m9.1 N
 have L:∀k,k<w.heap.size->some k≠outv.ownBlock->j.heap[k]?=w.heap[k]?:=fun k x l=>by
  rw[z.block k (by simp;omega) l,Z3 _ _ _ x]
 have p:∀k,k<w.heap.size->some k≠outv.ownBlock->k≠sb->(j.setCell (aL sb 3) (.slice (some (aL i 0)) (m.out.length+1) d)).heap[k]?=w.heap[k]?:=fun k x l V=>by
  rw[Y6 _ _ _ _ V,L k x l]
 have t:sb<w.heap.size:=h.lt sb (by simp[aP])
 have s:some sb≠outv.ownBlock:=fun e=>I (by simp[<-e])
 have r:some gf≠outv.ownBlock:=fun e=>K (by simp[<-e])
 have B:gf≠sb:=fun e=>I (by simp[e])
 have C:j.heap[sb]?=_:=(L sb t s).trans h.blk
 have g:∀k∈bW false fvs,k<w.heap.size/\some k≠outv.ownBlock/\k≠sb/\k≠gf:=fun k c=>
  ⟨h.lt k (by simp[aP,c]),fun e=>U k (by simp[<-e]) k c rfl,fun e=>I (by simp[<-e,c]),fun e=>K (by simp[<-e,c])⟩
 have q:i≠sb/\i≠gf/\i∉bW false fvs:=by
  rcases u with e|e
  ·exact⟨fun H=>s (by rw[e,H]),fun H=>r (by rw[e,H]),fun c=>(g i c).2.1 e.symm⟩
  ·have W:gf<w.heap.size:=h.lt gf (by simp[aP])
   exact⟨by omega,by omega,fun c=>by have:=(g i c).1;omega⟩
 have D:∀b,F b->(j.setCell (aL sb 3) (.slice (some (aL i 0)) (m.out.length+1) d)).heap[b]?=w.heap[b]?:=fun b y=>
  p b (h.apart b y).1 (fun e=>(h.apart b y).2 (by simp[aP,<-e])) fun e=>(h.apart b y).2 (by simp[aP,e])
 have o:w.heap.size<=j.heap.size:=Z4 (by simp) z.size
 have n:(Value.slice (some (aL i 0)) (m.out.length+1) d).ownBlock=some i:=rfl;have A:i<j.heap.size:=(J.lt i n).2;refine⟨⟨aT C,bA h.row fun k e=>?_,h.frs.keep D eD fun v X k f=>?_,h.tape.keep D eD,?_,?_,fun k f=>?_,fun k E=>?_⟩,⟨z.os.trans rfl,z.tape.trans rfl,z.output.trans rfl,by simpa using o,fun k x l=>?_⟩,fun k f=>?_⟩
 ·cases e;exact p gf (h.lt gf (by simp[aP])) r B
 ·have c:k∈bW false fvs:=s9.2 ⟨v,X,f⟩;obtain⟨P,Y,S,_⟩:=g k c;exact p k P Y S
 ·rw[Y5];have e:lS (m.out++[tx])=lS m.out++[.string (bs tx)]:=by simp[lS]
  rw[e];exact bA J fun k G=>Y6 _ _ _ _ (by cases G;exact q.1)
 ·unfold aP;rw[n];refine Z9.2 ⟨fun c=>?_,Z9.2 ⟨fun c=>?_,m9.2 ⟨by simp,T,fun a M b y e=>?_⟩⟩⟩
  ·rcases Z6.1 c with e|c
   ·exact B e.symm
   ·rcases Z2.1 c with c|c
    ·simp at c;exact q.1 c.symm
    ·exact(g sb c).2.2.1 rfl
  ·rcases Z2.1 c with c|c
   ·simp at c;exact q.2.1 c.symm
   ·exact(g gf c).2.2.2 rfl
  ·simp at M;subst e;exact q.2.2 (by rw[<-M];exact y)
 ·have:(j.setCell (aL sb 3) (.slice (some (aL i 0)) (m.out.length+1) d)).heap.size=j.heap.size:=by simp
  rw[this];unfold aP at f;rw[n] at f;simp only[Option.toList_some,Z6,Z2,e7,or_false] at f;rcases f with rfl|rfl|rfl|c
  ·exact Y7 t o
  ·exact Y7 (h.lt _ (by simp[aP])) o
  ·exact A
  ·exact Y7 (g k c).1 o
 ·obtain⟨x,l⟩:=h.apart k E;refine⟨Y7 x (by simpa using o),fun c=>?_⟩
  unfold aP at c;rw[n] at c;simp only[Option.toList_some,Z6,Z2,e7,or_false] at c;rcases c with rfl|rfl|rfl|c
  ·exact l (by simp[aP])
  ·exact l (by simp[aP])
  ·rcases u with e|e
   ·exact l (by simp[aP,e])
   ·omega
  ·exact l (by simp[aP,c])
 ·exact p k x (fun e=>l (by simp[aP,<-e])) fun e=>l (by simp[aP,e])
 ·unfold aP at f;rw[n] at f;simp only[Option.toList_some,Z6,Z2,e7,or_false] at f;rcases f with rfl|rfl|rfl|c
  ·exact Y4 (by simp[aP])
  ·exact Y4 (by simp[aP])
  ·rcases u with e|e
   ·exact Y4 (by simp[aP,e])
   ·exact Y3 (by omega)
  ·exact Y4 (by simp[aP,c])
def B5(r:List eV){vs:List aI}{b:aI}(h:cW false fp F base w sb gf cap t0 tv outv s0 fvs ⟨below++[f],tape,out⟩)(hp:yX (aP false sb gf outv fvs) w)(H:below.length<=15)(i:base<=w.heap.size)(Z:f.ops.length<=99000)(hf:f.ops=vs++[b])(ab:out.length<=50):
 Calls prog 293 #[.agg #[],bO sb] w (V0 fp F base sb t0 s0 (aP false sb gf outv fvs) w (cJ r .print below f tape out)):=by
 have hM:=h.mid i (.cells #[] 335);obtain⟨g,v,ac,rfl,T, -⟩:=h.top;have h0:=h.grow ((Y8 _ w).alloc dH (.cells #[] 335)) eD (fun _ h=>Y4 h)
 have K:=hM.topS H;rw[<-T] at K;have n:Kept (aP false sb gf outv (g++[v])) w (w.alloc (.cells #[] 335)):=Kept.of_below ((Y8 _ w).alloc dH _);generalize B:w.alloc (.cells #[] 335)=p at h0 K n;obtain⟨x,c,rfl⟩:=cY h.out;have s:f.last=b:=iX hf
 have X:Hid (∀W,aY p W->Calls prog 95 #[.pointer (some (aL gf (g.length*6)))] W fun e m=>∃t z,e=bE (.iface t z)/\(PV F m (.iface t z) b/\aK b<=200/\qT fp F base sb gf cap t0 tv (.slice x out.length c) s0 g v below f.pop tape out p m)):=fun W D=>by
  refine((h0.grow D.below eD (fun _ h=>Y4 h)).popR hf (by omega)).mono ?_
  rintro e m ⟨t,z,l,V,S,d,C,h4,h5,h6⟩;exact⟨t,z,V,S,d,l,C,h4,(Kept.of_below (own:=aP false sb gf (.slice x out.length c) (g++[v])) D.below).trans h5 fun _ h=>Y4 h,fun k _ E=>by rw[h6 k E,D.heap]⟩
 have j:∀{W:aH} {f':aJ},qT fp F base sb gf cap t0 tv (.slice x out.length c) s0 g v below f' tape out p W->W.cell? (aL sb 3)=some (.slice x out.length c)/\sb<W.heap.size/\base<=W.heap.size/\Kept (aP false sb gf (.slice x out.length c) (g++[v])) w W:=fun a=>by
  obtain⟨l,_,d,C,_⟩:=a;exact⟨aA d.blk rfl,aD d.blk,Z4 i (Z4 n.size C.size),n.trans C fun _ h=>Y4 h⟩
 by_cases o:out.length=50
 ·rw[o] at j X;refine(IW w p sb gf (g.length*6) c x (fun m=>Done fp F base sb t0 s0 (aP false sb gf (.slice x out.length c) (g++[v])) w ⟨below++[f.pop],tape,out⟩ m) (fun t z W=>PV F W (.iface t z) b/\aK b<=200/\qT fp F base sb gf cap t0 tv (.slice x 50 c) s0 g v below f.pop tape out p W) B K X (fun W t z a=>?_) (fun W t z a=>?_)).mono ?_
  ·obtain⟨y,q,_⟩:=j a.2.2;exact⟨y,q⟩
  ·subst B;rw[o];exact a.2.2.done (Ext.refl _ _)
  ·rintro e m ⟨rfl,d⟩;have U:cJ r .print below f tape out=(⟨below++[f.pop],tape,out⟩,8):=by simp[cJ,o]
   rw[U];exact⟨Y3 ⟨show (8:Nat)≠0 by decide,rfl⟩,d⟩
 ·refine(IV w p sb gf (g.length*6) base out.length c x (jU b) (by omega) (fun m=>Done fp F base sb t0 s0 (aP false sb gf (.slice x out.length c) (g++[v])) w ⟨below++[f.pop],tape,out++[jU b]⟩ m) (fun t z W=>PV F W (.iface t z) b/\aK b<=200/\qT fp F base sb gf cap t0 tv (.slice x out.length c) s0 g v below f.pop tape out p W) (fun W=>qT fp F base sb gf cap t0 tv (.slice x out.length c) s0 g v below f.pop tape out p W) (lS out) B K X (fun W t z a=>?_) (fun W P t z a D=>?_) (fun W a=>?_) (fun W a=>?_) (fun W a=>?_) (fun W a=>?_)).mono ?_
  ·obtain⟨y,q,_⟩:=j a.2.2;exact⟨y,q⟩
  ·obtain⟨p1,Y,a⟩:=a;have A:=a.grow D.below eD (fun _ h=>Y4 h)
   have I:∀k,F k->k<P.heap.size:=fun k E=>by obtain⟨_,_,d,_⟩:=A;exact(d.apart k E).1
   refine(VY F _ b P (p1.keep fun k _=>by rw[D.heap]) I (hp P (j A).2.2.2) (by omega)).mono ?_
   rintro e m ⟨V,hb⟩;exact⟨V,A.grow hb eD (fun _ h=>Y4 h)⟩
  ·obtain⟨y,q,L,_⟩:=j a;exact⟨y,q,L⟩
  ·obtain⟨_,_,d,_⟩:=a;exact d.out
  ·intro w5 N;obtain⟨l,_,d,_⟩:=a;have Q:=aD d.blk;have J:some sb≠(Value.slice x out.length c).ownBlock:=fun e=>(Z9.1 d.nodup).1 (by simp[<-e])
   have M:w5.heap[sb]?=_:=(N.block sb (by simp;omega) J).trans ((Z3 _ _ _ Q).trans d.blk)
   exact⟨⟨_,aA M rfl⟩,aE M,aD M⟩
  ·intro g5 aa w5 Y N O;obtain⟨l,S,d,C,h4⟩:=a;obtain⟨y,q,L⟩:=d.printed (tx:=jU b) Y N O;have u:aP false sb gf (.slice x out.length c) (g++[{ v with ov:=l }])=aP false sb gf (.slice x out.length c) (g++[v]):=by simp[aP,bW,FVal.ownX,S]
   rw[u] at q L;have G:=n.trans C fun _ h=>Y4 h
   exact⟨G.trans q fun _ h=>Y4 h,F,gf,cap,tv,_,_,Ext.refl _ _,y,fun k E=>(L k E).imp_right fun h=>Z4 G.size h⟩
  ·rintro e m ⟨rfl,d⟩;have U:cJ r .print below f tape out=(⟨below++[f.pop],tape,out++[jU b]⟩,0):=by simp[cJ,o,s]
   rw[U];exact⟨Y4 ⟨rfl,rfl⟩,d⟩
end
end Go.Proofs.YtddnpoiiimjpcaaGreatDoor
