/- Contracts of the program: an expression is worked out at a moment. -/
import Derived.Test.YtlflgmdcghfngaaGreatDoorP23
import Derived.Test.YtlflgmdcghfngaaGreatDoorP21
set_option linter.defProp false
set_option maxRecDepth 100000
set_option maxHeartbeats 4000000
namespace Go.Proofs.YtlflgmdcghfngaaGreatDoor
open Hs
open _root_.Go.Proofs.Tryz
open Go.RowKit
def Kept.belowE{own:List Nat}{w w':aG}{n:Nat}(h:Kept own w w')(d:n<=w.heap.size)(b:∀k∈own,n<=k):Below n w w':=
 ⟨h.os,h.tape,h.output,h.size,λk c=>h.block k o_ λa=>by have:=b k a;omega⟩
section
variable {sh:Bool} {fp:eK} {F:bY} {b_:Nat} {w:aG} {sb gf:Nat} {t0 s0:aQ} {m:cS}
def gB.box{own:List Nat}{W:aG}{s:Obj}(x:aQ)(h:gB sh fp F b_ sb gf t0 s0 own (w.alloc s) m W)(D:∀k,F k->k<w.heap.size)(E:∀k∈own,k<w.heap.size):gB sh fp F b_ sb gf t0 s0 own w m (W.setCell (aH w.heap.size 0) x):=by
 obtain⟨o,G,n,z,a,c,A,i,C⟩:=h;have p:w.heap.size<(w.alloc s).heap.size:=s_
 have d:Kept own w (w.alloc s):=Kept.of_below ((eh _ w).alloc cL s)
 have t:w.heap.size∉aR sh sb gf a c:=λl=>by
  rcases C _ l with j|j
  ·have:=E _ j;omega
  ·omega
 have q:∀b,G b->b≠w.heap.size:=λb y e=>by
  subst e;rcases A.new _ y with j|j
  ·have:=D _ j;omega
  ·omega
 have f:∀k,k≠w.heap.size->(W.setCell (aH w.heap.size 0) x).heap[k]?=W.heap[k]?:=λk f=>ei _ _ _ _ f
 have g:∀k∈aR sh sb gf a c,(W.setCell (aH w.heap.size 0) x).heap[k]?=W.heap[k]?:=λk l=>f k λe=>t (by rw[<-e];exact l)
 have r:∀b,G b->(W.setCell (aH w.heap.size 0) x).heap[b]?=W.heap[b]?:=λb y=>f b (q b y)
 refine⟨⟨o.os.trans d.os,o.tape.trans d.tape,o.output.trans d.output,em d.size (by simpa using o.size),λk j B=>?_⟩,G,n,z,a,c,A.le (il p),⟨by rw[g sb (by simp[aR])];exact i.blk,aY i.row λk e=>?_,i.frs.keep r dP λv H k u=>g k ?_,i.tape.keep r dP,aY i.out λk e=>g k (by simp[aR,e]),i.nodup,λk f=>by simpa using i.lt k f,λk f=>by simpa using i.apart k f⟩,λk l=>(C k l).imp_right (em (il p))⟩
 ·rw[f k o_,o.block k o_ B,d.block k j B]
 ·cases e;exact g gf (by simp[aR])
 ·have l:k∈cB sh c:=ig.2 ⟨v,H,u⟩;simp[aR,l]
end
def co_(a:aQ)(W:aG):(callFunc 86 #[a]).run prog W=.ok (.enter 86 #[a]) W:=k_
def fp0:Nat->Value:=λ_=>.pointer none
def EvB(w:aG)(r:aJ × Nat)(s gf:Nat)(W:aG):Prop:=
 s=r.2/\Below w.heap.size w W/\w.heap.size<=gf/\∃(G:bY) (cap:Nat) (tv u_:aQ) (v_:List FVal),dA true fp0 G gf W (gf+1) gf cap (I_ 0) tv u_ (I_ 0) v_ ⟨[]++[r.1],[],[]⟩/\∀k∈aR true (gf+1) gf u_ v_,gf<=k
def ZQ{r:aJ × Nat}{b:List aI}{o:Option Addr}{q t:Nat}{c:List aM}{G:bY}{p:Option Addr}(w W:aG)(C:Below w.heap.size w W)(S:C9 fp0 G W (.pointer p) ⟨[],b⟩)(A:∀k,G k->k<W.heap.size)(Z:PVs G W (.slice o q t) c)(H:∀a∈c,aO a<=200)(X:pQ ⟨⟨[],b⟩,0,0,[],c,[]⟩)(U:fT b.length ⟨⟨[],b⟩,0,0,[],c,[]⟩=r):
 Calls prog 85 #[.func (.func 86) #[aZ (W.heap.size+1)] #[]] ((W.alloc (.cells #[.pointer p,I_ 0,I_ 0,.pointer none,.slice o q t,bG] 118)).alloc (.cells #[I_ 0,.slice (some (aH W.heap.size 0)) 1 1,bG,bG,I_ 0] 53)) λe B=>∃s:Nat,e=aX (I_ s)/\EvB w r s W.heap.size B:=by
 generalize i:((W.alloc (.cells #[.pointer p,I_ 0,I_ 0,.pointer none,.slice o q t,bG] 118)).alloc (.cells #[I_ 0,.slice (some (aH W.heap.size 0)) 1 1,bG,bG,I_ 0] 53))=f;have m:Below W.heap.size W f:=by rw[<-i];exact((eh _ _).alloc cL _).alloc s_ _
 have V:f.heap.size=W.heap.size+2:=by rw[<-i];simp
 have P:f.heap[W.heap.size]?=some (.cells #[.pointer p,I_ 0,I_ 0,.pointer none,.slice o q t,bG] 118 (0,0)):=by rw[<-i];exact eB _ _ s_ _ (aN _ _ rfl _)
 have F:f.heap[W.heap.size+1]?=some (.cells #[I_ 0,.slice (some (aH W.heap.size 0)) 1 1,bG,bG,I_ 0] 53 (0,0)):=by rw[<-i];exact aN _ _ s_ _
 have d:aR true (W.heap.size+1) W.heap.size (bG) [⟨.pointer p,I_ 0,I_ 0,.pointer none,.slice o q t,bG⟩]=[W.heap.size+1,W.heap.size]:=rfl;have x:lA G W.heap.size f (bG) []:=⟨⟨[],World.ownsRow_nil _ _ _ _,gP.nil _ _⟩,λa ha=>by simp at ha⟩
 have z:dA true fp0 G W.heap.size f (W.heap.size+1) W.heap.size 1 (I_ 0) (bG) (bG) (I_ 0) [⟨.pointer p,I_ 0,I_ 0,.pointer none,.slice o q t,bG⟩] ⟨[]++[⟨⟨[],b⟩,0,0,[],c,[]⟩],[],[]⟩:=by
  refine⟨F,⟨rfl,d6 ⟨W.heap.size,1,_,rfl,cL,P,cL,by unfold maxLen;omega,rfl,rfl⟩⟩,⟨⟨S.keep (λk g=>m.block k (A k g)) dP,rfl,rfl,rfl,⟨Z.keep λk g=>m.block k (A k g),H⟩,x⟩,trivial⟩,d7 ⟨rfl,_,_,rfl⟩,World.ownsRow_nil _ _ _ _,?_,?_,λk g=>?_⟩
  ·rw[d];simp
  ·rw[d];simp;omega
  ·rw[d];have:=A k g;simp;omega
 have J:Below f.heap.size f (f.alloc (.cells #[I_ 0] 33)):=(eh _ _).alloc cL _;have O:=z.grow J dP (λ_ h=>d7 h)
 have K:=J9 O t_ X cL U
 rw[d] at K;have j:(f.alloc (.cells #[I_ 0] 33)).heap[f.heap.size]?=some (.cells #[I_ 0] 33 (0,0)):=aN _ _ rfl _;refine(EM 86 (aH (W.heap.size+1) 0) f (λk W'=>k=r.2/\gB true fp0 G W.heap.size (W.heap.size+1) W.heap.size (I_ 0) (I_ 0) [W.heap.size+1,W.heap.size] (f.alloc (.cells #[I_ 0] 33)) ⟨[]++[r.1],[],[]⟩ W') co_ (K.mono λe B n=>?_)).mono ?_
 ·obtain⟨he,n⟩:=n;refine⟨r.2,he,⟨rfl,n⟩,?_⟩;rw[n.1.block _ s_ t_];exact j
 ·rintro e B ⟨k,w1,rfl,⟨E,n⟩,rfl⟩;obtain⟨Q,N,v,I,l,u,d2,M,Y⟩:=n.box (I_ k) (λk g=>by have:=A k g;omega) (λk g=>by simp at g;omega)
  have D:Below W.heap.size W _:=m.trans ((Q.belowE (il o_) (λk g=>by simp at g;omega)))
  exact⟨k,rfl,E,C.trans (D.mono C.size),C.size,N,v,I,l,u,M,λy T=>by
   rcases Y y T with L|L
   ·simp at L;omega
   ·omega⟩
def cq_(p q:Option Addr)(W:aG):(callFunc 49 #[.pointer p,.pointer q]).run prog W=.ok (.enter 49 #[.pointer p,.pointer q]) W:=k_
def cr_(p q:Option Addr)(W:aG):(callFunc 51 #[.pointer p,.pointer q]).run prog W=.ok (.enter 51 #[.pointer p,.pointer q]) W:=k_
def qW(w:aG)(a b:Obj):Below w.heap.size w ((w.alloc a).alloc b):=((eh _ w).alloc cL _).alloc s_ _
def qJ(g:ByteArray)(w:aG)(M:fX w)(Q:g.size<=maxLen):
 Calls prog 25 #[.string g] w λe s=>Below w.heap.size w s/\((∃f,iQ g.data.toList=.error f/\f.1≠0/\e=aX (.tuple #[.nilIface,I_ f.1,I_ f.2]))\/
  ∃a t z,iQ g.data.toList=.ok a/\e=aX (.tuple #[.iface t z,I_ 0,I_ 0])/\PN (Btw w.heap.size s.heap.size) s (.iface t z) a):=by
 refine(JK w g (λv W=>Below w.heap.size w W/\((∃f,iQ g.data.toList=.error f/\f.1≠0/\v=.tuple #[.nilIface,I_ f.1,I_ f.2])\/∃a t z,iQ g.data.toList=.ok a/\v=.tuple #[.iface t z,I_ 0,I_ 0]/\PN (Btw w.heap.size W.heap.size) W (.iface t z) a)) ?_).mono ?_
 ·generalize l:(w.alloc (.cells #[.string g] 9)).alloc (.cells #[.nilIface] 67)=d;have o:Below w.heap.size w d:=by rw[<-l];exact qW _ _ _
  have G:d.heap[w.heap.size]?=some (.cells #[.string g] 9 (0,0)):=by rw[<-l];exact iF _ _ _
  have u:d.heap[w.heap.size+1]?=some (.cells #[.nilIface] 67 (0,0)):=by rw[<-l];exact fR _ _ _
  have J:d.heap.size=w.heap.size+2:=by rw[<-l];simp
  clear l
  refine(sZ 49 (some (aH w.heap.size 0)) (some (aH (w.heap.size+1) 0)) d
   (λW=>∃r t z a,iQ g.data.toList=.ok a/\Below (d.heap.size+2) ((d.alloc (.cells #[I_ 0] 39)).alloc (.cells #[I_ 0] 3)) r/\PN (Btw (d.heap.size+2) r.heap.size) r (.iface t z) a/\W=r.setCell (aH (w.heap.size+1) 0) (.iface t z))
   (λk n=>iQ g.data.toList=.error (k,n)) (λW=>cq_ _ _ W) (λW y=>?_)).mono ?_
  ·have x:Below d.heap.size d W:=by rw[y];exact qW _ _ _
   have B:W.heap.size=d.heap.size+2:=by rw[y];simp
   have N:W.heap[d.heap.size]?=some (.cells #[I_ 0] 39 (0,0)):=by rw[y];exact iF _ _ _
   have P:W.heap[d.heap.size+1]?=some (.cells #[I_ 0] 3 (0,0)):=by rw[y];exact fR _ _ _
   refine(bv_ g w.heap.size (w.heap.size+1) W ((M.below o).below x) Q (aA (by rw[x.block _ o_];exact G) rfl) (by rw[x.block _ o_];exact u)).mono ?_
   rintro e s (⟨rfl,r,v,L,m,j,p,rfl⟩|⟨f,m,j,rfl,p⟩)
   ·obtain⟨t,T,rfl⟩:=p.form;refine d7 ⟨rfl,?_,?_,r,t,_,L,m,by rw[<-y,<-B];exact j,by rw[<-B];exact p,rfl⟩
    ·rw[ei _ _ _ _ (show d.heap.size≠w.heap.size+1 by omega),j.block _ o_];exact N
    ·rw[ei _ _ _ _ (show d.heap.size+1≠w.heap.size+1 by omega),j.block _ o_];exact P
   ·exact d6 ⟨f.1,f.2,j,rfl,p,m⟩
  ·rintro e s (⟨rfl,r,⟨q,t,z,a,S,m,j,rfl⟩,rfl⟩|⟨k,n,K,rfl,A,h⟩)
   ·have D:=m.size;simp at D
    have F:q.heap[w.heap.size+1]?=some (.cells #[.nilIface] 67 (0,0)):=by
     rw[m.block _ o_]
     exact eB _ _ t_ _ (eB _ _ o_ _ u)
    have C:∀k,k≠w.heap.size+1->k≠d.heap.size->k≠d.heap.size+1->(((q.setCell (aH (w.heap.size+1) 0) (.iface t z)).setCell (aH d.heap.size 0) (I_ 0)).setCell (aH (d.heap.size+1) 0) (I_ 0)).heap[k]?=q.heap[k]?:=λk a b c=>by
     rw[ei _ _ _ _ c,ei _ _ _ _ b,ei _ _ _ _ a]
    have i:(((q.setCell (aH (w.heap.size+1) 0) (.iface t z)).setCell (aH d.heap.size 0) (I_ 0)).setCell (aH (d.heap.size+1) 0) (I_ 0)).heap[w.heap.size+1]?=some (.cells #[.iface t z] 67 (0,0)):=by
     rw[ei _ _ _ _ (show w.heap.size+1≠d.heap.size+1 by omega),ei _ _ _ _ (show w.heap.size+1≠d.heap.size by omega)]
     exact aK F
    have O:(((q.setCell (aH (w.heap.size+1) 0) (.iface t z)).setCell (aH d.heap.size 0) (I_ 0)).setCell (aH (d.heap.size+1) 0) (I_ 0)).heap.size=q.heap.size:=s_
    have E:Below w.heap.size w (((q.setCell (aH (w.heap.size+1) 0) (.iface t z)).setCell (aH d.heap.size 0) (I_ 0)).setCell (aH (d.heap.size+1) 0) (I_ 0)):=
     ((((o.trans ((qW d _ _).mono o_)).trans (m.mono o_)).setCell (by show _<=w.heap.size+1;omega) _).setCell (by show _<=d.heap.size;omega) _).setCell (by show _<=d.heap.size+1;omega) _
    generalize ((q.setCell (aH (w.heap.size+1) 0) (.iface t z)).setCell (aH d.heap.size 0) (I_ 0)).setCell (aH (d.heap.size+1) 0) (I_ 0)=U at*;refine⟨0,0,.iface t z,rfl,d6 ⟨t,z,rfl⟩,aA i rfl,aD i,aC i,E.setCell (by show _<=w.heap.size+1;omega) _,d6 ⟨a,t,z,S,rfl,?_⟩⟩
    refine PN.grow j (λk I H=>?_) o_ t_
    rw[ei _ _ _ _ (show k≠w.heap.size+1 by omega),C k o_ o_ o_]
   ·have i:s.heap[w.heap.size+1]?=some (.cells #[.nilIface] 67 (0,0)):=by rw[A.block _ o_];exact u
    exact⟨k,n,.nilIface,rfl,d7 rfl,aA i rfl,aD i,aC i,(o.trans (A.mono o.size)).setCell (by show _<=w.heap.size+1;omega) _,d7 ⟨(k,n),h,K,rfl⟩⟩
 ·rintro e s ⟨v,rfl,m,⟨f,j,p,rfl⟩|⟨a,t,z,j,rfl,p⟩⟩
  ·exact⟨m,d7 ⟨f,j,p,rfl⟩⟩
  ·exact⟨m,d6 ⟨a,t,z,j,rfl,p⟩⟩
def RC(l:cN):List Value:=l.map λx=>.string (bs x)
def YF(w g:World)(F:Nat->Prop)(s:SV)(p0:Option Addr)(e_:List (List UInt8))
 (A:w.alloc (.cells s.cells 53)=g) (hF:∀b,F b->b<w.heap.size) (hs:eF F w (.pointer p0) e_) (hl:e_.length<=90001)
 (T:Hid (Calls prog 72 #[s.val] g λe K=>e=.returned (.pointer p0)/\Below g.heap.size g K)):
 Calls prog 53 #[s.val] w λe K=>∃y d,e=.returned (.slice y e_.length d)/\K.ownsRow g.heap.size 9 1 (.slice y e_.length d) e_.length (RC e_)/\Below g.heap.size g K:=by
 obtain⟨i0,hi,P,Y,V⟩:=info_parts xI;unfold SV.cells at A;unfold SV.val at T;unfold SV.val;have c:g.heap[w.heap.size]?=some (.cells #[.int .i64 s.t,.slice s.x1 s.n1 s.c1,.slice s.x2 s.n2 s.c2,.slice s.x3 s.n3 s.c3,.int .i64 s.q] 53 (0,0)):=by rw[<-A];exact aN _ _ rfl _
 have D:g.heap.size=w.heap.size+1:=by rw[<-A];simp
 have B:Below w.heap.size w g:=by rw[<-A];exact(eh _ w).alloc (en _) _
 have HW:=aB A;have Q:=aB hs;have HF:=aB hF;have U:=aB B;have c0:=aA (i:=0) c rfl;have X:=aA (i:=1) c rfl;have S:=aA (i:=2) c rfl;have ab:=aA (i:=3) c rfl;have O:=aA (i:=4) c rfl;clear A hs hF B c;go_enter func53,ntmps53;go_wp2_with fail;rw[HW.out];go_wp2_with fail;refine T.out.mono ?_;rintro e w1 ⟨rfl,J⟩;have W:=aB J;clear J T c0 X S ab O;go_wp2_with fail;go_loopg [3,4] e_.length (λgk v p wr=>∃f r,e_=f++r/\r.length=gk/\eF F w p r/\(∃y d,v=.slice y f.length d)/\wr.ownsRow g.heap.size 9 1 v f.length (RC f)/\Below g.heap.size g wr)
 case atStart=>exact⟨[],e_,rfl,rfl,Q.out,⟨none,0,rfl⟩,World.ownsRow_nil _ _ _ _,W.out⟩
 case round=>
  obtain⟨f,r,L,C,t,⟨y,d,rfl⟩,j,a⟩:=hrel;cases r with
  |nil=>
   rw[jj] at L;subst L;have Z:_=Value.pointer none:=t;subst Z;have HX:=aB (ff j a);clear j a t;go_wp2_with fail;go_ret;exact⟨_,_,rfl,HX.out⟩
  |cons x l=>
   obtain⟨b,o,rfl,N,I,z⟩:=t;obtain⟨po,rfl⟩:=z.form;obtain⟨m,rfl⟩:∃m,gk=m+1:=⟨gk-1,by simp at C;omega⟩
   have H:=HF.out b N;have h:wr.heap[b]?=some (.cells #[.string (bs x),.int .i64 l.length,.pointer po] 133 (0,0)):=by rw[a.block b o_,U.out.block b H];exact I
   have k0:=aA (i:=0) h rfl;have k2:=aA (i:=2) h rfl;have af:=aC h;have ad:=a.size;have ae:f.length<=90001:=by have:=congrArg List.length L;simp at this;omega
   have G:=aB j;have HB:=aB a;have K2:=aB k2;clear j a I h k2;go_wp2_with (at_builtin;refine wpList_append_lies _ r_ _ _ 32 r_ g.heap.size 9 i0 _ 1 16 underlying32 hi P Y V rfl d_ (.slice y f.length d) f.length _ r_ (G.out.alloc _) ⟨wr.heap.size,0,none⟩ 1 1 [.string (bs x)] r_ r_ (zC wr _) (FR _) d_ (by unfold maxLen;omega) o_ t_ (wr.heap.size+1) s_ ?_)
   intro g5 E w5 q n ac ag;have u:Below g.heap.size g w5:=(HB.out.alloc o_ _).grown n t_ λk hk=>(G.out.lt k hk).1
   have k5:w5.cell? ⟨b,2,none⟩=some (.pointer po):=(World.cell?_of_block ((u.block b o_).trans (HB.out.block b o_).symm)).trans K2.out
   have H5:=aB u;have M:=aB q;have aa:=aB z;clear u q n z k0;go_wp2_with fail;go_roundg m
   case measure=>omega
   case rel=>exact⟨f++[x],l,by rw[L];simp,by simp at C;omega,aa.out,⟨some ⟨g5,0,none⟩,E,s_⟩,by have:=M.out;rw[D];simpa [RC] using this,H5.out⟩
def fF(s:aW):cN:=match s.m.f_.getLast? with
 |none=>[]
 |some f=>f.e_
section
variable {fp:eK} {F:bY} {w:aG} {s1:SV} {s:aW}
def RR(h:jC fp F w s1.val s)(g:∀b,F b->b<w.heap.size)(G:s.m.f_.length<=16):∃m,eF F w (.pointer m) (fF s)/\∀W,Below w.heap.size w W->Calls prog 72 #[s1.val] W λe o=>e=aX (.pointer m)/\Below W.heap.size W o:=by
 by_cases d:s.m.f_=[]
 ·refine⟨none,by unfold fF;rw[d];rfl,λW c=>?_⟩
  have f:=h.none d;obtain⟨t,D,B,r,J,E,u,y,z,A,q⟩:=s1;simp only at f;subst f;exact LM W t q D B r y E z u A
 ·obtain⟨n,I⟩:∃n,s.m.f_.length=n+1:=⟨s.m.f_.length-1,by have:=gx.2 d;omega⟩
  have a:s.m.f_.getLast?=some (s.m.f_[n]'(by omega)):=by
   rw[ko,show s.m.f_.length-1=n by omega];exact fh _
  obtain⟨j,v,C,H,l,i,x⟩:=h.frame n o_
  obtain⟨p,k⟩:=eF.form i.sp;refine⟨p,by unfold fF;rw[a,<-k];exact i.sp,λW c=>LL W s1 j n p C o_ o_ ?_ (ej (g _ l) c.size)⟩
  rw[World.cell?_of_block (c.block j (g _ l))];exact x 3 _ o_ (by rw[<-k];rfl)
def P8(h:jC fp F w s1.val s)(j:∀b,F b->b<w.heap.size)(m:s.m.f_.length<=16)(t:(fF s).length<=90001):
 Calls prog 53 #[s1.val] w λe f=>∃y d,e=aX (.slice y (fF s).length d)/\f.ownsRow w.heap.size 9 1 (.slice y (fF s).length d) (fF s).length (RC (fF s))/\Below w.heap.size w f:=by
 obtain⟨v,r,o⟩:=RR h j m;have a:Below w.heap.size w (w.alloc (.cells s1.cells 53)):=(eh _ w).alloc cL _;refine(YF w _ F s1 v (fF s) rfl j r t (o _ a)).mono ?_;rintro e f ⟨y,d,rfl,l,q⟩;refine⟨y,d,rfl,⟨l.1,?_⟩,a.trans (q.mono a.size)⟩;rcases l.2 with k|⟨g,c,i,n,u,p⟩
 ·exact d7 k
 ·exact d6 ⟨g,c,i,n,em a.size u,p⟩
end
end Go.Proofs.YtlflgmdcghfngaaGreatDoor
