/- All states of a run: plain facts that its being in memory needs. -/
import Derived.Test.YtblbkfdhjfppkaaGreatDoorP01
import Derived.Test.YtblbkfdhjfppkaaGreatDoorP22
set_option linter.defProp false
set_option maxRecDepth 100000
set_option maxHeartbeats 4000000
namespace Go.Proofs.YtblbkfdhjfppkaaGreatDoor
open Hs
open _root_.Go.Proofs.Tryz(prog)
open Go.RowKit
def tA:∀(l:List aJ) (a v:aJ),(cI l a v).2<=9
 |[],_,_=>by simp[cI]
 |i::l,a,v=>by
  unfold cI;have:=tA l (a.l.getD i.n.toNat bN) v;repeat' split
  all_goals first|(simp;done)|exact this
def yC{r:aJ × Nat}(h:r.2<=9):(gY r).2<=9:=by
 unfold gY;split
 ·split
  ·simp
  ·exact h
 ·exact h
def XT(op:List UInt8)(a b:aJ):(eL op a b).2<=9:=by
 unfold eL jA iZ;repeat' split
 all_goals first|(simp;done)|(simp only[];split<;>simp)
def ZD(op:List UInt8)(a:aJ):(fF op a).2<=9:=by
 unfold fF;repeat' split
 all_goals simp
def PI(a b:aJ):(dB a b).2<=9:=by
 unfold dB;repeat' split
 all_goals simp
def KY(a:aJ):(dW a).2<=9:=by
 unfold dW;repeat' split
 all_goals simp
def LF(i:aH)(f:aI):(aL i f).2<=9:=by
 cases i<;>simp only[aL]
 case assign k n=>
  have:=yC (tA (f.pop.many n) (f.vars[k]?.getD bN) f.last);split
  ·simp
  ·exact this
 case unary op=>
  have:=ZD (op++[120]) f.last;split
  ·simp
  ·exact this
 case binary op=>
  have:=XT op f.pop.last f.last;split
  ·simp
  ·exact this
 case index=>
  have:=PI f.pop.last f.last;split
  ·simp
  ·exact this
 case list n=>
  have:=yC (r:=(aW (f.many n),0)) (by simp)
  split
  ·simp
  ·exact this
 case length=>
  have:=KY f.last;split
  ·simp
  ·exact this
 all_goals (repeat' split)<;>simp
def O7(b:List dY)(i:aH)(a:List aI)(f:aI)(t:List Int)(o:List (List UInt8)):(Hs.doI b i a f t o).2<=9:=by
 cases i<;>simp only[Hs.doI]<;>first|exact LF _ _|skip
 case read=>cases t<;>simp
 case call=>split<;>simp
 case give=>simp
 case print=>split<;>simp
structure Rest(n:Nat)(m:cF):Prop where
 utf:fM m
 out:m.out.length<=50
 tape:m.tape.length<=n
def pU{a:List dY}(o:jN a){n:Nat}:∀(k:Nat) (m:cF) (r:cF × Nat),Rest n m->cJ a k m=some r->Rest n r.1/\r.2<=9
 |0,_,_,_,h=>by cases h
 |k+1,m,r,c,h=>by
  rw[cJ] at h;cases j:m.frames.getLast? with
  |none=>
   rw[j] at h;simp only[Option.some.injEq] at h;subst h;exact⟨c,by simp⟩
  |some f=>
   rw[j] at h;simp only at h;cases e:f.fetch with
   |none=>rw[e] at h;cases h
   |some s=>
    obtain⟨i,g⟩:=s;rw[e] at h;simp only at h
    have l:m.frames=m.frames.dropLast++[f]:=by
     obtain⟨t,q⟩:=List.getLast?_eq_some_iff.1 j;rw[q];simp
    have b:fM ⟨m.frames.dropLast++[f],m.tape,m.out⟩:=by
     have:=c.utf;unfold fM at this ⊢
     rw[<-l];exact this
    have d:Rest n (Hs.doI a i m.frames.dropLast g m.tape m.out).1:=⟨DT o b e,XC c.out,aF_ QO c.tape⟩;have p:=O7 a i m.frames.dropLast g m.tape m.out;split at h
    ·simp only[Option.some.injEq] at h;subst h;exact⟨d,p⟩
    ·split at h
     ·simp only[Option.some.injEq] at h;subst h;exact⟨d,p⟩
     ·exact pU o k _ _ d h
def GX{a:List dY}(e:jN a){n:Nat}{m0:cF}(f:Rest n m0):∀(t:Nat) (s:bI),dQ a m0 t=some s->Rest n s.m/\s.stop<=9
 |0,s,h=>by
  rw[dQ] at h;cases b:cJ a gD m0 with
  |none=>rw[b] at h;cases h
  |some r=>
   rw[b] at h;simp only[bE_,Option.some.injEq] at h;subst h;obtain⟨d,i⟩:=pU e _ _ _ f b;exact⟨d,by simp only[bT];split<;>omega⟩
 |t+1,s,h=>by
  rw[dQ] at h;cases c:dQ a m0 t with
  |none=>rw[c] at h;cases h
  |some g=>
   rw[c] at h;simp only at h;split at h
   ·cases b:cJ a gD g.m with
    |none=>rw[b] at h;cases h
    |some r=>
     rw[b] at h;simp only[bE_,Option.some.injEq] at h;subst h;obtain⟨d,i⟩:=pU e _ _ _ (GX e f t g c).1 b;exact⟨d,by simp only[bT];split<;>omega⟩
   ·cases h
def D6(s:ByteArray)(w:World)(f:s.size<=281474976710656):Calls prog 69 #[.string s] w fun e b=>e=.returned (.string s)/\Below w.heap.size w b:=by
 have c:=aB (Tryz.stringslite_Clone s w f);go_enter Tryz.func69,Tryz.ntmps69;go_wp2_with fail;refine c.out.mono ?_;rintro e g ⟨rfl,a⟩;have d:=aB a;clear a;go_wp2_with fail;go_ret;exact⟨rfl,d.out⟩
def SN(a:ByteArray)(b p:Nat)(w:World)(D:iT w)(I:a.size<=281474976710656)(L:w.cell? ⟨b,0,none⟩=some (.string a))(y:w.heap[p]?=some (.cells #[.slice none 0 0] 86 (0,0))):
 Calls prog 68 #[.pointer (some ⟨b,0,none⟩),.pointer (some ⟨p,0,none⟩)] w fun e z=>
  (cG a.data.toList=(0,0)/\e=.returned (.tuple #[])/\∃o v r,Below w.heap.size w o/\cW a.data.toList=.ok r/\FSl (Btw w.heap.size o.heap.size) o v r/\z=o.setCell ⟨p,0,none⟩ v)\/
  ((cG a.data.toList).1≠0/\e=cX (cG a.data.toList).1 (cG a.data.toList).2/\Below w.heap.size w z):=by
 have B:=aB (D6 a w I);have A:Hid (∀W,Below w.heap.size w W->Calls prog 44 #[.string a] W (wO a.data.toList W)):=fun W J=>IA a W (D.below J) (by unfold maxLen;omega)
 have s:=aB y;have F:=aD y;clear D y;go_enter Tryz.func68,Tryz.ntmps68;go_wp2_with fail;refine B.out.mono ?_;rintro e o ⟨rfl,l⟩;have m:=aB (A.out o l);have d:=aB l;clear A B l;go_wp2_with fail;refine m.out.mono ?_;rintro e t ⟨f,⟨q,v,r,rfl,E,u⟩|⟨q,rfl⟩⟩
 ·have n:=d.out.trans (f.mono d.out.size);have h:t.heap[p]?=some (.cells #[.slice none 0 0] 86 (0,0)):=by rw[n.block _ F];exact s.out
  have P:=aA h (i:=0) rfl;have M:=aE h (i:=0);have O:=aD h
  obtain⟨x,c,rfl⟩:∃x c,v=.slice x r.length c:=by
   rcases u with ⟨rfl,rfl⟩|⟨g,K,H,N,rfl,_⟩
   ·exact⟨none,0,rfl⟩
   ·exact⟨_,_,rfl⟩
  have j:=aB (aW_ q (aW_ E (aW_ n (u.grow (G:=Btw w.heap.size t.heap.size) (fun _ _=>rfl) (fun k C=>⟨aF_ d.out.size C.1,C.2⟩)))))
  clear q E u f n h m d s;go_wp2_with fail;go_end0;exact av_ ⟨j.out.1,rfl,t,_,r,j.out.2.2.1,j.out.2.1,j.out.2.2.2,rfl⟩
 ·have j:=aB (aW_ q (d.out.trans (f.mono d.out.size)));clear q f m d s;go_wp2_with fail;exact⟨rfl,as_ ⟨j.out.1,rfl,j.out.2⟩⟩
def M9(w:World):(Instr.makeMap 112 none).run prog w=.ok (.map (some w.heap.size)) (w.alloc (.map #[] 0)):=rfl
def PJ(w:World)(p:ByteArray)(x:Option Addr)(n c:Nat)(P:Value->World->Prop)(A:World->Prop)(S:Nat->Value->Value->Value->Nat->World->Prop)
 (s:Hid (Calls prog 42 #[.func (.func 68) #[] #[.pointer (some ⟨w.heap.size,0,none⟩),.pointer (some ⟨w.heap.size+1,0,none⟩)]] ((w.alloc (.cells #[.string p] 9)).alloc (.cells #[.slice none 0 0] 86)) fun e b=>(e=.returned (.tuple #[.int .i64 0,.int .i64 0])/\A b)\/∃k l:Nat,k≠0/\e=.returned (.tuple #[.int .i64 k,.int .i64 l])/\P (.tuple #[.pointer none,.int .i64 k,.int .i64 l]) b))
 (C:Hid (∀W,A W->∃u B y,W.cell? ⟨w.heap.size+1,0,none⟩=some (.slice u B y)/\w.heap.size+1<W.heap.size/\Calls prog 70 #[.slice u B y,.slice x n c] W fun e b=>∃(a:Nat) (i h f:Option Addr) (j d g c1 m o q:Nat),e=.returned (.agg #[.int .i64 a,.slice i j c1,.slice h d m,.slice f g o,.int .i64 q])/\S a (.slice i j c1) (.slice h d m) (.slice f g o) q b))
 (t:Hid (∀(a:Nat) (i h f:Option Addr) (j d g c1 m o q:Nat) W,S a (.slice i j c1) (.slice h d m) (.slice f g o) q W->Calls prog 71 #[.pointer (some ⟨W.heap.size+1,0,none⟩),.agg #[.int .i64 a,.slice i j c1,.slice h d m,.slice f g o,.int .i64 q]] ((W.alloc (.map #[] 0)).alloc (.cells #[.int .i64 a,.slice i j c1,.slice h d m,.slice f g o,.int .i64 q,.slice none 0 0,.map (some W.heap.size)] 114)) fun e b=>e=.returned (.tuple #[])/\P (.tuple #[.pointer (some ⟨W.heap.size+1,0,none⟩),.int .i64 0,.int .i64 0]) b)):
 Calls prog 32 #[.string p,.slice x n c] w fun e b=>∃v,e=.returned v/\P v b:=by
 have I:=KW;have M:=M9;go_enter Tryz.func32,Tryz.ntmps32;go_wp2_with fail;refine s.out.mono ?_;rintro e U (⟨rfl,r⟩|⟨k,l,Q,rfl,r⟩)
 ·obtain⟨u,B,y,K,T,E⟩:=C.out _ r;have F:=aB E;clear r E s C;go_wp2_with fail;refine F.out.mono ?_;rintro e O ⟨a,i,h,f,j,d,g,c1,m,o,q,rfl,D⟩;have z:=aB (t.out _ _ _ _ _ _ _ _ _ _ _ _ D);clear D t F K;go_wp2_with fail;refine z.out.mono ?_;rintro e N ⟨rfl,G⟩;have J:=aB G;clear G;go_wp2_with fail;go_ret3
  exact⟨_,rfl,J.out⟩
 ·have H:=aB r;have L:¬(k:Int)=0:=by omega
  clear r s C t;go_wp2_with fail;go_ret3
  exact⟨_,rfl,H.out⟩
structure Good(ks:List aC):Prop where
 fl:ks.length<=90000
 ok:∀f∈ks,iC ks 2001 f
 lit:∀f∈ks,∀k∈f.kids,mJ k
 kl:∀f∈ks,f.kids.length<=90000
 main:fG ks (cS ks [109,97,105,110])=some 0
 utf:jN (cP ks 2001)
noncomputable def cE(ks:List aC)(tape:List Int):Nat->Option bI:=dQ (cP ks 2001) (eT ks 2001 tape)
def Good.rest0{ks:List aC}(h:Good ks)(a:List Int):Rest a.length (eT ks 2001 a):=by
 refine⟨?_,by simp[eT],by simp[eT]⟩
 intro f c;simp only[eT,aD_] at c;subst c;refine⟨?_,fun v b=>by simp at b,fun v b=>by simp at b⟩
 show vM ((cP ks 2001)[cS ks [109,97,105,110]]?.getD ⟨[],[]⟩)
 cases d:(cP ks 2001)[cS ks [109,97,105,110]]? with
 |none=>exact⟨fun v b=>by simp at b,fun v b=>by simp at b⟩
 |some f=>exact h.utf f (bb_ d)
def Good.first{ks:List aC}(h:Good ks)(a:List Int):∃r,cJ (cP ks 2001) gD (eT ks 2001 a)=some r/\r.2<=9/\cE ks a 0=some ⟨0,r.1,bT 0 r.2⟩:=by
 obtain⟨r,b,_⟩:=oN (iF h.ok) (mU h.ok h.main a);exact⟨r,b,(pU h.utf _ _ _ (h.rest0 a) b).2,by simp[cE,dQ,b]⟩
def i7(a b:Value)(W:World):(callFunc 68 #[a,b]).run prog W=.ok (.enter 68 #[a,b]) W:=by kernel_rfl
def Q0(src:List UInt8)(tape:List Int)(w:World)(v:Value)(w':World):Prop:=
 Below w.heap.size w w'/\
 ((cG src=(0,0)/\∃ks fp G sb mb,cW src=.ok ks/\v=.tuple #[.pointer (some ⟨sb,0,none⟩),.int .i64 0,.int .i64 0]/\w.heap.size<=sb/\w.heap.size<=mb/\lA fp G w' (cP ks 2001)/\∃s,jV fp G w' sb mb (.map #[] 0) (cE ks tape) s 1/\s.time=0)\/
  ((cG src).1≠0/\v=.tuple #[.pointer none,.int .i64 (cG src).1,.int .i64 (cG src).2]))
def DA(j:ByteArray)(tv:Value)(s:List Int)(w:World)(hT:iT w)(hp:kC w)(hs:j.size<=281474976710656)(ht:XH w tv s)(ag:s.length<=17592186044416)
 (hg:∀t,cW j.data.toList=.ok t->cG j.data.toList=(0,0)->Good t):
 Calls prog 32 #[.string j,tv] w fun e E=>∃v,e=.returned v/\Q0 j.data.toList s w v E:=by
 obtain⟨tx,tn,tc,rfl⟩:∃x n c,tv=.slice x n c:=by
  rcases ht with ⟨_,rfl⟩|⟨g,o,c,rfl,_⟩
  ·exact⟨_,_,_,rfl⟩
  ·exact⟨_,_,_,rfl⟩
 obtain⟨m,H⟩:∃m,m=(w.alloc (.cells #[.string j] 9)).alloc (.cells #[.slice none 0 0] 86):=⟨_,rfl⟩;have Z:Below w.heap.size w m:=by rw[H];exact((ay_ _ _).alloc (au_ _) _).alloc (by simp) _
 have aq:m.heap.size=w.heap.size+2:=by rw[H];simp
 have af:m.heap[w.heap.size]?=some (.cells #[.string j] 9 (0,0)):=by rw[H];exact jM _ _ _
 have ae:m.heap[w.heap.size+1]?=some (.cells #[.slice none 0 0] 86 (0,0)):=by rw[H];exact gO _ _ _
 generalize Q:cG j.data.toList=rd at*
 refine(PJ w j tx tn tc (fun v E=>Q0 j.data.toList s w v E)
  (fun W=>rd=(0,0)/\∃lo A M B t,cW j.data.toList=.ok t/\Below w.heap.size w W/\W.cell? ⟨w.heap.size+1,0,none⟩=some (.slice A M B)/\w.heap.size+1<W.heap.size/\FSl (Btw lo W.heap.size) W (.slice A M B) t)
  (fun a v1 v2 v3 q W=>rd=(0,0)/\∃(t:List aC) (X:Nat->Value) (G:Nat->Prop) (r:cF × Nat),cW j.data.toList=.ok t/\Below w.heap.size w W/\(∀b,G b->b<W.heap.size)/\lA X G W (cP t 2001)/\a=0/\q=bT 0 r.2/\kR X G W (.agg #[.int .i64 ((0:Nat):Int),v1,v2,v3,.int .i64 (bT 0 r.2)]) ⟨0,r.1,bT 0 r.2⟩/\cE t s 0=some ⟨0,r.1,bT 0 r.2⟩)
  ?_ (fun W hA=>?_) (fun a x1 x2 x3 n1 n2 n3 c1 c2 c3 q W hS=>?_))
 ·show Calls _ _ _ _ _
  rw[<-H]
  refine(PW 68 (some ⟨w.heap.size,0,none⟩) (some ⟨w.heap.size+1,0,none⟩) m
   (fun W=>rd=(0,0)/\∃A M B t Y,cW j.data.toList=.ok t/\Below (m.heap.size+2) ((m.alloc (.cells #[.int .i64 0] 22)).alloc (.cells #[.int .i64 0] 3)) Y/\FSl (Btw (m.heap.size+2) Y.heap.size) Y (.slice A M B) t/\W=Y.setCell ⟨w.heap.size+1,0,none⟩ (.slice A M B))
   (fun k l=>rd=(k,l)) (fun W=>i7 _ _ W) (fun W hW=>?_)).mono ?_
  ·have y:Below m.heap.size m W:=by rw[hW];exact((ay_ _ _).alloc (au_ _) _).alloc (by simp) _
   have V:W.heap.size=m.heap.size+2:=by rw[hW];simp
   have hK:W.heap[m.heap.size]?=some (.cells #[.int .i64 0] 22 (0,0)):=by rw[hW];exact jM _ _ _
   have hI:W.heap[m.heap.size+1]?=some (.cells #[.int .i64 0] 3 (0,0)):=by rw[hW];exact gO _ _ _
   refine(SN j w.heap.size (w.heap.size+1) W ((hT.below Z).below y) hs (aA (by rw[y.block _ (by omega)];exact af) rfl) (by rw[y.block _ (by omega)];exact ae)).mono ?_
   rintro e E (⟨O,D,Y,v,t,K,u,h3,P⟩|⟨O,D,K⟩)
   ·obtain⟨A,B,rfl⟩:∃x c,v=.slice x t.length c:=by
     rcases h3 with ⟨rfl,rfl⟩|⟨g,ar,ap,us,rfl,_⟩
     ·exact⟨none,0,rfl⟩
     ·exact⟨_,_,rfl⟩
    have ab:∀k,m.heap.size<=k->k<W.heap.size->E.heap[k]?=W.heap[k]?:=fun k z al=>by
     rw[P,ax_ _ _ _ _ (show k≠w.heap.size+1 by omega),K.block k al]
    refine av_ ⟨D,by rw[ab _ (au_ _) (by omega)];exact hK,by rw[ab _ (by omega) (by omega)];exact hI,by rw[<-Q];exact O,A,_,B,t,Y,u,?_,?_,P⟩
    ·rw[<-hW,<-V];exact K
    ·rw[<-V];exact h3
   ·refine as_ ⟨_,_,O,D,K,?_⟩;rw[<-Q]
  ·rintro e E (⟨D,Y,⟨O,A,M,B,t,w0,K,u,h3,P⟩,h5⟩|⟨k,l,z,D,N,hE⟩)
   ·refine av_ ⟨D,O,m.heap.size+2,A,M,B,t,K,?_⟩;have ao:Below w.heap.size w w0:=Z.trans ((((ay_ m.heap.size m).alloc (au_ _) _).alloc (by simp) _).mono (by omega) |>.trans (u.mono (by omega)))
    have ak:E.heap.size=w0.heap.size:=by rw[h5,P];simp
    have an:=u.size;simp only[World.size_alloc] at an
    have ah:∀k,k≠w.heap.size+1->k≠m.heap.size->k≠m.heap.size+1->E.heap[k]?=w0.heap[k]?:=fun k q1 q2 q3=>by
     rw[h5,ax_ _ _ _ _ (show k≠m.heap.size+1 from q3),ax_ _ _ _ _ (show k≠m.heap.size from q2),P,ax_ _ _ _ _ (show k≠w.heap.size+1 from q1)]
    have hB:E.heap[w.heap.size+1]?=some (.cells #[.slice A M B] 86 (0,0)):=by
     rw[h5,ax_ _ _ _ _ (show w.heap.size+1≠m.heap.size+1 by omega),ax_ _ _ _ _ (show w.heap.size+1≠m.heap.size by omega),P]
     have:w0.heap[w.heap.size+1]?=some (.cells #[.slice none 0 0] 86 (0,0)):=by
      rw[u.block _ (by omega),aA_ _ _ _ (by simp;omega),aA_ _ _ _ (by omega)];exact ae
     rw[aS this];rfl
    refine⟨?_,aA hB rfl,by omega,?_⟩
    ·rw[h5,P];exact((ao.setCell (show w.heap.size<=w.heap.size+1 by omega) _).setCell (show w.heap.size<=m.heap.size by omega) _).setCell (show w.heap.size<=m.heap.size+1 by omega) _
    ·exact h3.grow (fun b N=>ah b (by have:=N.1;omega) (by have:=N.1;omega) (by have:=N.1;omega)) (fun b N=>⟨N.1,by rw[ak];exact N.2⟩)
   ·refine as_ ⟨k,l,z,D,Z.trans (N.mono (by omega)),as_ ?_⟩
    rw[Q,hE];exact⟨z,rfl⟩
 ·obtain⟨O,lo,A,M,B,t,K,u,h3,P,h5⟩:=hA;refine⟨A,M,B,h3,P,?_⟩;have f:=hg t K O;obtain⟨r,am,au,ai⟩:=f.first s
  refine(TX (lo:=lo) (d:=2001) _ _ W h5 f.fl f.ok f.lit f.kl f.main ?_ ag (hp.below u) f.utf am (by omega)).mono ?_
  ·rcases ht with ht|⟨g,o,c,e,ac,hc⟩
   ·exact av_ ht
   ·exact as_ ⟨g,o,c,e,az_ ac u.size,fun i hi=>⟨(u.cell (p:=⟨g,o+i,none⟩) ac).trans (hc i hi).1,(hc i hi).2⟩⟩
  ·rintro e E ⟨v',D,N,X,G,hG,J,S⟩;obtain⟨f',t',o',rfl,⟨x1,n1,c1,rfl⟩,⟨x2,n2,c2,rfl⟩,⟨x3,n3,c3,rfl⟩⟩:=S.form;exact⟨0,x1,x2,x3,n1,n2,n3,c1,c2,c3,_,D,O,t,X,G,r,K,u.trans (N.mono u.size),hG,J,rfl,rfl,S,ai⟩
 ·obtain⟨O,t,X,G,r,K,u,hG,J,rfl,rfl,S,U⟩:=hS;obtain⟨L,F⟩:∃L,L=(W.alloc (.map #[] 0)).alloc (.cells #[.int .i64 ((0:Nat):Int),.slice x1 n1 c1,.slice x2 n2 c2,.slice x3 n3 c3,.int .i64 (bT 0 r.2),.slice none 0 0,.map (some W.heap.size)] 114):=⟨_,rfl⟩;have y:Below W.heap.size W L:=by rw[F];exact((ay_ _ _).alloc (au_ _) _).alloc (by simp) _
  have V:L.heap.size=W.heap.size+2:=by rw[F];simp
  have hM:L.heap[W.heap.size]?=some (.map #[] 0):=by rw[F];exact jM _ _ _
  have hB:L.heap[W.heap.size+1]?=some (.cells #[.int .i64 ((0:Nat):Int),.slice x1 n1 c1,.slice x2 n2 c2,.slice x3 n3 c3,.int .i64 (bT 0 r.2),.slice none 0 0,.map (some W.heap.size)] 114 (0,0)):=by rw[F];exact gO _ _ _
  rw[<-F];have T:=S.keep (fun k z=>y.block k (hG k z)) fun _ h=>h
  have ad:jV X G L (W.heap.size+1) W.heap.size (.map #[] 0) (cE t s) ⟨0,r.1,bT 0 r.2⟩ 0:=by
   refine⟨⟨_,_,_,.slice none 0 0,[],hB,T,World.ownsRow_nil _ _ _ _,rfl,fun i hi=>by simp at hi,fun k z e=>?_,fun e=>?_⟩,U,fun k z=>?_,hM,by omega⟩
   ·simp[Value.ownBlock] at e
   ·simp[Value.ownBlock] at e
   ·have:=hG k z;exact⟨by omega,by omega,by omega⟩
  refine(GZ ad _ ⟨0,r.1,bT 0 r.2⟩ T U (fun _=>by simp) (by omega) (by simp)).mono ?_
  rintro e E ⟨D,hf,aj⟩;have aa:=J.keep (fun k z=>y.block k (hG k z)) (fun _ h=>h)
  refine⟨D,?_,av_ ⟨by rw[Q];exact O,t,X,G,W.heap.size+1,W.heap.size,K,rfl,by have:=u.size;omega,u.size,?_,⟨0,r.1,bT 0 r.2⟩,by simpa using aj,rfl⟩⟩
  ·have C:Below w.heap.size w L:=u.trans (y.mono u.size);have I:lX (W.heap.size+1) L=none:=by rw[mE hB rfl];rfl
   exact⟨hf.os.trans C.os,hf.tape.trans C.tape,hf.output.trans C.output,aF_ C.size hf.size,fun k z=>by
    have:=u.size;rw[hf.blk k (by omega) (by omega) (by rw[I];simp),C.block k z]⟩
  ·refine aa.keep (fun k z=>?_) fun _ h=>h
   have I:lX (W.heap.size+1) L=none:=by rw[mE hB rfl];rfl
   have:=hG k z;exact hf.blk k (by omega) (by omega) (by rw[I];simp)
def n9:prog.globalNamed "internal/strconv.uint64pow10"=some 1:=by kernel_rfl
def kC.low{w w':World}(h:kC w)(a:∀k,k<11->w'.heap[k]?=w.heap[k]?):kC w':=h.keep n9 (a _ (by decide))
def kR.sv{g:Nat->Value}{F:Nat->Prop}{w:World}{v:Value}{a:bI}(h:kR g F w v a):∃s:SV,v=s.val/\s.t=a.time/\s.q=a.stop:=by
 obtain⟨f,t,o,rfl,⟨j,k,d,rfl⟩,⟨i,b,l,rfl⟩,⟨c,e,m,rfl⟩⟩:=h.form;exact⟨⟨a.time,j,i,c,k,b,e,d,l,m,a.stop⟩,rfl,rfl,rfl⟩
section
variable {fp:Nat->Value} {F G:Nat->Prop} {w w':World} {sb mb n n':Nat} {mo:Obj} {st:Nat->Option bI} {s:bI}
def jV.same(h:jV fp F w sb mb mo st s n)(d:w.heap.size<=w'.heap.size)(c:∀k,F k\/k=sb\/k=mb\/lX sb w=some k->w'.heap[k]?=w.heap[k]?):jV fp F w' sb mb mo st s n:=by
 obtain⟨q,x,o,f,z,g,t,v,y,m,r,p⟩:=h.blk;have e:∀b,F b->w'.heap[b]?=w.heap[b]?:=fun b j=>c b (av_ j)
 have l:lX sb w=f.ownBlock:=mE g rfl;refine⟨⟨q,x,o,f,z,by rw[c sb (as_ (av_ rfl))];exact g,t.keep e fun _ h=>h,aY v fun k a=>c k (as_ (as_ (as_ (by rw[l];exact a)))),y,fun i u=>(m i u).keep e fun _ h=>h,r,p⟩,h.now,fun k a=>⟨az_ (h.fix k a).1 d,(h.fix k a).2⟩,by rw[c mb (as_ (as_ (av_ rfl)))];exact h.map.1,h.map.2⟩
def FS.other{b:Nat}(h:FS sb w w')(m:w.heap.size<=b)(l:sb<w.heap.size){c:World}(d:c.heap.size=w'.heap.size)(a:c.os=w'.os/\c.tape=w'.tape/\c.output=w'.output)(f:∀k,k≠b->c.heap[k]?=w'.heap[k]?):FS sb w c:=
 ⟨a.1.trans h.os,a.2.1.trans h.tape,a.2.2.trans h.output,by rw[d];exact h.size,fun k g i j=>by rw[f k (by omega)];exact h.blk k g i j,fun k e=>h.row k (by rw[<-nL (f sb (by omega))];exact e)⟩
end
structure Live(fp:Nat->Value)(F:Nat->Prop)(w:World)(sb mb:Nat)(mo:Obj)(ks:List aC)(tape:List Int)(s:bI)(n:Nat)(L:List Nat):Prop where
 ses:jV fp F w sb mb mo (cE ks tape) s n
 tab:lA fp F w (cP ks 2001)
 pow:kC w
 low:11<=sb/\11<=mb
 hn:s.time/20<n
 loc:∀b∈L,11<=b/\b<w.heap.size/\¬F b/\lX sb w≠some b/\b≠sb/\b≠mb
section
variable {fp:Nat->Value} {F G:Nat->Prop} {w w':World} {sb mb n n':Nat} {mo:Obj} {ks:List aC} {tape:List Int} {s:bI} {L:List Nat}
def Live.row(h:Live fp F w sb mb mo ks tape s n L){k:Nat}(a:lX sb w=some k):sb<k/\k<w.heap.size/\¬F k/\k≠mb:=h.ses.row k a
def Live.keep(h:Live fp F w sb mb mo ks tape s n L)(L':List Nat)(c:∀b∈L',b∈L)(e:w.heap.size<=w'.heap.size)(d:∀k,k<w.heap.size->k∉L'->w'.heap[k]?=w.heap[k]?):Live fp F w' sb mb mo ks tape s n L:=by
 have l:=h.ses.lt;have f:w'.heap[sb]?=w.heap[sb]?:=d sb l fun a=>(h.loc sb (c sb a)).2.2.2.2.1 rfl
 have m:∀b,F b->w'.heap[b]?=w.heap[b]?:=fun b i=>d b (h.ses.fix b i).1 fun a=>(h.loc b (c b a)).2.2.1 i
 refine⟨h.ses.same e fun k g=>?_,h.tab.keep m fun _ h=>h,h.pow.low fun k g=>d k (by have:=h.low;omega) fun a=>by have:=(h.loc k (c k a)).1;omega,h.low,h.hn,fun b i=>?_⟩
 ·rcases g with j|rfl|rfl|j
  ·exact m k j
  ·exact f
  ·exact d _ (aD h.ses.map.1) fun a=>(h.loc _ (c _ a)).2.2.2.2.2 rfl
  ·exact d k (h.row j).2.1 fun a=>(h.loc k (c k a)).2.2.2.1 j
 ·obtain⟨q,r,t,o,p⟩:=h.loc b i;exact⟨q,az_ r e,t,by rw[nL f];exact o,p⟩
def Live.alloc(h:Live fp F w sb mb mo ks tape s n L)(o:Obj):Live fp F (w.alloc o) sb mb mo ks tape s n (w.heap.size::L):=by
 have a:Live fp F (w.alloc o) sb mb mo ks tape s n L:=h.keep [] (fun b c=>by cases c) (by simp) fun k g _=>aA_ _ _ _ g
 refine⟨a.ses,a.tab,a.pow,a.low,a.hn,fun b c=>?_⟩
 rcases aG_.1 c with rfl|c
 ·have d:=h.ses.lt;have i:=h.low;refine⟨by omega,by simp,fun f=>by have:=(h.ses.fix _ f).1;omega,fun e=>?_,by omega,by have:=aD h.ses.map.1;omega⟩
  rw[nL (aA_ _ _ _ d)] at e;have:=(h.row e).2.1;omega
 ·exact a.loc b c
def Live.drop(h:Live fp F w sb mb mo ks tape s n L){L':List Nat}(c:∀b∈L',b∈L):Live fp F w sb mb mo ks tape s n L':=⟨h.ses,h.tab,h.pow,h.low,h.hn,fun b a=>h.loc b (c b a)⟩
def Live.fs(h:Live fp F w sb mb mo ks tape s n L)(d:FS sb w w')(q:jV fp G w' sb mb mo (cE ks tape) s n')(f:Ext F G w.heap.size)(i:n<=n'):Live fp G w' sb mb mo ks tape s n' L:=by
 have l:∀b,F b->w'.heap[b]?=w.heap[b]?:=fun b a=>d.blk b (h.ses.fix b a).1 (h.ses.fix b a).2.1 fun e=>(h.row e).2.2.1 a
 refine⟨q,h.tab.keep l f.sub,h.pow.low fun k t=>d.blk k (by have:=h.low;have:=h.ses.lt;omega) (by have:=h.low;omega) fun e=>by have:=(h.row e).1;have:=h.low;omega,h.low,az_ h.hn i,fun b a=>?_⟩
 obtain⟨m,o,r,g,j⟩:=h.loc b a;refine⟨m,az_ o d.size,fun p=>?_,fun e=>?_,j⟩
 ·rcases f.new b p with c|c
  ·exact r c
  ·omega
 ·rcases d.row b e with c|c
  ·exact g c
  ·omega
def Live.blk(h:Live fp F w sb mb mo ks tape s n L)(f:FS sb w w'){b:Nat}(a:b∈L):w'.heap[b]?=w.heap[b]?:=by
 obtain⟨i,e,j,c,d,g⟩:=h.loc b a;exact f.blk b e d c
def Live.stR(h:Live fp F w sb mb mo ks tape s n L)(g:FS sb w w')(d:Ext F G w.heap.size){v:Value}{c:bI}(f:kR fp F w v c):kR fp G w' v c:=
 f.keep (fun b a=>g.blk b (h.ses.fix b a).1 (h.ses.fix b a).2.1 fun e=>(h.row e).2.2.1 a) d.sub
def Good.sta(b:Good ks){t:Nat}{a:bI}(h:cE ks tape t=some a):RM (fG ks) a/\a.time=t/\Rest tape.length a.m/\a.stop<=9:=by
 obtain⟨c,d⟩:=tO (iF b.ok) (mU b.ok b.main tape) t a h;obtain⟨f,e⟩:=GX b.utf (b.rest0 tape) t a h;exact⟨c,d,f,e⟩
def Live.count(d:Good ks)(h:Live fp F w sb mb mo ks tape s n L):n<=26:=by
 obtain⟨_,_,_,_,i,_,_,_,g,b,_⟩:=h.ses.blk;rcases bS_ n with e|e
 ·omega
 obtain⟨_,j,c,_⟩:=b (n-1) (by omega)
 obtain⟨a,f,_⟩:=d.sta c;have:=a.time;omega
def Good.next(c:Good ks){a:bI}{t:Nat}(h:cE ks tape t=some a)(d:a.stop=0):∃r,cJ (cP ks 2001) gD a.m=some r/\r.2<=9/\cE ks tape (a.time+1)=some ⟨a.time+1,r.1,bT (a.time+1) r.2⟩:=by
 obtain⟨e,f,g,i⟩:=c.sta h;obtain⟨r,b,_⟩:=oN (iF c.ok) (e.ok d).1;refine⟨r,b,(pU c.utf _ _ _ g b).2,?_⟩;unfold cE at h ⊢
 rw[f,dQ,h];simp[d,b]
def AG:SV:=⟨0,none,none,none,0,0,0,0,0,0,0⟩
def R6(fp:Nat->Value)(F:Nat->Prop)(w:World)(sb mb:Nat)(mo:Obj)(ks:List aC)(tape:List Int)(s:bI)(n:Nat)(L:List Nat)(σ:bI)(v':SV)(ok:Bool)(w':World):Prop:=
 ∃G n',n<=n'/\Ext F G w.heap.size/\FS sb w w'/\Live fp G w' sb mb mo ks tape s n' L/\(ok=true->σ.stop=0/\∃σ',cE ks tape (σ.time+1)=some σ'/\σ'.time=σ.time+1/\kR fp G w' v'.val σ'/\σ'.time/20<n')/\(ok=false->σ.stop≠0)
def GY(P:Good ks)(h:Live fp F w sb mb mo ks tape s n L)(al:tape.length<=17592186044416)(v:SV)(d:bI)(hv:kR fp F w v.val d)(Q:cE ks tape d.time=some d)(ak:d.time/20<n):
 Calls prog 111 #[.pointer (some ⟨sb,0,none⟩),v.val] w fun e o=>∃v' ok,e=.returned (.tuple #[SV.val v',.bool ok])/\R6 fp F w sb mb mo ks tape s n L d v' ok o:=by
 obtain⟨l,p⟩:∃l,l=(w.alloc (.cells v.cells 108)).alloc (.cells #[.int .i64 0,.slice none 0 0,.slice none 0 0,.slice none 0 0,.int .i64 0] 108):=⟨_,rfl⟩;have c:Below w.heap.size w l:=by rw[p];exact((ay_ _ _).alloc (au_ _) _).alloc (by simp) _
 have an:l.heap.size=w.heap.size+2:=by rw[p];simp
 have S:l.heap[w.heap.size+1]?=some (.cells #[.int .i64 0,.slice none 0 0,.slice none 0 0,.slice none 0 0,.int .i64 0] 108 (0,0)):=by rw[p];exact gO _ _ _
 have B:∀b,F b->b<w.heap.size:=fun b a=>(h.ses.fix b a).1
 have q:=h.ses.lt;have ai:=aD h.ses.map.1;obtain⟨A,ao,G,aq⟩:=P.sta Q;have aj:=h.count P;by_cases I:d.stop=0
 ·obtain⟨r,ag,ap,O⟩:=P.next Q I
  refine BS w sb v (R6 fp F w sb mb mo ks tape s n L d)
   (fun f ok W=>ok=true/\Below l.heap.size l W/\∃t,Ext F t l.heap.size/\(∀b,t b->b<W.heap.size)/\kR fp t W f.val ⟨d.time+1,r.1,bT (d.time+1) r.2⟩) ?_ (fun f W J=>?_) (fun f W J=>?_)
  ·show Calls _ _ _ _ _
   rw[<-p];refine(SP (iF P.ok) P.utf (hv.keep (fun b a=>c.block b (B b a)) fun _ h=>h) (fun b a=>az_ (B b a) c.size) (h.tab.keep (fun b a=>c.block b (B b a)) fun _ h=>h) (h.pow.below c) I (A.ok I).1 (A.ok I).2 G.utf G.out (by have:=G.tape;omega) ag (by have:=A.time;omega) (by omega)).mono ?_
   rintro e o ⟨v',rfl,a,t,H,T,U⟩;obtain⟨f,rfl,_⟩:=U.sv;exact⟨f,true,rfl,rfl,a,t,H,T,U⟩
  ·cases J.1
  ·obtain⟨_,a,t,H,T,U⟩:=J;have ad:=a.size;obtain⟨y,z⟩:∃y,y=W.alloc (.cells f.cells 108):=⟨_,rfl⟩;have C:Below W.heap.size W y:=by rw[z];exact(ay_ _ _).alloc (au_ _) _
   have am:y.heap.size=W.heap.size+1:=by rw[z];simp
   have ah:y.heap[W.heap.size]?=some (.cells f.cells 108 (0,0)):=by rw[z];exact aM _ _ rfl _
   have g:Below w.heap.size w y:=c.trans ((a.mono c.size).trans (C.mono (by omega)))
   show Calls _ _ _ _ _
   rw[<-z]
   have m:jV fp t y sb mb mo (cE ks tape) s n:=h.ses.grow g H.sub fun k x=>by
    rcases H.new k x with j|j
    ·exact av_ j
    ·exact as_ ⟨by omega,by have:=T k x;omega⟩
   refine(GZ m f.val ⟨d.time+1,r.1,bT (d.time+1) r.2⟩ (U.keep (fun b i=>C.block b (T b i)) fun _ h=>h) O (fun hm=>by simp only at hm ⊢;omega) (by omega) (by have:=A.time;simp only;omega)).mono ?_
   rintro e o ⟨he,Z,ab⟩;have D:lX sb y=lX sb w:=nL (g.block _ q);have K:∀k,w.heap.size<=k->k<y.heap.size->o.heap[k]?=y.heap[k]?:=fun k j M=>Z.blk k M (by omega) fun e=>by rw[D] at e;have:=(h.row e).2.1;omega
   refine⟨he,by rw[K _ (by omega) (by omega)];exact ah,⟨_,by rw[K _ (by omega) (by omega),C.block _ (by omega),a.block _ (by omega)];exact S,by simp⟩,by omega,?_⟩
   obtain⟨z1,z2,z3,z4⟩:=fO o (w.heap.size+1) f;have ac:FS sb w o:=(FS.of_below g q).trans Z;have X:FS sb w (dR o (w.heap.size+1) f):=ac.other (b:=w.heap.size+1) (by omega) q z1 ⟨z2,z3,z4⟩ fun k x=>cV _ _ _ k x
   have ae:¬t (w.heap.size+1):=fun hq=>by
    rcases H.new _ hq with j|j
    ·have:=B _ j;omega
    ·omega
   have Y:∀k,t k\/k=sb\/k=mb\/lX sb o=some k->(dR o (w.heap.size+1) f).heap[k]?=o.heap[k]?:=fun k x=>cV _ _ _ k (by
    rintro rfl;rcases x with j|j|j|j
    ·exact ae j
    ·omega
    ·omega
    ·rcases Z.row _ j with M|M
     ·rw[D] at M;have:=(h.row M).2.1;omega
     ·omega)
   have aa:=ab.same (by rw[z1];exact au_ _) Y
   have E:Ext F t w.heap.size:=⟨H.sub,fun k x=>(H.new k x).imp_right fun j=>by omega⟩
   refine⟨t,_,?_,E,X,h.fs X aa E ?_,fun _=>⟨I,⟨d.time+1,r.1,bT (d.time+1) r.2⟩,O,rfl,?_,?_⟩,fun e=>by cases e⟩
   ·split<;>omega
   ·split<;>omega
   ·refine U.keep (fun b i=>?_) fun _ h=>h
    have af:=T b i;have N:b≠sb:=(m.fix b i).2.1;rw[Y b (av_ i),Z.blk b (by omega) N (fun e=>(m.row b e).2.2.1 i),C.block b af]
   ·simp only;split<;>omega
 ·refine BS w sb v (R6 fp F w sb mb mo ks tape s n L d) (fun f ok W=>ok=false/\f=AG/\Below l.heap.size l W) ?_ (fun f W J=>?_) (fun f W J=>?_)
  ·show Calls _ _ _ _ _
   rw[<-p];obtain⟨fv,tv,xo,he,f1,f2,f3⟩:=hv.form;rw[he];refine(ZI l d.time d.stop fv tv xo I f1 f2 f3).mono ?_;rintro e o ⟨rfl,a⟩;exact⟨AG,false,rfl,rfl,rfl,a⟩
  ·obtain⟨_,rfl,a⟩:=J;have ad:=a.size;refine⟨⟨_,by rw[a.block _ (by omega)];exact S,by simp⟩,?_⟩
   obtain⟨z1,z2,z3,z4⟩:=fO W (w.heap.size+1) AG
   have g:Below w.heap.size w (dR W (w.heap.size+1) AG):=by
    have V:Below w.heap.size w W:=c.trans (a.mono c.size);exact⟨z2.trans V.os,z3.trans V.tape,z4.trans V.output,by rw[z1];exact V.size,fun k x=>by rw[cV _ _ _ k (by omega)];exact V.block k x⟩
   have u:=g.alloc g.size (.cells AG.cells 108);exact⟨F,n,au_ _,Ext.refl _ _,FS.of_below u q,h.fs (FS.of_below u q) (h.ses.grow u (fun _ h=>h) fun _ h=>av_ h) (Ext.refl _ _) (au_ _),fun e=>(by cases e),fun _=>I⟩
  ·cases J.1
end
def F5(st:Nat->Option bI)(p:bI->Bool)(s τ:bI)(fd:Bool):Prop:=
 (fd=false/\τ=s/\s.stop≠0)\/(fd=true/\s.time<τ.time/\st τ.time=some τ/\(∀t x,s.time<t->t<τ.time->st t=some x->p x=false)/\(p τ=true\/τ.stop≠0))
structure But(L:List Nat)(w w':World):Prop where
 os:w'.os=w.os
 tape:w'.tape=w.tape
 output:w'.output=w.output
 size:w.heap.size<=w'.heap.size
 blk:∀k,k<w.heap.size->k∉L->w'.heap[k]?=w.heap[k]?
def But.below{w w':World}(h:Below w.heap.size w w')(L:List Nat):But L w w':=⟨h.os,h.tape,h.output,h.size,fun k a _=>h.block k a⟩
def But.alloc(w:World)(o:Obj)(L:List Nat):But L w (w.alloc o):=But.below ((ay_ _ w).alloc (au_ _) o) L
def But.drew(w:World)(L:List Nat):But L w w.drew:=⟨rfl,rfl,rfl,au_ _,fun _ _ _=>rfl⟩
def But.put(w:World)(b:Nat)(o:Obj):But [b] w (w.putObj b o):=⟨rfl,rfl,rfl,by simp,fun k _ a=>World.putObj_heap_other (by simpa using a)⟩
def But.set5(w:World)(b:Nat)(s:SV):But [b] w (dR w b s):=by
 obtain⟨a,f,e,d⟩:=fO w b s;exact⟨f,e,d,by rw[a];exact au_ _,fun k _ c=>cV _ _ _ k (by simpa using c)⟩
def But.set(w:World)(b:Nat)(v:Value):But [b] w (w.setCell ⟨b,0,none⟩ v):=⟨rfl,rfl,rfl,by simp,fun k _ a=>ax_ _ _ _ _ (by simpa using a)⟩
def But.trans{L M:List Nat}{a b c:World}(h:But L a b)(k:But M b c):But (L++M) a c:=
 ⟨k.os.trans h.os,k.tape.trans h.tape,k.output.trans h.output,aF_ h.size k.size,fun i e d=>by
   rw[aE_,not_or] at d;rw[k.blk i (az_ e h.size) d.2,h.blk i e d.1]⟩
def FS.but{sb:Nat}{c w w':World}{L:List Nat}(h:FS sb c w)(a:But L w w')(f:∀b∈L,c.heap.size<=b)(l:sb<c.heap.size):FS sb c w':=by
 have n:=h.size;have g:w'.heap[sb]?=w.heap[sb]?:=a.blk sb (by omega) fun d=>by have:=f sb d;omega
 exact⟨a.os.trans h.os,a.tape.trans h.tape,a.output.trans h.output,aF_ h.size a.size,fun k i j m=>by rw[a.blk k (by omega) fun d=>by have:=f k d;omega];exact h.blk k i j m,fun k e=>h.row k (by rw[<-nL g];exact e)⟩
def kR.but{c:Nat->Value}{F:Nat->Prop}{w w':World}{sb j n:Nat}{l:Obj}{ks:List aC}{a:List Int}{s e:bI}{L L':List Nat}{v:Value}(k:kR c F w v e)(h:Live c F w sb j l ks a s n L)(f:But L' w w')(g:∀b∈L',b∈L):kR c F w' v e:=
 k.keep (fun b d=>f.blk b (h.ses.fix b d).1 fun i=>(h.loc b (g b i)).2.2.1 d) fun _ h=>h
def Live.but{e:Nat->Value}{F:Nat->Prop}{w w':World}{sb f n:Nat}{d:Obj}{ks:List aC}{a:List Int}{s:bI}{L L':List Nat}(h:Live e F w sb f d ks a s n L)(c:But L' w w')(g:∀b∈L',b∈L):Live e F w' sb f d ks a s n L:=h.keep L' g c.size c.blk
def jV.cells{f:Nat->Value}{F:Nat->Prop}{w:World}{sb p n:Nat}{t:Obj}{i:Nat->Option bI}{s:bI}(h:jV f F w sb p t i s n):∃a:SV,kR f F w a.val s/\w.cell? ⟨sb,0,none⟩=some (.int .i64 a.t)/\w.cell? ⟨sb,1,none⟩=some (.slice a.x1 a.n1 a.c1)/\w.cell? ⟨sb,2,none⟩=some (.slice a.x2 a.n2 a.c2)/\w.cell? ⟨sb,3,none⟩=some (.slice a.x3 a.n3 a.c3)/\w.cell? ⟨sb,4,none⟩=some (.int .i64 a.q)/\∃c,w.heap[sb]?=some (.cells c 114 (0,0))/\5<=c.size:=by
 obtain⟨v,y,u,x,z,b,g,_⟩:=h.blk;obtain⟨e,d,o,j⟩:=g.sv;refine⟨e,by rw[<-d];exact g,?_⟩
 simp only[SV.val,Value.agg.injEq] at d;simp at d;obtain⟨m,q,r,k,l⟩:=d;rw[m,q,r,k,l] at b;exact⟨aA b rfl,aA b rfl,aA b rfl,aA b rfl,aA b rfl,_,b,by simp⟩
def jV.go{m:Nat->Value}{F:Nat->Prop}{w:World}{sb p n:Nat}{y:Obj}{l:Nat->Option bI}{s τ:bI}{v:SV}(h:jV m F w sb p y l s n)(x:kR m F w v.val τ)(o:l τ.time=some τ):jV m F (dR w sb v) sb p y l τ n/\FS sb w (dR w sb v)/\lX sb (dR w sb v)=lX sb w:=by
 obtain⟨N,Q,M,d,L,z,O,I,K,B,E,D⟩:=h.blk;obtain⟨P,e,A,u⟩:=x.sv;obtain rfl:=SV.val_inj e;obtain⟨t,C,J,G⟩:=fO w sb v
 have j:(dR w sb v).heap[sb]?=some (.cells #[.int .i64 v.t,.slice v.x1 v.n1 v.c1,.slice v.x2 v.n2 v.c2,.slice v.x3 v.n3 v.c3,.int .i64 v.q,d,.map (some p)] 114 (0,0)):=by
  have r:=wH (s:=v) z;simp only[List.setIfInBounds_toArray,List.set_cons_zero,b1_] at r;exact r
 have q:∀b,F b->(dR w sb v).heap[b]?=w.heap[b]?:=fun b j=>cV _ _ _ _ (h.fix b j).2.1
 have c:lX sb w=d.ownBlock:=mE z rfl;have f:lX sb (dR w sb v)=d.ownBlock:=mE j rfl;have g:∀k,d.ownBlock=some k->(dR w sb v).heap[k]?=w.heap[k]?:=fun k a=>cV _ _ _ _ (by have:=(h.row k (by rw[c];exact a)).1;omega)
 refine⟨⟨⟨_,_,_,d,L,by rw[<-A,<-u];exact j,?_,aY I g,K,fun i H=>(B i H).keep q fun _ h=>h,E,D⟩,o,fun k a=>?_,by rw[cV _ _ _ _ h.map.2];exact h.map.1,h.map.2⟩,⟨C,J,G,by rw[t];exact au_ _,fun k _ a _=>cV _ _ _ _ a,fun k a=>av_ ?_⟩,?_⟩
 ·have:=x.keep q fun _ h=>h
  unfold SV.val at this;rw[<-A,<-u];exact this
 ·have:=h.fix k a;exact⟨by rw[t];exact this.1,this.2⟩
 ·rw[c,<-f];exact a
 ·rw[c,f]
def Live.go{d:Nat->Value}{F:Nat->Prop}{w:World}{sb f n:Nat}{i:Obj}{ks:List aC}{a:List Int}{s τ:bI}{L:List Nat}{v:SV}(h:Live d F w sb f i ks a s n L)(q:kR d F w v.val τ)(e:cE ks a τ.time=some τ)(j:τ.time/20<n):Live d F (dR w sb v) sb f i ks a τ n L/\FS sb w (dR w sb v):=by
 obtain⟨p,o,m⟩:=h.ses.go q e;obtain⟨l,_⟩:=fO w sb v;have g:=h.low;refine⟨⟨p,h.tab.keep (fun b c=>cV _ _ _ _ (h.ses.fix b c).2.1) fun _ h=>h,h.pow.low fun k r=>cV _ _ _ _ (by omega),h.low,j,fun b c=>?_⟩,o⟩
 have:=h.loc b c;rw[l,m];exact this
structure MCtx where
 fp:Nat->Value
 sb:Nat
 mb:Nat
 mo:Obj
 ks:List aC
 tape:List Int
 s:bI
 p:bI->Bool
 bb:Nat
 fv:Value
 w:World
 L:List Nat
 le:Nat->Bool->Prop
def MCtx.bf(C:MCtx):Nat:=C.w.heap.size
def MCtx.bt(C:MCtx):Nat:=C.w.heap.size+1
def MCtx.bo(C:MCtx):Nat:=C.w.heap.size+1+1
def MCtx.all(C:MCtx):List Nat:=(C.w.heap.size+3+1)::(C.w.heap.size+3)::C.bo::C.bt::C.bf::C.L
noncomputable def MCtx.st(C:MCtx):Nat->Option bI:=cE C.ks C.tape
structure Mvg(C:MCtx)(L:List Nat)(F:Nat->Prop)(n k:Nat)(fd:Bool)(W:World):Prop where
 live:Live C.fp F W C.sb C.mb C.mo C.ks C.tape C.s n L
 mem:∀b∈C.all,b∈L
 cf:W.heap[C.bf]?=some (.cells #[C.fv] 132 (0,0))
 cb:W.heap[C.bb]?=some (.cells #[.pointer (some ⟨C.sb,0,none⟩)] 39 (0,0))/\C.bb∈C.L
 ct:∃s2 τ,W.heap[C.bt]?=some (.cells (SV.cells s2) 108 (0,0))/\kR C.fp F W s2.val τ/\C.st k=some τ/\k/20<n
 co:W.heap[C.bo]?=some (.cells #[.bool fd] 4 (0,0))
 le:C.le k fd
 fr:FS C.sb C.w W/\C.sb<C.w.heap.size/\∀b∈C.L,b<C.w.heap.size
section
variable {C:MCtx} {L L':List Nat} {F G:Nat->Prop} {n n' k:Nat} {fd:Bool} {W W':World}
def Mvg.lt(h:Mvg C L F n k fd W):C.w.heap.size+3+1<W.heap.size:=(h.live.loc _ (h.mem _ (by simp[MCtx.all]))).2.1
def Mvg.but(h:Mvg C L F n k fd W)(d:But L' W W')(f:∀b∈L',b∈L/\C.bo<b):Mvg C L F n k fd W':=by
 have c:=h.fr.2.1;have i:=h.lt;have e:∀b,b<=C.bo->W'.heap[b]?=W.heap[b]?:=fun b g=>d.blk b (by simp only[MCtx.bo] at g;omega) fun a=>by have:=(f b a).2;omega
 obtain⟨o,l,m,p,q,j⟩:=h.ct;have r:=h.fr.2.2 _ h.cb.2;refine⟨h.live.but d fun b a=>(f b a).1,h.mem,by rw[e _ (by simp only[MCtx.bo,MCtx.bf];omega)];exact h.cf,⟨by rw[e _ (by simp only[MCtx.bo];omega)];exact h.cb.1,h.cb.2⟩,⟨o,l,by rw[e _ (by simp only[MCtx.bo,MCtx.bt];omega)];exact m,p.but h.live d fun b a=>(f b a).1,q,j⟩,by rw[e _ (au_ _)];exact h.co,h.le,h.fr.1.but d (fun b a=>by have:=(f b a).2;simp only[MCtx.bo] at this;omega) c,c,h.fr.2.2⟩
def Mvg.more(h:Mvg C L F n k fd W)(a:Live C.fp F W C.sb C.mb C.mo C.ks C.tape C.s n L')(c:∀b∈C.all,b∈L'):Mvg C L' F n k fd W:=⟨a,c,h.cf,h.cb,h.ct,h.co,h.le,h.fr⟩
def Mvg.alloc(h:Mvg C L F n k fd W)(o:Obj):Mvg C (W.heap.size::L) F n k fd (W.alloc o):=
 (h.but (L':=[]) (But.alloc W o []) fun b c=>by cases c).more (h.live.alloc o) fun b a=>aJ_ _ (h.mem b a)
def Mvg.fs(h:Mvg C L F n k fd W)(c:FS C.sb W W')(f:Live C.fp G W' C.sb C.mb C.mo C.ks C.tape C.s n' L)(e:Ext F G W.heap.size)(p:n<=n'):Mvg C L G n' k fd W':=by
 have a:∀b∈L,W'.heap[b]?=W.heap[b]?:=fun b d=>h.live.blk c d
 obtain⟨j,g,i,l,m,o⟩:=h.ct;exact⟨f,h.mem,by rw[a _ (h.mem _ (by simp[MCtx.all]))];exact h.cf,⟨by rw[a _ (h.mem _ (by simp[MCtx.all,h.cb.2]))];exact h.cb.1,h.cb.2⟩,⟨j,g,by rw[a _ (h.mem _ (by simp[MCtx.all]))];exact i,h.live.stR c e l,m,by omega⟩,by rw[a _ (h.mem _ (by simp[MCtx.all]))];exact h.co,h.le,h.fr.1.trans c,h.fr.2⟩
def Mvg.set(h:Mvg C L F n k fd W){v:SV}{a:bI}(q:kR C.fp F W v.val a)(j:C.st a.time=some a)(m:a.time/20<n)(l:C.le a.time true):Mvg C L F n a.time true ((dR W C.bt v).setCell ⟨C.bo,0,none⟩ (.bool true)):=by
 have d:But ([C.bt]++[C.bo]) W ((dR W C.bt v).setCell ⟨C.bo,0,none⟩ (.bool true)):=(But.set5 W C.bt v).trans (But.set _ _ _);have c:∀b∈[C.bt]++[C.bo],b∈L:=fun b i=>h.mem b (by simp at i;rcases i with rfl|rfl<;>simp[MCtx.all])
 have g:=h.fr.2.1;have w:=h.lt;have r:=h.fr.2.2 _ h.cb.2;obtain⟨t,s,p,x,y,u⟩:=h.ct;have f:C.bt≠C.bo:=by simp only[MCtx.bt,MCtx.bo];omega
 refine⟨h.live.but d c,h.mem,by rw[d.blk _ (by simp only[MCtx.bf];omega) (by simp only[MCtx.bf,MCtx.bt,MCtx.bo,aY_,by_,aG_,aQ_,or_false];omega)];exact h.cf,⟨by rw[d.blk _ (by omega) (by simp only[MCtx.bt,MCtx.bo,aY_,by_,aG_,aQ_,or_false];omega)];exact h.cb.1,h.cb.2⟩,⟨v,a,?_,q.but h.live d c,j,m⟩,?_,l,h.fr.1.but d (fun b i=>by simp[MCtx.bt,MCtx.bo] at i;omega) g,g,h.fr.2.2⟩
 ·rw[ax_ _ _ _ _ f];exact qG p rfl
 ·have o:(dR W C.bt v).heap[C.bo]?=some (.cells #[.bool fd] 4 (0,0)):=by rw[cV _ _ _ _ (fun e=>f e.symm)];exact h.co
  exact aS o
end
def fwd(s:bI)(k:Nat)(fd:Bool):Prop:=s.time<=k/\(fd=true↔s.time<k)
def ED(C:MCtx)(k:Nat):Prop:=∀t x,C.s.time<t->t<=k->C.st t=some x->C.p x=false
def s6(C:MCtx)(M:List Nat)(t:Nat)(s':SV)(W:World):Prop:=∃F n σ k fd,Mvg C M F n k fd W/\kR C.fp F W s'.val σ/\C.st σ.time=some σ/\σ.time=k+1/\σ.time/20<n/\W.heap[t]?=some (.cells s'.cells 108 (0,0))/\C.w.heap.size+3+1<t/\ED C k
def x6(C:MCtx)(t:Nat)(s':SV)(W:World):Prop:=∃F n σ,Mvg C (t::C.all) F n σ.time true W/\kR C.fp F W s'.val σ/\C.st σ.time=some σ/\σ.time/20<n/\W.heap[t]?=some (.cells s'.cells 108 (0,0))/\C.w.heap.size+3+1<t/\ED C σ.time
def j7(C:MCtx)(W:World):Prop:=∃F n k fd τ,Mvg C C.all F n k fd W/\C.st k=some τ/\F5 C.st C.p C.s τ fd
section
variable {C:MCtx}
def p9:∀b∈[C.w.heap.size+3+1],C.bo<b:=fun b a=>by simp at a;simp only[MCtx.bo];omega
def Mvg.put{L:List Nat}{F:Nat->Prop}{n k:Nat}{c:Bool}{W:World}(h:Mvg C L F n k c W)(o:Obj):Mvg C L F n k c (W.putObj (C.w.heap.size+3+1) o):=
 h.but (But.put _ _ _) fun b a=>⟨h.mem b (by simp at a;simp[MCtx.all,a]),p9 b a⟩
def Mvg.putS{L:List Nat}{F:Nat->Prop}{n k:Nat}{d:Bool}{W:World}{c:bI}{v:Value}(h:Mvg C L F n k d W)(e:kR C.fp F W v c)(o:Obj):kR C.fp F (W.putObj (C.w.heap.size+3+1) o) v c:=
 e.but h.live (But.put _ _ _) fun b a=>h.mem b (by simp at a;simp[MCtx.all,a])
def s6.put{M:List Nat}{t:Nat}{a:SV}{W:World}(h:s6 C M t a W)(o:Obj):s6 C M t a (W.putObj (C.w.heap.size+3+1) o):=by
 obtain⟨F,n,m,k,j,b,f,i,l,c,e,d,g⟩:=h;exact⟨F,n,m,k,j,b.put o,b.putS f o,i,l,c,by rw[World.putObj_heap_other (by omega)];exact e,d,g⟩
def x6.put{t:Nat}{b:SV}{W:World}(h:x6 C t b W)(o:Obj):x6 C t b (W.putObj (C.w.heap.size+3+1) o):=by
 obtain⟨F,n,j,a,e,i,d,f,c,g⟩:=h;exact⟨F,n,j,a.put o,a.putS e o,i,d,by rw[World.putObj_heap_other (by omega)];exact f,c,g⟩
def j7.put{W:World}(h:j7 C W)(o:Obj):j7 C (W.putObj (C.w.heap.size+3+1) o):=by
 obtain⟨F,n,k,b,a,c,d,e⟩:=h;exact⟨F,n,k,b,a,c.put o,d,e⟩
def ED.succ{k:Nat}{a:bI}(h:ED C k)(i:a.time=k+1)(b:C.st a.time=some a)(f:C.p a=false):ED C a.time:=fun t x e g c=>by
 rcases a6_ k t with d|d
 ·obtain rfl:t=a.time:=by omega
  rw[b] at c;cases c;exact f
 ·exact h t x e d c
def Mvg.next{L:List Nat}{F:Nat->Prop}{n k:Nat}{o:Bool}{W:World}(y:Good C.ks)(p:C.le=fwd C.s)(q:C.tape.length<=17592186044416)(h:Mvg C L F n k o W)(v:SV)(f:bI)(N:kR C.fp F W v.val f)(c:C.st f.time=some f)(j:f.time=k)(g:f.time/20<n)(M:ED C k):
 Calls prog 111 #[.pointer (some ⟨C.sb,0,none⟩),v.val] W fun e l=>∃i ok,e=.returned (.tuple #[SV.val i,.bool ok])/\(∀b∈L,l.heap[b]?=W.heap[b]?)/\
  ∃G m,Mvg C L G m k o l/\(ok=true->∃a,kR C.fp G l i.val a/\C.st a.time=some a/\a.time=k+1/\a.time/20<m/\i.t=k+1/\k<500)/\(ok=false->F5 C.st C.p C.s f o):=by
 refine(GY y h.live q v f N c g).mono ?_;rintro e l ⟨i,ok,rfl,G,m,Q,H,w,T,B,E⟩;refine⟨i,ok,rfl,fun b A=>h.live.blk w A,G,m,h.fs w T H Q,fun e=>?_,fun e=>?_⟩
 ·obtain⟨_,a,u,K,s,D⟩:=B e;obtain⟨U,S,X,_⟩:=s.sv;obtain rfl:=SV.val_inj S;have Y:=(y.sta u).1.time;exact⟨a,s,by rw[K];exact u,by omega,D,by omega,by omega⟩
 ·have z:=E e;have d:=h.le;rw[p] at d;subst j;cases o with
  |true=>
   exact as_ ⟨rfl,d.2.1 rfl,c,fun t x J Z O=>M t x J (by omega) O,as_ z⟩
  |false=>
   have V:¬C.s.time<f.time:=fun P=>by have:=d.2.2 P;cases this
   have I:C.s.time=f.time:=by have:=d.1;omega
   have r:=h.live.ses.now;unfold MCtx.st at c;rw[I,c] at r;cases r;exact av_ ⟨rfl,rfl,z⟩
end
def UN{C:MCtx}(Z:Good C.ks)(E:C.le=fwd C.s)(D:C.tape.length<=17592186044416)(s0:SV){F:Nat->Prop}{n:Nat}(T:World)(ac:T.heap.size=C.w.heap.size+3)
 (hM:∀K,Mvg C C.all F n C.s.time false ((T.alloc (.deferred (some []))).alloc (.loop K))) (af:∀K,kR C.fp F ((T.alloc (.deferred (some []))).alloc (.loop K)) s0.val C.s):
 WC prog 118 #[.pointer (some ⟨C.bb,0,none⟩)] T (fun t=>s6 C (t::C.all) t) (x6 C) (fun _=>j7 C):=by
 intro K Rdy Don Y ag _ I hY;rw[ac] at Y ag hY ⊢
 have j:=hM K;have hs:=af K;generalize (T.alloc (.deferred (some []))).alloc (.loop K)=f at j hs I ⊢
 have l:=j.live.ses.now;have i:ED C C.s.time:=fun t x o B _=>by omega
 have g:∀b,b=C.w.heap.size+3\/b=C.w.heap.size+3+1->b∈C.all:=fun b a=>by rcases a with rfl|rfl<;>simp[MCtx.all]
 obtain⟨s1,P,k0,k1,k2,k3,k4,_⟩:=j.live.ses.cells;have ae:=j.lt;have V:∀b∈C.all,b<f.heap.size:=fun b a=>(j.live.loc b a).2.1
 refine(PC (C.w.heap.size+3+1) C.bb C.sb s1 f
  (fun gk b m ok wr=>Rdy wr/\(ok=true->s6 C (b::C.all) b m wr/\gk+m.t=502)/\(ok=false->j7 C wr))
  (fun gk b m wr=>Rdy wr/\x6 C b m wr/\gk+m.t=502)
  (fun wr=>(j7 C wr/\Rdy wr)\/(j7 C wr/\Don wr)) (aA j.cb.1 rfl) (aD j.cb.1) j.live.ses.lt k0 k1 k2 k3 k4 (501-C.s.time) ?_ (fun c hc=>?_) (fun gk b m wr h=>?_) (fun gk b m wr h=>?_) (fun gk b m wr h=>?_)).mono ?_
 ·have H:=j.but (L':=[]) (But.drew f []) fun b a=>by cases a
  refine(H.next Z E D s1 C.s (P.but j.live (But.drew f []) fun b a=>by cases a) l rfl j.live.hn i).mono ?_
  rintro e y ⟨u,ok,rfl,z,G,s,o,B,M⟩;have A:=o.lt;refine⟨u,ok,rfl,Y f _ I ?_ ?_,fun e=>?_,fun e=>?_⟩
  ·rw[aA_ _ _ _ (by omega)];exact z _ (g _ (av_ rfl))
  ·rw[aA_ _ _ _ (by omega)];exact z _ (g _ (as_ rfl))
  ·obtain⟨q,O,X,Q,q4,q5,q6⟩:=B e;refine⟨⟨G,s,q,C.s.time,false,o.alloc _,?_,X,Q,q4,aM _ _ rfl _,A,i⟩,by omega⟩
   exact O.but o.live (But.alloc _ _ []) fun b a=>by cases a
  ·have:=o.but (L':=[]) (But.alloc y (.cells u.cells 108) []) fun b a=>by cases a
   exact⟨G,s,C.s.time,false,C.s,this,l,M e⟩
 ·have H:=(j.but (L':=[]) (But.drew f []) fun b a=>by cases a).alloc (.cells c 108)
  have aa:But [] f (f.drew.alloc (.cells c 108)):=(But.drew f []).trans (But.alloc _ _ []);refine(H.next Z E D s1 C.s (P.but j.live aa fun b a=>by cases a) l rfl j.live.hn i).mono ?_
  rintro e y ⟨u,ok,rfl,z,G,s,o,B,M⟩;have A:=o.lt;have r:y.heap[f.heap.size]?=some (.cells c 108 (0,0)):=by rw[z f.heap.size (aS_ ..)];exact aM f.drew _ rfl _
  have d:∀b∈C.all,(dR y f.heap.size u).heap[b]?=f.heap[b]?:=fun b a=>by
   have:=V b a;rw[cV _ _ _ _ (by omega),z b (aJ_ _ a)];exact aA_ f.drew _ _ this
  have p:∀b∈[f.heap.size],b∈(f.heap.size::C.all)/\C.bo<b:=fun b a=>by
   obtain rfl:=aD_.1 a;exact⟨aS_ ..,by simp only[MCtx.bo];omega⟩
  have N:Mvg C (f.heap.size::C.all) G s C.s.time false (dR y f.heap.size u):=o.but (But.set5 _ _ _) p;refine⟨u,ok,rfl,r,Y f _ I (d _ (g _ (av_ rfl))) (d _ (g _ (as_ rfl))),fun e=>?_,fun e=>?_⟩
  ·obtain⟨q,O,X,Q,q4,q5,q6⟩:=B e;exact⟨⟨G,s,q,C.s.time,false,N,O.but o.live (But.set5 _ _ _) fun b a=>(p b a).1,X,Q,q4,qG r hc,ae,i⟩,by omega⟩
  ·exact⟨G,s,C.s.time,false,C.s,N.more (N.live.drop fun b a=>aJ_ _ a) (fun _ h=>h),l,M e⟩
 ·obtain⟨hr,ha,_⟩:=h;obtain⟨ha,S⟩:=ha rfl;obtain⟨fn,U,v,W,hy,ah⟩:=hY b m wr ha hr;refine⟨?_,fn,U,v,W,hy,ah.mono ?_⟩
  ·obtain⟨F,n,J,k,fd,_,_,_,_,_,h6,_⟩:=ha;exact h6
  ·rintro e W' (⟨rfl,hB,ad⟩|⟨rfl,hE,hD⟩)
   ·exact av_ ⟨rfl,ad,hB,S⟩
   ·exact as_ ⟨rfl,as_ ⟨hE,hD⟩⟩
 ·exact av_ ⟨h.2.2 rfl,h.1⟩
 ·obtain⟨hr,⟨F,n,J,o,B,M,h4,h5,h6,h7⟩,S⟩:=h
  have aj:m.t=J.time:=by
   obtain⟨s2,e1,e2,_⟩:=B.sv;obtain rfl:=SV.val_inj e1;exact e2
  have ai:=(Z.sta M).1.time;refine⟨aA o.cb.1 rfl,h5,gk-1,by omega,?_⟩
  refine(o.next Z E D m J B M rfl h4 h7).mono ?_
  rintro e y ⟨u,ok,rfl,z,G,s,O,X,Q⟩;have r:y.heap[b]?=some (.cells m.cells 108 (0,0)):=by rw[z b (aS_ ..)];exact h5
  have p:∀x∈[b],x∈(b::C.all)/\C.bo<x:=fun x w=>by
   obtain rfl:=aD_.1 w;exact⟨aS_ ..,by simp only[MCtx.bo];omega⟩
  have d:∀x∈[C.w.heap.size+3,C.w.heap.size+3+1],(dR y b u).heap[x]?=wr.heap[x]?:=fun x w=>by
   have ab:x∈C.all:=by simp at w;rcases w with rfl|rfl<;>simp[MCtx.all]
   rw[cV _ _ _ _ (by simp at w;omega),z x (aJ_ _ ab)]
  have L:Mvg C (b::C.all) G s J.time true (dR y b u):=O.but (But.set5 _ _ _) p;refine⟨u,ok,rfl,⟨_,r,rfl⟩,Y wr _ hr (d _ (by simp)) (d _ (by simp)),fun e=>?_,fun e=>?_⟩
  ·obtain⟨q,a1,a2,a3,a4,a5,a6⟩:=X e;exact⟨⟨G,s,q,J.time,true,L,a1.but O.live (But.set5 _ _ _) fun x w=>(p x w).1,a2,a3,a4,qG r rfl,h6,h7⟩,by omega⟩
  ·exact⟨G,s,J.time,true,J,L.more (L.live.drop fun x w=>aJ_ _ w) (fun _ h=>h),M,Q e⟩
 ·rintro e W' ⟨rfl,h|h⟩
  ·exact⟨⟨_,rfl⟩,0,h.1,av_ h.2⟩
  ·exact⟨⟨_,rfl⟩,0,h.1,as_ h.2⟩
def o9(args:Array Value)(W:World):(callFunc 118 args).run prog W=.ok (.enter 118 args) W:=(enters_of Tryz.func118 (by kernel_rfl) rfl) args W
def XF(args:Array Value)(W:World):(callFunc 66 args).run prog W=.ok (.enter 66 args) W:=(enters_of Tryz.func66 (by kernel_rfl) rfl) args W
section
variable {fp:Nat->Value} {F:Nat->Prop} {w:World} {sb mb n:Nat} {mo:Obj} {ks:List aC} {tape:List Int} {s:bI} {L:List Nat}
def JF(fp:Nat->Value)(sb mb:Nat)(mo:Obj)(ks:List aC)(tape:List Int)(L:List Nat)(T:bI->Bool->Prop)(w:World)(b:Bool)(w':World):Prop:=∃G n' τ,Live fp G w' sb mb mo ks tape τ n' L/\T τ b/\FS sb w w'
def af_(fp:Nat->Value)(sb mb:Nat)(mo:Obj)(ks:List aC)(tape:List Int)(s:bI)(p:bI->Bool)(gn:Nat)(lf:Array Value):Prop:=
 ∀(F:Nat->Prop) (n:Nat) (L:List Nat) (W:World) (v:SV) (σ:bI),Live fp F W sb mb mo ks tape s n L->kR fp F W v.val σ->cE ks tape σ.time=some σ->Calls prog gn (#[v.val]++lf) W fun e W'=>e=.returned (.bool (p σ))/\Below W.heap.size W W'
def PL(hg:Good ks)(al:tape.length<=17592186044416)(h:Live fp F w sb mb mo ks tape s n L)(bb:Nat)(ap:bb∈L)(ac:w.heap[bb]?=some (.cells #[.pointer (some ⟨sb,0,none⟩)] 39 (0,0)))
 (p:bI->Bool) (J:Nat) (Y:Array Value) (aq:∀O W,(callFunc J O).run prog W=.ok (.enter J O) W) (ag:af_ fp sb mb mo ks tape s p J Y):
 Calls prog 64 #[.pointer (some ⟨sb,0,none⟩),.func (.func 118) #[] #[.pointer (some ⟨bb,0,none⟩)],.func (.func J) #[] Y] w fun e w'=>∃b,e=.returned (.bool b)/\JF fp sb mb mo ks tape L (F5 (cE ks tape) p s) w b w':=by
 obtain⟨s0,av,k0,k1,k2,k3,k4,_⟩:=h.ses.cells;have I:=h.ses.lt;obtain⟨C,j⟩:∃C:MCtx,C=⟨fp,sb,mb,mo,ks,tape,s,p,bb,.func (.func J) #[] Y,w,L,fwd s⟩:=⟨_,rfl⟩;have af:Good C.ks:=by rw[j];exact hg
 have d:C.w=w:=by rw[j]
 have ao:C.s=s:=by rw[j]
 have S:C.p=p:=by rw[j]
 have D:C.st=cE ks tape:=by rw[j];rfl
 have A:C.le=fwd C.s:=by rw[j]
 refine IQ (τ:=Nat) w sb 118 J #[.pointer (some ⟨bb,0,none⟩)] Y s0 (fun b w'=>JF fp sb mb mo ks tape L (F5 (cE ks tape) p s) w b w')
  (fun t=>s6 C (t::C.all) t) (x6 C) (fun t y b W=>s6 C (b::t::C.all) t y W/\W.heap[b]?=some (.cells y.cells 108 (0,0))/\C.w.heap.size+3+1<b) (fun _=>j7 C) I k0 k1 k2 k3 k4 o9 aq
  (fun t y b W r h=>?_) (fun t y W r h=>?_) (fun _ W r h=>?_) (fun t y W h=>?_) (fun t y b W h=>?_) (fun _ W hE=>?_) (fun G u=>?_)
 ·obtain⟨g,K,z⟩:=h;rw[<-d];exact⟨g.put _,by rw[World.putObj_heap_other (by omega)];exact K,z⟩
 ·rw[<-d];exact h.put _
 ·rw[<-d];exact h.put _
 ·obtain⟨F,n,Z,k,fd,g,K,z,h4,h5,h6,h7,h8⟩:=h;have hl:=g.lt;rw[<-d];refine⟨⟨⟨F,n,Z,k,fd,g.alloc _,K.but g.live (But.alloc _ _ []) fun b a=>(by cases a),z,h4,h5,by rw[aA_ _ _ _ (aD h6)];exact h6,h7,h8⟩,aM _ _ rfl _,hl⟩,hl⟩
 ·obtain⟨⟨F,n,Z,k,fd,g,K,z,h4,h5,h6,h7,h8⟩,h9,au⟩:=h;have hl:=g.lt;have aa:=g.cf;have B:=g.co;obtain⟨s2,τ,a1,a2,a3,a4⟩:=g.ct;have o:=g.le;rw[A] at o;have f:=g.set K z h5 (by rw[A];exact⟨by have:=o.1;omega,by simp;have:=o.1;omega⟩)
  have v:C.bt=w.heap.size+1:=by rw[<-d];rfl
  have q:C.bo=w.heap.size+1+1:=by rw[<-d];rfl
  have ax:C.bf=w.heap.size:=by rw[<-d];rfl
  rw[d] at hl h7 au;rw[ax] at aa;rw[q] at B;rw[v] at a1;have an:C.fv=.func (.func J) #[] Y:=by rw[j]
  rw[an] at aa;refine⟨h9,aa,⟨_,a1,by simp[SV.cells]⟩,⟨_,B⟩,by omega,by omega,by omega,?_⟩
  have U:But ([C.bt]++[C.bo]) W ((dR W C.bt y).setCell ⟨C.bo,0,none⟩ (.bool true)):=(But.set5 W C.bt y).trans (But.set _ _ _);have H:=K.but g.live U fun x hm=>g.mem x (by simp at hm;rcases hm with rfl|rfl<;>simp[MCtx.all])
  have X:((dR W C.bt y).setCell ⟨C.bo,0,none⟩ (.bool true)).heap[t]?=some (.cells y.cells 108 (0,0)):=by
   rw[U.blk t (aD h6) (by simp[v,q];omega)];exact h6
  have T:∀x,x=w.heap.size+3\/x=w.heap.size+3+1->((dR W C.bt y).setCell ⟨C.bo,0,none⟩ (.bool true)).heap[x]?=W.heap[x]?:=fun x hx=>U.blk x (by omega) (by simp[v,q];omega)
  rw[<-q,<-v];generalize (dR W C.bt y).setCell ⟨C.bo,0,none⟩ (.bool true)=V at f H X T ⊢
  have am:=f.lt;rw[d] at am;have l:=f.live;rw[j] at l H;have ae:=z;rw[D] at ae;refine(ag F n _ V y Z l H ae).mono ?_;rintro e W' ⟨rfl,a⟩;refine⟨p Z,rfl,⟨by rw[a.block _ (by omega)];exact T _ (av_ rfl),by rw[a.block _ (by omega)];exact T _ (as_ rfl)⟩,fun hp=>?_,fun hp=>?_⟩
  ·refine⟨F,n,Z.time,true,Z,(f.but (But.below a []) fun b a=>by cases a).more ((f.live.but (But.below a []) fun b a=>(by cases a)).drop fun x hx=>by simp[hx]) (fun _ h=>h),z,as_ ⟨rfl,by have:=o.1;omega,z,fun t' x q1 q2 q3=>h8 t' x q1 (by omega) q3,av_ (by rw[S];exact hp)⟩⟩
  ·refine⟨F,n,Z,(f.but (But.below a []) fun b a=>by cases a).more ((f.live.but (But.below a []) fun b a=>(by cases a)).drop fun x hx=>aJ_ _ hx) (fun x hx=>aJ_ _ hx),?_,z,h5,by rw[a.block _ (aD X)];exact X,by rw[d];exact h7,h8.succ h4 z (by rw[S];exact hp)⟩
   rw[j];exact H.but l (But.below a []) fun b a=>by cases a
 ·obtain⟨F,n,k,fd,τ,g,K,z⟩:=hE;obtain⟨s2,ah,a1,a2,a3,a4⟩:=g.ct;obtain rfl:ah=τ:=by rw[K] at a3;cases a3;rfl
  have N:=(af.sta a3).2.1;have B:=g.co;have hl:=g.lt;have l:=g.live;have ad:=g.fr.1;have Q:=g.fr.2.2;have v:C.bt=w.heap.size+1:=by rw[<-d];rfl
  have q:C.bo=w.heap.size+1+1:=by rw[<-d];rfl
  rw[v] at a1;rw[q] at B;rw[d] at hl;rw[j] at l ad Q;rw[D] at a3;rw[j] at a2;obtain⟨_,_,_,_,_,_,_,c,ar,ak⟩:=l.ses.cells;refine⟨s2,fd,a1,B,⟨c,_,ar,ak⟩,?_⟩;obtain⟨g1,g2⟩:=l.go a2 (by rw[N];exact a3) (by rw[N];exact a4)
  have ai:∀b∈[w.heap.size+3],b∈C.all:=fun b a=>by
   obtain rfl:=aD_.1 a;simp[MCtx.all,d]
  rw[D,S,ao] at z;rw[j] at ai;refine⟨F,n,ah,(g1.but (But.put _ (w.heap.size+3) _) ai).drop fun b a=>by simp[MCtx.all,a],z,(ad.trans g2).but (But.put _ (w.heap.size+3) _) (fun b a=>?_) I⟩
  obtain rfl:=aD_.1 a;show w.heap.size<=w.heap.size+3
  omega
 ·have ab:G.heap.size=w.heap.size+3:=by rw[u];simp
  have aw:∀b,F b->b<w.heap.size:=fun b a=>(h.ses.fix b a).1
  have E:∀i,Below w.heap.size w ((G.alloc (.deferred (some []))).alloc (.loop i)):=fun i=>by
   rw[u];exact(((((ay_ _ w).alloc (au_ _) _).alloc (by simp only[World.size_alloc];omega) _).alloc (by simp only[World.size_alloc];omega) _).alloc (by simp only[World.size_alloc];omega) _).alloc (by simp only[World.size_alloc];omega) _
  have aj:∀i,kR fp F ((G.alloc (.deferred (some []))).alloc (.loop i)) s0.val s:=fun i=>av.keep (fun b a=>(E i).block b (aw b a)) fun _ h=>h
  have P:∀i k,k<G.heap.size->((G.alloc (.deferred (some []))).alloc (.loop i)).heap[k]?=G.heap[k]?:=fun i k hk=>by rw[aA_ _ _ _ (by simp only[World.size_alloc];omega),aA_ _ _ _ hk]
  have M:C.bb=bb:=by rw[j]
  rw[<-M];refine UN (C:=C) (F:=F) (n:=n) af A (by rw[j];exact al) s0 G (by rw[d];exact ab) (fun i=>?_) (fun i=>?_)
  clear M
  ·have m:=((((h.alloc (.cells #[.func (.func J) #[] Y] 132)).alloc (.cells s0.cells 108)).alloc (.cells #[.bool false] 4)).alloc (.deferred (some []))).alloc (.loop i);simp only[World.size_alloc] at m;rw[<-u] at m;have Q:∀b∈L,b<w.heap.size:=fun b a=>(h.loc b a).2.1
   have c1:G.heap[w.heap.size]?=some (.cells #[.func (.func J) #[] Y] 132 (0,0)):=by
    rw[u,aA_ _ _ _ (by simp only[World.size_alloc];omega),aA_ _ _ _ (by simp only[World.size_alloc];omega)];exact aM _ _ rfl _
   have c2:G.heap[w.heap.size+1]?=some (.cells s0.cells 108 (0,0)):=by
    rw[u,aA_ _ _ _ (by simp only[World.size_alloc];omega)];exact aM _ _ (by simp only[World.size_alloc]) _
   have c3:G.heap[w.heap.size+1+1]?=some (.cells #[.bool false] 4 (0,0)):=by
    rw[u];exact aM _ _ (by simp only[World.size_alloc]) _
   rw[j];exact⟨m,fun _ h=>h,by rw[P i _ (by simp only[MCtx.bf];omega)];exact c1,⟨by rw[(E i).block _ (aD ac)];exact ac,ap⟩,⟨s0,s,by rw[P i _ (by simp only[MCtx.bt];omega)];exact c2,aj i,h.ses.now,h.hn⟩,by rw[P i _ (by simp only[MCtx.bo];omega)];exact c3,⟨au_ _,by simp⟩,FS.of_below (E i) I,I,Q⟩
  ·rw[j];exact aj i
def vK(v:SV)(W:World):Calls prog 66 (#[v.val]++ #[]) W fun e a=>e=.returned (.bool true)/\Below W.heap.size W a:=by
 show Calls _ _ #[v.val] _ _
 unfold SV.val;go_enter Tryz.func66,Tryz.ntmps66;go_wp2_with fail;go_ret;exact⟨rfl,(ay_ _ W).alloc (au_ _) _⟩
def A7(sb:Nat)(W:World):Calls prog 65 #[.pointer (some ⟨sb,0,none⟩)] W fun e b=>e=.returned (.func (.func 118) #[] #[.pointer (some ⟨W.heap.size,0,none⟩)])/\b=W.alloc (.cells #[.pointer (some ⟨sb,0,none⟩)] 39):=by
 have c:∀(a:Value) (w:World),(Instr.makeFunc (.func 118) #[] #[a]).run prog w=.ok (.func (.func 118) #[] #[a]) w:=fun _ _=>rfl
 go_enter Tryz.func65,Tryz.ntmps65;go_wp2_with fail;go_ret;exact⟨rfl,rfl⟩
def YA(sb:Nat)(w:World)(P:Bool->World->Prop)
 (c:Hid (Calls prog 64 #[.pointer (some ⟨sb,0,none⟩),.func (.func 118) #[] #[.pointer (some ⟨w.heap.size,0,none⟩)],.func (.func 66) #[] #[]] (w.alloc (.cells #[.pointer (some ⟨sb,0,none⟩)] 39)) fun e a=>∃b,e=.returned (.bool b)/\P b a)):
 Calls prog 28 #[.pointer (some ⟨sb,0,none⟩)] w fun e a=>∃b,e=.returned (.bool b)/\P b a:=by
 have f:=aB (A7 sb w);go_enter Tryz.func28,Tryz.ntmps28;go_wp2_with fail;refine f.out.mono ?_;rintro e h ⟨rfl,rfl⟩;clear f;go_wp2_with fail;refine c.out.mono ?_;rintro e i ⟨b,rfl,d⟩;have g:=aB d;clear d c;go_wp2_with fail;go_ret;exact⟨b,rfl,g.out⟩
def NE(m:Good ks)(c:tape.length<=17592186044416)(h:Live fp F w sb mb mo ks tape s n L):
 Calls prog 28 #[.pointer (some ⟨sb,0,none⟩)] w fun e d=>∃b,e=.returned (.bool b)/\JF fp sb mb mo ks tape L (F5 (cE ks tape) (fun _=>true) s) w b d:=by
 refine YA sb w _ ((PL m c (h.alloc (.cells #[.pointer (some ⟨sb,0,none⟩)] 39)) w.heap.size (aS_ ..) (aM _ _ rfl _) (fun _=>true) 66 #[] XF fun F n L W v o _ _ _=>vK v W).mono ?_)
 rintro e d ⟨b,rfl,G,j,g,l,i,k⟩;have a:Below w.heap.size w (w.alloc (.cells #[.pointer (some ⟨sb,0,none⟩)] 39)):=(ay_ _ w).alloc (au_ _) _;exact⟨b,rfl,G,j,g,l.drop fun b f=>aJ_ _ f,i,(FS.of_below a h.ses.lt).trans k⟩
end
end Go.Proofs.YtblbkfdhjfppkaaGreatDoor
