/- All states of a run: plain facts that its being in memory needs. -/
import Derived.Test.YtddnpoiiimjpcaaGreatDoorP03
import Derived.Test.YtddnpoiiimjpcaaGreatDoorP33
import Derived.Test.YtddnpoiiimjpcaaGreatDoorP21
set_option linter.defProp false
set_option maxRecDepth 100000
set_option maxHeartbeats 4000000
namespace Go.Proofs.YtddnpoiiimjpcaaGreatDoor
open Hs
open _root_.Go.Proofs.Tryz
open Go.RowKit
def sG:∀(l:List aI) (a v:aI),(cN l a v).2<=9
 |[],_,_=>by simp[cN]
 |i::l,a,v=>by
  unfold cN;have:=sG l (a.l.getD i.n.toNat bN) v;repeat' split
  all_goals first|(simp;done)|exact this
def wZ{r:aI × Nat}(h:r.2<=9):(iC r).2<=9:=by
 unfold iC;split
 ·split
  ·simp
  ·exact h
 ·exact h
def VB(op:cE)(a b:aI):(eS op a b).2<=9:=by
 unfold eS jD jC;repeat' split
 all_goals first|(simp;done)|(simp only[];split<;>simp)
def WM(op:cE)(a:aI):(fO op a).2<=9:=by
 unfold fO;repeat' split
 all_goals simp
def NI(a b:aI):(dE a b).2<=9:=by
 unfold dE;repeat' split
 all_goals simp
def JH(a:aI):(eG a).2<=9:=by
 unfold eG;repeat' split
 all_goals simp
def JN(i:aG)(f:aJ):(aO i f).2<=9:=by
 cases i<;>simp only[aO]
 case assign k n=>
  have:=wZ (sG (f.pop.many n) (f.vars[k]?.getD bN) f.last);split
  ·simp
  ·exact this
 case unary op=>
  have:=WM (op++[120]) f.last;split
  ·simp
  ·exact this
 case binary op=>
  have:=VB op f.pop.last f.last;split
  ·simp
  ·exact this
 case index=>
  have:=NI f.pop.last f.last;split
  ·simp
  ·exact this
 case list n=>
  have:=wZ (r:=(aW (f.many n),0)) (by simp)
  split
  ·simp
  ·exact this
 case length=>
  have:=JH f.last;split
  ·simp
  ·exact this
 all_goals (repeat' split)<;>simp
def G0(b:List eV)(i:aG)(a:List aJ)(f:aJ)(t:List Int)(o:cO):(cJ b i a f t o).2<=9:=by
 cases i<;>simp only[cJ]<;>first|exact JN _ _|skip
 case read=>cases t<;>simp
 case call=>split<;>simp
 case give=>simp
 case print=>split<;>simp
structure Rest(n:Nat)(m:cT):Prop where
 utf:fZ m
 out:m.out.length<=50
 tape:m.tape.length<=n
def pI{a:List eV}(o:jO a){n:Nat}:∀(k:Nat) (m:cT) (r:cT × Nat),Rest n m->dY a k m=some r->Rest n r.1/\r.2<=9
 |0,_,_,_,h=>by cases h
 |k+1,m,r,c,h=>by
  rw[dY] at h;cases j:m.frames.getLast? with
  |none=>
   rw[j] at h;simp only[Option.some.injEq] at h;subst h;exact⟨c,by simp⟩
  |some f=>
   rw[j] at h;simp only at h;cases e:f.fetch with
   |none=>rw[e] at h;cases h
   |some q=>
    obtain⟨i,g⟩:=q;rw[e] at h;simp only at h
    have d:m.frames=m.frames.dropLast++[f]:=by
     obtain⟨t,s⟩:=List.getLast?_eq_some_iff.1 j;rw[s];simp
    have b:fZ ⟨m.frames.dropLast++[f],m.tape,m.out⟩:=by
     have:=c.utf;unfold fZ at this ⊢
     rw[<-d];exact this
    have l:Rest n (cJ a i m.frames.dropLast g m.tape m.out).1:=⟨CM o b e,UM c.out,Z4 OI c.tape⟩;have p:=G0 a i m.frames.dropLast g m.tape m.out;split at h
    ·simp only[Option.some.injEq] at h;subst h;exact⟨l,p⟩
    ·split at h
     ·simp only[Option.some.injEq] at h;subst h;exact⟨l,p⟩
     ·exact pI o k _ _ l h
def FJ{a:List eV}(d:jO a){n:Nat}{m0:cT}(g:Rest n m0):∀(t:Nat) (s:cD),fT a m0 t=some s->Rest n s.m/\s.stop<=9
 |0,s,h=>by
  rw[fT] at h;cases b:dY a jR m0 with
  |none=>rw[b] at h;cases h
  |some r=>
   rw[b] at h;simp only[z8,Option.some.injEq] at h;subst h;obtain⟨c,i⟩:=pI d _ _ _ g b;exact⟨c,by simp only[bU];split<;>omega⟩
 |t+1,s,h=>by
  rw[fT] at h;cases e:fT a m0 t with
  |none=>rw[e] at h;cases h
  |some f=>
   rw[e] at h;simp only at h;split at h
   ·cases b:dY a jR f.m with
    |none=>rw[b] at h;cases h
    |some r=>
     rw[b] at h;simp only[z8,Option.some.injEq] at h;subst h;obtain⟨c,i⟩:=pI d _ _ _ (FJ d g t f e).1 b;exact⟨c,by simp only[bU];split<;>omega⟩
   ·cases h
def YP(s:ByteArray)(w:aH)(c:s.size<=281474976710656):Calls prog 43 #[.string s] w fun e w'=>e=bE (.string s)/\Below w.heap.size w w':=by
 have d:=aB (stringslite_Clone s w c);go_in
 go_wp2_with fail;refine d.mono ?_;rintro e f ⟨rfl,a⟩;have b:=aB a;clear a;go_wp2
 go_ret;exact⟨rfl,b⟩
def QH(a:ByteArray)(b p:Nat)(w:aH)(z:lD w)(I:a.size<=281474976710656)(J:w.cell? (aL b 0)=some (.string a))(s:w.heap[p]?=some (.cells #[bV] 91 (0,0))):
 Calls prog 41 #[bO b,bO p] w fun e w'=>
  (dQ a.data.toList=(0,0)/\e=bE (.tuple #[])/\∃o v ks,Below w.heap.size w o/\dA a.data.toList=.ok ks/\FSl (Btw w.heap.size o.heap.size) o v ks/\w'=o.setCell (aL p 0) v)\/
  ((dQ a.data.toList).1≠0/\e=dF (dQ a.data.toList).1 (dQ a.data.toList).2/\Below w.heap.size w w'):=by
 have B:=aB (YP a w I);have C:Hid (∀W,Below w.heap.size w W->Calls prog 42 #[.string a] W (FM a.data.toList W)):=fun W D=>WC a W (z.below D) (by unfold maxLen;omega)
 have u:=aB s;have H:=aD s;clear z s;go_in
 go_wp2_with fail;refine B.mono ?_;rintro e o ⟨rfl,n⟩;have m:=aB (C o n);have d:=aB n;clear C B n;go_wp2_with fail;refine m.mono ?_;rintro e t ⟨f,⟨q,v,ks,rfl,A,r⟩|⟨q,rfl⟩⟩
 ·have l:=d.trans (f.mono d.size);have h:t.heap[p]?=some (.cells #[bV] 91 (0,0)):=by rw[l.block _ H];exact u
  have L:=aA h (i:=0) rfl;have K:=aE h (i:=0);have M:=aD h
  obtain⟨x,c,rfl⟩:∃x c,v=.slice x ks.length c:=by
   rcases r with ⟨rfl,rfl⟩|⟨g,E,F,N,rfl,_⟩
   ·exact⟨none,0,rfl⟩
   ·exact⟨_,_,rfl⟩
  have j:=aB (j6 q (j6 A (j6 l (r.grow (G:=Btw w.heap.size t.heap.size) (fun _ _=>rfl) (fun k y=>⟨Z4 d.size y.1,y.2⟩)))))
  clear q A r f l h m d u;go_wp2
  go_end0;exact Y4 ⟨j.1,rfl,t,_,ks,j.2.2.1,j.2.1,j.2.2.2,rfl⟩
 ·have j:=aB (j6 q (d.trans (f.mono d.size)));clear q f m d u;go_wp2_with fail;exact⟨rfl,Y3 ⟨j.1,rfl,j.2⟩⟩
def D8(w:aH):(Instr.makeMap 64 none).run prog w=.ok (.map (some w.heap.size)) (w.alloc (.map #[] 0)):=rfl
def NJ(w:aH)(p:ByteArray)(x:Option Addr)(n c:Nat)(P:Value->World->Prop)(A:World->Prop)(S:Nat->Value->Value->Value->Nat->World->Prop)
 (u:Hid (Calls prog 40 #[.func (.func 41) #[] #[bO w.heap.size,bO (w.heap.size+1)]] ((w.alloc (.cells #[.string p] 9)).alloc (.cells #[bV] 91)) fun e w'=>(e=bE (.tuple #[Iv0 0,Iv0 0])/\A w')\/∃k l:Nat,k≠0/\e=bE (.tuple #[Iv0 k,Iv0 l])/\P (.tuple #[.pointer none,Iv0 k,Iv0 l]) w'))
 (t:Hid (∀W,A W->∃r y z,W.cell? (aL (w.heap.size+1) 0)=some (.slice r y z)/\w.heap.size+1<W.heap.size/\Calls prog 44 #[.slice r y z,.slice x n c] W fun e w'=>∃(a:Nat) (j h b:Option Addr) (i m d c1 f g q:Nat),e=bE (.agg #[Iv0 a,.slice j i c1,.slice h m f,.slice b d g,Iv0 q])/\S a (.slice j i c1) (.slice h m f) (.slice b d g) q w'))
 (B:Hid (∀(a:Nat) (j h b:Option Addr) (i m d c1 f g q:Nat) W,S a (.slice j i c1) (.slice h m f) (.slice b d g) q W->Calls prog 45 #[bO (W.heap.size+1),.agg #[Iv0 a,.slice j i c1,.slice h m f,.slice b d g,Iv0 q]] ((W.alloc (.map #[] 0)).alloc (.cells #[Iv0 a,.slice j i c1,.slice h m f,.slice b d g,Iv0 q,bV,.map (some W.heap.size)] 66)) fun e w'=>e=bE (.tuple #[])/\P (.tuple #[bO (W.heap.size+1),Iv0 0,Iv0 0]) w')):
 Calls prog 22 #[.string p,.slice x n c] w fun e w'=>∃v,e=bE v/\P v w':=by
 have H:=D9;have G:=D8;go_in
 go_wp2_with fail;refine u.mono ?_;rintro e M (⟨rfl,o⟩|⟨k,l,O,rfl,o⟩)
 ·obtain⟨r,y,z,K,T,D⟩:=t _ o;have F:=aB D;clear o D u t;go_wp2_with fail;refine F.mono ?_;rintro e Q ⟨a,j,h,b,i,m,d,c1,f,g,q,rfl,C⟩;have s:=aB (B _ _ _ _ _ _ _ _ _ _ _ _ C);clear C B F K;go_wp2_with fail;refine s.mono ?_;rintro e N ⟨rfl,E⟩;have I:=aB E;clear E;go_wp2
  go_ret3
  exact⟨_,rfl,I⟩
 ·have L:=aB o;have J:¬(k:Int)=0:=by omega
  clear o u t B;go_wp2
  go_ret3
  exact⟨_,rfl,L⟩
structure Good(ks:List aC):Prop where
 fl:ks.length<=90000
 ok:∀f∈ks,jY ks 2001 f
 lit:∀f∈ks,∀k∈f.kids,mF k
 kl:∀f∈ks,f.kids.length<=40000
 main:fW ks (dD ks [109,97,105,110])=some 0
 utf:jO (dV ks 2001)
noncomputable def dM(ks:List aC)(tape:List Int):Nat->Option cD:=fT (dV ks 2001) (gV ks 2001 tape)
def Good.rest0{ks:List aC}(h:Good ks)(a:List Int):Rest a.length (gV ks 2001 a):=by
 refine⟨?_,by simp[gV],by simp[gV]⟩
 intro f c;simp only[gV,Z1] at c;subst c;refine⟨?_,fun v b=>by simp at b,fun v b=>by simp at b⟩
 show uO ((dV ks 2001)[dD ks [109,97,105,110]]?.getD ⟨[],[]⟩)
 cases d:(dV ks 2001)[dD ks [109,97,105,110]]? with
 |none=>exact⟨fun v b=>by simp at b,fun v b=>by simp at b⟩
 |some f=>exact h.utf f (p8 d)
def Good.first{ks:List aC}(h:Good ks)(a:List Int):∃r,dY (dV ks 2001) jR (gV ks 2001 a)=some r/\r.2<=9/\dM ks a 0=some ⟨0,r.1,bU 0 r.2⟩:=by
 obtain⟨r,b,_⟩:=oE (lI h.ok) (sY h.ok h.main a);exact⟨r,b,(pI h.utf _ _ _ (h.rest0 a) b).2,by simp[dM,fT,b]⟩
def P9(a b:aQ)(W:aH):(callFunc 41 #[a,b]).run prog W=.ok (.enter 41 #[a,b]) W:=by kernel_rfl
def I3(src:cE)(tape:List Int)(w:aH)(v:aQ)(w':aH):Prop:=
 Below w.heap.size w w'/\
 ((dQ src=(0,0)/\∃ks fp G sb mb,dA src=.ok ks/\v=.tuple #[bO sb,Iv0 0,Iv0 0]/\w.heap.size<=sb/\w.heap.size<=mb/\lA fp G w' (dV ks 2001)/\∃s,kS fp G w' sb mb (.map #[] 0) (dM ks tape) s 1/\s.time=0/\∀b,G b->Nw w b)\/
  ((dQ src).1≠0/\v=.tuple #[.pointer none,Iv0 (dQ src).1,Iv0 (dQ src).2]))
def SI(j:ByteArray)(tv:aQ)(s:List Int)(w:aH)(hT:lD w)(hp:lB w)(hs:j.size<=281474976710656)(ht:UQ w tv s)(ao:s.length<=17592186044416)
 (hg:∀ks,dA j.data.toList=.ok ks->dQ j.data.toList=(0,0)->Good ks):
 Calls prog 22 #[.string j,tv] w fun e w'=>∃v,e=bE v/\I3 j.data.toList s w v w':=by
 obtain⟨tx,tn,tc,rfl⟩:∃x n c,tv=.slice x n c:=by
  rcases ht with ⟨_,rfl⟩|⟨g,o,c,rfl,_⟩
  ·exact⟨_,_,_,rfl⟩
  ·exact⟨_,_,_,rfl⟩
 obtain⟨m,B⟩:∃m,m=(w.alloc (.cells #[.string j] 9)).alloc (.cells #[bV] 91):=⟨_,rfl⟩;have aa:Below w.heap.size w m:=by rw[B];exact((Y8 _ _).alloc dH _).alloc (by simp) _
 have ar:m.heap.size=w.heap.size+2:=by rw[B];simp
 have an:m.heap[w.heap.size]?=some (.cells #[.string j] 9 (0,0)):=by rw[B];exact nY _ _ _
 have ac:m.heap[w.heap.size+1]?=some (.cells #[bV] 91 (0,0)):=by rw[B];exact lK _ _ _
 generalize P:dQ j.data.toList=rd at*
 refine(NJ w j tx tn tc (fun v w'=>I3 j.data.toList s w v w')
  (fun W=>rd=(0,0)/\∃lo z K A ks,dA j.data.toList=.ok ks/\Below w.heap.size w W/\W.cell? (aL (w.heap.size+1) 0)=some (.slice z K A)/\w.heap.size+1<W.heap.size/\FSl (Btw lo W.heap.size) W (.slice z K A) ks)
  (fun a v1 v2 v3 q W=>rd=(0,0)/\∃(ks:List aC) (Y:fN) (G:cC) (r:cT × Nat),dA j.data.toList=.ok ks/\Below w.heap.size w W/\(∀b,G b->b<W.heap.size/\Nw w b)/\lA Y G W (dV ks 2001)/\a=0/\q=bU 0 r.2/\nO Y G W (.agg #[Iv0 ((0:Nat):Int),v1,v2,v3,Iv0 (bU 0 r.2)]) ⟨0,r.1,bU 0 r.2⟩/\dM ks s 0=some ⟨0,r.1,bU 0 r.2⟩)
  ?_ (fun W hA=>?_) (fun a x1 x2 x3 n1 n2 n3 c1 c2 c3 q W hS=>?_))
 ·show Calls _ _ _ _ _
  rw[<-B]
  refine(NT 41 (some (aL w.heap.size 0)) (some (aL (w.heap.size+1) 0)) m
   (fun W=>rd=(0,0)/\∃z K A ks w1,dA j.data.toList=.ok ks/\Below (m.heap.size+2) ((m.alloc (.cells #[Iv0 0] 39)).alloc (.cells #[Iv0 0] 3)) w1/\FSl (Btw (m.heap.size+2) w1.heap.size) w1 (.slice z K A) ks/\W=w1.setCell (aL (w.heap.size+1) 0) (.slice z K A))
   (fun k l=>rd=(k,l)) (fun W=>P9 _ _ W) (fun W hW=>?_)).mono ?_
  ·have u:Below m.heap.size m W:=by rw[hW];exact((Y8 _ _).alloc dH _).alloc (by simp) _
   have X:W.heap.size=m.heap.size+2:=by rw[hW];simp
   have hK:W.heap[m.heap.size]?=some (.cells #[Iv0 0] 39 (0,0)):=by rw[hW];exact nY _ _ _
   have hI:W.heap[m.heap.size+1]?=some (.cells #[Iv0 0] 3 (0,0)):=by rw[hW];exact lK _ _ _
   refine(QH j w.heap.size (w.heap.size+1) W ((hT.below aa).below u) hs (aA (by rw[u.block _ (by omega)];exact an) rfl) (by rw[u.block _ (by omega)];exact ac)).mono ?_
   rintro e w' (⟨M,E,w1,v,ks,H,t,h3,O⟩|⟨M,E,H⟩)
   ·obtain⟨z,A,rfl⟩:∃x c,v=.slice x ks.length c:=by
     rcases h3 with ⟨rfl,rfl⟩|⟨g,au,aq,us,rfl,_⟩
     ·exact⟨none,0,rfl⟩
     ·exact⟨_,_,rfl⟩
    have ab:∀k,m.heap.size<=k->k<W.heap.size->w'.heap[k]?=W.heap[k]?:=fun k y ag=>by
     rw[O,Y6 _ _ _ _ (show k≠w.heap.size+1 by omega),H.block k ag]
    refine Y4 ⟨E,by rw[ab _ dH (by omega)];exact hK,by rw[ab _ (by omega) (by omega)];exact hI,by rw[<-P];exact M,z,_,A,ks,w1,t,?_,?_,O⟩
    ·rw[<-hW,<-X];exact H
    ·rw[<-X];exact h3
   ·refine Y3 ⟨_,_,M,E,H,?_⟩;rw[<-P]
  ·rintro e w' (⟨E,w1,⟨M,z,K,A,ks,w0,H,t,h3,O⟩,h5⟩|⟨k,l,y,E,J,hE⟩)
   ·refine Y4 ⟨E,M,m.heap.size+2,z,K,A,ks,H,?_⟩;have ak:Below w.heap.size w w0:=aa.trans ((((Y8 m.heap.size m).alloc dH _).alloc (by simp) _).mono (by omega) |>.trans (t.mono (by omega)))
    have ah:w'.heap.size=w0.heap.size:=by rw[h5,O];simp
    have aj:=t.size;simp only[World.size_alloc] at aj
    have af:∀k,k≠w.heap.size+1->k≠m.heap.size->k≠m.heap.size+1->w'.heap[k]?=w0.heap[k]?:=fun k q1 q2 q3=>by
     rw[h5,Y6 _ _ _ _ (show k≠m.heap.size+1 from q3),Y6 _ _ _ _ (show k≠m.heap.size from q2),O,Y6 _ _ _ _ (show k≠w.heap.size+1 from q1)]
    have hB:w'.heap[w.heap.size+1]?=some (.cells #[.slice z K A] 91 (0,0)):=by
     rw[h5,Y6 _ _ _ _ (show w.heap.size+1≠m.heap.size+1 by omega),Y6 _ _ _ _ (show w.heap.size+1≠m.heap.size by omega),O]
     have:w0.heap[w.heap.size+1]?=some (.cells #[bV] 91 (0,0)):=by
      rw[t.block _ (by omega),Z3 _ _ _ (by simp;omega),Z3 _ _ _ (by omega)];exact ac
     rw[aT this];rfl
    refine⟨?_,aA hB rfl,by omega,?_⟩
    ·rw[h5,O];exact((ak.setCell (show w.heap.size<=w.heap.size+1 by omega) _).setCell (show w.heap.size<=m.heap.size by omega) _).setCell (show w.heap.size<=m.heap.size+1 by omega) _
    ·exact h3.grow (fun b J=>af b (by have:=J.1;omega) (by have:=J.1;omega) (by have:=J.1;omega)) (fun b J=>⟨J.1,by rw[ah];exact J.2⟩)
   ·refine Y3 ⟨k,l,y,E,aa.trans (J.mono (by omega)),Y3 ?_⟩
    rw[P,hE];exact⟨y,rfl⟩
 ·obtain⟨M,lo,z,K,A,ks,H,t,h3,O,h5⟩:=hA;refine⟨z,K,A,h3,O,?_⟩;have h:=hg ks H M;obtain⟨r,ai,ap,al⟩:=h.first s
  refine(RM (lo:=lo) (d:=2001) _ _ W h5 h.fl h.ok h.lit (fun f V=>Z4 (h.kl f V) (by omega)) h.main ?_ ao (hp.below t) h.utf ai (by omega)).mono ?_
  ·rcases ht with ht|⟨g,o,c,e,ae,hc⟩
   ·exact Y4 ht
   ·exact Y3 ⟨g,o,c,e,Y7 ae t.size,fun i hi=>⟨(t.cell (p:=(aL g (o+i))) ae).trans (hc i hi).1,(hc i hi).2⟩⟩
  ·rintro e w' ⟨v',E,J,Y,G,U,I,Q⟩;obtain⟨f',t',o',rfl,⟨x1,n1,c1,rfl⟩,⟨x2,n2,c2,rfl⟩,⟨x3,n3,c3,rfl⟩⟩:=Q.form;exact⟨0,x1,x2,x3,n1,n2,n3,c1,c2,c3,_,E,M,ks,Y,G,r,H,t.trans (J.mono t.size),fun b N=>⟨(U b N).1,(U b N).2.nw.of t⟩,I,rfl,rfl,Q,al⟩
 ·obtain⟨M,ks,Y,G,r,H,t,U,I,rfl,rfl,Q,S⟩:=hS;obtain⟨L,D⟩:∃L,L=(W.alloc (.map #[] 0)).alloc (.cells #[Iv0 ((0:Nat):Int),.slice x1 n1 c1,.slice x2 n2 c2,.slice x3 n3 c3,Iv0 (bU 0 r.2),bV,.map (some W.heap.size)] 66):=⟨_,rfl⟩;have u:Below W.heap.size W L:=by rw[D];exact((Y8 _ _).alloc dH _).alloc (by simp) _
  have X:L.heap.size=W.heap.size+2:=by rw[D];simp
  have hM:L.heap[W.heap.size]?=some (.map #[] 0):=by rw[D];exact nY _ _ _
  have hB:L.heap[W.heap.size+1]?=some (.cells #[Iv0 ((0:Nat):Int),.slice x1 n1 c1,.slice x2 n2 c2,.slice x3 n3 c3,Iv0 (bU 0 r.2),bV,.map (some W.heap.size)] 66 (0,0)):=by rw[D];exact lK _ _ _
  rw[<-D];have T:=Q.keep (fun k y=>u.block k (U k y).1) eD
  have ad:kS Y G L (W.heap.size+1) W.heap.size (.map #[] 0) (dM ks s) ⟨0,r.1,bU 0 r.2⟩ 0:=by
   refine⟨⟨_,_,_,bV,[],hB,T,World.ownsRow_nil _ _ _ _,rfl,fun i hi=>by simp at hi,fun k y e=>?_,fun e=>?_⟩,S,fun k y=>?_,hM,by omega⟩
   ·simp[Value.ownBlock] at e
   ·simp[Value.ownBlock] at e
   ·have:=U k y;exact⟨by omega,by omega,by omega⟩
  refine(FK ad _ ⟨0,r.1,bU 0 r.2⟩ T S (fun _=>by simp) (by omega) (by simp)).mono ?_
  rintro e w' ⟨E,V,am⟩;have Z:=I.keep (fun k y=>u.block k (U k y).1) eD
  refine⟨E,?_,Y4 ⟨by rw[P];exact M,ks,Y,G,W.heap.size+1,W.heap.size,H,rfl,by have:=t.size;omega,t.size,?_,⟨0,r.1,bU 0 r.2⟩,by simpa using am,rfl,fun b N=>(U b N).2⟩⟩
  ·have C:Below w.heap.size w L:=t.trans (u.mono t.size);have F:lV (W.heap.size+1) L=none:=by rw[mA hB rfl];rfl
   exact⟨V.os.trans C.os,V.tape.trans C.tape,V.output.trans C.output,Z4 C.size V.size,fun k y=>by
    have:=t.size;rw[V.blk k (by omega) (by omega) (by rw[F];simp),C.block k y]⟩
  ·refine Z.keep (fun k y=>?_) eD
   have F:lV (W.heap.size+1) L=none:=by rw[mA hB rfl];rfl
   have:=U k y;exact V.blk k (by omega) (by omega) (by rw[F];simp)
def U1:prog.globalNamed "internal/strconv.uint64pow10"=some 0:=by kernel_rfl
def lB.low{w w':aH}(h:lB w)(a:∀k,k<9->w'.heap[k]?=w.heap[k]?):lB w':=h.keep U1 (a _ (by decide))
def nO.sv{b:fN}{F:cC}{w:aH}{v:aQ}{a:cD}(h:nO b F w v a):∃s:SV,v=s.val/\s.t=a.time/\s.q=a.stop:=by
 obtain⟨f,t,o,rfl,⟨l,k,e,rfl⟩,⟨j,m,g,rfl⟩,⟨c,d,i,rfl⟩⟩:=h.form;exact⟨⟨a.time,l,j,c,k,m,d,e,g,i,a.stop⟩,rfl,rfl,rfl⟩
section
variable {fp:fN} {F G:cC} {w w':aH} {sb mb n n':Nat} {mo:Obj} {st:Nat->Option cD} {s:cD}
def kS.same(h:kS fp F w sb mb mo st s n)(d:w.heap.size<=w'.heap.size)(c:∀k,F k\/k=sb\/k=mb\/lV sb w=some k->w'.heap[k]?=w.heap[k]?):kS fp F w' sb mb mo st s n:=by
 obtain⟨z,m,v,e,t,f,j,u,o,q,y,p⟩:=h.blk;have g:∀b,F b->w'.heap[b]?=w.heap[b]?:=fun b l=>c b (Y4 l)
 have r:lV sb w=e.ownBlock:=mA f rfl;refine⟨⟨z,m,v,e,t,by rw[c sb (Y3 (Y4 rfl))];exact f,j.keep g eD,bA u fun k a=>c k (Y3 (Y3 (Y3 (by rw[r];exact a)))),o,fun i x=>(q i x).keep g eD,y,p⟩,h.now,fun k a=>⟨Y7 (h.fix k a).1 d,(h.fix k a).2⟩,by rw[c mb (Y3 (Y3 (Y4 rfl)))];exact h.map.1,h.map.2⟩
def FS.other{b:Nat}(h:FS sb w w')(m:w.heap.size<=b)(j:sb<w.heap.size){c:aH}(d:c.heap.size=w'.heap.size)(a:c.os=w'.os/\c.tape=w'.tape/\c.output=w'.output)(f:∀k,k≠b->c.heap[k]?=w'.heap[k]?):FS sb w c:=
 ⟨a.1.trans h.os,a.2.1.trans h.tape,a.2.2.trans h.output,by rw[d];exact h.size,fun k i g l=>by rw[f k (by omega)];exact h.blk k i g l,fun k e=>h.row k (by rw[<-oG (f sb (by omega))];exact e)⟩
end
structure Live(fp:fN)(F:cC)(w:aH)(sb mb:Nat)(mo:Obj)(ks:List aC)(tape:List Int)(s:cD)(n:Nat)(L:List Nat):Prop where
 ses:kS fp F w sb mb mo (dM ks tape) s n
 tab:lA fp F w (dV ks 2001)
 pow:lB w
 low:9<=sb/\9<=mb
 hn:s.time/20<n
 loc:∀b∈L,9<=b/\b<w.heap.size/\¬F b/\lV sb w≠some b/\b≠sb/\b≠mb
section
variable {fp:fN} {F G:cC} {w w':aH} {sb mb n n':Nat} {mo:Obj} {ks:List aC} {tape:List Int} {s:cD} {L:List Nat}
def Live.row(h:Live fp F w sb mb mo ks tape s n L){k:Nat}(a:lV sb w=some k):sb<k/\k<w.heap.size/\¬F k/\k≠mb:=h.ses.row k a
def Live.keep(h:Live fp F w sb mb mo ks tape s n L)(L':List Nat)(f:∀b∈L',b∈L)(g:w.heap.size<=w'.heap.size)(c:∀k,k<w.heap.size->k∉L'->w'.heap[k]?=w.heap[k]?):Live fp F w' sb mb mo ks tape s n L:=by
 have l:=h.ses.lt;have e:w'.heap[sb]?=w.heap[sb]?:=c sb l fun a=>(h.loc sb (f sb a)).2.2.2.2.1 rfl
 have m:∀b,F b->w'.heap[b]?=w.heap[b]?:=fun b i=>c b (h.ses.fix b i).1 fun a=>(h.loc b (f b a)).2.2.1 i
 refine⟨h.ses.same g fun k d=>?_,h.tab.keep m eD,h.pow.low fun k d=>c k (by have:=h.low;omega) fun a=>by have:=(h.loc k (f k a)).1;omega,h.low,h.hn,fun b i=>?_⟩
 ·rcases d with j|rfl|rfl|j
  ·exact m k j
  ·exact e
  ·exact c _ (aD h.ses.map.1) fun a=>(h.loc _ (f _ a)).2.2.2.2.2 rfl
  ·exact c k (h.row j).2.1 fun a=>(h.loc k (f k a)).2.2.2.1 j
 ·obtain⟨r,t,o,q,p⟩:=h.loc b i;exact⟨r,Y7 t g,o,by rw[oG e];exact q,p⟩
def Live.alloc(h:Live fp F w sb mb mo ks tape s n L)(o:Obj):Live fp F (w.alloc o) sb mb mo ks tape s n (w.heap.size::L):=by
 have a:Live fp F (w.alloc o) sb mb mo ks tape s n L:=h.keep [] ZE (by simp) fun k d _=>Z3 _ _ _ d
 refine⟨a.ses,a.tab,a.pow,a.low,a.hn,fun b c=>?_⟩
 rcases Z6.1 c with rfl|c
 ·have f:=h.ses.lt;have i:=h.low;refine⟨by omega,by simp,fun g=>by have:=(h.ses.fix _ g).1;omega,fun e=>?_,by omega,by have:=aD h.ses.map.1;omega⟩
  rw[oG (Z3 _ _ _ f)] at e;have:=(h.row e).2.1;omega
 ·exact a.loc b c
def Live.drop(h:Live fp F w sb mb mo ks tape s n L){L':List Nat}(c:∀b∈L',b∈L):Live fp F w sb mb mo ks tape s n L':=⟨h.ses,h.tab,h.pow,h.low,h.hn,fun b a=>h.loc b (c b a)⟩
def Live.fs(h:Live fp F w sb mb mo ks tape s n L)(d:FS sb w w')(m:kS fp G w' sb mb mo (dM ks tape) s n')(f:Ext F G w.heap.size)(p:n<=n'):Live fp G w' sb mb mo ks tape s n' L:=by
 have q:∀b,F b->w'.heap[b]?=w.heap[b]?:=fun b c=>d.blk b (h.ses.fix b c).1 (h.ses.fix b c).2.1 fun e=>(h.row e).2.2.1 c
 refine⟨m,h.tab.keep q f.sub,h.pow.low fun k t=>d.blk k (by have:=h.low;have:=h.ses.lt;omega) (by have:=h.low;omega) fun e=>by have:=(h.row e).1;have:=h.low;omega,h.low,Y7 h.hn p,fun b c=>?_⟩
 obtain⟨i,j,l,g,o⟩:=h.loc b c;refine⟨i,Y7 j d.size,fun r=>?_,fun e=>?_,o⟩
 ·rcases f.new b r with a|a
  ·exact l a
  ·omega
 ·rcases d.row b e with a|a
  ·exact g a
  ·omega
def Live.blk(h:Live fp F w sb mb mo ks tape s n L)(c:FS sb w w'){b:Nat}(e:b∈L):w'.heap[b]?=w.heap[b]?:=by
 obtain⟨g,d,i,a,f,j⟩:=h.loc b e;exact c.blk b d f a
def Live.stR(h:Live fp F w sb mb mo ks tape s n L)(d:FS sb w w')(g:Ext F G w.heap.size){v:aQ}{c:cD}(f:nO fp F w v c):nO fp G w' v c:=
 f.keep (fun b a=>d.blk b (h.ses.fix b a).1 (h.ses.fix b a).2.1 fun e=>(h.row e).2.2.1 a) g.sub
def Good.sta(b:Good ks){t:Nat}{a:cD}(h:dM ks tape t=some a):PF (fW ks) a/\a.time=t/\Rest tape.length a.m/\a.stop<=9:=by
 obtain⟨e,c⟩:=AO (lI b.ok) (sY b.ok b.main tape) t a h;obtain⟨f,d⟩:=FJ b.utf (b.rest0 tape) t a h;exact⟨e,c,f,d⟩
def Live.count(e:Good ks)(h:Live fp F w sb mb mo ks tape s n L):n<=26:=by
 obtain⟨_,_,_,_,i,_,_,_,g,c,_⟩:=h.ses.blk;rcases au_ n with d|d
 ·omega
 obtain⟨_,j,a,_⟩:=c (n-1) (by omega)
 obtain⟨b,f,_⟩:=e.sta a;have:=b.time;omega
def Good.next(c:Good ks){a:cD}{t:Nat}(h:dM ks tape t=some a)(d:a.stop=0):∃r,dY (dV ks 2001) jR a.m=some r/\r.2<=9/\dM ks tape (a.time+1)=some ⟨a.time+1,r.1,bU (a.time+1) r.2⟩:=by
 obtain⟨f,e,g,i⟩:=c.sta h;obtain⟨r,b,_⟩:=oE (lI c.ok) (f.ok d).1;refine⟨r,b,(pI c.utf _ _ _ g b).2,?_⟩;unfold dM at h ⊢
 rw[e,fT,h];simp[d,b]
def zE:SV:=⟨0,none,none,none,0,0,0,0,0,0,0⟩
def I9(fp:fN)(F:cC)(w:aH)(sb mb:Nat)(mo:Obj)(ks:List aC)(tape:List Int)(s:cD)(n:Nat)(L:List Nat)(σ:cD)(v':SV)(ok:Bool)(w':aH):Prop:=
 ∃G n',n<=n'/\Ext F G w.heap.size/\FS sb w w'/\Live fp G w' sb mb mo ks tape s n' L/\(ok=true->σ.stop=0/\∃σ',dM ks tape (σ.time+1)=some σ'/\σ'.time=σ.time+1/\nO fp G w' v'.val σ'/\σ'.time/20<n')/\(ok=false->σ.stop≠0)
def VN(O:Good ks)(h:Live fp F w sb mb mo ks tape s n L)(ap:tape.length<=17592186044416)(v:SV)(d:cD)(hv:nO fp F w v.val d)(T:dM ks tape d.time=some d)(ai:d.time/20<n):
 Calls prog 55 #[bO sb,v.val] w fun e w'=>∃v' ok,e=bE (.tuple #[SV.val v',.bool ok])/\I9 fp F w sb mb mo ks tape s n L d v' ok w':=by
 obtain⟨t,l⟩:∃t,t=(w.alloc (.cells v.cells 60)).alloc (.cells #[Iv0 0,bV,bV,bV,Iv0 0] 60):=⟨_,rfl⟩;have c:Below w.heap.size w t:=by rw[l];exact((Y8 _ _).alloc dH _).alloc (by simp) _
 have am:t.heap.size=w.heap.size+2:=by rw[l];simp
 have K:t.heap[w.heap.size+1]?=some (.cells #[Iv0 0,bV,bV,bV,Iv0 0] 60 (0,0)):=by rw[l];exact lK _ _ _
 have y:∀b,F b->b<w.heap.size:=fun b a=>(h.ses.fix b a).1
 have p:=h.ses.lt;have ak:=aD h.ses.map.1;obtain⟨z,ao,H,aq⟩:=O.sta T;have aj:=h.count O;by_cases E:d.stop=0
 ·obtain⟨r,ad,al,P⟩:=O.next T E
  refine AQ w sb v (I9 fp F w sb mb mo ks tape s n L d)
   (fun f ok W=>ok=true/\Below t.heap.size t W/\∃o,Ext F o t.heap.size/\(∀b,o b->b<W.heap.size)/\nO fp o W f.val ⟨d.time+1,r.1,bU (d.time+1) r.2⟩) ?_ (fun f W I=>?_) (fun f W I=>?_)
  ·show Calls _ _ _ _ _
   rw[<-l];refine(QJ (lI O.ok) O.utf (hv.keep (fun b a=>c.block b (y b a)) eD) (fun b a=>Y7 (y b a) c.size) (h.tab.keep (fun b a=>c.block b (y b a)) eD) (h.pow.below c) E (z.ok E).1 (z.ok E).2 H.utf H.out (by have:=H.tape;omega) ad (by have:=z.time;omega) (by omega)).mono ?_
   rintro e w' ⟨v',rfl,a,o,G,M,X⟩;obtain⟨f,rfl,_⟩:=X.sv;exact⟨f,true,rfl,rfl,a,o,G,M,X⟩
  ·cases I.1
  ·obtain⟨_,a,o,G,M,X⟩:=I;have aa:=a.size;obtain⟨x,A⟩:∃x,x=W.alloc (.cells f.cells 60):=⟨_,rfl⟩;have B:Below W.heap.size W x:=by rw[A];exact(Y8 _ _).alloc dH _
   have an:x.heap.size=W.heap.size+1:=by rw[A];simp
   have ah:x.heap[W.heap.size]?=some (.cells f.cells 60 (0,0)):=by rw[A];exact aU _ _ rfl _
   have i:Below w.heap.size w x:=c.trans ((a.mono c.size).trans (B.mono (by omega)))
   show Calls _ _ _ _ _
   rw[<-A]
   have m:kS fp o x sb mb mo (dM ks tape) s n:=h.ses.grow i G.sub fun k u=>by
    rcases G.new k u with j|j
    ·exact Y4 j
    ·exact Y3 ⟨by omega,by have:=M k u;omega⟩
   refine(FK m f.val ⟨d.time+1,r.1,bU (d.time+1) r.2⟩ (X.keep (fun b g=>B.block b (M b g)) eD) P (fun hm=>by simp only at hm ⊢;omega) (by omega) (by have:=z.time;simp only;omega)).mono ?_
   rintro e w' ⟨he,Y,ae⟩;have D:lV sb x=lV sb w:=oG (i.block _ p);have J:∀k,w.heap.size<=k->k<x.heap.size->w'.heap[k]?=x.heap[k]?:=fun k j Q=>Y.blk k Q (by omega) fun e=>by rw[D] at e;have:=(h.row e).2.1;omega
   refine⟨he,by rw[J _ (by omega) (by omega)];exact ah,⟨_,by rw[J _ (by omega) (by omega),B.block _ (by omega),a.block _ (by omega)];exact K,by simp⟩,by omega,?_⟩
   obtain⟨Z,z2,z3,z4⟩:=iJ w' (w.heap.size+1) f;have ac:FS sb w w':=(FS.of_below i p).trans Y;have N:FS sb w (fG w' (w.heap.size+1) f):=ac.other (b:=w.heap.size+1) (by omega) p Z ⟨z2,z3,z4⟩ fun k u=>eC _ _ _ k u
   have af:¬o (w.heap.size+1):=fun hq=>by
    rcases G.new _ hq with j|j
    ·have:=y _ j;omega
    ·omega
   have S:∀k,o k\/k=sb\/k=mb\/lV sb w'=some k->(fG w' (w.heap.size+1) f).heap[k]?=w'.heap[k]?:=fun k u=>eC _ _ _ k (by
    rintro rfl;rcases u with j|j|j|j
    ·exact af j
    ·omega
    ·omega
    ·rcases Y.row _ j with Q|Q
     ·rw[D] at Q;have:=(h.row Q).2.1;omega
     ·omega)
   have ab:=ae.same (by rw[Z];exact Z7 _) S
   have C:Ext F o w.heap.size:=⟨G.sub,fun k u=>(G.new k u).imp_right fun j=>by omega⟩
   refine⟨o,_,?_,C,N,h.fs N ab C ?_,fun _=>⟨E,⟨d.time+1,r.1,bU (d.time+1) r.2⟩,P,rfl,?_,?_⟩,fun e=>by cases e⟩
   ·split<;>omega
   ·split<;>omega
   ·refine X.keep (fun b g=>?_) eD
    have ag:=M b g;have V:b≠sb:=(m.fix b g).2.1;rw[S b (Y4 g),Y.blk b (by omega) V (fun e=>(m.row b e).2.2.1 g),B.block b ag]
   ·simp only;split<;>omega
 ·refine AQ w sb v (I9 fp F w sb mb mo ks tape s n L d) (fun f ok W=>ok=false/\f=zE/\Below t.heap.size t W) ?_ (fun f W I=>?_) (fun f W I=>?_)
  ·show Calls _ _ _ _ _
   rw[<-l];obtain⟨fv,tv,xo,he,f1,f2,f3⟩:=hv.form;rw[he];refine(WR t d.time d.stop fv tv xo E f1 f2 f3).mono ?_;rintro e w' ⟨rfl,a⟩;exact⟨zE,false,rfl,rfl,rfl,a⟩
  ·obtain⟨_,rfl,a⟩:=I;have aa:=a.size;refine⟨⟨_,by rw[a.block _ (by omega)];exact K,by simp⟩,?_⟩
   obtain⟨Z,z2,z3,z4⟩:=iJ W (w.heap.size+1) zE
   have i:Below w.heap.size w (fG W (w.heap.size+1) zE):=by
    have U:Below w.heap.size w W:=c.trans (a.mono c.size);exact⟨z2.trans U.os,z3.trans U.tape,z4.trans U.output,by rw[Z];exact U.size,fun k u=>by rw[eC _ _ _ k (by omega)];exact U.block k u⟩
   have q:=i.alloc i.size (.cells zE.cells 60);exact⟨F,n,dH,Ext.refl _ _,FS.of_below q p,h.fs (FS.of_below q p) (h.ses.grow q eD fun _ h=>Y4 h) (Ext.refl _ _) dH,fun e=>(by cases e),fun _=>E⟩
  ·cases I.1
end
def ZF(st:Nat->Option cD)(p:cD->Bool)(s τ:cD)(fd:Bool):Prop:=
 (fd=false/\τ=s/\s.stop≠0)\/(fd=true/\s.time<τ.time/\st τ.time=some τ/\(∀t x,s.time<t->t<τ.time->st t=some x->p x=false)/\(p τ=true\/τ.stop≠0))
structure But(L:List Nat)(w w':aH):Prop where
 os:w'.os=w.os
 tape:w'.tape=w.tape
 output:w'.output=w.output
 size:w.heap.size<=w'.heap.size
 blk:∀k,k<w.heap.size->k∉L->w'.heap[k]?=w.heap[k]?
def But.below{w w':aH}(h:Below w.heap.size w w')(L:List Nat):But L w w':=⟨h.os,h.tape,h.output,h.size,fun k a _=>h.block k a⟩
def But.alloc(w:aH)(o:Obj)(L:List Nat):But L w (w.alloc o):=But.below ((Y8 _ w).alloc dH o) L
def But.drew(w:aH)(L:List Nat):But L w w.drew:=⟨rfl,rfl,rfl,dH,fun _ _ _=>rfl⟩
def But.put(w:aH)(b:Nat)(o:Obj):But [b] w (w.putObj b o):=⟨rfl,rfl,rfl,by simp,fun k _ a=>World.putObj_heap_other (by simpa using a)⟩
def But.set5(w:aH)(b:Nat)(s:SV):But [b] w (fG w b s):=by
 obtain⟨e,c,f,d⟩:=iJ w b s;exact⟨c,f,d,by rw[e];exact Z7 _,fun k _ a=>eC _ _ _ k (by simpa using a)⟩
def But.set(w:aH)(b:Nat)(v:aQ):But [b] w (w.setCell (aL b 0) v):=⟨rfl,rfl,rfl,by simp,fun k _ a=>Y6 _ _ _ _ (by simpa using a)⟩
def But.trans{L M:List Nat}{a b c:aH}(h:But L a b)(k:But M b c):But (L++M) a c:=
 ⟨k.os.trans h.os,k.tape.trans h.tape,k.output.trans h.output,Z4 h.size k.size,fun i e d=>by
   rw[Z2,not_or] at d;rw[k.blk i (Y7 e h.size) d.2,h.blk i e d.1]⟩
def FS.but{sb:Nat}{c w w':aH}{L:List Nat}(h:FS sb c w)(a:But L w w')(f:∀b∈L,c.heap.size<=b)(j:sb<c.heap.size):FS sb c w':=by
 have n:=h.size;have l:w'.heap[sb]?=w.heap[sb]?:=a.blk sb (by omega) fun d=>by have:=f sb d;omega
 exact⟨a.os.trans h.os,a.tape.trans h.tape,a.output.trans h.output,Z4 h.size a.size,fun k i g m=>by rw[a.blk k (by omega) fun d=>by have:=f k d;omega];exact h.blk k i g m,fun k e=>h.row k (by rw[<-oG l];exact e)⟩
def nO.but{c:fN}{F:cC}{w w':aH}{sb i n:Nat}{f:Obj}{ks:List aC}{a:List Int}{s e:cD}{L L':List Nat}{v:aQ}(l:nO c F w v e)(h:Live c F w sb i f ks a s n L)(g:But L' w w')(j:∀b∈L',b∈L):nO c F w' v e:=
 l.keep (fun b d=>g.blk b (h.ses.fix b d).1 fun k=>(h.loc b (j b k)).2.2.1 d) fun _ h=>h
def Live.but{e:fN}{F:cC}{w w':aH}{sb d n:Nat}{c:Obj}{ks:List aC}{a:List Int}{s:cD}{L L':List Nat}(h:Live e F w sb d c ks a s n L)(f:But L' w w')(g:∀b∈L',b∈L):Live e F w' sb d c ks a s n L:=h.keep L' g f.size f.blk
def kS.cells{f:fN}{F:cC}{w:aH}{sb j n:Nat}{i:Obj}{p:Nat->Option cD}{s:cD}(h:kS f F w sb j i p s n):∃a:SV,nO f F w a.val s/\w.cell? (aL sb 0)=some (Iv0 a.t)/\w.cell? (aL sb 1)=some (.slice a.x1 a.n1 a.c1)/\w.cell? (aL sb 2)=some (.slice a.x2 a.n2 a.c2)/\w.cell? (aL sb 3)=some (.slice a.x3 a.n3 a.c3)/\w.cell? (aL sb 4)=some (Iv0 a.q)/\∃c,w.heap[sb]?=some (.cells c 66 (0,0))/\5<=c.size:=by
 obtain⟨z,v,y,u,x,b,g,_⟩:=h.blk;obtain⟨e,d,o,t⟩:=g.sv;refine⟨e,by rw[<-d];exact g,?_⟩
 simp only[SV.val,Value.agg.injEq] at d;simp at d;obtain⟨q,r,k,m,l⟩:=d;rw[q,r,k,m,l] at b;exact⟨aA b rfl,aA b rfl,aA b rfl,aA b rfl,aA b rfl,_,b,by simp⟩
def kS.go{l:fN}{F:cC}{w:aH}{sb m n:Nat}{q:Obj}{o:Nat->Option cD}{s τ:cD}{v:SV}(h:kS l F w sb m q o s n)(A:nO l F w v.val τ)(p:o τ.time=some τ):kS l F (fG w sb v) sb m q o τ n/\FS sb w (fG w sb v)/\lV sb (fG w sb v)=lV sb w:=by
 obtain⟨Q,O,P,f,H,u,N,I,D,G,L,E⟩:=h.blk;obtain⟨M,e,z,x⟩:=A.sv;obtain rfl:=SV.val_inj e;obtain⟨t,B,J,C⟩:=iJ w sb v
 have j:(fG w sb v).heap[sb]?=some (.cells #[Iv0 v.t,.slice v.x1 v.n1 v.c1,.slice v.x2 v.n2 v.c2,.slice v.x3 v.n3 v.c3,Iv0 v.q,f,.map (some m)] 66 (0,0)):=by
  have r:=vH (s:=v) u;simp only[List.setIfInBounds_toArray,List.set_cons_zero,av_] at r;exact r
 have y:∀b,F b->(fG w sb v).heap[b]?=w.heap[b]?:=fun b j=>eC _ _ _ _ (h.fix b j).2.1
 have c:lV sb w=f.ownBlock:=mA u rfl;have d:lV sb (fG w sb v)=f.ownBlock:=mA j rfl;have g:∀k,f.ownBlock=some k->(fG w sb v).heap[k]?=w.heap[k]?:=fun k a=>eC _ _ _ _ (by have:=(h.row k (by rw[c];exact a)).1;omega)
 refine⟨⟨⟨_,_,_,f,H,by rw[<-z,<-x];exact j,?_,bA I g,D,fun i K=>(G i K).keep y eD,L,E⟩,p,fun k a=>?_,by rw[eC _ _ _ _ h.map.2];exact h.map.1,h.map.2⟩,⟨B,J,C,by rw[t];exact Z7 _,fun k _ a _=>eC _ _ _ _ a,fun k a=>Y4 ?_⟩,?_⟩
 ·have:=A.keep y eD;unfold SV.val at this;rw[<-z,<-x];exact this
 ·have:=h.fix k a;exact⟨by rw[t];exact this.1,this.2⟩
 ·rw[c,<-d];exact a
 ·rw[c,d]
def Live.go{c:fN}{F:cC}{w:aH}{sb i n:Nat}{g:Obj}{ks:List aC}{a:List Int}{s τ:cD}{L:List Nat}{v:SV}(h:Live c F w sb i g ks a s n L)(p:nO c F w v.val τ)(e:dM ks a τ.time=some τ)(o:τ.time/20<n):Live c F (fG w sb v) sb i g ks a τ n L/\FS sb w (fG w sb v):=by
 obtain⟨m,j,q⟩:=h.ses.go p e;obtain⟨l,_⟩:=iJ w sb v;have f:=h.low;refine⟨⟨m,h.tab.keep (fun b d=>eC _ _ _ _ (h.ses.fix b d).2.1) eD,h.pow.low fun k r=>eC _ _ _ _ (by omega),h.low,o,fun b d=>?_⟩,j⟩
 have:=h.loc b d;rw[l,q];exact this
structure MCtx where
 fp:Nat->Value
 sb:Nat
 mb:Nat
 mo:Obj
 ks:List aC
 tape:List Int
 s:cD
 p:cD->Bool
 bb:Nat
 fv:Value
 w:aH
 L:List Nat
 le:Nat->Bool->Prop
def MCtx.bf(C:MCtx):Nat:=C.w.heap.size
def MCtx.bt(C:MCtx):Nat:=C.w.heap.size+1
def MCtx.bo(C:MCtx):Nat:=C.w.heap.size+1+1
def MCtx.all(C:MCtx):List Nat:=(C.w.heap.size+3+1)::(C.w.heap.size+3)::C.bo::C.bt::C.bf::C.L
noncomputable def MCtx.st(C:MCtx):Nat->Option cD:=dM C.ks C.tape
structure Mvg(C:MCtx)(L:List Nat)(F:cC)(n k:Nat)(fd:Bool)(W:aH):Prop where
 live:Live C.fp F W C.sb C.mb C.mo C.ks C.tape C.s n L
 mem:∀b∈C.all,b∈L
 cf:W.heap[C.bf]?=some (.cells #[C.fv] 89 (0,0))
 cb:W.heap[C.bb]?=some (.cells #[bO C.sb] 24 (0,0))/\C.bb∈C.L
 ct:∃s2 τ,W.heap[C.bt]?=some (.cells (SV.cells s2) 60 (0,0))/\nO C.fp F W s2.val τ/\C.st k=some τ/\k/20<n
 co:W.heap[C.bo]?=some (.cells #[.bool fd] 4 (0,0))
 le:C.le k fd
 fr:FS C.sb C.w W/\C.sb<C.w.heap.size/\∀b∈C.L,b<C.w.heap.size
section
variable {C:MCtx} {L L':List Nat} {F G:cC} {n n' k:Nat} {fd:Bool} {W W':aH}
def Mvg.lt(h:Mvg C L F n k fd W):C.w.heap.size+3+1<W.heap.size:=(h.live.loc _ (h.mem _ (by simp[MCtx.all]))).2.1
def Mvg.but(h:Mvg C L F n k fd W)(e:But L' W W')(f:∀b∈L',b∈L/\C.bo<b):Mvg C L F n k fd W':=by
 have c:=h.fr.2.1;have l:=h.lt;have d:∀b,b<=C.bo->W'.heap[b]?=W.heap[b]?:=fun b g=>e.blk b (by simp only[MCtx.bo] at g;omega) fun a=>by have:=(f b a).2;omega
 obtain⟨m,q,o,p,r,i⟩:=h.ct;have j:=h.fr.2.2 _ h.cb.2;refine⟨h.live.but e fun b a=>(f b a).1,h.mem,by rw[d _ (by simp only[MCtx.bo,MCtx.bf];omega)];exact h.cf,⟨by rw[d _ (by simp only[MCtx.bo];omega)];exact h.cb.1,h.cb.2⟩,⟨m,q,by rw[d _ (by simp only[MCtx.bo,MCtx.bt];omega)];exact o,p.but h.live e fun b a=>(f b a).1,r,i⟩,by rw[d _ dH];exact h.co,h.le,h.fr.1.but e (fun b a=>by have:=(f b a).2;simp only[MCtx.bo] at this;omega) c,c,h.fr.2.2⟩
def Mvg.more(h:Mvg C L F n k fd W)(a:Live C.fp F W C.sb C.mb C.mo C.ks C.tape C.s n L')(c:∀b∈C.all,b∈L'):Mvg C L' F n k fd W:=⟨a,c,h.cf,h.cb,h.ct,h.co,h.le,h.fr⟩
def Mvg.alloc(h:Mvg C L F n k fd W)(o:Obj):Mvg C (W.heap.size::L) F n k fd (W.alloc o):=
 (h.but (L':=[]) (But.alloc W o []) fun b a=>by cases a).more (h.live.alloc o) fun b c=>b8 _ (h.mem b c)
def Mvg.fs(h:Mvg C L F n k fd W)(c:FS C.sb W W')(d:Live C.fp G W' C.sb C.mb C.mo C.ks C.tape C.s n' L)(m:Ext F G W.heap.size)(p:n<=n'):Mvg C L G n' k fd W':=by
 have a:∀b∈L,W'.heap[b]?=W.heap[b]?:=fun b l=>h.live.blk c l
 obtain⟨e,i,f,g,j,o⟩:=h.ct;exact⟨d,h.mem,by rw[a _ (h.mem _ (by simp[MCtx.all]))];exact h.cf,⟨by rw[a _ (h.mem _ (by simp[MCtx.all,h.cb.2]))];exact h.cb.1,h.cb.2⟩,⟨e,i,by rw[a _ (h.mem _ (by simp[MCtx.all]))];exact f,h.live.stR c m g,j,by omega⟩,by rw[a _ (h.mem _ (by simp[MCtx.all]))];exact h.co,h.le,h.fr.1.trans c,h.fr.2⟩
def Mvg.set(h:Mvg C L F n k fd W){v:SV}{a:cD}(q:nO C.fp F W v.val a)(j:C.st a.time=some a)(p:a.time/20<n)(l:C.le a.time true):Mvg C L F n a.time true ((fG W C.bt v).setCell (aL C.bo 0) (.bool true)):=by
 have d:But ([C.bt]++[C.bo]) W ((fG W C.bt v).setCell (aL C.bo 0) (.bool true)):=(But.set5 W C.bt v).trans (But.set _ _ _);have g:∀b∈[C.bt]++[C.bo],b∈L:=fun b i=>h.mem b (by simp at i;rcases i with rfl|rfl<;>simp[MCtx.all])
 have f:=h.fr.2.1;have w:=h.lt;have o:=h.fr.2.2 _ h.cb.2;obtain⟨s,x,r,y,t,u⟩:=h.ct;have c:C.bt≠C.bo:=by simp only[MCtx.bt,MCtx.bo];omega
 refine⟨h.live.but d g,h.mem,by rw[d.blk _ (by simp only[MCtx.bf];omega) (by simp only[MCtx.bf,MCtx.bt,MCtx.bo,l9,ai_,Z6,e7,or_false];omega)];exact h.cf,⟨by rw[d.blk _ (by omega) (by simp only[MCtx.bt,MCtx.bo,l9,ai_,Z6,e7,or_false];omega)];exact h.cb.1,h.cb.2⟩,⟨v,a,?_,q.but h.live d g,j,p⟩,?_,l,h.fr.1.but d (fun b i=>by simp[MCtx.bt,MCtx.bo] at i;omega) f,f,h.fr.2.2⟩
 ·rw[Y6 _ _ _ _ c];exact AR r rfl
 ·have m:(fG W C.bt v).heap[C.bo]?=some (.cells #[.bool fd] 4 (0,0)):=by rw[eC _ _ _ _ (fun e=>c e.symm)];exact h.co
  exact aT m
end
def fwd(s:cD)(k:Nat)(fd:Bool):Prop:=s.time<=k/\(fd=true↔s.time<k)
def CX(C:MCtx)(k:Nat):Prop:=∀t x,C.s.time<t->t<=k->C.st t=some x->C.p x=false
def U8(C:MCtx)(M:List Nat)(t:Nat)(s':SV)(W:aH):Prop:=∃F n σ k fd,Mvg C M F n k fd W/\nO C.fp F W s'.val σ/\C.st σ.time=some σ/\σ.time=k+1/\σ.time/20<n/\W.heap[t]?=some (.cells s'.cells 60 (0,0))/\C.w.heap.size+3+1<t/\CX C k
def V6(C:MCtx)(t:Nat)(s':SV)(W:aH):Prop:=∃F n σ,Mvg C (t::C.all) F n σ.time true W/\nO C.fp F W s'.val σ/\C.st σ.time=some σ/\σ.time/20<n/\W.heap[t]?=some (.cells s'.cells 60 (0,0))/\C.w.heap.size+3+1<t/\CX C σ.time
def R8(C:MCtx)(W:aH):Prop:=∃F n k fd τ,Mvg C C.all F n k fd W/\C.st k=some τ/\ZF C.st C.p C.s τ fd
section
variable {C:MCtx}
def U6:∀b∈[C.w.heap.size+3+1],C.bo<b:=fun b a=>by simp at a;simp only[MCtx.bo];omega
def Mvg.put{L:List Nat}{F:cC}{n k:Nat}{c:Bool}{W:aH}(h:Mvg C L F n k c W)(o:Obj):Mvg C L F n k c (W.putObj (C.w.heap.size+3+1) o):=
 h.but (But.put _ _ _) fun b a=>⟨h.mem b (by simp at a;simp[MCtx.all,a]),U6 b a⟩
def Mvg.putS{L:List Nat}{F:cC}{n k:Nat}{d:Bool}{W:aH}{c:cD}{v:aQ}(h:Mvg C L F n k d W)(e:nO C.fp F W v c)(o:Obj):nO C.fp F (W.putObj (C.w.heap.size+3+1) o) v c:=
 e.but h.live (But.put _ _ _) fun b a=>h.mem b (by simp at a;simp[MCtx.all,a])
def U8.put{M:List Nat}{t:Nat}{a:SV}{W:aH}(h:U8 C M t a W)(o:Obj):U8 C M t a (W.putObj (C.w.heap.size+3+1) o):=by
 obtain⟨F,n,l,k,c,b,d,j,e,g,m,f,i⟩:=h;exact⟨F,n,l,k,c,b.put o,b.putS d o,j,e,g,by rw[World.putObj_heap_other (by omega)];exact m,f,i⟩
def V6.put{t:Nat}{a:SV}{W:aH}(h:V6 C t a W)(o:Obj):V6 C t a (W.putObj (C.w.heap.size+3+1) o):=by
 obtain⟨F,n,j,b,e,i,g,c,f,d⟩:=h;exact⟨F,n,j,b.put o,b.putS e o,i,g,by rw[World.putObj_heap_other (by omega)];exact c,f,d⟩
def R8.put{W:aH}(h:R8 C W)(o:Obj):R8 C (W.putObj (C.w.heap.size+3+1) o):=by
 obtain⟨F,n,k,a,d,c,b,e⟩:=h;exact⟨F,n,k,a,d,c.put o,b,e⟩
def CX.succ{k:Nat}{a:cD}(h:CX C k)(g:a.time=k+1)(b:C.st a.time=some a)(e:C.p a=false):CX C a.time:=fun t x f i c=>by
 rcases l6 k t with d|d
 ·obtain rfl:t=a.time:=by omega
  rw[b] at c;cases c;exact e
 ·exact h t x f d c
def Mvg.next{L:List Nat}{F:cC}{n k:Nat}{l:Bool}{W:aH}(p:Good C.ks)(o:C.le=fwd C.s)(m:C.tape.length<=17592186044416)(h:Mvg C L F n k l W)(v:SV)(c:cD)(O:nO C.fp F W v.val c)(d:C.st c.time=some c)(j:c.time=k)(g:c.time/20<n)(K:CX C k):
 Calls prog 55 #[bO C.sb,v.val] W fun e w'=>∃i ok,e=bE (.tuple #[SV.val i,.bool ok])/\(∀b∈L,w'.heap[b]?=W.heap[b]?)/\
  ∃G n',Mvg C L G n' k l w'/\(ok=true->∃a,nO C.fp G w' i.val a/\C.st a.time=some a/\a.time=k+1/\a.time/20<n'/\i.t=k+1/\k<500)/\(ok=false->ZF C.st C.p C.s c l):=by
 refine(VN p h.live m v c O d g).mono ?_;rintro e w' ⟨i,ok,rfl,G,n',D,y,u,B,E,M⟩;refine⟨i,ok,rfl,fun b z=>h.live.blk u z,G,n',h.fs u B y D,fun e=>?_,fun e=>?_⟩
 ·obtain⟨_,a,q,Q,r,I⟩:=E e;obtain⟨T,N,V,_⟩:=r.sv;obtain rfl:=SV.val_inj N;have S:=(p.sta q).1.time;exact⟨a,r,by rw[Q];exact q,by omega,I,by omega,by omega⟩
 ·have s:=M e;have f:=h.le;rw[o] at f;subst j;cases l with
  |true=>
   exact Y3 ⟨rfl,f.2.1 rfl,d,fun t x P X H=>K t x P (by omega) H,Y3 s⟩
  |false=>
   have U:¬C.s.time<c.time:=fun A=>by have:=f.2.2 A;cases this
   have J:C.s.time=c.time:=by have:=f.1;omega
   have w:=h.live.ses.now;unfold MCtx.st at d;rw[J,d] at w;cases w;exact Y4 ⟨rfl,rfl,s⟩
end
def SA{C:MCtx}(Y:Good C.ks)(B:C.le=fwd C.s)(L:C.tape.length<=17592186044416)(s0:SV){F:cC}{n:Nat}(S:aH)(ac:S.heap.size=C.w.heap.size+3)
 (hM:∀E,Mvg C C.all F n C.s.time false ((S.alloc (.deferred (some []))).alloc (.loop E))) (ae:∀E,nO C.fp F ((S.alloc (.deferred (some []))).alloc (.loop E)) s0.val C.s):
 J2 prog 63 #[bO C.bb] S (fun t=>U8 C (t::C.all) t) (V6 C) (fun _=>R8 C):=by
 intro E Rdy Don hR ag _ M hY;rw[ac] at hR ag hY ⊢
 have j:=hM E;have hs:=ae E;generalize (S.alloc (.deferred (some []))).alloc (.loop E)=d at j hs M ⊢
 have i:=j.live.ses.now;have g:CX C C.s.time:=fun t x o J _=>by omega
 have f:∀b,b=C.w.heap.size+3\/b=C.w.heap.size+3+1->b∈C.all:=fun b l=>by rcases l with rfl|rfl<;>simp[MCtx.all]
 obtain⟨s1,V,k0,k1,k2,k3,k4,_⟩:=j.live.ses.cells;have ad:=j.lt;have Q:∀b∈C.all,b<d.heap.size:=fun b l=>(j.live.loc b l).2.1
 refine(NC (C.w.heap.size+3+1) C.bb C.sb s1 d
  (fun gk b m ok wr=>Rdy wr/\(ok=true->U8 C (b::C.all) b m wr/\gk+m.t=502)/\(ok=false->R8 C wr))
  (fun gk b m wr=>Rdy wr/\V6 C b m wr/\gk+m.t=502)
  (fun wr=>(R8 C wr/\Rdy wr)\/(R8 C wr/\Don wr)) (aA j.cb.1 rfl) (aD j.cb.1) j.live.ses.lt k0 k1 k2 k3 k4 (501-C.s.time) ?_ (fun c hc=>?_) (fun gk b m wr h=>?_) (fun gk b m wr h=>?_) (fun gk b m wr h=>?_)).mono ?_
 ·have H:=j.but (L':=[]) (But.drew d []) ZE;refine(H.next Y B L s1 C.s (V.but j.live (But.drew d []) ZE) i rfl j.live.hn g).mono ?_
  rintro e y ⟨u,ok,rfl,z,G,s,o,J,D⟩;have A:=o.lt;refine⟨u,ok,rfl,hR d _ M ?_ ?_,fun e=>?_,fun e=>?_⟩
  ·rw[Z3 _ _ _ (by omega)];exact z _ (f _ (Y4 rfl))
  ·rw[Z3 _ _ _ (by omega)];exact z _ (f _ (Y3 rfl))
  ·obtain⟨r,O,W,P,q4,q5,q6⟩:=J e;refine⟨⟨G,s,r,C.s.time,false,o.alloc _,?_,W,P,q4,aU _ _ rfl _,A,g⟩,by omega⟩
   exact O.but o.live (But.alloc _ _ []) ZE
  ·have:=o.but (L':=[]) (But.alloc y (.cells u.cells 60) []) ZE;exact⟨G,s,C.s.time,false,C.s,this,i,D e⟩
 ·have H:=(j.but (L':=[]) (But.drew d []) ZE).alloc (.cells c 60);have ah:But [] d (d.drew.alloc (.cells c 60)):=(But.drew d []).trans (But.alloc _ _ []);refine(H.next Y B L s1 C.s (V.but j.live ah ZE) i rfl j.live.hn g).mono ?_
  rintro e y ⟨u,ok,rfl,z,G,s,o,J,D⟩;have A:=o.lt;have p:y.heap[d.heap.size]?=some (.cells c 60 (0,0)):=by rw[z d.heap.size (j0 ..)];exact aU d.drew _ rfl _
  have a:∀b∈C.all,(fG y d.heap.size u).heap[b]?=d.heap[b]?:=fun b l=>by
   have:=Q b l;rw[eC _ _ _ _ (by omega),z b (b8 _ l)];exact Z3 d.drew _ _ this
  have q:∀b∈[d.heap.size],b∈(d.heap.size::C.all)/\C.bo<b:=fun b l=>by
   obtain rfl:=Z1.1 l;exact⟨j0 ..,by simp only[MCtx.bo];omega⟩
  have N:Mvg C (d.heap.size::C.all) G s C.s.time false (fG y d.heap.size u):=o.but (But.set5 _ _ _) q;refine⟨u,ok,rfl,p,hR d _ M (a _ (f _ (Y4 rfl))) (a _ (f _ (Y3 rfl))),fun e=>?_,fun e=>?_⟩
  ·obtain⟨r,O,W,P,q4,q5,q6⟩:=J e;exact⟨⟨G,s,r,C.s.time,false,N,O.but o.live (But.set5 _ _ _) fun b l=>(q b l).1,W,P,q4,AR p hc,ad,g⟩,by omega⟩
  ·exact⟨G,s,C.s.time,false,C.s,N.more (N.live.drop fun b l=>b8 _ l) eD,i,D e⟩
 ·obtain⟨hr,Z,_⟩:=h;obtain⟨Z,X⟩:=Z rfl;obtain⟨fn,U,v,T,hy,aa⟩:=hY b m wr Z hr;refine⟨?_,fn,U,v,T,hy,aa.mono ?_⟩
  ·obtain⟨F,n,K,k,fd,_,_,_,_,_,h6,_⟩:=Z;exact h6
  ·rintro e W' (⟨rfl,hB,ab⟩|⟨rfl,hE,hD⟩)
   ·exact Y4 ⟨rfl,ab,hB,X⟩
   ·exact Y3 ⟨rfl,Y3 ⟨hE,hD⟩⟩
 ·exact Y4 ⟨h.2.2 rfl,h.1⟩
 ·obtain⟨hr,⟨F,n,K,o,J,D,h4,h5,h6,h7⟩,X⟩:=h
  have aj:m.t=K.time:=by
   obtain⟨s2,e1,e2,_⟩:=J.sv;obtain rfl:=SV.val_inj e1;exact e2
  have ai:=(Y.sta D).1.time;refine⟨aA o.cb.1 rfl,h5,gk-1,by omega,?_⟩
  refine(o.next Y B L m K J D rfl h4 h7).mono ?_
  rintro e y ⟨u,ok,rfl,z,G,s,O,W,P⟩;have p:y.heap[b]?=some (.cells m.cells 60 (0,0)):=by rw[z b (j0 ..)];exact h5
  have q:∀x∈[b],x∈(b::C.all)/\C.bo<x:=fun x w=>by
   obtain rfl:=Z1.1 w;exact⟨j0 ..,by simp only[MCtx.bo];omega⟩
  have a:∀x∈[C.w.heap.size+3,C.w.heap.size+3+1],(fG y b u).heap[x]?=wr.heap[x]?:=fun x w=>by
   have af:x∈C.all:=by simp at w;rcases w with rfl|rfl<;>simp[MCtx.all]
   rw[eC _ _ _ _ (by simp at w;omega),z x (b8 _ af)]
  have I:Mvg C (b::C.all) G s K.time true (fG y b u):=O.but (But.set5 _ _ _) q;refine⟨u,ok,rfl,⟨_,p,rfl⟩,hR wr _ hr (a _ (by simp)) (a _ (by simp)),fun e=>?_,fun e=>?_⟩
  ·obtain⟨r,a1,a2,a3,a4,a5,a6⟩:=W e;exact⟨⟨G,s,r,K.time,true,I,a1.but O.live (But.set5 _ _ _) fun x w=>(q x w).1,a2,a3,a4,AR p rfl,h6,h7⟩,by omega⟩
  ·exact⟨G,s,K.time,true,K,I.more (I.live.drop fun x w=>b8 _ w) eD,D,P e⟩
 ·rintro e W' ⟨rfl,h|h⟩
  ·exact⟨⟨_,rfl⟩,0,h.1,Y4 h.2⟩
  ·exact⟨⟨_,rfl⟩,0,h.1,Y3 h.2⟩
def U4(args:Array Value)(W:aH):(callFunc 63 args).run prog W=.ok (.enter 63 args) W:=(enters_of func63 (by kernel_rfl) rfl) args W
def Q0(args:Array Value)(W:aH):(callFunc 47 args).run prog W=.ok (.enter 47 args) W:=(enters_of func47 (by kernel_rfl) rfl) args W
section
variable {fp:fN} {F:cC} {w:aH} {sb mb n:Nat} {mo:Obj} {ks:List aC} {tape:List Int} {s:cD} {L:List Nat}
def J1(fp:fN)(sb mb:Nat)(mo:Obj)(ks:List aC)(tape:List Int)(L:List Nat)(T:cD->Bool->Prop)(w:aH)(b:Bool)(w':aH):Prop:=∃G n' τ,Live fp G w' sb mb mo ks tape τ n' L/\T τ b/\FS sb w w'
def X2(fp:fN)(sb mb:Nat)(mo:Obj)(ks:List aC)(tape:List Int)(s:cD)(L0:List Nat)(w:aH)(p:cD->Bool)(gn:Nat)(rf lf:Array Value):Prop:=
 ∀(F:cC) (n:Nat) (L:List Nat) (W:aH) (v:SV) (σ:cD),w.heap.size<=W.heap.size->(∀b∈L0,W.heap[b]?=w.heap[b]?)->Live fp F W sb mb mo ks tape s n L->nO fp F W v.val σ->dM ks tape σ.time=some σ->Calls prog gn (rf++ #[v.val]++lf) W fun e W'=>e=bE (.bool (p σ))/\Below W.heap.size W W'
def NL(hg:Good ks)(aw:tape.length<=17592186044416)(h:Live fp F w sb mb mo ks tape s n L)(bb:Nat)(av:bb∈L)(ac:w.heap[bb]?=some (.cells #[bO sb] 24 (0,0)))
 (p:cD->Bool) (K:Nat) (rf X:Array Value) (ak:∀M W,(callFunc K M).run prog W=.ok (.enter K M) W) (ag:X2 fp sb mb mo ks tape s L w p K rf X):
 Calls prog 36 #[bO sb,.func (.func 63) #[] #[bO bb],.func (.func K) rf X] w fun e w'=>∃b,e=bE (.bool b)/\J1 fp sb mb mo ks tape L (ZF (dM ks tape) p s) w b w':=by
 obtain⟨s0,ap,k0,k1,k2,k3,k4,_⟩:=h.ses.cells;have I:=h.ses.lt;have an:=h;obtain⟨C,j⟩:∃C:MCtx,C=⟨fp,sb,mb,mo,ks,tape,s,p,bb,.func (.func K) rf X,w,L,fwd s⟩:=⟨_,rfl⟩;have af:Good C.ks:=by rw[j];exact hg
 have a:C.w=w:=by rw[j]
 have al:C.s=s:=by rw[j]
 have ab:C.p=p:=by rw[j]
 have E:C.st=dM ks tape:=by rw[j];rfl
 have G:C.le=fwd C.s:=by rw[j]
 refine XS (τ:=Nat) w sb 63 K #[bO bb] rf X s0 (fun b w'=>J1 fp sb mb mo ks tape L (ZF (dM ks tape) p s) w b w')
  (fun t=>U8 C (t::C.all) t) (V6 C) (fun t y b W=>U8 C (b::t::C.all) t y W/\W.heap[b]?=some (.cells y.cells 60 (0,0))/\C.w.heap.size+3+1<b) (fun _=>R8 C) I k0 k1 k2 k3 k4 U4 ak
  (fun t y b W r h=>?_) (fun t y W r h=>?_) (fun _ W r h=>?_) (fun t y W h=>?_) (fun t y b W h=>?_) (fun _ W hE=>?_) (fun H v=>?_)
 ·obtain⟨g,O,q⟩:=h;rw[<-a];exact⟨g.put _,by rw[World.putObj_heap_other (by omega)];exact O,q⟩
 ·rw[<-a];exact h.put _
 ·rw[<-a];exact h.put _
 ·obtain⟨F,n,Y,k,fd,g,O,q,h4,h5,h6,h7,h8⟩:=h;have hl:=g.lt;rw[<-a];refine⟨⟨⟨F,n,Y,k,fd,g.alloc _,O.but g.live (But.alloc _ _ []) ZE,q,h4,h5,by rw[Z3 _ _ _ (aD h6)];exact h6,h7,h8⟩,aU _ _ rfl _,hl⟩,hl⟩
 ·obtain⟨⟨F,n,Y,k,fd,g,O,q,h4,h5,h6,h7,h8⟩,h9,aq⟩:=h;have hl:=g.lt;have T:=g.cf;have B:=g.co;obtain⟨s2,τ,a1,a2,a3,a4⟩:=g.ct;have o:=g.le;rw[G] at o;have d:=g.set O q h5 (by rw[G];exact⟨by have:=o.1;omega,by simp;have:=o.1;omega⟩)
  have A:C.bt=w.heap.size+1:=by rw[<-a];rfl
  have u:C.bo=w.heap.size+1+1:=by rw[<-a];rfl
  have ao:C.bf=w.heap.size:=by rw[<-a];rfl
  rw[a] at hl h7 aq;rw[ao] at T;rw[u] at B;rw[A] at a1;have ax:C.fv=.func (.func K) rf X:=by rw[j]
  rw[ax] at T;refine⟨h9,T,⟨_,a1,by simp[SV.cells]⟩,⟨_,B⟩,by omega,by omega,by omega,?_⟩
  have S:But ([C.bt]++[C.bo]) W ((fG W C.bt y).setCell (aL C.bo 0) (.bool true)):=(But.set5 W C.bt y).trans (But.set _ _ _);have J:=O.but g.live S fun x hm=>g.mem x (by simp at hm;rcases hm with rfl|rfl<;>simp[MCtx.all])
  have Q:((fG W C.bt y).setCell (aL C.bo 0) (.bool true)).heap[t]?=some (.cells y.cells 60 (0,0)):=by
   rw[S.blk t (aD h6) (by simp[A,u];omega)];exact h6
  have U:∀x,x=w.heap.size+3\/x=w.heap.size+3+1->((fG W C.bt y).setCell (aL C.bo 0) (.bool true)).heap[x]?=W.heap[x]?:=fun x hx=>S.blk x (by omega) (by simp[A,u];omega)
  rw[<-u,<-A];generalize (fG W C.bt y).setCell (aL C.bo 0) (.bool true)=V at d J Q U ⊢
  have au:=d.lt;rw[a] at au;have m:=d.live;rw[j] at m J;have ah:=q;rw[E] at ah;have z:=d.fr.1;rw[j] at z;refine(ag F n _ V y Y z.size (fun b f=>an.blk z f) m J ah).mono ?_
  rintro e W' ⟨rfl,f⟩;refine⟨p Y,rfl,⟨by rw[f.block _ (by omega)];exact U _ (Y4 rfl),by rw[f.block _ (by omega)];exact U _ (Y3 rfl)⟩,fun hp=>?_,fun hp=>?_⟩
  ·refine⟨F,n,Y.time,true,Y,(d.but (But.below f []) ZE).more ((d.live.but (But.below f []) ZE).drop fun x hx=>by simp[hx]) eD,q,Y3 ⟨rfl,by have:=o.1;omega,q,fun t' x q1 q2 q3=>h8 t' x q1 (by omega) q3,Y4 (by rw[ab];exact hp)⟩⟩
  ·refine⟨F,n,Y,(d.but (But.below f []) ZE).more ((d.live.but (But.below f []) ZE).drop fun x hx=>b8 _ hx) (fun x hx=>b8 _ hx),?_,q,h5,by rw[f.block _ (aD Q)];exact Q,by rw[a];exact h7,h8.succ h4 q (by rw[ab];exact hp)⟩
   rw[j];exact J.but m (But.below f []) ZE
 ·obtain⟨F,n,k,fd,τ,g,O,q⟩:=hE;obtain⟨s2,ai,a1,a2,a3,a4⟩:=g.ct;obtain rfl:ai=τ:=by rw[O] at a3;cases a3;rfl
  have P:=(af.sta a3).2.1;have B:=g.co;have hl:=g.lt;have m:=g.live;have z:=g.fr.1;have Z:=g.fr.2.2;have A:C.bt=w.heap.size+1:=by rw[<-a];rfl
  have u:C.bo=w.heap.size+1+1:=by rw[<-a];rfl
  rw[A] at a1;rw[u] at B;rw[a] at hl;rw[j] at m z Z;rw[E] at a3;rw[j] at a2;obtain⟨_,_,_,_,_,_,_,c,ay,ar⟩:=m.ses.cells;refine⟨s2,fd,a1,B,⟨c,_,ay,ar⟩,?_⟩;obtain⟨g1,g2⟩:=m.go a2 (by rw[P];exact a3) (by rw[P];exact a4)
  have aj:∀b∈[w.heap.size+3],b∈C.all:=fun b f=>by
   obtain rfl:=Z1.1 f;simp[MCtx.all,a]
  rw[E,ab,al] at q;rw[j] at aj;refine⟨F,n,ai,(g1.but (But.put _ (w.heap.size+3) _) aj).drop fun b f=>by simp[MCtx.all,f],q,(z.trans g2).but (But.put _ (w.heap.size+3) _) (fun b f=>?_) I⟩
  obtain rfl:=Z1.1 f;show w.heap.size<=w.heap.size+3
  omega
 ·have ae:H.heap.size=w.heap.size+3:=by rw[v];simp
  have am:∀b,F b->b<w.heap.size:=fun b f=>(h.ses.fix b f).1
  have D:∀i,Below w.heap.size w ((H.alloc (.deferred (some []))).alloc (.loop i)):=fun i=>by
   rw[v];exact(((((Y8 _ w).alloc dH _).alloc (by simp only[World.size_alloc];omega) _).alloc (by simp only[World.size_alloc];omega) _).alloc (by simp only[World.size_alloc];omega) _).alloc (by simp only[World.size_alloc];omega) _
  have ad:∀i,nO fp F ((H.alloc (.deferred (some []))).alloc (.loop i)) s0.val s:=fun i=>ap.keep (fun b f=>(D i).block b (am b f)) eD
  have aa:∀i k,k<H.heap.size->((H.alloc (.deferred (some []))).alloc (.loop i)).heap[k]?=H.heap[k]?:=fun i k hk=>by rw[Z3 _ _ _ (by simp only[World.size_alloc];omega),Z3 _ _ _ hk]
  have N:C.bb=bb:=by rw[j]
  rw[<-N];refine SA (C:=C) (F:=F) (n:=n) af G (by rw[j];exact aw) s0 H (by rw[a];exact ae) (fun i=>?_) (fun i=>?_)
  clear N
  ·have l:=((((h.alloc (.cells #[.func (.func K) rf X] 89)).alloc (.cells s0.cells 60)).alloc (.cells #[.bool false] 4)).alloc (.deferred (some []))).alloc (.loop i);simp only[World.size_alloc] at l;rw[<-v] at l;have Z:∀b∈L,b<w.heap.size:=fun b f=>(h.loc b f).2.1
   have c1:H.heap[w.heap.size]?=some (.cells #[.func (.func K) rf X] 89 (0,0)):=by
    rw[v,Z3 _ _ _ (by simp only[World.size_alloc];omega),Z3 _ _ _ (by simp only[World.size_alloc];omega)];exact aU _ _ rfl _
   have c2:H.heap[w.heap.size+1]?=some (.cells s0.cells 60 (0,0)):=by
    rw[v,Z3 _ _ _ (by simp only[World.size_alloc];omega)];exact aU _ _ (by simp only[World.size_alloc]) _
   have c3:H.heap[w.heap.size+1+1]?=some (.cells #[.bool false] 4 (0,0)):=by
    rw[v];exact aU _ _ (by simp only[World.size_alloc]) _
   rw[j];exact⟨l,fun _ h=>h,by rw[aa i _ (by simp only[MCtx.bf];omega)];exact c1,⟨by rw[(D i).block _ (aD ac)];exact ac,av⟩,⟨s0,s,by rw[aa i _ (by simp only[MCtx.bt];omega)];exact c2,ad i,h.ses.now,h.hn⟩,by rw[aa i _ (by simp only[MCtx.bo];omega)];exact c3,⟨Z7 _,by simp⟩,FS.of_below (D i) I,I,Z⟩
  ·rw[j];exact ad i
def KN(v:SV)(W:aH):Calls prog 47 (#[]++ #[v.val]++ #[]) W fun e W'=>e=bE (.bool true)/\Below W.heap.size W W':=by
 show Calls _ _ #[v.val] _ _
 unfold SV.val;go_in
 go_wp2
 go_ret;exact⟨rfl,(Y8 _ W).alloc dH _⟩
def XN(sb:Nat)(W:aH):Calls prog 37 #[bO sb] W fun e W'=>e=bE (.func (.func 63) #[] #[bO W.heap.size])/\W'=W.alloc (.cells #[bO sb] 24):=by
 have b:∀(a:aQ) (w:aH),(Instr.makeFunc (.func 63) #[] #[a]).run prog w=.ok (.func (.func 63) #[] #[a]) w:=fun _ _=>rfl
 go_in
 go_wp2
 go_ret;exact⟨rfl,rfl⟩
def VJ(sb:Nat)(w:aH)(P:Bool->World->Prop)
 (a:Hid (Calls prog 36 #[bO sb,.func (.func 63) #[] #[bO w.heap.size],.func (.func 47) #[] #[]] (w.alloc (.cells #[bO sb] 24)) fun e w'=>∃b,e=bE (.bool b)/\P b w')):
 Calls prog 24 #[bO sb] w fun e w'=>∃b,e=bE (.bool b)/\P b w':=by
 have d:=aB (XN sb w);go_in
 go_wp2_with fail;refine d.mono ?_;rintro e g ⟨rfl,rfl⟩;clear d;go_wp2_with fail;refine a.mono ?_;rintro e h ⟨b,rfl,c⟩;have f:=aB c;clear c a;go_wp2
 go_ret;exact⟨b,rfl,f⟩
def ZZ(i:Good ks)(c:tape.length<=17592186044416)(h:Live fp F w sb mb mo ks tape s n L):
 Calls prog 24 #[bO sb] w fun e w'=>∃b,e=bE (.bool b)/\J1 fp sb mb mo ks tape L (ZF (dM ks tape) (fun _=>true) s) w b w':=by
 refine VJ sb w _ ((NL i c (h.alloc (.cells #[bO sb] 24)) w.heap.size (j0 ..) (aU _ _ rfl _) (fun _=>true) 47 #[] #[] Q0 fun F n L W v m _ _ _ _ _=>KN v W).mono ?_)
 rintro e w' ⟨b,rfl,G,d,k,j,f,l⟩;have a:Below w.heap.size w (w.alloc (.cells #[bO sb] 24)):=(Y8 _ w).alloc dH _;exact⟨b,rfl,G,d,k,j.drop fun b g=>b8 _ g,f,(FS.of_below a h.ses.lt).trans l⟩
end
end Go.Proofs.YtddnpoiiimjpcaaGreatDoor
