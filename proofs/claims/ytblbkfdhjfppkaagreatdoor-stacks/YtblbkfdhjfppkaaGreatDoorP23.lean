/- All states of a run: plain facts that its being in memory needs. -/
import Derived.Test.YtblbkfdhjfppkaaGreatDoorP01
import Derived.Test.YtblbkfdhjfppkaaGreatDoorP22
set_option linter.defProp false
set_option maxRecDepth 100000
set_option maxHeartbeats 4000000
namespace Go.Proofs.YtblbkfdhjfppkaaGreatDoor
open Hs
open _root_.Go.Proofs.Tryz
open Go.RowKit
def tA:∀(l:List aJ) (a v:aJ),(cI l a v).2<=9
 |[],_,_=>by simp[cI]
 |i::l,a,v=>by
  unfold cI;have:=tA l (a.l.getD i.n.toNat bN) v;repeat' split
  all_goals first|(simp;done)|exact this
def yC{r:aJ × Nat}(h:r.2<=9):(gY r).2<=9:=by
 unfold gY;split
 ·split
  ·simp
  ·exact h
 ·exact h
def XT(op:List UInt8)(a b:aJ):(eL op a b).2<=9:=by
 unfold eL jA iZ;repeat' split
 all_goals first|(simp;done)|(simp only[];split<;>simp)
def ZD(op:List UInt8)(a:aJ):(fF op a).2<=9:=by
 unfold fF;repeat' split
 all_goals simp
def PI(a b:aJ):(dB a b).2<=9:=by
 unfold dB;repeat' split
 all_goals simp
def KY(a:aJ):(dW a).2<=9:=by
 unfold dW;repeat' split
 all_goals simp
def LF(i:aH)(f:aI):(aL i f).2<=9:=by
 cases i<;>simp only[aL]
 case assign k n=>
  have:=yC (tA (f.pop.many n) (f.vars[k]?.getD bN) f.last);split
  ·simp
  ·exact this
 case unary op=>
  have:=ZD (op++[120]) f.last;split
  ·simp
  ·exact this
 case binary op=>
  have:=XT op f.pop.last f.last;split
  ·simp
  ·exact this
 case index=>
  have:=PI f.pop.last f.last;split
  ·simp
  ·exact this
 case list n=>
  have:=yC (r:=(aW (f.many n),0)) (by simp)
  split
  ·simp
  ·exact this
 case length=>
  have:=KY f.last;split
  ·simp
  ·exact this
 all_goals (repeat' split)<;>simp
def O7(b:List dY)(i:aH)(a:List aI)(f:aI)(t:List Int)(o:List (List UInt8)):(Hs.doI b i a f t o).2<=9:=by
 cases i<;>simp only[Hs.doI]<;>first|exact LF _ _|skip
 case read=>cases t<;>simp
 case call=>split<;>simp
 case give=>simp
 case print=>split<;>simp
structure Rest(n:Nat)(m:cF):Prop where
 utf:fM m
 out:m.out.length<=50
 tape:m.tape.length<=n
def pU{a:List dY}(o:jN a){n:Nat}:∀(k:Nat) (m:cF) (r:cF × Nat),Rest n m->cJ a k m=some r->Rest n r.1/\r.2<=9
 |0,_,_,_,h=>by cases h
 |k+1,m,r,c,h=>by
  rw[cJ] at h;cases j:m.frames.getLast? with
  |none=>
   rw[j] at h;simp only[Option.some.injEq] at h;subst h;exact⟨c,by simp⟩
  |some f=>
   rw[j] at h;simp only at h;cases e:f.fetch with
   |none=>rw[e] at h;cases h
   |some q=>
    obtain⟨i,g⟩:=q;rw[e] at h;simp only at h
    have d:m.frames=m.frames.dropLast++[f]:=by
     obtain⟨t,s⟩:=List.getLast?_eq_some_iff.1 j;rw[s];simp
    have b:fM ⟨m.frames.dropLast++[f],m.tape,m.out⟩:=by
     have:=c.utf;unfold fM at this ⊢
     rw[<-d];exact this
    have l:Rest n (Hs.doI a i m.frames.dropLast g m.tape m.out).1:=⟨DT o b e,XC c.out,aF_ QO c.tape⟩;have p:=O7 a i m.frames.dropLast g m.tape m.out;split at h
    ·simp only[Option.some.injEq] at h;subst h;exact⟨l,p⟩
    ·split at h
     ·simp only[Option.some.injEq] at h;subst h;exact⟨l,p⟩
     ·exact pU o k _ _ l h
def GX{a:List dY}(d:jN a){n:Nat}{m0:cF}(g:Rest n m0):∀(t:Nat) (s:bI),dQ a m0 t=some s->Rest n s.m/\s.stop<=9
 |0,s,h=>by
  rw[dQ] at h;cases b:cJ a gD m0 with
  |none=>rw[b] at h;cases h
  |some r=>
   rw[b] at h;simp only[bE_,Option.some.injEq] at h;subst h;obtain⟨c,i⟩:=pU d _ _ _ g b;exact⟨c,by simp only[bT];split<;>omega⟩
 |t+1,s,h=>by
  rw[dQ] at h;cases e:dQ a m0 t with
  |none=>rw[e] at h;cases h
  |some f=>
   rw[e] at h;simp only at h;split at h
   ·cases b:cJ a gD f.m with
    |none=>rw[b] at h;cases h
    |some r=>
     rw[b] at h;simp only[bE_,Option.some.injEq] at h;subst h;obtain⟨c,i⟩:=pU d _ _ _ (GX d g t f e).1 b;exact⟨c,by simp only[bT];split<;>omega⟩
   ·cases h
def D6(s:ByteArray)(w:World)(c:s.size<=281474976710656):Calls prog 69 #[.string s] w fun e w'=>e=.returned (.string s)/\Below w.heap.size w w':=by
 have d:=aB (stringslite_Clone s w c);go_enter func69,ntmps69;go_wp2_with fail;refine d.out.mono ?_;rintro e f ⟨rfl,a⟩;have b:=aB a;clear a;go_wp2_with fail;go_ret;exact⟨rfl,b.out⟩
def SN(a:ByteArray)(b p:Nat)(w:World)(z:iT w)(I:a.size<=281474976710656)(J:w.cell? ⟨b,0,none⟩=some (.string a))(s:w.heap[p]?=some (.cells #[.slice none 0 0] 86 (0,0))):
 Calls prog 68 #[.pointer (some ⟨b,0,none⟩),.pointer (some ⟨p,0,none⟩)] w fun e w'=>
  (cG a.data.toList=(0,0)/\e=.returned (.tuple #[])/\∃o v ks,Below w.heap.size w o/\cW a.data.toList=.ok ks/\FSl (Btw w.heap.size o.heap.size) o v ks/\w'=o.setCell ⟨p,0,none⟩ v)\/
  ((cG a.data.toList).1≠0/\e=cX (cG a.data.toList).1 (cG a.data.toList).2/\Below w.heap.size w w'):=by
 have B:=aB (D6 a w I);have C:Hid (∀W,Below w.heap.size w W->Calls prog 44 #[.string a] W (wO a.data.toList W)):=fun W D=>IA a W (z.below D) (by unfold maxLen;omega)
 have u:=aB s;have H:=aD s;clear z s;go_enter func68,ntmps68;go_wp2_with fail;refine B.out.mono ?_;rintro e o ⟨rfl,n⟩;have m:=aB (C.out o n);have d:=aB n;clear C B n;go_wp2_with fail;refine m.out.mono ?_;rintro e t ⟨f,⟨q,v,ks,rfl,A,r⟩|⟨q,rfl⟩⟩
 ·have l:=d.out.trans (f.mono d.out.size);have h:t.heap[p]?=some (.cells #[.slice none 0 0] 86 (0,0)):=by rw[l.block _ H];exact u.out
  have L:=aA h (i:=0) rfl;have K:=aE h (i:=0);have M:=aD h
  obtain⟨x,c,rfl⟩:∃x c,v=.slice x ks.length c:=by
   rcases r with ⟨rfl,rfl⟩|⟨g,E,F,N,rfl,_⟩
   ·exact⟨none,0,rfl⟩
   ·exact⟨_,_,rfl⟩
  have j:=aB (aW_ q (aW_ A (aW_ l (r.grow (G:=Btw w.heap.size t.heap.size) (fun _ _=>rfl) (fun k y=>⟨aF_ d.out.size y.1,y.2⟩)))))
  clear q A r f l h m d u;go_wp2_with fail;go_end0;exact av_ ⟨j.out.1,rfl,t,_,ks,j.out.2.2.1,j.out.2.1,j.out.2.2.2,rfl⟩
 ·have j:=aB (aW_ q (d.out.trans (f.mono d.out.size)));clear q f m d u;go_wp2_with fail;exact⟨rfl,as_ ⟨j.out.1,rfl,j.out.2⟩⟩
def M9(w:World):(Instr.makeMap 112 none).run prog w=.ok (.map (some w.heap.size)) (w.alloc (.map #[] 0)):=rfl
def PJ(w:World)(p:ByteArray)(x:Option Addr)(n c:Nat)(P:Value->World->Prop)(A:World->Prop)(S:Nat->Value->Value->Value->Nat->World->Prop)
 (u:Hid (Calls prog 42 #[.func (.func 68) #[] #[.pointer (some ⟨w.heap.size,0,none⟩),.pointer (some ⟨w.heap.size+1,0,none⟩)]] ((w.alloc (.cells #[.string p] 9)).alloc (.cells #[.slice none 0 0] 86)) fun e w'=>(e=.returned (.tuple #[.int .i64 0,.int .i64 0])/\A w')\/∃k l:Nat,k≠0/\e=.returned (.tuple #[.int .i64 k,.int .i64 l])/\P (.tuple #[.pointer none,.int .i64 k,.int .i64 l]) w'))
 (t:Hid (∀W,A W->∃r y z,W.cell? ⟨w.heap.size+1,0,none⟩=some (.slice r y z)/\w.heap.size+1<W.heap.size/\Calls prog 70 #[.slice r y z,.slice x n c] W fun e w'=>∃(a:Nat) (j h b:Option Addr) (i m d c1 f g q:Nat),e=.returned (.agg #[.int .i64 a,.slice j i c1,.slice h m f,.slice b d g,.int .i64 q])/\S a (.slice j i c1) (.slice h m f) (.slice b d g) q w'))
 (B:Hid (∀(a:Nat) (j h b:Option Addr) (i m d c1 f g q:Nat) W,S a (.slice j i c1) (.slice h m f) (.slice b d g) q W->Calls prog 71 #[.pointer (some ⟨W.heap.size+1,0,none⟩),.agg #[.int .i64 a,.slice j i c1,.slice h m f,.slice b d g,.int .i64 q]] ((W.alloc (.map #[] 0)).alloc (.cells #[.int .i64 a,.slice j i c1,.slice h m f,.slice b d g,.int .i64 q,.slice none 0 0,.map (some W.heap.size)] 114)) fun e w'=>e=.returned (.tuple #[])/\P (.tuple #[.pointer (some ⟨W.heap.size+1,0,none⟩),.int .i64 0,.int .i64 0]) w')):
 Calls prog 32 #[.string p,.slice x n c] w fun e w'=>∃v,e=.returned v/\P v w':=by
 have H:=KW;have G:=M9;go_enter func32,ntmps32;go_wp2_with fail;refine u.out.mono ?_;rintro e M (⟨rfl,o⟩|⟨k,l,O,rfl,o⟩)
 ·obtain⟨r,y,z,K,T,D⟩:=t.out _ o;have F:=aB D;clear o D u t;go_wp2_with fail;refine F.out.mono ?_;rintro e Q ⟨a,j,h,b,i,m,d,c1,f,g,q,rfl,C⟩;have s:=aB (B.out _ _ _ _ _ _ _ _ _ _ _ _ C);clear C B F K;go_wp2_with fail;refine s.out.mono ?_;rintro e N ⟨rfl,E⟩;have I:=aB E;clear E;go_wp2_with fail;go_ret3
  exact⟨_,rfl,I.out⟩
 ·have L:=aB o;have J:¬(k:Int)=0:=by omega
  clear o u t B;go_wp2_with fail;go_ret3
  exact⟨_,rfl,L.out⟩
structure Good(ks:List aC):Prop where
 fl:ks.length<=90000
 ok:∀f∈ks,iC ks 2001 f
 lit:∀f∈ks,∀k∈f.kids,mJ k
 kl:∀f∈ks,f.kids.length<=90000
 main:fG ks (cS ks [109,97,105,110])=some 0
 utf:jN (cP ks 2001)
noncomputable def cE(ks:List aC)(tape:List Int):Nat->Option bI:=dQ (cP ks 2001) (eT ks 2001 tape)
def Good.rest0{ks:List aC}(h:Good ks)(a:List Int):Rest a.length (eT ks 2001 a):=by
 refine⟨?_,by simp[eT],by simp[eT]⟩
 intro f c;simp only[eT,aD_] at c;subst c;refine⟨?_,fun v b=>by simp at b,fun v b=>by simp at b⟩
 show vM ((cP ks 2001)[cS ks [109,97,105,110]]?.getD ⟨[],[]⟩)
 cases d:(cP ks 2001)[cS ks [109,97,105,110]]? with
 |none=>exact⟨fun v b=>by simp at b,fun v b=>by simp at b⟩
 |some f=>exact h.utf f (bb_ d)
def Good.first{ks:List aC}(h:Good ks)(a:List Int):∃r,cJ (cP ks 2001) gD (eT ks 2001 a)=some r/\r.2<=9/\cE ks a 0=some ⟨0,r.1,bT 0 r.2⟩:=by
 obtain⟨r,b,_⟩:=oN (iF h.ok) (mU h.ok h.main a);exact⟨r,b,(pU h.utf _ _ _ (h.rest0 a) b).2,by simp[cE,dQ,b]⟩
def i7(a b:Value)(W:World):(callFunc 68 #[a,b]).run prog W=.ok (.enter 68 #[a,b]) W:=by kernel_rfl
def Q0(src:List UInt8)(tape:List Int)(w:World)(v:Value)(w':World):Prop:=
 Below w.heap.size w w'/\
 ((cG src=(0,0)/\∃ks fp G sb mb,cW src=.ok ks/\v=.tuple #[.pointer (some ⟨sb,0,none⟩),.int .i64 0,.int .i64 0]/\w.heap.size<=sb/\w.heap.size<=mb/\lA fp G w' (cP ks 2001)/\∃s,jV fp G w' sb mb (.map #[] 0) (cE ks tape) s 1/\s.time=0)\/
  ((cG src).1≠0/\v=.tuple #[.pointer none,.int .i64 (cG src).1,.int .i64 (cG src).2]))
def DA(j:ByteArray)(tv:Value)(s:List Int)(w:World)(hT:iT w)(hp:kC w)(hs:j.size<=281474976710656)(ht:XH w tv s)(an:s.length<=17592186044416)
 (hg:∀ks,cW j.data.toList=.ok ks->cG j.data.toList=(0,0)->Good ks):
 Calls prog 32 #[.string j,tv] w fun e w'=>∃v,e=.returned v/\Q0 j.data.toList s w v w':=by
 obtain⟨tx,tn,tc,rfl⟩:∃x n c,tv=.slice x n c:=by
  rcases ht with ⟨_,rfl⟩|⟨g,o,c,rfl,_⟩
  ·exact⟨_,_,_,rfl⟩
  ·exact⟨_,_,_,rfl⟩
 obtain⟨m,B⟩:∃m,m=(w.alloc (.cells #[.string j] 9)).alloc (.cells #[.slice none 0 0] 86):=⟨_,rfl⟩;have X:Below w.heap.size w m:=by rw[B];exact((ay_ _ _).alloc (au_ _) _).alloc (by simp) _
 have aq:m.heap.size=w.heap.size+2:=by rw[B];simp
 have am:m.heap[w.heap.size]?=some (.cells #[.string j] 9 (0,0)):=by rw[B];exact jM _ _ _
 have ab:m.heap[w.heap.size+1]?=some (.cells #[.slice none 0 0] 86 (0,0)):=by rw[B];exact gO _ _ _
 generalize O:cG j.data.toList=rd at*
 refine(PJ w j tx tn tc (fun v w'=>Q0 j.data.toList s w v w')
  (fun W=>rd=(0,0)/\∃lo z K A ks,cW j.data.toList=.ok ks/\Below w.heap.size w W/\W.cell? ⟨w.heap.size+1,0,none⟩=some (.slice z K A)/\w.heap.size+1<W.heap.size/\FSl (Btw lo W.heap.size) W (.slice z K A) ks)
  (fun a v1 v2 v3 q W=>rd=(0,0)/\∃(ks:List aC) (U:Nat->Value) (G:Nat->Prop) (r:cF × Nat),cW j.data.toList=.ok ks/\Below w.heap.size w W/\(∀b,G b->b<W.heap.size)/\lA U G W (cP ks 2001)/\a=0/\q=bT 0 r.2/\kR U G W (.agg #[.int .i64 ((0:Nat):Int),v1,v2,v3,.int .i64 (bT 0 r.2)]) ⟨0,r.1,bT 0 r.2⟩/\cE ks s 0=some ⟨0,r.1,bT 0 r.2⟩)
  ?_ (fun W hA=>?_) (fun a x1 x2 x3 n1 n2 n3 c1 c2 c3 q W hS=>?_))
 ·show Calls _ _ _ _ _
  rw[<-B]
  refine(PW 68 (some ⟨w.heap.size,0,none⟩) (some ⟨w.heap.size+1,0,none⟩) m
   (fun W=>rd=(0,0)/\∃z K A ks Y,cW j.data.toList=.ok ks/\Below (m.heap.size+2) ((m.alloc (.cells #[.int .i64 0] 22)).alloc (.cells #[.int .i64 0] 3)) Y/\FSl (Btw (m.heap.size+2) Y.heap.size) Y (.slice z K A) ks/\W=Y.setCell ⟨w.heap.size+1,0,none⟩ (.slice z K A))
   (fun k l=>rd=(k,l)) (fun W=>i7 _ _ W) (fun W hW=>?_)).mono ?_
  ·have u:Below m.heap.size m W:=by rw[hW];exact((ay_ _ _).alloc (au_ _) _).alloc (by simp) _
   have T:W.heap.size=m.heap.size+2:=by rw[hW];simp
   have hK:W.heap[m.heap.size]?=some (.cells #[.int .i64 0] 22 (0,0)):=by rw[hW];exact jM _ _ _
   have hI:W.heap[m.heap.size+1]?=some (.cells #[.int .i64 0] 3 (0,0)):=by rw[hW];exact gO _ _ _
   refine(SN j w.heap.size (w.heap.size+1) W ((hT.below X).below u) hs (aA (by rw[u.block _ (by omega)];exact am) rfl) (by rw[u.block _ (by omega)];exact ab)).mono ?_
   rintro e w' (⟨M,E,Y,v,ks,H,t,Z,N⟩|⟨M,E,H⟩)
   ·obtain⟨z,A,rfl⟩:∃x c,v=.slice x ks.length c:=by
     rcases Z with ⟨rfl,rfl⟩|⟨g,ar,ap,us,rfl,_⟩
     ·exact⟨none,0,rfl⟩
     ·exact⟨_,_,rfl⟩
    have aa:∀k,m.heap.size<=k->k<W.heap.size->w'.heap[k]?=W.heap[k]?:=fun k y af=>by
     rw[N,ax_ _ _ _ _ (show k≠w.heap.size+1 by omega),H.block k af]
    refine av_ ⟨E,by rw[aa _ (au_ _) (by omega)];exact hK,by rw[aa _ (by omega) (by omega)];exact hI,by rw[<-O];exact M,z,_,A,ks,Y,t,?_,?_,N⟩
    ·rw[<-hW,<-T];exact H
    ·rw[<-T];exact Z
   ·refine as_ ⟨_,_,M,E,H,?_⟩;rw[<-O]
  ·rintro e w' (⟨E,Y,⟨M,z,K,A,ks,w0,H,t,Z,N⟩,h5⟩|⟨k,l,y,E,J,hE⟩)
   ·refine av_ ⟨E,M,m.heap.size+2,z,K,A,ks,H,?_⟩;have aj:Below w.heap.size w w0:=X.trans ((((ay_ m.heap.size m).alloc (au_ _) _).alloc (by simp) _).mono (by omega) |>.trans (t.mono (by omega)))
    have ag:w'.heap.size=w0.heap.size:=by rw[h5,N];simp
    have ai:=t.size;simp only[World.size_alloc] at ai
    have ae:∀k,k≠w.heap.size+1->k≠m.heap.size->k≠m.heap.size+1->w'.heap[k]?=w0.heap[k]?:=fun k q1 q2 q3=>by
     rw[h5,ax_ _ _ _ _ (show k≠m.heap.size+1 from q3),ax_ _ _ _ _ (show k≠m.heap.size from q2),N,ax_ _ _ _ _ (show k≠w.heap.size+1 from q1)]
    have hB:w'.heap[w.heap.size+1]?=some (.cells #[.slice z K A] 86 (0,0)):=by
     rw[h5,ax_ _ _ _ _ (show w.heap.size+1≠m.heap.size+1 by omega),ax_ _ _ _ _ (show w.heap.size+1≠m.heap.size by omega),N]
     have:w0.heap[w.heap.size+1]?=some (.cells #[.slice none 0 0] 86 (0,0)):=by
      rw[t.block _ (by omega),aA_ _ _ _ (by simp;omega),aA_ _ _ _ (by omega)];exact ab
     rw[aS this];rfl
    refine⟨?_,aA hB rfl,by omega,?_⟩
    ·rw[h5,N];exact((aj.setCell (show w.heap.size<=w.heap.size+1 by omega) _).setCell (show w.heap.size<=m.heap.size by omega) _).setCell (show w.heap.size<=m.heap.size+1 by omega) _
    ·exact Z.grow (fun b J=>ae b (by have:=J.1;omega) (by have:=J.1;omega) (by have:=J.1;omega)) (fun b J=>⟨J.1,by rw[ag];exact J.2⟩)
   ·refine as_ ⟨k,l,y,E,X.trans (J.mono (by omega)),as_ ?_⟩
    rw[O,hE];exact⟨y,rfl⟩
 ·obtain⟨M,lo,z,K,A,ks,H,t,Z,N,h5⟩:=hA;refine⟨z,K,A,Z,N,?_⟩;have f:=hg ks H M;obtain⟨r,ah,ao,ak⟩:=f.first s
  refine(TX (lo:=lo) (d:=2001) _ _ W h5 f.fl f.ok f.lit f.kl f.main ?_ an (hp.below t) f.utf ah (by omega)).mono ?_
  ·rcases ht with ht|⟨g,o,c,e,ad,hc⟩
   ·exact av_ ht
   ·exact as_ ⟨g,o,c,e,az_ ad t.size,fun i hi=>⟨(t.cell (p:=⟨g,o+i,none⟩) ad).trans (hc i hi).1,(hc i hi).2⟩⟩
  ·rintro e w' ⟨v',E,J,U,G,hG,I,P⟩;obtain⟨f',t',o',rfl,⟨x1,n1,c1,rfl⟩,⟨x2,n2,c2,rfl⟩,⟨x3,n3,c3,rfl⟩⟩:=P.form;exact⟨0,x1,x2,x3,n1,n2,n3,c1,c2,c3,_,E,M,ks,U,G,r,H,t.trans (J.mono t.size),hG,I,rfl,rfl,P,ak⟩
 ·obtain⟨M,ks,U,G,r,H,t,hG,I,rfl,rfl,P,Q⟩:=hS;obtain⟨L,D⟩:∃L,L=(W.alloc (.map #[] 0)).alloc (.cells #[.int .i64 ((0:Nat):Int),.slice x1 n1 c1,.slice x2 n2 c2,.slice x3 n3 c3,.int .i64 (bT 0 r.2),.slice none 0 0,.map (some W.heap.size)] 114):=⟨_,rfl⟩;have u:Below W.heap.size W L:=by rw[D];exact((ay_ _ _).alloc (au_ _) _).alloc (by simp) _
  have T:L.heap.size=W.heap.size+2:=by rw[D];simp
  have hM:L.heap[W.heap.size]?=some (.map #[] 0):=by rw[D];exact jM _ _ _
  have hB:L.heap[W.heap.size+1]?=some (.cells #[.int .i64 ((0:Nat):Int),.slice x1 n1 c1,.slice x2 n2 c2,.slice x3 n3 c3,.int .i64 (bT 0 r.2),.slice none 0 0,.map (some W.heap.size)] 114 (0,0)):=by rw[D];exact gO _ _ _
  rw[<-D];have S:=P.keep (fun k y=>u.block k (hG k y)) fun _ h=>h
  have ac:jV U G L (W.heap.size+1) W.heap.size (.map #[] 0) (cE ks s) ⟨0,r.1,bT 0 r.2⟩ 0:=by
   refine⟨⟨_,_,_,.slice none 0 0,[],hB,S,World.ownsRow_nil _ _ _ _,rfl,fun i hi=>by simp at hi,fun k y e=>?_,fun e=>?_⟩,Q,fun k y=>?_,hM,by omega⟩
   ·simp[Value.ownBlock] at e
   ·simp[Value.ownBlock] at e
   ·have:=hG k y;exact⟨by omega,by omega,by omega⟩
  refine(GZ ac _ ⟨0,r.1,bT 0 r.2⟩ S Q (fun _=>by simp) (by omega) (by simp)).mono ?_
  rintro e w' ⟨E,hf,al⟩;have V:=I.keep (fun k y=>u.block k (hG k y)) (fun _ h=>h)
  refine⟨E,?_,av_ ⟨by rw[O];exact M,ks,U,G,W.heap.size+1,W.heap.size,H,rfl,by have:=t.size;omega,t.size,?_,⟨0,r.1,bT 0 r.2⟩,by simpa using al,rfl⟩⟩
  ·have C:Below w.heap.size w L:=t.trans (u.mono t.size);have F:lX (W.heap.size+1) L=none:=by rw[mE hB rfl];rfl
   exact⟨hf.os.trans C.os,hf.tape.trans C.tape,hf.output.trans C.output,aF_ C.size hf.size,fun k y=>by
    have:=t.size;rw[hf.blk k (by omega) (by omega) (by rw[F];simp),C.block k y]⟩
  ·refine V.keep (fun k y=>?_) fun _ h=>h
   have F:lX (W.heap.size+1) L=none:=by rw[mE hB rfl];rfl
   have:=hG k y;exact hf.blk k (by omega) (by omega) (by rw[F];simp)
def n9:prog.globalNamed "internal/strconv.uint64pow10"=some 1:=by kernel_rfl
def kC.low{w w':World}(h:kC w)(a:∀k,k<11->w'.heap[k]?=w.heap[k]?):kC w':=h.keep n9 (a _ (by decide))
def kR.sv{b:Nat->Value}{F:Nat->Prop}{w:World}{v:Value}{a:bI}(h:kR b F w v a):∃s:SV,v=s.val/\s.t=a.time/\s.q=a.stop:=by
 obtain⟨f,t,o,rfl,⟨l,k,e,rfl⟩,⟨j,m,g,rfl⟩,⟨c,d,i,rfl⟩⟩:=h.form;exact⟨⟨a.time,l,j,c,k,m,d,e,g,i,a.stop⟩,rfl,rfl,rfl⟩
section
variable {fp:Nat->Value} {F G:Nat->Prop} {w w':World} {sb mb n n':Nat} {mo:Obj} {st:Nat->Option bI} {s:bI}
def jV.same(h:jV fp F w sb mb mo st s n)(d:w.heap.size<=w'.heap.size)(c:∀k,F k\/k=sb\/k=mb\/lX sb w=some k->w'.heap[k]?=w.heap[k]?):jV fp F w' sb mb mo st s n:=by
 obtain⟨z,m,v,e,t,f,j,u,o,q,y,p⟩:=h.blk;have g:∀b,F b->w'.heap[b]?=w.heap[b]?:=fun b l=>c b (av_ l)
 have r:lX sb w=e.ownBlock:=mE f rfl;refine⟨⟨z,m,v,e,t,by rw[c sb (as_ (av_ rfl))];exact f,j.keep g fun _ h=>h,aY u fun k a=>c k (as_ (as_ (as_ (by rw[r];exact a)))),o,fun i x=>(q i x).keep g fun _ h=>h,y,p⟩,h.now,fun k a=>⟨az_ (h.fix k a).1 d,(h.fix k a).2⟩,by rw[c mb (as_ (as_ (av_ rfl)))];exact h.map.1,h.map.2⟩
def Fs.other{b:Nat}(h:Fs sb w w')(m:w.heap.size<=b)(j:sb<w.heap.size){c:World}(d:c.heap.size=w'.heap.size)(a:c.os=w'.os/\c.tape=w'.tape/\c.output=w'.output)(f:∀k,k≠b->c.heap[k]?=w'.heap[k]?):Fs sb w c:=
 ⟨a.1.trans h.os,a.2.1.trans h.tape,a.2.2.trans h.output,by rw[d];exact h.size,fun k i g l=>by rw[f k (by omega)];exact h.blk k i g l,fun k e=>h.row k (by rw[<-nL (f sb (by omega))];exact e)⟩
end
structure Live(fp:Nat->Value)(F:Nat->Prop)(w:World)(sb mb:Nat)(mo:Obj)(ks:List aC)(tape:List Int)(s:bI)(n:Nat)(L:List Nat):Prop where
 ses:jV fp F w sb mb mo (cE ks tape) s n
 tab:lA fp F w (cP ks 2001)
 pow:kC w
 low:11<=sb/\11<=mb
 hn:s.time/20<n
 loc:∀b∈L,11<=b/\b<w.heap.size/\¬F b/\lX sb w≠some b/\b≠sb/\b≠mb
section
variable {fp:Nat->Value} {F G:Nat->Prop} {w w':World} {sb mb n n':Nat} {mo:Obj} {ks:List aC} {tape:List Int} {s:bI} {L:List Nat}
def Live.row(h:Live fp F w sb mb mo ks tape s n L){k:Nat}(a:lX sb w=some k):sb<k/\k<w.heap.size/\¬F k/\k≠mb:=h.ses.row k a
def Live.keep(h:Live fp F w sb mb mo ks tape s n L)(L':List Nat)(f:∀b∈L',b∈L)(g:w.heap.size<=w'.heap.size)(c:∀k,k<w.heap.size->k∉L'->w'.heap[k]?=w.heap[k]?):Live fp F w' sb mb mo ks tape s n L:=by
 have l:=h.ses.lt;have e:w'.heap[sb]?=w.heap[sb]?:=c sb l fun a=>(h.loc sb (f sb a)).2.2.2.2.1 rfl
 have m:∀b,F b->w'.heap[b]?=w.heap[b]?:=fun b i=>c b (h.ses.fix b i).1 fun a=>(h.loc b (f b a)).2.2.1 i
 refine⟨h.ses.same g fun k d=>?_,h.tab.keep m fun _ h=>h,h.pow.low fun k d=>c k (by have:=h.low;omega) fun a=>by have:=(h.loc k (f k a)).1;omega,h.low,h.hn,fun b i=>?_⟩
 ·rcases d with j|rfl|rfl|j
  ·exact m k j
  ·exact e
  ·exact c _ (aD h.ses.map.1) fun a=>(h.loc _ (f _ a)).2.2.2.2.2 rfl
  ·exact c k (h.row j).2.1 fun a=>(h.loc k (f k a)).2.2.2.1 j
 ·obtain⟨r,t,o,q,p⟩:=h.loc b i;exact⟨r,az_ t g,o,by rw[nL e];exact q,p⟩
def Live.alloc(h:Live fp F w sb mb mo ks tape s n L)(o:Obj):Live fp F (w.alloc o) sb mb mo ks tape s n (w.heap.size::L):=by
 have a:Live fp F (w.alloc o) sb mb mo ks tape s n L:=h.keep [] (fun b c=>by cases c) (by simp) fun k d _=>aA_ _ _ _ d
 refine⟨a.ses,a.tab,a.pow,a.low,a.hn,fun b c=>?_⟩
 rcases aG_.1 c with rfl|c
 ·have f:=h.ses.lt;have i:=h.low;refine⟨by omega,by simp,fun g=>by have:=(h.ses.fix _ g).1;omega,fun e=>?_,by omega,by have:=aD h.ses.map.1;omega⟩
  rw[nL (aA_ _ _ _ f)] at e;have:=(h.row e).2.1;omega
 ·exact a.loc b c
def Live.drop(h:Live fp F w sb mb mo ks tape s n L){L':List Nat}(c:∀b∈L',b∈L):Live fp F w sb mb mo ks tape s n L':=⟨h.ses,h.tab,h.pow,h.low,h.hn,fun b a=>h.loc b (c b a)⟩
def Live.fs(h:Live fp F w sb mb mo ks tape s n L)(d:Fs sb w w')(m:jV fp G w' sb mb mo (cE ks tape) s n')(f:Ext F G w.heap.size)(p:n<=n'):Live fp G w' sb mb mo ks tape s n' L:=by
 have q:∀b,F b->w'.heap[b]?=w.heap[b]?:=fun b c=>d.blk b (h.ses.fix b c).1 (h.ses.fix b c).2.1 fun e=>(h.row e).2.2.1 c
 refine⟨m,h.tab.keep q f.sub,h.pow.low fun k t=>d.blk k (by have:=h.low;have:=h.ses.lt;omega) (by have:=h.low;omega) fun e=>by have:=(h.row e).1;have:=h.low;omega,h.low,az_ h.hn p,fun b c=>?_⟩
 obtain⟨i,j,l,g,o⟩:=h.loc b c;refine⟨i,az_ j d.size,fun r=>?_,fun e=>?_,o⟩
 ·rcases f.new b r with a|a
  ·exact l a
  ·omega
 ·rcases d.row b e with a|a
  ·exact g a
  ·omega
def Live.blk(h:Live fp F w sb mb mo ks tape s n L)(c:Fs sb w w'){b:Nat}(e:b∈L):w'.heap[b]?=w.heap[b]?:=by
 obtain⟨g,d,i,a,f,j⟩:=h.loc b e;exact c.blk b d f a
def Live.stR(h:Live fp F w sb mb mo ks tape s n L)(d:Fs sb w w')(g:Ext F G w.heap.size){v:Value}{c:bI}(f:kR fp F w v c):kR fp G w' v c:=
 f.keep (fun b a=>d.blk b (h.ses.fix b a).1 (h.ses.fix b a).2.1 fun e=>(h.row e).2.2.1 a) g.sub
def Good.sta(b:Good ks){t:Nat}{a:bI}(h:cE ks tape t=some a):RM (fG ks) a/\a.time=t/\Rest tape.length a.m/\a.stop<=9:=by
 obtain⟨e,c⟩:=tO (iF b.ok) (mU b.ok b.main tape) t a h;obtain⟨f,d⟩:=GX b.utf (b.rest0 tape) t a h;exact⟨e,c,f,d⟩
def Live.count(e:Good ks)(h:Live fp F w sb mb mo ks tape s n L):n<=26:=by
 obtain⟨_,_,_,_,i,_,_,_,g,c,_⟩:=h.ses.blk;rcases bS_ n with d|d
 ·omega
 obtain⟨_,j,a,_⟩:=c (n-1) (by omega)
 obtain⟨b,f,_⟩:=e.sta a;have:=b.time;omega
def Good.next(c:Good ks){a:bI}{t:Nat}(h:cE ks tape t=some a)(d:a.stop=0):∃r,cJ (cP ks 2001) gD a.m=some r/\r.2<=9/\cE ks tape (a.time+1)=some ⟨a.time+1,r.1,bT (a.time+1) r.2⟩:=by
 obtain⟨f,e,g,i⟩:=c.sta h;obtain⟨r,b,_⟩:=oN (iF c.ok) (f.ok d).1;refine⟨r,b,(pU c.utf _ _ _ g b).2,?_⟩;unfold cE at h ⊢
 rw[e,dQ,h];simp[d,b]
def AG:SV:=⟨0,none,none,none,0,0,0,0,0,0,0⟩
def R6(fp:Nat->Value)(F:Nat->Prop)(w:World)(sb mb:Nat)(mo:Obj)(ks:List aC)(tape:List Int)(s:bI)(n:Nat)(L:List Nat)(σ:bI)(v':SV)(ok:Bool)(w':World):Prop:=
 ∃G n',n<=n'/\Ext F G w.heap.size/\Fs sb w w'/\Live fp G w' sb mb mo ks tape s n' L/\(ok=true->σ.stop=0/\∃σ',cE ks tape (σ.time+1)=some σ'/\σ'.time=σ.time+1/\kR fp G w' v'.val σ'/\σ'.time/20<n')/\(ok=false->σ.stop≠0)
def GY(O:Good ks)(h:Live fp F w sb mb mo ks tape s n L)(ap:tape.length<=17592186044416)(v:SV)(d:bI)(hv:kR fp F w v.val d)(T:cE ks tape d.time=some d)(ai:d.time/20<n):
 Calls prog 111 #[.pointer (some ⟨sb,0,none⟩),v.val] w fun e w'=>∃v' ok,e=.returned (.tuple #[SV.val v',.bool ok])/\R6 fp F w sb mb mo ks tape s n L d v' ok w':=by
 obtain⟨t,l⟩:∃t,t=(w.alloc (.cells v.cells 108)).alloc (.cells #[.int .i64 0,.slice none 0 0,.slice none 0 0,.slice none 0 0,.int .i64 0] 108):=⟨_,rfl⟩;have c:Below w.heap.size w t:=by rw[l];exact((ay_ _ _).alloc (au_ _) _).alloc (by simp) _
 have am:t.heap.size=w.heap.size+2:=by rw[l];simp
 have K:t.heap[w.heap.size+1]?=some (.cells #[.int .i64 0,.slice none 0 0,.slice none 0 0,.slice none 0 0,.int .i64 0] 108 (0,0)):=by rw[l];exact gO _ _ _
 have y:∀b,F b->b<w.heap.size:=fun b a=>(h.ses.fix b a).1
 have p:=h.ses.lt;have ak:=aD h.ses.map.1;obtain⟨z,ao,H,aq⟩:=O.sta T;have aj:=h.count O;by_cases E:d.stop=0
 ·obtain⟨r,ad,al,P⟩:=O.next T E
  refine BS w sb v (R6 fp F w sb mb mo ks tape s n L d)
   (fun f ok W=>ok=true/\Below t.heap.size t W/\∃o,Ext F o t.heap.size/\(∀b,o b->b<W.heap.size)/\kR fp o W f.val ⟨d.time+1,r.1,bT (d.time+1) r.2⟩) ?_ (fun f W I=>?_) (fun f W I=>?_)
  ·show Calls _ _ _ _ _
   rw[<-l];refine(SP (iF O.ok) O.utf (hv.keep (fun b a=>c.block b (y b a)) fun _ h=>h) (fun b a=>az_ (y b a) c.size) (h.tab.keep (fun b a=>c.block b (y b a)) fun _ h=>h) (h.pow.below c) E (z.ok E).1 (z.ok E).2 H.utf H.out (by have:=H.tape;omega) ad (by have:=z.time;omega) (by omega)).mono ?_
   rintro e w' ⟨v',rfl,a,o,G,M,X⟩;obtain⟨f,rfl,_⟩:=X.sv;exact⟨f,true,rfl,rfl,a,o,G,M,X⟩
  ·cases I.1
  ·obtain⟨_,a,o,G,M,X⟩:=I;have aa:=a.size;obtain⟨x,A⟩:∃x,x=W.alloc (.cells f.cells 108):=⟨_,rfl⟩;have B:Below W.heap.size W x:=by rw[A];exact(ay_ _ _).alloc (au_ _) _
   have an:x.heap.size=W.heap.size+1:=by rw[A];simp
   have ah:x.heap[W.heap.size]?=some (.cells f.cells 108 (0,0)):=by rw[A];exact aM _ _ rfl _
   have i:Below w.heap.size w x:=c.trans ((a.mono c.size).trans (B.mono (by omega)))
   show Calls _ _ _ _ _
   rw[<-A]
   have m:jV fp o x sb mb mo (cE ks tape) s n:=h.ses.grow i G.sub fun k u=>by
    rcases G.new k u with j|j
    ·exact av_ j
    ·exact as_ ⟨by omega,by have:=M k u;omega⟩
   refine(GZ m f.val ⟨d.time+1,r.1,bT (d.time+1) r.2⟩ (X.keep (fun b g=>B.block b (M b g)) fun _ h=>h) P (fun hm=>by simp only at hm ⊢;omega) (by omega) (by have:=z.time;simp only;omega)).mono ?_
   rintro e w' ⟨he,Y,ae⟩;have D:lX sb x=lX sb w:=nL (i.block _ p);have J:∀k,w.heap.size<=k->k<x.heap.size->w'.heap[k]?=x.heap[k]?:=fun k j Q=>Y.blk k Q (by omega) fun e=>by rw[D] at e;have:=(h.row e).2.1;omega
   refine⟨he,by rw[J _ (by omega) (by omega)];exact ah,⟨_,by rw[J _ (by omega) (by omega),B.block _ (by omega),a.block _ (by omega)];exact K,by simp⟩,by omega,?_⟩
   obtain⟨Z,z2,z3,z4⟩:=fO w' (w.heap.size+1) f;have ac:Fs sb w w':=(Fs.of_below i p).trans Y;have N:Fs sb w (dR w' (w.heap.size+1) f):=ac.other (b:=w.heap.size+1) (by omega) p Z ⟨z2,z3,z4⟩ fun k u=>cV _ _ _ k u
   have af:¬o (w.heap.size+1):=fun hq=>by
    rcases G.new _ hq with j|j
    ·have:=y _ j;omega
    ·omega
   have S:∀k,o k\/k=sb\/k=mb\/lX sb w'=some k->(dR w' (w.heap.size+1) f).heap[k]?=w'.heap[k]?:=fun k u=>cV _ _ _ k (by
    rintro rfl;rcases u with j|j|j|j
    ·exact af j
    ·omega
    ·omega
    ·rcases Y.row _ j with Q|Q
     ·rw[D] at Q;have:=(h.row Q).2.1;omega
     ·omega)
   have ab:=ae.same (by rw[Z];exact au_ _) S
   have C:Ext F o w.heap.size:=⟨G.sub,fun k u=>(G.new k u).imp_right fun j=>by omega⟩
   refine⟨o,_,?_,C,N,h.fs N ab C ?_,fun _=>⟨E,⟨d.time+1,r.1,bT (d.time+1) r.2⟩,P,rfl,?_,?_⟩,fun e=>by cases e⟩
   ·split<;>omega
   ·split<;>omega
   ·refine X.keep (fun b g=>?_) fun _ h=>h
    have ag:=M b g;have V:b≠sb:=(m.fix b g).2.1;rw[S b (av_ g),Y.blk b (by omega) V (fun e=>(m.row b e).2.2.1 g),B.block b ag]
   ·simp only;split<;>omega
 ·refine BS w sb v (R6 fp F w sb mb mo ks tape s n L d) (fun f ok W=>ok=false/\f=AG/\Below t.heap.size t W) ?_ (fun f W I=>?_) (fun f W I=>?_)
  ·show Calls _ _ _ _ _
   rw[<-l];obtain⟨fv,tv,xo,he,f1,f2,f3⟩:=hv.form;rw[he];refine(ZI t d.time d.stop fv tv xo E f1 f2 f3).mono ?_;rintro e w' ⟨rfl,a⟩;exact⟨AG,false,rfl,rfl,rfl,a⟩
  ·obtain⟨_,rfl,a⟩:=I;have aa:=a.size;refine⟨⟨_,by rw[a.block _ (by omega)];exact K,by simp⟩,?_⟩
   obtain⟨Z,z2,z3,z4⟩:=fO W (w.heap.size+1) AG
   have i:Below w.heap.size w (dR W (w.heap.size+1) AG):=by
    have U:Below w.heap.size w W:=c.trans (a.mono c.size);exact⟨z2.trans U.os,z3.trans U.tape,z4.trans U.output,by rw[Z];exact U.size,fun k u=>by rw[cV _ _ _ k (by omega)];exact U.block k u⟩
   have q:=i.alloc i.size (.cells AG.cells 108);exact⟨F,n,au_ _,Ext.refl _ _,Fs.of_below q p,h.fs (Fs.of_below q p) (h.ses.grow q (fun _ h=>h) fun _ h=>av_ h) (Ext.refl _ _) (au_ _),fun e=>(by cases e),fun _=>E⟩
  ·cases I.1
end
def F5(st:Nat->Option bI)(p:bI->Bool)(s τ:bI)(fd:Bool):Prop:=
 (fd=false/\τ=s/\s.stop≠0)\/(fd=true/\s.time<τ.time/\st τ.time=some τ/\(∀t x,s.time<t->t<τ.time->st t=some x->p x=false)/\(p τ=true\/τ.stop≠0))
structure But(L:List Nat)(w w':World):Prop where
 os:w'.os=w.os
 tape:w'.tape=w.tape
 output:w'.output=w.output
 size:w.heap.size<=w'.heap.size
 blk:∀k,k<w.heap.size->k∉L->w'.heap[k]?=w.heap[k]?
def But.below{w w':World}(h:Below w.heap.size w w')(L:List Nat):But L w w':=⟨h.os,h.tape,h.output,h.size,fun k a _=>h.block k a⟩
def But.alloc(w:World)(o:Obj)(L:List Nat):But L w (w.alloc o):=But.below ((ay_ _ w).alloc (au_ _) o) L
def But.drew(w:World)(L:List Nat):But L w w.drew:=⟨rfl,rfl,rfl,au_ _,fun _ _ _=>rfl⟩
def But.put(w:World)(b:Nat)(o:Obj):But [b] w (w.putObj b o):=⟨rfl,rfl,rfl,by simp,fun k _ a=>World.putObj_heap_other (by simpa using a)⟩
def But.set5(w:World)(b:Nat)(s:SV):But [b] w (dR w b s):=by
 obtain⟨e,c,f,d⟩:=fO w b s;exact⟨c,f,d,by rw[e];exact au_ _,fun k _ a=>cV _ _ _ k (by simpa using a)⟩
def But.set(w:World)(b:Nat)(v:Value):But [b] w (w.setCell ⟨b,0,none⟩ v):=⟨rfl,rfl,rfl,by simp,fun k _ a=>ax_ _ _ _ _ (by simpa using a)⟩
def But.trans{L M:List Nat}{a b c:World}(h:But L a b)(k:But M b c):But (L++M) a c:=
 ⟨k.os.trans h.os,k.tape.trans h.tape,k.output.trans h.output,aF_ h.size k.size,fun i e d=>by
   rw[aE_,not_or] at d;rw[k.blk i (az_ e h.size) d.2,h.blk i e d.1]⟩
def Fs.but{sb:Nat}{c w w':World}{L:List Nat}(h:Fs sb c w)(a:But L w w')(f:∀b∈L,c.heap.size<=b)(j:sb<c.heap.size):Fs sb c w':=by
 have n:=h.size;have l:w'.heap[sb]?=w.heap[sb]?:=a.blk sb (by omega) fun d=>by have:=f sb d;omega
 exact⟨a.os.trans h.os,a.tape.trans h.tape,a.output.trans h.output,aF_ h.size a.size,fun k i g m=>by rw[a.blk k (by omega) fun d=>by have:=f k d;omega];exact h.blk k i g m,fun k e=>h.row k (by rw[<-nL l];exact e)⟩
def kR.but{c:Nat->Value}{F:Nat->Prop}{w w':World}{sb i n:Nat}{f:Obj}{ks:List aC}{a:List Int}{s e:bI}{L L':List Nat}{v:Value}(l:kR c F w v e)(h:Live c F w sb i f ks a s n L)(g:But L' w w')(j:∀b∈L',b∈L):kR c F w' v e:=
 l.keep (fun b d=>g.blk b (h.ses.fix b d).1 fun k=>(h.loc b (j b k)).2.2.1 d) fun _ h=>h
def Live.but{e:Nat->Value}{F:Nat->Prop}{w w':World}{sb d n:Nat}{c:Obj}{ks:List aC}{a:List Int}{s:bI}{L L':List Nat}(h:Live e F w sb d c ks a s n L)(f:But L' w w')(g:∀b∈L',b∈L):Live e F w' sb d c ks a s n L:=h.keep L' g f.size f.blk
def jV.cells{f:Nat->Value}{F:Nat->Prop}{w:World}{sb j n:Nat}{i:Obj}{p:Nat->Option bI}{s:bI}(h:jV f F w sb j i p s n):∃a:SV,kR f F w a.val s/\w.cell? ⟨sb,0,none⟩=some (.int .i64 a.t)/\w.cell? ⟨sb,1,none⟩=some (.slice a.x1 a.n1 a.c1)/\w.cell? ⟨sb,2,none⟩=some (.slice a.x2 a.n2 a.c2)/\w.cell? ⟨sb,3,none⟩=some (.slice a.x3 a.n3 a.c3)/\w.cell? ⟨sb,4,none⟩=some (.int .i64 a.q)/\∃c,w.heap[sb]?=some (.cells c 114 (0,0))/\5<=c.size:=by
 obtain⟨z,v,y,u,x,b,g,_⟩:=h.blk;obtain⟨e,d,o,t⟩:=g.sv;refine⟨e,by rw[<-d];exact g,?_⟩
 simp only[SV.val,Value.agg.injEq] at d;simp at d;obtain⟨q,r,k,m,l⟩:=d;rw[q,r,k,m,l] at b;exact⟨aA b rfl,aA b rfl,aA b rfl,aA b rfl,aA b rfl,_,b,by simp⟩
def jV.go{l:Nat->Value}{F:Nat->Prop}{w:World}{sb m n:Nat}{q:Obj}{o:Nat->Option bI}{s τ:bI}{v:SV}(h:jV l F w sb m q o s n)(A:kR l F w v.val τ)(p:o τ.time=some τ):jV l F (dR w sb v) sb m q o τ n/\Fs sb w (dR w sb v)/\lX sb (dR w sb v)=lX sb w:=by
 obtain⟨Q,O,P,f,H,u,N,I,D,G,L,E⟩:=h.blk;obtain⟨M,e,z,x⟩:=A.sv;obtain rfl:=SV.val_inj e;obtain⟨t,B,J,C⟩:=fO w sb v
 have j:(dR w sb v).heap[sb]?=some (.cells #[.int .i64 v.t,.slice v.x1 v.n1 v.c1,.slice v.x2 v.n2 v.c2,.slice v.x3 v.n3 v.c3,.int .i64 v.q,f,.map (some m)] 114 (0,0)):=by
  have r:=wH (s:=v) u;simp only[List.setIfInBounds_toArray,List.set_cons_zero,b1_] at r;exact r
 have y:∀b,F b->(dR w sb v).heap[b]?=w.heap[b]?:=fun b j=>cV _ _ _ _ (h.fix b j).2.1
 have c:lX sb w=f.ownBlock:=mE u rfl;have d:lX sb (dR w sb v)=f.ownBlock:=mE j rfl;have g:∀k,f.ownBlock=some k->(dR w sb v).heap[k]?=w.heap[k]?:=fun k a=>cV _ _ _ _ (by have:=(h.row k (by rw[c];exact a)).1;omega)
 refine⟨⟨⟨_,_,_,f,H,by rw[<-z,<-x];exact j,?_,aY I g,D,fun i K=>(G i K).keep y fun _ h=>h,L,E⟩,p,fun k a=>?_,by rw[cV _ _ _ _ h.map.2];exact h.map.1,h.map.2⟩,⟨B,J,C,by rw[t];exact au_ _,fun k _ a _=>cV _ _ _ _ a,fun k a=>av_ ?_⟩,?_⟩
 ·have:=A.keep y fun _ h=>h
  unfold SV.val at this;rw[<-z,<-x];exact this
 ·have:=h.fix k a;exact⟨by rw[t];exact this.1,this.2⟩
 ·rw[c,<-d];exact a
 ·rw[c,d]
def Live.go{c:Nat->Value}{F:Nat->Prop}{w:World}{sb i n:Nat}{g:Obj}{ks:List aC}{a:List Int}{s τ:bI}{L:List Nat}{v:SV}(h:Live c F w sb i g ks a s n L)(p:kR c F w v.val τ)(e:cE ks a τ.time=some τ)(o:τ.time/20<n):Live c F (dR w sb v) sb i g ks a τ n L/\Fs sb w (dR w sb v):=by
 obtain⟨m,j,q⟩:=h.ses.go p e;obtain⟨l,_⟩:=fO w sb v;have f:=h.low;refine⟨⟨m,h.tab.keep (fun b d=>cV _ _ _ _ (h.ses.fix b d).2.1) fun _ h=>h,h.pow.low fun k r=>cV _ _ _ _ (by omega),h.low,o,fun b d=>?_⟩,j⟩
 have:=h.loc b d;rw[l,q];exact this
structure MCtx where
 fp:Nat->Value
 sb:Nat
 mb:Nat
 mo:Obj
 ks:List aC
 tape:List Int
 s:bI
 p:bI->Bool
 bb:Nat
 fv:Value
 w:World
 L:List Nat
 le:Nat->Bool->Prop
def MCtx.bf(C:MCtx):Nat:=C.w.heap.size
def MCtx.bt(C:MCtx):Nat:=C.w.heap.size+1
def MCtx.bo(C:MCtx):Nat:=C.w.heap.size+1+1
def MCtx.all(C:MCtx):List Nat:=(C.w.heap.size+3+1)::(C.w.heap.size+3)::C.bo::C.bt::C.bf::C.L
noncomputable def MCtx.st(C:MCtx):Nat->Option bI:=cE C.ks C.tape
structure Mvg(C:MCtx)(L:List Nat)(F:Nat->Prop)(n k:Nat)(fd:Bool)(W:World):Prop where
 live:Live C.fp F W C.sb C.mb C.mo C.ks C.tape C.s n L
 mem:∀b∈C.all,b∈L
 cf:W.heap[C.bf]?=some (.cells #[C.fv] 132 (0,0))
 cb:W.heap[C.bb]?=some (.cells #[.pointer (some ⟨C.sb,0,none⟩)] 39 (0,0))/\C.bb∈C.L
 ct:∃s2 τ,W.heap[C.bt]?=some (.cells (SV.cells s2) 108 (0,0))/\kR C.fp F W s2.val τ/\C.st k=some τ/\k/20<n
 co:W.heap[C.bo]?=some (.cells #[.bool fd] 4 (0,0))
 le:C.le k fd
 fr:Fs C.sb C.w W/\C.sb<C.w.heap.size/\∀b∈C.L,b<C.w.heap.size
section
variable {C:MCtx} {L L':List Nat} {F G:Nat->Prop} {n n' k:Nat} {fd:Bool} {W W':World}
def Mvg.lt(h:Mvg C L F n k fd W):C.w.heap.size+3+1<W.heap.size:=(h.live.loc _ (h.mem _ (by simp[MCtx.all]))).2.1
def Mvg.but(h:Mvg C L F n k fd W)(e:But L' W W')(f:∀b∈L',b∈L/\C.bo<b):Mvg C L F n k fd W':=by
 have c:=h.fr.2.1;have l:=h.lt;have d:∀b,b<=C.bo->W'.heap[b]?=W.heap[b]?:=fun b g=>e.blk b (by simp only[MCtx.bo] at g;omega) fun a=>by have:=(f b a).2;omega
 obtain⟨m,q,o,p,r,i⟩:=h.ct;have j:=h.fr.2.2 _ h.cb.2;refine⟨h.live.but e fun b a=>(f b a).1,h.mem,by rw[d _ (by simp only[MCtx.bo,MCtx.bf];omega)];exact h.cf,⟨by rw[d _ (by simp only[MCtx.bo];omega)];exact h.cb.1,h.cb.2⟩,⟨m,q,by rw[d _ (by simp only[MCtx.bo,MCtx.bt];omega)];exact o,p.but h.live e fun b a=>(f b a).1,r,i⟩,by rw[d _ (au_ _)];exact h.co,h.le,h.fr.1.but e (fun b a=>by have:=(f b a).2;simp only[MCtx.bo] at this;omega) c,c,h.fr.2.2⟩
def Mvg.more(h:Mvg C L F n k fd W)(a:Live C.fp F W C.sb C.mb C.mo C.ks C.tape C.s n L')(c:∀b∈C.all,b∈L'):Mvg C L' F n k fd W:=⟨a,c,h.cf,h.cb,h.ct,h.co,h.le,h.fr⟩
def Mvg.alloc(h:Mvg C L F n k fd W)(o:Obj):Mvg C (W.heap.size::L) F n k fd (W.alloc o):=
 (h.but (L':=[]) (But.alloc W o []) fun b a=>by cases a).more (h.live.alloc o) fun b c=>aJ_ _ (h.mem b c)
def Mvg.fs(h:Mvg C L F n k fd W)(c:Fs C.sb W W')(d:Live C.fp G W' C.sb C.mb C.mo C.ks C.tape C.s n' L)(m:Ext F G W.heap.size)(p:n<=n'):Mvg C L G n' k fd W':=by
 have a:∀b∈L,W'.heap[b]?=W.heap[b]?:=fun b l=>h.live.blk c l
 obtain⟨e,i,f,g,j,o⟩:=h.ct;exact⟨d,h.mem,by rw[a _ (h.mem _ (by simp[MCtx.all]))];exact h.cf,⟨by rw[a _ (h.mem _ (by simp[MCtx.all,h.cb.2]))];exact h.cb.1,h.cb.2⟩,⟨e,i,by rw[a _ (h.mem _ (by simp[MCtx.all]))];exact f,h.live.stR c m g,j,by omega⟩,by rw[a _ (h.mem _ (by simp[MCtx.all]))];exact h.co,h.le,h.fr.1.trans c,h.fr.2⟩
def Mvg.set(h:Mvg C L F n k fd W){v:SV}{a:bI}(q:kR C.fp F W v.val a)(j:C.st a.time=some a)(p:a.time/20<n)(l:C.le a.time true):Mvg C L F n a.time true ((dR W C.bt v).setCell ⟨C.bo,0,none⟩ (.bool true)):=by
 have d:But ([C.bt]++[C.bo]) W ((dR W C.bt v).setCell ⟨C.bo,0,none⟩ (.bool true)):=(But.set5 W C.bt v).trans (But.set _ _ _);have g:∀b∈[C.bt]++[C.bo],b∈L:=fun b i=>h.mem b (by simp at i;rcases i with rfl|rfl<;>simp[MCtx.all])
 have f:=h.fr.2.1;have w:=h.lt;have o:=h.fr.2.2 _ h.cb.2;obtain⟨s,x,r,y,t,u⟩:=h.ct;have c:C.bt≠C.bo:=by simp only[MCtx.bt,MCtx.bo];omega
 refine⟨h.live.but d g,h.mem,by rw[d.blk _ (by simp only[MCtx.bf];omega) (by simp only[MCtx.bf,MCtx.bt,MCtx.bo,aY_,by_,aG_,aQ_,or_false];omega)];exact h.cf,⟨by rw[d.blk _ (by omega) (by simp only[MCtx.bt,MCtx.bo,aY_,by_,aG_,aQ_,or_false];omega)];exact h.cb.1,h.cb.2⟩,⟨v,a,?_,q.but h.live d g,j,p⟩,?_,l,h.fr.1.but d (fun b i=>by simp[MCtx.bt,MCtx.bo] at i;omega) f,f,h.fr.2.2⟩
 ·rw[ax_ _ _ _ _ c];exact qG r rfl
 ·have m:(dR W C.bt v).heap[C.bo]?=some (.cells #[.bool fd] 4 (0,0)):=by rw[cV _ _ _ _ (fun e=>c e.symm)];exact h.co
  exact aS m
end
def fwd(s:bI)(k:Nat)(fd:Bool):Prop:=s.time<=k/\(fd=true↔s.time<k)
def ED(C:MCtx)(k:Nat):Prop:=∀t x,C.s.time<t->t<=k->C.st t=some x->C.p x=false
def s6(C:MCtx)(M:List Nat)(t:Nat)(s':SV)(W:World):Prop:=∃F n σ k fd,Mvg C M F n k fd W/\kR C.fp F W s'.val σ/\C.st σ.time=some σ/\σ.time=k+1/\σ.time/20<n/\W.heap[t]?=some (.cells s'.cells 108 (0,0))/\C.w.heap.size+3+1<t/\ED C k
def x6(C:MCtx)(t:Nat)(s':SV)(W:World):Prop:=∃F n σ,Mvg C (t::C.all) F n σ.time true W/\kR C.fp F W s'.val σ/\C.st σ.time=some σ/\σ.time/20<n/\W.heap[t]?=some (.cells s'.cells 108 (0,0))/\C.w.heap.size+3+1<t/\ED C σ.time
def j7(C:MCtx)(W:World):Prop:=∃F n k fd τ,Mvg C C.all F n k fd W/\C.st k=some τ/\F5 C.st C.p C.s τ fd
section
variable {C:MCtx}
def p9:∀b∈[C.w.heap.size+3+1],C.bo<b:=fun b a=>by simp at a;simp only[MCtx.bo];omega
def Mvg.put{L:List Nat}{F:Nat->Prop}{n k:Nat}{c:Bool}{W:World}(h:Mvg C L F n k c W)(o:Obj):Mvg C L F n k c (W.putObj (C.w.heap.size+3+1) o):=
 h.but (But.put _ _ _) fun b a=>⟨h.mem b (by simp at a;simp[MCtx.all,a]),p9 b a⟩
def Mvg.putS{L:List Nat}{F:Nat->Prop}{n k:Nat}{d:Bool}{W:World}{c:bI}{v:Value}(h:Mvg C L F n k d W)(e:kR C.fp F W v c)(o:Obj):kR C.fp F (W.putObj (C.w.heap.size+3+1) o) v c:=
 e.but h.live (But.put _ _ _) fun b a=>h.mem b (by simp at a;simp[MCtx.all,a])
def s6.put{M:List Nat}{t:Nat}{a:SV}{W:World}(h:s6 C M t a W)(o:Obj):s6 C M t a (W.putObj (C.w.heap.size+3+1) o):=by
 obtain⟨F,n,l,k,c,b,d,j,e,g,m,f,i⟩:=h;exact⟨F,n,l,k,c,b.put o,b.putS d o,j,e,g,by rw[World.putObj_heap_other (by omega)];exact m,f,i⟩
def x6.put{t:Nat}{a:SV}{W:World}(h:x6 C t a W)(o:Obj):x6 C t a (W.putObj (C.w.heap.size+3+1) o):=by
 obtain⟨F,n,j,b,e,i,g,c,f,d⟩:=h;exact⟨F,n,j,b.put o,b.putS e o,i,g,by rw[World.putObj_heap_other (by omega)];exact c,f,d⟩
def j7.put{W:World}(h:j7 C W)(o:Obj):j7 C (W.putObj (C.w.heap.size+3+1) o):=by
 obtain⟨F,n,k,a,d,c,b,e⟩:=h;exact⟨F,n,k,a,d,c.put o,b,e⟩
def ED.succ{k:Nat}{a:bI}(h:ED C k)(g:a.time=k+1)(b:C.st a.time=some a)(e:C.p a=false):ED C a.time:=fun t x f i c=>by
 rcases a6_ k t with d|d
 ·obtain rfl:t=a.time:=by omega
  rw[b] at c;cases c;exact e
 ·exact h t x f d c
def Mvg.next{L:List Nat}{F:Nat->Prop}{n k:Nat}{l:Bool}{W:World}(p:Good C.ks)(o:C.le=fwd C.s)(m:C.tape.length<=17592186044416)(h:Mvg C L F n k l W)(v:SV)(c:bI)(O:kR C.fp F W v.val c)(d:C.st c.time=some c)(j:c.time=k)(g:c.time/20<n)(K:ED C k):
 Calls prog 111 #[.pointer (some ⟨C.sb,0,none⟩),v.val] W fun e w'=>∃i ok,e=.returned (.tuple #[SV.val i,.bool ok])/\(∀b∈L,w'.heap[b]?=W.heap[b]?)/\
  ∃G n',Mvg C L G n' k l w'/\(ok=true->∃a,kR C.fp G w' i.val a/\C.st a.time=some a/\a.time=k+1/\a.time/20<n'/\i.t=k+1/\k<500)/\(ok=false->F5 C.st C.p C.s c l):=by
 refine(GY p h.live m v c O d g).mono ?_;rintro e w' ⟨i,ok,rfl,G,n',D,y,u,B,E,M⟩;refine⟨i,ok,rfl,fun b z=>h.live.blk u z,G,n',h.fs u B y D,fun e=>?_,fun e=>?_⟩
 ·obtain⟨_,a,q,Q,r,I⟩:=E e;obtain⟨T,N,V,_⟩:=r.sv;obtain rfl:=SV.val_inj N;have S:=(p.sta q).1.time;exact⟨a,r,by rw[Q];exact q,by omega,I,by omega,by omega⟩
 ·have s:=M e;have f:=h.le;rw[o] at f;subst j;cases l with
  |true=>
   exact as_ ⟨rfl,f.2.1 rfl,d,fun t x P X H=>K t x P (by omega) H,as_ s⟩
  |false=>
   have U:¬C.s.time<c.time:=fun A=>by have:=f.2.2 A;cases this
   have J:C.s.time=c.time:=by have:=f.1;omega
   have w:=h.live.ses.now;unfold MCtx.st at d;rw[J,d] at w;cases w;exact av_ ⟨rfl,rfl,s⟩
end
def UN{C:MCtx}(Y:Good C.ks)(B:C.le=fwd C.s)(L:C.tape.length<=17592186044416)(s0:SV){F:Nat->Prop}{n:Nat}(S:World)(ac:S.heap.size=C.w.heap.size+3)
 (hM:∀E,Mvg C C.all F n C.s.time false ((S.alloc (.deferred (some []))).alloc (.loop E))) (ae:∀E,kR C.fp F ((S.alloc (.deferred (some []))).alloc (.loop E)) s0.val C.s):
 WC prog 118 #[.pointer (some ⟨C.bb,0,none⟩)] S (fun t=>s6 C (t::C.all) t) (x6 C) (fun _=>j7 C):=by
 intro E Rdy Don hR ag _ M hY;rw[ac] at hR ag hY ⊢
 have l:=hM E;have hs:=ae E;generalize (S.alloc (.deferred (some []))).alloc (.loop E)=f at l hs M ⊢
 have j:=l.live.ses.now;have i:ED C C.s.time:=fun t x o J _=>by omega
 have g:∀b,b=C.w.heap.size+3\/b=C.w.heap.size+3+1->b∈C.all:=fun b a=>by rcases a with rfl|rfl<;>simp[MCtx.all]
 obtain⟨s1,V,k0,k1,k2,k3,k4,_⟩:=l.live.ses.cells;have ad:=l.lt;have Q:∀b∈C.all,b<f.heap.size:=fun b a=>(l.live.loc b a).2.1
 refine(PC (C.w.heap.size+3+1) C.bb C.sb s1 f
  (fun gk b m ok wr=>Rdy wr/\(ok=true->s6 C (b::C.all) b m wr/\gk+m.t=502)/\(ok=false->j7 C wr))
  (fun gk b m wr=>Rdy wr/\x6 C b m wr/\gk+m.t=502)
  (fun wr=>(j7 C wr/\Rdy wr)\/(j7 C wr/\Don wr)) (aA l.cb.1 rfl) (aD l.cb.1) l.live.ses.lt k0 k1 k2 k3 k4 (501-C.s.time) ?_ (fun c hc=>?_) (fun gk b m wr h=>?_) (fun gk b m wr h=>?_) (fun gk b m wr h=>?_)).mono ?_
 ·have H:=l.but (L':=[]) (But.drew f []) fun b a=>by cases a
  refine(H.next Y B L s1 C.s (V.but l.live (But.drew f []) fun b a=>by cases a) j rfl l.live.hn i).mono ?_
  rintro e y ⟨u,ok,rfl,z,G,s,o,J,D⟩;have A:=o.lt;refine⟨u,ok,rfl,hR f _ M ?_ ?_,fun e=>?_,fun e=>?_⟩
  ·rw[aA_ _ _ _ (by omega)];exact z _ (g _ (av_ rfl))
  ·rw[aA_ _ _ _ (by omega)];exact z _ (g _ (as_ rfl))
  ·obtain⟨r,O,W,P,q4,q5,q6⟩:=J e;refine⟨⟨G,s,r,C.s.time,false,o.alloc _,?_,W,P,q4,aM _ _ rfl _,A,i⟩,by omega⟩
   exact O.but o.live (But.alloc _ _ []) fun b a=>by cases a
  ·have:=o.but (L':=[]) (But.alloc y (.cells u.cells 108) []) fun b a=>by cases a
   exact⟨G,s,C.s.time,false,C.s,this,j,D e⟩
 ·have H:=(l.but (L':=[]) (But.drew f []) fun b a=>by cases a).alloc (.cells c 108)
  have ah:But [] f (f.drew.alloc (.cells c 108)):=(But.drew f []).trans (But.alloc _ _ []);refine(H.next Y B L s1 C.s (V.but l.live ah fun b a=>by cases a) j rfl l.live.hn i).mono ?_
  rintro e y ⟨u,ok,rfl,z,G,s,o,J,D⟩;have A:=o.lt;have p:y.heap[f.heap.size]?=some (.cells c 108 (0,0)):=by rw[z f.heap.size (aS_ ..)];exact aM f.drew _ rfl _
  have d:∀b∈C.all,(dR y f.heap.size u).heap[b]?=f.heap[b]?:=fun b a=>by
   have:=Q b a;rw[cV _ _ _ _ (by omega),z b (aJ_ _ a)];exact aA_ f.drew _ _ this
  have q:∀b∈[f.heap.size],b∈(f.heap.size::C.all)/\C.bo<b:=fun b a=>by
   obtain rfl:=aD_.1 a;exact⟨aS_ ..,by simp only[MCtx.bo];omega⟩
  have N:Mvg C (f.heap.size::C.all) G s C.s.time false (dR y f.heap.size u):=o.but (But.set5 _ _ _) q;refine⟨u,ok,rfl,p,hR f _ M (d _ (g _ (av_ rfl))) (d _ (g _ (as_ rfl))),fun e=>?_,fun e=>?_⟩
  ·obtain⟨r,O,W,P,q4,q5,q6⟩:=J e;exact⟨⟨G,s,r,C.s.time,false,N,O.but o.live (But.set5 _ _ _) fun b a=>(q b a).1,W,P,q4,qG p hc,ad,i⟩,by omega⟩
  ·exact⟨G,s,C.s.time,false,C.s,N.more (N.live.drop fun b a=>aJ_ _ a) (fun _ h=>h),j,D e⟩
 ·obtain⟨hr,Z,_⟩:=h;obtain⟨Z,X⟩:=Z rfl;obtain⟨fn,U,v,T,hy,aa⟩:=hY b m wr Z hr;refine⟨?_,fn,U,v,T,hy,aa.mono ?_⟩
  ·obtain⟨F,n,K,k,fd,_,_,_,_,_,h6,_⟩:=Z;exact h6
  ·rintro e W' (⟨rfl,hB,ab⟩|⟨rfl,hE,hD⟩)
   ·exact av_ ⟨rfl,ab,hB,X⟩
   ·exact as_ ⟨rfl,as_ ⟨hE,hD⟩⟩
 ·exact av_ ⟨h.2.2 rfl,h.1⟩
 ·obtain⟨hr,⟨F,n,K,o,J,D,h4,h5,h6,h7⟩,X⟩:=h
  have aj:m.t=K.time:=by
   obtain⟨s2,e1,e2,_⟩:=J.sv;obtain rfl:=SV.val_inj e1;exact e2
  have ai:=(Y.sta D).1.time;refine⟨aA o.cb.1 rfl,h5,gk-1,by omega,?_⟩
  refine(o.next Y B L m K J D rfl h4 h7).mono ?_
  rintro e y ⟨u,ok,rfl,z,G,s,O,W,P⟩;have p:y.heap[b]?=some (.cells m.cells 108 (0,0)):=by rw[z b (aS_ ..)];exact h5
  have q:∀x∈[b],x∈(b::C.all)/\C.bo<x:=fun x w=>by
   obtain rfl:=aD_.1 w;exact⟨aS_ ..,by simp only[MCtx.bo];omega⟩
  have d:∀x∈[C.w.heap.size+3,C.w.heap.size+3+1],(dR y b u).heap[x]?=wr.heap[x]?:=fun x w=>by
   have af:x∈C.all:=by simp at w;rcases w with rfl|rfl<;>simp[MCtx.all]
   rw[cV _ _ _ _ (by simp at w;omega),z x (aJ_ _ af)]
  have I:Mvg C (b::C.all) G s K.time true (dR y b u):=O.but (But.set5 _ _ _) q;refine⟨u,ok,rfl,⟨_,p,rfl⟩,hR wr _ hr (d _ (by simp)) (d _ (by simp)),fun e=>?_,fun e=>?_⟩
  ·obtain⟨r,a1,a2,a3,a4,a5,a6⟩:=W e;exact⟨⟨G,s,r,K.time,true,I,a1.but O.live (But.set5 _ _ _) fun x w=>(q x w).1,a2,a3,a4,qG p rfl,h6,h7⟩,by omega⟩
  ·exact⟨G,s,K.time,true,K,I.more (I.live.drop fun x w=>aJ_ _ w) (fun _ h=>h),D,P e⟩
 ·rintro e W' ⟨rfl,h|h⟩
  ·exact⟨⟨_,rfl⟩,0,h.1,av_ h.2⟩
  ·exact⟨⟨_,rfl⟩,0,h.1,as_ h.2⟩
def o9(args:Array Value)(W:World):(callFunc 118 args).run prog W=.ok (.enter 118 args) W:=(enters_of func118 (by kernel_rfl) rfl) args W
def XF(args:Array Value)(W:World):(callFunc 66 args).run prog W=.ok (.enter 66 args) W:=(enters_of func66 (by kernel_rfl) rfl) args W
section
variable {fp:Nat->Value} {F:Nat->Prop} {w:World} {sb mb n:Nat} {mo:Obj} {ks:List aC} {tape:List Int} {s:bI} {L:List Nat}
def JF(fp:Nat->Value)(sb mb:Nat)(mo:Obj)(ks:List aC)(tape:List Int)(L:List Nat)(T:bI->Bool->Prop)(w:World)(b:Bool)(w':World):Prop:=∃G n' τ,Live fp G w' sb mb mo ks tape τ n' L/\T τ b/\Fs sb w w'
def af_(fp:Nat->Value)(sb mb:Nat)(mo:Obj)(ks:List aC)(tape:List Int)(s:bI)(p:bI->Bool)(gn:Nat)(lf:Array Value):Prop:=
 ∀(F:Nat->Prop) (n:Nat) (L:List Nat) (W:World) (v:SV) (σ:bI),Live fp F W sb mb mo ks tape s n L->kR fp F W v.val σ->cE ks tape σ.time=some σ->Calls prog gn (#[v.val]++lf) W fun e W'=>e=.returned (.bool (p σ))/\Below W.heap.size W W'
def PL(hg:Good ks)(av:tape.length<=17592186044416)(h:Live fp F w sb mb mo ks tape s n L)(bb:Nat)(au:bb∈L)(ab:w.heap[bb]?=some (.cells #[.pointer (some ⟨sb,0,none⟩)] 39 (0,0)))
 (p:bI->Bool) (J:Nat) (U:Array Value) (ak:∀K W,(callFunc J K).run prog W=.ok (.enter J K) W) (af:af_ fp sb mb mo ks tape s p J U):
 Calls prog 64 #[.pointer (some ⟨sb,0,none⟩),.func (.func 118) #[] #[.pointer (some ⟨bb,0,none⟩)],.func (.func J) #[] U] w fun e w'=>∃b,e=.returned (.bool b)/\JF fp sb mb mo ks tape L (F5 (cE ks tape) p s) w b w':=by
 obtain⟨s0,ao,k0,k1,k2,k3,k4,_⟩:=h.ses.cells;have H:=h.ses.lt;obtain⟨C,j⟩:∃C:MCtx,C=⟨fp,sb,mb,mo,ks,tape,s,p,bb,.func (.func J) #[] U,w,L,fwd s⟩:=⟨_,rfl⟩;have ae:Good C.ks:=by rw[j];exact hg
 have d:C.w=w:=by rw[j]
 have al:C.s=s:=by rw[j]
 have aa:C.p=p:=by rw[j]
 have D:C.st=cE ks tape:=by rw[j];rfl
 have E:C.le=fwd C.s:=by rw[j]
 refine IQ (τ:=Nat) w sb 118 J #[.pointer (some ⟨bb,0,none⟩)] U s0 (fun b w'=>JF fp sb mb mo ks tape L (F5 (cE ks tape) p s) w b w')
  (fun t=>s6 C (t::C.all) t) (x6 C) (fun t y b W=>s6 C (b::t::C.all) t y W/\W.heap[b]?=some (.cells y.cells 108 (0,0))/\C.w.heap.size+3+1<b) (fun _=>j7 C) H k0 k1 k2 k3 k4 o9 ak
  (fun t y b W r h=>?_) (fun t y W r h=>?_) (fun _ W r h=>?_) (fun t y W h=>?_) (fun t y b W h=>?_) (fun _ W hE=>?_) (fun G v=>?_)
 ·obtain⟨g,N,q⟩:=h;rw[<-d];exact⟨g.put _,by rw[World.putObj_heap_other (by omega)];exact N,q⟩
 ·rw[<-d];exact h.put _
 ·rw[<-d];exact h.put _
 ·obtain⟨F,n,X,k,fd,g,N,q,h4,h5,h6,h7,h8⟩:=h;have hl:=g.lt;rw[<-d];refine⟨⟨⟨F,n,X,k,fd,g.alloc _,N.but g.live (But.alloc _ _ []) fun b a=>(by cases a),q,h4,h5,by rw[aA_ _ _ _ (aD h6)];exact h6,h7,h8⟩,aM _ _ rfl _,hl⟩,hl⟩
 ·obtain⟨⟨F,n,X,k,fd,g,N,q,h4,h5,h6,h7,h8⟩,h9,ap⟩:=h;have hl:=g.lt;have S:=g.cf;have A:=g.co;obtain⟨s2,τ,a1,a2,a3,a4⟩:=g.ct;have o:=g.le;rw[E] at o;have f:=g.set N q h5 (by rw[E];exact⟨by have:=o.1;omega,by simp;have:=o.1;omega⟩)
  have z:C.bt=w.heap.size+1:=by rw[<-d];rfl
  have u:C.bo=w.heap.size+1+1:=by rw[<-d];rfl
  have an:C.bf=w.heap.size:=by rw[<-d];rfl
  rw[d] at hl h7 ap;rw[an] at S;rw[u] at A;rw[z] at a1;have aw:C.fv=.func (.func J) #[] U:=by rw[j]
  rw[aw] at S;refine⟨h9,S,⟨_,a1,by simp[SV.cells]⟩,⟨_,A⟩,by omega,by omega,by omega,?_⟩
  have Q:But ([C.bt]++[C.bo]) W ((dR W C.bt y).setCell ⟨C.bo,0,none⟩ (.bool true)):=(But.set5 W C.bt y).trans (But.set _ _ _);have I:=N.but g.live Q fun x hm=>g.mem x (by simp at hm;rcases hm with rfl|rfl<;>simp[MCtx.all])
  have P:((dR W C.bt y).setCell ⟨C.bo,0,none⟩ (.bool true)).heap[t]?=some (.cells y.cells 108 (0,0)):=by
   rw[Q.blk t (aD h6) (by simp[z,u];omega)];exact h6
  have T:∀x,x=w.heap.size+3\/x=w.heap.size+3+1->((dR W C.bt y).setCell ⟨C.bo,0,none⟩ (.bool true)).heap[x]?=W.heap[x]?:=fun x hx=>Q.blk x (by omega) (by simp[z,u];omega)
  rw[<-u,<-z];generalize (dR W C.bt y).setCell ⟨C.bo,0,none⟩ (.bool true)=V at f I P T ⊢
  have ar:=f.lt;rw[d] at ar;have m:=f.live;rw[j] at m I;have ag:=q;rw[D] at ag;refine(af F n _ V y X m I ag).mono ?_;rintro e W' ⟨rfl,a⟩;refine⟨p X,rfl,⟨by rw[a.block _ (by omega)];exact T _ (av_ rfl),by rw[a.block _ (by omega)];exact T _ (as_ rfl)⟩,fun hp=>?_,fun hp=>?_⟩
  ·refine⟨F,n,X.time,true,X,(f.but (But.below a []) fun b a=>by cases a).more ((f.live.but (But.below a []) fun b a=>(by cases a)).drop fun x hx=>by simp[hx]) (fun _ h=>h),q,as_ ⟨rfl,by have:=o.1;omega,q,fun t' x q1 q2 q3=>h8 t' x q1 (by omega) q3,av_ (by rw[aa];exact hp)⟩⟩
  ·refine⟨F,n,X,(f.but (But.below a []) fun b a=>by cases a).more ((f.live.but (But.below a []) fun b a=>(by cases a)).drop fun x hx=>aJ_ _ hx) (fun x hx=>aJ_ _ hx),?_,q,h5,by rw[a.block _ (aD P)];exact P,by rw[d];exact h7,h8.succ h4 q (by rw[aa];exact hp)⟩
   rw[j];exact I.but m (But.below a []) fun b a=>by cases a
 ·obtain⟨F,n,k,fd,τ,g,N,q⟩:=hE;obtain⟨s2,ai,a1,a2,a3,a4⟩:=g.ct;obtain rfl:ai=τ:=by rw[N] at a3;cases a3;rfl
  have O:=(ae.sta a3).2.1;have A:=g.co;have hl:=g.lt;have m:=g.live;have ah:=g.fr.1;have Y:=g.fr.2.2;have z:C.bt=w.heap.size+1:=by rw[<-d];rfl
  have u:C.bo=w.heap.size+1+1:=by rw[<-d];rfl
  rw[z] at a1;rw[u] at A;rw[d] at hl;rw[j] at m ah Y;rw[D] at a3;rw[j] at a2;obtain⟨_,_,_,_,_,_,_,c,ax,aq⟩:=m.ses.cells;refine⟨s2,fd,a1,A,⟨c,_,ax,aq⟩,?_⟩;obtain⟨g1,g2⟩:=m.go a2 (by rw[O];exact a3) (by rw[O];exact a4)
  have aj:∀b∈[w.heap.size+3],b∈C.all:=fun b a=>by
   obtain rfl:=aD_.1 a;simp[MCtx.all,d]
  rw[D,aa,al] at q;rw[j] at aj;refine⟨F,n,ai,(g1.but (But.put _ (w.heap.size+3) _) aj).drop fun b a=>by simp[MCtx.all,a],q,(ah.trans g2).but (But.put _ (w.heap.size+3) _) (fun b a=>?_) H⟩
  obtain rfl:=aD_.1 a;show w.heap.size<=w.heap.size+3
  omega
 ·have ad:G.heap.size=w.heap.size+3:=by rw[v];simp
  have am:∀b,F b->b<w.heap.size:=fun b a=>(h.ses.fix b a).1
  have B:∀i,Below w.heap.size w ((G.alloc (.deferred (some []))).alloc (.loop i)):=fun i=>by
   rw[v];exact(((((ay_ _ w).alloc (au_ _) _).alloc (by simp only[World.size_alloc];omega) _).alloc (by simp only[World.size_alloc];omega) _).alloc (by simp only[World.size_alloc];omega) _).alloc (by simp only[World.size_alloc];omega) _
  have ac:∀i,kR fp F ((G.alloc (.deferred (some []))).alloc (.loop i)) s0.val s:=fun i=>ao.keep (fun b a=>(B i).block b (am b a)) fun _ h=>h
  have Z:∀i k,k<G.heap.size->((G.alloc (.deferred (some []))).alloc (.loop i)).heap[k]?=G.heap[k]?:=fun i k hk=>by rw[aA_ _ _ _ (by simp only[World.size_alloc];omega),aA_ _ _ _ hk]
  have M:C.bb=bb:=by rw[j]
  rw[<-M];refine UN (C:=C) (F:=F) (n:=n) ae E (by rw[j];exact av) s0 G (by rw[d];exact ad) (fun i=>?_) (fun i=>?_)
  clear M
  ·have l:=((((h.alloc (.cells #[.func (.func J) #[] U] 132)).alloc (.cells s0.cells 108)).alloc (.cells #[.bool false] 4)).alloc (.deferred (some []))).alloc (.loop i);simp only[World.size_alloc] at l;rw[<-v] at l;have Y:∀b∈L,b<w.heap.size:=fun b a=>(h.loc b a).2.1
   have c1:G.heap[w.heap.size]?=some (.cells #[.func (.func J) #[] U] 132 (0,0)):=by
    rw[v,aA_ _ _ _ (by simp only[World.size_alloc];omega),aA_ _ _ _ (by simp only[World.size_alloc];omega)];exact aM _ _ rfl _
   have c2:G.heap[w.heap.size+1]?=some (.cells s0.cells 108 (0,0)):=by
    rw[v,aA_ _ _ _ (by simp only[World.size_alloc];omega)];exact aM _ _ (by simp only[World.size_alloc]) _
   have c3:G.heap[w.heap.size+1+1]?=some (.cells #[.bool false] 4 (0,0)):=by
    rw[v];exact aM _ _ (by simp only[World.size_alloc]) _
   rw[j];exact⟨l,fun _ h=>h,by rw[Z i _ (by simp only[MCtx.bf];omega)];exact c1,⟨by rw[(B i).block _ (aD ab)];exact ab,au⟩,⟨s0,s,by rw[Z i _ (by simp only[MCtx.bt];omega)];exact c2,ac i,h.ses.now,h.hn⟩,by rw[Z i _ (by simp only[MCtx.bo];omega)];exact c3,⟨au_ _,by simp⟩,Fs.of_below (B i) H,H,Y⟩
  ·rw[j];exact ac i
def vK(v:SV)(W:World):Calls prog 66 (#[v.val]++ #[]) W fun e W'=>e=.returned (.bool true)/\Below W.heap.size W W':=by
 show Calls _ _ #[v.val] _ _
 unfold SV.val;go_enter func66,ntmps66;go_wp2_with fail;go_ret;exact⟨rfl,(ay_ _ W).alloc (au_ _) _⟩
def A7(sb:Nat)(W:World):Calls prog 65 #[.pointer (some ⟨sb,0,none⟩)] W fun e W'=>e=.returned (.func (.func 118) #[] #[.pointer (some ⟨W.heap.size,0,none⟩)])/\W'=W.alloc (.cells #[.pointer (some ⟨sb,0,none⟩)] 39):=by
 have b:∀(a:Value) (w:World),(Instr.makeFunc (.func 118) #[] #[a]).run prog w=.ok (.func (.func 118) #[] #[a]) w:=fun _ _=>rfl
 go_enter func65,ntmps65;go_wp2_with fail;go_ret;exact⟨rfl,rfl⟩
def YA(sb:Nat)(w:World)(P:Bool->World->Prop)
 (a:Hid (Calls prog 64 #[.pointer (some ⟨sb,0,none⟩),.func (.func 118) #[] #[.pointer (some ⟨w.heap.size,0,none⟩)],.func (.func 66) #[] #[]] (w.alloc (.cells #[.pointer (some ⟨sb,0,none⟩)] 39)) fun e w'=>∃b,e=.returned (.bool b)/\P b w')):
 Calls prog 28 #[.pointer (some ⟨sb,0,none⟩)] w fun e w'=>∃b,e=.returned (.bool b)/\P b w':=by
 have d:=aB (A7 sb w);go_enter func28,ntmps28;go_wp2_with fail;refine d.out.mono ?_;rintro e g ⟨rfl,rfl⟩;clear d;go_wp2_with fail;refine a.out.mono ?_;rintro e h ⟨b,rfl,c⟩;have f:=aB c;clear c a;go_wp2_with fail;go_ret;exact⟨b,rfl,f.out⟩
def NE(i:Good ks)(c:tape.length<=17592186044416)(h:Live fp F w sb mb mo ks tape s n L):
 Calls prog 28 #[.pointer (some ⟨sb,0,none⟩)] w fun e w'=>∃b,e=.returned (.bool b)/\JF fp sb mb mo ks tape L (F5 (cE ks tape) (fun _=>true) s) w b w':=by
 refine YA sb w _ ((PL i c (h.alloc (.cells #[.pointer (some ⟨sb,0,none⟩)] 39)) w.heap.size (aS_ ..) (aM _ _ rfl _) (fun _=>true) 66 #[] XF fun F n L W v m _ _ _=>vK v W).mono ?_)
 rintro e w' ⟨b,rfl,G,d,k,j,f,l⟩;have a:Below w.heap.size w (w.alloc (.cells #[.pointer (some ⟨sb,0,none⟩)] 39)):=(ay_ _ w).alloc (au_ _) _;exact⟨b,rfl,G,d,k,j.drop fun b g=>aJ_ _ g,f,(Fs.of_below a h.ses.lt).trans l⟩
end
end Go.Proofs.YtblbkfdhjfppkaaGreatDoor
