import Derived.Test.YtjhbbdpfkccohaaGreatDoorP18
set_option linter.all false
set_option maxRecDepth 100000
set_option maxHeartbeats 4000000
open List renaming length->Ty
open Go.World renaming setCell->Tz,alloc->T6,cell?->T_
open Option renaming some->Ua
open Bool renaming false->Uc,true->Ud
open Go renaming Calls->Ue,Value->Uf,TypeId->Ui
open Go.Proofs.Tryz renaming prog->Un
open Go.Value renaming slice->Uq,string->Ur,agg->Us,pointer->Ut,tuple->Uu,bool->Uw
open Go.Obj renaming cells->Uy
namespace Go.Proofs.YtjhbbdpfkccohaaGreatDoor
open Hs
open _root_.Go.Proofs.Tryz
open Go.RowKit
variable{R:List aC}{D a v:Nat}{f:Type}{e:Ui}{s:aM}{w x:aN}{y:aW}{F t:bN}
def WI(w:aN)(C g n G f j:Nat)(D:Bool)(u:Int)(a:SV)(H:C<H_ w)(q:g<H_ w)(hn:n<=1000)
 (x:dP w C 5 (P_ (Ua (aL g 0)) n G))
 (z:dP w g (j*6+1) (I_ a.t)) (t:dP w g (j*6+2) (P_ a.x1 a.n1 a.c1)) (A:dP w g (j*6+3) (P_ a.x2 a.n2 a.c2)) (B:dP w g (j*6+4) (P_ a.x3 a.n3 a.c3)) (p:dP w g (j*6+5) (I_ a.q))
 (hj:(D=Ud/\f=j)\/(D=Uc/\f=j+1)) (aa:j<n)
 (P:Hid (Ue Un 94 #[Ut (Ua (aL C 5)),I_ u] (eH w #[I_ 0,bO,bO,bO,I_ 0] 57) λe w'=>e=bY (Uu #[I_ f,Uw D])/\Below (H_ w+1) (eH w #[I_ 0,bO,bO,bO,I_ 0] 57) w')):
 Ue Un 115 #[Ut (Ua (aL C 5)),I_ u] w λe w'=>e=bY (Uu #[a.val,Uw Ud])/\R_ w w':=by
 have Z:=aB (dy x (dy z (dy t (dy A (dy B p)))));clear x z t A B p;go_in
 go_wp2_with fail;refine rf P λo F=>?_
 have m:R_ w o:=((dz (H_ w) w).alloc (aD) _).trans (F.mono aD);have c:o.heap[H_ w]?=Ua (cD #[I_ 0,bO,bO,bO,I_ 0] 57):=(F.block _ aD).trans (aZ _ _ rfl _);obtain⟨x,z,t,A,B,p⟩:=Z.out;have k:∀(b i:Nat) (v:aW),b<H_ w->dP w b i v->dP o b i v:=λb i v E hv=>(World.cell?_of_block (m.block b E)).trans hv
 have d5:=k _ _ _ H x;have X:=k _ _ _ q z;have N:=k _ _ _ q t;have O:=k _ _ _ q A;have d4:=k _ _ _ q B;have Y:=k _ _ _ q p;have z0:=aA (i:=0) c aJ;have V:=aA (i:=1) c aJ;have S:=aA (i:=2) c aJ;have z3:=aA (i:=3) c aJ;have T:=aA (i:=4) c aJ;have Q:=aF (i:=0) c;have U:=aF (i:=1) c;have f2:=aF (i:=2) c;have f3:=aF (i:=3) c;have f4:=aF (i:=4) c;have lz:=aH c;have y:=aB (mO (W:=o) (s:=a) c s_ rfl)
 have r:=aB (AH a m mJ);unfold jR at y r;have q1:(0:Int)<=(j:Int):=aD;have q2:(j:Int)<(n:Int):=aD;clear F m c k Z x z t A B p P;rcases hj with ⟨rfl,rfl⟩|⟨rfl,rfl⟩
 .go_wp2_with fail;have d:=y.out;have l:=r.out;clear y r z0 V S z3 T Q U f2 f3 f4 X N O d4 d5 Y;generalize (Tz (Tz (Tz (Tz o (aL (H_ w) 0) (I_ a.t)) (aL (H_ w) 1) (P_ a.x1 a.n1 a.c1)) (aL (H_ w) 2) (P_ a.x2 a.n2 a.c2)) (aL (H_ w) 3) (P_ a.x3 a.n3 a.c3)).setCell (aL (H_ w) 4) (I_ a.q)=W3 at d l ⊢
  obtain⟨M,I,J,K,L⟩:=d;exact bodyPost_ret (v:=Uu #[a.val,Uw Ud]) oq rfl G_
 have q3:(((j+1:Nat):Int)==0)=Uc:=G_
 go_wp2_with fail;have d:=y.out;have l:=r.out;clear y r z0 V S z3 T Q U f2 f3 f4 X N O d4 d5 Y;generalize (Tz (Tz (Tz (Tz o (aL (H_ w) 0) (I_ a.t)) (aL (H_ w) 1) (P_ a.x1 a.n1 a.c1)) (aL (H_ w) 2) (P_ a.x2 a.n2 a.c2)) (aL (H_ w) 3) (P_ a.x3 a.n3 a.c3)).setCell (aL (H_ w) 4) (I_ a.q)=W3 at d l ⊢
 obtain⟨M,I,J,K,L⟩:=d;exact bodyPost_ret (v:=Uu #[a.val,Uw Ud]) oq rfl G_
def Qj(l:List SV):List Uf:=l.flatMap λv=>[I_ v.t,Uq v.x1 v.n1 v.c1,Uq v.x2 v.n2 v.c2,Uq v.x3 v.n3 v.c3,I_ v.q]
section
variable {fp:iU} {F:bN} {w w':aN} {sb mb n:Nat} {mo:Obj} {st:Nat->Option dB} {s:dB}
end
section
variable {fp:iU} {F G:bN} {w w':aN} {sb mb n n':Nat} {mo:Obj} {ks:List aC} {tape:List Int} {s:dB} {L:List Nat}
def rE.fresh(h:rE fp F w sb mb mo ks tape s n L)(a:rE fp F w' sb mb mo ks tape s n L)(f:w'.heap[sb]?=w.heap[sb]?){b:Nat}(k:H_ w<=b)(c:b<H_ w'):rE fp F w' sb mb mo ks tape s n (b::L):=by
 refine⟨a.um,a.si,a.pow,a.low,a.hn,λx d=>?_⟩
 rcases ff.1 d with rfl|d
 .have j:=h.um.lt;have i:=h.low;refine⟨aD,c,λg=>by have:=(h.um.fix _ g).1;exact aD,λe=>?_,aD,by have:=aH h.um.map.1;exact aD⟩
  rw[QD f]at e;have:=(h.row e).2.1;exact aD
 exact a.loc x d
def rE.xy(h:rE fp F w sb mb mo ks tape s n L)(c:rE fp F w' sb mb mo ks tape s n L)(e:w'.heap[sb]?=w.heap[sb]?):∀(M:List Nat),(∀b∈M,w.heap.size<=b/\b<w'.heap.size)->rE fp F w' sb mb mo ks tape s n (M++L)
 |[],_=>c
 |b::M,f=>by
  have a:=rE.xy h c e M G_
  have g:=h.fresh c e (f b (jk ..)).1 (f b (jk ..)).2
  exact⟨a.um,a.si,a.pow,a.low,a.hn,λx d=>by
   rcases ff.1 d with rfl|d
   .exact g.loc x (s_)
   exact a.loc x d⟩
def En(y:Option Addr)(k d:Nat):List Nat:=(Value.ownBlock (Uq y k d)).toList
structure Rk(fp:iU)(sb mb:Nat)(mo:Obj)(ks:List aC)(tape:List Int)(s:dB)(L:List Nat)(w:aN)(F0:bN)(n0 t0:Nat)(F:bN)(n:Nat)(vs:List SV)(y:Option Addr)(d:Nat)(W:aN):Prop where
 fs:FS sb w W
 ext:ss F0 F w.heap.size
 le:n0<=n
 own:W.ownsRow w.heap.size 57 5 (Uq y (Ty vs) d) (Ty vs) (Qj vs)
 live:rE fp F W sb mb mo ks tape s n (En y (Ty vs) d++L)
 all:∀i (h:i<Ty vs),∃τ,eX ks tape (t0+i)=Ua τ/\pC fp F W vs[i].val τ
structure Tr(fp:iU)(sb mb:Nat)(mo:Obj)(ks:List aC)(tape:List Int)(s:dB)(L:List Nat)(w:aN)(F0:bN)(n0 t0 end_ K0:Nat)(gk b:Nat)(vs:List SV)(y:Option Addr)(d:Nat)(v:SV)(ok:Bool)(W:aN):Prop where
 ok:ok=Ud
 gk:gk+Ty vs=K0
 le:t0+Ty vs<=end_
 i_:W.heap[b]?=Ua (Uy v.cells 57)
 hb:w.heap.size<=b/\b∉En y (Ty vs) d
 now:∃F n τ,Rk fp sb mb mo ks tape s (b::L) w F0 n0 t0 F n vs y d W/\eX ks tape (t0+Ty vs)=Ua τ/\pC fp F W v.val τ/\τ.m_/20<n
end
def UG:Array Uf:= #[I_ 0,bO,bO,bO,I_ 0]
def Oz(w:aN)(sb K0:Nat)(g:Int)(I:Nat->Nat->SV->Bool->World->Prop)(R:SV->Bool->World->Prop)
 (Y:Hid (Ue Un 115 #[Ut (Ua (aL sb 5)),I_ g] (T6 w (Uy UG 57)) λe w'=>∃v ok,e=bY (Uu #[SV.val v,Uw ok])/\I K0 w'.heap.size v ok (T6 w' (Uy v.cells 57))))
 (C:Hid (∀gk b v ok W,I gk b v ok W->W.heap[b]?=Ua (Uy v.cells 57)/\w.heap.size≠b/\W.heap[w.heap.size]?=Ua (Uy UG 57)))
 (J:Hid (∀gk b v W,I gk b v Ud W->(v.t:Int)<g->∃j,gk=j+1/\Ue Un 116 #[bF sb,v.val] (T6 W (Uy v.cells 57)) λe w'=>∃K ok,e=bY (Uu #[SV.val K,Uw ok])/\(∃c,w'.heap[b]?=Ua (Uy c 57)/\c.size=5)/\I j b K ok (jR w' b K)))
 (M:Hid (∀gk b v W,I gk b v Ud W->g<=(v.t:Int)->R v Ud (jR (T6 W (Uy v.cells 57)) w.heap.size v))) (n:Hid (∀gk b v W,I gk b v Uc W->R v Uc (jR W w.heap.size v))):
 Ue Un 64 #[bF sb,I_ g] w λe w'=>∃v ok,e=bY (Uu #[SV.val v,Uw ok])/\R v ok w':=by
 unfold UG at Y C;go_in
 go_wp2_with fail;apply Y.mono
 rintro e w1 ⟨v0,af,rfl,h1⟩;have H1:=aB h1;unfold SV.cells at H1;unfold SV.val;clear h1 Y;go_wp2
 go_loopg [7] K0 (λgk s7 wr=>∃v ok,s7=Uw ok/\I gk w1.heap.size v ok wr)
 case atStart=>grind [d7]
 case round=>
  obtain⟨v,ok,rfl,D⟩:=hrel;obtain⟨d,ab,k⟩:=C _ _ _ _ _ D;unfold SV.cells at d;have t:=aA (i:=0) d aJ;have x:=aA (i:=1) d aJ;have r:=aA (i:=2) d aJ;have u:=aA (i:=3) d aJ;have y:=aA (i:=4) d aJ;have ad:=aH d;have lz:=aH k;cases ok
  .have S:=aA (i:=0) k aJ;have X:=aA (i:=1) k aJ;have z2:=aA (i:=2) k aJ;have V:=aA (i:=3) k aJ;have P:=aA (i:=4) k aJ;have L:=aF (i:=0) k;have H:=aF (i:=1) k;have F:=aF (i:=2) k;have N:=aF (i:=3) k;have G:=aF (i:=4) k;have B:=aB (mO (W:=wr) (s:=v) k s_ rfl)
   have p:=aB (n _ _ _ _ D);unfold jR at B p;clear D C J M n d k;go_wp2_with fail;have m:=B.out;have A:=p.out;clear B p S X z2 V P L H F N G t x r u y;generalize (Tz (Tz (Tz (Tz wr (aL w.heap.size 0) (I_ v.t)) (aL w.heap.size 1) (Uq v.x1 v.n1 v.c1)) (aL w.heap.size 2) (Uq v.x2 v.n2 v.c2)) (aL w.heap.size 3) (Uq v.x3 v.n3 v.c3)).setCell (aL w.heap.size 4) (I_ v.q)=W3 at m A ⊢
   obtain⟨c0,T,Q,U,Z⟩:=m;exact bodyPost_ret (v:=Uu #[v.val,Uw Uc]) ow rfl G_
  have HT:=aB (AV v.t v.q v.x1 v.x2 v.x3 v.n1 v.n2 v.n3 v.c1 v.c2 v.c3 wr);have o:=aB D;clear D;go_wp2_with fail;refine oN HT ?_;clear HT;by_cases hv:(v.t:Int)<g
  .obtain⟨j,rfl,hN⟩:=J _ _ _ _ o hv;have q:=aB hN;unfold SV.cells SV.val at q;clear hN;generalize z:T6 wr (Uy #[I_ v.t,Uq v.x1 v.n1 v.c1,Uq v.x2 v.n2 v.c2,Uq v.x3 v.n3 v.c3,I_ v.q] 57)=O at q ⊢
   have a:O.heap[w1.heap.size]?=Ua (Uy #[I_ v.t,Uq v.x1 v.n1 v.c1,Uq v.x2 v.n2 v.c2,Uq v.x3 v.n3 v.c3,I_ v.q] 57):=by grind [eh]
   clear t x r u y;have t:=aA (i:=0) a aJ;have x:=aA (i:=1) a aJ;have r:=aA (i:=2) a aJ;have u:=aA (i:=3) a aJ;have y:=aA (i:=4) a aJ;have E:=aH a;clear d a z o C J M n k;go_wp2_with fail;apply q.mono
   rintro e w6 ⟨K,ok,rfl,⟨c,l,ac⟩,h6⟩;have H6:=aB h6;unfold jR at H6;clear q t x r u y h6;have t:=aA (i:=0) l (fh aD);have x:=aA (i:=1) l (fh aD);have r:=aA (i:=2) l (fh aD);have u:=aA (i:=3) l (fh aD);have y:=aA (i:=4) l (fh aD);have L:=aF (i:=0) l;have H:=aF (i:=1) l;have F:=aF (i:=2) l;have N:=aF (i:=3) l;have G:=aF (i:=4) l;have aa:=aH l;clear l;go_wp2
   go_roundg j
   case measure=>exact aD
   grind [d7]
  have p:=aB (M _ _ _ _ o aD);have f:(T6 wr (Uy v.cells 57)).heap[w.heap.size]?=Ua (Uy #[I_ 0,bO,bO,bO,I_ 0] 57):=by grind [eh]
  have a:(T6 wr (Uy v.cells 57)).heap[w1.heap.size]?=Ua (Uy #[I_ v.t,Uq v.x1 v.n1 v.c1,Uq v.x2 v.n2 v.c2,Uq v.x3 v.n3 v.c3,I_ v.q] 57):=by grind [eh]
  unfold SV.cells at p f a;generalize z:T6 wr (Uy #[I_ v.t,Uq v.x1 v.n1 v.c1,Uq v.x2 v.n2 v.c2,Uq v.x3 v.n3 v.c3,I_ v.q] 57)=O at p f a ⊢
  clear t x r u y;have t:=aA (i:=0) a aJ;have x:=aA (i:=1) a aJ;have r:=aA (i:=2) a aJ;have u:=aA (i:=3) a aJ;have y:=aA (i:=4) a aJ;have E:=aH a;have ae:=aH f;have S:=aA (i:=0) f aJ;have X:=aA (i:=1) f aJ;have z2:=aA (i:=2) f aJ;have V:=aA (i:=3) f aJ;have P:=aA (i:=4) f aJ;have L:=aF (i:=0) f;have H:=aF (i:=1) f;have F:=aF (i:=2) f;have N:=aF (i:=3) f;have G:=aF (i:=4) f;have B:=aB (mO (W:=O) (s:=v) f s_ rfl)
  unfold jR at B p;clear C J M n o d k f a z;go_wp2_with fail;have m:=B.out;have A:=p.out;clear B p S X z2 V P L H F N G t x r u y;generalize (Tz (Tz (Tz (Tz O (aL w.heap.size 0) (I_ v.t)) (aL w.heap.size 1) (Uq v.x1 v.n1 v.c1)) (aL w.heap.size 2) (Uq v.x2 v.n2 v.c2)) (aL w.heap.size 3) (Uq v.x3 v.n3 v.c3)).setCell (aL w.heap.size 4) (I_ v.q)=W3 at m A ⊢
  obtain⟨c0,T,Q,U,Z⟩:=m;exact bodyPost_ret (v:=Uu #[v.val,Uw Ud]) ow rfl G_
def QW(w:aN)(n:Nat)(f:Int)
 (m:Hid (Ue Un 94 #[Ut (Ua (aL n 5)),I_ f] (eH w #[I_ 0,bO,bO,bO,I_ 0] 57) λe w'=>e=bY (Uu #[I_ 0,Uw Uc])/\Below (H_ w+1) (eH w #[I_ 0,bO,bO,bO,I_ 0] 57) w')):
 Ue Un 115 #[Ut (Ua (aL n 5)),I_ f] w λe w'=>e=bY (Uu #[rJ.val,Uw Uc])/\R_ w w':=by
 go_in
 go_wp2_with fail;refine rf m λb j=>?_
 have c:R_ w b:=((dz (H_ w) w).alloc (aD) _).trans (j.mono aD);have C:b.heap[H_ w]?=Ua (cD #[I_ 0,bO,bO,bO,I_ 0] 57):=(j.block _ aD).trans (aZ _ _ rfl _);have a:(eH b #[I_ 0,bO,bO,bO,I_ 0] 57).heap[H_ w]?=Ua (cD #[I_ 0,bO,bO,bO,I_ 0] 57):=by grind [eh]
 have d:(eH b #[I_ 0,bO,bO,bO,I_ 0] 57).heap[H_ b]?=Ua (cD #[I_ 0,bO,bO,bO,I_ 0] 57):=aZ _ _ aJ _;have H:=aA (i:=0) a aJ;have y:=aA (i:=1) a aJ;have t:=aA (i:=2) a aJ;have G:=aA (i:=3) a aJ;have u:=aA (i:=4) a aJ;have r:=aF (i:=0) a;have x:=aF (i:=1) a;have I:=aF (i:=2) a;have L:=aF (i:=3) a;have K:=aF (i:=4) a;have E:=aA (i:=0) d aJ;have A:=aA (i:=1) d aJ;have o:=aA (i:=2) d aJ;have p:=aA (i:=3) d aJ;have J:=aA (i:=4) d aJ;have P:=aH a;have q:H_ w≠H_ b:=G_
 have l:=aB (mO (W:=eH b #[I_ 0,bO,bO,bO,I_ 0] 57) (s:=rJ) a s_ rfl)
 have k:=aB (AH rJ (c.alloc c.size (cD #[I_ 0,bO,bO,bO,I_ 0] 57)) mJ);unfold jR rJ at l k;clear j c C a d m;go_wp2_with fail;have g:=l.out;have z:=k.out;clear l k H y t G u r x I L K A o p J E;refine bodyPost_ret (v:=Uu #[rJ.val,Uw Uc]) ?_ aJ G_
 generalize (Tz (Tz (Tz (Tz (eH b #[I_ 0,bO,bO,bO,I_ 0] 57) (aL (H_ w) 0) (I_ 0)) (aL (H_ w) 1) (bO)) (aL (H_ w) 2) (bO)) (aL (H_ w) 3) (bO)).setCell (aL (H_ w) 4) (I_ 0)=O at g ⊢
 obtain⟨N,B,D,F,M⟩:=g;simp[results,results115,go_sem,N,B,D,F,M,SV.val,rJ]
def s8(w:aN)(j:Nat)(d:Int)(P:Bool->World->Prop)
 (n:Hid (Ue Un 64 #[bF j,I_ d] w λe w'=>∃v ok,e=bY (Uu #[SV.val v,Uw ok])/\(ok=Ud->(∃c,(eH w' v.cells 57).heap[j]?=Ua (cD c 64)/\5<=c.size)/\P Ud (jR (eH w' v.cells 57) j v))/\(ok=Uc->P Uc (eH w' v.cells 57)))):
 Ue Un 24 #[bF j,I_ d] w λe w'=>∃b,e=bY (Uw b)/\P b w':=by
 go_in
 go_wp2_with fail;apply n.mono
 rintro e m ⟨v,ok,rfl,l,k⟩;clear n;have f:(eH m v.cells 57).heap[H_ m]?=Ua (cD v.cells 57):=aZ _ _ aJ _;unfold SV.cells at f;unfold SV.val;cases ok with
 |false=>
  have g:=aB (k aJ);unfold SV.cells at g;clear l k;go_wp2
  go_ret;exact⟨_,aJ,g⟩
 |true=>
  obtain⟨⟨c,a,q⟩,o⟩:=l rfl;have g:=aB o;unfold jR at g;unfold SV.cells at g a;have B:=aA (i:=0) f aJ;have A:=aA (i:=1) f aJ;have r:=aA (i:=2) f aJ;have s:=aA (i:=3) f aJ;have F:=aA (i:=4) f aJ;have D:=aA (i:=0) a (fh aD);have z:=aA (i:=1) a (fh aD);have u:=aA (i:=2) a (fh aD);have C:=aA (i:=3) a (fh aD);have x:=aA (i:=4) a (fh aD);have t:=aF (i:=0) a;have y:=aF (i:=1) a;have E:=aF (i:=2) a;have H:=aF (i:=3) a;have G:=aF (i:=4) a;have p:=aH a;clear l k o a f;go_wp2
  go_ret;exact⟨_,aJ,g⟩
section
variable {fp:iU} {F:bN} {w w':aN} {sb mb n:Nat} {mo:Obj} {st:Nat->Option dB} {s:dB}
def wk(n:Nat)(key:Int):Nat:=if key<=0 then 0 else min n ((key.toNat-1)/20+1)
def XC(n:Nat)(key:Int):Bool:=decide (0<=key/\key.toNat%20=0/\key.toNat/20<n)
theorem Rp{n:Nat}{a:Int}{b:Nat}{c:Bool}(h:Cx n a b c):b=wk n a/\c=XC n a:=by
 have f:=h.le
 have e:b=wk n a:=by
  rcases Nat.lt_trichotomy b (if a<=0 then 0 else min n ((a.toNat-1)/20+1))with q|q|q
  .split at q
   .exact aD
   have:=h.hi b aD (aD);exact aD
  .exact q
  have:=h.lo _ q;grind
 have d:=h.Cg;grind [XC,wk]
def L8(h:kZ fp F w sb mb mo st s n)(a:Int)(N:n<=1000)(h0:0<n):
 Ue Un 115 #[Ut (Ua (aL sb 5)),I_ a] w λe w'=>∃(v:SV) (ok:Bool),e=bY (Uu #[v.val,Uw ok])/\R_ w w'/\(ok=Uc->a<0)/\(ok=Ud->∃(j:Nat) (p:dB),j<n/\((20*j:Nat):Int)<=a/\st (20*j)=Ua p/\pC fp F w' v.val p):=by
 have x:R_ w (eH w #[I_ 0,bO,bO,bO,I_ 0] 57):=(by grind [ep,dz])
 have U:=h.grow x (s_) λ_ h=>ed h
 have c:Ue Un 94 #[Ut (Ua (aL sb 5)),I_ a] (eH w #[I_ 0,bO,bO,bO,I_ 0] 57) λe w'=>e=bY (Uu #[I_ (wk n a:Nat),Uw (XC n a)])/\Below (H_ w+1) (eH w #[I_ 0,bO,bO,bO,I_ 0] 57) w':=by
  apply (CZ U a N).mono
  grind [Rp,World.size_alloc]
 by_cases hk:a<0
 .have e1:wk n a=0:=ef aD;have Y:XC n a=Uc:=by unfold XC;grind
  rw[e1,Y]at c;apply (QW w sb a c).mono
  grind
 obtain⟨j,hj,m,r⟩:∃j,((XC n a=Ud/\wk n a=j)\/(XC n a=Uc/\wk n a=j+1))/\j<n/\((20*j:Nat):Int)<=a:=by
  by_cases u:0<=a/\a.toNat%20=0/\a.toNat/20<n
  .refine⟨a.toNat/20,ed ⟨ig u,?_⟩,u.2.2,aD⟩;grind [wk]
  refine⟨min n ((a.toNat-1)/20+1)-1,ec ⟨gi u,?_⟩,aD,?_⟩
  .grind [wk]
  exact aD
 obtain⟨fv,tv,ov,V,d,X,h2,L,W,G,h6,h7⟩:=h.i_;have q:=h.lt;have o:j<Ty d:=aD;obtain⟨k0,p,z,l⟩:=G j o;obtain⟨v,k,S,T⟩:=l.sv;have c5:=aA (i:=5) X aJ;rcases L.2 with ⟨C,r2⟩|⟨g,t,Z,C,r2,r3,r4,r5⟩
 .exact aD
 subst C;have f:=X2 (es:=d) (by rw[W];exact L) λi hi=>(G i hi).ok
 obtain⟨_,a0,O,P,H,J,I⟩:=f j o;simp only[SV.val]at k;simp at k;obtain⟨A,K,E,M,B⟩:=k;rw[A]at O;rw[K]at P;rw[E]at H;rw[M]at J;rw[B]at I;refine rf (WI w sb g n t (wk n a) j (XC n a) a v q (G_) N c5 O P H J I hj m c) λw' D=>?_
 refine⟨v,Ud,aJ,D,s_,λ_=>⟨j,p,m,r,z,?_⟩⟩
 have Q:v.val=Us #[I_ d[j].a,d[j].b,d[j].c,d[j].d,I_ d[j].e]:=by rw[A,K,E,M,B];rfl
 rw[Q];exact l.h_ (λb y=>D.block b (h.fix b y).1) s_
end
section
variable {fp:iU} {F G:bN} {w w':aN} {sb mb n n':Nat} {mo:Obj} {ks:List aC} {tape:List Int} {s:dB} {L:List Nat}
structure Cc(fp:iU)(sb mb:Nat)(mo:Obj)(ks:List aC)(tape:List Int)(s:dB)(L:List Nat)(w:aN)(F0:bN)(n0:Nat)(m_:Int)(gk b:Nat)(v:SV)(ok:Bool)(W:aN):Prop where
 i_:W.heap[b]?=Ua (Uy v.cells 57)
 hb:w.heap.size<b
 z:W.heap[w.heap.size]?=Ua (Uy UG 57)
 fs:FS sb w W
 now:∃F n,ss F0 F w.heap.size/\n0<=n/\rE fp F W sb mb mo ks tape s n (b::w.heap.size::L)/\(ok=Ud->∃τ,eX ks tape τ.m_=Ua τ/\pC fp F W v.val τ/\τ.m_/20<n/\(τ.m_:Int)<=m_/\501<=gk+τ.m_)
 no:ok=Uc->m_<0\/eX ks tape m_.toNat=none
def DQ(fp:iU)(F:bN)(w:aN)(sb mb:Nat)(mo:Obj)(ks:List aC)(tape:List Int)(s:dB)(n:Nat)(L:List Nat)(m_:Int)(v:SV)(ok:Bool)(W:aN):Prop:=
 ∃G n',n<=n'/\ss F G w.heap.size/\FS sb w W/\rE fp G W sb mb mo ks tape s n' L/\(ok=Ud->∃τ,(τ.m_:Int)=m_/\eX ks tape τ.m_=Ua τ/\pC fp G W v.val τ/\τ.m_/20<n')/\(ok=Uc->m_<0\/eX ks tape m_.toNat=none)
def Ji(J:Good ks)(M:Ty tape<=17592186044416)(h:rE fp F w sb mb mo ks tape s n L)(a:Int):
 Ue Un 64 #[bF sb,I_ a] w λe w'=>∃v ok,e=bY (Uu #[SV.val v,Uw ok])/\DQ fp F w sb mb mo ks tape s n L a v ok w':=by
 have f:=h.um.lt;have Z:=h.count J;have S:0<n:=by have:=h.hn;exact aD
 have A:=h.alloc (cD UG 57);have P:R_ w (T6 w (cD UG 57)):=(by grind [ep,dz])
 refine Oz w sb 501 a (Cc fp sb mb mo ks tape s L w F n a) (DQ fp F w sb mb mo ks tape s n L a) ((L8 A.um a aD S).mono ?_) (λgk b v ok W d=>?_) (λgk b v W d hv=>?_) (λgk b v W d hv=>?_) (λgk b v W d=>?_)
 .rintro e T ⟨v,ok,rfl,i,C,h2⟩;change Below _ _ _ at i
  rw[World.size_alloc]at i;have c:td [] (T6 w (cD UG 57)) T:=⟨i.os,i.tape,i.output,by have:=i.size;exact aD,λk hk _=>i.block k (by simpa using hk)⟩
  have hl1 :=A.but c Fx;have ac:w.heap.size+1<=T.heap.size:=by have:=i.size;simpa using this
  have l :=P.trans (i.mono aD);have hz :=(i.block _ aD).trans (aZ _ _ rfl _);refine⟨v,ok,aJ,aZ _ _ aJ _,aD,qo,FS.p_ (l.alloc l.size _) f,⟨F,n,ss.refl _ _,aD,hl1.alloc _,λr=>?_⟩,G_⟩
  obtain⟨j,q,j1,j2,j3,j4⟩:=h2 r;have ht:=(J.Bl j3).2.1;exact⟨q,G_,j4.but hl1 (td.alloc _ _ []) (s_),aD,aD,aD⟩
 .obtain⟨z,u,_,_,p,_⟩:=d.now;have:=d.hb;grind [Cc.i_,Cc.z]
 .obtain⟨z,u,E,o,p,C⟩:=d.now;obtain⟨q,Q,U,V,t4,t5⟩:=C rfl
  have K:v.t=q.m_:=by grind [pC,SV.val]
  have Y:=(J.Bl Q).1.m_;have ae:=aH d.i_;have l:=d.hb;have ad:=aD;have O:rE fp z (T6 W (cD v.cells 57)) sb mb mo ks tape s u (b::w.heap.size::L):=p.but (td.alloc _ _ []) s_
  refine⟨gk-1,aD,(p8 J O M v q (U.but p (td.alloc _ _ []) s_) Q V).mono ?_⟩
  rintro e I ⟨X,ok,rfl,G,m,k1,k2,k3,k4,k5,k6⟩;have B:I.heap[b]?=Ua (cD v.cells 57):=by grind [rE.i_,eh,Cc.i_]
  have N:I.heap[w.heap.size]?=Ua (cD UG 57):=by grind [rE.i_,eh,Cc.z]
  have D:td [b] I (jR I b X):=td.Be _ _ _;have g:∀x∈[b],x∈(b::w.heap.size::L):=(by simp)
  have H:FS sb w (T6 W (cD v.cells 57)):=d.fs.but (td.alloc _ _ []) (s_) f
  refine⟨X,ok,aJ,⟨_,B,by simp[SV.cells]⟩,Ms B rfl,l,by rw[gZ _ _ _ _ aD];exact N,(H.trans k3).but D (G_) f,⟨G,m,E.trans k2 H.size,aD,k4.but D g,λr=>?_⟩,λr=>?_⟩
  .grind [pC.but]
  right
  cases hq:eX ks tape a.toNat with
  |none=>rfl
  |some y=>
   obtain⟨x,ab,aa⟩:=Hv hq (t:=q.m_) aD;grind
 .obtain⟨z,u,E,o,p,C⟩:=d.now;obtain⟨q,Q,U,V,t4,t5⟩:=C rfl
  have K:v.t=q.m_:=by grind [pC,SV.val]
  have c:td [w.heap.size] W (jR (T6 W (cD v.cells 57)) w.heap.size v):=by simpa using (td.alloc W _ []).trans (td.Be _ _ _)
  have g:∀x∈[w.heap.size],x∈(b::w.heap.size::L):=(by simp)
  exact⟨z,u,o,E,d.fs.but c (s_) f,(p.but c g).drop G_,(by grind [pC.but]),s_⟩
 obtain⟨z,u,E,o,p,C⟩:=d.now;have c:td [w.heap.size] W (jR W w.heap.size v):=td.Be _ _ _;have g:∀x∈[w.heap.size],x∈(b::w.heap.size::L):=(by simp)
 exact⟨z,u,o,E,d.fs.but c (s_) f,(p.but c g).drop G_,s_,λ_=>d.no rfl⟩
def SJ(st:Nat->Option dB)(m_:Int)(s τ:dB)(fd:Bool):Prop:=
 (fd=Ud/\(τ.m_:Int)=m_/\st τ.m_=Ua τ)\/(fd=Uc/\τ=s/\(m_<0\/st m_.toNat=none))
def Ke(o:Good ks)(f:Ty tape<=17592186044416)(h:rE fp F w sb mb mo ks tape s n L)(a:Int):
 Ue Un 24 #[bF sb,I_ a] w λe w'=>∃b,e=bY (Uw b)/\Dq fp sb mb mo ks tape L (SJ (eX ks tape) a s) w b w':=by
 have d:=h.um.lt;refine s8 w sb a _ ((Ji o f h a).mono ?_);rintro e w' ⟨v,ok,rfl,G,j,A,u,q,i,p,I⟩;have c:rE fp G (eH w' v.cells 57) sb mb mo ks tape s j L:=i.but (td.alloc _ _ []) s_
 have r:FS sb w (eH w' v.cells 57):=q.but (td.alloc _ _ []) (s_) d
 refine⟨v,ok,aJ,λg=>?_,(by grind [Dq,SJ])⟩
 obtain⟨D,B,k,l,m⟩:=p g;obtain⟨J,y,H,x,E,t,_⟩:=c.um.i_;obtain⟨C,z⟩:=c.go (l.but i (td.alloc _ _ []) s_) k m
 grind [FS.trans,Dq,SJ]
end
def lA{α:Type}(k:Nat)(R:List Uf->α->Prop)(xs:List Uf)(l:List α):Prop:=
 (Ty xs)=Ty l*k/\∀i (h:i<Ty l),R ((xs.drop (i*k)).take k) l[i]
section
variable {α:Type} {k:Nat} {R S:List Uf->α->Prop} {xs ys:List Uf} {l m:List α} {a:α}
def lA.nil:lA k R [] []:=(by grind [lA])
def lA.mono(h:lA k R xs l)(f:∀c a,R c a->S c a):lA k S xs l:=(by grind [lA])
def lA.fit{i:Nat}(h:lA k R xs l)(a:i<Ty l):i*k+k<=Ty xs:=by rw[h.1,<-Nat.succ_mul];exact ic k a
theorem lA.append(h:lA k R xs l)(b:lA k R ys m):lA k R (xs++ys) (l++m):=by
 refine⟨by grind [lA],λi c=>?_⟩
 by_cases a:i<Ty l
 .have:=h.fit a;grind [lA]
 obtain⟨j,rfl⟩:∃j,i=Ty l+j:=⟨i-Ty l,aD⟩;rw[List.getElem_append_right aD,Nat.add_mul,<-h.1,List.drop_length_add_append];grind [lA]
theorem lA.one(h:Ty xs=k)(h':R xs a):lA k R xs [a]:=
 ⟨by simp[h],λi b=>by obtain rfl:i=0:=G_
                      grind⟩
def lA.take(h:lA k R xs l){m:Nat}(b:m<=Ty l):lA k R (xs.take (m*k)) (l.take m):=by
 have d:=ic k b;refine⟨by grind [lA],λi c=>?_⟩
 have a:i<m:=G_
 have:=ic k a;grind [List.drop_take,lA]
def lA.cell(h:lA k R xs l){i:Nat}(a:i<Ty l):∃c:List Uf,R c l[i]/\∀j u,c[j]?=Ua u->xs[i*k+j]?=Ua u:=
 ⟨_,h.2 i a,λj u b=>by grind⟩
def Own(k:Nat)(ty:Ui)(R:List Uf->α->Prop)(w:aN)(v:aW)(l:List α):Prop:=∃xs,w.ownsRow 0 ty k v (Ty l) xs/\lA k R xs l
variable {ty:Ui} {w w':aN} {v:aW}
theorem Own.nil:Own k ty R w (bO) []:=⟨[],World.ownsRow_nil _ _ _ _,lA.nil⟩
theorem Own.h_(h:Own k ty R w v l)(d:∀b,v.ownBlock=Ua b->w'.heap[b]?=w.heap[b]?)(f:∀c a,R c a->S c a):Own k ty S w' v l:=by obtain⟨i,g,e⟩:=h;exact⟨i,bC g d,e.mono f⟩
theorem Own.lt(h:Own k ty R w v l):∀b,v.ownBlock=Ua b->b<w.heap.size:=by obtain⟨e,a,d⟩:=h;exact λb c=>(a.lt b c).2
theorem Own.slice(h:Own k ty R w v l):∃x c,v=Uq x (Ty l) c/\Ty l<=c/\c<=maxLen:=by obtain⟨d,⟨-,b⟩,a⟩:=h;grind
theorem Own.cell(h:Own k ty R w v l){i:Nat}(f:i<Ty l):∃g a c,v=Uq (Ua (aL g 0)) (Ty l) a/\R c l[i]/\∀j u,c[j]?=Ua u->T_ w (aL g (i*k+j))=Ua u:=by obtain⟨e,⟨-,d⟩,b⟩:=h;grind [aA,lA]
def Own.cut(h:Own k ty R w v l){n:Nat}(f:n<=Ty l):∃x c,v=P_ x (Ty l) c/\Ty l<=c/\c<=maxLen/\Own k ty R w (P_ x n c) (l.take n):=by
 obtain⟨y,⟨s,p⟩,j⟩:=h;have q:Ty (l.take n)=n:=G_
 have u:=ic k f;have b:=j.take f;rcases p with ⟨rfl,i⟩|⟨g,a,d,rfl, -,m,o,e,r,t⟩
 .exact⟨none,0,by rw[i],aD,aD,_,⟨b.1,G_⟩,b⟩
 refine⟨_,a,aJ,o,e,_,⟨b.1,ec ⟨g,a,d,by rw[q],aD,m,aD,e,r,?_⟩⟩,b⟩
 grind
end
def Each{α β:Type}(R:α->β->Prop):List α->List β->Prop
 |[],[]=>True
 |a::l,b::m=>R a b/\Each R l m
 |_,_=>False
section
variable {α β:Type} {R S:α->β->Prop}
def Each.mono:∀{l:List α} {m:List β},Each R l m->(∀a∈l,∀b,R a b->S a b)->Each S l m
 |[],[],_,_=>trivial
 |a::l,b::m,h,f=>⟨f a s_ b h.1,Each.mono h.2 G_⟩
 |[],_::_,h,_=>h.elim
 |_::_,[],h,_=>h.elim
def Each.length:∀{l:List α} {m:List β},Each R l m->Ty l=Ty m
 |[],[],_=>rfl
 |_::l,_::m,h=>by simp[Each.length h.2]
 |[],_::_,h=>h.elim
 |_::_,[],h=>h.elim
def Each.get:∀{l:List α} {m:List β},Each R l m->∀i (b:i<Ty m),∃a,l[i]?=Ua a/\R a m[i]
 |a::_,_::_,h,0,_=>⟨a,rfl,h.1⟩
 |_::l,_::m,h,i+1,b=>Each.get h.2 i G_
 |[],_::_,h,_,_=>h.elim
def Each.snoc:∀{l:List α} {m:List β} {a b},Each R l m->R a b->Each R (l++[a]) (m++[b])
 |[],[],_,_,_,h=>⟨h,trivial⟩
 |_::_,_::_,_,_,h,c=>⟨h.1,Each.snoc h.2 c⟩
 |[],_::_,_,_,h,_=>h.elim
 |_::_,[],_,_,h,_=>h.elim
def Each.tq:∀{l:List α} {m:List β} {b},Each R l (m++[b])->∃c a,l=c++[a]/\Each R c m/\R a b
 |[a],[],_,h=>(by grind [Each])
 |a::l,x::m,b,h=>by obtain⟨c,y,rfl,e,d⟩:=Each.tq h.2;grind [Each]
 |[],[],_,h=>h.elim
 |[],_::_,_,h=>h.elim
 |_::_::_,[],_,h=>h.2.elim
end
structure Kp(F:bN)(w:aN)(G:bN)(w':aN):Prop where
 sub:∀b,F b->G b
 h_:∀b,F b->w'.heap[b]?=w.heap[b]?
section
variable {F G H:bN} {w w' w2:aN}
def Kp.refl:Kp F w F w:=⟨s_,s_⟩
def Kp.trans(h:Kp F w G w')(k:Kp G w' H w2):Kp F w H w2:=⟨λb a=>k.sub b (h.sub b a),λb a=>(k.h_ b (h.sub b a)).trans (h.h_ b a)⟩
def LV.kp{d:Nat}{v:aW}{l:List aE}(h:LV d F w v l)(k:Kp F w G w'):LV d G w' v l:=(h.h_ k.h_).mono k.sub (aD)
def RV.kp{d:Nat}{v:aW}{a:aE}(h:RV d F w v a)(k:Kp F w G w'):RV d G w' v a:=(h.h_ k.h_).mono k.sub (aD)
def eZ.kp{d:Nat}{v:aW}{a:aC}(h:eZ d F w v a)(k:Kp F w G w'):eZ d G w' v a:=(h.h_ k.h_).mono k.sub (aD)
def xN(F:bN)(w:aN)(c:List Uf)(b:bP × aE):Prop:=
 ∃kv,c=[Ur (bs b.1),I_ b.2.c_,I_ b.2.n,Ur (bs b.2.s),kv]/\(∃d,LV d F w kv b.2.l)/\dX b.2/\aK b.2<=200
theorem xN.kp{c:List Uf}{b:bP × aE}(h:xN F w c b)(k:Kp F w G w'):xN G w' c b:=by obtain⟨g,e,⟨d,a⟩,f⟩:=h;exact⟨g,e,⟨d,a.kp k⟩,f⟩
structure yK(F:bN)(w:aN)(p:Nat × Uf)(f:iW):Prop where
 i_:w.heap[p.1]?=Ua (Uy #[Ur (bs f.name),I_ f.l_,p.2] 162)
 row:Own 5 164 (xN F w) w p.2 f.g_
theorem yK.kp{p:Nat × Uf}{f:iW}(h:yK F w p f)(k:Kp F w G w')(c:w'.heap[p.1]?=w.heap[p.1]?)(a:∀b,p.2.ownBlock=Ua b->w'.heap[b]?=w.heap[b]?):yK G w' p f:=
 ⟨c.trans h.i_,h.row.h_ a λ_ _ q=>q.kp k⟩
structure Fz{α:Type}(k:Nat)(ty:Ui)(R:List Uf->α->Prop)(F:bN)(w:aN)(v:aW)(l:List α):Prop where
 row:Own k ty R w v l
 i_:∀b,v.ownBlock=Ua b->F b
theorem Fz.kp{a:Type}{n:Nat}{c:Ui}{R:List Uf->a->Prop}{v:aW}{l:List a}(h:Fz n c R F w v l)(k:Kp F w G w'):Fz n c R G w' v l:=
 ⟨h.row.h_ ((by grind [Kp.h_,Fz.i_])) s_,λb d=>k.sub b (h.i_ b d)⟩
def yI(x:bP × bP):List (bP × bP)->List (bP × bP)
 |[]=>[x]
 |y::l=>if fE x.1 y.1 then y::yI x l else x::y::l
noncomputable def lL(l:List (bP × aE)):List (bP × bP):=(l.foldl (λr b=>yI (b.1,cM b.2) r) []).reverse
def AZ(c:List Uf)(a:bP):Prop:=c=[Ur (bs a)]
def W8(c:List Uf)(a:bP × Nat):Prop:=c=[Ur (bs a.1),I_ a.2]
def vN(c:List Uf)(a:bP × bP):Prop:=c=[Ur (bs a.1),Ur (bs a.2)]
def yt(F:bN)(w:aN)(c:List Uf)(p:gC × Nat):Prop:=
 ∃sv vv ov bv,c=[I_ p.2,sv,vv,ov,I_ p.1.stop,bv]/\Fz 2 133 W8 F w sv p.1.stack/\Fz 2 135 vN F w vv (lL p.1.g_)/\Fz 1 9 AZ F w ov p.1.out
def yt.kp{c:List Uf}{p:gC × Nat}(h:yt F w c p)(k:Kp F w G w'):yt G w' c p:=by grind [Fz.kp,yt]
end
structure DM where
 rb:Nat
 fv:Uf
 tv:Uf
 rd:Nat
 ov:Uf
 rv:Uf
 mv:Uf
 fs:List (Nat × Uf)
def ob(v:aW):List Nat:=v.ownBlock.toList
def DM.rl(m:DM):List Nat:=m.rb::(ob m.ov++(ob m.rv++(ob m.mv++m.fs.flatMap λp=>p.1::ob p.2)))
def C_(c:List Uf)(p:Nat × Uf):Prop:=c=[bF p.1]
def mK(F:bN)(w:aN)(v:aW)(l:List Int):Prop:=
 (l=[]/\∃x c,v=Uq x 0 c)\/∃g o c,v=Uq (Ua (aL g o)) (Ty l) c/\Ty l<=c/\F g/\∀i (h:i<Ty l),T_ w (aL g (o+i))=Ua (I_ l[i])/\ -9223372036854775808<=l[i]/\l[i]<=9223372036854775807
theorem mK.kp{w':aN}{v:aW}{l:List Int}(h:mK F w v l)(k:Kp F w t w'):mK t w' v l:=by
 rcases h with h|⟨g,o,c,d,a,f,b⟩
 .exact ed h
 exact ec ⟨g,o,c,d,a,k.sub g f,λi e=>⟨by grind [World.cell?_of_block,Kp.h_],(b i e).2⟩⟩
structure cP(fs:List aC)(F:bN)(w:aN)(m:DM)(s:aM):Prop where
 i_:w.heap[m.rb]?=Ua (Uy #[m.fv,m.tv,I_ m.rd,m.ov,m.rv,m.mv,I_ s.stop] 127)
 vh:∃d,nK (eZ d F w) F w m.fv fs
 tape:∃t,mK F w m.tv t/\m.rd<=Ty t/\t.drop m.rd=s.tape/\Ty t<=17592186044416
 out:Own 1 9 AZ w m.ov s.out
 uy:Own 1 160 C_ w m.rv m.fs
 vo:Own 6 78 (yt F w) w m.mv s.rm.zipIdx
 fr:Each (yK F w) m.fs s.f_
 nd:m.rl.Nodup
 nf:∀b∈m.rl,¬F b
 lt:∀b,F b->b<w.heap.size
 ol:Ty s.out<=50
def nK.kp{w':aN}{d:Nat}(h:nK (eZ d F w) F w y R)(k:Kp F w t w'):nK (eZ d t w') t w' y R:=by
 rcases h with h|⟨g,a,b,i,l,c,n,j,m,o⟩
 .exact ed h
 exact ec ⟨g,a,b,i,l,k.sub g c,(k.h_ g c).trans n,j,m,o.mono λ_ _ q=>q.kp k⟩
theorem mG:D∈ob y↔y.ownBlock=Ua D:=by simp[ob]
section
variable {fs:List aC} {F G:bN} {w w':aN} {m:DM} {s:aM}
theorem DM.Ck{m:DM}{p:Nat × Uf}(h:p∈m.fs){b:Nat}(a:b=p.1\/p.2.ownBlock=Ua b):b∈m.rl:=by grind [DM.rl,mG]
theorem cP.kp(h:cP fs F w m s)(k:Kp F w G w')(i:∀b∈m.rl,w'.heap[b]?=w.heap[b]?)(g:∀b∈m.rl,¬G b)(c:∀b,G b->b<w'.heap.size):cP fs G w' m s:=by
 have j:∀v,(∀b,b∈ob v->b∈m.rl)->∀b,v.ownBlock=Ua b->w'.heap[b]?=w.heap[b]?:=(by grind [ob])
 obtain⟨d,a⟩:=h.vh;obtain⟨t,f,e⟩:=h.tape
 exact⟨(by grind [DM.rl,cP.i_]),⟨d,a.kp k⟩,⟨t,f.kp k,e⟩,h.out.h_ (oa) s_,h.uy.h_ (oa) s_,
  h.vo.h_ (oa) λ_ _ q=>q.kp k,h.fr.mono (by grind [yK.kp,DM.rl]),h.nd,g,c,h.ol⟩
end
structure Kx(F:bN)(w:aN)(G:bN)(w':aN):Prop where
 kp:Kp F w G w'
 os:w'.os=w.os
 tape:w'.tape=w.tape
 output:w'.output=w.output
 size:w.heap.size<=w'.heap.size
section
variable {fs:List aC} {F G H:bN} {w w' w2:aN} {m:DM} {s:aM}
def Kx.refl:Kx F w F w:=⟨.refl,rfl,rfl,rfl,aD⟩
def Kx.trans(h:Kx F w G w')(k:Kx G w' H w2):Kx F w H w2:=⟨h.kp.trans k.kp,k.os.trans h.os,k.tape.trans h.tape,k.output.trans h.output,eo h.size k.size⟩
def Kx.below(h:R_ w w')(a:∀b,F b->b<w.heap.size):Kx F w F w':=⟨⟨s_,ku⟩,h.os,h.tape,h.output,h.size⟩
structure Px(F:bN)(w:aN)(m:DM)(G:bN)(w':aN)(m':DM):Prop where
 sub:∀b,F b->G b
 new:∀b,G b->F b\/w.heap.size<=b
 uz:∀b,b<w.heap.size->b∉m.rl->w'.heap[b]?=w.heap[b]?
 mu:∀b∈m'.rl,b∈m.rl\/w.heap.size<=b
 os:w'.os=w.os
 tape:w'.tape=w.tape
 output:w'.output=w.output
 size:w.heap.size<=w'.heap.size
 rb:m'.rb=m.rb
def Px.refl:Px F w m F w m:=⟨s_,G_,s_,G_,rfl,rfl,rfl,aD,rfl⟩
theorem Px.trans{c a:DM}(h:Px F w m G w' c)(k:Px G w' c H w2 a):Px F w m H w2 a:=
 have d:=h.size
 ⟨λb q=>k.sub b (h.sub b q),λb q=>(k.new b q).elim (h.new b) aD,(by grind [Px.uz,Px.mu]),
   (by grind [Px.mu]),k.os.trans h.os,k.tape.trans h.tape,k.output.trans h.output,eo d k.size,k.rb.trans h.rb⟩
def Px.below(h:R_ w w'):Px F w m F w' m:=⟨s_,G_,λb a _=>h.block b a,G_,h.os,h.tape,h.output,h.size,rfl⟩
def Px.kp{a:DM}(h:Px F w m G w' a)(b:cP fs F w m s):Kp F w G w':=⟨h.sub,(by grind [Px.uz,cP.lt,cP.nf])⟩
def nH{b:Nat}{d c a:aW}{e:Ui}(h:w.heap[b]?=Ua (Uy #[d,c,a] e)):T_ w (aL b 0)=Ua d/\T_ w (aL b 1)=Ua c/\T_ w (aL b 2)=Ua a/\∀i,w.frozen? (aL b i)=Uc:=
 ⟨aA h rfl,aA h rfl,aA h rfl,λ_=>aF h⟩
def iA{b:Nat}{f e c a g j d:aW}{k:Ui}(h:w.heap[b]?=Ua (Uy #[f,e,c,a,g,j,d] k)):
 w.cell? (aL b 0)=Ua f/\T_ w (aL b 1)=Ua e/\T_ w (aL b 2)=Ua c/\T_ w (aL b 3)=Ua a/\T_ w (aL b 4)=Ua g/\T_ w (aL b 5)=Ua j/\T_ w (aL b 6)=Ua d/\∀i,w.frozen? (aL b i)=Uc:=
 ⟨aA h rfl,aA h rfl,aA h rfl,aA h rfl,aA h rfl,aA h rfl,aA h rfl,λ_=>aF h⟩
def rQ{a:List (Nat × Uf)}{p:Nat × Uf}(h:cP fs F w m s)(n:m.fs=a++[p]):
 Ue Un 110 #[bF m.rb] w λe w'=>e=bY (bF p.1)/\∃q,w'=w.drewN q:=by
 obtain⟨g,l,c,f,k,j⟩:=h.uy.cell (i:=a.length) G_
 have d:Ty m.fs=Ty a+1:=G_
 have u:dP w g (Ty a) (bF p.1):=by simpa using j 0 (bF p.1) (by rw[k];simp[n])
 have o:=(iA h.i_).2.2.2.2.1;rw[f,d]at o;have b:Ty a+1<=maxLen:=by obtain⟨x,t, -,v,r⟩:=h.uy.slice;exact aD
 unfold maxLen at b;have z:(0:Int)<=(Ty a:Int):=aD;have y:(Ty a:Int)<(Ty a:Int)+1:=aD;clear j f k h d;go_in
 go_wp2_with fail;go_quiet (fail)
 go_wp2
 go_ret;exact⟨aJ,_,aJ⟩
def NO{p:Nat × Uf}{f:iW}(h:yK F w p f)(x:bP):
 Ue Un 133 #[bF p.1,Q_ (bs x)] w λe w'=>e=bY (I_ (jO f.g_ x))/\w'=w:=by
 obtain⟨H,D,s,B⟩:=nH h.i_;obtain⟨y,z,m,q,o⟩:=h.row.slice;rw[m]at s;have l:Ty f.g_<=maxLen:=aD;unfold maxLen at l
 have v:∀i (n:i<Ty f.g_),∃g,y=Ua (aL g 0)/\dP w g (i*5) (Q_ (bs f.g_[i].1)):=λi n=>by obtain⟨g,r,c,b,⟨E,rfl, -⟩,d⟩:=h.row.cell n;rw[m]at b;cases b;exact⟨g,aJ,d 0 _ aJ⟩
 clear h q o m;go_in
 go_wp2
 go_loop [5] (λi=>∃k:Nat,k<=Ty f.g_/\i=I_ k/\∀j (d:j<Ty f.g_),j<k->f.g_[j].1≠x) (λi=>Ty f.g_-(intOf i).toNat)
 case atStart=>grind
 case round=>
  obtain⟨k,C,rfl,u⟩:=hrel;by_cases a:k<Ty f.g_
  .obtain⟨g,rfl,A⟩:=v k a;have b:(k:Int)<(Ty f.g_:Int):=aD;by_cases t:f.g_[k].1=x
   .go_wp2
    go_ret;refine⟨nV ?_,aJ⟩;rw[jO,(ki).2 ⟨a,by simpa using t,λj d=>by simpa using u j aD d⟩]
   have G:((bs f.g_[k].1).toList==(bs x).toList)=Uc:=by grind [aX]
   go_wp2_with fail;grind [intOf]
  have b:¬(k:Int)<(Ty f.g_:Int):=aD;go_wp2
  go_ret;refine⟨nV ?_,aJ⟩;grind [jO,List.getElem_of_mem]
end
section
variable {fs:List aC} {F G H:bN} {w w' w2:aN} {m:DM} {s:aM}
theorem DM.wg:m.rb∈m.rl:=by simp[DM.rl]
def cP.Ey(h:cP fs F w m s){rd l:Nat}{j:List Int}(a:∀k,k≠m.rb->k<H_ w->w'.heap[k]?=w.heap[k]?)(r:H_ w<=H_ w')
 (o:w'.heap[m.rb]?=Ua (cD #[m.fv,m.tv,I_ rd,m.ov,m.rv,m.mv,I_ l] 127)) (u:∀t:List Int,t.drop m.rd=s.tape->m.rd<=Ty t->rd<=Ty t/\t.drop rd=j):cP fs F w' { m with rd:=rd } { s with stop:=l,tape:=j }:=by
 have g:Kp F w F w':=⟨s_,λb c=>a b (λe=>h.nf _ DM.wg (e▸c)) (h.lt b c)⟩
 have C:=ey.1 h.nd;have i:∀v,(∀b,b∈ob v->b∈m.rl.tail)->(∀b,v.ownBlock=Ua b->b<H_ w)->∀b,v.ownBlock=Ua b->w'.heap[b]?=w.heap[b]?:=(by grind [ob,DM.rl])
 have A:∀p∈m.fs,∀b,(b=p.1\/p.2.ownBlock=Ua b)->b≠m.rb:=(by grind [ob])
 obtain⟨d,n⟩:=h.vh;obtain⟨t,x,D,y,B⟩:=h.tape
 exact⟨o,⟨d,n.kp g⟩,(by grind [mK.kp]),h.out.h_ (i _ (oa) h.out.lt) s_,h.uy.h_ (i _ (oa) h.uy.lt) s_,
  h.vo.h_ (i _ (oa) h.vo.lt) λ_ _ q=>q.kp g,h.fr.mono λp z f q=>q.kp g (a _ (G_) (aH q.i_)) λb e=>a b (G_) (q.row.lt b e),h.nd,h.nf,λb a=>ej (h.lt b a) r,h.ol⟩
def cP.vw(h:cP fs F w m s):m.rb<w.heap.size:=aH h.i_
def cP.below(h:cP fs F w m s)(d:∀b∈m.rl,b<w.heap.size)(c:R_ w w'):cP fs F w' m s:=
 h.kp ⟨s_,(by grind [eg,cP.lt])⟩ (ku) h.nf λb a=>ej (h.lt b a) c.size
theorem cP.xr(h:cP fs F w m s):∀b∈m.rl,b<w.heap.size:=by
 intro b c;simp only[DM.rl,ff,fo,jo,mG]at c;rcases c with rfl|c|c|c|⟨p,d,c⟩
 .exact h.vw
 .exact h.out.lt b c
 .exact h.uy.lt b c
 .exact h.vo.lt b c
 have:∀{l:List (Nat × Uf)} {k:List iW},Each (yK F w) l k->p∈l->∃f,yK F w p f:=by
  intro l;induction l with
  |nil=>simp
  |cons a l g=>
   intro k e d;cases k with
   |nil=>exact e.elim
   |cons f k=>
    grind [Each]
 obtain⟨f,q⟩:=this h.fr d;rcases c with rfl|c
 .exact aH q.i_
 exact q.row.lt b c
theorem cP.re(h:cP fs F w m s)(a:R_ w w'):cP fs F w' m s/\Px F w m F w' m:=⟨h.below h.xr a,.below a⟩
def cP.after{b:aN}{a:DM}(h:cP fs F w m s/\Px G b a F w m)(c:R_ w w'):cP fs F w' m s/\Px G b a F w' m:=(by grind [cP.re,Px.trans])
theorem Px.set{b:Nat}(a:b∈m.rl)(i:Nat)(v:aW):Px F w m F (Tz w (aL b i) v) m:=
 ⟨s_,G_,nj,G_,rfl,rfl,rfl,s_,rfl⟩
def cP.uf(h:cP fs F w m s)(n:Nat):cP fs F (Tz w (aL m.rb 6) (I_ n)) m { s with stop:=n }/\Px F w m F (Tz w (aL m.rb 6) (I_ n)) m:=
 ⟨h.Ey (nj) s_ (aP h.i_) G_,.set DM.wg _ _⟩
def Ec{n:Nat}(h:n=0\/s.stop≠0):s.or n=s:=by grind [aM.or]
def qA(h:cP fs F w m s){v:aW}{a:aE}{d:Nat}(k:RV d F w v a)(n:Nat):
 Ue Un 107 #[bF m.rb,v,I_ n] w λe w'=>e=bY v/\cP fs F w' m (s.or n)/\Px F w m F w' m:=by
 obtain⟨o,rfl,g⟩:=k;obtain⟨x,c,rfl⟩:=g.slice;obtain⟨-, -, -, -, -, -,p,f⟩:=iA h.i_;have i:=h.vw;have l:=f 6;have H:=aB h;clear h g f;go_in
 go_wp2_with fail
 .subst n;exact bodyPost_ret (v:=Us #[I_ a.c_,I_ a.n,Q_ (bs a.s),P_ x (Ty a.l) c]) ph rfl ⟨rfl,by rw[Ec (.inl rfl)];exact H.re ko⟩
 .rename_i b j;refine bodyPost_ret (v:=Us #[I_ a.c_,I_ a.n,Q_ (bs a.s),P_ x (Ty a.l) c]) ph rfl ⟨rfl,?_⟩
  rw[aM.or,ef ⟨b,G_⟩]
  exact cP.after (H.uf n) ko
 rename_i b j;exact bodyPost_ret (v:=Us #[I_ a.c_,I_ a.n,Q_ (bs a.s),P_ x (Ty a.l) c]) ph rfl ⟨rfl,by rw[Ec (G_)];exact H.re ko⟩
end
def xb(t e:Ui)(k bytes:Nat):Prop:=∃i z,prog.underlying t=Ua (.slice e)/\prog.info? e=Ua i/\i.zero=Ua z/\i.size=k/\i.bytes=bytes/\z.cells.size=k/\0<k
def xb.of{t:Ui}{z:aW}(h:prog.underlying t=Ua (.slice e))(c:(prog.info? e).map (λi=>(i.zero,i.size,i.bytes))=Ua (Ua z,D,v))(b:z.cells.size=D)(d:0<D):xb t e D v:=by grind [Option.map_eq_some_iff,xb]
section
variable {α:Type} {k bytes:Nat} {t e:Ui} {R:List Uf->α->Prop} {w:aN} {v xv:aW} {l ys:List α}
def Src(k:Nat)(R:List Uf->α->Prop)(w:aN)(xv:aW)(ys:List α):Prop:=
 ∃y c,xv=Uq y (Ty ys) c/\((ys=[]/\(y=none->c=0))\/∃ad news,y=Ua ad/\lA k R news ys/\(∀j u,news[j]?=Ua u->T_ w (ad.add j)=Ua u)/\∀u∈news,u.oneCell'=Ud)
def lA.tf{b:List Uf}(h:lA k R b l)(d:∀c a,R c a->∀u∈c,u.oneCell'=Ud):∀u∈b,u.oneCell'=Ud:=by
 intro u e;obtain⟨j,m,rfl⟩:=jx e;have n:=h.1;rcases jn k with rfl|g
 .exact aD
 have f:j/k<Ty l:=Nat.div_lt_of_lt_mul G_
 refine d _ _ (h.2 _ f) _ (jr (i:=j%k) ?_);grind [Nat.mod_lt,Nat.div_add_mod]
def Own.src(h:Own k e R w v l)(j:∀c a,R c a->∀u∈c,u.oneCell'=Ud):Src k R w v l:=by
 obtain⟨m,d,f⟩:=h;rcases d.2 with ⟨rfl,o⟩|⟨g,b,i,rfl,n,q,p⟩
 .grind [Src]
 exact⟨_,b,aJ,.inr ⟨_,m,aJ,f,d.cells aJ,f.tf j⟩⟩
def Src.one{b c:Nat}{d:Array Uf}{a:α}(g:w.heap[b]?=Ua (Uy d e))(i:d.size=k)(h:R d.toList a)(f:∀u∈d.toList,u.oneCell'=Ud):Src k R w (Uq (Ua (aL b 0)) 1 c) [a]:=
 ⟨_,c,rfl,.inr ⟨_,d.toList,rfl,(by grind [lA.one]),World.news_of_block g,f⟩⟩
def NN{ty:Ui}(j:xb t e k bytes){n:Nat}{l:List Uf}(h:w.ownsRow 0 e k v n l)(y:Option Addr)(c:Nat)(o:y=none->c=0):(Builtin.append_ #[t,t] ty #[v,P_ y 0 c]).run Un w=.ok v w:=by
 obtain⟨i,z,b,d, -, -, -, -, -⟩:=j;cases y with
 |none=>grind [run_append_owned_none]
 |some p=>
  rcases h.2 with ⟨rfl,rfl⟩|⟨g,m,f,rfl,_,_,a,_⟩
  .simp[Builtin.append_,run_underlying b,sizeOf,typeInfo,d,Builtin.lenOf,Builtin.firstCells,loadCells,loadCellsFrom,Result.andThen]
  simp[Builtin.append_,run_underlying b,sizeOf,typeInfo,d,Builtin.lenOf,Builtin.firstCells,a,storeCells,loadCells,loadCellsFrom,Result.andThen]
variable {o:Oper} {a:Act} {K:Act->World->Prop} {Q:Exit->Act->World->Prop} {s x:Operand} {ops:Array Oper} {rest:List Oper} {E:Prop}
def TI{Z_:Prop}(Y_:Z_:=by unfold Oper.wp;simp[execOp,ho,resolve,invoke,builtin,hs,hx,hrun];exact hK v w (by grind [Own]) ⟨rfl,rfl,rfl,aD,s_⟩ (.inl rfl)):Z_:=Y_
def Ee(B:xb t e k bytes)(ho:o.op=.call { callee:=.builtin .append,args:= #[s,x],argTypes:= #[t,t] })(hs:a.eval s=v)(h:Own k e R w v l)(hx:a.eval x=xv)(I:Src k R w xv ys)(D:(Ty l+Ty ys)*bytes<=140737488355328)(N:Ty l+Ty ys<=maxLen)
 (hK:∀n w',Own k e R w' n (l++ys)->w.grownBy w' v.ownBlock->(n.ownBlock=v.ownBlock\/n.ownBlock=Ua (H_ w))->K (a.put o.dst n) w'):o.wp Un a w K Q:=by
 obtain⟨J,q,P⟩:=h;obtain⟨y,c,rfl,⟨rfl,M⟩|⟨u,j,rfl,L,E,G⟩⟩:=I
 .have hrun:=NN (ty:=o.type) B q y c M;exact TI
 obtain⟨i,z,r,C,A,b,f,m,d⟩:=B;rcases jn (Ty ys) with p|p
 .have e0 :=kf.1 p;subst e0;have hrun:=NN (ty:=o.type) ⟨i,z,r,C,A,b,f,m,d⟩ q (Ua u) c (s_)
  exact TI
 refine wp_append_lies w s x t ho 0 e i z k bytes r C A b f m d v (Ty l) J hs q u (Ty ys) c j hx L.1 E G p N D (aD) _ rfl ?_;intro g F w' S O H _;exact hK _ _ (by grind [lA.append,Own]) O (H.imp (λe=>e.symm) λe=>fg Ua e)
def rM(c:o.guard=none)(g:xb t e k bytes)(f:o.op=.call { callee:=.builtin .append,args:= #[s,x],argTypes:= #[t,t] })(n:a.eval s=v)(h:Own k e R w v l)(p:a.eval x=xv)(i:Src k R w xv ys)(m:(Ty l+Ty ys)*bytes<=140737488355328)(d:Ty l+Ty ys<=maxLen)
 (j:∀b w',Own k e R w' b (l++ys)->w.grownBy w' v.ownBlock->(b.ownBlock=v.ownBlock\/b.ownBlock=Ua w.heap.size)->K (a.put o.dst b) w'):if Region.wanted o (yielded ops a.tmps)=Ud then Oper.wp Un o a w K Q else E:=by
 rw[ef (by simp[Region.wanted,c])]
 exact Ee g f n h p i m d j
def nN(c:o.guard=none)(g:xb t e k bytes)(f:o.op=.call { callee:=.builtin .append,args:= #[s,x],argTypes:= #[t,t] })(m:a.eval s=v)(h:Own k e R w v l)(n:a.eval x=xv)(i:Src k R w xv ys)(j:(Ty l+Ty ys)*bytes<=140737488355328)(d:Ty l+Ty ys<=maxLen)
 (q:∀b w',Own k e R w' b (l++ys)->w.grownBy w' v.ownBlock->(b.ownBlock=v.ownBlock\/b.ownBlock=Ua w.heap.size)->wpList Un ops Q rest (a.put o.dst b) w'):wpList Un ops Q (o::rest) a w:=
 wpList_plain c λ_ p=>Ee g f m h n i j d G_
def Own.Ea{w':aN}{g d i:Nat}{b:α}(h:Own k e R w (P_ (Ua (aL g 0)) (Ty l) d) l)(I:i<Ty l)
 (s:∀c,w.heap[g]?=Ua (cD c e)->∃a,w'.heap[g]?=Ua (cD a e)/\a.size=c.size/\(∀j,j<i*k\/i*k+k<=j->a[j]?=c[j]?)/\((i*k+k<=c.size)->R ((a.toList.drop (i*k)).take k) b)):Own k e R w' (P_ (Ua (aL g 0)) (Ty l) d) (l.set i b):=by
 obtain⟨u,⟨z,r⟩,n⟩:=h;rcases r with ⟨v, -⟩|⟨E,o,c,y, -,q,H,A,C,J⟩
 .cases v
 cases y;obtain⟨a,B,K,D,G⟩:=s c q;refine⟨a.toList.take (Ty l*k),⟨G_,G_⟩,G_,λj m=>?_⟩
 rw[List.length_set]at m;have t:=n.fit m
 have x:((a.toList.take (Ty l*k)).drop (j*k)).take k=(a.toList.drop (j*k)).take k:=by grind [List.drop_take]
 rw[x,List.getElem_set];split
 .grind
 have:=n.2 j m
 have F:(a.toList.drop (j*k)).take k=(u.drop (j*k)).take k:=by
  refine jl λp=>?_
  rw[jm,jm];split
  .have:j*k+p<i*k\/i*k+k<=j*k+p:=by
    rcases gz j i with f|f
    .have:=ic k f;grind
    have:=ic k (show i+1<=j by omega);grind
   grind
  rfl
 grind
end
def Dy:xb 71 135 2 32:=.of underlying71 (z:=Us #[Q_ (bs []),Q_ (bs [])]) k_ rfl d_
def WO{x:bP × bP}:∀(B A:List (bP × bP)),(∀y∈B,fE x.1 y.1=Ud)->(∀y,A.head?=Ua y->fE x.1 y.1=Uc)->yI x (B++A)=B++x::A
 |[],[],_,_=>rfl
 |[],y::A,_,h=>by simp[yI,h y rfl]
 |y::B,A,a,b=>by simp[yI,a y s_,WO B A (G_) b]
def ZZ(l:List (bP × aE))(b:bP × aE):lL (l++[b])=(yI (b.1,cM b.2) (lL l).reverse).reverse:=by simp[lL]
theorem WP(x:bP × bP):∀l,Ty (yI x l)=Ty l+1
 |[]=>rfl
 |y::l=>by unfold yI;split<;>simp[WP x l]
def NC(l:List (bP × aE)):Ty (lL l)=Ty l:=by
 unfold lL
 have:∀(l:List (bP × aE)) r,Ty (l.foldl (λr b=>yI (b.1,cM b.2) r) r)=Ty r+Ty l:=by
  intro l;induction l with
  |nil=>simp
  |cons a l c=>grind [WP]
 grind
structure Way(x:bP × bP)(uz A B:List (bP × bP)):Prop where
 eq:A++B=uz
 gt:∀y∈B,fE x.1 y.1=Ud
def Way.done{x:bP × bP}{a A B:List (bP × bP)}(h:Way x a A B)(b:∀y,A.getLast?=Ua y->fE x.1 y.1=Uc):A++x::B=(yI x a.reverse).reverse:=by
 rw[<-h.eq,List.reverse_append,WO _ _ (by simpa using h.gt) G_]
 simp
theorem nI(h:Below D x w)(n:Nat):Below D x (w.drewN n):=h.trans ⟨rfl,rfl,rfl,s_,s_⟩
def Own.dN{R:List Uf->f->Prop}{l:List f}(h:Own D e R w y l)(n:Nat):Own D e R (w.drewN n) y l:=h.h_ (s_) s_
def Own.zs{b:Type}{R:List Uf->b->Prop}{n i:Nat}{l:List b}(h:Own D e R w (P_ (Ua (aL v 0)) n a) l)(d:i<Ty l):∃c,R c l[i]/\∀j u,c[j]?=Ua u->dP w v (i*D+j) u:=by grind [Own.cell]
def Own.xk{b:Type}{R:List Uf->b->Prop}{n:Nat}{l:List b}(h:Own D e R w (P_ (Ua (aL v 0)) n a) l)(i:Nat):w.frozen? (aL v i)=Uc:=by obtain⟨d,⟨-,c⟩, -⟩:=h;grind [aF]
def Own.Cd{R:List Uf->f->Prop}{i:Nat}{l:List f}{b:f}(h:Own 2 e R w (P_ (Ua (aL D 0)) v a) l)(j:i<Ty l)(u0 u1:aW)(o:R [u0,u1] b):Own 2 e R (Tz (Tz w (aL D (i*2)) u0) (aL D (i*2+1)) u1) (P_ (Ua (aL D 0)) v a) (l.set i b):=by
 obtain⟨x,c,e, -⟩:=h.slice;cases e;refine h.Ea j λd k=>⟨_,aP (aP k),s_,G_,λm=>?_⟩
 have:(((d.setIfInBounds (i*2) u0).setIfInBounds (i*2+1) u1).toList.drop (i*2)).take 2=[u0,u1]:=by
  apply jl
  grind
 grind
def UI{lv:aW}{l:List (bP × aE)}(h:Own 5 164 (xN F w) w lv l)(hF:∀b,F b->b<H_ w)(hl:Ty l<=1000000):
 Ue Un 111 #[lv] w λe w'=>∃v,e=bY v/\Own 2 135 vN w' v (lL l)/\(∀b,v.ownBlock=Ua b->H_ w<=b)/\R_ w w':=by
 obtain⟨y,cc,rfl,h1,h2⟩:=h.slice;unfold maxLen at h2;have H:=aB h;have HF:=aB hF;go_in
 go_wp2
 go_loopg [3,4] (Ty l) (λgk ov iv wr=>∃k:Nat,k+gk=Ty l/\iv=I_ k/\Own 2 135 vN wr ov (lL (l.take k))/\(∀b,ov.ownBlock=Ua b->H_ w<=b)/\R_ w wr)
 case atStart=>exact⟨0,aD,rfl,Own.nil,λb e=>(by cases e),dz _ _⟩
 case round=>
  obtain⟨k,hk,rfl,ho,V,W⟩:=hrel;have n:=aB (dy ho (dy V W));by_cases L:k<Ty l
  .obtain⟨g,ac,c,e1,⟨S,rfl,⟨d,hd⟩,T,ad⟩,J⟩:=H.cell L;cases e1;have K:=H.lt g aJ;have E:=n.2.2.block g K;have c0 :=(World.cell?_of_block E).trans (J 0 _ aJ);have c1 :=(World.cell?_of_block E).trans (J 1 _ aJ);have c2 :=(World.cell?_of_block E).trans (J 2 _ aJ);have c3 :=(World.cell?_of_block E).trans (J 3 _ aJ);have c4 :=(World.cell?_of_block E).trans (J 4 _ aJ);have e2:(k:Int)<(Ty l:Int):=aD;have HW:=aB (AO d F (Us #[I_ l[k].2.c_,I_ l[k].2.n,Q_ (bs l[k].2.s),S]) l[k].2 wr ⟨S,aJ,hd.h_ λb q=>n.2.2.block b (HF b q)⟩ (λb q=>ej (HF b q) n.2.2.size) aD T.fit)
   obtain⟨z,cz,hz⟩:=hd.slice;subst hz;go_wp2_with fail;refine rf HW λw1 u=>?_
   have X:Own 2 135 vN (eH w1 #[Q_ (bs l[k].1),Q_ (bs (cM l[k].2))] 135) u3 (lL (l.take k)):=n.1.h_ (λb q=>(eh _ _ _ (ej (n.1.lt b q) u.size)).trans (u.block b (n.1.lt b q))) s_
   have hbw1 :=n.2.2.trans (u.mono n.2.2.size);have d0:dP w1 g (k*5) (Q_ (bs l[k].1)):=(World.cell?_of_block (u.block g (ej K n.2.2.size))).trans c0;have C:=aB (dy X (dy n.2.1 hbw1));have I:Ty (lL (l.take k))<=1000000:=by rw[NC,hH];exact aD
   go_wp2_with (at_builtin;refine nN r_ Dy r_ r_ C.1 r_ (Src.one (bM w1 _ rfl) rfl (show vN _ (l[k].1,cM l[k].2)from rfl) lb) kj kz ?_;intro v' w2 s aa D;obtain⟨o,vc, -,rfl, -, -⟩:=s.cell (i:=(lL (l.take k)).length) s_;rw[ew,hJ]at s)
   have Q:H_ w<=o:=by
    rcases D with e|e
    .exact C.2.1 o e.symm
    cases e;exact eo C.2.2.size s_
   have hb2 :=(C.2.2.alloc C.2.2.size _).trans ⟨‹World.grownBy _ _ _›.os,‹World.grownBy _ _ _›.tape,‹World.grownBy _ _ _›.output,‹World.grownBy _ _ _›.size,λb E=>‹World.grownBy _ _ _›.block b (by have:=C.2.2.size;simp;exact aD) λe=>by have:=C.2.1 b e.symm;exact aD⟩
   have Y:=aB (dy s hb2);have HT:=aB (dy (ZZ (l.take k) l[k]) (g9 L));obtain⟨x,hx⟩:∃x:bP × bP,x=(l[k].1,cM l[k].2):=(by simp)
   obtain⟨j,r⟩:∃j,j=lL (l.take k):=(by simp)
   rw[<-hx,<-r]at Y HT;rw[<-r]at I ⊢
   clear s hb2 D aa C c0 d0 r hx;go_loopg [6] (Ty j) (λgj S p=>∃A B,Ty A=gj/\S=I_ (Ty A)/\Way x j A B/\Own 2 135 vN p (P_ (Ua (aL o 0)) (Ty j+1) vc) (A++x::B)/\R_ w p)
   case atStart=>exact⟨j,[],aJ,aJ,⟨s_,s_⟩,Y.1,Y.2⟩
   case round=>
    obtain⟨A,B,rfl,rfl,hW,hO,hB⟩:=hrel;have f:=aB (dy hW (dy hO hB));have U:Ty A<=Ty j:=by rw[<-hW.eq];simp
    have M:(∀y,A.getLast?=Ua y->fE x.1 y.1=Uc)->A++x::B=lL (l.take (k+1)):=λq=>by rw[HT.2,HT.1];exact hW.done q
    have HE:=aB M;rcases gB A with rfl|⟨a,y,rfl⟩
    .go_wp2_with fail;go_quiet (fail)
     go_wp2
     go_roundg (gk-1)
     case measure=>exact aD
     case rel=>exact⟨k+1,aD,la,by rw[<-HE s_];exact f.2.1.dN _,λb e=>by cases e;exact Q,nI f.2.2 _⟩
    have ab:Ty a+1<=Ty j:=by simpa using U
    obtain⟨cx,rfl,N⟩:=f.2.1.zs (i:=Ty a+1) s_
    obtain⟨cy,rfl,P⟩:=f.2.1.zs (i:=a.length) s_
    have x0:dP wr o ((Ty a+1)*2) (Q_ (bs x.1)):=by simpa using N 0 _ rfl
    have x1:dP wr o ((Ty a+1)*2+1) (Q_ (bs x.2)):=by simpa using N 1 _ rfl
    have y0:dP wr o (Ty a*2) (Q_ (bs y.1)):=by simpa using P 0 _ rfl
    have y1:dP wr o (Ty a*2+1) (Q_ (bs y.2)):=by simpa using P 1 _ rfl
    have O:Op.bytesLess (bs x.1).toList (bs y.1).toList=fE x.1 y.1:=by rw[aX,aX,pV]
    rw[jc,ew,hJ];cases t:fE x.1 y.1
    .rw[t]at O;go_wp2_with fail;go_quiet (fail)
     go_wp2
     go_roundg (gk-1)
     case measure=>exact aD
     case rel=>exact⟨k+1,aD,la,by rw[<-HE (by simpa using t)];exact f.2.1.dN _,λb e=>by cases e;exact Q,nI f.2.2 _⟩
    rw[t]at O;go_wp2_with fail;go_quiet (fail)
    obtain⟨p,G⟩:∃p,Hid (p=wr.drewN nq):=⟨_,rfl⟩;rw[<-G];have m:Hid (Own 2 135 vN p (P_ (Ua (aL o 0)) (Ty j+1) vc) (a.concat y++x::B)/\R_ w p):=by rw[G];exact⟨f.2.1.dN _,nI f.2.2 _⟩
    have x0:dP p o ((Ty a+1)*2) (Q_ (bs x.1)):=by rw[G];exact x0
    have x1:dP p o ((Ty a+1)*2+1) (Q_ (bs x.2)):=by rw[G];exact x1
    have y0:dP p o (Ty a*2) (Q_ (bs y.1)):=by rw[G];exact y0
    have y1:dP p o (Ty a*2+1) (Q_ (bs y.2)):=by rw[G];exact y1
    have Z:=m.1.lt o aJ;have f0:=m.1.xk ((Ty a+1)*2);have f1:=m.1.xk ((Ty a+1)*2+1);have f2:=m.1.xk (Ty a*2);have f3:=m.1.xk (Ty a*2+1);go_wp2
    go_roundg (Ty a)
    case measure=>simp
    case rel=>
     have q:=(m.1.Cd (i:=Ty a+1) (b:=y) s_ _ _ rfl).Cd (i:=a.length) (b:=x) s_ _ _ rfl
     rw[show ((a.concat y++x::B).set (Ty a+1) y).set (Ty a) x=a++x::y::B by simp]at q
     exact⟨a,y::B,aJ,aJ,⟨by rw[<-f.1.eq];simp,by simpa [t]using f.1.gt⟩,q.h_ (λb e=>by cases e;exact eh _ _ _ (by simpa [World.setCell]using Z)) s_,by have:=m.2;have:=this.size;go_grown⟩
  obtain rfl:k=Ty l:=aD;rw[iz]at n;obtain⟨vx,vc,rfl, -⟩:=n.1.slice;go_wp2
  go_ret;exact⟨_,aJ,n⟩
def Ds:xb 70 133 2 24:=.of underlying70 (z:=Us #[Ur (bs []),I_ 0]) k_ rfl d_
def M4:xb 76 164 5 72:=.of underlying76 (z:=Us #[Ur (bs []),I_ 0,I_ 0,Ur (bs []),bO]) k_ rfl d_
def M3:xb 54 9 1 16:=.of underlying54 (z:=Ur (bs [])) k_ rfl d_
def Mr:xb 26 78 6 112:=.of underlying26 (z:=Us #[I_ 0,bO,bO,bO,I_ 0,bO]) k_ rfl d_
def Kw:xb 125 160 1 8:=.of underlying125 (z:=Ut none) k_ rfl d_
section
variable {α:Type} {k:Nat} {e:Ui} {R:List Uf->α->Prop} {w w':aN} {v:aW} {l:List α}
theorem Own.ty(h:Own k e R w v l){b:Nat}(c:v.ownBlock=Ua b):∃a,w.heap[b]?=Ua (cD a e):=by
 obtain⟨j,⟨-,d⟩, -⟩:=h;rcases d with ⟨rfl, -⟩|⟨g,f,a,rfl, -,i, -⟩
 .cases c
 cases c;grind
def Own.Ac(h:Own k e R w v l){a:Option Nat}(g:w.grownBy w' a)(f:∀b,a=Ua b->∃c d,w.heap[b]?=Ua (Uy c d (0,0))/\d≠e):Own k e R w' v l:=
 h.h_ ((by grind [World.grownBy.block,Own.ty])) s_
end
def gI{R:List Uf->f->Prop}{l:List f}(h:Own D e R w y l):∃x n c,y=Uq x n c:=by grind [Own.slice]
structure kC(F:bN)(w:aN)(t st:Nat)(wr:aN)(sv vv ov bv:aW)(l1:List (bP × Nat))(l2:List (bP × bP))(l3:cY)(l4:List (bP × aE)):Prop where
 re:R_ w wr
 i_:wr.heap[w.heap.size]?=Ua (Uy #[I_ t,sv,vv,ov,I_ st,bv] 78)
 r1:Own 2 133 W8 wr sv l1
 r2:Own 2 135 vN wr vv l2
 r3:Own 1 9 AZ wr ov l3
 r4:Own 5 164 (xN F w) wr bv l4
 new:∀b,sv.ownBlock=Ua b\/vv.ownBlock=Ua b\/ov.ownBlock=Ua b\/bv.ownBlock=Ua b->w.heap.size<=b
section
variable {F:bN} {w wr w2:aN} {t st:Nat} {sv vv ov bv sv0 vv0 ov0 bv0 u:aW} {l1:List (bP × Nat)} {l2:List (bP × bP)} {l3:cY} {l4:List (bP × aE)}
def kC.al(h:kC F w t st wr sv vv ov bv l1 l2 l3 l4)(a:R_ wr w2):kC F w t st w2 sv vv ov bv l1 l2 l3 l4:=
 ⟨h.re.trans (a.mono h.re.size),(by grind [eg,kC.i_]),h.r1.h_ (λb q=>a.block b (h.r1.lt b q)) s_,h.r2.h_ (λb q=>a.block b (h.r2.lt b q)) s_,h.r3.h_ (λb q=>a.block b (h.r3.lt b q)) s_,h.r4.h_ (λb q=>a.block b (h.r4.lt b q)) s_,h.new⟩
def kC.set(f:R_ w wr)(a:wr.heap[H_ w]?=Ua (cD #[I_ t,sv0,vv0,ov0,I_ st,bv0] 78))(m:Own 2 133 W8 wr sv l1)(p:Own 2 135 vN wr vv l2)(j:Own 1 9 AZ wr ov l3)(n:Own 5 164 (xN F w) wr bv l4)
 (c:∀b,sv.ownBlock=Ua b\/vv.ownBlock=Ua b\/ov.ownBlock=Ua b\/bv.ownBlock=Ua b->H_ w<=b) {i:Nat} (g:(#[I_ t,sv0,vv0,ov0,I_ st,bv0]:Array Uf).setIfInBounds i u= #[I_ t,sv,vv,ov,I_ st,bv]):kC F w t st (Tz wr (aL (H_ w) i) u) sv vv ov bv l1 l2 l3 l4:=by
 have o:∀{d:Type} {k:Nat} {e:Ui} {R:List Uf->d->Prop} {v:aW} {l:List d},e≠78->Own k e R wr v l->Own k e R (Tz wr (aL (H_ w) i) u) v l:=λq h=>h.h_ ((by grind [em,Own.ty])) s_
 exact⟨(by grind [Below.setCell]),by rw[aP a,g],G_,G_,G_,G_,c⟩
def kC.gb(h:kC F w t st wr sv vv ov bv l1 l2 l3 l4){a:Option Nat}(d:wr.grownBy w2 a)(g:a=sv.ownBlock\/a=ov.ownBlock\/a=bv.ownBlock):R_ w w2/\w2.heap[H_ w]?=wr.heap[H_ w]?:=by
 have j:∀b,a=Ua b->H_ w<=b/\b≠H_ w:=λb e=>by
  refine⟨h.new b G_,λq=>?_⟩
  have i:=h.i_;rcases g with q|q|q<;>rw[q]at e
  .obtain⟨c,f⟩:=h.r1.ty e;grind
  .obtain⟨c,f⟩:=h.r3.ty e;grind
  obtain⟨c,f⟩:=h.r4.ty e;grind
 have:=h.re.size;exact⟨h.re.trans ⟨d.os,d.tape,d.output,d.size,mz⟩,d.block _ (aH h.i_) G_⟩
def GL{Z_:Prop}(Y_:Z_:=by
 rcases hat with e|e
 .exact h.new b (G_)
 rw[e]at hb;cases hb;exact h.re.size):Z_:=Y_
def kC.Bt(h:kC F w t st wr sv vv ov bv l1 l2 l3 l4)(d:wr.grownBy w2 sv.ownBlock){a:List (bP × Nat)}(k:Own 2 133 W8 w2 u a)(hat:u.ownBlock=sv.ownBlock\/u.ownBlock=Ua (H_ wr)):kC F w t st (Tz w2 (aL (H_ w) 1) u) u vv ov bv a l2 l3 l4:=by
 obtain⟨j,l⟩:=h.gb d (.inl rfl);have g:∀{e:Ui},133≠e->∀b,sv.ownBlock=Ua b->∃f i,wr.heap[b]?=Ua (Uy f i (0,0))/\i≠e:=λm b hb=>by obtain⟨c,n⟩:=h.r1.ty hb;grind
 refine .set j (l.trans h.i_) k (h.r2.Ac d (g d_)) (h.r3.Ac d (g d_)) (h.r4.Ac d (g d_)) (λb hb=>?_) rfl
 rcases hb with hb|hb
 .exact GL
 exact h.new b (.inr hb)
def kC.B_(h:kC F w t st wr sv vv ov bv l1 l2 l3 l4)(d:wr.grownBy w2 ov.ownBlock){a:cY}(k:Own 1 9 AZ w2 u a)(hat:u.ownBlock=ov.ownBlock\/u.ownBlock=Ua (H_ wr)):kC F w t st (Tz w2 (aL (H_ w) 3) u) sv vv u bv l1 l2 a l4:=by
 obtain⟨j,l⟩:=h.gb d (s_)
 have g:∀{e:Ui},9≠e->∀b,ov.ownBlock=Ua b->∃f i,wr.heap[b]?=Ua (Uy f i (0,0))/\i≠e:=λm b hb=>by obtain⟨c,n⟩:=h.r3.ty hb;grind
 refine .set j (l.trans h.i_) (h.r1.Ac d (g d_)) (h.r2.Ac d (g d_)) k (h.r4.Ac d (g d_)) (λb hb=>?_) rfl
 rcases hb with hb|hb|hb|hb
 .exact h.new b (.inl hb)
 .exact h.new b (G_)
 .exact GL
 exact h.new b (G_)
def kC.Cf(h:kC F w t st wr sv vv ov bv l1 l2 l3 l4)(d:wr.grownBy w2 bv.ownBlock){a:List (bP × aE)}(k:Own 5 164 (xN F w) w2 u a)(hat:u.ownBlock=bv.ownBlock\/u.ownBlock=Ua (H_ wr)):kC F w t st (Tz w2 (aL (H_ w) 5) u) sv vv ov u l1 l2 l3 a:=by
 obtain⟨j,l⟩:=h.gb d (s_)
 have g:∀{e:Ui},164≠e->∀b,bv.ownBlock=Ua b->∃f i,wr.heap[b]?=Ua (Uy f i (0,0))/\i≠e:=λm b hb=>by obtain⟨c,n⟩:=h.r4.ty hb;grind
 refine .set j (l.trans h.i_) (h.r1.Ac d (g d_)) (h.r2.Ac d (g d_)) (h.r3.Ac d (g d_)) k (λb hb=>?_) rfl
 rcases hb with hb|hb|hb|hb
 .exact h.new b (.inl hb)
 .exact h.new b (G_)
 .exact h.new b (G_)
 exact GL
def Qs(h:kC F w t st wr sv vv ov bv l1 l2 l3 l4)(c:wr.grownBy w2 sv.ownBlock){a:List (bP × Nat)}(d:Own 2 133 W8 w2 u a)(b:u.ownBlock=sv.ownBlock\/u.ownBlock=Ua (H_ wr)):Hid (kC F w t st (Tz w2 (aL (H_ w) 1) u) u vv ov bv a l2 l3 l4)/\T_ w2 (aL (H_ w) 1)=Ua sv/\w2.frozen? (aL (H_ w) 1)=Uc:=
 have q:=(h.gb c (.inl aJ)).2.trans h.i_
 ⟨h.Bt c d b,aA q rfl,aF q⟩
def Mt(h:kC F w t st wr sv vv ov bv l1 l2 l3 l4)(c:wr.grownBy w2 bv.ownBlock){a:List (bP × aE)}(d:Own 5 164 (xN F w) w2 u a)(b:u.ownBlock=bv.ownBlock\/u.ownBlock=Ua (H_ wr)):Hid (kC F w t st (Tz w2 (aL (H_ w) 5) u) sv vv ov u l1 l2 l3 a)/\T_ w2 (aL (H_ w) 5)=Ua bv/\w2.frozen? (aL (H_ w) 5)=Uc:=
 have q:=(h.gb c (s_)).2.trans h.i_
 ⟨h.Cf c d b,aA q rfl,aF q⟩
def Qi(h:kC F w t st wr sv vv ov bv l1 l2 l3 l4)(c:wr.grownBy w2 ov.ownBlock){a:cY}(d:Own 1 9 AZ w2 u a)(b:u.ownBlock=ov.ownBlock\/u.ownBlock=Ua (H_ wr)):Hid (kC F w t st (Tz w2 (aL (H_ w) 3) u) sv vv u bv l1 l2 a l4)/\T_ w2 (aL (H_ w) 3)=Ua ov/\w2.frozen? (aL (H_ w) 3)=Uc:=
 have q:=(h.gb c (s_)).2.trans h.i_
 ⟨h.B_ c d b,aA q rfl,aF q⟩
def xN.one(c:List Uf)(a:bP × aE)(h:xN F w c a):∀v∈c,v.oneCell'=Ud:=by grind [LV.slice,Value.oneCell',xN]
def kC.Da(h:kC F w t st wr sv vv ov bv l1 l2 l3 l4)(a:R_ wr w2){c:List (bP × bP)}(e:Own 2 135 vN w2 u c)(d:∀b,u.ownBlock=Ua b->H_ wr<=b):kC F w t st (Tz w2 (aL (H_ w) 2) u) sv u ov bv l1 c l3 l4:=by
 have q:=h.al a;refine .set q.re q.i_ q.r1 e q.r3 q.r4 (λb a=>?_) aJ
 rcases a with a|a|a
 .exact h.new b (.inl a)
 .exact eo h.re.size (d b a)
 exact h.new b (G_)
end
section
variable {fs:List aC} {F G:bN} {w w2:aN} {m:DM} {s:aM} {u:aW}
def JG{a:List Nat}{x y:List Nat}{b:List Nat}(h:(a++(x++b)).Nodup)(c:y.Nodup)(d:∀k∈y,k∉a/\k∉b):(a++(y++b)).Nodup:=by grind
def cP.swap(h:cP fs F w m s){A B:List Nat}{row u:aW}(e:m.rl=A++(ob row++B))(k:m.rb∈A)(a:w.grownBy w2 row.ownBlock)(g:u.ownBlock=row.ownBlock\/u.ownBlock=Ua (H_ w))(i:Nat):
 (A++(ob u++B)).Nodup/\(∀b∈A++(ob u++B),¬F b/\(b∈m.rl\/H_ w<=b))/\(∀b,b∈A\/b∈B->b≠m.rb->(Tz w2 (aL m.rb i) u).heap[b]?=w.heap[b]?)/\(∀b,u.ownBlock=Ua b->(Tz w2 (aL m.rb i) u).heap[b]?=w2.heap[b]?)/\(∀b,b<H_ w->b∉m.rl->(Tz w2 (aL m.rb i) u).heap[b]?=w.heap[b]?)/\Kx F w F (Tz w2 (aL m.rb i) u)/\w2.heap[m.rb]?=w.heap[m.rb]?:=by
 have d:=h.nd;rw[e]at d
 have l:∀b,b∈A\/b∈B\/row.ownBlock=Ua b->b∈m.rl/\b<H_ w:=λb q=>by
  have:b∈m.rl:=by grind [ob]
  exact⟨this,h.xr b this⟩
 have f:∀b,row.ownBlock=Ua b->b∉A/\b∉B:=(by grind [ob])
 have c:∀b,u.ownBlock=Ua b->b∉A/\b∉B/\¬F b/\(b∈m.rl\/H_ w<=b):=λb q=>by
  have:row.ownBlock=Ua b\/b=H_ w:=(by grind)
  rcases this with q|rfl
  .grind [cP.nf]
  exact⟨G_,G_,λx=>by have:=h.lt _ x;exact aD,aD⟩
 have j:∀b,b<H_ w->b≠m.rb->row.ownBlock≠Ua b->(Tz w2 (aL m.rb i) u).heap[b]?=w.heap[b]?:=(by grind [em,World.grownBy.block])
 refine⟨JG d nu nu,λb q=>?_,G_,nj,G_,⟨⟨s_,(by grind [cP.lt,cP.nf])⟩,a.os,a.tape,a.output,by simpa [World.setCell]using a.size⟩,mz⟩
 rcases fo.1 q with q|q
 .grind [cP.nf]
 rcases fo.1 q with q|q
 .grind [ob]
 grind [cP.nf]
def cP.rm(h:cP fs F w m s)(y:w.grownBy w2 m.mv.ownBlock){d:gC}(C:Own 6 78 (yt F w) w2 u (s.rm.zipIdx++[(d,Ty s.rm)]))(c:u.ownBlock=m.mv.ownBlock\/u.ownBlock=Ua (H_ w)):
 cP fs F (Tz w2 (aL m.rb 5) u) { m with mv:=u } { s with rm:=s.rm++[d] }/\Px F w m F (Tz w2 (aL m.rb 5) u) { m with mv:=u }/\w2.heap[m.rb]?=w.heap[m.rb]?:=by
 obtain⟨E,G,t,z,n,a,j⟩:=h.swap (A:=m.rb::(ob m.ov++ob m.rv)) (row:=m.mv) (u:=u) (B:=m.fs.flatMap λp=>p.1::ob p.2) (by simp[DM.rl]) s_ y c 5
 have l:({ m with mv:=u }:DM).rl=m.rb::(ob m.ov++ob m.rv)++(ob u++m.fs.flatMap λp=>p.1::ob p.2):=by simp[DM.rl]
 have g:∀v,(∀b∈ob v,b∈ob m.ov++ob m.rv)->∀b,v.ownBlock=Ua b->(Tz w2 (aL m.rb 5) u).heap[b]?=w.heap[b]?:=(by grind [ob])
 have h3 :=λp i b x=>by
  have:b∈m.fs.flatMap (λp=>p.1::ob p.2):=jo.2 ⟨p,i,by simpa [mG]using x⟩
  exact t b (.inr this) G_
 obtain⟨e,k⟩:=h.vh;obtain⟨D,r,o⟩:=h.tape;refine⟨⟨by rw[aP (j.trans h.i_)];rfl,⟨e,k.kp a.kp⟩,⟨D,r.kp a.kp,o⟩,h.out.h_ (g _ G_) s_,h.uy.h_ (g _ G_) s_,?_,h.fr.mono λp i f q=>q.kp a.kp (G_) G_,l▸E,G_,(by grind [Nat.lt_of_lt_of_le,cP.lt,Kx.size]),h.ol⟩,⟨s_,G_,n,G_,a.os,a.tape,a.output,a.size,rfl⟩,j⟩
 rw[show (s.rm++[d]).zipIdx=s.rm.zipIdx++[(d,Ty s.rm)] by grind]
 exact C.h_ z λ_ _ q=>q.kp a.kp
end
def cP.Bx{a:aN}{m:DM}(e:cP R F x m s)(j:R_ x w)(k:w.grownBy a m.mv.ownBlock){d:gC}(o:Own 6 78 (yt F x) a y (s.rm.zipIdx++[(d,Ty s.rm)]))(c:y.ownBlock=m.mv.ownBlock\/y.ownBlock=Ua (H_ w)):
 Hid (cP R F (Tz a (aL m.rb 5) y) { m with mv:=y } { s with rm:=s.rm++[d] }/\Px F x m F (Tz a (aL m.rb 5) y) { m with mv:=y })/\T_ a (aL m.rb 5)=Ua m.mv/\a.frozen? (aL m.rb 5)=Uc:=by
 obtain⟨h,i⟩:=e.re j;obtain⟨l,p,n⟩:=h.rm k (o.h_ (s_) λ_ _ q=>q.kp (i.kp e)) c
 have f:=n.trans h.i_;exact⟨⟨l,i.trans p⟩,aA f aJ,aF f⟩
def kC.frozen{m:DM}{a d e:aW}(h:kC F w (Ty s.rm) s.stop x y a d e (s.f_.map λf=>(f.name,f.l_)) (lL s.g_) ([]++s.out) s.g_)(H:cP R F w m s):
 cP R (λb=>F b\/y.ownBlock=Ua b\/a.ownBlock=Ua b\/d.ownBlock=Ua b) x m s/\yt (λb=>F b\/y.ownBlock=Ua b\/a.ownBlock=Ua b\/d.ownBlock=Ua b) x [I_ (Ty s.rm),y,a,d,I_ s.stop,e] (⟨s.f_.map λf=>(f.name,f.l_),s.g_,s.out,s.stop⟩,Ty s.rm):=by
 refine⟨(H.re h.re).1.kp ⟨G_,s_⟩ (s_) (λb i q=>?_) λb q=>?_,y,a,d,e,rfl,⟨h.r1,G_⟩,⟨h.r2,G_⟩,⟨h.r3,G_⟩⟩
 .rcases q with q|q
  .exact H.nf b i q
  have:=h.new b G_;have:=H.xr b i;exact aD
 rcases q with q|q|q|q
 .exact ej (H.lt b q) h.re.size
 .exact h.r1.lt b q
 .exact h.r2.lt b q
 exact h.r3.lt b q
def kC.px{m:DM}{i:Nat}{a c l:aW}{j:List (bP × Nat)}{k:List (bP × bP)}{e:cY}{f:List (bP × aE)}(h:kC F w D i x a y c l j k e f)(_H:cP R F w m s):Px F w m (λb=>F b\/a.ownBlock=Ua b\/y.ownBlock=Ua b\/c.ownBlock=Ua b) x m:=
 ⟨G_,λb q=>q.imp id λq=>h.new b G_,λb q _=>h.re.block b q,G_,h.re.os,h.re.tape,h.re.output,h.re.size,rfl⟩
def AA{m:DM}(h:cP R F w m s)(hl:Ty s.f_<=1000)(hm:Ty s.rm<=1000)(ho:Ty s.out<=1000)(hv:Ty s.g_<=1000000):
 Ue Un 61 #[bF m.rb] w λe w'=>e=fD/\∃G mv,cP R G w' { m with mv:=mv } s.notes/\Px F w m G w' { m with mv:=mv }:=by
 obtain⟨c0,c1,c2,c3,c4,c5,c6,fz⟩:=iA h.i_;obtain⟨mx,mc,L,q1,q2⟩:=h.vo.slice;obtain⟨rx,rc,J,Z,q4⟩:=h.uy.slice;rw[L]at c5;rw[J,h.fr.length]at c4;rw[ij]at c5;have B:=h.vw;have H:=aB h;go_in
 go_wp2
 go_region
 go_wp2
 go_loopg [3] (Ty s.f_) (λgk iv wr=>∃i:Nat,i+gk=Ty s.f_/\iv=I_ i/\∃sv,kC F w (Ty s.rm) s.stop wr sv (bO) (bO) (bO) ((s.f_.take i).map λf=>(f.name,f.l_)) [] [] [])
 case atStart=>exact⟨0,aD,rfl,_,(dz _ _).alloc (aD) _ |>.trans (by exact⟨aJ,aJ,aJ,s_,λ_ _=>rfl⟩),bM w _ rfl,.nil,.nil,.nil,.nil,og⟩
 case round=>
  obtain⟨i,hi,rfl,sv,hN⟩:=hrel;have j:=aB hN;by_cases af:i<Ty s.f_
  .obtain⟨p,hp,r⟩:=H.out.fr.get i af;obtain⟨ap,ao⟩:=hZ.1 hp;have M:=j.out.re;obtain⟨g,bg,c,Q,hc,hj⟩:=H.out.uy.cell ap;rw[J]at Q;cases Q;have T:=H.out.uy.lt g (by rw[J];rfl)
   have d0:T_ wr (aL g i)=Ua (bF p.1):=(World.cell?_of_block (M.block g T)).trans (by simpa using hj 0 (bF p.1) (by rw[hc,ao];rfl))
   have y:=aH r.i_;obtain⟨f0,f1, -, -⟩:=nH ((M.block p.1 y).trans r.i_);have d4:T_ wr (aL m.rb 4)=Ua (Uq (Ua (aL g 0)) (Ty s.f_) rc):=(World.cell?_of_block (M.block m.rb B)).trans c4;have n1:T_ wr (aL w.heap.size 1)=Ua sv:=aA j.out.i_ aJ;have nf:=aF j.out.i_ (i:=1);have C:=aH j.out.i_;have Q:(i:Int)<(Ty s.f_:Int):=aD;have ax:m.rb<wr.heap.size:=aD;have av:g<wr.heap.size:=aD;have ay:p.1<wr.heap.size:=aD;obtain⟨sx,sc,t, -⟩:=j.out.r1.slice;have aa:Ty ((s.f_.take i).map λf=>(f.name,f.l_))<=1000:=by simp;exact aD
   obtain⟨n,hn⟩:∃n,n=Ty ((s.f_.take i).map λf=>(f.name,f.l_)):=(by simp)
   rw[<-hn]at t aa;subst t;have HL:=aB hn;clear M hj hc r hp hn;go_wp2_with fail;have be:m.rb≠w.heap.size:=aD;have bd:g≠w.heap.size:=aD;have bb:p.1≠w.heap.size:=aD;have D0:=aB ((World.cell?_of_block (j.out.re.block g T)).symm.trans d0);have D1:=aB ((World.cell?_of_block (j.out.re.block p.1 y)).symm.trans f0);have D2:=aB ((World.cell?_of_block (j.out.re.block p.1 y)).symm.trans f1);have A:∀{w'},R_ w w'->T_ w' (aL m.rb 4)=Ua (Uq (Ua (aL g 0)) (Ty s.f_) rc)/\T_ w' (aL g i)=Ua (bF p.1)/\T_ w' (aL p.1 0)=Ua (Ur (bs s.f_[i].name))/\T_ w' (aL p.1 1)=Ua (I_ s.f_[i].l_):=λq=>⟨(q.cell (p:=(aL m.rb 4)) B).trans c4,(q.cell (p:=(aL g i)) T).trans D0.out,(q.cell (p:=(aL p.1 0)) y).trans D1.out,(q.cell (p:=(aL p.1 1)) y).trans D2.out⟩
   refine wp_region_held_drew (S:=λw'=>T_ w' (aL m.rb 4)=Ua (Uq (Ua (aL g 0)) (Ty s.f_) rc)/\T_ w' (aL g i)=Ua (bF p.1)/\T_ w' (aL p.1 0)=Ua (Ur (bs s.f_[i].name))/\T_ w' (aL p.1 1)=Ua (I_ s.f_[i].l_)) k_ (A j.out.re.drew) (λd=>?_)
   refine eU 0 ?_;refine eU 1 ?_;refine eU 3 ?_;refine eU 4 ?_;refine eU 5 ?_;refine eU 6 ?_;refine eU 7 ?_;refine eU 8 ?_;refine eU 9 ?_;refine eU 10 ?_;refine eU 11 ?_;refine eU 12 ?_;refine eU 13 ?_;refine eU 14 ?_;refine eU 15 ?_;refine eU 16 ?_;refine eU 17 ?_;refine eU 18 ?_;refine eU 19 ?_;refine eU 20 ?_;refine eU 21 ?_;refine eU 22 ?_;refine eU 23 ?_;have I:∀{w'},R_ wr w'->R_ w w':=λq=>j.out.re.trans (q.mono j.out.re.size)
   refine Az 2 24 (λK E=>?_) (λK E=>?_)
   go_simp;refine E.out _ _ d (λd=>?_)
   refine sN 24 (λK E=>?_)
   go_simp;refine E.out _ _ (A (I ko)) (λd=>?_)
   rotate_left
   go_simp;refine E.out _ _ (A (I ko)) (λd=>?_)
   refine sN 2 (λK E=>?_)
   go_simp;refine E.out _ _ d (λd=>?_)
   all_goals
    refine sN 25 (λK E=>?_)
    refine rM r_ Ds r_ r_ (j.out.al ko).r1 r_ (Src.one (b:=wr.heap.size) (bM wr _ rfl) rfl (show W8 _ (s.f_[i].name,s.f_[i].l_)from rfl) lb) (by rw[<-HL.out];simp;exact aD) (by rw[<-HL.out];unfold maxLen;simp;exact aD) ?_
    intro v' w5 o u k;obtain⟨x,m5,U⟩:=Qs (j.out.al ko) u o k
    have aj:=((j.out.al ko).gb u (.inl rfl)).1
    obtain⟨vx,vn,vc,rfl⟩:=gI o;refine E.out _ _ (A aj) (λd=>?_)
    refine eU 26 ?_;refine eU 27 ?_;refine sN 28 (λK E=>?_)
    go_simp;refine E.out _ _ (A (aj.setCell (s_) _)) (λ_=>?_)
    refine wpAnyH_done k_ ?_ _
    go_wp2
    go_roundg (gk-1)
    case measure=>exact aD
    case rel=>exact⟨i+1,aD,la,_,by rw[g9 af,fw];exact x.out⟩
  obtain rfl:i=Ty s.f_:=aD;rw[iz]at j;have d4:T_ wr (aL m.rb 4)=Ua (Uq rx (Ty s.f_) rc):=(World.cell?_of_block (j.out.re.block m.rb B)).trans c4;go_upto_if 58 with fail
  go_cut [4]from 53 to 68 (λf wx=>∃bv,kC F w (Ty s.rm) s.stop wx sv (bO) (bO) bv (s.f_.map λf=>(f.name,f.l_)) [] [] s.g_)
  case first=>
   rcases gB s.f_ with N|⟨fr,f,N⟩
   .have e0:Ty s.f_=0:=by rw[N];rfl
    go_wp2_with fail;go_meet
    case rel=>exact⟨_,by rw[show s.g_=[] by simp[aM.g_,N]];exact j.out⟩
   rw[jc]at N;obtain⟨ba,⟨pb,pv⟩,hp, -,r⟩:=Each.tq (N▸H.out.fr);have t:s.g_=f.g_:=by simp[aM.g_,N]
   obtain⟨vx,vc,Q, -⟩:=r.row.slice;have Q:pv=Uq vx (Ty f.g_) vc:=Q;subst Q;have y:=aH r.i_;have HT:=aB (rQ (H.out.re j.out.re).1 hp);have HP:=aB r;have f2:T_ wr (aL pb 2)=Ua (Uq vx (Ty f.g_) vc):=(World.cell?_of_block (j.out.re.block pb y)).trans (nH r.i_).2.2.1;have n5:T_ wr (aL w.heap.size 5)=Ua (bO):=aA j.out.i_ aJ;have C:=aH j.out.i_;have az:0<Ty s.f_:=by rw[N];simp
   have bf:Ty f.g_<=1000000:=by rw[<-t];exact hv
   have HV:=aB t;clear hp r N t;go_wp2_with fail;refine HT.out.mono ?_;rintro e w3 ⟨rfl,q,D⟩;have X:=aB (j.out.al (w2:=w3) (by rw[D];exact nI (dz _ _) q))
   have f3:T_ w3 (aL pb 2)=Ua (Uq vx (Ty f.g_) vc):=by rw[D];exact f2
   have n3:T_ w3 (aL w.heap.size 5)=Ua (bO):=by rw[D];exact n5
   have ar:w.heap.size<w3.heap.size:=by rw[D];exact C
   clear D j f2 n5 C HT d4;go_wp2
   go_region_law (refine rM r_ M4 r_ r_ (X.out.al ko).r4 r_ ((HP.out.row.h_ (λb M=>X.out.re.block b (HP.out.row.lt b M)) s_).src xN.one) kj kz ?_;intro v' w5 o u k;obtain⟨x,m5,U⟩:=Mt (X.out.al ko) u o k;obtain⟨ux,un,uc,rfl⟩:=gI o;clear o u k)
   all_goals
    go_wp2_with fail;go_meet
    case rel=>exact⟨_,by rw[HV.out];exact x.out⟩
  case rest=>
   obtain⟨bv,I⟩:=hcut;have HB:=aB I;obtain⟨bx,bn,bc,am⟩:=gI I.r4;subst am;have n5:T_ wc (aL w.heap.size 5)=Ua (Uq bx bn bc):=aA I.i_ aJ;have ae:Kp F w F wc:=⟨s_,λb q=>I.re.block b (H.out.lt b q)⟩
   have HS:=aB (UI (F:=F) (w:=wc) (l:=s.g_) (I.r4.h_ (s_) λ_ _ q=>q.kp ae) (λb q=>ej (H.out.lt b q) I.re.size) hv)
   clear I j d4 ae;go_wp2_with fail;refine HS.out.mono ?_;rintro e w3 ⟨v,rfl,Y,ah,z⟩;obtain⟨vx,vn,vc,aq⟩:=gI Y;subst aq;have O:=aB (HB.out.Da z Y ah);have Z:=(HB.out.al z).i_;have m3:=aA Z (i:=2) aJ;have al:=aF Z (i:=2);have ak:=aH Z;clear Y ah z Z HB HS n5;go_wp2_with fail;obtain⟨w4,ad⟩:∃w4,Hid (w4=Tz w3 (aL w.heap.size 2) (Uq vx vn vc)):=⟨_,rfl⟩;rw[<-ad.out]at O ⊢
   clear ad m3 al ak;obtain⟨ox,oc,V, -⟩:=H.out.out.slice;have r3:T_ w4 (aL m.rb 3)=Ua (Uq ox (Ty s.out) oc):=(World.cell?_of_block (O.out.re.block m.rb B)).trans (by rw[<-V];exact c3)
   have n3:T_ w4 (aL w.heap.size 3)=Ua (bO):=aA O.out.i_ aJ;have C:=aH O.out.i_;have ac:m.rb<w4.heap.size:=aD;have ab:=aB V;clear V;go_region_law (refine rM r_ M3 r_ r_ (O.out.al ko).r3 r_ ((by rw[<-ab.out];exact H.out.out.h_ (λb M=>O.out.re.block b (H.out.out.lt b M)) (by simp):Own 1 9 AZ w4.drew (Uq ox (Ty s.out) oc) s.out).src (by rintro c a rfl;simp[Value.oneCell'])) kj kz ?_;intro v' w5 o u k;obtain⟨x,m5,U⟩:=Qi (O.out.al ko) u o k;obtain⟨ux,un,uc,rfl⟩:=gI o;clear o u k)
   all_goals
    clear c0 c1 c2 c3 c6 q1 q2 Z q4 J c4;go_wp2_with fail;obtain⟨w6,ag⟩:∃w6,Hid (w6=Tz w5 (aL w.heap.size 3) (Uq ux un uc)):=⟨_,rfl⟩;rw[<-ag.out]at x ⊢
    clear ag m5 U;have hG:=x.out.frozen H.out;have HG:=aB hG;obtain⟨k1,k2⟩:=hG;have p1:=aA x.out.i_ (i:=0) aJ;have p2:=aA x.out.i_ (i:=1) aJ;have p3:=aA x.out.i_ (i:=2) aJ;have p4:=aA x.out.i_ (i:=3) aJ;have p5:=aA x.out.i_ (i:=4) aJ;have p6:=aA x.out.i_ (i:=5) aJ;obtain⟨sx,sn,sc,t⟩:=gI x.out.r1;subst t;have r5:T_ w6 (aL m.rb 5)=Ua (Uq mx (Ty s.rm) mc):=(World.cell?_of_block (x.out.re.block m.rb B)).trans c5;have aw:=aH x.out.i_;have au:m.rb<w6.heap.size:=aD;rw[ij]at L;have an:=aB L;clear k1 k2 O r3 n3 C ac ab c5 L;go_wp2
    go_region_law (refine rM r_ Mr r_ (by rw[an.out];rfl) (HG.out.1.vo.h_ (λb q=>Below.block ko b (HG.out.1.vo.lt b q)) s_) r_ (Src.one (b:=w6.heap.size) (bM w6 _ rfl) rfl HG.out.2 lb) kj kz ?_;intro v' w7 W ai P;obtain⟨H7,m7,bh⟩:=cP.Bx HG.out.1 ko ai W P;obtain⟨zx,zn,zc,rfl⟩:=gI W;clear W ai P)
    all_goals
     go_wp2
     go_end0;exact⟨aJ,_,_,H7.out.1,(x.out.px H.out).trans H7.out.2⟩
section
variable {fs:List aC} {F G:bN} {w w':aN} {m:DM} {s:aM} {fs0:List (Nat × Uf)} {p:Nat × Uf} {fr:List iW} {f f':iW} {u:aW}
theorem Own.Bi{b:Type}{k:Nat}{e:Ui}{R:List Uf->b->Prop}{v:aW}{l a:List b}(h:Own k e R w v l)(d:Ty a=Ty l)(g:∀i (j:i<Ty l) (f:i<Ty a) c,R c l[i]->R c a[i]):Own k e R w v a:=by grind [Own,lA]
theorem cP.last(h:cP fs F w m s)(a:s.f_=fr++[f]):∃fs0 p,m.fs=fs0++[p]/\Each (yK F w) fs0 fr/\yK F w p f:=Each.tq (a▸h.fr)
theorem DM.uu(a:m.fs=fs0++[p]){b:Nat}(c:b=p.1\/p.2.ownBlock=Ua b):b∈m.rl:=(by grind [DM.Ck,DM.rl])
def cP.vj(h:cP fs F w m s)(a:m.fs=fs0++[p]){b:Nat}(d:b=p.1\/p.2.ownBlock=Ua b):b≠m.rb/\b∉ob m.ov/\b∉ob m.rv/\b∉ob m.mv/\b∉fs0.flatMap (λp=>p.1::ob p.2)/\p.2.ownBlock≠Ua p.1:=by have c:=h.nd;rw[DM.rl,a,List.flatMap_append,List.flatMap_singleton]at c;grind [mG]
def cP.top(h:cP fs F w m s)(j:m.fs=fs0++[p])(H:s.f_=fr++[f])(V:∀b,F b\/b∈m.rl->b≠p.1->p.2.ownBlock≠Ua b->w'.heap[b]?=w.heap[b]?)(Y:H_ w<=H_ w')(E:yK F w' (p.1,u) f')(L:∀b,u.ownBlock=Ua b->p.2.ownBlock=Ua b\/H_ w<=b):
 cP fs F w' { m with fs:=fs0++[(p.1,u)] } { s with f_:=fr++[f'] }:=by
 have l:=λb v=>h.vj j (b:=b) v
 have D:∀b,F b->b≠p.1/\p.2.ownBlock≠Ua b:=(by grind [cP.nf,DM.uu])
 have d:Kp F w F w':=⟨s_,G_⟩
 have K:∀b∈m.rl,(b=p.1\/p.2.ownBlock=Ua b)\/w'.heap[b]?=w.heap[b]?:=(by grind)
 have Z:∀b∈m.rl,(¬(b=p.1\/p.2.ownBlock=Ua b))->w'.heap[b]?=w.heap[b]?:=(by grind)
 obtain⟨e,z⟩:=h.vh;obtain⟨M,C,t⟩:=h.tape;obtain⟨I,J,r,G,B⟩:=h.last H;obtain⟨A,O⟩:=gd (r.symm.trans j) rfl;cases A;cases O
 refine⟨(by grind [cP.i_,DM.rl]),⟨e,z.kp d⟩,⟨M,C.kp d,t⟩,h.out.h_ ((by grind [DM.rl,ob])) s_,
  (h.uy.h_ ((by grind [DM.rl,ob])) s_).Bi (by simp[j]) λi X t c q=>?_,h.vo.h_ ((by grind [DM.rl,ob])) λ_ _ q=>q.kp d,?_,?_,λb v=>?_,(by grind [cP.lt]),h.ol⟩
 .grind [C_]
 .refine Each.snoc (G.mono λq W g x=>?_) E
  have N:∀b,(b=q.1\/q.2.ownBlock=Ua b)->b∈fs0.flatMap (λp=>p.1::ob p.2):=(by grind [ob])
  grind [yK.kp,DM.rl]
 .have n:=h.nd;unfold DM.rl at n ⊢
  rw[j]at n
  have:=JG (a:=m.rb::(ob m.ov++(ob m.rv++(ob m.mv++(fs0.flatMap (λp=>p.1::ob p.2)++[p.1]))))) (x:=ob p.2) (y:=ob u) (b:=[]) (by simpa using n) nu λk o=>by
   rcases L k (mG.1 o)with q|q
   .obtain⟨J,T,P,S,Q,U⟩:=l k (.inr q);refine⟨?_,s_⟩
    simp only[ff,fo,not_or];grind
   refine⟨λe=>?_,s_⟩
   have:=h.xr k (by simp only[DM.rl,j,List.flatMap_append,List.flatMap_singleton,ff,fo]at e ⊢;grind)
   exact aD
  simpa using this
 grind [DM.rl,mG,cP.nf,cP.lt]
end
section
variable {fs:List aC} {F G:bN} {w w':aN} {m:DM} {s:aM} {fs0:List (Nat × Uf)} {p:Nat × Uf} {fr:List iW} {f f':iW} {u:aW}
theorem DM.same(a:m.fs=fs0++[p]):{ m with fs:=fs0++[(p.1,p.2)] }=m:=by cases m;grind
def tK(a:s.f_=fr++[f])(T:iW->iW):s.sd T={ s with f_:=fr++[T f] }:=by simp[aM.sd,a]
def cP.l_(h:cP fs F w m s)(a:m.fs=fs0++[p])(c:s.f_=fr++[f])(n:Nat):cP fs F (Tz w (aL p.1 1) (I_ n)) m (s.sd λf=>{ f with l_:=n })/\Px F w m F (Tz w (aL p.1 1) (I_ n)) m:=by
 obtain⟨g,l,b,k,d⟩:=h.last c;obtain⟨o,i⟩:=gd (b.symm.trans a) rfl;cases i;have e:Px F w m F (Tz w (aL p.1 1) (I_ n)) m:=(by grind [Px.set,DM.uu])
 have j:=(h.vj a (.inl aJ)).2.2.2.2.2;have:=h.top (w':=Tz w (aL p.1 1) (I_ n)) (u:=p.2) (f':={ f with l_:=n }) a c (nj) e.size ⟨by rw[aP d.i_];rfl,d.row.h_ (nj) λ_ _ q=>q.kp (e.kp h)⟩ G_
 grind [DM.same,aM.sd]
def yg(fs:List aC)(F:bN)(w:aN)(m:DM)(s':aM)(w':aN):Prop:=∃G m',cP fs G w' m' s'/\Px F w m G w' m'/\(s'.stop=0->m'.fs.map (·.1)=m.fs.map (·.1))
theorem UV(h:cP fs F w m s)(v:s.f_=fr++[f])(n:Nat)(A:Ty s.f_<=1000)(x:Ty s.rm<=500)(z:Ty s.out<=1000)(D:Ty s.g_<=1000000):
 Ue Un 218 #[bF m.rb,I_ n] w λe w'=>e=bY (Uw (decide ((s.q_ n).stop=0)))/\yg fs F w m (s.q_ n) w':=by
 obtain⟨aa,p,C,W,y⟩:=h.last v;have Q:=aB (rQ h C);have HL:=aB (h.l_ C v n);obtain⟨V,K,f2,o⟩:=nH y.i_;have t:=o 1;have U:=aH y.i_;have H:=aB h;clear h W o;go_in
 go_wp2_with fail;refine rf Q λi ⟨q,c⟩=>?_
 have X:dP i p.1 1 (I_ f.l_):=by rw[c];exact K
 have T:i.frozen? (aL p.1 1)=Uc:=by rw[c];exact t
 have a:Hid (cP fs F (Tz i (aL p.1 1) (I_ n)) m (s.sd λf=>{ f with l_:=n })/\Px F w m F (Tz i (aL p.1 1) (I_ n)) m):=by rw[c];exact(((H.re (nI (dz _ _) q)).1.l_ C v n).imp id ((H.re (nI (dz _ _) q)).2.trans ·))
 clear c V K f2 t Q HL;go_upto_region 3 with fail
 obtain⟨O,M⟩:∃O,Hid (O=Tz i (aL p.1 1) (I_ n)):=⟨_,rfl⟩;rw[<-M]at a ⊢
 clear M X T;obtain⟨s1,d⟩:∃s1,s1=s.sd λf=>{ f with l_:=n }:=(by simp)
 have E:s.q_ n=aM.notes (if Ty s1.rm=500 then { s1 with stop:=9 } else s1):=by rw[d];rfl
 have j:s1.g_=s.g_:=by grind [aM.g_,aM.sd]
 have b:s1.rm=s.rm/\s1.out=s.out/\Ty s1.f_=Ty s.f_:=by grind [aM.sd]
 rw[<-d]at a;rw[<-j]at D;rw[<-b.1]at x;rw[<-b.2.1]at z;rw[<-b.2.2]at A;have u:=aB E;clear d E j b v y H;obtain⟨-, -, -, -, -,Z,N,I⟩:=iA a.1.i_;have Y:=a.1.vw;have ab:=I 6;obtain⟨mx,mc,k, -⟩:=a.1.vo.slice;rw[k,ij]at Z;clear I k;by_cases J:Ty s1.rm=500
 .obtain⟨L,P⟩:=a.1.uf 9;have B:=aB (AA L A G_ z D)
  have HX:=aB (a.2.trans P);rw[ef J]at u;clear L P;go_wp2_with fail;refine rf B λS ⟨G,mv,g,r⟩=>?_
  have N:=(iA g.i_).2.2.2.2.2.2.1;have l:=aB (dy g r);clear g r;go_wp2
  go_ret;rw[u];exact⟨gO G_,G,_,l.1,HX.trans l.2,s_⟩
 have B:=aB (AA a.1 A aD z D);rw[ea J]at u;go_wp2_with fail;refine rf B λS ⟨G,mv,g,r⟩=>?_
 have N:=(iA g.i_).2.2.2.2.2.2.1;have l:=aB (dy g r);clear g r;go_wp2
 go_ret;rw[u];exact⟨gO G_,G,_,l.1,a.2.trans l.2,s_⟩
end
def KN(F:bN)(w:aN)(c:List Uf)(v:aE):Prop:=∃kv,c=[I_ v.c_,I_ v.n,Ur (bs v.s),kv]/\∃d,LV d F w kv v.l
def Gv:xb 128 130 4 56:=.of underlying128 (z:=Us #[I_ 0,I_ 0,Q_ (bs []),bO]) k_ rfl d_
theorem eZ.ptr{a:aC}(h:eZ D F w y a):∃b,y=bF b:=tu.ptr ⟨D,h⟩
section
variable {F G:bN} {w w':aN} {v:aW} {l:List aE}
def KN.kp{c:List Uf}{a:aE}(h:KN F w c a)(k:Kp F w G w'):KN G w' c a:=by obtain⟨f,e,d,b⟩:=h;exact⟨f,e,d,b.kp k⟩
def KN.one(c:List Uf)(a:aE)(h:KN F w c a):∀v∈c,v.oneCell'=Ud:=by grind [LV.slice,Value.oneCell',KN]
def Dz{P:Nat->Nat->Prop}(a:∀d e i,P d i->d<=e->P e i):∀n,(∀i,i<n->∃d,P d i)->∃d,∀i,i<n->P d i
 |0,_=>(by simp)
 |n+1,h=>by
  obtain⟨d,c⟩:=Dz a n λi b=>h i aD
  obtain⟨e,f⟩:=h n aD;refine⟨max d e,λi b=>?_⟩
  grind [Nat.le_max_right]
def Own.Cv(h:Own 4 130 (KN F w) w v l)(p:∀b,v.ownBlock=Ua b->F b)(q:l=[]->v=bO):∃d,LV d F w v l:=by
 obtain⟨f,n,e⟩:=h
 obtain⟨d,k⟩:=Dz (P:=λd i=>∀c:i<Ty l,∃a,(f.drop (i*4)).take 4=[I_ l[i].c_,I_ l[i].n,Q_ (bs l[i].s),a]/\LV d F w a l[i].l)
  ((by grind [LV.mono])) (Ty l) λi c=>by obtain⟨a,m,d,g⟩:=e.2 i c;exact⟨d,G_⟩
 refine⟨d+1,LV.ofRow n ⟨e.1,λi c=>?_⟩ p q⟩
 obtain⟨a,m,g⟩:=k i c c
 have o:∀j,j<4->f[i*4+j]?=([I_ l[i].c_,I_ l[i].n,Q_ (bs l[i].s),a]:List Uf)[j]?:=λj r=>by grind
 exact⟨a,by simpa using o 0 d_,G_,G_,G_,g⟩
end
def sy(fs:List aC)(F:bN)(w:aN)(m:DM)(r:aE × aM)(e:Ending)(w':aN):Prop:=
 ∃u G m',e=bY u/\(∃d,RV d G w' u r.1)/\dX r.1/\(r.2.stop=0->aK r.1<=200)/\cP fs G w' m' r.2/\Px F w m G w' m'/\(r.2.stop=0->m'.fs.map (·.1)=m.fs.map (·.1))
def VC(fs:List aC)(D g:Nat)(V:aC->aM->dZ aE):Prop:=
 ∀(k d dd:Nat) (e_:cY) (F:bN) (w:aN) (m:DM) (s:aM) (nv:aW) (n:aC) (r:aE × aM),cP fs F w m s->Hs.rq k e_ s->Ty s.g_<=50000->eZ dd F w nv n->Hs.rk fs Uc e_ d n->jX n->k*(D+2)+d<=g->V n s=Ua r->
  Ue Un 79 #[bF m.rb,nv] w (sy fs F w m r)
def PA(fs:List aC)(F:bN)(w:aN)(m:DM)(r:List aE × aM)(e:Ending)(w':aN):Prop:=
 ∃u G m',e=bY u/\(∃d,LV d G w' u r.1)/\(∀v∈r.1,dX v)/\(r.2.stop=0->∀v∈r.1,aK v<=200)/\cP fs G w' m' r.2/\Px F w m G w' m'/\(r.2.stop=0->m'.fs.map (·.1)=m.fs.map (·.1))
def SL(dd:Nat)(F:bN)(w:aN)(kv:aW)(l:List aC):Prop:=
 ∃x c,kv=Uq x (Ty l) c/\∀i (hi:i<Ty l),∃g o v,x=Ua (aL g o)/\F g/\T_ w (aL g (o+i))=Ua v/\eZ dd F w v l[i]
theorem nK.Dk(h:nK (eZ D F w) F w y R):SL D F w y R:=by grind [nK.get,SL]
structure sE(fs:List aC)(V:aC->aM->dZ aE)(k:Nat)(e_:cY)(F:bN)(w:aN)(m:DM)(l:List aC)(r:List aE × aM)(i:Nat)(ov:aW)(wr:aN)(G:bN)(m':DM)(s1:aM)(vs1 vs2:List aE):Prop where
 run:cP fs G wr m' s1
 px:Px F w m G wr m'
 ok:s1.stop=0->Hs.rq k e_ s1/\m'.fs.map (·.1)=m.fs.map (·.1)/\Ty s1.g_<=50000/\(∀v∈vs1,aK v<=200)
 all:fF V (l.drop i) s1=Ua (vs2,r.2)
 eq:vs1++vs2=r.1
 row:Own 4 130 (KN G wr) wr ov vs1
 new:∀b,ov.ownBlock=Ua b->w.heap.size<=b/\b∉m'.rl/\¬G b
 nil:vs1=[]->ov=bO
 Ex:∀v∈vs1,dX v
 len:Ty vs1=i
def sE.freeze{V:aC->aM->dZ aE}{e:cY}{m:DM}{l:List aC}{r:List aE × aM}{g:DM}{c f:List aE}(h:sE R V D e F w m l r v y x t g s c f):
 (∃d,LV d (λb=>t b\/y.ownBlock=Ua b) x y c)/\cP R (λb=>t b\/y.ownBlock=Ua b) x g s/\Px F w m (λb=>t b\/y.ownBlock=Ua b) x g:=by
 have n:Kp t x (λb=>t b\/y.ownBlock=Ua b) x:=⟨G_,s_⟩
 refine⟨(h.row.h_ (s_) λ_ _ q=>q.kp n).Cv (G_) h.nil,h.run.kp n (s_) (λb j q=>q.elim (h.run.nf b j) λq=>(h.new b q).2.1 j) λb q=>q.elim (h.run.lt b) (h.row.lt b),?_⟩
 exact⟨λb q=>.inl (h.px.sub b q),λb q=>q.elim (h.px.new b) λq=>.inr (h.new b q).1,h.px.uz,h.px.mu,h.px.os,h.px.tape,h.px.output,h.px.size,h.px.rb⟩
section
variable {fs:List aC} {V:aC->aM->dZ aE} {k:Nat} {e_:cY} {F:bN} {w:aN} {m:DM} {l:List aC} {r:List aE × aM} {i:Nat} {ov ov':aW} {wr w1 w2 w3:aN} {G G2:bN} {m' m2:DM} {s1 s2:aM} {vs1 vs2 vs':List aE} {a:aE}
def sE.Dn(h:sE fs V k e_ F w m l r i ov wr G m' s1 vs1 vs2)(a:Px G wr m' G2 w1 m2)(c:R_ w1 w2):Own 4 130 (KN G2 w1) w2 ov vs1:=
 h.row.h_ (λb q=>(c.block b (ej (h.row.lt b q) a.size)).trans (a.uz b (h.row.lt b q) (h.new b q).2.1)) λ_ _ q=>q.kp (a.kp h.run)
def sE.push(h:sE fs V k e_ F w m l r i ov wr G m' s1 vs1 (a::vs'))(o:fF V (l.drop (i+1)) s2=Ua (vs',r.2))(D:cP fs G2 w1 m2 s2)(s:Px G wr m' G2 w1 m2)(d:s2.stop=0->Hs.rq k e_ s2/\m2.fs.map (·.1)=m.fs.map (·.1)/\Ty s2.g_<=50000/\∀v∈vs1++[a],aK v<=200)(C:dX a)
 (f:R_ w1 w2) (g:w2.grownBy w3 ov.ownBlock) (t:Own 4 130 (KN G2 w1) w3 ov' (vs1++[a])) (j:ov'.ownBlock=ov.ownBlock\/ov'.ownBlock=Ua (H_ w2)):sE fs V k e_ F w m l r (i+1) ov' w3 G2 m2 s2 (vs1++[a]) vs':=by
 have p:=f.size;have c:=h.px.trans s;have u:=c.size
 have x:∀b,ov.ownBlock=Ua b->b<H_ wr/\b∉m2.rl/\¬G2 b:=λb q=>by have B:=h.row.lt b q;obtain⟨z,E,A⟩:=h.new b q;grind [Px.mu,Px.new]
 have y:∀b,b<H_ w1->(G2 b\/b∈m2.rl)->w3.heap[b]?=w1.heap[b]?:=(by grind [World.grownBy.block,eg])
 have n:Kp G2 w1 G2 w3:=⟨s_,(by grind [cP.lt])⟩
 refine⟨(by grind [cP.kp,cP.xr,cP.nf,cP.lt]),⟨c.sub,c.new,(by grind [World.grownBy.block,sE.new,eg,Px.uz]),c.mu,g.os.trans (f.os.trans c.os),g.tape.trans (f.tape.trans c.tape),g.output.trans (f.output.trans c.output),(by grind [Nat.le_trans,World.grownBy.size]),c.rb⟩,d,o,by rw[<-h.eq];simp,t.h_ (s_) λ_ _ q=>q.kp n,λb q=>?_,s_,(by grind [sE.Ex]),by simp[h.len]⟩
 rcases j with e|e
 .rw[e]at q;exact⟨(h.new b q).1,(x b q).2⟩
 grind [cP.xr,cP.lt]
end
def IP{V:aC->aM->dZ aE}{g k d dd:Nat}{c:cY}{m:DM}{kv:aW}{l:List aC}{r:List aE × aM}(HV:VC R D g V)(HG:pB R D g V)(h:cP R F w m s)(al:Hs.rq k c s)(aj:Ty s.g_<=50000)(hk:SL dd F w kv l)(hx:∀a∈l,Hs.rk R Uc c d a)(ae:∀a∈l,jX a)(hg:k*(D+2)+d<=g)(hl:Ty l<=1000000)(hr:fF V l s=Ua r):
 Ue Un 135 #[bF m.rb,kv] w (PA R F w m r):=by
 have H:=aB h;obtain⟨kx,kc,rfl,hk⟩:=hk;have HK:=aB hk;have HX:=aB (dy HV (dy HG (dy hx hg)));have an:=aB ae;have h0:sE R V k c F w m l r 0 (bO) w F m s [] r.1:=⟨h,.refl,G_,G_,rfl,.nil,λb e=>(by cases e),s_,s_,rfl⟩
 have H0:=aB h0;go_in
 go_wp2
 go_loopg [5,6] (Ty l) (λgk ov iv wr=>∃i G X n j x,i+gk=Ty l/\iv=I_ ((i:Nat):Int)/\sE R V k c F w m l r i ov wr G X n j x)
 case atStart=>grind
 case round=>
  obtain⟨i,G,X,n,j,x,hi,rfl,hM⟩:=hrel;have f:=aB hM;have c6:=(iA hM.run.i_).2.2.2.2.2.2.1;rw[hM.px.rb]at c6
  have N:i=Ty l\/n.stop≠0->j=r.1/\n=r.2:=λq=>by
   have ha:=f.all;have he:=f.eq
   have:x=[]/\n=r.2:=by
    rcases q with q|q
    .grind [fF]
    cases hd:l.drop i with
    |nil=>rw[hd]at ha;cases ha;simp
    |cons a t=>grind [fF]
   grind
  have HE:=aB N;obtain⟨ox,on,oc,af⟩:=gI f.row;subst af
  have E:i=Ty l\/n.stop≠0->PA R F w m r (bY (P_ ox on oc)) wr:=λq=>by obtain⟨rfl,e2⟩:=HE q;obtain⟨q1,q2⟩:=f.freeze;exact⟨_,_,X,aJ,q1,f.Ex,λY=>(f.ok G_).2.2.2,e2▸q2.1,q2.2,λY=>(f.ok G_).2.1⟩
  have HOUT:=aB E;by_cases K:i<Ty l
  .have e1:(i:Int)<(Ty l:Int):=aD;by_cases W:n.stop=0
   .obtain⟨z,ak,M,ab⟩:=f.ok W;have T:=f.all;rw[iw K,fF,ea (by simp[W])]at T
    obtain⟨a,B,P,A⟩:=HX.2.1 k d c l[i] n (G_) z aD
    rw[P]at T
    obtain⟨p,hA,rfl⟩:∃p,fF V (l.drop (i+1)) B=Ua (p,r.2)/\x=a::p:=by grind
    have J:=f.px.kp H;obtain⟨gq,o,nv,ac,ad,aa,C⟩:=HK i K;subst ac;have d0 :=(World.cell?_of_block (J.h_ gq ad)).trans aa;have HC:=aB (HX.1 k d dd c G wr X n nv l[i] (a,B) f.run z M (C.kp J) (G_) (G_) aD P)
    rw[f.px.rb]at HC;have HF:=aB (dy A (dy z (dy ak (dy M (dy ab hA)))));obtain⟨nb,Z⟩:=C.ptr;subst Z;have e2:((n.stop:Int)==0)=Ud:=by simp[W]
    go_wp2_with fail;apply HC.mono
    rintro e w1 ⟨u,G2,m2,rfl,⟨d2,lv,rfl,U⟩,I,ao,ah,ai,am⟩;have S:KN G2 w1 [I_ a.c_,I_ a.n,Q_ (bs a.s),lv] a:=⟨lv,aJ,d2,U⟩;obtain⟨lx,lc,rfl⟩:=U.slice
    have L:B.stop=0->Hs.rq k c B/\m2.fs.map (·.1)=m.fs.map (·.1)/\Ty B.g_<=50000/\∀v∈j++[a],aK v<=200:=λY=>by obtain⟨f1,f2,f3,f4,f5, -⟩:=HF.out;refine⟨f2.next f1 Y,G_,by grind [aM.g_,eC.go],G_⟩
    have HP:=aB (dy S (dy I (dy ah (dy ai L))));have aj:Ty j<=1000000:=by have:=f.len;exact aD
    go_wp2_with (at_builtin;refine nN r_ Gv r_ r_ (f.Dn aD ko) r_ (Src.one (b:=H_ w1+1) (bM (w1.alloc _) _ s_) rfl HP.1 lb) G_ (by unfold maxLen;grind) ?_;intro v' w3 Q ag O;obtain⟨zx,zn,zc,rfl⟩:=gI Q)
    go_roundg (gk-1)
    case measure=>exact aD
    case rel=>exact⟨i+1,G2,m2,B,j++[a],p,aD,la,f.push aD aD aD aD HP.2.1 ko ag Q O⟩
   go_wp2
   go_ret;exact HOUT (.inr W)
  go_wp2
  go_ret;exact HOUT (aD)
section
variable {fs:List aC} {V:aC->aM->dZ aE} {D g k d dd:Nat} {e_:cY} {F:bN} {w:aN} {m:DM} {s:aM}
def Px.i_{G:bN}{w':aN}{c:DM}(h:Px F w m G w' c){b:Nat}{o:Obj}(a:w.heap[b]?=Ua o)(d:b∉m.rl):w'.heap[b]?=Ua o:=(h.uz b (by grind) d).trans a
def cP.fresh(h:cP fs F w m s):H_ w∉m.rl:=λq=>by have:=h.xr _ q;exact aD
def oW{b:Nat}{e d c a:aW}{f:Ui}(h:w.heap[b]?=Ua (cD #[e,d,c,a] f)):dP w b 0 e/\dP w b 1 d/\dP w b 2 c/\dP w b 3 a/\(∀i,w.frozen? (aL b i)=Uc)/\b<H_ w:=
 (by grind [aA,aF])
def sy.fin{G:bN}{c:aN}{f:DM}{g:aM}{d z:Nat}{u:aW}{a:aE}(v:cP fs G c f g)(e:Px F w m G c f)(t:H_ w<=z/\z∉f.rl/\¬G z)(p:RV d G c u a)(q:dX a)(r:g.stop=0->aK a<=200)(n:g.stop=0->f.fs.map (·.1)=m.fs.map (·.1))(k i j h:aW):
 sy fs F w m (a,g) (bY u) (Tz (Tz (Tz (Tz c (aL z 0) k) (aL z 1) i) (aL z 2) j) (aL z 3) h):=by
 have s:∀b,b≠z->(Tz (Tz (Tz (Tz c (aL z 0) k) (aL z 1) i) (aL z 2) j) (aL z 3) h).heap[b]?=c.heap[b]?:=(by grind [dF])
 have o:(Tz (Tz (Tz (Tz c (aL z 0) k) (aL z 1) i) (aL z 2) j) (aL z 3) h).heap.size=H_ c:=s_
 have l:Kp G c G (Tz (Tz (Tz (Tz c (aL z 0) k) (aL z 1) i) (aL z 2) j) (aL z 3) h):=⟨s_,G_⟩
 exact⟨u,G,f,aJ,⟨d,p.kp l⟩,q,r,(by grind [cP.kp,cP.nf,cP.lt]),⟨e.sub,e.new,(by grind [Px.uz]),e.mu,e.os,e.tape,e.output,by rw[o];exact e.size,e.rb⟩,n⟩
def sy.more{r:aE × aM}{e:Ending}{a c:aN}(h:sy fs F w m r e a)(i:R_ a c):sy fs F w m r e c:=by obtain⟨u,G,p,l,⟨d,g⟩,o,j,b,q,n⟩:=h;obtain⟨k,f⟩:=b.re i;exact⟨u,G,p,l,⟨d,g.kp (f.kp b)⟩,o,j,k,q.trans f,n⟩
def BK{n:Nat}(h:(s.or n).stop=0):s.stop=0/\s.or n=s:=by grind [aM.or]
def E5{nv:aW}{n x y:aC}{r:aE × aM}(HV:VC fs D g V)(HG:pB fs D g V)(h:cP fs F w m s)(Y:Hs.rq k e_ s)(aw:Ty s.g_<=50000)(hn:eZ dd F w nv n)(hk:n.y_=[x,y])(hx:Hs.rk fs Uc e_ d x)(hy:Hs.rk fs Uc e_ d y)(bg:jX x)(bp:jX y)(hg:k*(D+2)+d<=g)(f:oG V (n.op==[124,124]) x y s=Ua r):
 Ue Un 134 #[bF m.rb,nv] w (sy fs F w m r):=by
 obtain⟨d',nb,kv,hd,rfl,hF,cf,n0,n1,n2,n3,au⟩:=hn.cells;rw[hk]at au;rcases au.get with ⟨-,h0⟩|⟨gq,cl,rfl,bf,cb,af,U⟩
 .cases h0
 obtain⟨v0,k0,r0⟩:=U 0 s_
 obtain⟨v1,k1,r1⟩:=U 1 s_
 obtain⟨a,B,ar,bb⟩:=HG k d e_ x s hx Y hg;obtain⟨b0,e0⟩:=r0.ptr;obtain⟨b1,e1⟩:=r1.ptr;subst e0 e1;have hz:R_ w (eH w #[I_ 0,I_ 0,Q_ ⟨#[]⟩,bO] 130):=(by grind [ep,dz])
 obtain⟨bt,az⟩:=h.re hz;have HC:=aB (HV k d d' e_ F _ m s _ x (a,B) bt Y aw (r0.kp (az.kp h)) hx bg hg ar);rw[oG,ar]at f;simp only at f;have j:=aB (dy h (dy Y (dy aw (dy HV (dy HG (dy hg (dy hy (dy r1 (dy bb az)))))))));have HR:=aB f;have HN:=aB (dy hF (dy bf (dy n0 (dy n3 k1))));simp only[fk,fq]at n3 af;go_in
 go_wp2_with fail;apply HC.out.mono
 rintro e p ⟨u,G1,m1,rfl,⟨d1,lv,rfl,ba⟩,ai,bv,ad,M,bu⟩;have hP:=j.out.2.2.2.2.2.2.2.2.2.trans M;have aj:=hP.kp j.out.1;have l:∀{b i:Nat} {v:aW},F b->dP w b i v->dP p b i v:=λq e=>(World.cell?_of_block (aj.h_ _ q)).trans e
 have N0:=l HN.out.1 HN.out.2.2.1;have N3:=l HN.out.1 HN.out.2.2.2.1;have K1:=l HN.out.2.1 HN.out.2.2.2.2;have zb:=M.i_ (bM w _ aJ) j.out.1.fresh;have hzm :=λq=>(M.mu _ q).elim j.out.1.fresh s_
 have bj:¬G1 w.heap.size:=λq=>(M.new _ q).elim (λq=>by have:=j.out.1.lt _ q;exact aD) s_
 have S:=aB (dy zb (dy hzm bj));obtain⟨z0,z1,z2,z3,zf,X⟩:=oW zb;have bw:nb<p.heap.size:=aD;have cc:gq<p.heap.size:=aD;have cm:=zf 0;have ce:=zf 1;have ca:=zf 2;have bz:=zf 3;have c6:=(iA ad.i_).2.2.2.2.2.2.1;rw[hP.rb]at c6;have bl:=ad.vw;rw[hP.rb]at bl;obtain⟨I,K,rfl⟩:=ba.slice;have c:=aB (dy ad (dy hP (dy bu (dy ba (dy ai (dy bv aj))))));by_cases Q:B.stop≠0\/a.c_≠1
 .have f:=HR.out;rw[ef Q]at f;cases f;have hW:R_ p (eH p #[I_ a.c_,I_ a.n,Q_ (bs a.s),P_ I (Ty a.l) K] 130):=(dz _ _).alloc (aD) _;obtain⟨L,z⟩:=c.out.1.re hW;have HO:=aB (qA L (show RV d1 G1 _ (Us #[I_ a.c_,I_ a.n,Q_ (bs a.s),P_ I (Ty a.l) K]) a from ⟨_,aJ,c.out.2.2.2.1.kp (z.kp c.out.1)⟩) 2)
  rw[c.out.2.1.rb]at HO;have am:=aB (dy hW z)
  have e2:((B.stop:Int) != 0)=Ud\/((B.stop:Int) != 0)=Uc/\((a.c_:Int) != 1)=Ud:=by
   by_cases q:B.stop=0
   .exact .inr ⟨qy,by have:=Q.resolve_left aD;simp;exact aD⟩
   exact .inl kj
  rcases e2 with e2|⟨e2,e3⟩
  all_goals
   go_wp2_with fail;apply HO.out.mono
   rintro e w2 ⟨rfl,bo,av⟩;obtain⟨y0,y1,y2,y3,H,bq⟩:=oW (av.i_ ((eh _ _ _ X).trans S.out.1) S.out.2.1);have bk:=H 0;have bd:=H 1;have bh:=H 2;have bc:=H 3;have H2:=aB (dy bo av);go_wp2
   exact bodyPost_ret (v:=Us #[I_ a.c_,I_ a.n,Q_ (bs a.s),P_ I (Ty a.l) K]) (by simp[results,results134,go_sem,y0,y1,y2,y3]) rfl (sy.fin H2.out.1 ((c.out.2.1.trans am.out.2).trans H2.out.2) ⟨fi _,S.out.2⟩ ⟨_,rfl,c.out.2.2.2.1.kp ((am.out.2.trans H2.out.2).kp c.out.1)⟩ c.out.2.2.2.2.1 (λq=>c.out.2.2.2.2.2.1 (BK q).1) (λq=>c.out.2.2.1 (BK q).1) _ _ _ _)
 have aa:B.stop=0:=by simp at Q;exact Q.1
 have ac:a.c_=1:=by simp at Q;exact Q.2
 have f:=HR.out;rw[ea Q]at f;have ab:=aB f;have HS:=aB (dy aa ac);have e2:((B.stop:Int) != 0)=Uc:=by simp[aa]
 have e3:((a.c_:Int) != 1)=Uc:=by simp[ac]
 have bx:(bs n.op).toList=n.op:=aX _;obtain⟨P,J⟩:∃P:Bool,P=(n.op==[124,124]):=⟨_,rfl⟩;have hlg2 :=J.symm;have HL:=aB J;rw[<-J]at ab;clear f Q HR aa ac J;by_cases hB:decide (a.n=1)=P
 .have f:=ab.out;rw[ef hB]at f;cases f;have e4:(a.n==1)=P:=by rw[<-hB];rfl
  cases P
  all_goals
   go_wp2_with fail;go_quiet (fail)
   go_wp2_with fail;have O:=c.out.1.re (nI ((dz _ p).alloc mJ (cD #[I_ a.c_,I_ a.n,Q_ (bs a.s),P_ I (Ty a.l) K] 130)) nq);exact bodyPost_ret (v:=Us #[I_ a.c_,I_ a.n,Q_ (bs a.s),P_ I (Ty a.l) K]) (by simp[results,results134,go_sem,z0,z1,z2,z3,X]) rfl (sy.fin O.1 (c.out.2.1.trans O.2) ⟨fi _,S.out.2⟩ ⟨_,rfl,c.out.2.2.2.1.kp (O.2.kp c.out.1)⟩ c.out.2.2.2.2.1 c.out.2.2.2.2.2.1 c.out.2.2.1 _ _ _ _)
 have f:=ab.out;rw[ea hB]at f
 have e4:(a.n==1)= !P:=by rw[show (a.n==1)=decide (a.n=1)from rfl];revert hB;cases decide (a.n=1)<;>cases P<;>simp
 have T:=j.out.2.1.next j.out.2.2.2.2.2.2.2.2.1 HS.out.1
 obtain⟨b,s2,ax,cj⟩:=j.out.2.2.2.2.1 k d e_ y B j.out.2.2.2.2.2.2.1 T j.out.2.2.2.2.2.1;rw[ax]at f;simp only at f;have aq:=aB f;have be:Ty B.g_<=50000:=by rw[show B.g_=s.g_ by unfold aM.g_;rw[(j.out.2.2.2.2.2.2.2.2.1.go HS.out.1).1]];exact j.out.2.2.1
 have HY:=aB (dy T (dy be ax))
 have Z:∀q,Ue Un 79 #[bF m.rb,bF b1] ((eH p #[I_ a.c_,I_ a.n,Q_ (bs a.s),P_ I (Ty a.l) K] 130).drewN q) (sy fs G1 ((eH p #[I_ a.c_,I_ a.n,Q_ (bs a.s),P_ I (Ty a.l) K] 130).drewN q) m1 (b,s2)):=λq=>by have O:=c.out.1.re (nI ((dz _ p).alloc mJ (cD #[I_ a.c_,I_ a.n,Q_ (bs a.s),P_ I (Ty a.l) K] 130)) q);rw[<-c.out.2.1.rb];exact j.out.2.2.2.1 k d d' e_ G1 _ m1 B _ y (b,s2) O.1 HY.out.1 HY.out.2.1 ((j.out.2.2.2.2.2.2.2.1.kp c.out.2.2.2.2.2.2).kp (O.2.kp c.out.1)) j.out.2.2.2.2.2.2.1 bp j.out.2.2.2.2.2.1 HY.out.2.2
 have bm:=aB Z;cases P
 all_goals
  go_wp2_with fail;go_quiet (fail)
  go_wp2_with fail;apply (bm.out nq).mono
  rintro e w3 ⟨u,G3,m3,rfl,⟨d3,cd,rfl,C⟩,ay,ae,t,G,bi⟩;have O:=c.out.1.re (nI ((dz _ p).alloc mJ (cD #[I_ a.c_,I_ a.n,Q_ (bs a.s),P_ I (Ty a.l) K] 130)) nq);have A:=(c.out.2.1.trans O.2).trans G;have ao:=G.i_ ((eh _ _ _ X).trans S.out.1) S.out.2.1
  have al:w.heap.size∉m3.rl:=λq=>(G.mu _ q).elim S.out.2.1 λq=>by have:p.heap.size+1<=w.heap.size:=by simpa using q
                                                                  exact aD
  have ap:¬G3 w.heap.size:=λq=>(G.new _ q).elim S.out.2.2 λq=>by have:p.heap.size+1<=w.heap.size:=by simpa using q
                                                                 exact aD
  obtain⟨x0,x1,x2,x3,xf,ak⟩:=oW ao;have ch:=xf 0;have ck:=xf 1;have cg:=xf 2;have ci:=xf 3;have bn:=(iA t.i_).2.2.2.2.2.2.1;rw[A.rb]at bn;have ag:=t.vw;rw[A.rb]at ag;obtain⟨E,N,rfl⟩:=C.slice;have hf3' :=λq=>(bi q).trans (c.out.2.2.1 HS.out.1)
  have hW:R_ w3 (eH w3 #[I_ b.c_,I_ b.n,Q_ (bs b.s),P_ E (Ty b.l) N] 130):=(dz _ _).alloc mJ _;obtain⟨L,z⟩:=t.re hW;have an:=C.kp (z.kp t);have HO:=aB (qA L (show RV d3 G3 _ (Us #[I_ b.c_,I_ b.n,Q_ (bs b.s),P_ E (Ty b.l) N]) b from ⟨_,aJ,an⟩) 2)
  rw[A.rb]at HO;have H3b:=aB (dy t (dy A C));have o:=aB (dy L (dy (A.trans z) (dy an (dy ay (dy ae (dy hf3' (dy al (dy ap ao))))))));by_cases W:s2.stop≠0\/b.c_≠1
  .have f:=aq.out;rw[ef W]at f;cases f
   have e5:((s2.stop:Int) != 0)=Ud\/((s2.stop:Int) != 0)=Uc/\((b.c_:Int) != 1)=Ud:=by
    by_cases q:s2.stop=0
    .exact .inr ⟨qy,by have:=W.resolve_left aD;simp;exact aD⟩
    exact .inl kj
   rcases e5 with e5|⟨e5,e6⟩
   all_goals
    go_wp2_with fail;apply HO.out.mono
    rintro e w4 ⟨rfl,br,ah⟩;obtain⟨y0,y1,y2,y3,H,bq⟩:=oW (ah.i_ ((eh _ _ _ ak).trans o.out.2.2.2.2.2.2.2.2) o.out.2.2.2.2.2.2.1);have bk:=H 0;have bd:=H 1;have bh:=H 2;have bc:=H 3;have H4:=aB (dy br ah);go_wp2
    exact bodyPost_ret (v:=Us #[I_ b.c_,I_ b.n,Q_ (bs b.s),P_ E (Ty b.l) N]) (by simp[results,results134,go_sem,y0,y1,y2,y3]) rfl (sy.fin H4.out.1 (o.out.2.1.trans H4.out.2) ⟨fi _,o.out.2.2.2.2.2.2.1,o.out.2.2.2.2.2.2.2.1⟩ ⟨_,rfl,o.out.2.2.1.kp (H4.out.2.kp o.out.1)⟩ o.out.2.2.2.1 (λq=>o.out.2.2.2.2.1 (BK q).1) (λq=>o.out.2.2.2.2.2.1 (BK q).1) _ _ _ _)
  have f:=aq.out;rw[ea W]at f;cases f;have e5:((s2.stop:Int) != 0)=Uc:=by simp at W;simp[W.1]
  have e6:((b.c_:Int) != 1)=Uc:=by simp at W;simp[W.2]
  go_wp2
  exact bodyPost_ret (v:=Us #[I_ b.c_,I_ b.n,Q_ (bs b.s),P_ E (Ty b.l) N]) (by simp[results,results134,go_sem,x0,x1,x2,x3,ak]) rfl ((sy.fin H3b.out.1 H3b.out.2.1 ⟨fi _,o.out.2.2.2.2.2.2.1,o.out.2.2.2.2.2.2.2.1⟩ ⟨_,rfl,H3b.out.2.2⟩ o.out.2.2.2.1 o.out.2.2.2.2.1 o.out.2.2.2.2.2.1 _ _ _ _).more ((dz _ _).alloc mJ _))
end
