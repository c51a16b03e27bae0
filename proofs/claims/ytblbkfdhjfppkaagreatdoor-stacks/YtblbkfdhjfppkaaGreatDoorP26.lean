/- Stacks: a session begins: the walk. -/
import Derived.Test.YtblbkfdhjfppkaaGreatDoorP25
set_option linter.defProp false
set_option maxRecDepth 100000
set_option maxHeartbeats 4000000
namespace Go.Proofs.YtblbkfdhjfppkaaGreatDoor
open Hs
open _root_.Go.Proofs.Tryz
open Go.RowKit
def O0:(prog.info? 3).map (fun i=>(i.zero,i.size,i.bytes))=some (some (.int .i64 0),1,8):=by kernel_rfl
def VZ(w:World)(x:ByteArray)(tx:Option Addr)(c:Nat)(cs:List Value)(hn:cs.length<=17592186044416)(h1:∀v∈cs,v.oneCell'=true)(A:World->Prop)(S:Option Addr->Nat->Nat->World->Prop)(R:Option Addr->World->Prop)
 (O:Hid (Calls prog 55 #[] w fun e r=>e=.returned (.bool true)/\A r))
 (Y:Hid (∀W,A W->Below w.heap.size w W/\(0<cs.length->∃d,tx=some d/\d.block<w.heap.size/\∀j v,cs[j]?=some v->w.cell? (d.add j)=some v)))
 (U:Hid (∀W V g,A W->Below W.heap.size W V->V.heap[g]?=some (.cells cs.toArray 3 (0,0))->W.heap.size<=g->Calls prog 32 #[.string x,.slice (some ⟨g,0,none⟩) cs.length cs.length] V fun e r=>∃(p:Option Addr) (k l:Nat),e=.returned (.tuple #[.pointer p,.int .i64 k,.int .i64 l])/\S p k l r))
 (Q:Hid (∀(p:Option Addr) (k l:Nat) W,S p k l W->(p=none↔k≠0)/\Calls prog 15 #[.string x] W fun e r=>e=.returned (.tuple #[.int .i64 k,.int .i64 l])/\R p r)):
 Calls prog 21 #[.string x,.slice tx cs.length c] w fun e r=>∃p,e=.returned (.tuple #[.pointer p,.bool true])/\R p r:=by
 go_enter func21,ntmps21;go_wp2_with fail;refine O.out.mono ?_;rintro e b ⟨rfl,D⟩;have T:=aB D;clear D O
 have E:(Instr.makeSlice 31 (.int .i64 (cs.length:Int)) (.int .i64 (cs.length:Int))).run prog b=.ok (.slice (some ⟨b.heap.size,0,none⟩) cs.length cs.length) (b.alloc (.cells (madeCells #[.int .i64 0] cs.length) 3)):=by
  obtain⟨i0,hi,I,J,K⟩:=info_parts O0;have:=run_make (P:=prog) b 31 3 i0 _ underlying31 hi I .i64 .i64 cs.length cs.length (by omega) (Int.le_refl _) (by rw[K];omega) (by omega)
  rw[J,b4_] at this;exact this
 obtain⟨a,m,u⟩:∃a:List Value,madeCells #[Value.int .i64 0] cs.length=a.toArray/\a.length=cs.length:=⟨(madeCells #[Value.int .i64 0] cs.length).toList,by simp,by simp[size_madeCells]⟩
 rw[m] at E;obtain⟨t,o⟩:=Y.out _ T.out;have s:Below b.heap.size b (b.alloc (.cells a.toArray 3)):=(ay_ _ _).alloc (au_ _) _;have h:(b.alloc (.cells a.toArray 3)).heap[b.heap.size]?=some (.cells a.toArray 3 (0,0)):=aM _ _ rfl _
 have i:0<cs.length->(some ⟨b.heap.size,0,none⟩:Option Addr)=some ⟨b.heap.size,0,none⟩/\∃d,tx=some d/\∀j v,cs[j]?=some v->(b.alloc (.cells a.toArray 3)).cell? (d.add j)=some v:=fun hp=>by
  obtain⟨d,q1,q2,q3⟩:=o hp;refine⟨rfl,d,q1,fun j v hv=>?_⟩
  have y:(d.add j).block=d.block:=by unfold Addr.add;split<;>rfl
  rw[World.cell?_of_block (w:=b) (aA_ _ _ _ (by rw[y];have:=t.size;omega)),World.cell?_of_block (w:=w) (t.block _ (by rw[y];exact q2))]
  exact q3 j v hv
 have n:(prog.info? 3).map (·.size)=some 1:=by kernel_rfl
 obtain⟨H,Z,z,F⟩:∃H:World,(Builtin.copy_ #[31,31] 3 #[.slice (some ⟨b.heap.size,0,none⟩) cs.length cs.length,.slice tx cs.length c]).run prog (b.alloc (.cells a.toArray 3))=.ok (goInt cs.length) H/\H.heap[b.heap.size]?=some (.cells cs.toArray 3 (0,0))/\Below b.heap.size b H:=by
  by_cases h0:cs.length=0
  ·obtain rfl:cs=[]:=aN_ h0;obtain rfl:a=[]:=aN_ u;exact⟨_,run_copy_none (P:=prog) _ 31 31 3 3 _ tx 0 0 0 c underlying31 n rfl,h,s⟩
  ·obtain⟨_,d,rfl,hs⟩:=i (by omega)
   refine⟨_,run_copy_row (P:=prog) (b.alloc (.cells a.toArray 3)) 31 31 3 3 b.heap.size 0 cs.length cs.length d cs.length c a.toArray 3 cs underlying31 n h (Nat.min_self _).symm hs (by simp;omega) h1,?_,below_setRow s (au_ _) _⟩
   have:=setRow_heap (b.alloc (.cells a.toArray 3)) b.heap.size a.toArray (a.take 0++cs++a.drop (0+cs.length)).toArray 3 _ h;simp only[List.take_zero,by_,bk_,ba_ (Nat.le_of_eq u),bY_] at this ⊢
   simpa [ba_ (Nat.le_of_eq u)] using this
 clear t o m i s h Y;go_wp2_with fail;have C:=aB (U.out _ _ _ T.out F z (au_ _));clear z F E U;go_wp2_with fail;refine C.out.mono ?_;rintro e w3 ⟨p,k,l,rfl,X⟩;obtain⟨f,G⟩:=Q.out _ _ _ _ X;have B:=aB G;clear X G Q C;go_wp2_with fail;refine B.out.mono ?_;rintro e w4 ⟨rfl,N⟩;have L:=aB N;clear N B;by_cases M:k=0
 ·subst M
  obtain⟨q,rfl⟩:∃q,p=some q:=by
   cases p with
   |none=>exact absurd rfl (f.1 rfl)
   |some q=>exact⟨q,rfl⟩
  clear f;go_wp2_with fail;go_ret2
  exact⟨_,rfl,L.out⟩
 ·obtain rfl:=f.2 M;have e0:((k:Int) != 0)=true:=by simp;omega
  clear f;go_wp2_with fail;go_ret2
  exact⟨_,rfl,L.out⟩
def NF(w:World)(aa:ByteArray)(tx:Option Addr)(n c:Nat)(B:Option Addr->World->Prop)(R:World->Prop)(I J K:Nat->Nat->SV->Nat->World->Prop)(J1 K1:Nat->Nat->SV->Nat->SV->Nat->World->Prop)(K2:Nat->Nat->SV->Nat->SV->Nat->SV->Nat->World->Prop)(K3:Nat->Nat->SV->Nat->SV->Nat->World->Prop)(K4:Nat->Nat->SV->Nat->SV->Nat->SV->Nat->World->Prop)
 (HB:Hid (Calls prog 21 #[.string aa,.slice tx n c] w fun e a=>∃p,e=.returned (.tuple #[.pointer p,.bool true])/\B p a))
 (HZ:Hid (∀p W,B p W->(p=none/\R W)\/∃sb,p=some ⟨sb,0,none⟩/\Calls prog 23 #[.pointer (some ⟨sb,0,none⟩)] W fun e a=>∃m:SV,e=.returned m.val/\m.t=0/\m.n3=0/\I sb 0 m a.heap.size (a.alloc (.cells m.cells 63))))
 (HI:Hid (∀sb t m ab W,I sb t m ab W->W.heap[ab]?=some (.cells m.cells 63 (0,0))/\t<=500/\Calls prog 27 #[.slice m.x2 m.n2 m.c2] W fun e a=>e=.returned (.bool true)/\J sb t m ab a))
 (HJ:Hid (∀sb t m ab W,J sb t m ab W->Calls prog 28 #[.pointer (some ⟨sb,0,none⟩)] W fun e a=>a.heap[ab]?=some (.cells m.cells 63 (0,0))/\((e=.returned (.bool false)/\m.q≠0/\R a)\/(e=.returned (.bool true)/\m.q=0/\t<500/\K sb t m ab a))))
 (HK:Hid (∀sb t m ab W,K sb t m ab W->Calls prog 23 #[.pointer (some ⟨sb,0,none⟩)] W fun e a=>∃b:SV,e=.returned b.val/\J1 sb t m ab b a.heap.size (a.alloc (.cells b.cells 63))))
 (E:Hid (∀sb t m ab b h W,J1 sb t m ab b h W->W.heap[ab]?=some (.cells m.cells 63 (0,0))/\W.heap[h]?=some (.cells b.cells 63 (0,0))/\Calls prog 29 #[m.val,b.val] W fun e a=>e=.returned (.bool true)/\Calls prog 30 #[.pointer (some ⟨sb,0,none⟩)] a fun e a=>e=.returned (.bool true)/\K1 sb t m ab b h a))
 (z:Hid (∀sb t m ab b h W,K1 sb t m ab b h W->Calls prog 23 #[.pointer (some ⟨sb,0,none⟩)] W fun e a=>∃u:SV,e=.returned u.val/\K2 sb t m ab b h u a.heap.size (a.alloc (.cells u.cells 63))))
 (C:Hid (∀sb t m ab b h u cb W,K2 sb t m ab b h u cb W->W.heap[ab]?=some (.cells m.cells 63 (0,0))/\W.heap[cb]?=some (.cells u.cells 63 (0,0))/\Calls prog 25 #[m.val,u.val] W fun e a=>e=.returned (.bool true)/\Calls prog 28 #[.pointer (some ⟨sb,0,none⟩)] a fun e a=>e=.returned (.bool true)/\K3 sb t m ab b h a))
 (D:Hid (∀sb t m ab b h W,K3 sb t m ab b h W->Calls prog 23 #[.pointer (some ⟨sb,0,none⟩)] W fun e a=>∃r:SV,e=.returned r.val/\K4 sb t m ab b h r a.heap.size (a.alloc (.cells r.cells 63))))
 (F:Hid (∀sb t m ab b h r db W,K4 sb t m ab b h r db W->W.heap[h]?=some (.cells b.cells 63 (0,0))/\W.heap[db]?=some (.cells r.cells 63 (0,0))/\Calls prog 25 #[b.val,r.val] W fun e a=>e=.returned (.bool true)/\a.heap[ab]?=some (.cells m.cells 63 (0,0))/\a.heap[h]?=some (.cells b.cells 63 (0,0))/\I sb (t+1) b ab (dR a ab b))):
 Calls prog 10 #[.string aa,.slice tx n c] w fun e a=>e=.returned (.bool true)/\R a:=by
 go_enter func10,ntmps10;go_wp2_with fail;refine HB.out.mono ?_;rintro e w1 ⟨p,rfl,h1⟩;clear HB;rcases HZ.out _ _ h1 with ⟨rfl,hr⟩|⟨sb,rfl,hn⟩
 ·have HR:=aB hr;clear hr h1 HZ HI HJ HK E z C D F;go_wp2_with fail;go_ret;exact⟨rfl,HR.out⟩
 ·have HN:=aB hn;clear hn h1 HZ;go_wp2_with fail;refine HN.out.mono ?_;rintro e w2 ⟨⟨z1,x1,x2,x3,k1,k2,k3,d1,d2,d3,q⟩,rfl,t0,n0,h2⟩;simp only at t0 n0;subst t0 n0;have H2:=aB h2;unfold SV.val;clear HN h2;go_wp2_with fail;go_loopg [8] 501 (fun gk i wr=>∃(t:Nat) (m:SV),i=.int .i64 t/\gk+t=501/\I sb t m w2.heap.size wr)
  case atStart=>exact⟨0,_,rfl,rfl,H2.out⟩
  case round=>
   obtain⟨t,m,rfl,hg,hI⟩:=hrel;obtain⟨y1,y2,y3⟩:=HI.out _ _ _ _ _ hI;obtain⟨gj,rfl⟩:∃gj,gk=gj+1:=⟨gk-1,by omega⟩
   have HO:=aB y3;unfold SV.cells at y1;have c2:=aA (i:=2) y1 rfl;have l1:=aD y1;have e1:(t:Int)<=500:=by omega
   clear y1 y3 hI H2;go_wp2_with fail;refine HO.out.mono ?_;rintro e w3 ⟨rfl,h3⟩;have A:=aB (HJ.out _ _ _ _ _ h3);clear h3 HO c2 l1;go_wp2_with fail;refine A.out.mono ?_;rintro e w4 ⟨y,(⟨rfl,hq,hr⟩|⟨rfl,hq,ht,h4⟩)⟩
   ·unfold SV.cells at y;have c4:=aA (i:=4) y rfl;have l4:=aD y;have e2:((m.q:Int) != 0)=true:=by simp;omega
    have HR:=aB hr;clear hr A y HI HJ HK E z C D F;go_wp2_with fail;go_ret;exact⟨rfl,HR.out⟩
   ·unfold SV.cells at y;have c4:=aA (i:=4) y rfl;have l4:=aD y;rw[hq] at c4;clear hq;have X:=aB (HK.out _ _ _ _ _ h4);clear A y h4;go_wp2_with fail;refine X.out.mono ?_;rintro e w5 ⟨b,rfl,h5⟩;obtain⟨v,x,hf⟩:=E.out _ _ _ _ _ _ _ h5;have HF:=aB hf;unfold SV.cells at v x;unfold SV.val at HF;unfold SV.cells at HF;have O:=aA (i:=0) v rfl;have M:=aA (i:=1) v rfl;have P:=aA (i:=2) v rfl;have S:=aA (i:=3) v rfl;have N:=aA (i:=4) v rfl;have T:=aD v;have H:=aA (i:=0) x rfl;have L:=aA (i:=1) x rfl;have U:=aA (i:=2) x rfl;have G:=aA (i:=3) x rfl;have V:=aA (i:=4) x rfl;have Q:=aD x;unfold SV.val;clear c4 l4 X h5 hf v x;go_wp2_with fail;refine HF.out.mono ?_;rintro e w6 ⟨rfl,hb⟩;have ae:=aB hb;clear HF hb O M P S N T H L U G V Q;go_wp2_with fail;refine ae.out.mono ?_;rintro e w7 ⟨rfl,h7⟩;have ac:=aB (z.out _ _ _ _ _ _ _ h7);clear ae h7;go_wp2_with fail;refine ac.out.mono ?_;rintro e w8 ⟨u,rfl,h8⟩;obtain⟨o,k,hs⟩:=C.out _ _ _ _ _ _ _ _ _ h8;have f:=aB hs;unfold SV.cells at o k;unfold SV.val at f;unfold SV.cells at f;have O:=aA (i:=0) o rfl;have M:=aA (i:=1) o rfl;have P:=aA (i:=2) o rfl;have S:=aA (i:=3) o rfl;have N:=aA (i:=4) o rfl;have T:=aD o;have H:=aA (i:=0) k rfl;have L:=aA (i:=1) k rfl;have U:=aA (i:=2) k rfl;have G:=aA (i:=3) k rfl;have V:=aA (i:=4) k rfl;have Q:=aD k;unfold SV.val;clear ac h8 hs o k;go_wp2_with fail;refine f.out.mono ?_;rintro e w9 ⟨rfl,af⟩;have ah:=aB af;clear f af O M P S N T H L U G V Q;go_wp2_with fail;refine ah.out.mono ?_;rintro e aj ⟨rfl,Y⟩;have l:=aB (D.out _ _ _ _ _ _ _ Y);clear ah Y;go_wp2_with fail;refine l.out.mono ?_;rintro e ai ⟨r,rfl,ag⟩;obtain⟨s,g,hs⟩:=F.out _ _ _ _ _ _ _ _ _ ag;have f:=aB hs;unfold SV.cells at s g;unfold SV.val at f;unfold SV.cells at f;have O:=aA (i:=0) s rfl;have M:=aA (i:=1) s rfl;have P:=aA (i:=2) s rfl;have S:=aA (i:=3) s rfl;have N:=aA (i:=4) s rfl;have T:=aD s;have H:=aA (i:=0) g rfl;have L:=aA (i:=1) g rfl;have U:=aA (i:=2) g rfl;have G:=aA (i:=3) g rfl;have V:=aA (i:=4) g rfl;have Q:=aD g;unfold SV.val;clear l ag hs s g;go_wp2_with fail;refine f.out.mono ?_;rintro e ak ⟨rfl,d,j,ad⟩;have Z:=aB ad;unfold dR at Z;clear f ad O M P S N T H L U G V Q;have O:=aA (i:=0) d rfl;have M:=aA (i:=1) d rfl;have P:=aA (i:=2) d rfl;have S:=aA (i:=3) d rfl;have N:=aA (i:=4) d rfl;have T:=aD d;have f0:=aE (i:=0) d;have f1:=aE (i:=1) d;have f2:=aE (i:=2) d;have f3:=aE (i:=3) d;have f4:=aE (i:=4) d;have H:=aA (i:=0) j rfl;have L:=aA (i:=1) j rfl;have U:=aA (i:=2) j rfl;have G:=aA (i:=3) j rfl;have V:=aA (i:=4) j rfl;have Q:=aD j;clear d j;go_wp2_with fail;go_roundg gj
    case measure=>omega
    case rel=>exact⟨t+1,b,by go_num,by omega,Z.out⟩
def WW:∀a b:List UInt8,Op.bytesLess a b=decide (Lib.compareBytes a b<0)
 |[],[]=>rfl
 |[],_::_=>by simp[Op.bytesLess,Lib.compareBytes]
 |_::_,[]=>by simp[Op.bytesLess,Lib.compareBytes]
 |a::l,b::m=>by
  rw[Op.bytesLess,Lib.compareBytes,WW l m];by_cases c:a<b
  ·simp[c]
  ·by_cases d:b<a
   ·have:¬a=b:=fun e=>by subst e;exact c d
    simp[c,d,this]
   ·obtain rfl:a=b:=b3_ (bQ_.1 d) (bQ_.1 c);simp[c]
def xX(x:Option Addr)(c:Nat)(W:World)(a:List (List UInt8))(z:a.length<=90001)
 (p:∀i (h:i<a.length),∃g,x=some ⟨g,0,none⟩/\W.cell? ⟨g,i*2,none⟩=some (.string (bs a[i]))/\g<W.heap.size) (f:∀i (h:i+1<a.length),Lib.compareBytes a[i] a[i+1]<0):
 Calls prog 27 #[.slice x a.length c] W fun e q=>e=.returned (.bool true)/\aQ W q:=by
 have o:=aB p;have s:=aB f;clear p f;go_enter func27,ntmps27;go_wp2_with fail;go_loopg [3] a.length (fun gk i wr=>∃j:Nat,j+gk=a.length/\i=.int .i64 ((j+1:Nat):Int)/\aQ W wr)
 case atStart=>exact⟨0,by omega,rfl,aQ.refl _⟩
 case round=>
  obtain⟨j,C,rfl,b⟩:=hrel;by_cases d:j+1<a.length
  ·obtain⟨m,rfl⟩:∃m,gk=m+1:=⟨gk-1,by omega⟩
   obtain⟨g,rfl,l,u⟩:=o.out j (by omega)
   obtain⟨w,r,n,_⟩:=o.out (j+1) d;cases r;have f:=s.out j d;have v:=bB b.heap l;have A:=bB b.heap n;have E:=gM b.heap u;have B:(0:Int)<=(j:Int):=by omega
   have y:(j:Int)<(a.length:Int):=by omega
   have t:(j:Int)+1<(a.length:Int):=by omega
   have D:Op.bytesLess (bs a[j]).toList (bs a[j+1]).toList=true:=by rw[cA,cA,WW];simp[f]
   have k:=aB b;clear l n b;go_wp2_with fail;go_quiet (fail)
   go_wp2_with fail;go_roundg m
   case measure=>omega
   case rel=>exact⟨j+1,by omega,by go_num,k.out.trans (aQ.drewN _ _)⟩
  ·have t:¬(j:Int)+1<(a.length:Int):=by omega
   have k:=aB b;clear b;go_wp2_with fail;go_ret;exact⟨rfl,k.out⟩
def j0(W:World)(x y:Option Addr)(l:List (Value × Value)):Prop:=∀i (h:i<l.length),∃g g',x=some ⟨g,0,none⟩/\y=some ⟨g',0,none⟩/\W.cell? ⟨g,i*2,none⟩=some l[i].1/\W.cell? ⟨g,i*2+1,none⟩=some l[i].2/\W.cell? ⟨g',i*2,none⟩=some l[i].1/\W.cell? ⟨g',i*2+1,none⟩=some l[i].2/\g<W.heap.size/\g'<W.heap.size
def r9(W:World)(x y:Option Addr)(l:List (List UInt8)):Prop:=∀i (h:i<l.length),∃g g',x=some ⟨g,0,none⟩/\y=some ⟨g',0,none⟩/\W.cell? ⟨g,i,none⟩=some (.string (bs l[i]))/\W.cell? ⟨g',i,none⟩=some (.string (bs l[i]))/\g<W.heap.size/\g'<W.heap.size
def YJ(W f:World)(a b:SV)(h:List (List UInt8 × Nat))(k:List (List UInt8 × List UInt8))(lo:List (List UInt8))(hl:h.length<=1000000/\k.length<=1000000/\lo.length<=1000000)
 (et:b.t=a.t) (eq:b.q=a.q) (n1:a.n1=h.length) (n2:a.n2=k.length) (n3:a.n3=lo.length) (I:b.n1=h.length) (K:b.n2=k.length) (X:b.n3=lo.length)
 (U:(W.alloc (.cells a.cells 63)).alloc (.cells b.cells 63)=f)
 (hS:j0 f a.x1 b.x1 (kV h)) (hV:j0 f a.x2 b.x2 (k.map fun p=>(.string (bs p.1),.string (bs p.2)))) (hO:r9 f a.x3 b.x3 lo):
 Calls prog 25 #[a.val,b.val] W fun e w'=>e=.returned (.bool true)/\aQ f w':=by
 obtain⟨aa,N,T,M,ae,ab,ad,P,H,Q,aq⟩:=a;obtain⟨bt,O,S,Y,ag,ac,af,J,L,Z,bq⟩:=b;simp only at et eq n1 n2 n3 I K X hS hV hO;subst et eq n1 n2 n3 I K X;unfold SV.cells at U;have r:f.heap[W.heap.size]?=some (.cells #[.int .i64 bt,.slice N h.length P,.slice T k.length H,.slice M lo.length Q,.int .i64 bq] 63 (0,0)):=by rw[<-U];exact jM _ _ _
 have s:f.heap[W.heap.size+1]?=some (.cells #[.int .i64 bt,.slice O h.length J,.slice S k.length L,.slice Y lo.length Z,.int .i64 bq] 63 (0,0)):=by rw[<-U];exact gO _ _ _
 have HW:=aB U;have HS:=aB hS;have HV:=aB hV;have HO:=aB hO;have CA:Hid (∀(V:World),aQ f V->V.cell? ⟨W.heap.size,0,none⟩=some (.int .i64 bt)/\V.cell? ⟨W.heap.size,1,none⟩=some (.slice N h.length P)/\V.cell? ⟨W.heap.size,2,none⟩=some (.slice T k.length H)/\V.cell? ⟨W.heap.size,3,none⟩=some (.slice M lo.length Q)/\V.cell? ⟨W.heap.size,4,none⟩=some (.int .i64 bq)/\W.heap.size<V.heap.size):=aB fun V c=>⟨bB c.heap (aA r rfl),bB c.heap (aA r rfl),bB c.heap (aA r rfl),bB c.heap (aA r rfl),bB c.heap (aA r rfl),gM c.heap (aD r)⟩
 have CB:Hid (∀(V:World),aQ f V->V.cell? ⟨W.heap.size+1,0,none⟩=some (.int .i64 bt)/\V.cell? ⟨W.heap.size+1,1,none⟩=some (.slice O h.length J)/\V.cell? ⟨W.heap.size+1,2,none⟩=some (.slice S k.length L)/\V.cell? ⟨W.heap.size+1,3,none⟩=some (.slice Y lo.length Z)/\V.cell? ⟨W.heap.size+1,4,none⟩=some (.int .i64 bq)/\W.heap.size+1<V.heap.size):=aB fun V c=>⟨bB c.heap (aA s rfl),bB c.heap (aA s rfl),bB c.heap (aA s rfl),bB c.heap (aA s rfl),bB c.heap (aA s rfl),gM c.heap (aD s)⟩
 obtain⟨A,y,B,D,z,E⟩:=CA.out f (aQ.refl _);obtain⟨w,x,F,v,G,C⟩:=CB.out f (aQ.refl _);clear U r s hS hV hO;unfold SV.val;go_enter func25,ntmps25;go_wp2_with fail;rw[HW.out];go_wp2_with fail;clear A y B D z E w x F v G C;go_loopg [5] h.length (fun gk i wr=>∃j:Nat,j+gk=h.length/\i=.int .i64 j/\aQ f wr)
 case atStart=>exact⟨0,by omega,rfl,aQ.refl _⟩
 case round=>
  obtain⟨j,hj,rfl,d⟩:=hrel;obtain⟨A,y,B,D,z,E⟩:=CA.out _ d;obtain⟨w,x,F,v,G,C⟩:=CB.out _ d;have q:=aB d;by_cases l:j<h.length
  ·obtain⟨m,rfl⟩:∃m,gk=m+1:=⟨gk-1,by omega⟩
   obtain⟨g,g',rfl,rfl,o,t,n,u,q5,q6⟩:=HS.out j (by simpa [kV] using l)
   simp only[kV,List.getElem_map] at o t n u;replace o:=bB d.heap o
   replace t:=bB d.heap t
   replace n:=bB d.heap n
   replace u:=bB d.heap u
   have e1:(0:Int)<=(j:Int):=by omega
   have e2:(j:Int)<(h.length:Int):=by omega
   clear d;go_wp2_with fail;go_quiet (fail)
   go_wp2_with fail;go_roundg m
   case measure=>omega
   case rel=>exact⟨j+1,by omega,by go_num,q.out.trans (aQ.drewN _ _)⟩
  ·have e3:¬(j:Int)<(h.length:Int):=by omega
   clear d;go_wp2_with fail;clear A y B D z E w x F v G C;go_loopg [6] k.length (fun gk i wr=>∃j:Nat,j+gk=k.length/\i=.int .i64 j/\aQ f wr)
   case atStart=>exact⟨0,by omega,rfl,q.out⟩
   case round=>
    clear q;obtain⟨j,hj,rfl,d⟩:=hrel;obtain⟨A,y,B,D,z,E⟩:=CA.out _ d;obtain⟨w,x,F,v,G,C⟩:=CB.out _ d;have q:=aB d;by_cases l:j<k.length
    ·obtain⟨m,rfl⟩:∃m,gk=m+1:=⟨gk-1,by omega⟩
     obtain⟨g,g',rfl,rfl,o,t,n,u,q5,q6⟩:=HV.out j (by simpa using l)
     simp only[List.getElem_map] at o t n u;replace o:=bB d.heap o
     replace t:=bB d.heap t
     replace n:=bB d.heap n
     replace u:=bB d.heap u
     have e1:(0:Int)<=(j:Int):=by omega
     have e2:(j:Int)<(k.length:Int):=by omega
     clear d;go_wp2_with fail;go_quiet (fail)
     go_wp2_with fail;go_roundg m
     case measure=>omega
     case rel=>exact⟨j+1,by omega,by go_num,q.out.trans (aQ.drewN _ _)⟩
    ·have e3:¬(j:Int)<(k.length:Int):=by omega
     clear d;go_wp2_with fail;clear A y B D z E w x F v G C;go_loopg [7] lo.length (fun gk i wr=>∃j:Nat,j+gk=lo.length/\i=.int .i64 j/\aQ f wr)
     case atStart=>exact⟨0,by omega,rfl,q.out⟩
     case round=>
      clear q;obtain⟨j,hj,rfl,d⟩:=hrel;obtain⟨A,y,B,D,z,E⟩:=CA.out _ d;obtain⟨w,x,F,v,G,C⟩:=CB.out _ d;have q:=aB d;by_cases l:j<lo.length
      ·obtain⟨m,rfl⟩:∃m,gk=m+1:=⟨gk-1,by omega⟩
       obtain⟨g,g',rfl,rfl,o,n,q5,q6⟩:=HO.out j l;replace o:=bB d.heap o
       replace n:=bB d.heap n
       have e1:(0:Int)<=(j:Int):=by omega
       have e2:(j:Int)<(lo.length:Int):=by omega
       clear d;go_wp2_with fail;go_quiet (fail)
       go_wp2_with fail;go_roundg m
       case measure=>omega
       case rel=>exact⟨j+1,by omega,by go_num,q.out.trans (aQ.drewN _ _)⟩
      ·have e3:¬(j:Int)<(lo.length:Int):=by omega
       clear d;go_wp2_with fail;go_ret;exact⟨rfl,q.out⟩
def LG(W h:World)(a b:SV)(n lb:List (List UInt8 × Nat))(k l:List (List UInt8))(hl:n.length<=1000000/\lb.length<=n.length+1/\k.length<=l.length/\l.length<=1000000/\a.t<=1000000)
 (et:b.t=a.t+1) (eq:a.q=0) (n1:a.n1=n.length) (n3:a.n3=k.length) (t:b.n1=lb.length) (C:b.n3=l.length)
 (q:(W.alloc (.cells a.cells 63)).alloc (.cells b.cells 63)=h)
 (P:r9 h a.x3 b.x3 k) (hS:j0 h a.x1 b.x1 (kV lb.dropLast)):
 Calls prog 29 #[a.val,b.val] W fun e w'=>e=.returned (.bool true)/\aQ h w':=by
 obtain⟨f,y,Z,x,ac,O,aa,A,Q,B,aq⟩:=a;obtain⟨bt,z,Y,D,ai,S,ag,u,T,E,bq⟩:=b;simp only at et eq n1 n3 t C hS P hl;subst et eq n1 n3 t C;obtain⟨ab,ae,ad,af,ah⟩:=hl;unfold SV.cells at q;have ec:((f+1:Nat):Int)=(f:Int)+1:=by omega
 have ez:((0:Nat):Int)=0:=rfl;simp only[ec,ez] at q;have p:h.heap[W.heap.size]?=some (.cells #[.int .i64 f,.slice y n.length A,.slice Z O Q,.slice x k.length B,.int .i64 0] 63 (0,0)):=by rw[<-q];exact jM _ _ _
 have w:h.heap[W.heap.size+1]?=some (.cells #[.int .i64 ((f:Int)+1),.slice z lb.length u,.slice Y S T,.slice D l.length E,.int .i64 bq] 63 (0,0)):=by rw[<-q];exact gO _ _ _
 have HW:=aB q;have HS:=aB hS;have HO:=aB P;have CA:Hid (∀(V:World),aQ h V->V.cell? ⟨W.heap.size,0,none⟩=some (.int .i64 f)/\V.cell? ⟨W.heap.size,1,none⟩=some (.slice y n.length A)/\V.cell? ⟨W.heap.size,3,none⟩=some (.slice x k.length B)/\V.cell? ⟨W.heap.size,4,none⟩=some (.int .i64 0)/\W.heap.size<V.heap.size):=aB fun V c=>⟨bB c.heap (aA p rfl),bB c.heap (aA p rfl),bB c.heap (aA p rfl),bB c.heap (aA p rfl),gM c.heap (aD p)⟩
 have U:Hid (∀(V:World),aQ h V->V.cell? ⟨W.heap.size+1,0,none⟩=some (.int .i64 ((f:Int)+1))/\V.cell? ⟨W.heap.size+1,1,none⟩=some (.slice z lb.length u)/\V.cell? ⟨W.heap.size+1,3,none⟩=some (.slice D l.length E)/\W.heap.size+1<V.heap.size):=aB fun V c=>⟨bB c.heap (aA w rfl),bB c.heap (aA w rfl),bB c.heap (aA w rfl),gM c.heap (aD w)⟩
 obtain⟨K,I,M,J,N⟩:=CA.out h (aQ.refl _);obtain⟨G,H,F,L⟩:=U.out h (aQ.refl _);have z1:¬(l.length:Int)<(k.length:Int):=by omega
 have z2:¬(n.length:Int)+1<(lb.length:Int):=by omega
 clear q p w hS P;unfold SV.val;simp only[ec,ez];go_enter func29,ntmps29;go_wp2_with fail;rw[HW.out];go_wp2_with fail;clear K I M J N G H F L;go_loopg [5] k.length (fun gk i wr=>∃j:Nat,j+gk=k.length/\i=.int .i64 j/\aQ h wr)
 case atStart=>exact⟨0,by omega,rfl,aQ.refl _⟩
 case round=>
  obtain⟨j,hj,rfl,d⟩:=hrel;obtain⟨K,I,M,J,N⟩:=CA.out _ d;obtain⟨G,H,F,L⟩:=U.out _ d;have s:=aB d;by_cases v:j<k.length
  ·obtain⟨m,rfl⟩:∃m,gk=m+1:=⟨gk-1,by omega⟩
   obtain⟨g,g',rfl,rfl,r,o,q5,q6⟩:=HO.out j v;replace r:=bB d.heap r
   replace o:=bB d.heap o
   have e1:(0:Int)<=(j:Int):=by omega
   have e2:(j:Int)<(k.length:Int):=by omega
   have e4:(j:Int)<(l.length:Int):=by omega
   clear d;go_wp2_with fail;go_quiet (fail)
   go_wp2_with fail;go_roundg m
   case measure=>omega
   case rel=>exact⟨j+1,by omega,by go_num,s.out.trans (aQ.drewN _ _)⟩
  ·have e3:¬(j:Int)<(k.length:Int):=by omega
   clear d;go_wp2_with fail;clear K I M J N G H F L;go_loopg [6] lb.length (fun gk i wr=>∃j:Nat,j+gk=lb.length/\i=.int .i64 j/\aQ h wr)
   case atStart=>exact⟨0,by omega,rfl,s.out⟩
   case round=>
    clear s;obtain⟨j,hj,rfl,d⟩:=hrel;obtain⟨K,I,M,J,N⟩:=CA.out _ d;obtain⟨G,H,F,L⟩:=U.out _ d;have s:=aB d;by_cases v:j+1<lb.length
    ·obtain⟨m,rfl⟩:∃m,gk=m+1:=⟨gk-1,by omega⟩
     obtain⟨g,g',rfl,rfl,r,X,o,q4,q5,q6⟩:=HS.out j (by simp[kV];omega)
     simp only[kV,List.getElem_map] at r X o q4;replace r:=bB d.heap r
     replace X:=bB d.heap X
     replace o:=bB d.heap o
     replace q4:=bB d.heap q4
     have e1:(0:Int)<=(j:Int):=by omega
     have e2:(j:Int)+1<(lb.length:Int):=by omega
     have e4:(j:Int)<(lb.length:Int):=by omega
     have e5:(j:Int)<(n.length:Int):=by omega
     clear d;go_wp2_with fail;go_quiet (fail)
     go_wp2_with fail;go_roundg m
     case measure=>omega
     case rel=>exact⟨j+1,by omega,by go_num,s.out.trans (aQ.drewN _ _)⟩
    ·have e3:¬(j:Int)+1<(lb.length:Int):=by omega
     clear d;go_wp2_with fail;go_ret;exact⟨rfl,s.out⟩
noncomputable def MS(s:bI):List (List UInt8 × List UInt8):=match s.m.frames.getLast? with
 |none=>[]
 |some f=>(gB f.seen).map fun x=>(x,JH f x)
def G4(s:bI):pE s=(MS s).map fun p=>(.string (bs p.1),.string (bs p.2)):=by
 unfold pE MS;cases s.m.frames.getLast? with
 |none=>rfl
 |some f=>simp[lD]
def fU.len{base:Nat}{w:World}{x:Option Addr}{n c:Nat}{l:List (Value × Value)}(h:fU base w (.slice x n c) l):n=l.length:=by
 obtain⟨b,a,e,_⟩:=h;cases e;rfl
def pB.len{base:Nat}{w:World}{x:Option Addr}{n c:Nat}{l:List (List UInt8)}(h:pB base w (.slice x n c) l):n=l.length:=by
 obtain⟨b,a,e,_⟩:=h;cases e;rfl
def up2(W:World)(o p:Obj){k:Nat}(a:k<W.heap.size):((W.alloc o).alloc p).heap[k]?=W.heap[k]?:=by
 rw[aA_ _ _ _ (by simp;omega),aA_ _ _ _ a]
def fU.two{b z:Nat}{W j:World}{x y:Option Addr}{n u c c':Nat}{l m:List (Value × Value)}(h:fU b W (.slice x n c) l)(k:fU z W (.slice y u c') m)(H:W.heap.size<=j.heap.size)(a:∀k,k<W.heap.size->j.heap[k]?=W.heap[k]?){d:List (Value × Value)}(B:d<+:l)(v:d<+:m):j0 j x y d:=by
 obtain⟨G,c',e,h⟩:=h;obtain⟨F,E,C,k⟩:=k;cases e;cases C;obtain⟨J,rfl⟩:=B;obtain⟨I,rfl⟩:=v;intro i D;obtain⟨g,A,t,p,_,r⟩:=h i (by simp;omega)
 obtain⟨f,w,s,o,_,q⟩:=k i (by simp;omega)
 rw[bv_ D] at t p s o;exact⟨g,f,A,w,(World.cell?_of_block (a g r)).trans t,(World.cell?_of_block (a g r)).trans p,(World.cell?_of_block (a f q)).trans s,(World.cell?_of_block (a f q)).trans o,by omega,by omega⟩
def pB.two{b r:Nat}{W a:World}{x y:Option Addr}{n p c c':Nat}{l m:List (List UInt8)}(h:pB b W (.slice x n c) l)(k:pB r W (.slice y p c') m)(D:W.heap.size<=a.heap.size)(f:∀k,k<W.heap.size->a.heap[k]?=W.heap[k]?)(t:l<+:m):r9 a x y l:=by
 obtain⟨C,c',e,h⟩:=h;obtain⟨B,z,u,k⟩:=k;cases e;cases u;obtain⟨E,rfl⟩:=t;intro i j;obtain⟨g,s,A,_,w⟩:=h i j;obtain⟨d,q,o,_,v⟩:=k i (by simp;omega)
 rw[bv_ j] at o;exact⟨g,d,s,q,(World.cell?_of_block (f g w)).trans A,(World.cell?_of_block (f d v)).trans o,by omega,by omega⟩
structure Short(s:bI):Prop where
 deep:s.m.frames.length<=16
 out:s.m.out.length<=1000000
 vars:(MS s).length<=1000000
 time:s.time<=500
def NT{b t:Nat}{W:World}{m a:SV}{s:bI}(h:oK b W m s)(k:oK t W a s)(l:Short s):
 Calls prog 25 #[m.val,a.val] W fun e p=>e=.returned (.bool true)/\Below W.heap.size W p:=by
 have g:W.heap.size<=((W.alloc (.cells m.cells 63)).alloc (.cells a.cells 63)).heap.size:=by simp;omega
 have j:=fun k u=>up2 W (.cells m.cells 63) (.cells a.cells 63) (k:=k) u
 have o:=h.vars;have n:=k.vars;rw[G4] at o n;have q:=h.stack.len;have c:=k.stack.len;have r:=o.len;have d:=n.len;have v:=h.out.len;have i:=k.out.len;simp only[kV,bV,bR_] at q c r d;refine(YJ W _ m a (bV s.m.frames) (MS s) s.m.out ⟨by simp[bV];have:=l.deep;omega,l.vars,l.out⟩ (by rw[h.t,k.t]) (by rw[h.q,k.q]) (by simp[bV];exact q) r v (by simp[bV];exact c) d i rfl (h.stack.two k.stack g j (bG_ _) (bG_ _)) (o.two n g j (bG_ _) (bG_ _)) (h.out.two k.out g j (bG_ _))).mono ?_
 rintro e p ⟨rfl,f⟩;exact⟨rfl,(((ay_ W.heap.size W).alloc (au_ _) (.cells m.cells 63)).alloc (by simp) (.cells a.cells 63)).trans ⟨f.os,f.tape,f.output,by rw[f.heap];exact au_ _,fun k _=>by rw[f.heap]⟩⟩
def PT{b v:Nat}{W:World}{m c:SV}{s a:bI}(h:oK b W m s)(k:oK v W c a)(t:Short s)(g:Short a)(w:a.time=s.time+1)(y:s.stop=0)(f:kD s.m a.m):
 Calls prog 29 #[m.val,c.val] W fun e o=>e=.returned (.bool true)/\Below W.heap.size W o:=by
 have p:W.heap.size<=((W.alloc (.cells m.cells 63)).alloc (.cells c.cells 63)).heap.size:=by simp;omega
 have q:=fun k x=>up2 W (.cells m.cells 63) (.cells c.cells 63) (k:=k) x
 have C:=h.stack.len;have i:=k.stack.len;have z:=h.out.len;have l:=k.out.len;simp only[kV,bV,bR_] at C i;have H:(bV s.m.frames).length=s.m.frames.length:=by simp[bV]
 have F:(bV a.m.frames).length=a.m.frames.length:=by simp[bV]
 have E:=t.deep;have u:=g.out;have D:=f.deep;have B:=f.out.length_le;have G:=t.time
 have A:kV (bV a.m.frames).dropLast<+:kV (bV s.m.frames):=by
  obtain⟨r,n⟩:=f.stack;exact⟨kV r,by rw[<-n];simp[kV]⟩
 have j:kV (bV a.m.frames).dropLast<+:kV (bV a.m.frames):=by
  obtain⟨r,n⟩:=List.dropLast_prefix (bV a.m.frames);refine⟨kV r,?_⟩;conv=>rhs;rw[<-n]
  simp[kV]
 refine(LG W _ m c (bV s.m.frames) (bV a.m.frames) s.m.out a.m.out ⟨by omega,by omega,B,u,by rw[h.t];omega⟩ (by rw[h.t,k.t,w]) (by rw[h.q,y]) (by omega) z (by omega) l rfl (h.out.two k.out p q f.out) (h.stack.two k.stack p q A j)).mono ?_
 rintro e o ⟨rfl,d⟩;exact⟨rfl,(((ay_ W.heap.size W).alloc (au_ _) (.cells m.cells 63)).alloc (by simp) (.cells c.cells 63)).trans ⟨d.os,d.tape,d.output,by rw[d.heap];exact au_ _,fun k _=>by rw[d.heap]⟩⟩
def SS{b:Nat}{W:World}{m:SV}{s:bI}(h:oK b W m s)(v:jW s.m):
 Calls prog 27 #[.slice m.x2 m.n2 m.c2] W fun e B=>e=.returned (.bool true)/\aQ W B:=by
 obtain⟨x,c,e,A⟩:=h.vars;cases u:s.m.frames.getLast? with
 |none=>
  have r:pE s=[]:=by unfold pE;rw[u]
  rw[r] at e;rw[e];exact xX x c W [] (by simp) (fun i d=>by simp at d) (fun i d=>by simp at d)
 |some f=>
  obtain⟨⟨q,n⟩,_⟩:=v f (bK_ u);have r:pE s=lD (JH f) (gB f.seen):=by unfold pE;rw[u]
  rw[r] at e A;have o:(lD (JH f) (gB f.seen)).length=(gB f.seen).length:=by simp[lD]
  rw[o] at e;rw[e];refine xX x c W (gB f.seen) (by rw[lJ];exact n) (fun i d=>?_) (fun i d=>?_)
  ·obtain⟨g,E,H,_,_,F⟩:=A i (by rw[o];exact d)
   exact⟨g,E,by simpa [lD] using H,F⟩
  ·have j:(gB f.seen).Pairwise fun x y=>(!decide (Lib.compareBytes y x<0))=true:=List.pairwise_mergeSort (fun a b c k p=>?_) (fun a b=>?_) f.seen
   ·have w:=List.pairwise_iff_getElem.1 j i (i+1) (by omega) d (by omega)
    have l:(gB f.seen).Nodup:=(List.mergeSort_perm f.seen _).nodup_iff.2 q
    have t:(gB f.seen)[i]≠(gB f.seen)[i+1]:=fun C=>by
     have:=List.pairwise_iff_getElem.1 l i (i+1) (by omega) d (by omega)
     exact this C
    simp only[Bool.not_eq_true',decide_eq_false_iff_not] at w;rcases Int.lt_trichotomy (Lib.compareBytes (gB f.seen)[i] (gB f.seen)[i+1]) 0 with k|k|k
    ·exact k
    ·exact absurd (RG _ _ k) t
    ·rw[sA (gB f.seen)[i]] at w;omega
   ·simp only[Bool.not_eq_true',decide_eq_false_iff_not] at k p ⊢
    intro z;by_cases G:Lib.compareBytes b a=0
    ·rw[RG b a G] at p;exact p z
    ·have D:Lib.compareBytes a b<0:=by
      have:=sA a b;omega
     exact p (vI c a b z D)
   ·simp only[bF_,Bool.not_eq_true',decide_eq_false_iff_not];have:=sA a b;omega
def CL(a:ByteArray)(w:World)(f:iT w)(i:a.size<=maxLen):
 Calls prog 15 #[.string a] w fun e c=>Below w.heap.size w c/\((cG a.data.toList).1=0->cG a.data.toList=(0,0))/\e=.returned (.tuple #[.int .i64 (cG a.data.toList).1,.int .i64 (cG a.data.toList).2]):=
 P0 (cG a.data.toList) a w fun b g j d=>(VP a w.heap.size b (f.below g) i j d).mono fun _ _ h=>h
def WB(w:World)(A:Nat->World->Prop)(B:World->Prop)
 (i:Hid (Calls prog 35 #[.string ⟨#[102,117,110,99,32,102,40,120,41,32,123,32,114,101,116,117,114,110,32,91,120,44,32,34,195,169,34,93,59,32,125,10,102,117,110,99,32,109,97,105,110,40,41,32,123,32,118,97,114,32,97,32,61,32,102,40,50,41,59,32,112,114,105,110,116,32,97,59,32,112,114,105,110,116,32,108,101,110,40,97,91,49,93,41,59,32,125]⟩] w fun e a=>∃g c,e=.returned (.tuple #[.slice (some ⟨g,0,none⟩) 2 c,.int .i64 4,.bool true])/\A g a))
 (h:Hid (∀g W,A g W->Calls prog 15 #[.string ⟨#[102,117,110,99,32,109,97,105,110,40,41,32,123,10,32,112,114,105,110,116,32,120,59,32,125]⟩] W fun e a=>e=.returned (.tuple #[.int .i64 6,.int .i64 2])/\a.cell? ⟨g,0,none⟩=some (.string ⟨#[91,50,44,32,34,195,169,34,93]⟩)/\a.cell? ⟨g,1,none⟩=some (.string ⟨#[49]⟩)/\g<a.heap.size/\B a)):
 Calls prog 55 #[] w fun e a=>e=.returned (.bool true)/\B a:=by
 go_enter func55,ntmps55;go_wp2_with fail;refine i.out.mono ?_;rintro e k ⟨g,c,rfl,f⟩;have b:=aB (h.out _ _ f);clear f i h;go_wp2_with fail;refine b.out.mono ?_;rintro e n ⟨rfl,l,o,m,d⟩;have j:=aB d;clear d b;go_wp2_with fail;go_ret;exact⟨rfl,j.out⟩
def F3(w:World)(k:iT w)(q:kC w)(d:11<=w.heap.size):Calls prog 55 #[] w fun e i=>e=.returned (.bool true)/\Below w.heap.size w i:=by
 refine WB w (fun g W=>Below w.heap.size w W/\W.cell? ⟨g,0,none⟩=some (.string ⟨#[91,50,44,32,34,195,169,34,93]⟩)/\W.cell? ⟨g,1,none⟩=some (.string ⟨#[49]⟩)/\g<W.heap.size) (fun W=>Below w.heap.size w W) ?_ (fun g W o=>?_)
 ·refine(OB w WJ 4 _ RW k q d).mono ?_;rintro e i ⟨x,n,c,rfl,⟨t,s,b,f⟩,a⟩;obtain⟨g,rfl,j,h,l⟩:=f 0 (by simp)
  obtain⟨u,m,r,_,_⟩:=f 1 (by simp)
  cases m;simp only[Value.slice.injEq] at b;obtain⟨rfl,rfl,rfl⟩:=b;exact⟨g,_,rfl,a,j,r,l⟩
 ·obtain⟨b,f,j,h⟩:=o;refine(CL (bs WK) W (k.below b) (by rw[gA];decide)).mono ?_
  rintro e i ⟨a,_,rfl⟩;rw[fS,TO];exact⟨rfl,(a.cell (p:=⟨g,0,none⟩) h).trans f,(a.cell (p:=⟨g,1,none⟩) h).trans j,az_ h a.size,b.trans (a.mono b.size)⟩
def F1(w:World)(d:List UInt8)(tx:Option Addr)(c:Nat)(a:List Int)(E:iT w)(I:kC w)(y:11<=w.heap.size)(hs:d.length<=140737488355328)(u:a.length<=17592186044416)(hi:∀x∈a, -9223372036854775808<=x/\x<=9223372036854775807)
 (K:0<a.length->∃H,tx=some H/\H.block<w.heap.size/\∀j v,(a.map (Value.int .i64))[j]?=some v->w.cell? (H.add j)=some v):
 Calls prog 21 #[.string (bs d),.slice tx a.length c] w fun e t=>∃p,e=.returned (.tuple #[.pointer p,.bool true])/\Below w.heap.size w t/\(p=none\/∃sb ks m G o s,p=some ⟨sb,0,none⟩/\Good ks/\Live m G t sb o (.map #[] 0) ks a s 1 []/\s.time=0/\w.heap.size<=sb):=by
 have q:(a.map (Value.int .i64)).length=a.length:=by simp
 have Q:gA d=gA d:=rfl;rw[<-q]
 refine VZ w (bs d) tx c (a.map (Value.int .i64)) (by rw[q];exact u) (fun v A=>?_) (fun W=>Below w.heap.size w W)
  (fun p k l W=>Below w.heap.size w W/\cG d=(k,l)/\(p=none↔k≠0)/\(p=none\/∃sb ks m G o s,p=some ⟨sb,0,none⟩/\Good ks/\Live m G W sb o (.map #[] 0) ks a s 1 []/\s.time=0/\w.heap.size<=sb))
  (fun p W=>Below w.heap.size w W/\(p=none\/∃sb ks m G o s,p=some ⟨sb,0,none⟩/\Good ks/\Live m G W sb o (.map #[] 0) ks a s 1 []/\s.time=0/\w.heap.size<=sb))
  (F3 w E I y) (fun W C=>⟨C,fun h=>K (by rw[<-q];exact h)⟩) (fun W V g C hV N aa=>?_) (fun p k l W hS=>?_)
 ·simp only[bz_] at A;obtain⟨x,_,rfl⟩:=A;rfl
 ·have f:Below w.heap.size w V:=C.trans (hV.mono C.size);refine(DA (bs d) (.slice (some ⟨g,0,none⟩) (a.map (Value.int .i64)).length (a.map (Value.int .i64)).length) a V (E.below f) (I.below f) (by rw[gA];omega) (as_ ⟨g,0,_,by rw[q],aD N,fun i D=>⟨?_,hi _ (aR_ _)⟩⟩) u (fun ks O L=>?_)).mono ?_
  ·rw[bk_];exact aA N (by simp[D])
  ·rw[fS] at O L;exact AD O L
  ·rintro e t ⟨v,rfl,n,A⟩;rw[fS] at A;have r:Below w.heap.size w t:=f.trans (n.mono f.size);have M:w.heap.size<=V.heap.size:=f.size;rcases A with ⟨B,ks,m,G,sb,o,T,rfl,q2,q3,Y,s,X,S⟩|⟨B,rfl⟩
   ·refine⟨some ⟨sb,0,none⟩,0,0,rfl,r,B,by simp,as_ ⟨sb,ks,m,G,o,s,rfl,AD T B,⟨X,Y,I.below r,⟨by omega,by omega⟩,by omega,fun b n=>by cases n⟩,S,by omega⟩⟩
   ·exact⟨none,_,_,rfl,r,rfl,by simpa using B,av_ rfl⟩
 ·obtain⟨n,Z,J,F⟩:=hS;refine⟨J,(CL (bs d) W (E.below n) (by rw[gA];unfold maxLen;omega)).mono ?_⟩
  rintro e t ⟨z,_,rfl⟩;rw[fS,Z];refine⟨rfl,n.trans (z.mono n.size),?_⟩;rcases F with F|⟨sb,ks,m,G,o,s,e1,U,e3,e4,P⟩
  ·exact av_ F
  ·exact as_ ⟨sb,ks,m,G,o,s,e1,U,e3.but (But.below z []) (fun b n=>by cases n),e4,P⟩
def mA(m:SV):List Nat:=(if m.n1=0 then [] else (m.x1.map (·.block)).toList)++((if m.n2=0 then [] else (m.x2.map (·.block)).toList)++(if m.n3=0 then [] else (m.x3.map (·.block)).toList))
def oK.keepL{b:Nat}{W d:World}{m:SV}{s:bI}(h:oK b W m s)(j:∀g∈mA m,d.heap[g]?=W.heap[g]?)(A:W.heap.size<=d.heap.size):oK b d m s:=by
 have v:∀{x:Option Addr} {n c:Nat} {l:List (Value × Value)},fU b W (.slice x n c) l->(∀g,n≠0->x=some ⟨g,0,none⟩->d.heap[g]?=W.heap[g]?)->fU b d (.slice x n c) l:=by
  rintro x n c l ⟨u,t,e,f⟩ y;cases e;refine⟨_,_,rfl,fun i o=>?_⟩
  obtain⟨g,a,k,q,w,z⟩:=f i o;have:=y g (by omega) a
  exact⟨g,a,(World.cell?_of_block this).trans k,(World.cell?_of_block this).trans q,w,by omega⟩
 refine⟨h.t,h.q,v h.stack fun g p e=>j g ?_,v h.vars fun g p e=>j g ?_,?_⟩
 ·unfold mA;rw[if_neg p,e];simp
 ·unfold mA;rw[if_neg p,e];simp
 ·obtain⟨u,t,e,f⟩:=h.out;have r:=e;simp only[Value.slice.injEq] at r;refine⟨u,t,e,fun i o=>?_⟩
  obtain⟨g,a,k,q,w⟩:=f i o;have:=j g (by unfold mA;rw[if_neg (show ¬m.n3=0 by omega),r.1,a];simp)
  exact⟨g,a,(World.cell?_of_block this).trans k,q,by omega⟩
def oK.blks{b:Nat}{W:World}{m:SV}{s:bI}(h:oK b W m s):∀g∈mA m,b<=g/\g<W.heap.size:=by
 have k:∀{x:Option Addr} {n c:Nat} {l:List (Value × Value)} {g:Nat},fU b W (.slice x n c) l->n≠0->g∈(x.map (·.block)).toList->b<=g/\g<W.heap.size:=by
  rintro x n c l g ⟨p,o,e,f⟩ r a;cases e;obtain⟨q,i,_,_,j,d⟩:=f 0 (by omega)
  rw[i] at a;simp at a;subst a;exact⟨j,d⟩
 intro g a;unfold mA at a;simp only[aE_] at a;rcases a with a|a|a
 ·split at a
  ·cases a
  ·exact k h.stack (by assumption) a
 ·split at a
  ·cases a
  ·exact k h.vars (by assumption) a
 ·split at a
  ·cases a
  ·rename_i r;obtain⟨p,o,e,f⟩:=h.out;simp only[Value.slice.injEq] at e;obtain⟨q,i,_,j,d⟩:=f 0 (by omega)
   rw[e.1,i] at a;simp at a;subst a;exact⟨j,d⟩
structure kB(w:World)(ks:List aC)(tape:List Int)(sb:Nat)(W:World)(L:List Nat)(s:bI):Prop where
 live:∃fp F mb mo n,Live fp F W sb mb mo ks tape s n L
 sb:w.heap.size<=sb
 low:Below w.heap.size w W
structure Mom(L:List Nat)(W:World)(m:SV)(ab:Nat)(s:bI):Prop where
 mom:oK 0 W m s
 blk:∀b∈mA m,b∈L
 box:W.heap[ab]?=some (.cells m.cells 63 (0,0))
 mem:ab∈L
section
variable {w:World} {ks:List aC} {tape:List Int} {sb:Nat} {W W':World} {L L':List Nat} {s s':bI} {m:SV} {ab:Nat}
def Mom.keep(h:Mom L W m ab s)(a:∀b∈L,W'.heap[b]?=W.heap[b]?)(e:W.heap.size<=W'.heap.size)(c:∀b∈L,b∈L'):Mom L' W' m ab s:=
 ⟨h.mom.keepL (fun g f=>a g (h.blk g f)) e,fun b d=>c b (h.blk b d),by rw[a ab h.mem];exact h.box,c _ h.mem⟩
def kB.st(h:kB w ks tape sb W L s):cE ks tape s.time=some s:=by
 obtain⟨d,F,c,b,n,a⟩:=h.live;exact a.ses.now
def kB.lt(h:kB w ks tape sb W L s){b:Nat}(c:b∈L):b<W.heap.size:=by
 obtain⟨f,F,e,d,n,a⟩:=h.live;exact(a.loc b c).2.1
def kB.below(h:kB w ks tape sb W L s)(a:Below W.heap.size W W'):kB w ks tape sb W' L s:=by
 obtain⟨f,F,d,c,n,e⟩:=h.live;exact⟨⟨f,F,d,c,n,e.but (But.below a []) fun b a=>by cases a⟩,h.sb,h.low.trans (a.mono h.low.size)⟩
def Live.freshL{f:Nat->Value}{F:Nat->Prop}{e n:Nat}{d:Obj}(h:Live f F W sb e d ks tape s n L)(g:Live f F W' sb e d ks tape s n L)(j:W'.heap[sb]?=W.heap[sb]?):∀(M:List Nat),(∀b∈M,W.heap.size<=b/\b<W'.heap.size)->Live f F W' sb e d ks tape s n (M++L)
 |[],_=>g
 |b::M,i=>by
  have a:=Live.freshL h g j M fun x c=>i x (aJ_ _ c)
  have k:=h.fresh g j (i b (aS_ ..)).1 (i b (aS_ ..)).2
  exact⟨a.ses,a.tab,a.pow,a.low,a.hn,fun x c=>by
   rcases aG_.1 c with rfl|c
   ·exact k.loc x (aS_ ..)
   ·exact a.loc x c⟩
def kB.short(c:Good ks)(h:kB w ks tape sb W L s):Short s/\jW s.m/\(∀x∈s.m.frames,x.seen.length<=x.vars.length):=by
 obtain⟨b,g,e,i⟩:=c.sta h.st;have a:=SQ c.ok c.kl tape s.time s h.st;refine⟨⟨b.deep,by have:=e.out;omega,?_,b.time⟩,a,b.told⟩
 unfold MS;cases d:s.m.frames.getLast? with
 |none=>simp
 |some f=>
  have:=(a f (bK_ d)).1.2;simp[lJ];omega
def kB.now(k:Good ks)(h:kB w ks tape sb W L s):
 Calls prog 23 #[.pointer (some ⟨sb,0,none⟩)] W fun e c=>∃m:SV,e=.returned m.val/\Below W.heap.size W (c.alloc (.cells m.cells 63))/\kB w ks tape sb (c.alloc (.cells m.cells 63)) (c.heap.size::(mA m++L)) s/\Mom (c.heap.size::(mA m++L)) (c.alloc (.cells m.cells 63)) m c.heap.size s/\W.heap.size<=c.heap.size/\∀b∈mA m,W.heap.size<=b:=by
 obtain⟨j,p,x⟩:=h.short k;obtain⟨t,F,u,r,n,i⟩:=h.live;refine(U9 i.ses j.deep i.pow p x j.out).mono ?_;rintro e c ⟨m,rfl,a,v⟩;have d:=v.blks;have q:Live t F c sb u r ks tape s n L:=i.but (But.below a []) fun b a=>by cases a
 have l:=i.freshL q (a.block _ i.ses.lt) (mA m) d;have o:=l.alloc (.cells m.cells 63);have f:Below W.heap.size W (c.alloc (.cells m.cells 63)):=a.alloc a.size _;refine⟨m,rfl,f,⟨⟨t,F,u,r,n,o⟩,h.sb,h.low.trans (f.mono h.low.size)⟩,⟨?_,fun b a=>by simp[a],aM _ _ rfl _,by simp⟩,a.size,fun b a=>(d b a).1⟩
 exact(v.low (a9_ _)).keepL (fun g k=>aA_ _ _ _ (d g k).2) (by simp)
def kB.step(t:Good ks)(g:tape.length<=17592186044416)(h:kB w ks tape sb W L s):
 Calls prog 28 #[.pointer (some ⟨sb,0,none⟩)] W fun e c=>(∀b∈L,c.heap[b]?=W.heap[b]?)/\W.heap.size<=c.heap.size/\((e=.returned (.bool true)/\s.stop=0/\∃f,f.time=s.time+1/\kB w ks tape sb c L f)\/(e=.returned (.bool false)/\s.stop≠0/\kB w ks tape sb c L s)):=by
 obtain⟨o,F,p,m,n,d⟩:=h.live;refine(NE t g d).mono ?_;rintro e c ⟨b,rfl,G,l,f,q,x,i⟩;have a:Below w.heap.size w c:=Below.fs h.low i h.sb fun k u=>(d.row u).1
 refine⟨fun b r=>d.blk i r,i.size,?_⟩
 rcases IR d.ses.now x with ⟨rfl,v,j⟩|⟨rfl,rfl,j⟩
 ·exact av_ ⟨rfl,j,f,v,⟨o,G,p,m,l,q⟩,h.sb,a⟩
 ·exact as_ ⟨rfl,j,⟨o,G,p,m,l,q⟩,h.sb,a⟩
def kB.back(r:Good ks)(f:tape.length<=17592186044416)(h:kB w ks tape sb W L s)(o:s.time≠0):
 Calls prog 30 #[.pointer (some ⟨sb,0,none⟩)] W fun e a=>e=.returned (.bool true)/\(∀b∈L,a.heap[b]?=W.heap[b]?)/\W.heap.size<=a.heap.size/\∃d,d.time+1=s.time/\kB w ks tape sb a L d:=by
 obtain⟨m,F,u,l,n,i⟩:=h.live;refine(P8 r f i).mono ?_;rintro e a ⟨b,rfl,G,j,d,v,y,g⟩;have c:Below w.heap.size w a:=Below.fs h.low g h.sb fun k t=>(i.row t).1
 rcases y with ⟨_,_,p⟩|⟨rfl,x,z⟩
 ·exact absurd p o
 ·exact⟨rfl,fun b q=>i.blk g q,g.size,d,x,⟨m,G,u,l,j,v⟩,h.sb,c⟩
def kB.put(h:kB w ks tape sb W L s){b:Nat}(g:b∈L)(v:SV)(a:w.heap.size<=b):kB w ks tape sb (dR W b v) L s:=by
 obtain⟨f,F,d,c,n,e⟩:=h.live;exact⟨⟨f,F,d,c,n,e.but (But.set5 W b v) fun x i=>by rw[aD_.1 i];exact g⟩,h.sb,lO v h.low a⟩
end
def BN(w:World)(V:List UInt8)(tx:Option Addr)(c:Nat)(a:List Int)(hT:iT w)(hp:kC w)(aj:11<=w.heap.size)(hs:V.length<=140737488355328)(X:a.length<=17592186044416)(hi:∀x∈a, -9223372036854775808<=x/\x<=9223372036854775807)
 (al:0<a.length->∃ad,tx=some ad/\ad.block<w.heap.size/\∀j v,(a.map (Value.int .i64))[j]?=some v->w.cell? (ad.add j)=some v):
 Calls prog 10 #[.string (bs V),.slice tx a.length c] w fun e Q=>e=.returned (.bool true)/\Below w.heap.size w Q:=by
 refine NF w (bs V) tx a.length c (fun p W=>Below w.heap.size w W/\(p=none\/∃q d fp G mb s,p=some ⟨q,0,none⟩/\Good d/\Live fp G W q mb (.map #[] 0) d a s 1 []/\s.time=0/\w.heap.size<=q)) (fun W=>Below w.heap.size w W)
  (fun q t m f W=>∃d s L,Good d/\s.time=t/\kB w d a q W L s/\Mom L W m f s/\w.heap.size<=f)
  (fun q t m f W=>∃d s L,Good d/\s.time=t/\kB w d a q W L s/\Mom L W m f s/\w.heap.size<=f)
  (fun q t m f W=>∃d s k L,Good d/\s.time=t/\k.time=t+1/\cE d a t=some s/\Short s/\kB w d a q W L k/\Mom L W m f s/\w.heap.size<=f)
  (fun q t m f A F W=>∃d s k L,Good d/\s.time=t/\k.time=t+1/\cE d a t=some s/\Short s/\kB w d a q W L k/\Mom L W m f s/\Mom L W A F k/\w.heap.size<=f/\f∉mA A/\f≠F)
  (fun q t m f A F W=>∃d s k L,Good d/\s.time=t/\k.time=t+1/\cE d a (t+1)=some k/\Short k/\kB w d a q W L s/\Mom L W m f s/\Mom L W A F k/\w.heap.size<=f/\f∉mA A/\f≠F)
  (fun q t m f A F m2 cb W=>∃d s k L,Good d/\s.time=t/\k.time=t+1/\cE d a (t+1)=some k/\Short k/\kB w d a q W L s/\Mom L W m f s/\Mom L W A F k/\Mom L W m2 cb s/\w.heap.size<=f/\f∉mA A/\f≠F)
  (fun q t m f A F W=>∃d s k L,Good d/\s.time=t/\k.time=t+1/\kB w d a q W L k/\Mom L W m f s/\Mom L W A F k/\w.heap.size<=f/\f∉mA A/\f≠F)
  (fun q t m f A F m3 db W=>∃d s k L,Good d/\s.time=t/\k.time=t+1/\kB w d a q W L k/\Mom L W m f s/\Mom L W A F k/\Mom L W m3 db k/\w.heap.size<=f/\f∉mA A/\f≠F)
  (F1 w V tx c a hT hp aj hs X hi al) (fun p W hB=>?_) (fun q t m f W hI=>?_) (fun q t m f W hJ=>?_) (fun q t m f W Y=>?_) (fun q t m f A F W hJ=>?_) (fun q t m f A F W Y=>?_) (fun q t m f A F m2 cb W Y=>?_) (fun q t m f A F W Y=>?_) (fun q t m f A F m3 db W Y=>?_)
 ·obtain⟨l,rfl|⟨q,d,fp,G,mb,s,rfl,i,hl,C,ak⟩⟩:=hB
  ·exact av_ ⟨rfl,l⟩
  ·refine as_ ⟨q,rfl,?_⟩;have n:kB w d a q W [] s:=⟨⟨fp,G,mb,_,1,hl⟩,ak,l⟩;have aa:=SR i.ok i.main a (by have:=n.st;rw[C] at this;exact this)
   refine(n.now i).mono ?_;rintro e Q ⟨m,rfl,H,h2,T,h4,_⟩;refine⟨m,rfl,by rw[T.mom.t,C],?_,d,s,_,i,C,h2,T,aF_ l.size h4⟩
   rw[T.mom.out.len,aa];rfl
 ·obtain⟨d,s,L,i,C,n,z,o⟩:=hI;obtain⟨B,ah,_⟩:=n.short i;refine⟨z.box,by have:=B.time;omega,(SS z.mom ah).mono ?_⟩
  rintro e Q ⟨rfl,hS⟩;exact⟨rfl,d,s,L,i,C,n.below hS.below,z.keep (fun b _=>by rw[hS.heap]) (by rw[hS.heap];exact au_ _) (fun _ h=>h),o⟩
 ·obtain⟨d,s,L,i,C,n,z,o⟩:=hJ;obtain⟨B,ah,_⟩:=n.short i;refine(n.step i X).mono ?_;rintro e Q ⟨hk,hz,(⟨rfl,hq,U,ag,Z⟩|⟨rfl,hq,Z⟩)⟩
  ·have S:=z.keep hk hz (fun _ h=>h)
   have h5:=(Z.short i).1.time;refine⟨S.box,as_ ⟨rfl,by rw[z.mom.q];exact hq,by omega,d,s,U,L,i,C,by omega,by rw[<-C];exact n.st,B,Z,S,o⟩⟩
  ·have S:=z.keep hk hz (fun _ h=>h)
   exact⟨S.box,av_ ⟨rfl,by rw[z.mom.q];exact hq,Z.low⟩⟩
 ·obtain⟨d,s,k,L,i,C,y,E,B,n,z,o⟩:=Y;refine(n.now i).mono ?_;rintro e Q ⟨A,rfl,H,h2,T,h4,h5⟩;have am:=n.lt z.mem;refine⟨A,rfl,d,s,k,_,i,C,y,E,B,h2,z.keep (fun b l=>H.block b (n.lt l)) H.size (fun b l=>by simp[l]),T,o,fun l=>?_,by omega⟩
  have:=h5 f l;omega
 ·obtain⟨d,s,k,L,i,C,y,E,B,n,z,u,o,D,I⟩:=hJ;obtain⟨K,_,_⟩:=n.short i;have hf:=pL (iF i.ok) (mU i.ok i.main a) E (by have:=n.st;rw[y] at this;exact this)
  refine⟨z.box,u.box,(PT z.mom u.mom B K (by omega) hf.1 hf.2).mono ?_⟩
  rintro e Q ⟨rfl,l⟩;have N:=n.below l;refine⟨rfl,(N.back i X (by omega)).mono ?_⟩
  rintro e w2 ⟨rfl,hk,hz,U,ag,M⟩
  obtain rfl:U=s:=by
   have H:=M.st;rw[show U.time=t by omega,E] at H
   exact(Option.some.inj H).symm
  have r:∀b∈L,w2.heap[b]?=W.heap[b]?:=fun b J=>(hk b J).trans (l.block b (n.lt J))
  have P:=aF_ l.size hz;exact⟨rfl,d,U,k,L,i,C,y,by have:=n.st;rw[y] at this;exact this,K,M,z.keep r P (fun _ h=>h),u.keep r P (fun _ h=>h),o,D,I⟩
 ·obtain⟨d,s,k,L,i,C,y,E,B,n,z,u,o,D,I⟩:=Y;refine(n.now i).mono ?_;rintro e Q ⟨m2,rfl,H,h2,T,h4,h5⟩;have r:∀b∈L,(Q.alloc (.cells m2.cells 63)).heap[b]?=W.heap[b]?:=fun b l=>H.block b (n.lt l)
  exact⟨m2,rfl,d,s,k,_,i,C,y,E,B,h2,z.keep r H.size (fun b l=>by simp[l]),u.keep r H.size (fun b l=>by simp[l]),T,o,D,I⟩
 ·obtain⟨d,s,k,L,i,C,y,E,B,n,z,u,ai,o,D,I⟩:=Y;obtain⟨ae,_,_⟩:=n.short i;refine⟨z.box,ai.box,(NT z.mom ai.mom ae).mono ?_⟩;rintro e Q ⟨rfl,l⟩;have N:=n.below l;refine⟨rfl,(N.step i X).mono ?_⟩;rintro e w2 ⟨hk,hz,(⟨rfl,hq,U,ag,M⟩|⟨rfl,hq,M⟩)⟩
  ·obtain rfl:U=k:=by
    have H:=M.st;rw[show U.time=t+1 by omega,E] at H
    exact(Option.some.inj H).symm
   have r:∀b∈L,w2.heap[b]?=W.heap[b]?:=fun b J=>(hk b J).trans (l.block b (n.lt J))
   have P:=aF_ l.size hz;exact⟨rfl,d,s,U,L,i,C,y,M,z.keep r P (fun _ h=>h),u.keep r P (fun _ h=>h),o,D,I⟩
  ·have hf:=pL (iF i.ok) (mU i.ok i.main a) n.st (by rw[C];exact E)
   exact absurd hf.1 hq
 ·obtain⟨d,s,k,L,i,C,y,n,z,u,o,D,I⟩:=Y;refine(n.now i).mono ?_;rintro e Q ⟨m3,rfl,H,h2,T,h4,h5⟩;have r:∀b∈L,(Q.alloc (.cells m3.cells 63)).heap[b]?=W.heap[b]?:=fun b l=>H.block b (n.lt l)
  exact⟨m3,rfl,d,s,k,_,i,C,y,h2,z.keep r H.size (fun b l=>by simp[l]),u.keep r H.size (fun b l=>by simp[l]),T,o,D,I⟩
 ·obtain⟨d,s,k,L,i,C,y,n,z,u,ac,o,D,I⟩:=Y;obtain⟨K,_,_⟩:=n.short i;refine⟨u.box,ac.box,(NT u.mom ac.mom K).mono ?_⟩;rintro e w2 ⟨rfl,l⟩;have N:=n.below l;have r:∀b∈L,w2.heap[b]?=W.heap[b]?:=fun b J=>l.block b (n.lt J)
  have af:=z.keep r l.size (fun _ h=>h)
  have O:=u.keep r l.size (fun _ h=>h)
  refine⟨rfl,af.box,O.box,d,k,L,i,y,N.put z.mem A o,⟨?_,O.blk,qG af.box rfl,z.mem⟩,o⟩;exact O.mom.keepL (fun g i=>cV _ _ _ _ (fun e=>D (e▸i))) (by rw[(fO _ _ _).1];exact au_ _)
end Go.Proofs.YtblbkfdhjfppkaaGreatDoor
