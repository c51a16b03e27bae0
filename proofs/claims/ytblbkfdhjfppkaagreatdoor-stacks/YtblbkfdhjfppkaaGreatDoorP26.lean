/- Stacks: a session begins: the walk. -/
import Derived.Test.YtblbkfdhjfppkaaGreatDoorP25
set_option linter.defProp false
set_option maxRecDepth 100000
set_option maxHeartbeats 4000000
namespace Go.Proofs.YtblbkfdhjfppkaaGreatDoor
open Hs
open _root_.Go.Proofs.Tryz(prog)
open Go.RowKit
def O0:(prog.info? 3).map (fun i=>(i.zero,i.size,i.bytes))=some (some (.int .i64 0),1,8):=by kernel_rfl
def VZ(w:World)(s:ByteArray)(tx:Option Addr)(c:Nat)(cs:List Value)(hn:cs.length<=17592186044416)(h1:∀v∈cs,v.oneCell'=true)(A:World->Prop)(S:Option Addr->Nat->Nat->World->Prop)(R:Option Addr->World->Prop)
 (L:Hid (Calls prog 55 #[] w fun e r=>e=.returned (.bool true)/\A r))
 (X:Hid (∀W,A W->Below w.heap.size w W/\(0<cs.length->∃d,tx=some d/\d.block<w.heap.size/\∀j v,cs[j]?=some v->w.cell? (d.add j)=some v)))
 (T:Hid (∀W V g,A W->Below W.heap.size W V->V.heap[g]?=some (.cells cs.toArray 3 (0,0))->W.heap.size<=g->Calls prog 32 #[.string s,.slice (some ⟨g,0,none⟩) cs.length cs.length] V fun e r=>∃(p:Option Addr) (k l:Nat),e=.returned (.tuple #[.pointer p,.int .i64 k,.int .i64 l])/\S p k l r))
 (N:Hid (∀(p:Option Addr) (k l:Nat) W,S p k l W->(p=none↔k≠0)/\Calls prog 15 #[.string s] W fun e r=>e=.returned (.tuple #[.int .i64 k,.int .i64 l])/\R p r)):
 Calls prog 21 #[.string s,.slice tx cs.length c] w fun e r=>∃p,e=.returned (.tuple #[.pointer p,.bool true])/\R p r:=by
 go_enter Tryz.func21,Tryz.ntmps21;go_wp2_with fail;refine L.out.mono ?_;rintro e b ⟨rfl,G⟩;have O:=aB G;clear G L
 have B:(Instr.makeSlice 31 (.int .i64 (cs.length:Int)) (.int .i64 (cs.length:Int))).run prog b=.ok (.slice (some ⟨b.heap.size,0,none⟩) cs.length cs.length) (b.alloc (.cells (madeCells #[.int .i64 0] cs.length) 3)):=by
  obtain⟨i0,hi,I,J,K⟩:=info_parts O0;have:=run_make (P:=prog) b 31 3 i0 _ Tryz.underlying31 hi I .i64 .i64 cs.length cs.length (by omega) (Int.le_refl _) (by rw[K];omega) (by omega)
  rw[J,b4_] at this;exact this
 obtain⟨a,m,u⟩:∃a:List Value,madeCells #[Value.int .i64 0] cs.length=a.toArray/\a.length=cs.length:=⟨(madeCells #[Value.int .i64 0] cs.length).toList,by simp,by simp[size_madeCells]⟩
 rw[m] at B;obtain⟨t,n⟩:=X.out _ O.out;have x:Below b.heap.size b (b.alloc (.cells a.toArray 3)):=(ay_ _ _).alloc (au_ _) _;have f:(b.alloc (.cells a.toArray 3)).heap[b.heap.size]?=some (.cells a.toArray 3 (0,0)):=aM _ _ rfl _
 have i:0<cs.length->(some ⟨b.heap.size,0,none⟩:Option Addr)=some ⟨b.heap.size,0,none⟩/\∃d,tx=some d/\∀j v,cs[j]?=some v->(b.alloc (.cells a.toArray 3)).cell? (d.add j)=some v:=fun hp=>by
  obtain⟨d,q1,q2,q3⟩:=n hp;refine⟨rfl,d,q1,fun j v hv=>?_⟩
  have D:(d.add j).block=d.block:=by unfold Addr.add;split<;>rfl
  rw[World.cell?_of_block (w:=b) (aA_ _ _ _ (by rw[D];have:=t.size;omega)),World.cell?_of_block (w:=w) (t.block _ (by rw[D];exact q2))]
  exact q3 j v hv
 have o:(prog.info? 3).map (·.size)=some 1:=by kernel_rfl
 obtain⟨H,aa,C,y⟩:∃H:World,(Builtin.copy_ #[31,31] 3 #[.slice (some ⟨b.heap.size,0,none⟩) cs.length cs.length,.slice tx cs.length c]).run prog (b.alloc (.cells a.toArray 3))=.ok (goInt cs.length) H/\H.heap[b.heap.size]?=some (.cells cs.toArray 3 (0,0))/\Below b.heap.size b H:=by
  by_cases Z:cs.length=0
  ·obtain rfl:cs=[]:=aN_ Z;obtain rfl:a=[]:=aN_ u;exact⟨_,run_copy_none (P:=prog) _ 31 31 3 3 _ tx 0 0 0 c Tryz.underlying31 o rfl,f,x⟩
  ·obtain⟨_,d,rfl,hs⟩:=i (by omega)
   refine⟨_,run_copy_row (P:=prog) (b.alloc (.cells a.toArray 3)) 31 31 3 3 b.heap.size 0 cs.length cs.length d cs.length c a.toArray 3 cs Tryz.underlying31 o f (Nat.min_self _).symm hs (by simp;omega) h1,?_,below_setRow x (au_ _) _⟩
   have:=setRow_heap (b.alloc (.cells a.toArray 3)) b.heap.size a.toArray (a.take 0++cs++a.drop (0+cs.length)).toArray 3 _ f;simp only[List.take_zero,by_,bk_,ba_ (Nat.le_of_eq u),bY_] at this ⊢
   simpa [ba_ (Nat.le_of_eq u)] using this
 clear t n m i x f X;go_wp2_with fail;have z:=aB (T.out _ _ _ O.out y C (au_ _));clear C y B T;go_wp2_with fail;refine z.out.mono ?_;rintro e w3 ⟨p,k,l,rfl,U⟩;obtain⟨h,E⟩:=N.out _ _ _ _ U;have F:=aB E;clear U E N z;go_wp2_with fail;refine F.out.mono ?_;rintro e w4 ⟨rfl,Y⟩;have M:=aB Y;clear Y F;by_cases Q:k=0
 ·subst Q
  obtain⟨q,rfl⟩:∃q,p=some q:=by
   cases p with
   |none=>exact absurd rfl (h.1 rfl)
   |some q=>exact⟨q,rfl⟩
  clear h;go_wp2_with fail;go_ret2
  exact⟨_,rfl,M.out⟩
 ·obtain rfl:=h.2 Q;have e0:((k:Int) != 0)=true:=by simp;omega
  clear h;go_wp2_with fail;go_ret2
  exact⟨_,rfl,M.out⟩
def NF(w:World)(ad:ByteArray)(tx:Option Addr)(n c:Nat)(B:Option Addr->World->Prop)(R:World->Prop)(I J K:Nat->Nat->SV->Nat->World->Prop)(J1 K1:Nat->Nat->SV->Nat->SV->Nat->World->Prop)(K2:Nat->Nat->SV->Nat->SV->Nat->SV->Nat->World->Prop)(K3:Nat->Nat->SV->Nat->SV->Nat->World->Prop)(K4:Nat->Nat->SV->Nat->SV->Nat->SV->Nat->World->Prop)
 (HB:Hid (Calls prog 21 #[.string ad,.slice tx n c] w fun e b=>∃p,e=.returned (.tuple #[.pointer p,.bool true])/\B p b))
 (HZ:Hid (∀p W,B p W->(p=none/\R W)\/∃a,p=some ⟨a,0,none⟩/\Calls prog 23 #[.pointer (some ⟨a,0,none⟩)] W fun e b=>∃m:SV,e=.returned m.val/\m.t=0/\m.n3=0/\I a 0 m b.heap.size (b.alloc (.cells m.cells 63))))
 (HI:Hid (∀a t m d W,I a t m d W->W.heap[d]?=some (.cells m.cells 63 (0,0))/\t<=500/\Calls prog 27 #[.slice m.x2 m.n2 m.c2] W fun e b=>e=.returned (.bool true)/\J a t m d b))
 (HJ:Hid (∀a t m d W,J a t m d W->Calls prog 28 #[.pointer (some ⟨a,0,none⟩)] W fun e b=>b.heap[d]?=some (.cells m.cells 63 (0,0))/\((e=.returned (.bool false)/\m.q≠0/\R b)\/(e=.returned (.bool true)/\m.q=0/\t<500/\K a t m d b))))
 (HK:Hid (∀a t m d W,K a t m d W->Calls prog 23 #[.pointer (some ⟨a,0,none⟩)] W fun e b=>∃f:SV,e=.returned f.val/\J1 a t m d f b.heap.size (b.alloc (.cells f.cells 63))))
 (E:Hid (∀a t m d f k W,J1 a t m d f k W->W.heap[d]?=some (.cells m.cells 63 (0,0))/\W.heap[k]?=some (.cells f.cells 63 (0,0))/\Calls prog 29 #[m.val,f.val] W fun e b=>e=.returned (.bool true)/\Calls prog 30 #[.pointer (some ⟨a,0,none⟩)] b fun e b=>e=.returned (.bool true)/\K1 a t m d f k b))
 (C:Hid (∀a t m d f k W,K1 a t m d f k W->Calls prog 23 #[.pointer (some ⟨a,0,none⟩)] W fun e b=>∃o:SV,e=.returned o.val/\K2 a t m d f k o b.heap.size (b.alloc (.cells o.cells 63))))
 (G:Hid (∀a t m d f k o cb W,K2 a t m d f k o cb W->W.heap[d]?=some (.cells m.cells 63 (0,0))/\W.heap[cb]?=some (.cells o.cells 63 (0,0))/\Calls prog 25 #[m.val,o.val] W fun e b=>e=.returned (.bool true)/\Calls prog 28 #[.pointer (some ⟨a,0,none⟩)] b fun e b=>e=.returned (.bool true)/\K3 a t m d f k b))
 (F:Hid (∀a t m d f k W,K3 a t m d f k W->Calls prog 23 #[.pointer (some ⟨a,0,none⟩)] W fun e b=>∃y:SV,e=.returned y.val/\K4 a t m d f k y b.heap.size (b.alloc (.cells y.cells 63))))
 (H:Hid (∀a t m d f k y db W,K4 a t m d f k y db W->W.heap[k]?=some (.cells f.cells 63 (0,0))/\W.heap[db]?=some (.cells y.cells 63 (0,0))/\Calls prog 25 #[f.val,y.val] W fun e b=>e=.returned (.bool true)/\b.heap[d]?=some (.cells m.cells 63 (0,0))/\b.heap[k]?=some (.cells f.cells 63 (0,0))/\I a (t+1) f d (dR b d f))):
 Calls prog 10 #[.string ad,.slice tx n c] w fun e b=>e=.returned (.bool true)/\R b:=by
 go_enter Tryz.func10,Tryz.ntmps10;go_wp2_with fail;refine HB.out.mono ?_;rintro e w1 ⟨p,rfl,h1⟩;clear HB;rcases HZ.out _ _ h1 with ⟨rfl,hr⟩|⟨a,rfl,hn⟩
 ·have HR:=aB hr;clear hr h1 HZ HI HJ HK E C G F H;go_wp2_with fail;go_ret;exact⟨rfl,HR.out⟩
 ·have HN:=aB hn;clear hn h1 HZ;go_wp2_with fail;refine HN.out.mono ?_;rintro e w2 ⟨⟨z1,x1,x2,x3,k1,k2,k3,d1,d2,d3,q⟩,rfl,t0,n0,h2⟩;simp only at t0 n0;subst t0 n0;have H2:=aB h2;unfold SV.val;clear HN h2;go_wp2_with fail;go_loopg [8] 501 (fun gk i wr=>∃(t:Nat) (m:SV),i=.int .i64 t/\gk+t=501/\I a t m w2.heap.size wr)
  case atStart=>exact⟨0,_,rfl,rfl,H2.out⟩
  case round=>
   obtain⟨t,m,rfl,hg,hI⟩:=hrel;obtain⟨y1,y2,y3⟩:=HI.out _ _ _ _ _ hI;obtain⟨gj,rfl⟩:∃gj,gk=gj+1:=⟨gk-1,by omega⟩
   have HO:=aB y3;unfold SV.cells at y1;have c2:=aA (i:=2) y1 rfl;have l1:=aD y1;have e1:(t:Int)<=500:=by omega
   clear y1 y3 hI H2;go_wp2_with fail;refine HO.out.mono ?_;rintro e w3 ⟨rfl,h3⟩;have D:=aB (HJ.out _ _ _ _ _ h3);clear h3 HO c2 l1;go_wp2_with fail;refine D.out.mono ?_;rintro e w4 ⟨x,(⟨rfl,hq,hr⟩|⟨rfl,hq,ht,h4⟩)⟩
   ·unfold SV.cells at x;have c4:=aA (i:=4) x rfl;have l4:=aD x;have e2:((m.q:Int) != 0)=true:=by simp;omega
    have HR:=aB hr;clear hr D x HI HJ HK E C G F H;go_wp2_with fail;go_ret;exact⟨rfl,HR.out⟩
   ·unfold SV.cells at x;have c4:=aA (i:=4) x rfl;have l4:=aD x;rw[hq] at c4;clear hq;have ai:=aB (HK.out _ _ _ _ _ h4);clear D x h4;go_wp2_with fail;refine ai.out.mono ?_;rintro e w5 ⟨f,rfl,h5⟩;obtain⟨A,r,hf⟩:=E.out _ _ _ _ _ _ _ h5;have HF:=aB hf;unfold SV.cells at A r;unfold SV.val at HF;unfold SV.cells at HF;have V:=aA (i:=0) A rfl;have M:=aA (i:=1) A rfl;have P:=aA (i:=2) A rfl;have U:=aA (i:=3) A rfl;have L:=aA (i:=4) A rfl;have Y:=aD A;have S:=aA (i:=0) r rfl;have X:=aA (i:=1) r rfl;have O:=aA (i:=2) r rfl;have Q:=aA (i:=3) r rfl;have T:=aA (i:=4) r rfl;have N:=aD r;unfold SV.val;clear c4 l4 ai h5 hf A r;go_wp2_with fail;refine HF.out.mono ?_;rintro e w6 ⟨rfl,hb⟩;have af:=aB hb;clear HF hb V M P U L Y S X O Q T N;go_wp2_with fail;refine af.out.mono ?_;rintro e w7 ⟨rfl,h7⟩;have ae:=aB (C.out _ _ _ _ _ _ _ h7);clear af h7;go_wp2_with fail;refine ae.out.mono ?_;rintro e w8 ⟨o,rfl,h8⟩;obtain⟨z,v,hs⟩:=G.out _ _ _ _ _ _ _ _ _ h8;have h:=aB hs;unfold SV.cells at z v;unfold SV.val at h;unfold SV.cells at h;have V:=aA (i:=0) z rfl;have M:=aA (i:=1) z rfl;have P:=aA (i:=2) z rfl;have U:=aA (i:=3) z rfl;have L:=aA (i:=4) z rfl;have Y:=aD z;have S:=aA (i:=0) v rfl;have X:=aA (i:=1) v rfl;have O:=aA (i:=2) v rfl;have Q:=aA (i:=3) v rfl;have T:=aA (i:=4) v rfl;have N:=aD v;unfold SV.val;clear ae h8 hs z v;go_wp2_with fail;refine h.out.mono ?_;rintro e w9 ⟨rfl,ag⟩;have aa:=aB ag;clear h ag V M P U L Y S X O Q T N;go_wp2_with fail;refine aa.out.mono ?_;rintro e an ⟨rfl,ah⟩;have u:=aB (F.out _ _ _ _ _ _ _ ah);clear aa ah;go_wp2_with fail;refine u.out.mono ?_;rintro e ak ⟨y,rfl,aj⟩;obtain⟨s,j,hs⟩:=H.out _ _ _ _ _ _ _ _ _ aj;have h:=aB hs;unfold SV.cells at s j;unfold SV.val at h;unfold SV.cells at h;have V:=aA (i:=0) s rfl;have M:=aA (i:=1) s rfl;have P:=aA (i:=2) s rfl;have U:=aA (i:=3) s rfl;have L:=aA (i:=4) s rfl;have Y:=aD s;have S:=aA (i:=0) j rfl;have X:=aA (i:=1) j rfl;have O:=aA (i:=2) j rfl;have Q:=aA (i:=3) j rfl;have T:=aA (i:=4) j rfl;have N:=aD j;unfold SV.val;clear u aj hs s j;go_wp2_with fail;refine h.out.mono ?_;rintro e am ⟨rfl,g,l,Z⟩;have ac:=aB Z;unfold dR at ac;clear h Z V M P U L Y S X O Q T N;have V:=aA (i:=0) g rfl;have M:=aA (i:=1) g rfl;have P:=aA (i:=2) g rfl;have U:=aA (i:=3) g rfl;have L:=aA (i:=4) g rfl;have Y:=aD g;have f0:=aE (i:=0) g;have f1:=aE (i:=1) g;have f2:=aE (i:=2) g;have f3:=aE (i:=3) g;have f4:=aE (i:=4) g;have S:=aA (i:=0) l rfl;have X:=aA (i:=1) l rfl;have O:=aA (i:=2) l rfl;have Q:=aA (i:=3) l rfl;have T:=aA (i:=4) l rfl;have N:=aD l;clear g l;go_wp2_with fail;go_roundg gj
    case measure=>omega
    case rel=>exact⟨t+1,f,by go_num,by omega,ac.out⟩
def WW:∀a b:List UInt8,Op.bytesLess a b=decide (Lib.compareBytes a b<0)
 |[],[]=>rfl
 |[],_::_=>by simp[Op.bytesLess,Lib.compareBytes]
 |_::_,[]=>by simp[Op.bytesLess,Lib.compareBytes]
 |a::l,b::m=>by
  rw[Op.bytesLess,Lib.compareBytes,WW l m];by_cases c:a<b
  ·simp[c]
  ·by_cases d:b<a
   ·have:¬a=b:=fun e=>by subst e;exact c d
    simp[c,d,this]
   ·obtain rfl:a=b:=b3_ (bQ_.1 d) (bQ_.1 c);simp[c]
def xX(x:Option Addr)(c:Nat)(W:World)(a:List (List UInt8))(y:a.length<=90001)
 (n:∀i (h:i<a.length),∃g,x=some ⟨g,0,none⟩/\W.cell? ⟨g,i*2,none⟩=some (.string (bs a[i]))/\g<W.heap.size) (f:∀i (h:i+1<a.length),Lib.compareBytes a[i] a[i+1]<0):
 Calls prog 27 #[.slice x a.length c] W fun e q=>e=.returned (.bool true)/\aQ W q:=by
 have l:=aB n;have u:=aB f;clear n f;go_enter Tryz.func27,Tryz.ntmps27;go_wp2_with fail;go_loopg [3] a.length (fun gk i wr=>∃j:Nat,j+gk=a.length/\i=.int .i64 ((j+1:Nat):Int)/\aQ W wr)
 case atStart=>exact⟨0,by omega,rfl,aQ.refl _⟩
 case round=>
  obtain⟨j,v,rfl,b⟩:=hrel;by_cases d:j+1<a.length
  ·obtain⟨m,rfl⟩:∃m,gk=m+1:=⟨gk-1,by omega⟩
   obtain⟨g,rfl,p,t⟩:=l.out j (by omega)
   obtain⟨A,r,o,_⟩:=l.out (j+1) d;cases r;have f:=u.out j d;have E:=bB b.heap p;have C:=bB b.heap o;have w:=gM b.heap t;have D:(0:Int)<=(j:Int):=by omega
   have z:(j:Int)<(a.length:Int):=by omega
   have s:(j:Int)+1<(a.length:Int):=by omega
   have B:Op.bytesLess (bs a[j]).toList (bs a[j+1]).toList=true:=by rw[cA,cA,WW];simp[f]
   have k:=aB b;clear p o b;go_wp2_with fail;go_quiet (fail)
   go_wp2_with fail;go_roundg m
   case measure=>omega
   case rel=>exact⟨j+1,by omega,by go_num,k.out.trans (aQ.drewN _ _)⟩
  ·have s:¬(j:Int)+1<(a.length:Int):=by omega
   have k:=aB b;clear b;go_wp2_with fail;go_ret;exact⟨rfl,k.out⟩
def j0(W:World)(x y:Option Addr)(l:List (Value × Value)):Prop:=∀i (h:i<l.length),∃g g',x=some ⟨g,0,none⟩/\y=some ⟨g',0,none⟩/\W.cell? ⟨g,i*2,none⟩=some l[i].1/\W.cell? ⟨g,i*2+1,none⟩=some l[i].2/\W.cell? ⟨g',i*2,none⟩=some l[i].1/\W.cell? ⟨g',i*2+1,none⟩=some l[i].2/\g<W.heap.size/\g'<W.heap.size
def r9(W:World)(x y:Option Addr)(l:List (List UInt8)):Prop:=∀i (h:i<l.length),∃g g',x=some ⟨g,0,none⟩/\y=some ⟨g',0,none⟩/\W.cell? ⟨g,i,none⟩=some (.string (bs l[i]))/\W.cell? ⟨g',i,none⟩=some (.string (bs l[i]))/\g<W.heap.size/\g'<W.heap.size
def YJ(W f:World)(a b:SV)(k:List (List UInt8 × Nat))(h:List (List UInt8 × List UInt8))(lo:List (List UInt8))(hl:k.length<=1000000/\h.length<=1000000/\lo.length<=1000000)
 (et:b.t=a.t) (eq:b.q=a.q) (n1:a.n1=k.length) (n2:a.n2=h.length) (n3:a.n3=lo.length) (Q:b.n1=k.length) (H:b.n2=h.length) (I:b.n3=lo.length)
 (Y:(W.alloc (.cells a.cells 63)).alloc (.cells b.cells 63)=f)
 (hS:j0 f a.x1 b.x1 (kV k)) (hV:j0 f a.x2 b.x2 (h.map fun p=>(.string (bs p.1),.string (bs p.2)))) (hO:r9 f a.x3 b.x3 lo):
 Calls prog 25 #[a.val,b.val] W fun e w'=>e=.returned (.bool true)/\aQ f w':=by
 obtain⟨aa,M,O,T,ac,ag,ae,J,N,L,aq⟩:=a;obtain⟨bt,S,U,K,ab,ad,af,Z,P,X,bq⟩:=b;simp only at et eq n1 n2 n3 Q H I hS hV hO;subst et eq n1 n2 n3 Q H I;unfold SV.cells at Y;have r:f.heap[W.heap.size]?=some (.cells #[.int .i64 bt,.slice M k.length J,.slice O h.length N,.slice T lo.length L,.int .i64 bq] 63 (0,0)):=by rw[<-Y];exact jM _ _ _
 have s:f.heap[W.heap.size+1]?=some (.cells #[.int .i64 bt,.slice S k.length Z,.slice U h.length P,.slice K lo.length X,.int .i64 bq] 63 (0,0)):=by rw[<-Y];exact gO _ _ _
 have HW:=aB Y;have HS:=aB hS;have HV:=aB hV;have HO:=aB hO;have CA:Hid (∀(V:World),aQ f V->V.cell? ⟨W.heap.size,0,none⟩=some (.int .i64 bt)/\V.cell? ⟨W.heap.size,1,none⟩=some (.slice M k.length J)/\V.cell? ⟨W.heap.size,2,none⟩=some (.slice O h.length N)/\V.cell? ⟨W.heap.size,3,none⟩=some (.slice T lo.length L)/\V.cell? ⟨W.heap.size,4,none⟩=some (.int .i64 bq)/\W.heap.size<V.heap.size):=aB fun V d=>⟨bB d.heap (aA r rfl),bB d.heap (aA r rfl),bB d.heap (aA r rfl),bB d.heap (aA r rfl),bB d.heap (aA r rfl),gM d.heap (aD r)⟩
 have CB:Hid (∀(V:World),aQ f V->V.cell? ⟨W.heap.size+1,0,none⟩=some (.int .i64 bt)/\V.cell? ⟨W.heap.size+1,1,none⟩=some (.slice S k.length Z)/\V.cell? ⟨W.heap.size+1,2,none⟩=some (.slice U h.length P)/\V.cell? ⟨W.heap.size+1,3,none⟩=some (.slice K lo.length X)/\V.cell? ⟨W.heap.size+1,4,none⟩=some (.int .i64 bq)/\W.heap.size+1<V.heap.size):=aB fun V d=>⟨bB d.heap (aA s rfl),bB d.heap (aA s rfl),bB d.heap (aA s rfl),bB d.heap (aA s rfl),bB d.heap (aA s rfl),gM d.heap (aD s)⟩
 obtain⟨E,w,z,D,v,G⟩:=CA.out f (aQ.refl _);obtain⟨B,F,y,A,C,x⟩:=CB.out f (aQ.refl _);clear Y r s hS hV hO;unfold SV.val;go_enter Tryz.func25,Tryz.ntmps25;go_wp2_with fail;rw[HW.out];go_wp2_with fail;clear E w z D v G B F y A C x;go_loopg [5] k.length (fun gk i wr=>∃j:Nat,j+gk=k.length/\i=.int .i64 j/\aQ f wr)
 case atStart=>exact⟨0,by omega,rfl,aQ.refl _⟩
 case round=>
  obtain⟨j,hj,rfl,c⟩:=hrel;obtain⟨E,w,z,D,v,G⟩:=CA.out _ c;obtain⟨B,F,y,A,C,x⟩:=CB.out _ c;have q:=aB c;by_cases l:j<k.length
  ·obtain⟨m,rfl⟩:∃m,gk=m+1:=⟨gk-1,by omega⟩
   obtain⟨g,g',rfl,rfl,o,t,n,u,q5,q6⟩:=HS.out j (by simpa [kV] using l)
   simp only[kV,List.getElem_map] at o t n u;replace o:=bB c.heap o
   replace t:=bB c.heap t
   replace n:=bB c.heap n
   replace u:=bB c.heap u
   have e1:(0:Int)<=(j:Int):=by omega
   have e2:(j:Int)<(k.length:Int):=by omega
   clear c;go_wp2_with fail;go_quiet (fail)
   go_wp2_with fail;go_roundg m
   case measure=>omega
   case rel=>exact⟨j+1,by omega,by go_num,q.out.trans (aQ.drewN _ _)⟩
  ·have e3:¬(j:Int)<(k.length:Int):=by omega
   clear c;go_wp2_with fail;clear E w z D v G B F y A C x;go_loopg [6] h.length (fun gk i wr=>∃j:Nat,j+gk=h.length/\i=.int .i64 j/\aQ f wr)
   case atStart=>exact⟨0,by omega,rfl,q.out⟩
   case round=>
    clear q;obtain⟨j,hj,rfl,c⟩:=hrel;obtain⟨E,w,z,D,v,G⟩:=CA.out _ c;obtain⟨B,F,y,A,C,x⟩:=CB.out _ c;have q:=aB c;by_cases l:j<h.length
    ·obtain⟨m,rfl⟩:∃m,gk=m+1:=⟨gk-1,by omega⟩
     obtain⟨g,g',rfl,rfl,o,t,n,u,q5,q6⟩:=HV.out j (by simpa using l)
     simp only[List.getElem_map] at o t n u;replace o:=bB c.heap o
     replace t:=bB c.heap t
     replace n:=bB c.heap n
     replace u:=bB c.heap u
     have e1:(0:Int)<=(j:Int):=by omega
     have e2:(j:Int)<(h.length:Int):=by omega
     clear c;go_wp2_with fail;go_quiet (fail)
     go_wp2_with fail;go_roundg m
     case measure=>omega
     case rel=>exact⟨j+1,by omega,by go_num,q.out.trans (aQ.drewN _ _)⟩
    ·have e3:¬(j:Int)<(h.length:Int):=by omega
     clear c;go_wp2_with fail;clear E w z D v G B F y A C x;go_loopg [7] lo.length (fun gk i wr=>∃j:Nat,j+gk=lo.length/\i=.int .i64 j/\aQ f wr)
     case atStart=>exact⟨0,by omega,rfl,q.out⟩
     case round=>
      clear q;obtain⟨j,hj,rfl,c⟩:=hrel;obtain⟨E,w,z,D,v,G⟩:=CA.out _ c;obtain⟨B,F,y,A,C,x⟩:=CB.out _ c;have q:=aB c;by_cases l:j<lo.length
      ·obtain⟨m,rfl⟩:∃m,gk=m+1:=⟨gk-1,by omega⟩
       obtain⟨g,g',rfl,rfl,o,n,q5,q6⟩:=HO.out j l;replace o:=bB c.heap o
       replace n:=bB c.heap n
       have e1:(0:Int)<=(j:Int):=by omega
       have e2:(j:Int)<(lo.length:Int):=by omega
       clear c;go_wp2_with fail;go_quiet (fail)
       go_wp2_with fail;go_roundg m
       case measure=>omega
       case rel=>exact⟨j+1,by omega,by go_num,q.out.trans (aQ.drewN _ _)⟩
      ·have e3:¬(j:Int)<(lo.length:Int):=by omega
       clear c;go_wp2_with fail;go_ret;exact⟨rfl,q.out⟩
def LG(W h:World)(a b:SV)(n lb:List (List UInt8 × Nat))(k l:List (List UInt8))(hl:n.length<=1000000/\lb.length<=n.length+1/\k.length<=l.length/\l.length<=1000000/\a.t<=1000000)
 (et:b.t=a.t+1) (eq:a.q=0) (n1:a.n1=n.length) (n3:a.n3=k.length) (z:b.n1=lb.length) (t:b.n3=l.length)
 (s:(W.alloc (.cells a.cells 63)).alloc (.cells b.cells 63)=h)
 (hO:r9 h a.x3 b.x3 k) (hS:j0 h a.x1 b.x1 (kV lb.dropLast)):
 Calls prog 29 #[a.val,b.val] W fun e w'=>e=.returned (.bool true)/\aQ h w':=by
 obtain⟨f,y,S,C,ac,Z,af,u,Q,x,aq⟩:=a;obtain⟨bt,B,aa,v,ab,X,ah,E,T,D,bq⟩:=b;simp only at et eq n1 n3 z t hS hO hl;subst et eq n1 n3 z t;obtain⟨ae,ag,ai,ad,aj⟩:=hl;unfold SV.cells at s;have ec:((f+1:Nat):Int)=(f:Int)+1:=by omega
 have ez:((0:Nat):Int)=0:=rfl;simp only[ec,ez] at s;have o:h.heap[W.heap.size]?=some (.cells #[.int .i64 f,.slice y n.length u,.slice S Z Q,.slice C k.length x,.int .i64 0] 63 (0,0)):=by rw[<-s];exact jM _ _ _
 have w:h.heap[W.heap.size+1]?=some (.cells #[.int .i64 ((f:Int)+1),.slice B lb.length E,.slice aa X T,.slice v l.length D,.int .i64 bq] 63 (0,0)):=by rw[<-s];exact gO _ _ _
 have HW:=aB s;have HS:=aB hS;have HO:=aB hO;have O:Hid (∀(V:World),aQ h V->V.cell? ⟨W.heap.size,0,none⟩=some (.int .i64 f)/\V.cell? ⟨W.heap.size,1,none⟩=some (.slice y n.length u)/\V.cell? ⟨W.heap.size,3,none⟩=some (.slice C k.length x)/\V.cell? ⟨W.heap.size,4,none⟩=some (.int .i64 0)/\W.heap.size<V.heap.size):=aB fun V c=>⟨bB c.heap (aA o rfl),bB c.heap (aA o rfl),bB c.heap (aA o rfl),bB c.heap (aA o rfl),gM c.heap (aD o)⟩
 have P:Hid (∀(V:World),aQ h V->V.cell? ⟨W.heap.size+1,0,none⟩=some (.int .i64 ((f:Int)+1))/\V.cell? ⟨W.heap.size+1,1,none⟩=some (.slice B lb.length E)/\V.cell? ⟨W.heap.size+1,3,none⟩=some (.slice v l.length D)/\W.heap.size+1<V.heap.size):=aB fun V c=>⟨bB c.heap (aA w rfl),bB c.heap (aA w rfl),bB c.heap (aA w rfl),gM c.heap (aD w)⟩
 obtain⟨L,G,K,F,N⟩:=O.out h (aQ.refl _);obtain⟨J,M,I,H⟩:=P.out h (aQ.refl _);have z1:¬(l.length:Int)<(k.length:Int):=by omega
 have z2:¬(n.length:Int)+1<(lb.length:Int):=by omega
 clear s o w hS hO;unfold SV.val;simp only[ec,ez];go_enter Tryz.func29,Tryz.ntmps29;go_wp2_with fail;rw[HW.out];go_wp2_with fail;clear L G K F N J M I H;go_loopg [5] k.length (fun gk i wr=>∃j:Nat,j+gk=k.length/\i=.int .i64 j/\aQ h wr)
 case atStart=>exact⟨0,by omega,rfl,aQ.refl _⟩
 case round=>
  obtain⟨j,hj,rfl,d⟩:=hrel;obtain⟨L,G,K,F,N⟩:=O.out _ d;obtain⟨J,M,I,H⟩:=P.out _ d;have r:=aB d;by_cases A:j<k.length
  ·obtain⟨m,rfl⟩:∃m,gk=m+1:=⟨gk-1,by omega⟩
   obtain⟨g,g',rfl,rfl,q,p,q5,q6⟩:=HO.out j A;replace q:=bB d.heap q
   replace p:=bB d.heap p
   have e1:(0:Int)<=(j:Int):=by omega
   have e2:(j:Int)<(k.length:Int):=by omega
   have e4:(j:Int)<(l.length:Int):=by omega
   clear d;go_wp2_with fail;go_quiet (fail)
   go_wp2_with fail;go_roundg m
   case measure=>omega
   case rel=>exact⟨j+1,by omega,by go_num,r.out.trans (aQ.drewN _ _)⟩
  ·have e3:¬(j:Int)<(k.length:Int):=by omega
   clear d;go_wp2_with fail;clear L G K F N J M I H;go_loopg [6] lb.length (fun gk i wr=>∃j:Nat,j+gk=lb.length/\i=.int .i64 j/\aQ h wr)
   case atStart=>exact⟨0,by omega,rfl,r.out⟩
   case round=>
    clear r;obtain⟨j,hj,rfl,d⟩:=hrel;obtain⟨L,G,K,F,N⟩:=O.out _ d;obtain⟨J,M,I,H⟩:=P.out _ d;have r:=aB d;by_cases A:j+1<lb.length
    ·obtain⟨m,rfl⟩:∃m,gk=m+1:=⟨gk-1,by omega⟩
     obtain⟨g,g',rfl,rfl,q,U,p,Y,q5,q6⟩:=HS.out j (by simp[kV];omega)
     simp only[kV,List.getElem_map] at q U p Y;replace q:=bB d.heap q
     replace U:=bB d.heap U
     replace p:=bB d.heap p
     replace Y:=bB d.heap Y
     have e1:(0:Int)<=(j:Int):=by omega
     have e2:(j:Int)+1<(lb.length:Int):=by omega
     have e4:(j:Int)<(lb.length:Int):=by omega
     have e5:(j:Int)<(n.length:Int):=by omega
     clear d;go_wp2_with fail;go_quiet (fail)
     go_wp2_with fail;go_roundg m
     case measure=>omega
     case rel=>exact⟨j+1,by omega,by go_num,r.out.trans (aQ.drewN _ _)⟩
    ·have e3:¬(j:Int)+1<(lb.length:Int):=by omega
     clear d;go_wp2_with fail;go_ret;exact⟨rfl,r.out⟩
noncomputable def MS(s:bI):List (List UInt8 × List UInt8):=match s.m.frames.getLast? with
 |none=>[]
 |some f=>(gB f.seen).map fun x=>(x,JH f x)
def G4(s:bI):pE s=(MS s).map fun p=>(.string (bs p.1),.string (bs p.2)):=by
 unfold pE MS;cases s.m.frames.getLast? with
 |none=>rfl
 |some f=>simp[lD]
def fU.len{base:Nat}{w:World}{x:Option Addr}{n c:Nat}{l:List (Value × Value)}(h:fU base w (.slice x n c) l):n=l.length:=by
 obtain⟨a,b,e,_⟩:=h;cases e;rfl
def pB.len{base:Nat}{w:World}{x:Option Addr}{n c:Nat}{l:List (List UInt8)}(h:pB base w (.slice x n c) l):n=l.length:=by
 obtain⟨a,b,e,_⟩:=h;cases e;rfl
def up2(W:World)(o p:Obj){k:Nat}(a:k<W.heap.size):((W.alloc o).alloc p).heap[k]?=W.heap[k]?:=by
 rw[aA_ _ _ _ (by simp;omega),aA_ _ _ _ a]
def fU.two{b u:Nat}{W f:World}{x y:Option Addr}{n A c c':Nat}{l m:List (Value × Value)}(h:fU b W (.slice x n c) l)(k:fU u W (.slice y A c') m)(H:W.heap.size<=f.heap.size)(a:∀k,k<W.heap.size->f.heap[k]?=W.heap[k]?){d:List (Value × Value)}(D:d<+:l)(w:d<+:m):j0 f x y d:=by
 obtain⟨J,c',e,h⟩:=h;obtain⟨I,E,v,k⟩:=k;cases e;cases v;obtain⟨G,rfl⟩:=D;obtain⟨F,rfl⟩:=w;intro i B;obtain⟨g,C,p,o,_,s⟩:=h i (by simp;omega)
 obtain⟨j,z,t,q,_,r⟩:=k i (by simp;omega)
 rw[bv_ B] at p o t q;exact⟨g,j,C,z,(World.cell?_of_block (a g s)).trans p,(World.cell?_of_block (a g s)).trans o,(World.cell?_of_block (a j r)).trans t,(World.cell?_of_block (a j r)).trans q,by omega,by omega⟩
def pB.two{b p:Nat}{W a:World}{x y:Option Addr}{n s c c':Nat}{l m:List (List UInt8)}(h:pB b W (.slice x n c) l)(k:pB p W (.slice y s c') m)(C:W.heap.size<=a.heap.size)(f:∀k,k<W.heap.size->a.heap[k]?=W.heap[k]?)(z:l<+:m):r9 a x y l:=by
 obtain⟨E,c',e,h⟩:=h;obtain⟨D,A,q,k⟩:=k;cases e;cases q;obtain⟨B,rfl⟩:=z;intro i d;obtain⟨g,u,t,_,w⟩:=h i d;obtain⟨j,r,o,_,v⟩:=k i (by simp;omega)
 rw[bv_ d] at o;exact⟨g,j,u,r,(World.cell?_of_block (f g w)).trans t,(World.cell?_of_block (f j v)).trans o,by omega,by omega⟩
structure Short(s:bI):Prop where
 deep:s.m.frames.length<=16
 out:s.m.out.length<=1000000
 vars:(MS s).length<=1000000
 time:s.time<=500
def NT{b t:Nat}{W:World}{m a:SV}{s:bI}(h:oK b W m s)(k:oK t W a s)(l:Short s):
 Calls prog 25 #[m.val,a.val] W fun e p=>e=.returned (.bool true)/\Below W.heap.size W p:=by
 have n:W.heap.size<=((W.alloc (.cells m.cells 63)).alloc (.cells a.cells 63)).heap.size:=by simp;omega
 have i:=fun k v=>up2 W (.cells m.cells 63) (.cells a.cells 63) (k:=k) v
 have j:=h.vars;have o:=k.vars;rw[G4] at j o;have r:=h.stack.len;have f:=k.stack.len;have q:=j.len;have c:=o.len;have u:=h.out.len;have g:=k.out.len;simp only[kV,bV,bR_] at r f q c;refine(YJ W _ m a (bV s.m.frames) (MS s) s.m.out ⟨by simp[bV];have:=l.deep;omega,l.vars,l.out⟩ (by rw[h.t,k.t]) (by rw[h.q,k.q]) (by simp[bV];exact r) q u (by simp[bV];exact f) c g rfl (h.stack.two k.stack n i (bG_ _) (bG_ _)) (j.two o n i (bG_ _) (bG_ _)) (h.out.two k.out n i (bG_ _))).mono ?_
 rintro e p ⟨rfl,d⟩;exact⟨rfl,(((ay_ W.heap.size W).alloc (au_ _) (.cells m.cells 63)).alloc (by simp) (.cells a.cells 63)).trans ⟨d.os,d.tape,d.output,by rw[d.heap];exact au_ _,fun k _=>by rw[d.heap]⟩⟩
def PT{b u:Nat}{W:World}{m c:SV}{s a:bI}(h:oK b W m s)(k:oK u W c a)(q:Short s)(j:Short a)(B:a.time=s.time+1)(C:s.stop=0)(f:kD s.m a.m):
 Calls prog 29 #[m.val,c.val] W fun e o=>e=.returned (.bool true)/\Below W.heap.size W o:=by
 have t:W.heap.size<=((W.alloc (.cells m.cells 63)).alloc (.cells c.cells 63)).heap.size:=by simp;omega
 have p:=fun k y=>up2 W (.cells m.cells 63) (.cells c.cells 63) (k:=k) y
 have w:=h.stack.len;have n:=k.stack.len;have v:=h.out.len;have i:=k.out.len;simp only[kV,bV,bR_] at w n;have H:(bV s.m.frames).length=s.m.frames.length:=by simp[bV]
 have F:(bV a.m.frames).length=a.m.frames.length:=by simp[bV]
 have G:=q.deep;have z:=j.out;have D:=f.deep;have A:=f.out.length_le;have E:=q.time
 have x:kV (bV a.m.frames).dropLast<+:kV (bV s.m.frames):=by
  obtain⟨r,g⟩:=f.stack;exact⟨kV r,by rw[<-g];simp[kV]⟩
 have l:kV (bV a.m.frames).dropLast<+:kV (bV a.m.frames):=by
  obtain⟨r,g⟩:=List.dropLast_prefix (bV a.m.frames);refine⟨kV r,?_⟩;conv=>rhs;rw[<-g]
  simp[kV]
 refine(LG W _ m c (bV s.m.frames) (bV a.m.frames) s.m.out a.m.out ⟨by omega,by omega,A,z,by rw[h.t];omega⟩ (by rw[h.t,k.t,B]) (by rw[h.q,C]) (by omega) v (by omega) i rfl (h.out.two k.out t p f.out) (h.stack.two k.stack t p x l)).mono ?_
 rintro e o ⟨rfl,d⟩;exact⟨rfl,(((ay_ W.heap.size W).alloc (au_ _) (.cells m.cells 63)).alloc (by simp) (.cells c.cells 63)).trans ⟨d.os,d.tape,d.output,by rw[d.heap];exact au_ _,fun k _=>by rw[d.heap]⟩⟩
def SS{b:Nat}{W:World}{m:SV}{s:bI}(h:oK b W m s)(v:jW s.m):
 Calls prog 27 #[.slice m.x2 m.n2 m.c2] W fun e B=>e=.returned (.bool true)/\aQ W B:=by
 obtain⟨x,c,e,w⟩:=h.vars;cases t:s.m.frames.getLast? with
 |none=>
  have r:pE s=[]:=by unfold pE;rw[t]
  rw[r] at e;rw[e];exact xX x c W [] (by simp) (fun i d=>by simp at d) (fun i d=>by simp at d)
 |some f=>
  obtain⟨⟨u,o⟩,_⟩:=v f (bK_ t);have r:pE s=lD (JH f) (gB f.seen):=by unfold pE;rw[t]
  rw[r] at e w;have l:(lD (JH f) (gB f.seen)).length=(gB f.seen).length:=by simp[lD]
  rw[l] at e;rw[e];refine xX x c W (gB f.seen) (by rw[lJ];exact o) (fun i d=>?_) (fun i d=>?_)
  ·obtain⟨g,D,C,_,_,F⟩:=w i (by rw[l];exact d)
   exact⟨g,D,by simpa [lD] using C,F⟩
  ·have j:(gB f.seen).Pairwise fun x y=>(!decide (Lib.compareBytes y x<0))=true:=List.pairwise_mergeSort (fun a b c k p=>?_) (fun a b=>?_) f.seen
   ·have z:=List.pairwise_iff_getElem.1 j i (i+1) (by omega) d (by omega)
    have n:(gB f.seen).Nodup:=(List.mergeSort_perm f.seen _).nodup_iff.2 u
    have q:(gB f.seen)[i]≠(gB f.seen)[i+1]:=fun E=>by
     have:=List.pairwise_iff_getElem.1 n i (i+1) (by omega) d (by omega)
     exact this E
    simp only[Bool.not_eq_true',decide_eq_false_iff_not] at z;rcases Int.lt_trichotomy (Lib.compareBytes (gB f.seen)[i] (gB f.seen)[i+1]) 0 with k|k|k
    ·exact k
    ·exact absurd (RG _ _ k) q
    ·rw[sA (gB f.seen)[i]] at z;omega
   ·simp only[Bool.not_eq_true',decide_eq_false_iff_not] at k p ⊢
    intro A;by_cases G:Lib.compareBytes b a=0
    ·rw[RG b a G] at p;exact p A
    ·have H:Lib.compareBytes a b<0:=by
      have:=sA a b;omega
     exact p (vI c a b A H)
   ·simp only[bF_,Bool.not_eq_true',decide_eq_false_iff_not];have:=sA a b;omega
def CL(a:ByteArray)(w:World)(j:iT w)(i:a.size<=maxLen):
 Calls prog 15 #[.string a] w fun e d=>Below w.heap.size w d/\((cG a.data.toList).1=0->cG a.data.toList=(0,0))/\e=.returned (.tuple #[.int .i64 (cG a.data.toList).1,.int .i64 (cG a.data.toList).2]):=
 P0 (cG a.data.toList) a w fun c b g f=>(VP a w.heap.size c (j.below b) i g f).mono fun _ _ h=>h
def WB(w:World)(A:Nat->World->Prop)(B:World->Prop)
 (d:Hid (Calls prog 35 #[.string ⟨#[102,117,110,99,32,102,40,120,41,32,123,32,114,101,116,117,114,110,32,91,120,44,32,34,195,169,34,93,59,32,125,10,102,117,110,99,32,109,97,105,110,40,41,32,123,32,118,97,114,32,97,32,61,32,102,40,50,41,59,32,112,114,105,110,116,32,97,59,32,112,114,105,110,116,32,108,101,110,40,97,91,49,93,41,59,32,125]⟩] w fun e a=>∃g c,e=.returned (.tuple #[.slice (some ⟨g,0,none⟩) 2 c,.int .i64 4,.bool true])/\A g a))
 (h:Hid (∀g W,A g W->Calls prog 15 #[.string ⟨#[102,117,110,99,32,109,97,105,110,40,41,32,123,10,32,112,114,105,110,116,32,120,59,32,125]⟩] W fun e a=>e=.returned (.tuple #[.int .i64 6,.int .i64 2])/\a.cell? ⟨g,0,none⟩=some (.string ⟨#[91,50,44,32,34,195,169,34,93]⟩)/\a.cell? ⟨g,1,none⟩=some (.string ⟨#[49]⟩)/\g<a.heap.size/\B a)):
 Calls prog 55 #[] w fun e a=>e=.returned (.bool true)/\B a:=by
 go_enter Tryz.func55,Tryz.ntmps55;go_wp2_with fail;refine d.out.mono ?_;rintro e o ⟨g,c,rfl,i⟩;have b:=aB (h.out _ _ i);clear i d h;go_wp2_with fail;refine b.out.mono ?_;rintro e k ⟨rfl,n,m,l,f⟩;have j:=aB f;clear f b;go_wp2_with fail;go_ret;exact⟨rfl,j.out⟩
def F3(w:World)(k:iT w)(r:kC w)(d:11<=w.heap.size):Calls prog 55 #[] w fun e i=>e=.returned (.bool true)/\Below w.heap.size w i:=by
 refine WB w (fun g W=>Below w.heap.size w W/\W.cell? ⟨g,0,none⟩=some (.string ⟨#[91,50,44,32,34,195,169,34,93]⟩)/\W.cell? ⟨g,1,none⟩=some (.string ⟨#[49]⟩)/\g<W.heap.size) (fun W=>Below w.heap.size w W) ?_ (fun g W o=>?_)
 ·refine(OB w WJ 4 _ RW k r d).mono ?_;rintro e i ⟨x,n,c,rfl,⟨t,u,b,f⟩,a⟩;obtain⟨g,rfl,j,h,l⟩:=f 0 (by simp)
  obtain⟨s,m,q,_,_⟩:=f 1 (by simp)
  cases m;simp only[Value.slice.injEq] at b;obtain⟨rfl,rfl,rfl⟩:=b;exact⟨g,_,rfl,a,j,q,l⟩
 ·obtain⟨b,f,j,h⟩:=o;refine(CL (bs WK) W (k.below b) (by rw[gA];decide)).mono ?_
  rintro e i ⟨a,_,rfl⟩;rw[fS,TO];exact⟨rfl,(a.cell (p:=⟨g,0,none⟩) h).trans f,(a.cell (p:=⟨g,1,none⟩) h).trans j,az_ h a.size,b.trans (a.mono b.size)⟩
def F1(w:World)(d:List UInt8)(tx:Option Addr)(c:Nat)(a:List Int)(K:iT w)(H:kC w)(z:11<=w.heap.size)(hs:d.length<=140737488355328)(B:a.length<=17592186044416)(hi:∀x∈a, -9223372036854775808<=x/\x<=9223372036854775807)
 (M:0<a.length->∃J,tx=some J/\J.block<w.heap.size/\∀j v,(a.map (Value.int .i64))[j]?=some v->w.cell? (J.add j)=some v):
 Calls prog 21 #[.string (bs d),.slice tx a.length c] w fun e y=>∃p,e=.returned (.tuple #[.pointer p,.bool true])/\Below w.heap.size w y/\(p=none\/∃f m q G t s,p=some ⟨f,0,none⟩/\Good m/\Live q G y f t (.map #[] 0) m a s 1 []/\s.time=0/\w.heap.size<=f):=by
 have r:(a.map (Value.int .i64)).length=a.length:=by simp
 have Z:gA d=gA d:=rfl;rw[<-r]
 refine VZ w (bs d) tx c (a.map (Value.int .i64)) (by rw[r];exact B) (fun v C=>?_) (fun W=>Below w.heap.size w W)
  (fun p k l W=>Below w.heap.size w W/\cG d=(k,l)/\(p=none↔k≠0)/\(p=none\/∃f m q G t s,p=some ⟨f,0,none⟩/\Good m/\Live q G W f t (.map #[] 0) m a s 1 []/\s.time=0/\w.heap.size<=f))
  (fun p W=>Below w.heap.size w W/\(p=none\/∃f m q G t s,p=some ⟨f,0,none⟩/\Good m/\Live q G W f t (.map #[] 0) m a s 1 []/\s.time=0/\w.heap.size<=f))
  (F3 w K H z) (fun W E=>⟨E,fun h=>M (by rw[<-r];exact h)⟩) (fun W V g E hV P aa=>?_) (fun p k l W X=>?_)
 ·simp only[bz_] at C;obtain⟨x,_,rfl⟩:=C;rfl
 ·have n:Below w.heap.size w V:=E.trans (hV.mono E.size);refine(DA (bs d) (.slice (some ⟨g,0,none⟩) (a.map (Value.int .i64)).length (a.map (Value.int .i64)).length) a V (K.below n) (H.below n) (by rw[gA];omega) (as_ ⟨g,0,_,by rw[r],aD P,fun i L=>⟨?_,hi _ (aR_ _)⟩⟩) B (fun m O N=>?_)).mono ?_
  ·rw[bk_];exact aA P (by simp[L])
  ·rw[fS] at O N;exact AD O N
  ·rintro e y ⟨v,rfl,o,C⟩;rw[fS] at C;have u:Below w.heap.size w y:=n.trans (o.mono n.size);have Q:w.heap.size<=V.heap.size:=n.size;rcases C with ⟨D,m,q,G,f,t,q1,rfl,q2,q3,T,s,q5,q6⟩|⟨D,rfl⟩
   ·refine⟨some ⟨f,0,none⟩,0,0,rfl,u,D,by simp,as_ ⟨f,m,q,G,t,s,rfl,AD q1 D,⟨q5,T,H.below u,⟨by omega,by omega⟩,by omega,fun b o=>by cases o⟩,q6,by omega⟩⟩
   ·exact⟨none,_,_,rfl,u,rfl,by simpa using D,av_ rfl⟩
 ·obtain⟨o,S,I,F⟩:=X;refine⟨I,(CL (bs d) W (K.below o) (by rw[gA];unfold maxLen;omega)).mono ?_⟩
  rintro e y ⟨A,_,rfl⟩;rw[fS,S];refine⟨rfl,o.trans (A.mono o.size),?_⟩;rcases F with F|⟨f,m,q,G,t,s,e1,e2,Y,e4,U⟩
  ·exact av_ F
  ·exact as_ ⟨f,m,q,G,t,s,e1,e2,Y.but (But.below A []) (fun b o=>by cases o),e4,U⟩
def mA(m:SV):List Nat:=(if m.n1=0 then [] else (m.x1.map (·.block)).toList)++((if m.n2=0 then [] else (m.x2.map (·.block)).toList)++(if m.n3=0 then [] else (m.x3.map (·.block)).toList))
def oK.keepL{b:Nat}{W a:World}{m:SV}{s:bI}(h:oK b W m s)(o:∀g∈mA m,a.heap[g]?=W.heap[g]?)(A:W.heap.size<=a.heap.size):oK b a m s:=by
 have t:∀{x:Option Addr} {n c:Nat} {l:List (Value × Value)},fU b W (.slice x n c) l->(∀g,n≠0->x=some ⟨g,0,none⟩->a.heap[g]?=W.heap[g]?)->fU b a (.slice x n c) l:=by
  rintro x n c l ⟨v,w,e,k⟩ y;cases e;refine⟨_,_,rfl,fun i q=>?_⟩
  obtain⟨g,d,p,j,u,z⟩:=k i q;have:=y g (by omega) d
  exact⟨g,d,(World.cell?_of_block this).trans p,(World.cell?_of_block this).trans j,u,by omega⟩
 refine⟨h.t,h.q,t h.stack fun g f e=>o g ?_,t h.vars fun g f e=>o g ?_,?_⟩
 ·unfold mA;rw[if_neg f,e];simp
 ·unfold mA;rw[if_neg f,e];simp
 ·obtain⟨v,w,e,k⟩:=h.out;have r:=e;simp only[Value.slice.injEq] at r;refine⟨v,w,e,fun i q=>?_⟩
  obtain⟨g,d,p,j,u⟩:=k i q;have:=o g (by unfold mA;rw[if_neg (show ¬m.n3=0 by omega),r.1,d];simp)
  exact⟨g,d,(World.cell?_of_block this).trans p,j,by omega⟩
def oK.blks{b:Nat}{W:World}{m:SV}{s:bI}(h:oK b W m s):∀g∈mA m,b<=g/\g<W.heap.size:=by
 have k:∀{x:Option Addr} {n c:Nat} {l:List (Value × Value)} {g:Nat},fU b W (.slice x n c) l->n≠0->g∈(x.map (·.block)).toList->b<=g/\g<W.heap.size:=by
  rintro x n c l g ⟨q,r,e,f⟩ o a;cases e;obtain⟨p,j,_,_,i,d⟩:=f 0 (by omega)
  rw[j] at a;simp at a;subst a;exact⟨i,d⟩
 intro g a;unfold mA at a;simp only[aE_] at a;rcases a with a|a|a
 ·split at a
  ·cases a
  ·exact k h.stack (by assumption) a
 ·split at a
  ·cases a
  ·exact k h.vars (by assumption) a
 ·split at a
  ·cases a
  ·rename_i o;obtain⟨q,r,e,f⟩:=h.out;simp only[Value.slice.injEq] at e;obtain⟨p,j,_,i,d⟩:=f 0 (by omega)
   rw[e.1,j] at a;simp at a;subst a;exact⟨i,d⟩
structure kB(w:World)(ks:List aC)(tape:List Int)(sb:Nat)(W:World)(L:List Nat)(s:bI):Prop where
 live:∃fp F mb mo n,Live fp F W sb mb mo ks tape s n L
 sb:w.heap.size<=sb
 low:Below w.heap.size w W
structure Mom(L:List Nat)(W:World)(m:SV)(ab:Nat)(s:bI):Prop where
 mom:oK 0 W m s
 blk:∀b∈mA m,b∈L
 box:W.heap[ab]?=some (.cells m.cells 63 (0,0))
 mem:ab∈L
section
variable {w:World} {ks:List aC} {tape:List Int} {sb:Nat} {W W':World} {L L':List Nat} {s s':bI} {m:SV} {ab:Nat}
def Mom.keep(h:Mom L W m ab s)(a:∀b∈L,W'.heap[b]?=W.heap[b]?)(f:W.heap.size<=W'.heap.size)(c:∀b∈L,b∈L'):Mom L' W' m ab s:=
 ⟨h.mom.keepL (fun g e=>a g (h.blk g e)) f,fun b d=>c b (h.blk b d),by rw[a ab h.mem];exact h.box,c _ h.mem⟩
def kB.st(h:kB w ks tape sb W L s):cE ks tape s.time=some s:=by
 obtain⟨c,F,d,b,n,a⟩:=h.live;exact a.ses.now
def kB.lt(h:kB w ks tape sb W L s){b:Nat}(a:b∈L):b<W.heap.size:=by
 obtain⟨e,F,f,d,n,c⟩:=h.live;exact(c.loc b a).2.1
def kB.below(h:kB w ks tape sb W L s)(a:Below W.heap.size W W'):kB w ks tape sb W' L s:=by
 obtain⟨e,F,f,c,n,d⟩:=h.live;exact⟨⟨e,F,f,c,n,d.but (But.below a []) fun b a=>by cases a⟩,h.sb,h.low.trans (a.mono h.low.size)⟩
def Live.freshL{f:Nat->Value}{F:Nat->Prop}{g n:Nat}{e:Obj}(h:Live f F W sb g e ks tape s n L)(i:Live f F W' sb g e ks tape s n L)(j:W'.heap[sb]?=W.heap[sb]?):∀(M:List Nat),(∀b∈M,W.heap.size<=b/\b<W'.heap.size)->Live f F W' sb g e ks tape s n (M++L)
 |[],_=>i
 |b::M,d=>by
  have a:=Live.freshL h i j M fun x c=>d x (aJ_ _ c)
  have k:=h.fresh i j (d b (aS_ ..)).1 (d b (aS_ ..)).2
  exact⟨a.ses,a.tab,a.pow,a.low,a.hn,fun x c=>by
   rcases aG_.1 c with rfl|c
   ·exact k.loc x (aS_ ..)
   ·exact a.loc x c⟩
def kB.short(c:Good ks)(h:kB w ks tape sb W L s):Short s/\jW s.m/\(∀x∈s.m.frames,x.seen.length<=x.vars.length):=by
 obtain⟨b,g,e,i⟩:=c.sta h.st;have a:=SQ c.ok c.kl tape s.time s h.st;refine⟨⟨b.deep,by have:=e.out;omega,?_,b.time⟩,a,b.told⟩
 unfold MS;cases d:s.m.frames.getLast? with
 |none=>simp
 |some f=>
  have:=(a f (bK_ d)).1.2;simp[lJ];omega
def kB.now(q:Good ks)(h:kB w ks tape sb W L s):
 Calls prog 23 #[.pointer (some ⟨sb,0,none⟩)] W fun e c=>∃m:SV,e=.returned m.val/\Below W.heap.size W (c.alloc (.cells m.cells 63))/\kB w ks tape sb (c.alloc (.cells m.cells 63)) (c.heap.size::(mA m++L)) s/\Mom (c.heap.size::(mA m++L)) (c.alloc (.cells m.cells 63)) m c.heap.size s/\W.heap.size<=c.heap.size/\∀b∈mA m,W.heap.size<=b:=by
 obtain⟨i,l,x⟩:=h.short q;obtain⟨r,F,u,v,n,f⟩:=h.live;refine(U9 f.ses i.deep f.pow l x i.out).mono ?_;rintro e c ⟨m,rfl,a,t⟩;have d:=t.blks;have k:Live r F c sb u v ks tape s n L:=f.but (But.below a []) fun b a=>by cases a
 have p:=f.freshL k (a.block _ f.ses.lt) (mA m) d;have o:=p.alloc (.cells m.cells 63);have j:Below W.heap.size W (c.alloc (.cells m.cells 63)):=a.alloc a.size _;refine⟨m,rfl,j,⟨⟨r,F,u,v,n,o⟩,h.sb,h.low.trans (j.mono h.low.size)⟩,⟨?_,fun b a=>by simp[a],aM _ _ rfl _,by simp⟩,a.size,fun b a=>(d b a).1⟩
 exact(t.low (a9_ _)).keepL (fun g q=>aA_ _ _ _ (d g q).2) (by simp)
def kB.step(x:Good ks)(j:tape.length<=17592186044416)(h:kB w ks tape sb W L s):
 Calls prog 28 #[.pointer (some ⟨sb,0,none⟩)] W fun e c=>(∀b∈L,c.heap[b]?=W.heap[b]?)/\W.heap.size<=c.heap.size/\((e=.returned (.bool true)/\s.stop=0/\∃d,d.time=s.time+1/\kB w ks tape sb c L d)\/(e=.returned (.bool false)/\s.stop≠0/\kB w ks tape sb c L s)):=by
 obtain⟨l,F,p,q,n,f⟩:=h.live;refine(NE x j f).mono ?_;rintro e c ⟨b,rfl,G,m,d,o,v,i⟩;have a:Below w.heap.size w c:=Below.fs h.low i h.sb fun k t=>(f.row t).1
 refine⟨fun b r=>f.blk i r,i.size,?_⟩
 rcases IR f.ses.now v with ⟨rfl,u,g⟩|⟨rfl,rfl,g⟩
 ·exact av_ ⟨rfl,g,d,u,⟨l,G,p,q,m,o⟩,h.sb,a⟩
 ·exact as_ ⟨rfl,g,⟨l,G,p,q,m,o⟩,h.sb,a⟩
def kB.back(y:Good ks)(i:tape.length<=17592186044416)(h:kB w ks tape sb W L s)(u:s.time≠0):
 Calls prog 30 #[.pointer (some ⟨sb,0,none⟩)] W fun e a=>e=.returned (.bool true)/\(∀b∈L,a.heap[b]?=W.heap[b]?)/\W.heap.size<=a.heap.size/\∃d,d.time+1=s.time/\kB w ks tape sb a L d:=by
 obtain⟨m,F,v,x,n,f⟩:=h.live;refine(P8 y i f).mono ?_;rintro e a ⟨b,rfl,G,p,d,t,r,g⟩;have c:Below w.heap.size w a:=Below.fs h.low g h.sb fun k o=>(f.row o).1
 rcases r with ⟨_,_,l⟩|⟨rfl,q,z⟩
 ·exact absurd l u
 ·exact⟨rfl,fun b j=>f.blk g j,g.size,d,q,⟨m,G,v,x,p,t⟩,h.sb,c⟩
def kB.put(h:kB w ks tape sb W L s){b:Nat}(c:b∈L)(v:SV)(a:w.heap.size<=b):kB w ks tape sb (dR W b v) L s:=by
 obtain⟨g,F,i,d,n,f⟩:=h.live;exact⟨⟨g,F,i,d,n,f.but (But.set5 W b v) fun x e=>by rw[aD_.1 e];exact c⟩,h.sb,lO v h.low a⟩
end
def BN(w:World)(T:List UInt8)(tx:Option Addr)(c:Nat)(a:List Int)(hT:iT w)(hp:kC w)(ai:11<=w.heap.size)(hs:T.length<=140737488355328)(S:a.length<=17592186044416)(hi:∀x∈a, -9223372036854775808<=x/\x<=9223372036854775807)
 (al:0<a.length->∃ad,tx=some ad/\ad.block<w.heap.size/\∀j v,(a.map (Value.int .i64))[j]?=some v->w.cell? (ad.add j)=some v):
 Calls prog 10 #[.string (bs T),.slice tx a.length c] w fun e P=>e=.returned (.bool true)/\Below w.heap.size w P:=by
 refine NF w (bs T) tx a.length c (fun p W=>Below w.heap.size w W/\(p=none\/∃q d fp G mb s,p=some ⟨q,0,none⟩/\Good d/\Live fp G W q mb (.map #[] 0) d a s 1 []/\s.time=0/\w.heap.size<=q)) (fun W=>Below w.heap.size w W)
  (fun q t m f W=>∃d s L,Good d/\s.time=t/\kB w d a q W L s/\Mom L W m f s/\w.heap.size<=f)
  (fun q t m f W=>∃d s L,Good d/\s.time=t/\kB w d a q W L s/\Mom L W m f s/\w.heap.size<=f)
  (fun q t m f W=>∃d s k L,Good d/\s.time=t/\k.time=t+1/\cE d a t=some s/\Short s/\kB w d a q W L k/\Mom L W m f s/\w.heap.size<=f)
  (fun q t m f A D W=>∃d s k L,Good d/\s.time=t/\k.time=t+1/\cE d a t=some s/\Short s/\kB w d a q W L k/\Mom L W m f s/\Mom L W A D k/\w.heap.size<=f/\f∉mA A/\f≠D)
  (fun q t m f A D W=>∃d s k L,Good d/\s.time=t/\k.time=t+1/\cE d a (t+1)=some k/\Short k/\kB w d a q W L s/\Mom L W m f s/\Mom L W A D k/\w.heap.size<=f/\f∉mA A/\f≠D)
  (fun q t m f A D m2 cb W=>∃d s k L,Good d/\s.time=t/\k.time=t+1/\cE d a (t+1)=some k/\Short k/\kB w d a q W L s/\Mom L W m f s/\Mom L W A D k/\Mom L W m2 cb s/\w.heap.size<=f/\f∉mA A/\f≠D)
  (fun q t m f A D W=>∃d s k L,Good d/\s.time=t/\k.time=t+1/\kB w d a q W L k/\Mom L W m f s/\Mom L W A D k/\w.heap.size<=f/\f∉mA A/\f≠D)
  (fun q t m f A D m3 db W=>∃d s k L,Good d/\s.time=t/\k.time=t+1/\kB w d a q W L k/\Mom L W m f s/\Mom L W A D k/\Mom L W m3 db k/\w.heap.size<=f/\f∉mA A/\f≠D)
  (F1 w T tx c a hT hp ai hs S hi al) (fun p W hB=>?_) (fun q t m f W hI=>?_) (fun q t m f W hJ=>?_) (fun q t m f W Y=>?_) (fun q t m f A D W hJ=>?_) (fun q t m f A D W Y=>?_) (fun q t m f A D m2 cb W Y=>?_) (fun q t m f A D W Y=>?_) (fun q t m f A D m3 db W Y=>?_)
 ·obtain⟨n,rfl|⟨q,d,fp,G,mb,s,rfl,i,hl,C,ak⟩⟩:=hB
  ·exact av_ ⟨rfl,n⟩
  ·refine as_ ⟨q,rfl,?_⟩;have l:kB w d a q W [] s:=⟨⟨fp,G,mb,_,1,hl⟩,ak,n⟩;have aa:=SR i.ok i.main a (by have:=l.st;rw[C] at this;exact this)
   refine(l.now i).mono ?_;rintro e P ⟨m,rfl,I,h2,X,h4,_⟩;refine⟨m,rfl,by rw[X.mom.t,C],?_,d,s,_,i,C,h2,X,aF_ n.size h4⟩
   rw[X.mom.out.len,aa];rfl
 ·obtain⟨d,s,L,i,C,l,y,o⟩:=hI;obtain⟨B,af,_⟩:=l.short i;refine⟨y.box,by have:=B.time;omega,(SS y.mom af).mono ?_⟩
  rintro e P ⟨rfl,hS⟩;exact⟨rfl,d,s,L,i,C,l.below hS.below,y.keep (fun b _=>by rw[hS.heap]) (by rw[hS.heap];exact au_ _) (fun _ h=>h),o⟩
 ·obtain⟨d,s,L,i,C,l,y,o⟩:=hJ;obtain⟨B,af,_⟩:=l.short i;refine(l.step i S).mono ?_;rintro e P ⟨hk,hz,(⟨rfl,hq,V,ae,U⟩|⟨rfl,hq,U⟩)⟩
  ·have Z:=y.keep hk hz (fun _ h=>h)
   have h5:=(U.short i).1.time;refine⟨Z.box,as_ ⟨rfl,by rw[y.mom.q];exact hq,by omega,d,s,V,L,i,C,by omega,by rw[<-C];exact l.st,B,U,Z,o⟩⟩
  ·have Z:=y.keep hk hz (fun _ h=>h)
   exact⟨Z.box,av_ ⟨rfl,by rw[y.mom.q];exact hq,U.low⟩⟩
 ·obtain⟨d,s,k,L,i,C,u,F,B,l,y,o⟩:=Y;refine(l.now i).mono ?_;rintro e P ⟨A,rfl,I,h2,X,h4,h5⟩;have am:=l.lt y.mem;refine⟨A,rfl,d,s,k,_,i,C,u,F,B,h2,y.keep (fun b n=>I.block b (l.lt n)) I.size (fun b n=>by simp[n]),X,o,fun n=>?_,by omega⟩
  have:=h5 f n;omega
 ·obtain⟨d,s,k,L,i,C,u,F,B,l,y,z,o,E,H⟩:=hJ;obtain⟨K,_,_⟩:=l.short i;have hf:=pL (iF i.ok) (mU i.ok i.main a) F (by have:=l.st;rw[u] at this;exact this)
  refine⟨y.box,z.box,(PT y.mom z.mom B K (by omega) hf.1 hf.2).mono ?_⟩
  rintro e P ⟨rfl,n⟩;have Q:=l.below n;refine⟨rfl,(Q.back i S (by omega)).mono ?_⟩
  rintro e w2 ⟨rfl,hk,hz,V,ae,M⟩
  obtain rfl:V=s:=by
   have I:=M.st;rw[show V.time=t by omega,F] at I
   exact(Option.some.inj I).symm
  have r:∀b∈L,w2.heap[b]?=W.heap[b]?:=fun b J=>(hk b J).trans (n.block b (l.lt J))
  have N:=aF_ n.size hz;exact⟨rfl,d,V,k,L,i,C,u,by have:=l.st;rw[u] at this;exact this,K,M,y.keep r N (fun _ h=>h),z.keep r N (fun _ h=>h),o,E,H⟩
 ·obtain⟨d,s,k,L,i,C,u,F,B,l,y,z,o,E,H⟩:=Y;refine(l.now i).mono ?_;rintro e P ⟨m2,rfl,I,h2,X,h4,h5⟩;have r:∀b∈L,(P.alloc (.cells m2.cells 63)).heap[b]?=W.heap[b]?:=fun b n=>I.block b (l.lt n)
  exact⟨m2,rfl,d,s,k,_,i,C,u,F,B,h2,y.keep r I.size (fun b n=>by simp[n]),z.keep r I.size (fun b n=>by simp[n]),X,o,E,H⟩
 ·obtain⟨d,s,k,L,i,C,u,F,B,l,y,z,aj,o,E,H⟩:=Y;obtain⟨ag,_,_⟩:=l.short i;refine⟨y.box,aj.box,(NT y.mom aj.mom ag).mono ?_⟩;rintro e P ⟨rfl,n⟩;have Q:=l.below n;refine⟨rfl,(Q.step i S).mono ?_⟩;rintro e w2 ⟨hk,hz,(⟨rfl,hq,V,ae,M⟩|⟨rfl,hq,M⟩)⟩
  ·obtain rfl:V=k:=by
    have I:=M.st;rw[show V.time=t+1 by omega,F] at I
    exact(Option.some.inj I).symm
   have r:∀b∈L,w2.heap[b]?=W.heap[b]?:=fun b J=>(hk b J).trans (n.block b (l.lt J))
   have N:=aF_ n.size hz;exact⟨rfl,d,s,V,L,i,C,u,M,y.keep r N (fun _ h=>h),z.keep r N (fun _ h=>h),o,E,H⟩
  ·have hf:=pL (iF i.ok) (mU i.ok i.main a) l.st (by rw[C];exact F)
   exact absurd hf.1 hq
 ·obtain⟨d,s,k,L,i,C,u,l,y,z,o,E,H⟩:=Y;refine(l.now i).mono ?_;rintro e P ⟨m3,rfl,I,h2,X,h4,h5⟩;have r:∀b∈L,(P.alloc (.cells m3.cells 63)).heap[b]?=W.heap[b]?:=fun b n=>I.block b (l.lt n)
  exact⟨m3,rfl,d,s,k,_,i,C,u,h2,y.keep r I.size (fun b n=>by simp[n]),z.keep r I.size (fun b n=>by simp[n]),X,o,E,H⟩
 ·obtain⟨d,s,k,L,i,C,u,l,y,z,ac,o,E,H⟩:=Y;obtain⟨K,_,_⟩:=l.short i;refine⟨z.box,ac.box,(NT z.mom ac.mom K).mono ?_⟩;rintro e w2 ⟨rfl,n⟩;have Q:=l.below n;have r:∀b∈L,w2.heap[b]?=W.heap[b]?:=fun b J=>n.block b (l.lt J)
  have ah:=y.keep r n.size (fun _ h=>h)
  have O:=z.keep r n.size (fun _ h=>h)
  refine⟨rfl,ah.box,O.box,d,k,L,i,u,Q.put y.mem A o,⟨?_,O.blk,qG ah.box rfl,y.mem⟩,o⟩;exact O.mom.keepL (fun g i=>cV _ _ _ _ (fun e=>E (e▸i))) (by rw[(fO _ _ _).1];exact au_ _)
end Go.Proofs.YtblbkfdhjfppkaaGreatDoor
