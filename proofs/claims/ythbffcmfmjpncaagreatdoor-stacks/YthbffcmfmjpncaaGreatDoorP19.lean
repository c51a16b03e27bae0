/- Stacks: a session begins: the walk. -/
import Derived.Test.YthbffcmfmjpncaaGreatDoorB07
import Derived.Test.YthbffcmfmjpncaaGreatDoorP18
set_option linter.defProp false
set_option maxRecDepth 100000
set_option maxHeartbeats 4000000
namespace Go.Proofs.YthbffcmfmjpncaaGreatDoor
open Hs
open _root_.Go.Proofs.Tryz
open Go.RowKit
variable{b c n:Nat}{x:Option Addr}{m:SV}{W:World}{s:bI}
def U0:(prog.info? 3).map (λi=>(i.zero,i.size,i.bytes))=some (some (.int .i64 0),1,8):=k_
def XJ(w:World)(y:ByteArray)(tx:Option Addr)(c:Nat)(cs:List Value)(hn:cs.length<=17592186044416)(h1:∀v∈cs,v.oneCell'=true)(A:World->Prop)(S:Option Addr->Nat->Nat->World->Prop)(R:Option Addr->World->Prop)
 (Q:Hid (Calls prog 28 #[] w λe s=>e=.returned (.bool true)/\A s))
 (Z:Hid (∀W,A W->Below w.heap.size w W/\(0<cs.length->∃d,tx=some d/\d.block<w.heap.size/\∀j v,cs[j]?=some v->w.cell? (d.add j)=some v)))
 (X:Hid (∀W V g,A W->Below W.heap.size W V->V.heap[g]?=some (.cells cs.toArray 3 (0,0))->W.heap.size<=g->Calls prog 17 #[.string y,.slice (some ⟨g,0,none⟩) cs.length cs.length] V λe s=>∃(p:Option Addr) (k l:Nat),e=.returned (.tuple #[.pointer p,.int .i64 k,.int .i64 l])/\S p k l s))
 (T:Hid (∀(p:Option Addr) (k l:Nat) W,S p k l W->(p=none↔k≠0)/\Calls prog 7 #[.string y] W λe s=>e=.returned (.tuple #[.int .i64 k,.int .i64 l])/\R p s)):
 Calls prog 9 #[.string y,.slice tx cs.length c] w λe s=>∃p,e=.returned (.tuple #[.pointer p,.bool true])/\R p s:=by
 go_enter func9,ntmps9;go_wp2_with fail;refine Q.out.mono ?_;rintro e b ⟨rfl,E⟩;have U:=aB E;clear E Q
 have F:(Instr.makeSlice 31 (.int .i64 (cs.length:Int)) (.int .i64 (cs.length:Int))).run prog b=.ok (.slice (some ⟨b.heap.size,0,none⟩) cs.length cs.length) (b.alloc (.cells (madeCells #[.int .i64 0] cs.length) 3)):=by
  obtain⟨i0,hi,J,K,L⟩:=info_parts U0;have:=run_make (P:=prog) b 31 3 i0 _ underlying31 hi J .i64 .i64 cs.length cs.length o_ (Int.le_refl _) (by rw[L];omega) o_
  rw[K,jf] at this;exact this
 obtain⟨a,n,x⟩:∃a:List Value,madeCells #[Value.int .i64 0] cs.length=a.toArray/\a.length=cs.length:=⟨(madeCells #[Value.int .i64 0] cs.length).toList,s_,by simp[size_madeCells]⟩
 rw[n] at F;obtain⟨u,r⟩:=Z.out _ U.out;have t:Below b.heap.size b (b.alloc (.cells a.toArray 3)):=(ei _ _).alloc (eh _) _;have i:(b.alloc (.cells a.toArray 3)).heap[b.heap.size]?=some (.cells a.toArray 3 (0,0)):=aL _ _ rfl _
 have m:0<cs.length->(some ⟨b.heap.size,0,none⟩:Option Addr)=some ⟨b.heap.size,0,none⟩/\∃d,tx=some d/\∀j v,cs[j]?=some v->(b.alloc (.cells a.toArray 3)).cell? (d.add j)=some v:=λhp=>by
  obtain⟨d,q1,q2,q3⟩:=r hp;refine⟨rfl,d,q1,λj v hv=>?_⟩
  have z:(d.add j).block=d.block:=by unfold Addr.add;split<;>rfl
  rw[World.cell?_of_block (w:=b) (en _ _ _ (by rw[z];have:=u.size;omega)),World.cell?_of_block (w:=w) (u.block _ (by rw[z];exact q2))]
  exact q3 j v hv
 have o:(prog.info? 3).map (·.size)=some 1:=k_
 obtain⟨I,aa,B,G⟩:∃I:World,(Builtin.copy_ #[31,31] 3 #[.slice (some ⟨b.heap.size,0,none⟩) cs.length cs.length,.slice tx cs.length c]).run prog (b.alloc (.cells a.toArray 3))=.ok (goInt cs.length) I/\I.heap[b.heap.size]?=some (.cells cs.toArray 3 (0,0))/\Below b.heap.size b I:=by
  by_cases h0:cs.length=0
  ·obtain rfl:cs=[]:=ge h0;obtain rfl:a=[]:=ge x;exact⟨_,run_copy_none (P:=prog) _ 31 31 3 3 _ tx 0 0 0 c underlying31 o rfl,i,t⟩
  ·obtain⟨_,d,rfl,hs⟩:=m o_
   refine⟨_,run_copy_row (P:=prog) (b.alloc (.cells a.toArray 3)) 31 31 3 3 b.heap.size 0 cs.length cs.length d cs.length c a.toArray 3 cs underlying31 o i (Nat.min_self _).symm hs t_ h1,?_,below_setRow t (eh _) _⟩
   have:=setRow_heap (b.alloc (.cells a.toArray 3)) b.heap.size a.toArray (a.take 0++cs++a.drop (0+cs.length)).toArray 3 _ i;simp only[List.take_zero,ii,gq,hQ (Nat.le_of_eq x),jx] at this ⊢
   simpa [hQ (Nat.le_of_eq x)] using this
 clear u r n m t i Z;go_wp2_with fail;have D:=aB (X.out _ _ _ U.out G B (eh _));clear B G F X;go_wp2_with fail;refine D.out.mono ?_;rintro e w3 ⟨p,k,l,rfl,Y⟩;obtain⟨f,H⟩:=T.out _ _ _ _ Y;have C:=aB H;clear Y H T D;go_wp2_with fail;refine C.out.mono ?_;rintro e w4 ⟨rfl,O⟩;have M:=aB O;clear O C;by_cases N:k=0
 ·subst N
  obtain⟨q,rfl⟩:∃q,p=some q:=by
   cases p with
   |none=>exact absurd rfl (f.1 rfl)
   |some q=>exact⟨q,rfl⟩
  clear f;go_wp2_with fail;go_ret2
  exact⟨_,rfl,M.out⟩
 ·obtain rfl:=f.2 N;have e0:((k:Int) != 0)=true:=t_
  clear f;go_wp2_with fail;go_ret2
  exact⟨_,rfl,M.out⟩
def ON(w:World)(ac:ByteArray)(tx:Option Addr)(n c:Nat)(B:Option Addr->World->Prop)(R:World->Prop)(I J K:Nat->Nat->SV->Nat->World->Prop)(J1 K1:Nat->Nat->SV->Nat->SV->Nat->World->Prop)(K2:Nat->Nat->SV->Nat->SV->Nat->SV->Nat->World->Prop)(K3:Nat->Nat->SV->Nat->SV->Nat->World->Prop)(K4:Nat->Nat->SV->Nat->SV->Nat->SV->Nat->World->Prop)
 (HB:Hid (Calls prog 9 #[.string ac,.slice tx n c] w λe a=>∃p,e=.returned (.tuple #[.pointer p,.bool true])/\B p a))
 (HZ:Hid (∀p W,B p W->(p=none/\R W)\/∃sb,p=some ⟨sb,0,none⟩/\Calls prog 10 #[.pointer (some ⟨sb,0,none⟩)] W λe a=>∃m:SV,e=.returned m.val/\m.t=0/\m.n3=0/\I sb 0 m a.heap.size (a.alloc (.cells m.cells 40))))
 (HI:Hid (∀sb t m ab W,I sb t m ab W->W.heap[ab]?=some (.cells m.cells 40 (0,0))/\t<=500/\Calls prog 11 #[.slice m.x2 m.n2 m.c2] W λe a=>e=.returned (.bool true)/\J sb t m ab a))
 (HJ:Hid (∀sb t m ab W,J sb t m ab W->Calls prog 12 #[.pointer (some ⟨sb,0,none⟩)] W λe a=>a.heap[ab]?=some (.cells m.cells 40 (0,0))/\((e=.returned (.bool false)/\m.q≠0/\R a)\/(e=.returned (.bool true)/\m.q=0/\t<500/\K sb t m ab a))))
 (HK:Hid (∀sb t m ab W,K sb t m ab W->Calls prog 10 #[.pointer (some ⟨sb,0,none⟩)] W λe a=>∃b:SV,e=.returned b.val/\J1 sb t m ab b a.heap.size (a.alloc (.cells b.cells 40))))
 (F:Hid (∀sb t m ab b j W,J1 sb t m ab b j W->W.heap[ab]?=some (.cells m.cells 40 (0,0))/\W.heap[j]?=some (.cells b.cells 40 (0,0))/\Calls prog 13 #[m.val,b.val] W λe a=>e=.returned (.bool true)/\Calls prog 14 #[.pointer (some ⟨sb,0,none⟩)] a λe a=>e=.returned (.bool true)/\K1 sb t m ab b j a))
 (A:Hid (∀sb t m ab b j W,K1 sb t m ab b j W->Calls prog 10 #[.pointer (some ⟨sb,0,none⟩)] W λe a=>∃v:SV,e=.returned v.val/\K2 sb t m ab b j v a.heap.size (a.alloc (.cells v.cells 40))))
 (D:Hid (∀sb t m ab b j v cb W,K2 sb t m ab b j v cb W->W.heap[ab]?=some (.cells m.cells 40 (0,0))/\W.heap[cb]?=some (.cells v.cells 40 (0,0))/\Calls prog 15 #[m.val,v.val] W λe a=>e=.returned (.bool true)/\Calls prog 12 #[.pointer (some ⟨sb,0,none⟩)] a λe a=>e=.returned (.bool true)/\K3 sb t m ab b j a))
 (E:Hid (∀sb t m ab b j W,K3 sb t m ab b j W->Calls prog 10 #[.pointer (some ⟨sb,0,none⟩)] W λe a=>∃s:SV,e=.returned s.val/\K4 sb t m ab b j s a.heap.size (a.alloc (.cells s.cells 40))))
 (G:Hid (∀sb t m ab b j s db W,K4 sb t m ab b j s db W->W.heap[j]?=some (.cells b.cells 40 (0,0))/\W.heap[db]?=some (.cells s.cells 40 (0,0))/\Calls prog 15 #[b.val,s.val] W λe a=>e=.returned (.bool true)/\a.heap[ab]?=some (.cells m.cells 40 (0,0))/\a.heap[j]?=some (.cells b.cells 40 (0,0))/\I sb (t+1) b ab (dS a ab b))):
 Calls prog 4 #[.string ac,.slice tx n c] w λe a=>e=.returned (.bool true)/\R a:=by
 go_enter func4,ntmps4;go_wp2_with fail;refine HB.out.mono ?_;rintro e w1 ⟨p,rfl,h1⟩;clear HB;rcases HZ.out _ _ h1 with ⟨rfl,hr⟩|⟨sb,rfl,hn⟩
 ·have HR:=aB hr;clear hr h1 HZ HI HJ HK F A D E G;go_wp2_with fail;go_ret;exact⟨rfl,HR.out⟩
 ·have HN:=aB hn;clear hn h1 HZ;go_wp2_with fail;refine HN.out.mono ?_;rintro e w2 ⟨⟨z1,x1,x2,x3,k1,k2,k3,d1,d2,d3,q⟩,rfl,t0,n0,h2⟩;simp only at t0 n0;subst t0 n0;have H2:=aB h2;unfold SV.val;clear HN h2;go_wp2_with fail;go_loopg [8] 501 (λgk i wr=>∃(t:Nat) (m:SV),i=.int .i64 t/\gk+t=501/\I sb t m w2.heap.size wr)
  case atStart=>exact⟨0,_,rfl,rfl,H2.out⟩
  case round=>
   obtain⟨t,m,rfl,hg,hI⟩:=hrel;obtain⟨y1,y2,y3⟩:=HI.out _ _ _ _ _ hI;obtain⟨gj,rfl⟩:∃gj,gk=gj+1:=⟨gk-1,o_⟩
   have HO:=aB y3;unfold SV.cells at y1;have c2:=aA (i:=2) y1 rfl;have l1:=aD y1;have e1:(t:Int)<=500:=o_
   clear y1 y3 hI H2;go_wp2_with fail;refine HO.out.mono ?_;rintro e w3 ⟨rfl,h3⟩;have C:=aB (HJ.out _ _ _ _ _ h3);clear h3 HO c2 l1;go_wp2_with fail;refine C.out.mono ?_;rintro e w4 ⟨z,(⟨rfl,hq,hr⟩|⟨rfl,hq,ht,h4⟩)⟩
   ·unfold SV.cells at z;have c4:=aA (i:=4) z rfl;have l4:=aD z;have e2:((m.q:Int) != 0)=true:=t_
    have HR:=aB hr;clear hr C z HI HJ HK F A D E G;go_wp2_with fail;go_ret;exact⟨rfl,HR.out⟩
   ·unfold SV.cells at z;have c4:=aA (i:=4) z rfl;have l4:=aD z;rw[hq] at c4;clear hq;have Y:=aB (HK.out _ _ _ _ _ h4);clear C z h4;go_wp2_with fail;refine Y.out.mono ?_;rintro e w5 ⟨b,rfl,h5⟩;obtain⟨x,y,hf⟩:=F.out _ _ _ _ _ _ _ h5;have HF:=aB hf;unfold SV.cells at x y;unfold SV.val at HF;unfold SV.cells at HF;have P:=aA (i:=0) x rfl;have N:=aA (i:=1) x rfl;have Q:=aA (i:=2) x rfl;have T:=aA (i:=3) x rfl;have O:=aA (i:=4) x rfl;have U:=aD x;have L:=aA (i:=0) y rfl;have M:=aA (i:=1) y rfl;have V:=aA (i:=2) y rfl;have H:=aA (i:=3) y rfl;have X:=aA (i:=4) y rfl;have S:=aD y;unfold SV.val;clear c4 l4 Y h5 hf x y;go_wp2_with fail;refine HF.out.mono ?_;rintro e w6 ⟨rfl,hb⟩;have af:=aB hb;clear HF hb P N Q T O U L M V H X S;go_wp2_with fail;refine af.out.mono ?_;rintro e w7 ⟨rfl,h7⟩;have ad:=aB (A.out _ _ _ _ _ _ _ h7);clear af h7;go_wp2_with fail;refine ad.out.mono ?_;rintro e w8 ⟨v,rfl,h8⟩;obtain⟨r,l,hs⟩:=D.out _ _ _ _ _ _ _ _ _ h8;have f:=aB hs;unfold SV.cells at r l;unfold SV.val at f;unfold SV.cells at f;have P:=aA (i:=0) r rfl;have N:=aA (i:=1) r rfl;have Q:=aA (i:=2) r rfl;have T:=aA (i:=3) r rfl;have O:=aA (i:=4) r rfl;have U:=aD r;have L:=aA (i:=0) l rfl;have M:=aA (i:=1) l rfl;have V:=aA (i:=2) l rfl;have H:=aA (i:=3) l rfl;have X:=aA (i:=4) l rfl;have S:=aD l;unfold SV.val;clear ad h8 hs r l;go_wp2_with fail;refine f.out.mono ?_;rintro e w9 ⟨rfl,ag⟩;have ai:=aB ag;clear f ag P N Q T O U L M V H X S;go_wp2_with fail;refine ai.out.mono ?_;rintro e ak ⟨rfl,Z⟩;have o:=aB (E.out _ _ _ _ _ _ _ Z);clear ai Z;go_wp2_with fail;refine o.out.mono ?_;rintro e aj ⟨s,rfl,ah⟩;obtain⟨u,g,hs⟩:=G.out _ _ _ _ _ _ _ _ _ ah;have f:=aB hs;unfold SV.cells at u g;unfold SV.val at f;unfold SV.cells at f;have P:=aA (i:=0) u rfl;have N:=aA (i:=1) u rfl;have Q:=aA (i:=2) u rfl;have T:=aA (i:=3) u rfl;have O:=aA (i:=4) u rfl;have U:=aD u;have L:=aA (i:=0) g rfl;have M:=aA (i:=1) g rfl;have V:=aA (i:=2) g rfl;have H:=aA (i:=3) g rfl;have X:=aA (i:=4) g rfl;have S:=aD g;unfold SV.val;clear o ah hs u g;go_wp2_with fail;refine f.out.mono ?_;rintro e am ⟨rfl,d,k,ae⟩;have aa:=aB ae;unfold dS at aa;clear f ae P N Q T O U L M V H X S;have P:=aA (i:=0) d rfl;have N:=aA (i:=1) d rfl;have Q:=aA (i:=2) d rfl;have T:=aA (i:=3) d rfl;have O:=aA (i:=4) d rfl;have U:=aD d;have f0:=aE (i:=0) d;have f1:=aE (i:=1) d;have f2:=aE (i:=2) d;have f3:=aE (i:=3) d;have f4:=aE (i:=4) d;have L:=aA (i:=0) k rfl;have M:=aA (i:=1) k rfl;have V:=aA (i:=2) k rfl;have H:=aA (i:=3) k rfl;have X:=aA (i:=4) k rfl;have S:=aD k;clear d k;go_wp2_with fail;go_roundg gj
    case measure=>omega
    case rel=>exact⟨t+1,b,by go_num,o_,aa.out⟩
def YH:∀a b:List UInt8,Op.bytesLess a b=decide (Lib.compareBytes a b<0)
 |[],[]=>rfl
 |[],_::_=>by simp[Op.bytesLess,Lib.compareBytes]
 |_::_,[]=>by simp[Op.bytesLess,Lib.compareBytes]
 |a::l,b::m=>by
  rw[Op.bytesLess,Lib.compareBytes,YH l m];by_cases c:a<b
  ·simp[c]
  ·by_cases d:b<a
   ·have:¬a=b:=λe=>by subst e;exact c d
    simp[c,d,this]
   ·obtain rfl:a=b:=kg (iz.1 d) (iz.1 c);simp[c]
def yN(x:Option Addr)(c:Nat)(W:World)(a:List (List UInt8))(z:a.length<=90001)
 (p:∀i (h:i<a.length),∃g,x=some ⟨g,0,none⟩/\W.cell? ⟨g,i*2,none⟩=some (.string (bs a[i]))/\g<W.heap.size) (f:∀i (h:i+1<a.length),Lib.compareBytes a[i] a[i+1]<0):
 Calls prog 11 #[.slice x a.length c] W λe q=>e=.returned (.bool true)/\aQ W q:=by
 have o:=aB p;have s:=aB f;clear p f;go_enter func11,ntmps11;go_wp2_with fail;go_loopg [3] a.length (λgk i wr=>∃j:Nat,j+gk=a.length/\i=.int .i64 ((j+1:Nat):Int)/\aQ W wr)
 case atStart=>exact⟨0,o_,rfl,aQ.refl _⟩
 case round=>
  obtain⟨j,C,rfl,b⟩:=hrel;by_cases d:j+1<a.length
  ·obtain⟨m,rfl⟩:∃m,gk=m+1:=⟨gk-1,o_⟩
   obtain⟨g,rfl,l,u⟩:=o.out j o_
   obtain⟨w,r,n,_⟩:=o.out (j+1) d;cases r;have f:=s.out j d;have v:=bB b.heap l;have A:=bB b.heap n;have E:=gO b.heap u;have B:(0:Int)<=(j:Int):=o_
   have y:(j:Int)<(a.length:Int):=o_
   have t:(j:Int)+1<(a.length:Int):=o_
   have D:Op.bytesLess (bs a[j]).toList (bs a[j+1]).toList=true:=by rw[cC,cC,YH];simp[f]
   have k:=aB b;clear l n b;go_wp2_with fail;go_quiet (fail)
   go_wp2_with fail;go_roundg m
   case measure=>omega
   case rel=>exact⟨j+1,o_,by go_num,k.out.trans (aQ.drewN _ _)⟩
  ·have t:¬(j:Int)+1<(a.length:Int):=o_
   have k:=aB b;clear b;go_wp2_with fail;go_ret;exact⟨rfl,k.out⟩
def aa_(W:World)(x y:Option Addr)(l:List (Value × Value)):Prop:=∀i (h:i<l.length),∃g g',x=some ⟨g,0,none⟩/\y=some ⟨g',0,none⟩/\W.cell? ⟨g,i*2,none⟩=some l[i].1/\W.cell? ⟨g,i*2+1,none⟩=some l[i].2/\W.cell? ⟨g',i*2,none⟩=some l[i].1/\W.cell? ⟨g',i*2+1,none⟩=some l[i].2/\g<W.heap.size/\g'<W.heap.size
def aH_(W:World)(x y:Option Addr)(l:List (List UInt8)):Prop:=∀i (h:i<l.length),∃g g',x=some ⟨g,0,none⟩/\y=some ⟨g',0,none⟩/\W.cell? ⟨g,i,none⟩=some (.string (bs l[i]))/\W.cell? ⟨g',i,none⟩=some (.string (bs l[i]))/\g<W.heap.size/\g'<W.heap.size
def ZW(W f:World)(a b:SV)(k:List (List UInt8 × Nat))(l:List (List UInt8 × List UInt8))(lo:List (List UInt8))(hl:k.length<=1000000/\l.length<=1000000/\lo.length<=1000000)
 (et:b.t=a.t) (eq:b.q=a.q) (n1:a.n1=k.length) (n2:a.n2=l.length) (n3:a.n3=lo.length) (J:b.n1=k.length) (L:b.n2=l.length) (Y:b.n3=lo.length)
 (X:(W.alloc (.cells a.cells 40)).alloc (.cells b.cells 40)=f)
 (hS:aa_ f a.x1 b.x1 (lC k)) (hV:aa_ f a.x2 b.x2 (l.map λp=>(.string (bs p.1),.string (bs p.2)))) (hO:aH_ f a.x3 b.x3 lo):
 Calls prog 15 #[a.val,b.val] W λe w'=>e=.returned (.bool true)/\aQ f w':=by
 obtain⟨ab,O,U,N,af,ac,ae,Q,I,S,aq⟩:=a;obtain⟨bt,P,T,Z,ah,ad,ag,K,M,aa,bq⟩:=b;simp only at et eq n1 n2 n3 J L Y hS hV hO;subst et eq n1 n2 n3 J L Y;unfold SV.cells at X;have s:f.heap[W.heap.size]?=some (.cells #[.int .i64 bt,.slice O k.length Q,.slice U l.length I,.slice N lo.length S,.int .i64 bq] 40 (0,0)):=by rw[<-X];exact jS _ _ _
 have t:f.heap[W.heap.size+1]?=some (.cells #[.int .i64 bt,.slice P k.length K,.slice T l.length M,.slice Z lo.length aa,.int .i64 bq] 40 (0,0)):=by rw[<-X];exact gS _ _ _
 have HW:=aB X;have HS:=aB hS;have HV:=aB hV;have HO:=aB hO;have CA:Hid (∀(V:World),aQ f V->V.cell? ⟨W.heap.size,0,none⟩=some (.int .i64 bt)/\V.cell? ⟨W.heap.size,1,none⟩=some (.slice O k.length Q)/\V.cell? ⟨W.heap.size,2,none⟩=some (.slice U l.length I)/\V.cell? ⟨W.heap.size,3,none⟩=some (.slice N lo.length S)/\V.cell? ⟨W.heap.size,4,none⟩=some (.int .i64 bq)/\W.heap.size<V.heap.size):=aB λV c=>⟨bB c.heap (aA s rfl),bB c.heap (aA s rfl),bB c.heap (aA s rfl),bB c.heap (aA s rfl),bB c.heap (aA s rfl),gO c.heap (aD s)⟩
 have CB:Hid (∀(V:World),aQ f V->V.cell? ⟨W.heap.size+1,0,none⟩=some (.int .i64 bt)/\V.cell? ⟨W.heap.size+1,1,none⟩=some (.slice P k.length K)/\V.cell? ⟨W.heap.size+1,2,none⟩=some (.slice T l.length M)/\V.cell? ⟨W.heap.size+1,3,none⟩=some (.slice Z lo.length aa)/\V.cell? ⟨W.heap.size+1,4,none⟩=some (.int .i64 bq)/\W.heap.size+1<V.heap.size):=aB λV c=>⟨bB c.heap (aA t rfl),bB c.heap (aA t rfl),bB c.heap (aA t rfl),bB c.heap (aA t rfl),bB c.heap (aA t rfl),gO c.heap (aD t)⟩
 obtain⟨B,z,C,E,A,F⟩:=CA.out f (aQ.refl _);obtain⟨x,y,G,w,H,D⟩:=CB.out f (aQ.refl _);clear X s t hS hV hO;unfold SV.val;go_enter func15,ntmps15;go_wp2_with fail;rw[HW.out];go_wp2_with fail;clear B z C E A F x y G w H D;go_loopg [5] k.length (λgk i wr=>∃j:Nat,j+gk=k.length/\i=.int .i64 j/\aQ f wr)
 case atStart=>exact⟨0,o_,rfl,aQ.refl _⟩
 case round=>
  obtain⟨j,hj,rfl,d⟩:=hrel;obtain⟨B,z,C,E,A,F⟩:=CA.out _ d;obtain⟨x,y,G,w,H,D⟩:=CB.out _ d;have r:=aB d;by_cases n:j<k.length
  ·obtain⟨m,rfl⟩:∃m,gk=m+1:=⟨gk-1,o_⟩
   obtain⟨g,g',rfl,rfl,q,u,o,v,q5,q6⟩:=HS.out j (by simpa [lC] using n)
   simp only[lC,List.getElem_map] at q u o v;replace q:=bB d.heap q
   replace u:=bB d.heap u
   replace o:=bB d.heap o
   replace v:=bB d.heap v
   have e1:(0:Int)<=(j:Int):=o_
   have e2:(j:Int)<(k.length:Int):=o_
   clear d;go_wp2_with fail;go_quiet (fail)
   go_wp2_with fail;go_roundg m
   case measure=>omega
   case rel=>exact⟨j+1,o_,by go_num,r.out.trans (aQ.drewN _ _)⟩
  ·have e3:¬(j:Int)<(k.length:Int):=o_
   clear d;go_wp2_with fail;clear B z C E A F x y G w H D;go_loopg [6] l.length (λgk i wr=>∃j:Nat,j+gk=l.length/\i=.int .i64 j/\aQ f wr)
   case atStart=>exact⟨0,o_,rfl,r.out⟩
   case round=>
    clear r;obtain⟨j,hj,rfl,d⟩:=hrel;obtain⟨B,z,C,E,A,F⟩:=CA.out _ d;obtain⟨x,y,G,w,H,D⟩:=CB.out _ d;have r:=aB d;by_cases n:j<l.length
    ·obtain⟨m,rfl⟩:∃m,gk=m+1:=⟨gk-1,o_⟩
     obtain⟨g,g',rfl,rfl,q,u,o,v,q5,q6⟩:=HV.out j (by simpa using n)
     simp only[List.getElem_map] at q u o v;replace q:=bB d.heap q
     replace u:=bB d.heap u
     replace o:=bB d.heap o
     replace v:=bB d.heap v
     have e1:(0:Int)<=(j:Int):=o_
     have e2:(j:Int)<(l.length:Int):=o_
     clear d;go_wp2_with fail;go_quiet (fail)
     go_wp2_with fail;go_roundg m
     case measure=>omega
     case rel=>exact⟨j+1,o_,by go_num,r.out.trans (aQ.drewN _ _)⟩
    ·have e3:¬(j:Int)<(l.length:Int):=o_
     clear d;go_wp2_with fail;clear B z C E A F x y G w H D;go_loopg [7] lo.length (λgk i wr=>∃j:Nat,j+gk=lo.length/\i=.int .i64 j/\aQ f wr)
     case atStart=>exact⟨0,o_,rfl,r.out⟩
     case round=>
      clear r;obtain⟨j,hj,rfl,d⟩:=hrel;obtain⟨B,z,C,E,A,F⟩:=CA.out _ d;obtain⟨x,y,G,w,H,D⟩:=CB.out _ d;have r:=aB d;by_cases n:j<lo.length
      ·obtain⟨m,rfl⟩:∃m,gk=m+1:=⟨gk-1,o_⟩
       obtain⟨g,g',rfl,rfl,q,o,q5,q6⟩:=HO.out j n;replace q:=bB d.heap q
       replace o:=bB d.heap o
       have e1:(0:Int)<=(j:Int):=o_
       have e2:(j:Int)<(lo.length:Int):=o_
       clear d;go_wp2_with fail;go_quiet (fail)
       go_wp2_with fail;go_roundg m
       case measure=>omega
       case rel=>exact⟨j+1,o_,by go_num,r.out.trans (aQ.drewN _ _)⟩
      ·have e3:¬(j:Int)<(lo.length:Int):=o_
       clear d;go_wp2_with fail;go_ret;exact⟨rfl,r.out⟩
def MK(W k:World)(a b:SV)(o lb:List (List UInt8 × Nat))(l n:List (List UInt8))(hl:o.length<=1000000/\lb.length<=o.length+1/\l.length<=n.length/\n.length<=1000000/\a.t<=1000000)
 (et:b.t=a.t+1) (eq:a.q=0) (n1:a.n1=o.length) (n3:a.n3=l.length) (u:b.n1=lb.length) (D:b.n3=n.length)
 (r:(W.alloc (.cells a.cells 40)).alloc (.cells b.cells 40)=k)
 (Q:aH_ k a.x3 b.x3 l) (hS:aa_ k a.x1 b.x1 (lC lb.dropLast)):
 Calls prog 13 #[a.val,b.val] W λe w'=>e=.returned (.bool true)/\aQ k w':=by
 obtain⟨f,z,aa,y,ad,P,ab,B,S,C,aq⟩:=a;obtain⟨bt,A,Z,E,aj,T,ah,v,U,F,bq⟩:=b;simp only at et eq n1 n3 u D hS Q hl;subst et eq n1 n3 u D;obtain⟨ac,af,ae,ag,ai⟩:=hl;unfold SV.cells at r;have ec:((f+1:Nat):Int)=(f:Int)+1:=o_
 have ez:((0:Nat):Int)=0:=rfl;simp only[ec,ez] at r;have q:k.heap[W.heap.size]?=some (.cells #[.int .i64 f,.slice z o.length B,.slice aa P S,.slice y l.length C,.int .i64 0] 40 (0,0)):=by rw[<-r];exact jS _ _ _
 have x:k.heap[W.heap.size+1]?=some (.cells #[.int .i64 ((f:Int)+1),.slice A lb.length v,.slice Z T U,.slice E n.length F,.int .i64 bq] 40 (0,0)):=by rw[<-r];exact gS _ _ _
 have HW:=aB r;have HS:=aB hS;have HO:=aB Q;have CA:Hid (∀(V:World),aQ k V->V.cell? ⟨W.heap.size,0,none⟩=some (.int .i64 f)/\V.cell? ⟨W.heap.size,1,none⟩=some (.slice z o.length B)/\V.cell? ⟨W.heap.size,3,none⟩=some (.slice y l.length C)/\V.cell? ⟨W.heap.size,4,none⟩=some (.int .i64 0)/\W.heap.size<V.heap.size):=aB λV c=>⟨bB c.heap (aA q rfl),bB c.heap (aA q rfl),bB c.heap (aA q rfl),bB c.heap (aA q rfl),gO c.heap (aD q)⟩
 have X:Hid (∀(V:World),aQ k V->V.cell? ⟨W.heap.size+1,0,none⟩=some (.int .i64 ((f:Int)+1))/\V.cell? ⟨W.heap.size+1,1,none⟩=some (.slice A lb.length v)/\V.cell? ⟨W.heap.size+1,3,none⟩=some (.slice E n.length F)/\W.heap.size+1<V.heap.size):=aB λV c=>⟨bB c.heap (aA x rfl),bB c.heap (aA x rfl),bB c.heap (aA x rfl),gO c.heap (aD x)⟩
 obtain⟨L,J,N,K,O⟩:=CA.out k (aQ.refl _);obtain⟨H,I,G,M⟩:=X.out k (aQ.refl _);have z1:¬(n.length:Int)<(l.length:Int):=o_
 have z2:¬(o.length:Int)+1<(lb.length:Int):=o_
 clear r q x hS Q;unfold SV.val;simp only[ec,ez];go_enter func13,ntmps13;go_wp2_with fail;rw[HW.out];go_wp2_with fail;clear L J N K O H I G M;go_loopg [5] l.length (λgk i wr=>∃j:Nat,j+gk=l.length/\i=.int .i64 j/\aQ k wr)
 case atStart=>exact⟨0,o_,rfl,aQ.refl _⟩
 case round=>
  obtain⟨j,hj,rfl,d⟩:=hrel;obtain⟨L,J,N,K,O⟩:=CA.out _ d;obtain⟨H,I,G,M⟩:=X.out _ d;have t:=aB d;by_cases w:j<l.length
  ·obtain⟨m,rfl⟩:∃m,gk=m+1:=⟨gk-1,o_⟩
   obtain⟨g,g',rfl,rfl,s,p,q5,q6⟩:=HO.out j w;replace s:=bB d.heap s
   replace p:=bB d.heap p
   have e1:(0:Int)<=(j:Int):=o_
   have e2:(j:Int)<(l.length:Int):=o_
   have e4:(j:Int)<(n.length:Int):=o_
   clear d;go_wp2_with fail;go_quiet (fail)
   go_wp2_with fail;go_roundg m
   case measure=>omega
   case rel=>exact⟨j+1,o_,by go_num,t.out.trans (aQ.drewN _ _)⟩
  ·have e3:¬(j:Int)<(l.length:Int):=o_
   clear d;go_wp2_with fail;clear L J N K O H I G M;go_loopg [6] lb.length (λgk i wr=>∃j:Nat,j+gk=lb.length/\i=.int .i64 j/\aQ k wr)
   case atStart=>exact⟨0,o_,rfl,t.out⟩
   case round=>
    clear t;obtain⟨j,hj,rfl,d⟩:=hrel;obtain⟨L,J,N,K,O⟩:=CA.out _ d;obtain⟨H,I,G,M⟩:=X.out _ d;have t:=aB d;by_cases w:j+1<lb.length
    ·obtain⟨m,rfl⟩:∃m,gk=m+1:=⟨gk-1,o_⟩
     obtain⟨g,g',rfl,rfl,s,Y,p,q4,q5,q6⟩:=HS.out j (by simp[lC];omega)
     simp only[lC,List.getElem_map] at s Y p q4;replace s:=bB d.heap s
     replace Y:=bB d.heap Y
     replace p:=bB d.heap p
     replace q4:=bB d.heap q4
     have e1:(0:Int)<=(j:Int):=o_
     have e2:(j:Int)+1<(lb.length:Int):=o_
     have e4:(j:Int)<(lb.length:Int):=o_
     have e5:(j:Int)<(o.length:Int):=o_
     clear d;go_wp2_with fail;go_quiet (fail)
     go_wp2_with fail;go_roundg m
     case measure=>omega
     case rel=>exact⟨j+1,o_,by go_num,t.out.trans (aQ.drewN _ _)⟩
    ·have e3:¬(j:Int)+1<(lb.length:Int):=o_
     clear d;go_wp2_with fail;go_ret;exact⟨rfl,t.out⟩
noncomputable def NZ(s:bI):List (List UInt8 × List UInt8):=match s.m.f_.getLast? with
 |none=>[]
 |some f=>(gC f.e_).map λx=>(x,KE f x)
def L9(s:bI):pQ s=(NZ s).map λp=>(.string (bs p.1),.string (bs p.2)):=by
 unfold pQ NZ;cases s.m.f_.getLast? with
 |none=>rfl
 |some f=>simp[lL]
def fV.len{b_:Nat}{w:World}{l:List (Value × Value)}(h:fV b_ w (.slice x n c) l):n=l.length:=by
 obtain⟨b,a,e,_⟩:=h;cases e;rfl
def pN.len{b_:Nat}{w:World}{l:List (List UInt8)}(h:pN b_ w (.slice x n c) l):n=l.length:=by
 obtain⟨b,a,e,_⟩:=h;cases e;rfl
def up2(W:World)(o p:Obj){k:Nat}(a:k<W.heap.size):((W.alloc o).alloc p).heap[k]?=W.heap[k]?:=by
 rw[en _ _ _ t_,en _ _ _ a]
def fV.two{z:Nat}{j:World}{y:Option Addr}{u c':Nat}{l m:List (Value × Value)}(h:fV b W (.slice x n c) l)(k:fV z W (.slice y u c') m)(H:W.heap.size<=j.heap.size)(a:∀k,k<W.heap.size->j.heap[k]?=W.heap[k]?){d:List (Value × Value)}(B:d<+:l)(v:d<+:m):aa_ j x y d:=by
 obtain⟨G,c',e,h⟩:=h;obtain⟨F,E,C,k⟩:=k;cases e;cases C;obtain⟨J,rfl⟩:=B;obtain⟨I,rfl⟩:=v;intro i D;obtain⟨g,A,t,p,_,r⟩:=h i t_
 obtain⟨f,w,s,o,_,q⟩:=k i t_
 rw[jm D] at t p s o;exact⟨g,f,A,w,(World.cell?_of_block (a g r)).trans t,(World.cell?_of_block (a g r)).trans p,(World.cell?_of_block (a f q)).trans s,(World.cell?_of_block (a f q)).trans o,o_,o_⟩
def pN.two{r:Nat}{a:World}{y:Option Addr}{p c':Nat}{l m:List (List UInt8)}(h:pN b W (.slice x n c) l)(k:pN r W (.slice y p c') m)(D:W.heap.size<=a.heap.size)(f:∀k,k<W.heap.size->a.heap[k]?=W.heap[k]?)(t:l<+:m):aH_ a x y l:=by
 obtain⟨C,c',e,h⟩:=h;obtain⟨B,z,u,k⟩:=k;cases e;cases u;obtain⟨E,rfl⟩:=t;intro i j;obtain⟨g,s,A,_,w⟩:=h i j;obtain⟨d,q,o,_,v⟩:=k i t_
 rw[jm j] at o;exact⟨g,d,s,q,(World.cell?_of_block (f g w)).trans A,(World.cell?_of_block (f d v)).trans o,o_,o_⟩
structure Short(s:bI):Prop where
 deep:s.m.f_.length<=16
 out:s.m.out.length<=1000000
 g_:(NZ s).length<=1000000
 m_:s.m_<=500
def PB{t:Nat}{a:SV}(h:oX b W m s)(k:oX t W a s)(l:Short s):
 Calls prog 15 #[m.val,a.val] W λe p=>e=.returned (.bool true)/\Below W.heap.size W p:=by
 have g:W.heap.size<=((W.alloc (.cells m.cells 40)).alloc (.cells a.cells 40)).heap.size:=t_
 have j:=λk u=>up2 W (.cells m.cells 40) (.cells a.cells 40) (k:=k) u
 have o:=h.g_;have n:=k.g_;rw[L9] at o n;have q:=h.stack.len;have c:=k.stack.len;have r:=o.len;have d:=n.len;have v:=h.out.len;have i:=k.out.len;simp only[lC,bY,ji] at q c r d;refine(ZW W _ m a (bY s.m.f_) (NZ s) s.m.out ⟨by simp[bY];have:=l.deep;omega,l.g_,l.out⟩ (by rw[h.t,k.t]) (by rw[h.q,k.q]) (by simp[bY];exact q) r v (by simp[bY];exact c) d i rfl (h.stack.two k.stack g j (je _) (je _)) (o.two n g j (je _) (je _)) (h.out.two k.out g j (je _))).mono ?_
 rintro e p ⟨rfl,f⟩;exact⟨rfl,(((ei W.heap.size W).alloc (eh _) (.cells m.cells 40)).alloc s_ (.cells a.cells 40)).trans ⟨f.os,f.tape,f.output,by rw[f.heap];exact eh _,λk _=>by rw[f.heap]⟩⟩
def RC{v:Nat}{c:SV}{a:bI}(h:oX b W m s)(k:oX v W c a)(t:Short s)(g:Short a)(w:a.m_=s.m_+1)(y:s.stop=0)(f:kL s.m a.m):
 Calls prog 13 #[m.val,c.val] W λe o=>e=.returned (.bool true)/\Below W.heap.size W o:=by
 have p:W.heap.size<=((W.alloc (.cells m.cells 40)).alloc (.cells c.cells 40)).heap.size:=t_
 have q:=λk x=>up2 W (.cells m.cells 40) (.cells c.cells 40) (k:=k) x
 have C:=h.stack.len;have i:=k.stack.len;have z:=h.out.len;have l:=k.out.len;simp only[lC,bY,ji] at C i;have H:(bY s.m.f_).length=s.m.f_.length:=by simp[bY]
 have F:(bY a.m.f_).length=a.m.f_.length:=by simp[bY]
 have E:=t.deep;have u:=g.out;have D:=f.deep;have B:=f.out.length_le;have G:=t.m_
 have A:lC (bY a.m.f_).dropLast<+:lC (bY s.m.f_):=by
  obtain⟨r,n⟩:=f.stack;exact⟨lC r,by rw[<-n];simp[lC]⟩
 have j:lC (bY a.m.f_).dropLast<+:lC (bY a.m.f_):=by
  obtain⟨r,n⟩:=List.dropLast_prefix (bY a.m.f_);refine⟨lC r,?_⟩;conv=>rhs;rw[<-n]
  simp[lC]
 refine(MK W _ m c (bY s.m.f_) (bY a.m.f_) s.m.out a.m.out ⟨o_,o_,B,u,by rw[h.t];omega⟩ (by rw[h.t,k.t,w]) (by rw[h.q,y]) o_ z o_ l rfl (h.out.two k.out p q f.out) (h.stack.two k.stack p q A j)).mono ?_
 rintro e o ⟨rfl,d⟩;exact⟨rfl,(((ei W.heap.size W).alloc (eh _) (.cells m.cells 40)).alloc s_ (.cells c.cells 40)).trans ⟨d.os,d.tape,d.output,by rw[d.heap];exact eh _,λk _=>by rw[d.heap]⟩⟩
def UD(h:oX b W m s)(v:kD s.m):
 Calls prog 11 #[.slice m.x2 m.n2 m.c2] W λe B=>e=.returned (.bool true)/\aQ W B:=by
 obtain⟨x,c,e,A⟩:=h.g_;cases u:s.m.f_.getLast? with
 |none=>
  have r:pQ s=[]:=by unfold pQ;rw[u]
  rw[r] at e;rw[e];exact yN x c W [] s_ (λi d=>by simp at d) (λi d=>by simp at d)
 |some f=>
  obtain⟨⟨q,n⟩,_⟩:=v f (jp u);have r:pQ s=lL (KE f) (gC f.e_):=by unfold pQ;rw[u]
  rw[r] at e A;have o:(lL (KE f) (gC f.e_)).length=(gC f.e_).length:=by simp[lL]
  rw[o] at e;rw[e];refine yN x c W (gC f.e_) (by rw[lR];exact n) (λi d=>?_) (λi d=>?_)
  ·obtain⟨g,E,H,_,_,F⟩:=A i (by rw[o];exact d)
   exact⟨g,E,by simpa [lL] using H,F⟩
  ·have j:(gC f.e_).Pairwise λx y=>(!decide (Lib.compareBytes y x<0))=true:=List.pairwise_mergeSort (λa b c k p=>?_) (λa b=>?_) f.e_
   ·have w:=List.pairwise_iff_getElem.1 j i (i+1) o_ d o_
    have l:(gC f.e_).Nodup:=(List.mergeSort_perm f.e_ _).nodup_iff.2 q
    have t:(gC f.e_)[i]≠(gC f.e_)[i+1]:=λC=>by
     have:=List.pairwise_iff_getElem.1 l i (i+1) o_ d o_
     exact this C
    simp only[Bool.not_eq_true',decide_eq_false_iff_not] at w;rcases Int.lt_trichotomy (Lib.compareBytes (gC f.e_)[i] (gC f.e_)[i+1]) 0 with k|k|k
    ·exact k
    ·exact absurd (SP _ _ k) t
    ·rw[sN (gC f.e_)[i]] at w;omega
   ·simp only[Bool.not_eq_true',decide_eq_false_iff_not] at k p ⊢
    intro z;by_cases G:Lib.compareBytes b a=0
    ·rw[SP b a G] at p;exact p z
    ·have D:Lib.compareBytes a b<0:=by
      have:=sN a b;omega
     exact p (vW c a b z D)
   ·simp only[iu,Bool.not_eq_true',decide_eq_false_iff_not];have:=sN a b;omega
def DH(a:ByteArray)(w:World)(f:iQ w)(i:a.size<=maxLen):
 Calls prog 7 #[.string a] w λe c=>Below w.heap.size w c/\((cH a.data.toList).1=0->cH a.data.toList=(0,0))/\e=.returned (.tuple #[.int .i64 (cH a.data.toList).1,.int .i64 (cH a.data.toList).2]):=
 V7 (cH a.data.toList) a w λb g j d=>(XA a w.heap.size b (f.below g) i j d).mono λ_ _ h=>h
def XL(w:World)(A:Nat->World->Prop)(B:World->Prop)
 (j:Hid (Calls prog 21 #[.string ⟨#[102,117,110,99,32,102,40,120,41,32,123,32,114,101,116,117,114,110,32,91,120,44,32,34,195,169,34,93,59,32,125,10,102,117,110,99,32,109,97,105,110,40,41,32,123,32,118,97,114,32,97,32,61,32,102,40,50,41,59,32,112,114,105,110,116,32,97,59,32,112,114,105,110,116,32,108,101,110,40,97,91,49,93,41,59,32,125]⟩] w λe a=>∃g c,e=.returned (.tuple #[.slice (some ⟨g,0,none⟩) 2 c,.int .i64 4,.bool true])/\A g a))
 (i:Hid (∀g W,A g W->Calls prog 7 #[.string ⟨#[102,117,110,99,32,109,97,105,110,40,41,32,123,10,32,112,114,105,110,116,32,120,59,32,125]⟩] W λe a=>e=.returned (.tuple #[.int .i64 6,.int .i64 2])/\a.cell? ⟨g,0,none⟩=some (.string ⟨#[91,50,44,32,34,195,169,34,93]⟩)/\a.cell? ⟨g,1,none⟩=some (.string ⟨#[49]⟩)/\g<a.heap.size/\B a)):
 Calls prog 28 #[] w λe a=>e=.returned (.bool true)/\B a:=by
 go_enter func28,ntmps28;go_wp2_with fail;refine j.out.mono ?_;rintro e l ⟨g,c,rfl,f⟩;have b:=aB (i.out _ _ f);clear f j i;go_wp2_with fail;refine b.out.mono ?_;rintro e o ⟨rfl,m,p,n,d⟩;have k:=aB d;clear d b;go_wp2_with fail;go_ret;exact⟨rfl,k.out⟩
def L0(w:World)(k:iQ w)(q:jW w)(d:11<=w.heap.size):Calls prog 28 #[] w λe i=>e=.returned (.bool true)/\Below w.heap.size w i:=by
 refine XL w (λg W=>Below w.heap.size w W/\W.cell? ⟨g,0,none⟩=some (.string ⟨#[91,50,44,32,34,195,169,34,93]⟩)/\W.cell? ⟨g,1,none⟩=some (.string ⟨#[49]⟩)/\g<W.heap.size) (λW=>Below w.heap.size w W) ?_ (λg W o=>?_)
 ·refine(PJ w XU 4 _ TH k q d).mono ?_;rintro e i ⟨x,n,c,rfl,⟨t,s,b,f⟩,a⟩;obtain⟨g,rfl,j,h,l⟩:=f 0 s_
  obtain⟨u,m,r,_,_⟩:=f 1 s_
  cases m;simp only[Value.slice.injEq] at b;obtain⟨rfl,rfl,rfl⟩:=b;exact⟨g,_,rfl,a,j,r,l⟩
 ·obtain⟨b,f,j,h⟩:=o;refine(DH (bs XV) W (k.below b) (by rw[gB];decide)).mono ?_
  rintro e i ⟨a,_,rfl⟩;rw[fT,UY];exact⟨rfl,(a.cell (p:=⟨g,0,none⟩) h).trans f,(a.cell (p:=⟨g,1,none⟩) h).trans j,el h a.size,b.trans (a.mono b.size)⟩
def K8(w:World)(d:List UInt8)(tx:Option Addr)(c:Nat)(a:List Int)(E:iQ w)(I:jW w)(y:11<=w.heap.size)(hs:d.length<=140737488355328)(u:a.length<=17592186044416)(hi:∀x∈a, -9223372036854775808<=x/\x<=9223372036854775807)
 (K:0<a.length->∃H,tx=some H/\H.block<w.heap.size/\∀j v,(a.map (Value.int .i64))[j]?=some v->w.cell? (H.add j)=some v):
 Calls prog 9 #[.string (bs d),.slice tx a.length c] w λe t=>∃p,e=.returned (.tuple #[.pointer p,.bool true])/\Below w.heap.size w t/\(p=none\/∃sb ks m G o s,p=some ⟨sb,0,none⟩/\Good ks/\Live m G t sb o (.map #[] 0) ks a s 1 []/\s.m_=0/\w.heap.size<=sb):=by
 have q:(a.map (Value.int .i64)).length=a.length:=s_
 have Q:gB d=gB d:=rfl;rw[<-q]
 refine XJ w (bs d) tx c (a.map (Value.int .i64)) (by rw[q];exact u) (λv A=>?_) (λW=>Below w.heap.size w W)
  (λp k l W=>Below w.heap.size w W/\cH d=(k,l)/\(p=none↔k≠0)/\(p=none\/∃sb ks m G o s,p=some ⟨sb,0,none⟩/\Good ks/\Live m G W sb o (.map #[] 0) ks a s 1 []/\s.m_=0/\w.heap.size<=sb))
  (λp W=>Below w.heap.size w W/\(p=none\/∃sb ks m G o s,p=some ⟨sb,0,none⟩/\Good ks/\Live m G W sb o (.map #[] 0) ks a s 1 []/\s.m_=0/\w.heap.size<=sb))
  (L0 w E I y) (λW C=>⟨C,λh=>K (by rw[<-q];exact h)⟩) (λW V g C hV N aa=>?_) (λp k l W hS=>?_)
 ·simp only[ia] at A;obtain⟨x,_,rfl⟩:=A;rfl
 ·have f:Below w.heap.size w V:=C.trans (hV.mono C.size);refine(DU (bs d) (.slice (some ⟨g,0,none⟩) (a.map (Value.int .i64)).length (a.map (Value.int .i64)).length) a V (E.below f) (I.below f) (by rw[gB];omega) (d6 ⟨g,0,_,by rw[q],aD N,λi D=>⟨?_,hi _ (fm _)⟩⟩) u (λks O L=>?_)).mono ?_
  ·rw[gq];exact aA N (by simp[D])
  ·rw[fT] at O L;exact AV O L
  ·rintro e t ⟨v,rfl,n,A⟩;rw[fT] at A;have r:Below w.heap.size w t:=f.trans (n.mono f.size);have M:w.heap.size<=V.heap.size:=f.size;rcases A with ⟨B,ks,m,G,sb,o,T,rfl,q2,q3,Y,s,X,S⟩|⟨B,rfl⟩
   ·refine⟨some ⟨sb,0,none⟩,0,0,rfl,r,B,s_,d6 ⟨sb,ks,m,G,o,s,rfl,AV T B,⟨X,Y,I.below r,⟨o_,o_⟩,o_,λb n=>by cases n⟩,S,o_⟩⟩
   ·exact⟨none,_,_,rfl,r,rfl,by simpa using B,d7 rfl⟩
 ·obtain⟨n,Z,J,F⟩:=hS;refine⟨J,(DH (bs d) W (E.below n) (by rw[gB];unfold maxLen;omega)).mono ?_⟩
  rintro e t ⟨z,_,rfl⟩;rw[fT,Z];refine⟨rfl,n.trans (z.mono n.size),?_⟩;rcases F with F|⟨sb,ks,m,G,o,s,e1,U,e3,e4,P⟩
  ·exact d7 F
  ·exact d6 ⟨sb,ks,m,G,o,s,e1,U,e3.but (But.below z []) (λb n=>by cases n),e4,P⟩
def mJ(m:SV):List Nat:=(if m.n1=0 then [] else (m.x1.map (·.block)).toList)++((if m.n2=0 then [] else (m.x2.map (·.block)).toList)++(if m.n3=0 then [] else (m.x3.map (·.block)).toList))
def oX.keepL{d:World}(h:oX b W m s)(j:∀g∈mJ m,d.heap[g]?=W.heap[g]?)(A:W.heap.size<=d.heap.size):oX b d m s:=by
 have v:∀{x:Option Addr} {n c:Nat} {l:List (Value × Value)},fV b W (.slice x n c) l->(∀g,n≠0->x=some ⟨g,0,none⟩->d.heap[g]?=W.heap[g]?)->fV b d (.slice x n c) l:=by
  rintro x n c l ⟨u,t,e,f⟩ y;cases e;refine⟨_,_,rfl,λi o=>?_⟩
  obtain⟨g,a,k,q,w,z⟩:=f i o;have:=y g o_ a
  exact⟨g,a,(World.cell?_of_block this).trans k,(World.cell?_of_block this).trans q,w,o_⟩
 refine⟨h.t,h.q,v h.stack λg p e=>j g ?_,v h.g_ λg p e=>j g ?_,?_⟩
 ·unfold mJ;rw[if_neg p,e];simp
 ·unfold mJ;rw[if_neg p,e];simp
 ·obtain⟨u,t,e,f⟩:=h.out;have r:=e;simp only[Value.slice.injEq] at r;refine⟨u,t,e,λi o=>?_⟩
  obtain⟨g,a,k,q,w⟩:=f i o;have:=j g (by unfold mJ;rw[if_neg (show ¬m.n3=0 by omega),r.1,a];simp)
  exact⟨g,a,(World.cell?_of_block this).trans k,q,o_⟩
def oX.blks(h:oX b W m s):∀g∈mJ m,b<=g/\g<W.heap.size:=by
 have k:∀{x:Option Addr} {n c:Nat} {l:List (Value × Value)} {g:Nat},fV b W (.slice x n c) l->n≠0->g∈(x.map (·.block)).toList->b<=g/\g<W.heap.size:=by
  rintro x n c l g ⟨p,o,e,f⟩ r a;cases e;obtain⟨q,i,_,_,j,d⟩:=f 0 o_
  rw[i] at a;simp at a;subst a;exact⟨j,d⟩
 intro g a;unfold mJ at a;simp only[eu] at a;rcases a with a|a|a
 ·split at a
  ·cases a
  ·exact k h.stack (by assumption) a
 ·split at a
  ·cases a
  ·exact k h.g_ (by assumption) a
 ·split at a
  ·cases a
  ·rename_i r;obtain⟨p,o,e,f⟩:=h.out;simp only[Value.slice.injEq] at e;obtain⟨q,i,_,j,d⟩:=f 0 o_
   rw[e.1,i] at a;simp at a;subst a;exact⟨j,d⟩
structure kJ(w:World)(ks:List aC)(tape:List Int)(sb:Nat)(W:World)(L:List Nat)(s:bI):Prop where
 live:∃fp F mb mo n,Live fp F W sb mb mo ks tape s n L
 sb:w.heap.size<=sb
 low:Below w.heap.size w W
structure Mom(L:List Nat)(W:World)(m:SV)(ab:Nat)(s:bI):Prop where
 mom:oX 0 W m s
 blk:∀b∈mJ m,b∈L
 box:W.heap[ab]?=some (.cells m.cells 40 (0,0))
 mem:ab∈L
section
variable {w:World} {ks:List aC} {tape:List Int} {sb:Nat} {W W':World} {L L':List Nat} {s s':bI} {m:SV} {ab:Nat}
def Mom.keep(h:Mom L W m ab s)(a:∀b∈L,W'.heap[b]?=W.heap[b]?)(e:W.heap.size<=W'.heap.size)(c:∀b∈L,b∈L'):Mom L' W' m ab s:=
 ⟨h.mom.keepL (λg f=>a g (h.blk g f)) e,λb d=>c b (h.blk b d),by rw[a ab h.mem];exact h.box,c _ h.mem⟩
def kJ.st(h:kJ w ks tape sb W L s):cG ks tape s.m_=some s:=by
 obtain⟨d,F,c,b,n,a⟩:=h.live;exact a.ses.now
def kJ.lt(h:kJ w ks tape sb W L s){b:Nat}(c:b∈L):b<W.heap.size:=by
 obtain⟨f,F,e,d,n,a⟩:=h.live;exact(a.loc b c).2.1
def kJ.below(h:kJ w ks tape sb W L s)(a:Below W.heap.size W W'):kJ w ks tape sb W' L s:=by
 obtain⟨f,F,d,c,n,e⟩:=h.live;exact⟨⟨f,F,d,c,n,e.but (But.below a []) λb a=>by cases a⟩,h.sb,h.low.trans (a.mono h.low.size)⟩
def Live.freshL{f:Nat->Value}{F:Nat->Prop}{e n:Nat}{d:Obj}(h:Live f F W sb e d ks tape s n L)(g:Live f F W' sb e d ks tape s n L)(j:W'.heap[sb]?=W.heap[sb]?):∀(M:List Nat),(∀b∈M,W.heap.size<=b/\b<W'.heap.size)->Live f F W' sb e d ks tape s n (M++L)
 |[],_=>g
 |b::M,i=>by
  have a:=Live.freshL h g j M λx c=>i x (fg _ c)
  have k:=h.fresh g j (i b (ft ..)).1 (i b (ft ..)).2
  exact⟨a.ses,a.tab,a.pow,a.low,a.hn,λx c=>by
   rcases ep.1 c with rfl|c
   ·exact k.loc x (ft ..)
   ·exact a.loc x c⟩
def kJ.short(c:Good ks)(h:kJ w ks tape sb W L s):Short s/\kD s.m/\(∀x∈s.m.f_,x.e_.length<=x.g_.length):=by
 obtain⟨b,g,e,i⟩:=c.sta h.st;have a:=UB c.ok c.kl tape s.m_ s h.st;refine⟨⟨b.deep,by have:=e.out;omega,?_,b.m_⟩,a,b.told⟩
 unfold NZ;cases d:s.m.f_.getLast? with
 |none=>simp
 |some f=>
  have:=(a f (jp d)).1.2;simp[lR];omega
def kJ.now(k:Good ks)(h:kJ w ks tape sb W L s):
 Calls prog 10 #[.pointer (some ⟨sb,0,none⟩)] W λe c=>∃m:SV,e=.returned m.val/\Below W.heap.size W (c.alloc (.cells m.cells 40))/\kJ w ks tape sb (c.alloc (.cells m.cells 40)) (c.heap.size::(mJ m++L)) s/\Mom (c.heap.size::(mJ m++L)) (c.alloc (.cells m.cells 40)) m c.heap.size s/\W.heap.size<=c.heap.size/\∀b∈mJ m,W.heap.size<=b:=by
 obtain⟨j,p,x⟩:=h.short k;obtain⟨t,F,u,r,n,i⟩:=h.live;refine(b9 i.ses j.deep i.pow p x j.out).mono ?_;rintro e c ⟨m,rfl,a,v⟩;have d:=v.blks;have q:Live t F c sb u r ks tape s n L:=i.but (But.below a []) λb a=>by cases a
 have l:=i.freshL q (a.block _ i.ses.lt) (mJ m) d;have o:=l.alloc (.cells m.cells 40);have f:Below W.heap.size W (c.alloc (.cells m.cells 40)):=a.alloc a.size _;refine⟨m,rfl,f,⟨⟨t,F,u,r,n,o⟩,h.sb,h.low.trans (f.mono h.low.size)⟩,⟨?_,λb a=>by simp[a],aL _ _ rfl _,s_⟩,a.size,λb a=>(d b a).1⟩
 exact(v.low (fy _)).keepL (λg k=>en _ _ _ (d g k).2) s_
def kJ.step(t:Good ks)(g:tape.length<=17592186044416)(h:kJ w ks tape sb W L s):
 Calls prog 12 #[.pointer (some ⟨sb,0,none⟩)] W λe c=>(∀b∈L,c.heap[b]?=W.heap[b]?)/\W.heap.size<=c.heap.size/\((e=.returned (.bool true)/\s.stop=0/\∃f,f.m_=s.m_+1/\kJ w ks tape sb c L f)\/(e=.returned (.bool false)/\s.stop≠0/\kJ w ks tape sb c L s)):=by
 obtain⟨o,F,p,m,n,d⟩:=h.live;refine(OM t g d).mono ?_;rintro e c ⟨b,rfl,G,l,f,q,x,i⟩;have a:Below w.heap.size w c:=Below.fs h.low i h.sb λk u=>(d.row u).1
 refine⟨λb r=>d.blk i r,i.size,?_⟩
 rcases JN d.ses.now x with ⟨rfl,v,j⟩|⟨rfl,rfl,j⟩
 ·exact d7 ⟨rfl,j,f,v,⟨o,G,p,m,l,q⟩,h.sb,a⟩
 ·exact d6 ⟨rfl,j,⟨o,G,p,m,l,q⟩,h.sb,a⟩
def kJ.back(r:Good ks)(f:tape.length<=17592186044416)(h:kJ w ks tape sb W L s)(o:s.m_≠0):
 Calls prog 14 #[.pointer (some ⟨sb,0,none⟩)] W λe a=>e=.returned (.bool true)/\(∀b∈L,a.heap[b]?=W.heap[b]?)/\W.heap.size<=a.heap.size/\∃d,d.m_+1=s.m_/\kJ w ks tape sb a L d:=by
 obtain⟨m,F,u,l,n,i⟩:=h.live;refine(W9 r f i).mono ?_;rintro e a ⟨b,rfl,G,j,d,v,y,g⟩;have c:Below w.heap.size w a:=Below.fs h.low g h.sb λk t=>(i.row t).1
 rcases y with ⟨_,_,p⟩|⟨rfl,x,z⟩
 ·exact absurd p o
 ·exact⟨rfl,λb q=>i.blk g q,g.size,d,x,⟨m,G,u,l,j,v⟩,h.sb,c⟩
def kJ.put(h:kJ w ks tape sb W L s){b:Nat}(g:b∈L)(v:SV)(a:w.heap.size<=b):kJ w ks tape sb (dS W b v) L s:=by
 obtain⟨f,F,d,c,n,e⟩:=h.live;exact⟨⟨f,F,d,c,n,e.but (But.set5 W b v) λx i=>by rw[ew.1 i];exact g⟩,h.sb,lX v h.low a⟩
end
def CL(w:World)(V:List UInt8)(tx:Option Addr)(c:Nat)(a:List Int)(hT:iQ w)(hp:jW w)(aj:11<=w.heap.size)(hs:V.length<=140737488355328)(X:a.length<=17592186044416)(hi:∀x∈a, -9223372036854775808<=x/\x<=9223372036854775807)
 (al:0<a.length->∃ad,tx=some ad/\ad.block<w.heap.size/\∀j v,(a.map (Value.int .i64))[j]?=some v->w.cell? (ad.add j)=some v):
 Calls prog 4 #[.string (bs V),.slice tx a.length c] w λe Q=>e=.returned (.bool true)/\Below w.heap.size w Q:=by
 refine ON w (bs V) tx a.length c (λp W=>Below w.heap.size w W/\(p=none\/∃q d fp G mb s,p=some ⟨q,0,none⟩/\Good d/\Live fp G W q mb (.map #[] 0) d a s 1 []/\s.m_=0/\w.heap.size<=q)) (λW=>Below w.heap.size w W)
  (λq t m f W=>∃d s L,Good d/\s.m_=t/\kJ w d a q W L s/\Mom L W m f s/\w.heap.size<=f)
  (λq t m f W=>∃d s L,Good d/\s.m_=t/\kJ w d a q W L s/\Mom L W m f s/\w.heap.size<=f)
  (λq t m f W=>∃d s k L,Good d/\s.m_=t/\k.m_=t+1/\cG d a t=some s/\Short s/\kJ w d a q W L k/\Mom L W m f s/\w.heap.size<=f)
  (λq t m f A F W=>∃d s k L,Good d/\s.m_=t/\k.m_=t+1/\cG d a t=some s/\Short s/\kJ w d a q W L k/\Mom L W m f s/\Mom L W A F k/\w.heap.size<=f/\f∉mJ A/\f≠F)
  (λq t m f A F W=>∃d s k L,Good d/\s.m_=t/\k.m_=t+1/\cG d a (t+1)=some k/\Short k/\kJ w d a q W L s/\Mom L W m f s/\Mom L W A F k/\w.heap.size<=f/\f∉mJ A/\f≠F)
  (λq t m f A F m2 cb W=>∃d s k L,Good d/\s.m_=t/\k.m_=t+1/\cG d a (t+1)=some k/\Short k/\kJ w d a q W L s/\Mom L W m f s/\Mom L W A F k/\Mom L W m2 cb s/\w.heap.size<=f/\f∉mJ A/\f≠F)
  (λq t m f A F W=>∃d s k L,Good d/\s.m_=t/\k.m_=t+1/\kJ w d a q W L k/\Mom L W m f s/\Mom L W A F k/\w.heap.size<=f/\f∉mJ A/\f≠F)
  (λq t m f A F m3 db W=>∃d s k L,Good d/\s.m_=t/\k.m_=t+1/\kJ w d a q W L k/\Mom L W m f s/\Mom L W A F k/\Mom L W m3 db k/\w.heap.size<=f/\f∉mJ A/\f≠F)
  (K8 w V tx c a hT hp aj hs X hi al) (λp W hB=>?_) (λq t m f W hI=>?_) (λq t m f W hJ=>?_) (λq t m f W Y=>?_) (λq t m f A F W hJ=>?_) (λq t m f A F W Y=>?_) (λq t m f A F m2 cb W Y=>?_) (λq t m f A F W Y=>?_) (λq t m f A F m3 db W Y=>?_)
 ·obtain⟨l,rfl|⟨q,d,fp,G,mb,s,rfl,i,hl,C,ak⟩⟩:=hB
  ·exact d7 ⟨rfl,l⟩
  ·refine d6 ⟨q,rfl,?_⟩;have n:kJ w d a q W [] s:=⟨⟨fp,G,mb,_,1,hl⟩,ak,l⟩;have aa:=UC i.ok i.main a (by have:=n.st;rw[C] at this;exact this)
   refine(n.now i).mono ?_;rintro e Q ⟨m,rfl,H,h2,T,h4,_⟩;refine⟨m,rfl,by rw[T.mom.t,C],?_,d,s,_,i,C,h2,T,em l.size h4⟩
   rw[T.mom.out.len,aa];rfl
 ·obtain⟨d,s,L,i,C,n,z,o⟩:=hI;obtain⟨B,ah,_⟩:=n.short i;refine⟨z.box,by have:=B.m_;omega,(UD z.mom ah).mono ?_⟩
  rintro e Q ⟨rfl,hS⟩;exact⟨rfl,d,s,L,i,C,n.below hS.below,z.keep (λb _=>by rw[hS.heap]) (by rw[hS.heap];exact eh _) (λ_ h=>h),o⟩
 ·obtain⟨d,s,L,i,C,n,z,o⟩:=hJ;obtain⟨B,ah,_⟩:=n.short i;refine(n.step i X).mono ?_;rintro e Q ⟨hk,hz,(⟨rfl,hq,U,ag,Z⟩|⟨rfl,hq,Z⟩)⟩
  ·have S:=z.keep hk hz (λ_ h=>h)
   have h5:=(Z.short i).1.m_;refine⟨S.box,d6 ⟨rfl,by rw[z.mom.q];exact hq,o_,d,s,U,L,i,C,o_,by rw[<-C];exact n.st,B,Z,S,o⟩⟩
  ·have S:=z.keep hk hz (λ_ h=>h)
   exact⟨S.box,d7 ⟨rfl,by rw[z.mom.q];exact hq,Z.low⟩⟩
 ·obtain⟨d,s,k,L,i,C,y,E,B,n,z,o⟩:=Y;refine(n.now i).mono ?_;rintro e Q ⟨A,rfl,H,h2,T,h4,h5⟩;have am:=n.lt z.mem;refine⟨A,rfl,d,s,k,_,i,C,y,E,B,h2,z.keep (λb l=>H.block b (n.lt l)) H.size (λb l=>by simp[l]),T,o,λl=>?_,o_⟩
  have:=h5 f l;omega
 ·obtain⟨d,s,k,L,i,C,y,E,B,n,z,u,o,D,I⟩:=hJ;obtain⟨K,_,_⟩:=n.short i;have hf:=pX (iL i.ok) (nD i.ok i.main a) E (by have:=n.st;rw[y] at this;exact this)
  refine⟨z.box,u.box,(RC z.mom u.mom B K o_ hf.1 hf.2).mono ?_⟩
  rintro e Q ⟨rfl,l⟩;have N:=n.below l;refine⟨rfl,(N.back i X o_).mono ?_⟩
  rintro e w2 ⟨rfl,hk,hz,U,ag,M⟩
  obtain rfl:U=s:=by
   have H:=M.st;rw[show U.m_=t by omega,E] at H
   exact(Option.some.inj H).symm
  have r:∀b∈L,w2.heap[b]?=W.heap[b]?:=λb J=>(hk b J).trans (l.block b (n.lt J))
  have P:=em l.size hz;exact⟨rfl,d,U,k,L,i,C,y,by have:=n.st;rw[y] at this;exact this,K,M,z.keep r P (λ_ h=>h),u.keep r P (λ_ h=>h),o,D,I⟩
 ·obtain⟨d,s,k,L,i,C,y,E,B,n,z,u,o,D,I⟩:=Y;refine(n.now i).mono ?_;rintro e Q ⟨m2,rfl,H,h2,T,h4,h5⟩;have r:∀b∈L,(Q.alloc (.cells m2.cells 40)).heap[b]?=W.heap[b]?:=λb l=>H.block b (n.lt l)
  exact⟨m2,rfl,d,s,k,_,i,C,y,E,B,h2,z.keep r H.size (λb l=>by simp[l]),u.keep r H.size (λb l=>by simp[l]),T,o,D,I⟩
 ·obtain⟨d,s,k,L,i,C,y,E,B,n,z,u,ai,o,D,I⟩:=Y;obtain⟨ae,_,_⟩:=n.short i;refine⟨z.box,ai.box,(PB z.mom ai.mom ae).mono ?_⟩;rintro e Q ⟨rfl,l⟩;have N:=n.below l;refine⟨rfl,(N.step i X).mono ?_⟩;rintro e w2 ⟨hk,hz,(⟨rfl,hq,U,ag,M⟩|⟨rfl,hq,M⟩)⟩
  ·obtain rfl:U=k:=by
    have H:=M.st;rw[show U.m_=t+1 by omega,E] at H
    exact(Option.some.inj H).symm
   have r:∀b∈L,w2.heap[b]?=W.heap[b]?:=λb J=>(hk b J).trans (l.block b (n.lt J))
   have P:=em l.size hz;exact⟨rfl,d,s,U,L,i,C,y,M,z.keep r P (λ_ h=>h),u.keep r P (λ_ h=>h),o,D,I⟩
  ·have hf:=pX (iL i.ok) (nD i.ok i.main a) n.st (by rw[C];exact E)
   exact absurd hf.1 hq
 ·obtain⟨d,s,k,L,i,C,y,n,z,u,o,D,I⟩:=Y;refine(n.now i).mono ?_;rintro e Q ⟨m3,rfl,H,h2,T,h4,h5⟩;have r:∀b∈L,(Q.alloc (.cells m3.cells 40)).heap[b]?=W.heap[b]?:=λb l=>H.block b (n.lt l)
  exact⟨m3,rfl,d,s,k,_,i,C,y,h2,z.keep r H.size (λb l=>by simp[l]),u.keep r H.size (λb l=>by simp[l]),T,o,D,I⟩
 ·obtain⟨d,s,k,L,i,C,y,n,z,u,ac,o,D,I⟩:=Y;obtain⟨K,_,_⟩:=n.short i;refine⟨u.box,ac.box,(PB u.mom ac.mom K).mono ?_⟩;rintro e w2 ⟨rfl,l⟩;have N:=n.below l;have r:∀b∈L,w2.heap[b]?=W.heap[b]?:=λb J=>l.block b (n.lt J)
  have af:=z.keep r l.size (λ_ h=>h)
  have O:=u.keep r l.size (λ_ h=>h)
  refine⟨rfl,af.box,O.box,d,k,L,i,y,N.put z.mem A o,⟨?_,O.blk,qS af.box rfl,z.mem⟩,o⟩;exact O.mom.keepL (λg i=>cV _ _ _ _ (λe=>D (e▸i))) (by rw[(fP _ _ _).1];exact eh _)
end Go.Proofs.YthbffcmfmjpncaaGreatDoor
