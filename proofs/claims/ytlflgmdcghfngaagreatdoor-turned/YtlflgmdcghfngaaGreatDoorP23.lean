/- Contracts of the program: a frame for an expression: the walk. -/
import Derived.Test.YtlflgmdcghfngaaGreatDoorP16
set_option linter.defProp false
set_option maxRecDepth 100000
set_option maxHeartbeats 4000000
namespace Go.Proofs.YtlflgmdcghfngaaGreatDoor
open Hs
open _root_.Go.Proofs.Tryz
open Go.RowKit
variable{A:aE}
def GA(w:aG)(a q:Nat)(x2 x3:Option Addr)(c1 n2 c2 n3 c3:Nat)(gf m:Nat)(p0 j:Option Addr)(h k:Nat)(t:TypeId)(z:aQ)(P:Value->World->Prop)
 (hm:m<=1000) (X:gf<w.heap.size) (T:w.cell? (aH gf (m*6+4))=some (.slice j h k))
 (HS:Hid (∀W,Below w.heap.size w W->Calls prog 72 #[.agg #[I_ a,.slice (some (aH gf 0)) (m+1) c1,.slice x2 n2 c2,.slice x3 n3 c3,I_ q]] W λe y=>e=aX (.pointer p0)/\Below W.heap.size W y))
 (HX:Hid (∀W,Below w.heap.size w W->w.heap.size+1<W.heap.size->Calls prog 118 #[aZ W.heap.size,.iface t z] (W.alloc (.cells #[bG,bG,.pointer p0] 177)) λe y=>e=aX (.tuple #[])/\∃x n c,y.cell? (aH W.heap.size 1)=some (.slice x n c)/\W.heap.size<y.heap.size/\Below W.heap.size W y/\
   ∀W',Fr (w.heap.size+1) y W'->W'.heap[y.heap.size]?=some (.cells #[.string (bs []),.slice x n c] 130 (0,0))->P (.agg #[aZ y.heap.size,I_ 0,I_ 0,.pointer none,.slice j h k,bG]) W')):
 Calls prog 84 #[.agg #[I_ a,.slice (some (aH gf 0)) (m+1) c1,.slice x2 n2 c2,.slice x3 n3 c3,I_ q],.iface t z] w λe y=>∃v,e=aX v/\P v y:=by
 have H:Below w.heap.size w ((w.alloc (.cells #[I_ a,.slice (some (aH gf 0)) (m+1) c1,.slice x2 n2 c2,.slice x3 n3 c3,I_ q] 53)).alloc (.cells #[.pointer none,I_ 0,I_ 0,.pointer none,bG,bG] 118)):=((eh _ w).alloc cL _).alloc s_ _
 have ab:=aB (HS _ H);have S:=aB T;clear HS T;go_in
 go_wp2_with fail;refine ab.mono ?_;rintro e w1 ⟨rfl,hb⟩;have K:Below w.heap.size w w1:=H.trans (hb.mono t_)
 have O:w1.heap[w.heap.size]?=some (.cells #[I_ a,.slice (some (aH gf 0)) (m+1) c1,.slice x2 n2 c2,.slice x3 n3 c3,I_ q] 53 (0,0)):=by rw[hb.block _ t_];exact eB _ _ s_ _ (aN _ _ rfl _)
 have I:w1.heap[w.heap.size+1]?=some (.cells #[.pointer none,I_ 0,I_ 0,.pointer none,bG,bG] 118 (0,0)):=by rw[hb.block _ s_];exact aN _ _ s_ _
 have G:=aC I;have Z:=aB (HX w1 K G);have C:=aB K;clear hb H K ab HX;go_wp2_with fail;refine Z.mono ?_;rintro e b ⟨rfl,x,n,c,k1,k2,r,h2⟩;have o:b.heap[w.heap.size]?=_:=(r.block _ o_).trans O
 have s:b.heap[w.heap.size+1]?=_:=(r.block _ G).trans I;have e1:=aA (i:=1) o rfl;have aa:=aB s;have H2:=aB h2
 have F:b.cell? (aH gf (m*6+4))=some (.slice j h k):=by
  rw[World.cell?_of_block ((r.block gf (ej X C.out.size)).trans (C.out.block gf X))];exact S
 have E:=aB F;have D:gf<b.heap.size:=by have:=C.size;have:=r.size;omega
 have af:=aC o;have ag:=aC s;have am:(0:Int)<(m:Int)+1:=o_
 clear h2 Z O I o s r S F C G;go_wp2_with fail;generalize A:((b.alloc (.cells #[.string ⟨#[]⟩,.slice x n c] 130)).alloc (.cells #[aZ b.heap.size,I_ 0,I_ 0,.pointer none,bG,bG] 118))=B;have l:Below b.heap.size b B:=by rw[<-A];exact((eh _ b).alloc cL _).alloc s_ _
 have Y:B.heap[b.heap.size]?=some (.cells #[.string (bs []),.slice x n c] 130 (0,0)):=by rw[<-A];exact eB _ _ s_ _ (aN _ _ rfl _)
 have V:B.heap[b.heap.size+1]?=some (.cells #[aZ b.heap.size,I_ 0,I_ 0,.pointer none,bG,bG] 118 (0,0)):=by rw[<-A];exact aN _ _ s_ _
 have U:B.cell? (aH w.heap.size 1)=some (.slice (some (aH gf 0)) (m+1) c1):=(World.cell?_of_block (l.block _ af)).trans e1;have Q:B.cell? (aH gf (m*6+4))=some (.slice j h k):=(World.cell?_of_block (l.block _ D)).trans E;have ac:B.heap[w.heap.size+1]?=_:=(l.block _ ag).trans aa;clear A E e1 aa;refine(nG w.heap.size gf m c1 B U o_).mono ?_
 rintro e w5 ⟨rfl,q5,rfl⟩;have N:=aU.drewN B q5;generalize B.drewN q5=f at*;have J:Below b.heap.size b f:=l.trans (N.below.mono l.size);have ad:f.heap[b.heap.size]?=_:=(congrArg (·[b.heap.size]?) N.heap).trans Y
 have g:f.heap[b.heap.size+1]?=_:=(congrArg (·[b.heap.size+1]?) N.heap).trans V
 have d:f.heap[w.heap.size+1]?=_:=(congrArg (·[w.heap.size+1]?) N.heap).trans ac
 have an:f.cell? (aH gf (m*6+4))=some (.slice j h k):=bN N.heap Q;have r0:=aA (i:=0) g rfl;have r1:=aA (i:=1) g rfl;have r2:=aA (i:=2) g rfl;have r3:=aA (i:=3) g rfl;have r4:=aA (i:=4) g rfl;have r5:=aA (i:=5) g rfl;have f4:=aD (i:=4) g;have z0:=aA (i:=0) d rfl;have z1:=aA (i:=1) d rfl;have z2:=aA (i:=2) d rfl;have z3:=aA (i:=3) d rfl;have z4:=aA (i:=4) d rfl;have z5:=aA (i:=5) d rfl;have g0:=aD (i:=0) d;have g1:=aD (i:=1) d;have g2:=aD (i:=2) d;have g3:=aD (i:=3) d;have g4:=aD (i:=4) d;have g5:=aD (i:=5) d;have l5:=aC g;have l6:=aC d;have al:gf<f.heap.size:=ej D J.size;have ak:=aB d;have aj:=aB J;have ae:=aB ad;clear l Y V U Q ac N J ad g d;go_wp2_with fail;have s0:(f.setCell (aH (b.heap.size+1) 4) (.slice j h k)).heap[w.heap.size+1]?=_:=(ei _ _ _ _ (by show w.heap.size+1≠b.heap.size+1;omega)).trans ak
 have M:=aK (aK (aK (aK (aK (aK s0 (i:=0) (u:=aZ b.heap.size)) (i:=1) (u:=I_ 0)) (i:=2) (u:=I_ 0)) (i:=3) (u:=.pointer none)) (i:=4) (u:=.slice j h k)) (i:=5) (u:=bG);have ai:Fr (w.heap.size+1) b _:=(((((((Fr.below (pb:=w.heap.size+1) aj).setCell (p:=(aH (b.heap.size+1) 4)) (d6 s_) (.slice j h k)).setCell (p:=(aH (w.heap.size+1) 0)) (d7 rfl) (aZ b.heap.size)).setCell (p:=(aH (w.heap.size+1) 1)) (d7 rfl) (I_ 0)).setCell (p:=(aH (w.heap.size+1) 2)) (d7 rfl) (I_ 0)).setCell (p:=(aH (w.heap.size+1) 3)) (d7 rfl) (.pointer none)).setCell (p:=(aH (w.heap.size+1) 4)) (d7 rfl) (.slice j h k)).setCell (p:=(aH (w.heap.size+1) 5)) (d7 rfl) (bG)
 have ah:(((((((f.setCell (aH (b.heap.size+1) 4) (.slice j h k)).setCell (aH (w.heap.size+1) 0) (aZ b.heap.size)).setCell (aH (w.heap.size+1) 1) (I_ 0)).setCell (aH (w.heap.size+1) 2) (I_ 0)).setCell (aH (w.heap.size+1) 3) (.pointer none)).setCell (aH (w.heap.size+1) 4) (.slice j h k)).setCell (aH (w.heap.size+1) 5) (bG)).heap[b.heap.size]?=some (.cells #[.string (bs []),.slice x n c] 130 (0,0)):=by
  iterate 6 rw[ei _ _ _ _ (by show b.heap.size≠w.heap.size+1;omega)]
  rw[ei _ _ _ _ (by show b.heap.size≠b.heap.size+1;omega)];exact ae
 generalize (((((((f.setCell (aH (b.heap.size+1) 4) (.slice j h k)).setCell (aH (w.heap.size+1) 0) (aZ b.heap.size)).setCell (aH (w.heap.size+1) 1) (I_ 0)).setCell (aH (w.heap.size+1) 2) (I_ 0)).setCell (aH (w.heap.size+1) 3) (.pointer none)).setCell (aH (w.heap.size+1) 4) (.slice j h k)).setCell (aH (w.heap.size+1) 5) (bG))=L at*;have y0:=aA (i:=0) M rfl;have y1:=aA (i:=1) M rfl;have y2:=aA (i:=2) M rfl;have y3:=aA (i:=3) M rfl;have y4:=aA (i:=4) M rfl;have y5:=aA (i:=5) M rfl;exact bodyPost_ret (v:=.agg #[aZ b.heap.size,I_ 0,I_ 0,.pointer none,.slice j h k,bG]) (by simp[results,results84,go_sem,y0,y1,y2,y3,y4,y5]) rfl ⟨_,rfl,H2 _ ai ah⟩
def JK(w:aG)(b:ByteArray)(P:Value->World->Prop)
 (c:Hid (Calls prog 28 #[.func (.func 49) #[] #[aZ w.heap.size,aZ (w.heap.size+1)]] ((w.alloc (.cells #[.string b] 9)).alloc (.cells #[.nilIface] 67)) λe a=>∃(k l:Nat) (u:aQ),e=aX (.tuple #[I_ k,I_ l])/\(u=.nilIface\/∃t z,u=.iface t z)/\a.cell? (aH (w.heap.size+1) 0)=some u/\a.frozen? (aH (w.heap.size+1) 0)=false/\w.heap.size+1<a.heap.size/\P (.tuple #[u,I_ k,I_ l]) (a.setCell (aH (w.heap.size+1) 0) u))):
 Calls prog 25 #[.string b] w λe a=>∃v,e=aX v/\P v a:=by
 have f:=vZ;go_in
 go_wp2_with fail;refine c.mono ?_;rintro e j ⟨k,l,u,rfl,i,g,n,m,d⟩;have h:=aB d;clear d c;rcases i with rfl|⟨t,z,rfl⟩
 all_goals
  go_wp2
  refine bodyPost_ret (by simp[results,results25,go_sem,g];rfl) rfl ?_
  exact⟨_,rfl,h⟩
def YV(w:aG)(a q:Nat)(n k g:Option Addr)(l c1 o i h j:Nat)(x:Option Addr)(K L:Nat)(t:TypeId)(z:aQ)(P:Value->World->Prop)(A:Value->World->Prop)(B:Nat->Nat->World->Prop)
 (y:Hid (Calls prog 84 #[.agg #[I_ a,.slice n l c1,.slice k o i,.slice g h j,I_ q],.iface t z] (w.alloc (.cells #[I_ a,.slice n l c1,.slice k o i,.slice g h j,I_ q] 53)) λe c=>∃p,e=aX (.agg #[.pointer p,I_ 0,I_ 0,.pointer none,.slice x K L,bG])/\A (.pointer p) c))
 (I:Hid (∀p W,A (.pointer p) W->Calls prog 85 #[.func (.func 86) #[aZ (W.heap.size+1)] #[]] ((W.alloc (.cells #[.pointer p,I_ 0,I_ 0,.pointer none,.slice x K L,bG] 118)).alloc (.cells #[I_ 0,.slice (some (aH W.heap.size 0)) 1 1,bG,bG,I_ 0] 53)) λe c=>∃s:Nat,e=aX (I_ s)/\B s W.heap.size c))
 (m:Hid (∀s gf W,s≠0->B s gf W->P (.tuple #[.string (bs []),I_ s]) W))
 (r:Hid (∀gf W,B 0 gf W->Calls prog 74 #[aZ (gf+1)] W λe c=>e=aX (aZ gf)/\Calls prog 87 #[aZ gf] c λe M=>∃t z,e=aX (.iface t z)/\Calls prog 73 #[.iface t z] M λe u=>∃s,e=aX (.string s)/\P (.tuple #[.string s,I_ 0]) u)):
 Calls prog 54 #[.agg #[I_ a,.slice n l c1,.slice k o i,.slice g h j,I_ q],.iface t z] w λe c=>∃v,e=aX v/\P v c:=by
 have S:=vZ;go_in
 go_wp2_with fail;refine y.mono ?_;rintro e N ⟨p,rfl,F⟩;have b:=aB (I _ _ F);generalize Q:N.heap.size=gf at b;clear F y I;go_wp2_with fail;refine b.mono ?_;rintro e M ⟨s,rfl,f⟩;by_cases J:s=0
 ·subst J;have d:=aB (r _ _ f);clear f b r m;go_wp2_with fail;refine d.mono ?_;rintro e u ⟨rfl,H⟩;have C:=aB H;clear H d;go_wp2_with fail;refine C.mono ?_;rintro e V ⟨X,Y,rfl,E⟩;have D:=aB E;clear E C;go_wp2_with fail;refine D.mono ?_;rintro e Z ⟨s5,rfl,G⟩;have T:=aB G;clear G D;go_wp2
  go_ret2
  exact⟨_,rfl,T⟩
 ·have U:=aB (m _ _ _ J f);have O:¬(s:Int)=0:=o_
  clear f b r m;go_wp2
  go_ret2
  exact⟨_,rfl,U⟩
def KT(w:World)(a q:Nat)(K B I:Option Addr)(G c1 H y J E:Nat)(t:TypeId)(z:Value)(R:Value->World->Prop)(A:Nat->Nat->World->Prop)
 (HF:Hid (∀W,Below w.heap.size w W->W.heap[w.heap.size]?=some (.cells #[.int .i64 a,.slice K G c1,.slice B H y,.slice I J E,.int .i64 q] 53 (0,0))->W.heap[w.heap.size+1]?=some (.cells #[.iface t z] 67 (0,0))->W.heap.size=w.heap.size+4->Calls prog 28 #[.func (.func 51) #[] #[.pointer (some ⟨w.heap.size+1,0,none⟩),.pointer (some ⟨w.heap.size,0,none⟩)]] W λe M=>∃k l:Nat,e=.returned (.tuple #[.int .i64 k,.int .i64 l])/\Below W.heap.size W M/\A k l M))
 (HN:Hid (∀k l W o,k≠0->A k l W->Below w.heap.size W o->R (.agg #[.string (bs []),.int .i64 0,.int .i64 k,.int .i64 l]) o))
 (HE:Hid (∀l W o,A 0 l W->Fr (w.heap.size+3) W o->Calls prog 54 #[.agg #[.int .i64 a,.slice K G c1,.slice B H y,.slice I J E,.int .i64 q],.iface t z] o λe M=>∃(s:ByteArray) (N:Nat),e=.returned (.tuple #[.string s,.int .i64 N])/\Below o.heap.size o M/\∀Q,Below w.heap.size M Q->R (.agg #[.string s,.int .i64 N,.int .i64 0,.int .i64 l]) Q)):
 Calls prog 26 #[.agg #[.int .i64 a,.slice K G c1,.slice B H y,.slice I J E,.int .i64 q],.iface t z] w λe M=>∃v,e=.returned v/\R v M:=by
 have ag:=vZ;obtain⟨m,c⟩:=E_ ((((w.alloc (.cells #[.int .i64 a,.slice K G c1,.slice B H y,.slice I J E,.int .i64 q] 53)).alloc (.cells #[.iface t z] 67)).alloc (.cells #[.string ⟨#[]⟩,.int .i64 0,.int .i64 0,.int .i64 0] 71)).alloc (.cells #[.string ⟨#[]⟩,.int .i64 0,.int .i64 0,.int .i64 0] 71));have D:Below w.heap.size w m:=by rw[c];exact((((eh _ w).alloc (en _) _).alloc s_ _).alloc t_ _).alloc t_ _
 have k0:m.heap[w.heap.size]?=some (.cells #[.int .i64 a,.slice K G c1,.slice B H y,.slice I J E,.int .i64 q] 53 (0,0)):=by rw[c];exact eB _ _ t_ _ (eB _ _ t_ _ (eB _ _ s_ _ (aN _ _ rfl _)))
 have k1:m.heap[w.heap.size+1]?=some (.cells #[.iface t z] 67 (0,0)):=by rw[c];exact eB _ _ s_ _ (eB _ _ s_ _ (aN _ _ s_ _))
 have k2:m.heap[w.heap.size+2]?=some (.cells #[.string ⟨#[]⟩,.int .i64 0,.int .i64 0,.int .i64 0] 71 (0,0)):=by rw[c];exact eB _ _ s_ _ (aN _ _ s_ _)
 have k3:m.heap[w.heap.size+3]?=some (.cells #[.string ⟨#[]⟩,.int .i64 0,.int .i64 0,.int .i64 0] 71 (0,0)):=by rw[c];exact aN _ _ s_ _
 have T:m.heap.size=w.heap.size+4:=by rw[c];simp
 have C:=aB (HF.out m D k0 k1 T);have P:=aB D;have X:=aB k0;have K1:=aB k1;have K2:=aB k2;have Y:=aB k3;have Z:=aB T;have HW:=aB c;clear D k0 k1 k2 k3 T c HF;go_enter func26,ntmps26;go_wp2_with fail;rw[show (((w.alloc (.cells #[.int .i64 a,.slice K G c1,.slice B H y,.slice I J E,.int .i64 q] 53)).alloc (.cells #[.iface t z] 67)).alloc (.cells #[.string ⟨#[]⟩,.int .i64 0,.int .i64 0,.int .i64 0] 71)).alloc (.cells #[.string ⟨#[]⟩,.int .i64 0,.int .i64 0,.int .i64 0] 71)=m from HW.out.symm]
 refine C.out.mono ?_;rintro e b ⟨k,l,rfl,d,V⟩;have T:=Z.out;have x:b.heap[w.heap.size]?=_:=(d.block _ o_).trans X.out
 have U:b.heap[w.heap.size+1]?=_:=(d.block _ o_).trans K1.out
 have g:b.heap[w.heap.size+2]?=_:=(d.block _ o_).trans K2.out
 have f:b.heap[w.heap.size+3]?=_:=(d.block _ o_).trans Y.out
 have ae:=aC f;have d0:b.cell? ⟨w.heap.size+3,0,none⟩=some (.string ⟨#[]⟩):=aA f rfl;have d1:b.cell? ⟨w.heap.size+3,1,none⟩=some (.int .i64 0):=aA f rfl;have d2:b.cell? ⟨w.heap.size+3,2,none⟩=some (.int .i64 0):=aA f rfl;have d3:b.cell? ⟨w.heap.size+3,3,none⟩=some (.int .i64 0):=aA f rfl;have f0:=aD (i:=0) f;have f1:=aD (i:=1) f;have f2:=aD (i:=2) f;have f3:=aD (i:=3) f;have e0:b.cell? ⟨w.heap.size+2,0,none⟩=some (.string ⟨#[]⟩):=aA g rfl;have e1:b.cell? ⟨w.heap.size+2,1,none⟩=some (.int .i64 0):=aA g rfl;have e2:b.cell? ⟨w.heap.size+2,2,none⟩=some (.int .i64 0):=aA g rfl;have e3:b.cell? ⟨w.heap.size+2,3,none⟩=some (.int .i64 0):=aA g rfl;have g0:=aD (i:=0) g;have g1:=aD (i:=1) g;have g2:=aD (i:=2) g;have g3:=aD (i:=3) g;have af:=aC g
 have H2b:Hid (∀u v:Value,((b.setCell ⟨w.heap.size+1+1+1,2,none⟩ u).setCell ⟨w.heap.size+1+1+1,3,none⟩ v).heap[w.heap.size+1+1]?=some (.cells #[.string ⟨#[]⟩,.int .i64 0,.int .i64 0,.int .i64 0] 71 (0,0))):=λu v=>by
  rw[ei _ _ _ _ (by show w.heap.size+1+1≠w.heap.size+1+1+1;omega),ei _ _ _ _ (by show w.heap.size+1+1≠w.heap.size+1+1+1;omega)];exact g
 by_cases hk:k=0
 ·subst hk;have L:Fr (w.heap.size+3) b ((b.setCell ⟨w.heap.size+1+1+1,2,none⟩ (.int .i64 0)).setCell ⟨w.heap.size+1+1+1,3,none⟩ (.int .i64 l)):=((Fr.refl _ _).setCell (p:=⟨w.heap.size+1+1+1,2,none⟩) (d7 rfl) _).setCell (p:=⟨w.heap.size+1+1+1,3,none⟩) (d7 rfl) _;have S:=aB (HE.out l b _ V L);have S3:=aB (aK (aK f (i:=2) (u:=.int .i64 0)) (i:=3) (u:=.int .i64 l));have O:=aB L;have i0:b.cell? ⟨w.heap.size,0,none⟩=some (.int .i64 a):=aA x rfl;have i1:b.cell? ⟨w.heap.size,1,none⟩=some (.slice K G c1):=aA x rfl;have i2:b.cell? ⟨w.heap.size,2,none⟩=some (.slice B H y):=aA x rfl;have i3:b.cell? ⟨w.heap.size,3,none⟩=some (.slice I J E):=aA x rfl;have i4:b.cell? ⟨w.heap.size,4,none⟩=some (.int .i64 q):=aA x rfl;have i5:b.cell? ⟨w.heap.size+1,0,none⟩=some (.iface t z):=aA U rfl;have aa:=aC x;have ad:=aC U;clear x U g f V C HE HN P X K1 K2 Y HW Z L d e0 e1 e2 e3 g0 g1 g2 g3 f0 f1;go_wp2_with fail;refine S.out.mono ?_;rintro e j ⟨s,N,rfl,F,h2⟩;have ac:=O.out.size;have r:j.heap[w.heap.size+1+1+1]?=_:=(F.block _ o_).trans S3.out
  have h:j.heap[w.heap.size+1+1]?=_:=(F.block _ o_).trans (H2b.out _ _)
  have b0:j.cell? ⟨w.heap.size+1+1+1,0,none⟩=some (.string ⟨#[]⟩):=aA r rfl;have b1:j.cell? ⟨w.heap.size+1+1+1,1,none⟩=some (.int .i64 0):=aA r rfl;have b2:j.cell? ⟨w.heap.size+1+1+1,2,none⟩=some (.int .i64 0):=aA r rfl;have b3:j.cell? ⟨w.heap.size+1+1+1,3,none⟩=some (.int .i64 l):=aA r rfl;have j0:=aD (i:=0) r;have j1:=aD (i:=1) r;have e0:j.cell? ⟨w.heap.size+1+1,0,none⟩=some (.string ⟨#[]⟩):=aA h rfl;have e1:j.cell? ⟨w.heap.size+1+1,1,none⟩=some (.int .i64 0):=aA h rfl;have e2:j.cell? ⟨w.heap.size+1+1,2,none⟩=some (.int .i64 0):=aA h rfl;have e3:j.cell? ⟨w.heap.size+1+1,3,none⟩=some (.int .i64 0):=aA h rfl;have g0:=aD (i:=0) h;have g1:=aD (i:=1) h;have g2:=aD (i:=2) h;have g3:=aD (i:=3) h;have m2:=aC h;have m3:=aC r;have H2:=aB h2
  have T2:Hid (((j.setCell ⟨w.heap.size+1+1+1,0,none⟩ (.string s)).setCell ⟨w.heap.size+1+1+1,1,none⟩ (.int .i64 N)).heap[w.heap.size+1+1]?=some (.cells #[.string ⟨#[]⟩,.int .i64 0,.int .i64 0,.int .i64 0] 71 (0,0))):=by
   show _=_
   rw[ei _ _ _ _ (by show w.heap.size+1+1≠w.heap.size+1+1+1;omega),ei _ _ _ _ (by show w.heap.size+1+1≠w.heap.size+1+1+1;omega)];exact h
  clear h2 F h r S O S3 H2b i0 i1 i2 i3 i4 i5 d0 d1 d2 d3 f2 f3;go_wp2_with fail;have n:=aK (aK (aK (aK T2.out (i:=0) (u:=.string s)) (i:=1) (u:=.int .i64 N)) (i:=2) (u:=.int .i64 0)) (i:=3) (u:=.int .i64 l);refine bodyPost_ret (v:=.agg #[.string s,.int .i64 N,.int .i64 0,.int .i64 l]) (by simp[results,results26,go_sem,aA n (i:=0) rfl,aA n (i:=1) rfl,aA n (i:=2) rfl,aA n (i:=3) rfl]) rfl ⟨_,rfl,H2.out _ ?_⟩
  exact((((((eh _ _).setCell (by show _<=w.heap.size+1+1+1;omega) _).setCell (by show _<=w.heap.size+1+1+1;omega) _).setCell (by show _<=w.heap.size+1+1;omega) _).setCell (by show _<=w.heap.size+1+1;omega) _).setCell (by show _<=w.heap.size+1+1;omega) _).setCell (by show _<=w.heap.size+1+1;omega) _
 ·have ab:¬(k:Int)=0:=o_
  have H1:=aB λo=>HN.out k l b o hk V
  clear x U g f V C HE HN P X K1 K2 Y HW Z d;go_wp2_with fail;have n:=aK (aK (aK (aK (H2b.out (.int .i64 k) (.int .i64 l)) (i:=0) (u:=.string ⟨#[]⟩)) (i:=1) (u:=.int .i64 0)) (i:=2) (u:=.int .i64 k)) (i:=3) (u:=.int .i64 l);refine bodyPost_ret (v:=.agg #[.string ⟨#[]⟩,.int .i64 0,.int .i64 k,.int .i64 l]) (by simp[results,results26,go_sem,aA n (i:=0) rfl,aA n (i:=1) rfl,aA n (i:=2) rfl,aA n (i:=3) rfl]) rfl ⟨_,rfl,H1.out _ ?_⟩
  exact((((((eh _ _).setCell (by show _<=w.heap.size+1+1+1;omega) _).setCell (by show _<=w.heap.size+1+1+1;omega) _).setCell (by show _<=w.heap.size+1+1;omega) _).setCell (by show _<=w.heap.size+1+1;omega) _).setCell (by show _<=w.heap.size+1+1;omega) _).setCell (by show _<=w.heap.size+1+1;omega) _
def IE(w:aG)(p b:Nat)(a q:Nat)(u r j:Option Addr)(s c1 v l k m:Nat)(t:TypeId)(z:aQ)(R:World->Prop)
 (i:w.heap[p]?=some (.cells #[.iface t z] 67 (0,0))) (d:w.heap[b]?=some (.cells #[I_ a,.slice u s c1,.slice r v l,.slice j k m,I_ q] 53 (0,0)))
 (H:Hid (∀W,aU w W->Calls prog 53 #[.agg #[I_ a,.slice u s c1,.slice r v l,.slice j k m,I_ q]] W λe h=>∃x n c,e=aX (.slice x n c)/\Below w.heap.size w h/\Calls prog 52 #[.iface t z,.slice x n c] h λe o=>e=aX (.tuple #[])/\R o)):
 Calls prog 51 #[aZ p,aZ b] w λe h=>e=aX (.tuple #[])/\R h:=by
 have M:=aA (i:=0) d rfl;have E:=aA (i:=1) d rfl;have F:=aA (i:=2) d rfl;have I:=aA (i:=3) d rfl;have C:=aA (i:=4) d rfl;have N:=aA (i:=0) i rfl;have K:=aC d;have g:=aC i;have J:=aB i;clear d i;go_in
 go_wp2_with fail;go_region_law (go_simp;first|(go_at_call 53;refine(H _ (aU.drew _)).mono ?_;rintro e y ⟨x,n,c,rfl,f,A⟩;have G:=aB A;have L:y.cell? (aH p 0)=some (.iface t z):=(aA ((f.block p g).trans J) rfl);have B:p<y.heap.size:=ej g f.size;clear A f)|(go_at_call 52;refine G.mono ?_;rintro e O ⟨rfl,D⟩))
 all_goals
  go_wp2
  go_end0;exact⟨rfl,D⟩
def DB(w:aG)(p b:Nat)(a q:Nat)(A v m:Option Addr)(y c1 B r o s:Nat)(t:TypeId)(z:aQ)(k l:Nat)(R:World->Prop)
 (j:w.heap[p]?=some (.cells #[.iface t z] 67 (0,0))) (f:w.heap[b]?=some (.cells #[I_ a,.slice A y c1,.slice v B r,.slice m o s,I_ q] 53 (0,0)))
 (L:Hid (∀W,aU w W->Calls prog 53 #[.agg #[I_ a,.slice A y c1,.slice v B r,.slice m o s,I_ q]] W λe i=>∃x n c,e=aX (.slice x n c)/\Below w.heap.size w i/\Calls prog 52 #[.iface t z,.slice x n c] i λe u=>e=cU k l/\R u)):
 Calls prog 51 #[aZ p,aZ b] w λe i=>e=cU k l/\R i:=by
 have P:=aA (i:=0) f rfl;have H:=aA (i:=1) f rfl;have J:=aA (i:=2) f rfl;have M:=aA (i:=3) f rfl;have F:=aA (i:=4) f rfl;have Q:=aA (i:=0) j rfl;have N:=aC f;have h:=aC j;have I:=aB j;clear f j;go_in
 go_wp2_with fail;go_region_law (first|(go_simp;go_at_call 53;refine(L _ (aU.drew _)).mono ?_;rintro e C ⟨x,n,c,rfl,g,D⟩;have K:=aB D;have O:C.cell? (aH p 0)=some (.iface t z):=(aA ((g.block p h).trans I) rfl);have E:p<C.heap.size:=ej h g.size;clear D g)|(refine NC (.tuple #[]) ?_ ?_;(focus go_simp;go_at_call 52;refine K.mono ?_;rintro e S ⟨rfl,G⟩;exact⟨rfl,rfl,G⟩);intro d))
 all_goals exact d.out.elim
def XJ(w:aG)(sb:Nat)(d:ByteArray)(a q:Nat)(y r j:Option Addr)(x c1 B n m o:Nat)(P:Value->World->Prop)(A:TypeId->Value->World->Prop)
 (g:Hid (Calls prog 25 #[.string d] w λe b=>(∃k l:Nat,k≠0/\e=aX (.tuple #[.nilIface,I_ k,I_ l])/\P (.tuple #[.string (bs []),I_ 0,I_ k,I_ l]) b)\/∃t z,e=aX (.tuple #[.iface t z,I_ 0,I_ 0])/\A t z b))
 (f:Hid (∀t z W,A t z W->W.cell? (aH sb 0)=some (I_ a)/\W.cell? (aH sb 1)=some (.slice y x c1)/\W.cell? (aH sb 2)=some (.slice r B n)/\W.cell? (aH sb 3)=some (.slice j m o)/\W.cell? (aH sb 4)=some (I_ q)/\sb<W.heap.size/\
   Calls prog 26 #[.agg #[I_ a,.slice y x c1,.slice r B n,.slice j m o,I_ q],.iface t z] W λe b=>∃(s:ByteArray) (h k l:Nat),e=aX (.agg #[.string s,I_ h,I_ k,I_ l])/\∀C,Below b.heap.size b C->P (.tuple #[.string s,I_ h,I_ k,I_ l]) C)):
 Calls prog 9 #[aZ sb,.string d] w λe b=>∃v,e=aX v/\P v b:=by
 go_in
 go_wp2_with fail;refine g.mono ?_;rintro e L (⟨k,l,M,rfl,c⟩|⟨t,z,rfl,c⟩)
 ·have H:=aB c;have F:¬(k:Int)=0:=o_
  clear c g f;go_wp2
  refine bodyPost_ret (by simp[results,results9,go_sem];rfl) rfl ?_
  exact⟨_,rfl,H⟩
 ·obtain⟨G,K,D,I,J,N,i⟩:=f _ _ _ c;have u:=aB i;clear c i g f;go_wp2_with fail;refine u.mono ?_;rintro e O ⟨s,h,k,l,rfl,p⟩;have E:=aB p;clear p u G K D I J;go_wp2_with fail;go_quiet (fail)
  go_wp2
  refine bodyPost_ret (by simp[results,results9,go_sem];rfl) rfl ?_
  exact⟨_,rfl,E _ (((eh _ _).alloc cL _).trans ((aU.drewN _ _).below.mono s_))⟩
def WJ(w:aG)(sb gf:Nat)(L:Nat->World->Prop)(P:World->Prop)(S:Nat->World->Prop)(N:Nat->TypeId->Value->Nat->World->Prop)(v:Nat)
 (B:Hid (Calls prog 74 #[aZ sb] w λe b=>e=aX (aZ gf)/\L v b))
 (F:Hid (∀k W,L k W->∃(f:Nat) (fb:Nat) (y:Option Addr) (n c:Nat),W.cell? (aH gf 1)=some (I_ f)/\W.cell? (aH gf 0)=some (aZ fb)/\W.cell? (aH fb 1)=some (.slice y n c)/\gf<W.heap.size/\fb<W.heap.size/\(n<=f->∀q,P (W.drewN q))/\(f<n->∃j,k=j+1/\∀q,Calls prog 120 #[aZ gf] (W.drewN q) λe b=>∃t z a,e=aX (.iface t z)/\Disp t a/\N j t z a b)))
 (E:Hid (∀j t z a W,N j t z a W->Calls prog a #[z,aZ sb] W λe b=>(e=aX (.tuple #[])/\L j b)\/(∃q,e=fQ q/\S q b))):
 Calls prog 86 #[aZ sb] w λe b=>(e=aX (.tuple #[])/\P b)\/(∃q,e=fQ q/\S q b):=by
 go_in
 go_wp2_with fail;refine B.mono ?_;rintro e O ⟨rfl,h⟩;have C:=aB h;clear h B;go_wp2_with fail;go_loopg [] v (λgk wr=>L gk wr)
 case atStart=>exact C
 case round=>
  have d:=hrel;clear hrel;obtain⟨f,fb,y,n,c,M,K,J,Q,T,o,r⟩:=F _ _ d;by_cases h:n<=f
  ·have H:=aB (o h);have G:¬(f:Int)<(n:Int):=o_
   clear d o r;go_wp2_with fail;go_quiet (fail)
   go_wp2_with fail;exact⟨rfl,_,results_none r_ _ _ _,d7 ⟨rfl,H _⟩⟩
  ·obtain⟨j,rfl,x⟩:=r o_
   have g:=aB x;have G:(f:Int)<(n:Int):=o_
   clear d o r x;go_wp2_with fail;go_quiet (fail)
   go_wp2_with fail;refine(g _).mono ?_;rintro e A ⟨t,z,a,rfl,l,u⟩;have s:=aB (E _ _ _ _ _ u);have p:=l.1 z A;have m:=l.2 z (aZ sb) A;clear u l g;go_wp2_with fail;refine s.mono ?_;rintro e I (⟨rfl,i⟩|⟨q,rfl,i⟩)
   ·have D:=aB i;clear i p m;go_wp2
    go_roundg j
    case measure=>omega
    case rel=>exact D
   ·go_wp2_with fail;exact⟨rfl,d6 ⟨q,rfl,i⟩⟩
section
variable {sh:Bool} {fp:eK} {F:bY} {b_:Nat} {w:aG} {sb gf cap:Nat} {t0 tv u_ s0:aQ} {v_:List FVal} {f:aJ} {tape:List Int} {out:cN}
def D0(sh:Bool)(fp:eK)(F0:bY)(b_ sb gf:Nat)(t0 s0:aQ)(own0:List Nat)(w0:aG)(tape:List Int)(out:cN)(f:aJ)(W:aG):Prop:=
 ∃F cap tv u_ v_,Ext F0 F w0.heap.size/\dA sh fp F b_ W sb gf cap t0 tv u_ s0 v_ ⟨[]++[f],tape,out⟩/\Kept own0 w0 W/\(∀x∈aR sh sb gf u_ v_,x∈own0\/w0.heap.size<=x)
def D0.same{a:List Nat}{W W':aG}(h:D0 sh fp F b_ sb gf t0 s0 a w tape out f W)(e:aU W W'):D0 sh fp F b_ sb gf t0 s0 a w tape out f W':=by
 obtain⟨k,c,g,b,d,l,i,m,j⟩:=h;exact⟨k,c,g,b,d,l,i.grow e.below dP (λ_ h=>d7 h),m.trans (Kept.of_below (own:=[]) e.below) (λx n=>by simp at n),j⟩
def J9{k:Nat}{r:aJ × Nat}(h:dA sh fp F b_ w sb gf cap t0 tv u_ s0 v_ ⟨[]++[f],tape,out⟩)(C:b_<=w.heap.size)(o:pQ f)(hk:f.fn.code.length-f.next<=k)(c:fT k f=r):
 Calls prog 86 #[aZ sb] w λe E=>bd_ r.2 e/\gB sh fp F b_ sb gf t0 s0 (aR sh sb gf u_ v_) w ⟨[]++[r.1],tape,out⟩ E:=by
 generalize M:aR sh sb gf u_ v_=a
 have s:∀W,D0 sh fp F b_ sb gf t0 s0 a w tape out r.1 W->gB sh fp F b_ sb gf t0 s0 a w ⟨[]++[r.1],tape,out⟩ W:=λW D=>by
  obtain⟨H,cap,tv,u_,v_,N,A,I,O⟩:=D;exact⟨I,H,cap,tv,u_,v_,N,A,O⟩
 have h0:D0 sh fp F b_ sb gf t0 s0 a w tape out f w:=⟨F,cap,tv,u_,v_,Ext.refl _ _,h,Kept.refl _ _,λy hy=>d7 (by rw[<-M];exact hy)⟩
 refine(WJ w sb gf (λk W=>∃f,D0 sh fp F b_ sb gf t0 s0 a w tape out f W/\pQ f/\f.fn.code.length-f.next<=k/\fT k f=r)
  (λW=>r.2=0/\gB sh fp F b_ sb gf t0 s0 a w ⟨[]++[r.1],tape,out⟩ W) (λq W=>q=r.2/\r.2≠0/\gB sh fp F b_ sb gf t0 s0 a w ⟨[]++[r.1],tape,out⟩ W)
  (λj t z p W=>∃(H:bY) (u_:aQ) (v_:List FVal) (g:aJ) (i:aI),(Ext F H w.heap.size/\Kept a w W/\(∀x∈aR sh sb gf u_ v_,x∈a\/w.heap.size<=x))/\(((aL i g).2≠0/\r=aL i g)\/((aL i g).2=0/\pQ (aL i g).1/\(aL i g).1.fn.code.length-(aL i g).1.next<=j/\fT j (aL i g).1=r))/\
    Calls prog p #[z,aZ sb] W (iW sh fp H b_ sb gf t0 s0 (aR sh sb gf u_ v_) W [] tape out (aL i g)))
  k ?_ (λk W hL=>?_) (λj t z p W hN=>?_)).mono ?_
 ·have Q:=h.count;have l:=h.blk;rw[Q] at l;refine(nG sb gf 0 cap w (aA l rfl) o_).mono ?_
  rintro e E ⟨L,q,rfl⟩;exact⟨L,f,h0.same (aU.drewN _ _),o,hk,c⟩
 ·obtain⟨f,D,o,hk,c⟩:=hL;have aa:=D;obtain⟨H,cap,tv,u_,v_,N,A,I,O⟩:=D;obtain⟨fb,v,ag,rfl,X,hv,l,m,af,k0,k1, -, -, -, -⟩:=A.top;obtain rfl:fb=[]:=gg X;obtain⟨T,gc,cp,ah,e1,e2,e3,e4,e5,e6⟩:=hv.fn;rw[e1] at k0;rw[hv.nx] at k1;refine⟨f.next,T,some (aH gc 0),f.fn.code.length,cp,aA m k1,aA m k0,aA e3 rfl,aC m,aC e3,λhn q=>?_,λhn=>?_⟩
  ·rw[xL hn] at c;subst c;exact⟨rfl,s _ (aa.same (aU.drewN _ _))⟩
  ·obtain⟨i,g,hf,ad,ha,hs,ae⟩:=o.step hn;obtain⟨j,rfl⟩:∃j,k=j+1:=⟨k-1,o_⟩
   refine⟨j,rfl,λq=>?_⟩
   have hS:=aU.drewN W q;have V:=A.grow hS.below dP (λ_ h=>d7 h)
   have ac:Kept a w (W.drewN q):=I.trans (Kept.of_below (own:=[]) hS.below) (λx o=>by simp at o)
   refine(V.fetched hf (by have:=o.len;omega)).mono ?_
   rintro e E ⟨u,d,L,q1,q2,q3,q4⟩;have J:Kept a w E:=ac.trans q3 O;obtain⟨t',z,p,U,P, -,S⟩:=aB_ ha q2 s_ (em C J.size) q1
   refine⟨t',z,p,by rw[L,U],P,H,u_,d,g,i,⟨N,J,λx o=>O x (by rw[<-q4];exact o)⟩,?_,S⟩
   rw[hs j] at c;by_cases n:(aL i g).2=0
   ·rw[if_pos n] at c;obtain⟨n1,n2⟩:=ae n;exact d6 ⟨n,n1,by rw[jM,ad];omega,c⟩
   ·rw[if_neg n] at c;exact d7 ⟨n,c.symm⟩
 ·obtain⟨H,u_,v_,g,i,⟨N,A,I⟩,c,Q⟩:=hN;refine Q.mono ?_;rintro e E ⟨L,ab,G,K,Y,B,d,U,P,S⟩
  have D:D0 sh fp F b_ sb gf t0 s0 a w tape out (aL i g).1 E:=⟨G,K,Y,B,d,N.trans U A.size,P,A.trans ab I,λx o=>by
   rcases S x o with b|b
   ·exact I x b
   ·exact d6 (em A.size b)⟩
  rcases L with ⟨n,rfl⟩|⟨n,rfl⟩
  ·rcases c with ⟨b,_⟩|⟨_,b⟩
   ·exact absurd n b
   ·exact d7 ⟨rfl,_,D,b⟩
  ·rcases c with ⟨_,rfl⟩|⟨b,_⟩
   ·exact d6 ⟨_,rfl,rfl,n,s _ D⟩
   ·exact absurd b n
 ·rintro e E (⟨rfl,b,Z⟩|⟨q,rfl,rfl,b,Z⟩)
  ·exact⟨d7 ⟨b,rfl⟩,Z⟩
  ·exact⟨d6 ⟨b,rfl⟩,Z⟩
end
structure qF(A:aE):Prop where
 ex:dJ A
 fine:Hs.FineA 2001 A
 lit:nC A
def uA{l:cC}(h:iQ l=.ok A):qF A:=by
 unfold iQ at h;split at h
 ·cases h
 rename_i g b;unfold qH at b;split at b
 ·cases b
 split at b
 ·cases b
 rename_i e;split at b
 ·cases b
 rename_i k c;cases b;split at h
 ·cases h
 rename_i a q f;split at h
 rotate_left
 ·cases h
 cases h;obtain⟨i,o⟩:=mT c;obtain⟨m,r,n⟩:=vO g (g.length+1) 0 A q f;have p:=(i.ok.exprs 0 i.some_).ok A q f;have j:Hs.FineA 2001 A:=n.le o_
 exact⟨qL g (pL c e) _ 0 _ _ f,j,λd=>jK o_ d A j (qL g (pL c e) _ 0 _ _ f)⟩
def qF.dp(h:qF A):fG 2001 A:=mV _ _ h.fine
def qF.wt(h:qF A)(d:Nat):cF d A<=2001:=(h.fine d).1
def qF.len(h:qF A)(e_:cN)(d p:Nat):(aF [] e_ d A p).length<=4002:=by
 have b:=lW [] e_ d A p;have a:=sS 2001 A h.dp;have c:=h.wt 2001;omega
def qF.ok(h:qF A){e_:cN}(c:(aP [] true 2001 A ⟨e_,0,0⟩).kind=0):Hs.ExOk [] true e_ 2001 A:=
 Hs.ExOk.mem (λx b=>List.mem_reverse.1 b) (nX (fs:=[]) (a_:=true) (λf a=>by cases a) (λ_=>rfl) 2001 A h.ex h.dp e_ c).2
end Go.Proofs.YtlflgmdcghfngaaGreatDoor
