/- Contracts of the program: a frame for an expression: the walk. -/
import Derived.Test.YtmjbnmpamlainaaGreatDoorB09
import Derived.Test.YtmjbnmpamlainaaGreatDoorP08
import Derived.Test.YtmjbnmpamlainaaGreatDoorP15
import Derived.Test.YtmjbnmpamlainaaGreatDoorP25W
set_option linter.defProp false
set_option maxRecDepth 100000
set_option maxHeartbeats 4000000
namespace Go.Proofs.YtmjbnmpamlainaaGreatDoor
open Hs
open _root_.Go.Proofs.Tryz
open Go.RowKit
def EY(w:aG)(a q:Nat)(x2 x3:Option Addr)(c1 n2 c2 n3 c3:Nat)(gf m:Nat)(p0 j:Option Addr)(h k:Nat)(t:TypeId)(z:aQ)(P:Value->World->Prop)
 (hm:m<=1000) (X:gf<w.heap.size) (T:w.cell? (aH gf (m*6+4))=some (.slice j h k))
 (HS:Hid (∀W,Below w.heap.size w W->Calls prog 59 #[.agg #[Iv0 a,.slice (some (aH gf 0)) (m+1) c1,.slice x2 n2 c2,.slice x3 n3 c3,Iv0 q]] W fun e y=>e=aZ (.pointer p0)/\Below W.heap.size W y))
 (HX:Hid (∀W,Below w.heap.size w W->w.heap.size+1<W.heap.size->Calls prog 96 #[bH W.heap.size,.iface t z] (W.alloc (.cells #[bF,bF,.pointer p0] 167)) fun e y=>e=aZ (.tuple #[])/\∃x n c,y.cell? (aH W.heap.size 1)=some (.slice x n c)/\W.heap.size<y.heap.size/\Below W.heap.size W y/\
   ∀W',Fr (w.heap.size+1) y W'->W'.heap[y.heap.size]?=some (.cells #[.string (bs []),.slice x n c] 136 (0,0))->P (.agg #[bH y.heap.size,Iv0 0,Iv0 0,.pointer none,.slice j h k,bF]) W')):
 Calls prog 60 #[.agg #[Iv0 a,.slice (some (aH gf 0)) (m+1) c1,.slice x2 n2 c2,.slice x3 n3 c3,Iv0 q],.iface t z] w fun e y=>∃v,e=aZ v/\P v y:=by
 have H:Below w.heap.size w ((w.alloc (.cells #[Iv0 a,.slice (some (aH gf 0)) (m+1) c1,.slice x2 n2 c2,.slice x3 n3 c3,Iv0 q] 49)).alloc (.cells #[.pointer none,Iv0 0,Iv0 0,.pointer none,bF,bF] 108)):=((co_ _ w).alloc cL _).alloc (by simp) _
 have ab:=aB (HS _ H);have S:=aB T;clear HS T;go_in
 go_wp2_with fail;refine ab.mono ?_;rintro e w1 ⟨rfl,hb⟩;have K:Below w.heap.size w w1:=H.trans (hb.mono (by simp;omega))
 have O:w1.heap[w.heap.size]?=some (.cells #[Iv0 a,.slice (some (aH gf 0)) (m+1) c1,.slice x2 n2 c2,.slice x3 n3 c3,Iv0 q] 49 (0,0)):=by rw[hb.block _ (by simp;omega)];exact eA _ _ (by simp) _ (aO _ _ rfl _)
 have I:w1.heap[w.heap.size+1]?=some (.cells #[.pointer none,Iv0 0,Iv0 0,.pointer none,bF,bF] 108 (0,0)):=by rw[hb.block _ (by simp)];exact aO _ _ (by simp) _
 have G:=aC I;have Z:=aB (HX w1 K G);have C:=aB K;clear hb H K ab HX;go_wp2_with fail;refine Z.mono ?_;rintro e b ⟨rfl,x,n,c,k1,k2,r,h2⟩;have o:b.heap[w.heap.size]?=_:=(r.block _ (by omega)).trans O
 have s:b.heap[w.heap.size+1]?=_:=(r.block _ G).trans I;have e1:b.cell? (aH w.heap.size 1)=some (.slice (some (aH gf 0)) (m+1) c1):=aA o rfl;have aa:=aB s;have H2:=aB h2
 have F:b.cell? (aH gf (m*6+4))=some (.slice j h k):=by
  rw[World.cell?_of_block ((r.block gf (cn_ X C.out.size)).trans (C.out.block gf X))];exact S
 have E:=aB F;have D:gf<b.heap.size:=by have:=C.size;have:=r.size;omega
 have af:=aC o;have ag:=aC s;have am:(0:Int)<(m:Int)+1:=by omega
 clear h2 Z O I o s r S F C G;go_wp2_with fail;generalize A:((b.alloc (.cells #[.string ⟨#[]⟩,.slice x n c] 136)).alloc (.cells #[bH b.heap.size,Iv0 0,Iv0 0,.pointer none,bF,bF] 108))=B;have l:Below b.heap.size b B:=by rw[<-A];exact((co_ _ b).alloc cL _).alloc (by simp) _
 have Y:B.heap[b.heap.size]?=some (.cells #[.string (bs []),.slice x n c] 136 (0,0)):=by rw[<-A];exact eA _ _ (by simp) _ (aO _ _ rfl _)
 have V:B.heap[b.heap.size+1]?=some (.cells #[bH b.heap.size,Iv0 0,Iv0 0,.pointer none,bF,bF] 108 (0,0)):=by rw[<-A];exact aO _ _ (by simp) _
 have U:B.cell? (aH w.heap.size 1)=some (.slice (some (aH gf 0)) (m+1) c1):=(World.cell?_of_block (l.block _ af)).trans e1;have Q:B.cell? (aH gf (m*6+4))=some (.slice j h k):=(World.cell?_of_block (l.block _ D)).trans E;have ac:B.heap[w.heap.size+1]?=_:=(l.block _ ag).trans aa;clear A E e1 aa;refine(oN w.heap.size gf m c1 B U (by omega)).mono ?_
 rintro e w5 ⟨rfl,q5,rfl⟩;have N:=aV.drewN B q5;generalize B.drewN q5=f at*;have J:Below b.heap.size b f:=l.trans (N.below.mono l.size);have ad:f.heap[b.heap.size]?=_:=(congrArg (·[b.heap.size]?) N.heap).trans Y
 have g:f.heap[b.heap.size+1]?=_:=(congrArg (·[b.heap.size+1]?) N.heap).trans V
 have d:f.heap[w.heap.size+1]?=_:=(congrArg (·[w.heap.size+1]?) N.heap).trans ac
 have an:f.cell? (aH gf (m*6+4))=some (.slice j h k):=cM N.heap Q;have r0:f.cell? (aH (b.heap.size+1) 0)=some (bH b.heap.size):=aA g rfl;have r1:f.cell? (aH (b.heap.size+1) 1)=some (Iv0 0):=aA g rfl;have r2:f.cell? (aH (b.heap.size+1) 2)=some (Iv0 0):=aA g rfl;have r3:f.cell? (aH (b.heap.size+1) 3)=some (.pointer none):=aA g rfl;have r4:f.cell? (aH (b.heap.size+1) 4)=some (bF):=aA g rfl;have r5:f.cell? (aH (b.heap.size+1) 5)=some (bF):=aA g rfl;have f4:=aD (i:=4) g;have z0:f.cell? (aH (w.heap.size+1) 0)=some (.pointer none):=aA d rfl;have z1:f.cell? (aH (w.heap.size+1) 1)=some (Iv0 0):=aA d rfl;have z2:f.cell? (aH (w.heap.size+1) 2)=some (Iv0 0):=aA d rfl;have z3:f.cell? (aH (w.heap.size+1) 3)=some (.pointer none):=aA d rfl;have z4:f.cell? (aH (w.heap.size+1) 4)=some (bF):=aA d rfl;have z5:f.cell? (aH (w.heap.size+1) 5)=some (bF):=aA d rfl;have g0:=aD (i:=0) d;have g1:=aD (i:=1) d;have g2:=aD (i:=2) d;have g3:=aD (i:=3) d;have g4:=aD (i:=4) d;have g5:=aD (i:=5) d;have l5:=aC g;have l6:=aC d;have al:gf<f.heap.size:=cn_ D J.size;have ak:=aB d;have aj:=aB J;have ae:=aB ad;clear l Y V U Q ac N J ad g d;go_wp2_with fail;have s0:(f.setCell (aH (b.heap.size+1) 4) (.slice j h k)).heap[w.heap.size+1]?=_:=(cm_ _ _ _ _ (by show w.heap.size+1≠b.heap.size+1;omega)).trans ak
 have M:=aK (aK (aK (aK (aK (aK s0 (i:=0) (u:=bH b.heap.size)) (i:=1) (u:=Iv0 0)) (i:=2) (u:=Iv0 0)) (i:=3) (u:=.pointer none)) (i:=4) (u:=.slice j h k)) (i:=5) (u:=bF);have ai:Fr (w.heap.size+1) b _:=(((((((Fr.below (pb:=w.heap.size+1) aj).setCell (p:=(aH (b.heap.size+1) 4)) (ck_ (by simp)) (.slice j h k)).setCell (p:=(aH (w.heap.size+1) 0)) (cl_ rfl) (bH b.heap.size)).setCell (p:=(aH (w.heap.size+1) 1)) (cl_ rfl) (Iv0 0)).setCell (p:=(aH (w.heap.size+1) 2)) (cl_ rfl) (Iv0 0)).setCell (p:=(aH (w.heap.size+1) 3)) (cl_ rfl) (.pointer none)).setCell (p:=(aH (w.heap.size+1) 4)) (cl_ rfl) (.slice j h k)).setCell (p:=(aH (w.heap.size+1) 5)) (cl_ rfl) (bF)
 have ah:(((((((f.setCell (aH (b.heap.size+1) 4) (.slice j h k)).setCell (aH (w.heap.size+1) 0) (bH b.heap.size)).setCell (aH (w.heap.size+1) 1) (Iv0 0)).setCell (aH (w.heap.size+1) 2) (Iv0 0)).setCell (aH (w.heap.size+1) 3) (.pointer none)).setCell (aH (w.heap.size+1) 4) (.slice j h k)).setCell (aH (w.heap.size+1) 5) (bF)).heap[b.heap.size]?=some (.cells #[.string (bs []),.slice x n c] 136 (0,0)):=by
  iterate 6 rw[cm_ _ _ _ _ (by show b.heap.size≠w.heap.size+1;omega)]
  rw[cm_ _ _ _ _ (by show b.heap.size≠b.heap.size+1;omega)];exact ae
 generalize (((((((f.setCell (aH (b.heap.size+1) 4) (.slice j h k)).setCell (aH (w.heap.size+1) 0) (bH b.heap.size)).setCell (aH (w.heap.size+1) 1) (Iv0 0)).setCell (aH (w.heap.size+1) 2) (Iv0 0)).setCell (aH (w.heap.size+1) 3) (.pointer none)).setCell (aH (w.heap.size+1) 4) (.slice j h k)).setCell (aH (w.heap.size+1) 5) (bF))=L at*;have y0:L.cell? (aH (w.heap.size+1) 0)=some (bH b.heap.size):=aA M rfl;have y1:L.cell? (aH (w.heap.size+1) 1)=some (Iv0 0):=aA M rfl;have y2:L.cell? (aH (w.heap.size+1) 2)=some (Iv0 0):=aA M rfl;have y3:L.cell? (aH (w.heap.size+1) 3)=some (.pointer none):=aA M rfl;have y4:L.cell? (aH (w.heap.size+1) 4)=some (.slice j h k):=aA M rfl;have y5:L.cell? (aH (w.heap.size+1) 5)=some (bF):=aA M rfl;exact bodyPost_ret (v:=.agg #[bH b.heap.size,Iv0 0,Iv0 0,.pointer none,.slice j h k,bF]) (by simp[results,results60,go_sem,y0,y1,y2,y3,y4,y5]) rfl ⟨_,rfl,H2 _ ai ah⟩
def IJ(w:aG)(b:ByteArray)(P:Value->World->Prop)
 (c:Hid (Calls prog 21 #[.func (.func 30) #[] #[bH w.heap.size,bH (w.heap.size+1)]] ((w.alloc (.cells #[.string b] 9)).alloc (.cells #[.nilIface] 59)) fun e a=>∃(k l:Nat) (u:aQ),e=aZ (.tuple #[Iv0 k,Iv0 l])/\(u=.nilIface\/∃t z,u=.iface t z)/\a.cell? (aH (w.heap.size+1) 0)=some u/\a.frozen? (aH (w.heap.size+1) 0)=false/\w.heap.size+1<a.heap.size/\P (.tuple #[u,Iv0 k,Iv0 l]) (a.setCell (aH (w.heap.size+1) 0) u))):
 Calls prog 15 #[.string b] w fun e a=>∃v,e=aZ v/\P v a:=by
 have f:=vE;go_in
 go_wp2_with fail;refine c.mono ?_;rintro e j ⟨k,l,u,rfl,i,g,n,m,d⟩;have h:=aB d;clear d c;rcases i with rfl|⟨t,z,rfl⟩
 all_goals
  go_wp2
  refine bodyPost_ret (by simp[results,results15,go_sem,g];rfl) rfl ?_
  exact⟨_,rfl,h⟩
def WR(w:aG)(a q:Nat)(n k g:Option Addr)(l c1 o i h j:Nat)(x:Option Addr)(K L:Nat)(t:TypeId)(z:aQ)(P:Value->World->Prop)(A:Value->World->Prop)(B:Nat->Nat->World->Prop)
 (y:Hid (Calls prog 60 #[.agg #[Iv0 a,.slice n l c1,.slice k o i,.slice g h j,Iv0 q],.iface t z] (w.alloc (.cells #[Iv0 a,.slice n l c1,.slice k o i,.slice g h j,Iv0 q] 49)) fun e c=>∃p,e=aZ (.agg #[.pointer p,Iv0 0,Iv0 0,.pointer none,.slice x K L,bF])/\A (.pointer p) c))
 (I:Hid (∀p W,A (.pointer p) W->Calls prog 61 #[.func (.func 62) #[bH (W.heap.size+1)] #[]] ((W.alloc (.cells #[.pointer p,Iv0 0,Iv0 0,.pointer none,.slice x K L,bF] 108)).alloc (.cells #[Iv0 0,.slice (some (aH W.heap.size 0)) 1 1,bF,bF,Iv0 0] 49)) fun e c=>∃s:Nat,e=aZ (Iv0 s)/\B s W.heap.size c))
 (m:Hid (∀s gf W,s≠0->B s gf W->P (.tuple #[.string (bs []),Iv0 s]) W))
 (r:Hid (∀gf W,B 0 gf W->Calls prog 64 #[bH (gf+1)] W fun e c=>e=aZ (bH gf)/\Calls prog 65 #[bH gf] c fun e M=>∃t z,e=aZ (.iface t z)/\Calls prog 63 #[.iface t z] M fun e u=>∃s,e=aZ (.string s)/\P (.tuple #[.string s,Iv0 0]) u)):
 Calls prog 35 #[.agg #[Iv0 a,.slice n l c1,.slice k o i,.slice g h j,Iv0 q],.iface t z] w fun e c=>∃v,e=aZ v/\P v c:=by
 have S:=vE;go_in
 go_wp2_with fail;refine y.mono ?_;rintro e N ⟨p,rfl,F⟩;have b:=aB (I _ _ F);generalize Q:N.heap.size=gf at b;clear F y I;go_wp2_with fail;refine b.mono ?_;rintro e M ⟨s,rfl,f⟩;by_cases J:s=0
 ·subst J;have d:=aB (r _ _ f);clear f b r m;go_wp2_with fail;refine d.mono ?_;rintro e u ⟨rfl,H⟩;have C:=aB H;clear H d;go_wp2_with fail;refine C.mono ?_;rintro e V ⟨X,Y,rfl,E⟩;have D:=aB E;clear E C;go_wp2_with fail;refine D.mono ?_;rintro e Z ⟨s5,rfl,G⟩;have T:=aB G;clear G D;go_wp2
  go_ret2
  exact⟨_,rfl,T⟩
 ·have U:=aB (m _ _ _ J f);have O:¬(s:Int)=0:=by omega
  clear f b r m;go_wp2
  go_ret2
  exact⟨_,rfl,U⟩
def JS(w:World)(a q:Nat)(K B I:Option Addr)(G c1 H y J E:Nat)(t:TypeId)(z:Value)(R:Value->World->Prop)(A:Nat->Nat->World->Prop)
 (HF:Hid (∀W,Below w.heap.size w W->W.heap[w.heap.size]?=some (.cells #[.int .i64 a,.slice K G c1,.slice B H y,.slice I J E,.int .i64 q] 49 (0,0))->W.heap[w.heap.size+1]?=some (.cells #[.iface t z] 59 (0,0))->W.heap.size=w.heap.size+4->Calls prog 21 #[.func (.func 32) #[] #[.pointer (some ⟨w.heap.size+1,0,none⟩),.pointer (some ⟨w.heap.size,0,none⟩)]] W fun e M=>∃k l:Nat,e=.returned (.tuple #[.int .i64 k,.int .i64 l])/\Below W.heap.size W M/\A k l M))
 (HN:Hid (∀k l W o,k≠0->A k l W->Below w.heap.size W o->R (.agg #[.string (bs []),.int .i64 0,.int .i64 k,.int .i64 l]) o))
 (HE:Hid (∀l W o,A 0 l W->Fr (w.heap.size+3) W o->Calls prog 35 #[.agg #[.int .i64 a,.slice K G c1,.slice B H y,.slice I J E,.int .i64 q],.iface t z] o fun e M=>∃(s:ByteArray) (N:Nat),e=.returned (.tuple #[.string s,.int .i64 N])/\Below o.heap.size o M/\∀Q,Below w.heap.size M Q->R (.agg #[.string s,.int .i64 N,.int .i64 0,.int .i64 l]) Q)):
 Calls prog 16 #[.agg #[.int .i64 a,.slice K G c1,.slice B H y,.slice I J E,.int .i64 q],.iface t z] w fun e M=>∃v,e=.returned v/\R v M:=by
 have ag:=vE;obtain⟨m,c⟩:∃m,m=(((w.alloc (.cells #[.int .i64 a,.slice K G c1,.slice B H y,.slice I J E,.int .i64 q] 49)).alloc (.cells #[.iface t z] 59)).alloc (.cells #[.string ⟨#[]⟩,.int .i64 0,.int .i64 0,.int .i64 0] 63)).alloc (.cells #[.string ⟨#[]⟩,.int .i64 0,.int .i64 0,.int .i64 0] 63):=⟨_,rfl⟩;have D:Below w.heap.size w m:=by rw[c];exact((((co_ _ w).alloc (cy_ _) _).alloc (by simp) _).alloc (by simp;omega) _).alloc (by simp;omega) _
 have k0:m.heap[w.heap.size]?=some (.cells #[.int .i64 a,.slice K G c1,.slice B H y,.slice I J E,.int .i64 q] 49 (0,0)):=by rw[c];exact eA _ _ (by simp;omega) _ (eA _ _ (by simp;omega) _ (eA _ _ (by simp) _ (aO _ _ rfl _)))
 have k1:m.heap[w.heap.size+1]?=some (.cells #[.iface t z] 59 (0,0)):=by rw[c];exact eA _ _ (by simp) _ (eA _ _ (by simp) _ (aO _ _ (by simp) _))
 have k2:m.heap[w.heap.size+2]?=some (.cells #[.string ⟨#[]⟩,.int .i64 0,.int .i64 0,.int .i64 0] 63 (0,0)):=by rw[c];exact eA _ _ (by simp) _ (aO _ _ (by simp) _)
 have k3:m.heap[w.heap.size+3]?=some (.cells #[.string ⟨#[]⟩,.int .i64 0,.int .i64 0,.int .i64 0] 63 (0,0)):=by rw[c];exact aO _ _ (by simp) _
 have T:m.heap.size=w.heap.size+4:=by rw[c];simp
 have C:=aB (HF.out m D k0 k1 T);have P:=aB D;have X:=aB k0;have K1:=aB k1;have K2:=aB k2;have Y:=aB k3;have Z:=aB T;have HW:=aB c;clear D k0 k1 k2 k3 T c HF;go_enter func16,ntmps16;go_wp2_with fail;rw[show (((w.alloc (.cells #[.int .i64 a,.slice K G c1,.slice B H y,.slice I J E,.int .i64 q] 49)).alloc (.cells #[.iface t z] 59)).alloc (.cells #[.string ⟨#[]⟩,.int .i64 0,.int .i64 0,.int .i64 0] 63)).alloc (.cells #[.string ⟨#[]⟩,.int .i64 0,.int .i64 0,.int .i64 0] 63)=m from HW.out.symm]
 refine C.out.mono ?_;rintro e b ⟨k,l,rfl,d,V⟩;have T:=Z.out;have x:b.heap[w.heap.size]?=_:=(d.block _ (by omega)).trans X.out
 have U:b.heap[w.heap.size+1]?=_:=(d.block _ (by omega)).trans K1.out
 have g:b.heap[w.heap.size+2]?=_:=(d.block _ (by omega)).trans K2.out
 have f:b.heap[w.heap.size+3]?=_:=(d.block _ (by omega)).trans Y.out
 have ae:=aC f;have d0:b.cell? ⟨w.heap.size+3,0,none⟩=some (.string ⟨#[]⟩):=aA f rfl;have d1:b.cell? ⟨w.heap.size+3,1,none⟩=some (.int .i64 0):=aA f rfl;have d2:b.cell? ⟨w.heap.size+3,2,none⟩=some (.int .i64 0):=aA f rfl;have d3:b.cell? ⟨w.heap.size+3,3,none⟩=some (.int .i64 0):=aA f rfl;have f0:=aD (i:=0) f;have f1:=aD (i:=1) f;have f2:=aD (i:=2) f;have f3:=aD (i:=3) f;have e0:b.cell? ⟨w.heap.size+2,0,none⟩=some (.string ⟨#[]⟩):=aA g rfl;have e1:b.cell? ⟨w.heap.size+2,1,none⟩=some (.int .i64 0):=aA g rfl;have e2:b.cell? ⟨w.heap.size+2,2,none⟩=some (.int .i64 0):=aA g rfl;have e3:b.cell? ⟨w.heap.size+2,3,none⟩=some (.int .i64 0):=aA g rfl;have g0:=aD (i:=0) g;have g1:=aD (i:=1) g;have g2:=aD (i:=2) g;have g3:=aD (i:=3) g;have af:=aC g
 have H2b:Hid (∀u v:Value,((b.setCell ⟨w.heap.size+1+1+1,2,none⟩ u).setCell ⟨w.heap.size+1+1+1,3,none⟩ v).heap[w.heap.size+1+1]?=some (.cells #[.string ⟨#[]⟩,.int .i64 0,.int .i64 0,.int .i64 0] 63 (0,0))):=fun u v=>by
  rw[cm_ _ _ _ _ (by show w.heap.size+1+1≠w.heap.size+1+1+1;omega),cm_ _ _ _ _ (by show w.heap.size+1+1≠w.heap.size+1+1+1;omega)];exact g
 by_cases hk:k=0
 ·subst hk;have L:Fr (w.heap.size+3) b ((b.setCell ⟨w.heap.size+1+1+1,2,none⟩ (.int .i64 0)).setCell ⟨w.heap.size+1+1+1,3,none⟩ (.int .i64 l)):=((Fr.refl _ _).setCell (p:=⟨w.heap.size+1+1+1,2,none⟩) (cl_ rfl) _).setCell (p:=⟨w.heap.size+1+1+1,3,none⟩) (cl_ rfl) _;have S:=aB (HE.out l b _ V L);have S3:=aB (aK (aK f (i:=2) (u:=.int .i64 0)) (i:=3) (u:=.int .i64 l));have O:=aB L;have i0:b.cell? ⟨w.heap.size,0,none⟩=some (.int .i64 a):=aA x rfl;have i1:b.cell? ⟨w.heap.size,1,none⟩=some (.slice K G c1):=aA x rfl;have i2:b.cell? ⟨w.heap.size,2,none⟩=some (.slice B H y):=aA x rfl;have i3:b.cell? ⟨w.heap.size,3,none⟩=some (.slice I J E):=aA x rfl;have i4:b.cell? ⟨w.heap.size,4,none⟩=some (.int .i64 q):=aA x rfl;have i5:b.cell? ⟨w.heap.size+1,0,none⟩=some (.iface t z):=aA U rfl;have aa:=aC x;have ad:=aC U;clear x U g f V C HE HN P X K1 K2 Y HW Z L d e0 e1 e2 e3 g0 g1 g2 g3 f0 f1;go_wp2_with fail;refine S.out.mono ?_;rintro e j ⟨s,N,rfl,F,h2⟩;have ac:=O.out.size;have r:j.heap[w.heap.size+1+1+1]?=_:=(F.block _ (by omega)).trans S3.out
  have h:j.heap[w.heap.size+1+1]?=_:=(F.block _ (by omega)).trans (H2b.out _ _)
  have b0:j.cell? ⟨w.heap.size+1+1+1,0,none⟩=some (.string ⟨#[]⟩):=aA r rfl;have b1:j.cell? ⟨w.heap.size+1+1+1,1,none⟩=some (.int .i64 0):=aA r rfl;have b2:j.cell? ⟨w.heap.size+1+1+1,2,none⟩=some (.int .i64 0):=aA r rfl;have b3:j.cell? ⟨w.heap.size+1+1+1,3,none⟩=some (.int .i64 l):=aA r rfl;have j0:=aD (i:=0) r;have j1:=aD (i:=1) r;have e0:j.cell? ⟨w.heap.size+1+1,0,none⟩=some (.string ⟨#[]⟩):=aA h rfl;have e1:j.cell? ⟨w.heap.size+1+1,1,none⟩=some (.int .i64 0):=aA h rfl;have e2:j.cell? ⟨w.heap.size+1+1,2,none⟩=some (.int .i64 0):=aA h rfl;have e3:j.cell? ⟨w.heap.size+1+1,3,none⟩=some (.int .i64 0):=aA h rfl;have g0:=aD (i:=0) h;have g1:=aD (i:=1) h;have g2:=aD (i:=2) h;have g3:=aD (i:=3) h;have m2:=aC h;have m3:=aC r;have H2:=aB h2
  have T2:Hid (((j.setCell ⟨w.heap.size+1+1+1,0,none⟩ (.string s)).setCell ⟨w.heap.size+1+1+1,1,none⟩ (.int .i64 N)).heap[w.heap.size+1+1]?=some (.cells #[.string ⟨#[]⟩,.int .i64 0,.int .i64 0,.int .i64 0] 63 (0,0))):=by
   show _=_
   rw[cm_ _ _ _ _ (by show w.heap.size+1+1≠w.heap.size+1+1+1;omega),cm_ _ _ _ _ (by show w.heap.size+1+1≠w.heap.size+1+1+1;omega)];exact h
  clear h2 F h r S O S3 H2b i0 i1 i2 i3 i4 i5 d0 d1 d2 d3 f2 f3;go_wp2_with fail;have n:=aK (aK (aK (aK T2.out (i:=0) (u:=.string s)) (i:=1) (u:=.int .i64 N)) (i:=2) (u:=.int .i64 0)) (i:=3) (u:=.int .i64 l);refine bodyPost_ret (v:=.agg #[.string s,.int .i64 N,.int .i64 0,.int .i64 l]) (by simp[results,results16,go_sem,aA n (i:=0) rfl,aA n (i:=1) rfl,aA n (i:=2) rfl,aA n (i:=3) rfl]) rfl ⟨_,rfl,H2.out _ ?_⟩
  exact((((((co_ _ _).setCell (by show _<=w.heap.size+1+1+1;omega) _).setCell (by show _<=w.heap.size+1+1+1;omega) _).setCell (by show _<=w.heap.size+1+1;omega) _).setCell (by show _<=w.heap.size+1+1;omega) _).setCell (by show _<=w.heap.size+1+1;omega) _).setCell (by show _<=w.heap.size+1+1;omega) _
 ·have ab:¬(k:Int)=0:=by omega
  have H1:=aB fun o=>HN.out k l b o hk V
  clear x U g f V C HE HN P X K1 K2 Y HW Z d;go_wp2_with fail;have n:=aK (aK (aK (aK (H2b.out (.int .i64 k) (.int .i64 l)) (i:=0) (u:=.string ⟨#[]⟩)) (i:=1) (u:=.int .i64 0)) (i:=2) (u:=.int .i64 k)) (i:=3) (u:=.int .i64 l);refine bodyPost_ret (v:=.agg #[.string ⟨#[]⟩,.int .i64 0,.int .i64 k,.int .i64 l]) (by simp[results,results16,go_sem,aA n (i:=0) rfl,aA n (i:=1) rfl,aA n (i:=2) rfl,aA n (i:=3) rfl]) rfl ⟨_,rfl,H1.out _ ?_⟩
  exact((((((co_ _ _).setCell (by show _<=w.heap.size+1+1+1;omega) _).setCell (by show _<=w.heap.size+1+1+1;omega) _).setCell (by show _<=w.heap.size+1+1;omega) _).setCell (by show _<=w.heap.size+1+1;omega) _).setCell (by show _<=w.heap.size+1+1;omega) _).setCell (by show _<=w.heap.size+1+1;omega) _
def GF(w:aG)(p b:Nat)(a q:Nat)(u r j:Option Addr)(s c1 v l k m:Nat)(t:TypeId)(z:aQ)(R:World->Prop)
 (i:w.heap[p]?=some (.cells #[.iface t z] 59 (0,0))) (d:w.heap[b]?=some (.cells #[Iv0 a,.slice u s c1,.slice r v l,.slice j k m,Iv0 q] 49 (0,0)))
 (H:Hid (∀W,aV w W->Calls prog 34 #[.agg #[Iv0 a,.slice u s c1,.slice r v l,.slice j k m,Iv0 q]] W fun e h=>∃x n c,e=aZ (.slice x n c)/\Below w.heap.size w h/\Calls prog 33 #[.iface t z,.slice x n c] h fun e o=>e=aZ (.tuple #[])/\R o)):
 Calls prog 32 #[bH p,bH b] w fun e h=>e=aZ (.tuple #[])/\R h:=by
 have M:w.cell? (aH b 0)=some (Iv0 a):=aA d rfl;have E:w.cell? (aH b 1)=some (.slice u s c1):=aA d rfl;have F:w.cell? (aH b 2)=some (.slice r v l):=aA d rfl;have I:w.cell? (aH b 3)=some (.slice j k m):=aA d rfl;have C:w.cell? (aH b 4)=some (Iv0 q):=aA d rfl;have N:w.cell? (aH p 0)=some (.iface t z):=aA i rfl;have K:=aC d;have g:=aC i;have J:=aB i;clear d i;go_in
 go_wp2_with fail;go_region_law (go_simp;first|(go_at_call 34;refine(H _ (aV.drew _)).mono ?_;rintro e y ⟨x,n,c,rfl,f,A⟩;have G:=aB A;have L:y.cell? (aH p 0)=some (.iface t z):=(aA ((f.block p g).trans J) rfl);have B:p<y.heap.size:=cn_ g f.size;clear A f)|(go_at_call 33;refine G.mono ?_;rintro e O ⟨rfl,D⟩))
 all_goals
  go_wp2
  go_end0;exact⟨rfl,D⟩
def BY(w:aG)(p b:Nat)(a q:Nat)(A v m:Option Addr)(y c1 B r o s:Nat)(t:TypeId)(z:aQ)(k l:Nat)(R:World->Prop)
 (j:w.heap[p]?=some (.cells #[.iface t z] 59 (0,0))) (f:w.heap[b]?=some (.cells #[Iv0 a,.slice A y c1,.slice v B r,.slice m o s,Iv0 q] 49 (0,0)))
 (L:Hid (∀W,aV w W->Calls prog 34 #[.agg #[Iv0 a,.slice A y c1,.slice v B r,.slice m o s,Iv0 q]] W fun e i=>∃x n c,e=aZ (.slice x n c)/\Below w.heap.size w i/\Calls prog 33 #[.iface t z,.slice x n c] i fun e u=>e=cT k l/\R u)):
 Calls prog 32 #[bH p,bH b] w fun e i=>e=cT k l/\R i:=by
 have P:w.cell? (aH b 0)=some (Iv0 a):=aA f rfl;have H:w.cell? (aH b 1)=some (.slice A y c1):=aA f rfl;have J:w.cell? (aH b 2)=some (.slice v B r):=aA f rfl;have M:w.cell? (aH b 3)=some (.slice m o s):=aA f rfl;have F:w.cell? (aH b 4)=some (Iv0 q):=aA f rfl;have Q:w.cell? (aH p 0)=some (.iface t z):=aA j rfl;have N:=aC f;have h:=aC j;have I:=aB j;clear f j;go_in
 go_wp2_with fail;go_region_law (first|(go_simp;go_at_call 34;refine(L _ (aV.drew _)).mono ?_;rintro e C ⟨x,n,c,rfl,g,D⟩;have K:=aB D;have O:C.cell? (aH p 0)=some (.iface t z):=(aA ((g.block p h).trans I) rfl);have E:p<C.heap.size:=cn_ h g.size;clear D g)|(refine LR (.tuple #[]) ?_ ?_;(focus go_simp;go_at_call 33;refine K.mono ?_;rintro e S ⟨rfl,G⟩;exact⟨rfl,rfl,G⟩);intro d))
 all_goals exact d.out.elim
def VH(w:aG)(sb:Nat)(d:ByteArray)(a q:Nat)(y r j:Option Addr)(x c1 B n m o:Nat)(P:Value->World->Prop)(A:TypeId->Value->World->Prop)
 (g:Hid (Calls prog 15 #[.string d] w fun e b=>(∃k l:Nat,k≠0/\e=aZ (.tuple #[.nilIface,Iv0 k,Iv0 l])/\P (.tuple #[.string (bs []),Iv0 0,Iv0 k,Iv0 l]) b)\/∃t z,e=aZ (.tuple #[.iface t z,Iv0 0,Iv0 0])/\A t z b))
 (f:Hid (∀t z W,A t z W->W.cell? (aH sb 0)=some (Iv0 a)/\W.cell? (aH sb 1)=some (.slice y x c1)/\W.cell? (aH sb 2)=some (.slice r B n)/\W.cell? (aH sb 3)=some (.slice j m o)/\W.cell? (aH sb 4)=some (Iv0 q)/\sb<W.heap.size/\
   Calls prog 16 #[.agg #[Iv0 a,.slice y x c1,.slice r B n,.slice j m o,Iv0 q],.iface t z] W fun e b=>∃(s:ByteArray) (h k l:Nat),e=aZ (.agg #[.string s,Iv0 h,Iv0 k,Iv0 l])/\∀C,Below b.heap.size b C->P (.tuple #[.string s,Iv0 h,Iv0 k,Iv0 l]) C)):
 Calls prog 8 #[bH sb,.string d] w fun e b=>∃v,e=aZ v/\P v b:=by
 go_in
 go_wp2_with fail;refine g.mono ?_;rintro e L (⟨k,l,M,rfl,c⟩|⟨t,z,rfl,c⟩)
 ·have H:=aB c;have F:¬(k:Int)=0:=by omega
  clear c g f;go_wp2
  refine bodyPost_ret (by simp[results,results8,go_sem];rfl) rfl ?_
  exact⟨_,rfl,H⟩
 ·obtain⟨G,K,D,I,J,N,i⟩:=f _ _ _ c;have u:=aB i;clear c i g f;go_wp2_with fail;refine u.mono ?_;rintro e O ⟨s,h,k,l,rfl,p⟩;have E:=aB p;clear p u G K D I J;go_wp2_with fail;go_quiet (fail)
  go_wp2
  refine bodyPost_ret (by simp[results,results8,go_sem];rfl) rfl ?_
  exact⟨_,rfl,E _ (((co_ _ _).alloc cL _).trans ((aV.drewN _ _).below.mono (by simp)))⟩
def UJ(w:aG)(sb gf:Nat)(L:Nat->World->Prop)(P:World->Prop)(S:Nat->World->Prop)(N:Nat->TypeId->Value->Nat->World->Prop)(v:Nat)
 (B:Hid (Calls prog 64 #[bH sb] w fun e b=>e=aZ (bH gf)/\L v b))
 (F:Hid (∀k W,L k W->∃(f:Nat) (fb:Nat) (y:Option Addr) (n c:Nat),W.cell? (aH gf 1)=some (Iv0 f)/\W.cell? (aH gf 0)=some (bH fb)/\W.cell? (aH fb 1)=some (.slice y n c)/\gf<W.heap.size/\fb<W.heap.size/\(n<=f->∀q,P (W.drewN q))/\(f<n->∃j,k=j+1/\∀q,Calls prog 98 #[bH gf] (W.drewN q) fun e b=>∃t z a,e=aZ (.iface t z)/\Disp t a/\N j t z a b)))
 (E:Hid (∀j t z a W,N j t z a W->Calls prog a #[z,bH sb] W fun e b=>(e=aZ (.tuple #[])/\L j b)\/(∃q,e=fR q/\S q b))):
 Calls prog 62 #[bH sb] w fun e b=>(e=aZ (.tuple #[])/\P b)\/(∃q,e=fR q/\S q b):=by
 go_in
 go_wp2_with fail;refine B.mono ?_;rintro e O ⟨rfl,h⟩;have C:=aB h;clear h B;go_wp2_with fail;go_loopg [] v (fun gk wr=>L gk wr)
 case atStart=>exact C
 case round=>
  have d:=hrel;clear hrel;obtain⟨f,fb,y,n,c,M,K,J,Q,T,o,r⟩:=F _ _ d;by_cases h:n<=f
  ·have H:=aB (o h);have G:¬(f:Int)<(n:Int):=by omega
   clear d o r;go_wp2_with fail;go_quiet (fail)
   go_wp2_with fail;exact⟨rfl,_,results_none (by rfl) _ _ _,cl_ ⟨rfl,H _⟩⟩
  ·obtain⟨j,rfl,x⟩:=r (by omega)
   have g:=aB x;have G:(f:Int)<(n:Int):=by omega
   clear d o r x;go_wp2_with fail;go_quiet (fail)
   go_wp2_with fail;refine(g _).mono ?_;rintro e A ⟨t,z,a,rfl,l,u⟩;have s:=aB (E _ _ _ _ _ u);have p:=l.1 z A;have m:=l.2 z (bH sb) A;clear u l g;go_wp2_with fail;refine s.mono ?_;rintro e I (⟨rfl,i⟩|⟨q,rfl,i⟩)
   ·have D:=aB i;clear i p m;go_wp2
    go_roundg j
    case measure=>omega
    case rel=>exact D
   ·go_wp2_with fail;exact⟨rfl,ck_ ⟨q,rfl,i⟩⟩
section
variable {sh:Bool} {fp:eQ} {F:bX} {base:Nat} {w:aG} {sb gf cap:Nat} {t0 tv outv s0:aQ} {fvs:List FVal} {f:aJ} {tape:List Int} {out:cN}
def YM(sh:Bool)(fp:eQ)(F0:bX)(base sb gf:Nat)(t0 s0:aQ)(own0:List Nat)(w0:aG)(tape:List Int)(out:cN)(f:aJ)(W:aG):Prop:=
 ∃F cap tv outv fvs,Ext F0 F w0.heap.size/\dA sh fp F base W sb gf cap t0 tv outv s0 fvs ⟨[]++[f],tape,out⟩/\Kept own0 w0 W/\(∀x∈aR sh sb gf outv fvs,x∈own0\/w0.heap.size<=x)
def YM.same{a:List Nat}{W g:aG}(h:YM sh fp F base sb gf t0 s0 a w tape out f W)(e:aV W g):YM sh fp F base sb gf t0 s0 a w tape out f g:=by
 obtain⟨l,c,i,b,d,m,j,n,k⟩:=h;exact⟨l,c,i,b,d,m,j.grow e.below dX (fun _ h=>cl_ h),n.trans (Kept.of_below (own:=[]) e.below) (fun x o=>by simp at o),k⟩
def A9{k:Nat}{r:aJ × Nat}(h:dA sh fp F base w sb gf cap t0 tv outv s0 fvs ⟨[]++[f],tape,out⟩)(C:base<=w.heap.size)(o:pJ f)(hk:f.fn.code.length-f.next<=k)(c:fT k f=r):
 Calls prog 62 #[bH sb] w fun e E=>p9 r.2 e/\gB sh fp F base sb gf t0 s0 (aR sh sb gf outv fvs) w ⟨[]++[r.1],tape,out⟩ E:=by
 generalize M:aR sh sb gf outv fvs=a
 have s:∀W,YM sh fp F base sb gf t0 s0 a w tape out r.1 W->gB sh fp F base sb gf t0 s0 a w ⟨[]++[r.1],tape,out⟩ W:=fun W D=>by
  obtain⟨H,cap,tv,outv,fvs,N,A,I,O⟩:=D;exact⟨I,H,cap,tv,outv,fvs,N,A,O⟩
 have h0:YM sh fp F base sb gf t0 s0 a w tape out f w:=⟨F,cap,tv,outv,fvs,Ext.refl _ _,h,Kept.refl _ _,fun y hy=>cl_ (by rw[<-M];exact hy)⟩
 refine(UJ w sb gf (fun k W=>∃f,YM sh fp F base sb gf t0 s0 a w tape out f W/\pJ f/\f.fn.code.length-f.next<=k/\fT k f=r)
  (fun W=>r.2=0/\gB sh fp F base sb gf t0 s0 a w ⟨[]++[r.1],tape,out⟩ W) (fun q W=>q=r.2/\r.2≠0/\gB sh fp F base sb gf t0 s0 a w ⟨[]++[r.1],tape,out⟩ W)
  (fun j t z p W=>∃(H:bX) (outv:aQ) (fvs:List FVal) (g:aJ) (i:aI),(Ext F H w.heap.size/\Kept a w W/\(∀x∈aR sh sb gf outv fvs,x∈a\/w.heap.size<=x))/\(((aL i g).2≠0/\r=aL i g)\/((aL i g).2=0/\pJ (aL i g).1/\(aL i g).1.fn.code.length-(aL i g).1.next<=j/\fT j (aL i g).1=r))/\
    Calls prog p #[z,bH sb] W (iV sh fp H base sb gf t0 s0 (aR sh sb gf outv fvs) W [] tape out (aL i g)))
  k ?_ (fun k W hL=>?_) (fun j t z p W hN=>?_)).mono ?_
 ·have Q:=h.count;have l:=h.blk;rw[Q] at l;refine(oN sb gf 0 cap w (aA l rfl) (by omega)).mono ?_
  rintro e E ⟨L,q,rfl⟩;exact⟨L,f,h0.same (aV.drewN _ _),o,hk,c⟩
 ·obtain⟨f,D,o,hk,c⟩:=hL;have aa:=D;obtain⟨H,cap,tv,outv,fvs,N,A,I,O⟩:=D;obtain⟨fb,v,ag,rfl,X,hv,l,m,af,k0,k1, -, -, -, -⟩:=A.top;obtain rfl:fb=[]:=cF_ X;obtain⟨T,gc,cp,ah,e1,e2,e3,e4,e5,e6⟩:=hv.fn;rw[e1] at k0;rw[hv.nx] at k1;refine⟨f.next,T,some (aH gc 0),f.fn.code.length,cp,aA m k1,aA m k0,aA e3 rfl,aC m,aC e3,fun hn q=>?_,fun hn=>?_⟩
  ·rw[wT hn] at c;subst c;exact⟨rfl,s _ (aa.same (aV.drewN _ _))⟩
  ·obtain⟨i,g,hf,ad,ha,hs,ae⟩:=o.step hn;obtain⟨j,rfl⟩:∃j,k=j+1:=⟨k-1,by omega⟩
   refine⟨j,rfl,fun q=>?_⟩
   have hS:=aV.drewN W q;have V:=A.grow hS.below dX (fun _ h=>cl_ h)
   have ac:Kept a w (W.drewN q):=I.trans (Kept.of_below (own:=[]) hS.below) (fun x o=>by simp at o)
   refine(V.fetched hf (by have:=o.len;omega)).mono ?_
   rintro e E ⟨u,d,L,q1,q2,q3,q4⟩;have J:Kept a w E:=ac.trans q3 O;obtain⟨t',z,p,U,P, -,S⟩:=Z1 ha q2 (by simp) (cw_ C J.size) q1
   refine⟨t',z,p,by rw[L,U],P,H,outv,d,g,i,⟨N,J,fun x o=>O x (by rw[<-q4];exact o)⟩,?_,S⟩
   rw[hs j] at c;by_cases n:(aL i g).2=0
   ·rw[if_pos n] at c;obtain⟨n1,n2⟩:=ae n;exact ck_ ⟨n,n1,by rw[jL,ad];omega,c⟩
   ·rw[if_neg n] at c;exact cl_ ⟨n,c.symm⟩
 ·obtain⟨H,outv,fvs,g,i,⟨N,A,I⟩,c,Q⟩:=hN;refine Q.mono ?_;rintro e E ⟨L,ab,G,K,Y,B,d,U,P,S⟩
  have D:YM sh fp F base sb gf t0 s0 a w tape out (aL i g).1 E:=⟨G,K,Y,B,d,N.trans U A.size,P,A.trans ab I,fun x o=>by
   rcases S x o with b|b
   ·exact I x b
   ·exact ck_ (cw_ A.size b)⟩
  rcases L with ⟨n,rfl⟩|⟨n,rfl⟩
  ·rcases c with ⟨b,_⟩|⟨_,b⟩
   ·exact absurd n b
   ·exact cl_ ⟨rfl,_,D,b⟩
  ·rcases c with ⟨_,rfl⟩|⟨b,_⟩
   ·exact ck_ ⟨_,rfl,rfl,n,s _ D⟩
   ·exact absurd b n
 ·rintro e E (⟨rfl,b,Z⟩|⟨q,rfl,rfl,b,Z⟩)
  ·exact⟨cl_ ⟨b,rfl⟩,Z⟩
  ·exact⟨ck_ ⟨b,rfl⟩,Z⟩
end
end Go.Proofs.YtmjbnmpamlainaaGreatDoor
