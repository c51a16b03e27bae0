/- Contracts of the program: the store of states: where a key stands. -/
import Derived.Test.YtblbkfdhjfppkaaGreatDoorP21
set_option maxRecDepth 100000
set_option maxHeartbeats 4000000
namespace Go.Proofs.YtblbkfdhjfppkaaGreatDoor
open Hs
open Tryz(prog)
open Go.RowKit
def qW(x y:Int):Int:=if x<y then -1 else if x>y then 1 else 0
theorem V7{x y:Int}(h:¬x=y):¬qW x y=0:=by
 unfold qW;split
 ·omega
 ·split<;>omega
theorem II(x:Int)(w:World):Calls prog 280 #[.int .i64 x] w fun e w'=>e=.returned (.bool false)/\w'=w:=by
 go_enter Tryz.func280,Tryz.ntmps280;go_wp2_with fail;go_ret;exact⟨by simp,rfl⟩
theorem QQ(x y:Int)(w:World):Calls prog 225 #[.int .i64 x,.int .i64 y] w fun e w'=>e=.returned (.int .i64 (qW x y))/\w'=w:=by
 go_enter Tryz.func225,Tryz.ntmps225;go_wp2_with fail;refine(II x w).mono ?_;rintro e w1 ⟨rfl,rfl⟩;go_wp2_with fail;refine(II y w1).mono ?_;rintro e w2 ⟨rfl,rfl⟩;by_cases h1:x<y
 ·have hv:Hid (qW x y= -1):=by show _=_;unfold qW;rw[if_pos h1]
  go_wp2_with fail;go_ret;exact⟨by rw[hv.out];rfl,rfl⟩
 ·by_cases h2:y<x
  ·have hv:Hid (qW x y=1):=by show _=_;unfold qW;rw[if_neg h1,if_pos h2]
   go_wp2_with fail;go_ret;exact⟨by rw[hv.out];rfl,rfl⟩
  ·have hv:Hid (qW x y=0):=by show _=_;unfold qW;rw[if_neg h1,if_neg h2]
   go_wp2_with fail;go_ret;exact⟨by rw[hv.out];rfl,rfl⟩
theorem IS(k key:Int)(a b c d e:Value)(w:World)(hb:∃x l c,b=.slice x l c)(hc:∃x l d,c=.slice x l d)(hd:∃x l c,d=.slice x l c)(ha:∃n,a=.int .i64 n)(he:∃n,e=.int .i64 n):
 Calls prog 224 #[.agg #[.int .i64 k,a,b,c,d,e],.int .i64 key] w fun en w'=>en=.returned (.int .i64 (qW k key))/\w'=w.alloc (.cells #[.int .i64 k,a,b,c,d,e] 265):=by
 obtain⟨_,_,_,rfl⟩:=hb;obtain⟨_,_,_,rfl⟩:=hc;obtain⟨_,_,_,rfl⟩:=hd;obtain⟨_,rfl⟩:=ha;obtain⟨_,rfl⟩:=he;go_enter Tryz.func224,Tryz.ntmps224;go_wp2_with fail;refine(QQ k key _).mono ?_;rintro e w1 ⟨rfl,rfl⟩;go_wp2_with fail;go_ret;exact⟨rfl,rfl⟩
theorem Z2(a b:Value)(W:World):(callFunc 224 #[a,b]).run prog W=.ok (.enter 224 #[a,b]) W:=by kernel_rfl
structure Ent where
 k:Int
 a:Int
 b:Value
 c:Value
 d:Value
 e:Int
def Ent.cells(x:Ent):List Value:=[.int .i64 x.k,.int .i64 x.a,x.b,x.c,x.d,.int .i64 x.e]
def jC:List Ent->List Value
 |[]=>[]
 |x::l=>x.cells++jC l
structure Ent.Ok(x:Ent):Prop where
 b:∃y l c,x.b=.slice y l c
 c:∃y l c,x.c=.slice y l c
 d:∃y l c,x.d=.slice y l c
def N3(w:World)(g:Nat)(es:List Ent):Prop:=∀i (h:i<es.length),es[i].Ok/\w.cell? ⟨g,i*6,none⟩=some (.int .i64 es[i].k)/\w.cell? ⟨g,i*6+1,none⟩=some (.int .i64 es[i].a)/\w.cell? ⟨g,i*6+2,none⟩=some es[i].b/\w.cell? ⟨g,i*6+3,none⟩=some es[i].c/\w.cell? ⟨g,i*6+4,none⟩=some es[i].d/\w.cell? ⟨g,i*6+5,none⟩=some (.int .i64 es[i].e)
structure Found(es:List Ent)(key:Int)(at_:Nat)(found:Bool):Prop where
 le:at_<=es.length
 lo:∀i (h:i<es.length),i<at_->es[i].k<key
 hi:∀i (h:i<es.length),at_<=i->key<=es[i].k
 fnd:found=true↔∃h:at_<es.length,es[at_].k=key
theorem SM(g cap:Nat)(es:List Ent)(key:Int)(w:World)(hl:es.length<=100000)(hg:g<w.heap.size)(he:N3 w g es)(hs:∀i j (hi:i<es.length) (hj:j<es.length),i<=j->es[i].k<=es[j].k):
 Calls prog 223 #[.slice (some ⟨g,0,none⟩) es.length cap,.int .i64 key,.func (.func 224) #[] #[]] w fun e w'=>∃at_ fd,e=.returned (.tuple #[.int .i64 (at_:Nat),.bool fd])/\Below w.heap.size w w'/\Found es key at_ fd:=by
 have HE:=aB he;have HS:=aB hs;clear he hs;have hcf:=Z2;go_enter Tryz.func223,Tryz.ntmps223;go_wp2_with fail;go_loopg [9,10,11] es.length (fun gk iv jv _ wr=>∃i j:Nat,iv=.int .i64 i/\jv=.int .i64 j/\i<=j/\j<=es.length/\j-i<=gk/\Below w.heap.size w wr/\(∀k (h:k<es.length),k<i->es[k].k<key)/\(∀k (h:k<es.length),j<=k->key<=es[k].k))
 case atStart=>exact⟨0,es.length,rfl,rfl,by omega,by omega,by omega,m8 _ _,fun k h h'=>by omega,fun k h h'=>by omega⟩
 case round=>
  obtain⟨i,j,rfl,rfl,hij,hj,hgk,hb,hlo,hhi⟩:=hrel;by_cases hlt:i<j
  ·have HH:=aB (And.intro hlo hhi);have hm:(i+j)/2<es.length:=by omega
   obtain⟨o0,o1,o2,o3,o4,o5,o6⟩:=HE.out _ hm;have cel:∀o u,w.cell? ⟨g,o,none⟩=some u->wr.cell? ⟨g,o,none⟩=some u:=fun o u hu=>by rw[hb.cell (p:=⟨g,o,none⟩) hg];exact hu
   have o1:=cel _ _ o1;have o2:=cel _ _ o2;have o3:=cel _ _ o3;have o4:=cel _ _ o4;have o5:=cel _ _ o5;have o6:=cel _ _ o6;have hgr:g<wr.heap.size:=m9 hg hb.size;have HB:=aB hb;have HSM:Hid (∀k (h:k<es.length),(k<=(i+j)/2->es[k].k<=es[(i+j)/2].k)/\((i+j)/2<=k->es[(i+j)/2].k<=es[k].k)):=fun k h=>⟨fun h'=>HS.out _ _ h hm h',fun h'=>HS.out _ _ hm h h'⟩
   obtain⟨y1,l1,d1,f1⟩:=o0.b;obtain⟨y2,l2,d2,f2⟩:=o0.c;obtain⟨y3,l3,d3,f3⟩:=o0.d;rw[f1] at o3;rw[f2] at o4;rw[f3] at o5;generalize es[(i+j)/2].k=mk at*;generalize es[(i+j)/2].a=ma at*;generalize es[(i+j)/2].e=me at*;clear hlo hhi hb f1 f2 f3 cel;have HF:=aB (IS mk key (.int .i64 ma) (.slice y1 l1 d1) (.slice y2 l2 d2) (.slice y3 l3 d3) (.int .i64 me) wr ⟨_,_,_,rfl⟩ ⟨_,_,_,rfl⟩ ⟨_,_,_,rfl⟩ ⟨_,rfl⟩ ⟨_,rfl⟩);go_wp2_with fail;refine HF.out.mono ?_;rintro e w1 ⟨rfl,rfl⟩;have HB1:=aB (HB.out.trans (((m8 _ wr).alloc (l9 _) (.cells #[.int .i64 mk,.int .i64 ma,.slice y1 l1 d1,.slice y2 l2 d2,.slice y3 l3 d3,.int .i64 me] 265)).mono HB.out.size));clear HB HF o1 o2 o3 o4 o5 o6;by_cases hk:mk<key
   ·have hv:qW mk key= -1:=by unfold qW;rw[if_pos hk]
    rw[hv];have HK:=aB hk;clear hk hv;go_wp2_with fail;go_roundg ((gk-1))
    case measure=>omega
    case rel=>
     refine⟨(i+j)/2+1,j,by go_num,rfl,by omega,hj,by omega,HB1.out,fun k h h'=>?_,HH.out.2⟩
     exact Int.lt_of_le_of_lt ((HSM.out k h).1 (by omega)) HK.out
   ·have hv:0<=qW mk key:=by unfold qW;rw[if_neg hk];split<;>omega
    have HK:=aB hk;clear hk;go_wp2_with fail;go_roundg (gk-1)
    case measure=>omega
    case rel=>
     refine⟨i,(i+j)/2,rfl,by go_num,by omega,by omega,by omega,HB1.out,HH.out.1,fun k h h'=>?_⟩
     have:=(HSM.out k h).2 h';have:=HK.out;omega
  ·obtain rfl:i=j:=by omega
   by_cases hn:i<es.length
   ·have HH:=aB (And.intro hlo hhi);obtain⟨o0,o1,o2,o3,o4,o5,o6⟩:=HE.out _ hn;have cel:∀o u,w.cell? ⟨g,o,none⟩=some u->wr.cell? ⟨g,o,none⟩=some u:=fun o u hu=>by rw[hb.cell (p:=⟨g,o,none⟩) hg];exact hu
    have o1:=cel _ _ o1;have o2:=cel _ _ o2;have o3:=cel _ _ o3;have o4:=cel _ _ o4;have o5:=cel _ _ o5;have o6:=cel _ _ o6;have hgr:g<wr.heap.size:=m9 hg hb.size;have HB:=aB hb;obtain⟨y1,l1,d1,f1⟩:=o0.b;obtain⟨y2,l2,d2,f2⟩:=o0.c;obtain⟨y3,l3,d3,f3⟩:=o0.d;rw[f1] at o3;rw[f2] at o4;rw[f3] at o5;obtain⟨mk,hmk⟩:∃mk,mk=es[i].k:=⟨_,rfl⟩;rw[<-hmk] at o1;have HMK:=aB hmk;generalize es[i].a=ma at*;generalize es[i].e=me at*;clear hlo hhi hb f1 f2 f3 cel hmk o0 HE HS;have HF:=aB (IS mk key (.int .i64 ma) (.slice y1 l1 d1) (.slice y2 l2 d2) (.slice y3 l3 d3) (.int .i64 me) wr ⟨_,_,_,rfl⟩ ⟨_,_,_,rfl⟩ ⟨_,_,_,rfl⟩ ⟨_,rfl⟩ ⟨_,rfl⟩);go_wp2_with fail;refine HF.out.mono ?_;rintro e w1 ⟨rfl,rfl⟩;have HB1:=aB (HB.out.trans (((m8 _ wr).alloc (l9 _) (.cells #[.int .i64 mk,.int .i64 ma,.slice y1 l1 d1,.slice y2 l2 d2,.slice y3 l3 d3,.int .i64 me] 265)).mono HB.out.size));clear HB HF o1 o2 o3 o4 o5 o6;by_cases hk:mk=key
    ·have hv:qW mk key=0:=by unfold qW;rw[if_neg (by omega),if_neg (by omega)]
     rw[hv];have HK:=aB hk;clear hk hv;go_wp2_with fail;go_ret2
     refine⟨i,true,rfl,HB1.out,aX_ hn,HH.out.1,HH.out.2,?_⟩;simp only[true_iff];exact⟨hn,HMK.out.symm.trans HK.out⟩
    ·have hv:(qW mk key==0)=false:=by simpa using V7 hk
     have HK:=aB hk;clear hk;go_wp2_with fail;go_ret2
     refine⟨i,false,rfl,HB1.out,aX_ hn,HH.out.1,HH.out.2,?_⟩;simp only[Bool.false_eq_true,false_iff];rintro⟨_,e⟩;exact HK.out (HMK.out.trans e)
   ·have HH:=aB (And.intro hlo hhi);have HB:=aB hb;clear hlo hhi hb HE HS;go_wp2_with fail;go_ret2
    refine⟨i,false,rfl,HB.out,by omega,HH.out.1,HH.out.2,?_⟩
    simp only[Bool.false_eq_true,false_iff];rintro⟨h,_⟩;omega
theorem SL(key:Int)(w:World):
 Calls prog 223 #[.slice none 0 0,.int .i64 key,.func (.func 224) #[] #[]] w fun e w'=>e=.returned (.tuple #[.int .i64 0,.bool false])/\w'=w:=by
 go_enter Tryz.func223,Tryz.ntmps223;go_wp2_with fail;go_loopg [9,10,11] 0 (fun _ iv jv _ wr=>iv=.int .i64 0/\jv=.int .i64 0/\wr=w)
 case atStart=>exact⟨rfl,rfl,rfl⟩
 case round=>
  obtain⟨rfl,rfl,rfl⟩:=hrel;go_wp2_with fail;go_ret2
  exact⟨rfl,rfl⟩
theorem T0:(prog.info? 265).map (fun i=>(i.zero,i.size,i.bytes))=some (some (.agg #[.int .i64 0,.int .i64 0,.slice none 0 0,.slice none 0 0,.slice none 0 0,.int .i64 0]),6,96):=by kernel_rfl
theorem IR(w:World)(sb:Nat)(x:Option Addr)(n c:Nat)(key:Int)(P:Int->Bool->World->Prop)(hc:w.cell? ⟨sb,5,none⟩=some (.slice x n c))
 (HS:Hid (Calls prog 223 #[.slice x n c,.int .i64 key,.func (.func 224) #[] #[]] w fun e w'=>∃a f,e=.returned (.tuple #[.int .i64 a,.bool f])/\P a f w')):
 Calls prog 162 #[.pointer (some ⟨sb,5,none⟩),.int .i64 key] w fun e w'=>∃a f,e=.returned (.tuple #[.int .i64 a,.bool f])/\P a f w':=by
 go_enter Tryz.func162,Tryz.ntmps162;go_wp2_with fail;refine HS.out.mono ?_;rintro e w1 ⟨a,f,rfl,h1⟩;have H1:=aB h1;clear h1;go_wp2_with fail;go_ret2
 exact⟨a,f,rfl,H1.out⟩
theorem CT(w:World)(sb g n cap at_:Nat)(key a e:Int)(x1 x2 x3:Option Addr)(n1 n2 n3 c1 c2 c3:Nat)(P Q:World->Prop)(hat:at_<n)
 (HF:Hid (Calls prog 162 #[.pointer (some ⟨sb,5,none⟩),.int .i64 key] (w.alloc (.cells #[.int .i64 a,.slice x1 n1 c1,.slice x2 n2 c2,.slice x3 n3 c3,.int .i64 e] 108)) fun en w'=>en=.returned (.tuple #[.int .i64 at_,.bool true])/\Q w'))
 (HQ:Hid (∀W,Q W->sb<W.heap.size/\W.cell? ⟨sb,5,none⟩=some (.slice (some ⟨g,0,none⟩) n cap)/\g<W.heap.size/\(∃cur,W.heap[g]?=some (.cells cur 265 (0,0))/\at_*6+5<cur.size)/\W.heap[w.heap.size]?=some (.cells #[.int .i64 a,.slice x1 n1 c1,.slice x2 n2 c2,.slice x3 n3 c3,.int .i64 e] 108 (0,0))/\
   ∀W',aY (((((W.setCell ⟨g,at_*6+1,none⟩ (.int .i64 a)).setCell ⟨g,at_*6+2,none⟩ (.slice x1 n1 c1)).setCell ⟨g,at_*6+3,none⟩ (.slice x2 n2 c2)).setCell ⟨g,at_*6+4,none⟩ (.slice x3 n3 c3)).setCell ⟨g,at_*6+5,none⟩ (.int .i64 e)) W'->P W')):
 Calls prog 126 #[.pointer (some ⟨sb,5,none⟩),.int .i64 key,.agg #[.int .i64 a,.slice x1 n1 c1,.slice x2 n2 c2,.slice x3 n3 c3,.int .i64 e]] w fun en w'=>en=.returned (.tuple #[])/\P w':=by
 go_enter Tryz.func126,Tryz.ntmps126;go_wp2_with fail;refine HF.out.mono ?_;rintro en w1 ⟨rfl,h1⟩;obtain⟨q1,q2,q3,⟨cur,q4,q5⟩,q6,q7⟩:=HQ.out _ h1;have HP:=aB q7;have k0:=aA q6 (i:=0) rfl;have k1:=aA q6 (i:=1) rfl;have k2:=aA q6 (i:=2) rfl;have k3:=aA q6 (i:=3) rfl;have k4:=aA q6 (i:=4) rfl;have hl:=aD q6;have hu:∀o,o<=at_*6+5->∃u,w1.cell? ⟨g,o,none⟩=some u:=fun o ho=>⟨cur[o]'(by omega),by rw[cell_of_row w1 g o cur _ _ q4];exact n9 (by omega)⟩
 obtain⟨u1,m1⟩:=hu (at_*6+1) (by omega)
 obtain⟨u2,m2⟩:=hu (at_*6+2) (by omega)
 obtain⟨u3,m3⟩:=hu (at_*6+3) (by omega)
 obtain⟨u4,m4⟩:=hu (at_*6+4) (by omega)
 obtain⟨u5,m5⟩:=hu (at_*6+5) (by omega)
 have z1:=aE q4 (i:=at_*6+1);have z2:=aE q4 (i:=at_*6+2);have z3:=aE q4 (i:=at_*6+3);have z4:=aE q4 (i:=at_*6+4);have z5:=aE q4 (i:=at_*6+5);have e1:(0:Int)<=(at_:Int):=by omega
 have e2:(at_:Int)<(n:Int):=by omega
 clear h1 q4 q5 q6 q7 hu HQ;go_wp2_with fail;go_region
 all_goals
  go_wp2_with fail;go_end0;exact⟨rfl,HP.out _ (aY.drew _)⟩
theorem UD(w:World)(base b n:Nat)(v:Value)(xs:List Value)(key:Int)(hown:w.ownsRow base 265 6 v n xs)(hb:w.heap[b]?=some (.cells #[.int .i64 key,.int .i64 0,.slice none 0 0,.slice none 0 0,.slice none 0 0,.int .i64 0] 265 (0,0)))(hn:n<=100000)(hbase:base<=w.heap.size):
 Calls prog 176 #[v,.int .i64 n,.slice (some ⟨b,0,none⟩) 1 1] w fun e w'=>∃g cap,e=.returned (.slice (some ⟨g,0,none⟩) (n+1) cap)/\w'.ownsRow base 265 6 (.slice (some ⟨g,0,none⟩) (n+1) cap) (n+1) (xs++[.int .i64 key,.int .i64 0,.slice none 0 0,.slice none 0 0,.slice none 0 0,.int .i64 0])/\w.grownBy w' v.ownBlock/\(v.ownBlock=some g\/g=w.heap.size):=by
 obtain⟨i0,hi,hz0,hz1,hz2⟩:=info_parts T0;obtain⟨x,c,rfl⟩:=cV hown;have HO:=aB hown;have HN:=aB (World.news_of_block hb);have hone:∀v∈([.int .i64 key,.int .i64 0,.slice none 0 0,.slice none 0 0,.slice none 0 0,.int .i64 0]:List Value),v.oneCell'=true:=fun v hv=>by simp at hv;rcases hv with rfl|rfl|rfl|rfl<;>rfl
 have HONE:=aB hone
 have hx:(x=none/\n=0/\c=0)\/(∃g,x=some ⟨g,0,none⟩/\n<c)\/∃g,x=some ⟨g,0,none⟩/\c=n:=by
  rcases hown.2 with ⟨r1,r2⟩|⟨g,cap,cur,r1,r2,r3,r4,_⟩
  ·cases r1;exact Or.inl ⟨rfl,rfl,rfl⟩
  ·cases r1;rcases as_ r4 with e|e
   ·exact Or.inr (Or.inr ⟨g,rfl,e.symm⟩)
   ·exact Or.inr (Or.inl ⟨g,rfl,e⟩)
 clear hown hone hb;rcases hx with ⟨rfl,rfl,rfl⟩|⟨g0,rfl,hnc⟩|⟨g0,rfl,rfl⟩
 all_goals
  go_enter Tryz.func176,Tryz.ntmps176;go_wp2_with (at_builtin;refine wpList_append_lies _ (by rfl) _ _ 109 (by rfl) base 265 i0 _ 6 96 Tryz.underlying109 hi hz0 hz1 hz2 rfl (by decide) _ _ xs (by rfl) HO.out ⟨b,0,none⟩ 1 1 [.int .i64 key,.int .i64 0,.slice none 0 0,.slice none 0 0,.slice none 0 0,.int .i64 0] (by rfl) (by rfl) (HN.out) HONE.out (by decide) (by unfold maxLen;omega) (by omega) hbase w.heap.size rfl ?_)
  intro g4 cap4 w4 hown4 hgrow4 hat4 hg4;have H4:=aB (And.intro hown4 (And.intro hgrow4 hat4));clear hown4 hgrow4 hat4;go_wp2_with fail;go_ret;exact⟨g4,cap4,rfl,H4.out.1,H4.out.2.1,H4.out.2.2⟩
theorem KW(w:World)(sb n:Nat)(x:Option Addr)(c:Nat)(key a e:Int)(x1 x2 x3:Option Addr)(n1 n2 n3 c1 c2 c3:Nat)(P Q:World->Prop)(R:Nat->Nat->World->Prop)(hn:n<=100000)
 (HF:Hid (Calls prog 162 #[.pointer (some ⟨sb,5,none⟩),.int .i64 key] (w.alloc (.cells #[.int .i64 a,.slice x1 n1 c1,.slice x2 n2 c2,.slice x3 n3 c3,.int .i64 e] 108)) fun en w'=>en=.returned (.tuple #[.int .i64 n,.bool false])/\Q w'))
 (HI:Hid (∀W,Q W->sb<W.heap.size/\W.cell? ⟨sb,5,none⟩=some (.slice x n c)/\Calls prog 176 #[.slice x n c,.int .i64 n,.slice (some ⟨W.heap.size,0,none⟩) 1 1] (W.alloc (.cells #[.int .i64 key,.int .i64 0,.slice none 0 0,.slice none 0 0,.slice none 0 0,.int .i64 0] 265)) fun e w'=>∃g cap,e=.returned (.slice (some ⟨g,0,none⟩) (n+1) cap)/\R g cap w'))
 (HQ:Hid (∀g cap W,R g cap W->sb<W.heap.size/\g≠sb/\g≠w.heap.size/\sb≠w.heap.size/\(∃u,W.cell? ⟨sb,5,none⟩=some u)/\W.frozen? ⟨sb,5,none⟩=false/\g<W.heap.size/\(∃cur,W.heap[g]?=some (.cells cur 265 (0,0))/\n*6+5<cur.size)/\W.heap[w.heap.size]?=some (.cells #[.int .i64 a,.slice x1 n1 c1,.slice x2 n2 c2,.slice x3 n3 c3,.int .i64 e] 108 (0,0))/\
   ∀W',aY ((((((W.setCell ⟨sb,5,none⟩ (.slice (some ⟨g,0,none⟩) (n+1) cap)).setCell ⟨g,n*6+1,none⟩ (.int .i64 a)).setCell ⟨g,n*6+2,none⟩ (.slice x1 n1 c1)).setCell ⟨g,n*6+3,none⟩ (.slice x2 n2 c2)).setCell ⟨g,n*6+4,none⟩ (.slice x3 n3 c3)).setCell ⟨g,n*6+5,none⟩ (.int .i64 e)) W'->P W')):
 Calls prog 126 #[.pointer (some ⟨sb,5,none⟩),.int .i64 key,.agg #[.int .i64 a,.slice x1 n1 c1,.slice x2 n2 c2,.slice x3 n3 c3,.int .i64 e]] w fun en w'=>en=.returned (.tuple #[])/\P w':=by
 go_enter Tryz.func126,Tryz.ntmps126;go_wp2_with fail;refine HF.out.mono ?_;rintro en w0 ⟨rfl,h0⟩;obtain⟨i1,i2,i3⟩:=HI.out _ h0;have HII:=aB i3;clear h0 i3 HI HF;go_wp2_with fail;refine HII.out.mono ?_;rintro en w1 ⟨g,cap,rfl,h1⟩;obtain⟨q1,g1,g2,g3,⟨v5,g4⟩,g5,q3,⟨cur,q4,q5⟩,q6,q7⟩:=HQ.out _ _ _ h1;have HP:=aB q7;have k0:=aA q6 (i:=0) rfl;have k1:=aA q6 (i:=1) rfl;have k2:=aA q6 (i:=2) rfl;have k3:=aA q6 (i:=3) rfl;have k4:=aA q6 (i:=4) rfl;have hl:=aD q6;have hu:∀o,o<=n*6+5->∃u,w1.cell? ⟨g,o,none⟩=some u:=fun o ho=>⟨cur[o]'(by omega),by rw[cell_of_row w1 g o cur _ _ q4];exact n9 (by omega)⟩
 obtain⟨u1,m1⟩:=hu (n*6+1) (by omega)
 obtain⟨u2,m2⟩:=hu (n*6+2) (by omega)
 obtain⟨u3,m3⟩:=hu (n*6+3) (by omega)
 obtain⟨u4,m4⟩:=hu (n*6+4) (by omega)
 obtain⟨u5,m5⟩:=hu (n*6+5) (by omega)
 have z1:=aE q4 (i:=n*6+1);have z2:=aE q4 (i:=n*6+2);have z3:=aE q4 (i:=n*6+3);have z4:=aE q4 (i:=n*6+4);have z5:=aE q4 (i:=n*6+5);have e1:(0:Int)<=(n:Int):=by omega
 have e2:(n:Int)<((n+1:Nat):Int):=by omega
 have g1':¬sb=g:=fun e=>g1 e.symm
 have g2':¬w.heap.size=g:=fun e=>g2 e.symm
 have g3':¬w.heap.size=sb:=fun e=>g3 e.symm
 clear h1 q4 q5 q6 q7 hu HQ i1 i2 HII;go_wp2_with fail;go_region
 all_goals
  go_wp2_with fail;go_end0;exact⟨rfl,HP.out _ (aY.drew _)⟩
theorem AL(a e:Int)(x1 x2 x3:Option Addr)(n1 n2 n3 c1 c2 c3:Nat)(w:World):Calls prog 106 #[.agg #[.int .i64 a,.slice x1 n1 c1,.slice x2 n2 c2,.slice x3 n3 c3,.int .i64 e]] w fun en w'=>en=.returned (.int .i64 a)/\w'=w.alloc (.cells #[.int .i64 a,.slice x1 n1 c1,.slice x2 n2 c2,.slice x3 n3 c3,.int .i64 e] 108):=by
 go_enter Tryz.func106,Tryz.ntmps106;go_wp2_with fail;go_ret;exact⟨rfl,rfl⟩
theorem SI(w:World)(sb:Nat)(a:Nat)(e:Int)(x1 x2 x3:Option Addr)(n1 n2 n3 c1 c2 c3:Nat)(P:World->Prop)(hm:a%20=0)(ha:a<=1000000)
 (HK:Hid (∀W',Below w.heap.size w W'->Calls prog 126 #[.pointer (some ⟨sb,5,none⟩),.int .i64 a,.agg #[.int .i64 a,.slice x1 n1 c1,.slice x2 n2 c2,.slice x3 n3 c3,.int .i64 e]] W' fun en w'=>en=.returned (.tuple #[])/\P w')):
 Calls prog 71 #[.pointer (some ⟨sb,0,none⟩),.agg #[.int .i64 a,.slice x1 n1 c1,.slice x2 n2 c2,.slice x3 n3 c3,.int .i64 e]] w fun en w'=>en=.returned (.tuple #[])/\P w':=by
 have em:(a:Int)%20=0:=by omega
 have em2:(a:Int).tmod 20=0:=by rw[Int.tmod_eq_emod_of_nonneg (by omega)];exact em
 go_enter Tryz.func71,Tryz.ntmps71;go_wp2_with fail;refine(AL a e x1 x2 x3 n1 n2 n3 c1 c2 c3 _).mono ?_;rintro en w1 ⟨rfl,rfl⟩;go_wp2_with fail;go_region_law (go_simp;first|(go_at_call 106;refine(AL a e x1 x2 x3 n1 n2 n3 c1 c2 c3 _).mono ?_;rintro en w2 ⟨rfl,rfl⟩)|(go_at_call 126;refine(HK.out _ ((((m8 _ w).alloc (l9 _) _).alloc (by simp) _).alloc (by simp;omega) _).drew).mono ?_;rintro en w3 ⟨rfl,h3⟩;have H3:=aB h3;clear h3))
 all_goals
  go_wp2_with fail;go_end0;exact⟨rfl,H3.out⟩
theorem XI(w:World)(sb:Nat)(a:Nat)(e:Int)(x1 x2 x3:Option Addr)(n1 n2 n3 c1 c2 c3:Nat)(hm:a%20≠0)(ha:a<=1000000):
 Calls prog 71 #[.pointer (some ⟨sb,0,none⟩),.agg #[.int .i64 a,.slice x1 n1 c1,.slice x2 n2 c2,.slice x3 n3 c3,.int .i64 e]] w fun en w'=>en=.returned (.tuple #[])/\Below w.heap.size w w':=by
 have em:¬(a:Int)%20=0:=by omega
 have em2:¬(a:Int).tmod 20=0:=by rw[Int.tmod_eq_emod_of_nonneg (by omega)];exact em
 go_enter Tryz.func71,Tryz.ntmps71;go_wp2_with fail;refine(AL a e x1 x2 x3 n1 n2 n3 c1 c2 c3 _).mono ?_;rintro en w1 ⟨rfl,rfl⟩;go_wp2_with fail;go_end0;exact⟨rfl,((m8 _ w).alloc (l9 _) _).alloc (by simp) _⟩
theorem LD(l m:List Ent):jC (l++m)=jC l++jC m:=by
 induction l with
 |nil=>rfl
 |cons x l ih=>simp[jC,ih]
theorem LC(l:List Ent):(jC l).length=l.length*6:=by
 induction l with
 |nil=>rfl
 |cons x l ih=>simp[jC,ih,Ent.cells];omega
theorem IP:∀(l:List Ent) (i j:Nat) (h:i<l.length),j<6->(jC l)[i*6+j]?=(l[i].cells)[j]?
 |x::l,0,j,h,hj=>by
  simp only[jC,Nat.zero_mul,aD_,aW_];rw[ad_ (by simpa [Ent.cells] using hj)]
 |x::l,i+1,j,h,hj=>by
  have:=IP l i j (by simpa using h) hj
  simp only[jC,List.getElem_cons_succ];rw[y8 (by simp[Ent.cells];omega),<-this]
  congr 1
  simp[Ent.cells];omega
theorem IN:∀(l:List Ent) (i:Nat) (x:Ent) (h:i<l.length),x.k=l[i].k->jC (l.set i x)=(((((jC l).set (i*6+1) (.int .i64 x.a)).set (i*6+2) x.b).set (i*6+3) x.c).set (i*6+4) x.d).set (i*6+5) (.int .i64 x.e)
 |y::l,0,x,h,hk=>by
  simp only[aW_] at hk;simp[jC,Ent.cells,hk]
 |y::l,i+1,x,h,hk=>by
  have ih:=IN l i x (by simpa using h) (by simpa using hk)
  have e:∀j,(i+1)*6+j=i*6+j+6:=fun j=>by omega
  simp only[a6_,jC,e,Ent.cells,s9,ar_];rw[ih]
def C5(fp:Nat->Value)(F:Nat->Prop)(w:World)(st:Nat->Option bW)(i:Nat)(x:Ent):Prop:=
 x.k=((20*i:Nat):Int)/\∃s,st (20*i)=some s/\nQ fp F w (.agg #[.int .i64 x.a,x.b,x.c,x.d,.int .i64 x.e]) s
theorem C5.keep{fp:Nat->Value}{F G:Nat->Prop}{w w':World}{st:Nat->Option bW}{i:Nat}{x:Ent}(h:C5 fp F w st i x)(hk:∀b,F b->w'.heap[b]?=w.heap[b]?)(hF:∀b,F b->G b):C5 fp G w' st i x:=by
 obtain⟨h1,s,h2,h3⟩:=h;exact⟨h1,s,h2,h3.keep hk hF⟩
theorem C5.ok{fp:Nat->Value}{F:Nat->Prop}{w:World}{st:Nat->Option bW}{i:Nat}{x:Ent}(h:C5 fp F w st i x):x.Ok:=by
 obtain⟨_,s,_,h3⟩:=h;obtain⟨fv,tv,xo,e,f1,f2,f3⟩:=h3.form;simp only[Value.agg.injEq] at e;have e1:=congrArg (fun z=>z[1]?) e
 have e2:=congrArg (fun z=>z[2]?) e
 have e3:=congrArg (fun z=>z[3]?) e
 simp at e1 e2 e3;subst e1 e2 e3;exact⟨f1,f2,f3⟩
structure kO(fp:Nat->Value)(F:Nat->Prop)(w:World)(sb mb:Nat)(mo:Obj)(st:Nat->Option bW)(s:bW)(n:Nat):Prop where
 blk:∃fv tv ov ev es,w.heap[sb]?=some (.cells #[.int .i64 s.time,fv,tv,ov,.int .i64 s.stop,ev,.map (some mb)] 114 (0,0))/\nQ fp F w (.agg #[.int .i64 s.time,fv,tv,ov,.int .i64 s.stop]) s/\
  w.ownsRow (sb+1) 265 6 ev n (jC es)/\es.length=n/\(∀i (h:i<es.length),C5 fp F w st i es[i])/\(∀k,F k->ev.ownBlock≠some k)/\ev.ownBlock≠some mb
 now:st s.time=some s
 fix:∀k,F k->k<w.heap.size/\k≠sb/\k≠mb
 map:w.heap[mb]?=some mo/\mb≠sb
def lT(sb:Nat)(w:World):Option Nat:=match w.heap[sb]? with|some (.cells c _ _)=>(c[5]?).bind Value.ownBlock|_=>none
theorem oJ{sb:Nat}{w w':World}(h:w'.heap[sb]?=w.heap[sb]?):lT sb w'=lT sb w:=by unfold lT;rw[h]
theorem lX{sb:Nat}{w:World}{c:Array Value}{T:TypeId}{z:Nat × Nat}{v:Value}(h:w.heap[sb]?=some (.cells c T z))(hv:c[5]?=some v):lT sb w=v.ownBlock:=by unfold lT;rw[h];simp[hv]
structure FS(sb:Nat)(w w':World):Prop where
 os:w'.os=w.os
 tape:w'.tape=w.tape
 output:w'.output=w.output
 size:w.heap.size<=w'.heap.size
 blk:∀k,k<w.heap.size->k≠sb->lT sb w≠some k->w'.heap[k]?=w.heap[k]?
 row:∀k,lT sb w'=some k->lT sb w=some k\/w.heap.size<=k
theorem FS.trans{sb:Nat}{a b c:World}(h:FS sb a b)(k:FS sb b c):FS sb a c:=by
 refine⟨k.os.trans h.os,k.tape.trans h.tape,k.output.trans h.output,p7 h.size k.size,fun i hi hc hr=>?_,fun i hi=>?_⟩
 ·rw[k.blk i (m9 hi h.size) hc (fun e=>?_),h.blk i hi hc hr]
  rcases h.row i e with h1|h1
  ·exact hr h1
  ·omega
 ·rcases k.row i hi with h1|h1
  ·exact h.row i h1
  ·exact Or.inr (p7 h.size h1)
theorem FS.of_below{sb:Nat}{w w':World}(h:Below w.heap.size w w')(hs:sb<w.heap.size):FS sb w w':=
 ⟨h.os,h.tape,h.output,h.size,fun k hk _ _=>h.block k hk,fun k hk=>Or.inl (by rw[<-oJ (h.block sb hs)];exact hk)⟩
section
variable {fp:Nat->Value} {F G:Nat->Prop} {w w':World} {sb mb n:Nat} {mo:Obj} {st:Nat->Option bW} {s:bW}
theorem kO.lt(h:kO fp F w sb mb mo st s n):sb<w.heap.size:=by
 obtain⟨_,_,_,_,_,h1,_⟩:=h.blk;exact aD h1
theorem kO.row(h:kO fp F w sb mb mo st s n):∀k,lT sb w=some k->sb<k/\k<w.heap.size/\¬F k/\k≠mb:=by
 obtain⟨_,_,_,ev,_,h1,_,h3,_,_,h6,h7⟩:=h.blk;intro k hk;rw[lX h1 rfl] at hk;have:=h3.lt k hk;exact⟨by omega,this.2,fun hF=>h6 k hF hk,fun e=>h7 (by rw[<-e];exact hk)⟩
theorem kO.grow(h:kO fp F w sb mb mo st s n)(hb:Below w.heap.size w w')(hF:∀k,F k->G k)(hG:∀k,G k->F k\/(w.heap.size<=k/\k<w'.heap.size)):kO fp G w' sb mb mo st s n:=by
 have hlt:=h.lt;obtain⟨fv,tv,ov,ev,es,h1,h2,h3,h4,h5,h6,h7⟩:=h.blk;have hk:∀b,F b->w'.heap[b]?=w.heap[b]?:=fun b hb'=>hb.block b (h.fix b hb').1
 refine⟨⟨fv,tv,ov,ev,es,by rw[hb.block _ hlt];exact h1,h2.keep hk hF,iP h3 hb,h4,fun i hi=>(h5 i hi).keep hk hF,fun k hk'=>?_,h7⟩,h.now,fun k hk'=>?_,by rw[hb.block _ (aD h.map.1)];exact h.map⟩
 ·rcases hG k hk' with h8|h8
  ·exact h6 k h8
  ·intro e;have:=(h3.lt k e).2;omega
 ·rcases hG k hk' with h8|h8
  ·have:=h.fix k h8;exact⟨m9 this.1 hb.size,this.2⟩
  ·have:=aD h.map.1;exact⟨h8.2,by omega,by omega⟩
theorem U3{es:List Ent}{base g cap:Nat}(h:w.ownsRow base 265 6 (.slice (some ⟨g,0,none⟩) es.length cap) es.length (jC es))(hok:∀i (h:i<es.length),es[i].Ok):N3 w g es:=fun i hi=>by
 have c:∀j u,j<6->(es[i].cells)[j]?=some u->w.cell? ⟨g,i*6+j,none⟩=some u:=fun j u hj hu=>by
  have:=h.cells (g:=g) rfl (i*6+j) u (by rw[IP es i j hi hj];exact hu)
  rw[AB] at this;exact this
 exact⟨hok i hi,c 0 _ (by omega) rfl,c 1 _ (by omega) rfl,c 2 _ (by omega) rfl,c 3 _ (by omega) rfl,c 4 _ (by omega) rfl,c 5 _ (by omega) rfl⟩
theorem VS{es:List Ent}{base g cap i:Nat}{W:World}{a e:Int}{b c d:Value}(h:w.ownsRow base 265 6 (.slice (some ⟨g,0,none⟩) es.length cap) es.length (jC es))(hi:i<es.length)
 (hW:W.heap=(((((w.setCell ⟨g,i*6+1,none⟩ (.int .i64 a)).setCell ⟨g,i*6+2,none⟩ b).setCell ⟨g,i*6+3,none⟩ c).setCell ⟨g,i*6+4,none⟩ d).setCell ⟨g,i*6+5,none⟩ (.int .i64 e)).heap):
 W.ownsRow base 265 6 (.slice (some ⟨g,0,none⟩) es.length cap) es.length (jC (es.set i ⟨es[i].k,a,b,c,d,e⟩)):=by
 rcases h.2 with ⟨r1,_⟩|⟨g',cap',cur,r1,r2,r3,r4,r5,r6,r7⟩
 ·cases r1
 cases r1;refine⟨by simp[LC],Or.inr ⟨g,cap,_,rfl,r2,by rw[hW];exact aS (aS (aS (aS (aS r3)))),r4,r5,by simpa using r6,?_⟩⟩
 rw[IN es i ⟨es[i].k,a,b,c,d,e⟩ hi rfl,<-r7];simp only[aG_,bd_]
end
structure l6(n:Nat)(key:Int)(at_:Nat)(fd:Bool):Prop where
 le:at_<=n
 lo:∀i,i<at_->((20*i:Nat):Int)<key
 hi:∀i,i<n->at_<=i->key<=((20*i:Nat):Int)
 fnd:fd=true↔at_<n/\((20*at_:Nat):Int)=key
section
variable {fp:Nat->Value} {F G:Nat->Prop} {w w':World} {sb mb n:Nat} {mo:Obj} {st:Nat->Option bW} {s:bW}
theorem GV(h:kO fp F w sb mb mo st s n)(key:Int)(hn:n<=1000):
 Calls prog 162 #[.pointer (some ⟨sb,5,none⟩),.int .i64 key] w fun e w'=>∃(at_:Nat) (fd:Bool),e=.returned (.tuple #[.int .i64 at_,.bool fd])/\Below w.heap.size w w'/\l6 n key at_ fd:=by
 obtain⟨fv,tv,ov,ev,es,h1,h2,h3,h4,h5,h6,h7⟩:=h.blk;have hk:∀i (h:i<es.length),es[i].k=((20*i:Nat):Int):=fun i hi=>(h5 i hi).1
 have c5:w.cell? ⟨sb,5,none⟩=some ev:=aA h1 rfl;subst h4;rcases h3.2 with ⟨r1,r2⟩|⟨g,cap,cur,r1,r2,r3,r4,r5⟩
 ·subst r1;refine(IR w sb none 0 0 key (fun a f w'=>a=0/\f=false/\w'=w) c5 ((SL key w).mono ?_)).mono ?_
  ·rintro e w' ⟨rfl,rfl⟩;exact⟨0,false,rfl,rfl,rfl,rfl⟩
  ·rintro e w' ⟨a,f,rfl,rfl,rfl,rfl⟩;exact⟨0,false,rfl,m8 _ _,aj_ _,fun i hi=>by omega,fun i hi _=>by omega,by simp;omega⟩
 ·subst r1;refine(IR w sb (some ⟨g,0,none⟩) es.length cap key (fun a f w'=>∃at_:Nat,a=at_/\Below w.heap.size w w'/\Found es key at_ f) c5 ((SM g cap es key w (by omega) (aD r3) (U3 h3 fun i hi=>(h5 i hi).ok) (fun i j hi hj hij=>by rw[hk i hi,hk j hj];omega)).mono ?_)).mono ?_
  ·rintro e w' ⟨a,f,rfl,hb,hf⟩;exact⟨_,f,rfl,a,rfl,hb,hf⟩
  ·rintro e w' ⟨_,f,rfl,a,rfl,hb,hf⟩;refine⟨a,f,rfl,hb,hf.le,fun i hi=>?_,fun i hi hi'=>?_,?_⟩
   ·have:=hf.lo i (by have:=hf.le;omega) hi
    rw[hk i (by have:=hf.le;omega)] at this;exact this
   ·have:=hf.hi i hi hi';rw[hk i hi] at this;exact this
   ·rw[hf.fnd];constructor
    ·rintro⟨q1,q2⟩;rw[hk _ q1] at q2;exact⟨q1,q2⟩
    ·rintro⟨q1,q2⟩;exact⟨q1,by rw[hk _ q1];exact q2⟩
theorem IK(W:World)(g a b c d e:Nat)(u v x y z:Value)(k:Nat)(hk:k≠g):(((((W.setCell ⟨g,a,none⟩ u).setCell ⟨g,b,none⟩ v).setCell ⟨g,c,none⟩ x).setCell ⟨g,d,none⟩ y).setCell ⟨g,e,none⟩ z).heap[k]?=W.heap[k]?:=by
 rw[m7 _ _ _ _ hk,m7 _ _ _ _ hk,m7 _ _ _ _ hk,m7 _ _ _ _ hk,m7 _ _ _ _ hk]
theorem VP(W:World)(p q r t o:Addr)(u v x y z:Value):(((((W.setCell p u).setCell q v).setCell r x).setCell t y).setCell o z).os=W.os/\(((((W.setCell p u).setCell q v).setCell r x).setCell t y).setCell o z).tape=W.tape/\(((((W.setCell p u).setCell q v).setCell r x).setCell t y).setCell o z).output=W.output/\(((((W.setCell p u).setCell q v).setCell r x).setCell t y).setCell o z).heap.size=W.heap.size:=by
 have one:∀(W:World) (p:Addr) (u:Value),(W.setCell p u).os=W.os/\(W.setCell p u).tape=W.tape/\(W.setCell p u).output=W.output/\(W.setCell p u).heap.size=W.heap.size:=fun W p u=>⟨rfl,rfl,rfl,by simp⟩
 simp[one]
theorem ZH(h:kO fp F w sb mb mo st s n)(v:Value)(s':bW)(hv:nQ fp F w v s')(hs:st s'.time=some s')(hm:s'.time%20=0)(hq:s'.time/20<n)(hn:n<=1000)(ht:s'.time<=1000000):
 Calls prog 126 #[.pointer (some ⟨sb,5,none⟩),.int .i64 s'.time,v] w fun e w'=>e=.returned (.tuple #[])/\FS sb w w'/\kO fp F w' sb mb mo st s n:=by
 obtain⟨f',t',o',rfl,⟨x1,n1,c1,rfl⟩,⟨x2,n2,c2,rfl⟩,⟨x3,n3,c3,rfl⟩⟩:=hv.form;obtain⟨fv,tv,ov,ev,es,h1,h2,h3,h4,h5,h6,h7⟩:=h.blk;subst h4;have h3':=h3;rcases h3.2 with ⟨r1,r2⟩|⟨g,cap,cur,r1,r2,r3,r4,r5,r6,r7⟩
 ·omega
 subst r1;obtain⟨w1,hw1⟩:∃w1,w1=w.alloc (.cells #[.int .i64 s'.time,.slice x1 n1 c1,.slice x2 n2 c2,.slice x3 n3 c3,.int .i64 s'.stop] 108):=⟨_,rfl⟩;have hb1:Below w.heap.size w w1:=by rw[hw1];exact(m8 _ _).alloc (l9 _) _
 have hB1:w1.heap[w.heap.size]?=some (.cells #[.int .i64 s'.time,.slice x1 n1 c1,.slice x2 n2 c2,.slice x3 n3 c3,.int .i64 s'.stop] 108 (0,0)):=by rw[hw1];exact aT _ _ rfl _
 have hs1:w1.heap.size=w.heap.size+1:=by rw[hw1];simp
 refine(CT w sb g es.length cap (s'.time/20) s'.time s'.time s'.stop x1 x2 x3 n1 n2 n3 c1 c2 c3 (fun w'=>FS sb w w'/\kO fp F w' sb mb mo st s es.length) (fun W=>Below w1.heap.size w1 W) hq ?_ (fun W hW=>?_))
 ·show Calls _ _ _ _ _
  rw[<-hw1];refine(GV (h.grow hb1 (fun _ h=>h) (fun _ h=>Or.inl h)) s'.time hn).mono ?_
  rintro e w' ⟨a,fd,rfl,hb,hf⟩
  have e1:a=s'.time/20:=by
   refine Nat.le_antisymm ?_ ?_
   ·cases a with
    |zero=>omega
    |succ a=>have:=hf.lo a (by omega);omega
   ·rcases ag_ a (s'.time/20) with h8|h8
    ·have:=hf.hi a (by omega) (l9 _);omega
    ·exact h8
  have e2:fd=true:=hf.fnd.2 ⟨by omega,by omega⟩
  exact⟨by rw[e1,e2],hb⟩
 ·have hbw:Below w.heap.size w W:=hb1.trans (hW.mono (by omega))
  have hlt:=h.lt;have hSW:=h.grow hbw (fun _ h=>h) (fun _ h=>Or.inl h)
  have hgl:=aD r3;have r3W:W.heap[g]?=some (.cells cur 265 (0,0)):=by rw[hbw.block _ hgl];exact r3
  have hcs:s'.time/20*6+5<cur.size:=by rw[r6];have:=Nat.mul_le_mul_right 6 r4;omega
  refine⟨hSW.lt,aA (by rw[hbw.block _ hlt];exact h1) rfl,aD r3W,⟨cur,r3W,hcs⟩,by rw[hW.block _ (by omega)];exact hB1,fun W' hS=>?_⟩
  have hgsb:g≠sb:=by have:=(h3'.lt g rfl).1;omega
  have hk:∀k,k≠g->W'.heap[k]?=W.heap[k]?:=fun k hk=>by rw[hS.heap];exact IK W g _ _ _ _ _ _ _ _ _ _ k hk
  have hrow:lT sb W=some g:=lX (by rw[hbw.block _ hlt];exact h1) rfl
  have hFg:∀k,F k->k≠g:=fun k hk e=>h6 k hk (by rw[e];rfl)
  have hWW:FS sb W W':=by
   obtain⟨a1,a2,a3,a4⟩:=VP W ⟨g,s'.time/20*6+1,none⟩ ⟨g,s'.time/20*6+2,none⟩ ⟨g,s'.time/20*6+3,none⟩ ⟨g,s'.time/20*6+4,none⟩ ⟨g,s'.time/20*6+5,none⟩ (.int .i64 s'.time) (.slice x1 n1 c1) (.slice x2 n2 c2) (.slice x3 n3 c3) (.int .i64 s'.stop);refine⟨hS.os.trans a1,hS.tape.trans a2,hS.output.trans a3,by rw[hS.heap,a4];exact l9 _,fun k hk' hc hr=>hk k fun e=>hr (by rw[e];exact hrow),fun k hk'=>Or.inl ?_⟩
   rw[<-oJ (hk sb (fun e=>hgsb e.symm))];exact hk'
  refine⟨(FS.of_below hbw hlt).trans hWW,⟨fv,tv,ov,.slice (some ⟨g,0,none⟩) es.length cap,es.set (s'.time/20) ⟨es[s'.time/20].k,s'.time,.slice x1 n1 c1,.slice x2 n2 c2,.slice x3 n3 c3,s'.stop⟩,?_,?_,?_,by simp,fun i hi=>?_,h6,h7⟩,h.now,fun k hk'=>?_,?_⟩
  ·rw[hk sb (fun e=>hgsb e.symm),hbw.block _ hlt];exact h1
  ·exact h2.keep (fun k hk'=>by rw[hk k (hFg k hk'),hbw.block k (h.fix k hk').1]) fun _ h=>h
  ·exact VS (iP h3' hbw) hq hS.heap
  ·have hi':i<es.length:=by simpa using hi
   have hkeep:∀k,F k->W'.heap[k]?=w.heap[k]?:=fun k hk'=>by rw[hk k (hFg k hk'),hbw.block k (h.fix k hk').1]
   by_cases hie:i=s'.time/20
   ·subst hie;rw[List.getElem_set_self];refine⟨(h5 _ hi').1,s',?_,hv.keep hkeep fun _ h=>h⟩
    rw[show 20*(s'.time/20)=s'.time by omega];exact hs
   ·rw[List.getElem_set_ne (fun e=>hie e.symm)]
    exact(h5 i hi').keep hkeep fun _ h=>h
  ·have:=h.fix k hk';exact⟨by rw[hS.heap];simpa using m9 this.1 hbw.size,this.2⟩
  ·refine⟨?_,h.map.2⟩;rw[hk mb (fun e=>h7 (by rw[e];rfl)),hbw.block _ (aD h.map.1)];exact h.map.1
end
section
variable {fp:Nat->Value} {F G:Nat->Prop} {w w':World} {sb mb n:Nat} {mo:Obj} {st:Nat->Option bW} {s:bW}
theorem G0{es:List Ent}{base g cap i m:Nat}{W:World}{k0 a e:Int}{b c d:Value}(hm:es.length=m)(h:w.ownsRow base 265 6 (.slice (some ⟨g,0,none⟩) m cap) m (jC es))(hi:i<es.length)(hk:es[i].k=k0)
 (hW:W.heap=(((((w.setCell ⟨g,i*6+1,none⟩ (.int .i64 a)).setCell ⟨g,i*6+2,none⟩ b).setCell ⟨g,i*6+3,none⟩ c).setCell ⟨g,i*6+4,none⟩ d).setCell ⟨g,i*6+5,none⟩ (.int .i64 e)).heap):
 W.ownsRow base 265 6 (.slice (some ⟨g,0,none⟩) m cap) m (jC (es.set i ⟨k0,a,b,c,d,e⟩)):=by
 subst hm hk;exact VS h hi hW
theorem ZG(h:kO fp F w sb mb mo st s n)(v:Value)(s':bW)(hv:nQ fp F w v s')(hs:st s'.time=some s')(hm:s'.time%20=0)(hq:s'.time/20=n)(hn:n<=1000):
 Calls prog 126 #[.pointer (some ⟨sb,5,none⟩),.int .i64 s'.time,v] w fun e w'=>e=.returned (.tuple #[])/\FS sb w w'/\kO fp F w' sb mb mo st s (n+1):=by
 obtain⟨f',t',o',rfl,⟨x1,n1,c1,rfl⟩,⟨x2,n2,c2,rfl⟩,⟨x3,n3,c3,rfl⟩⟩:=hv.form;obtain⟨fv,tv,ov,ev,es,h1,h2,h3,h4,h5,h6,h7⟩:=h.blk;have hlt:=h.lt;have h3':=h3;obtain⟨x,c,rfl⟩:=cV h3;obtain⟨w1,hw1⟩:∃w1,w1=w.alloc (.cells #[.int .i64 s'.time,.slice x1 n1 c1,.slice x2 n2 c2,.slice x3 n3 c3,.int .i64 s'.stop] 108):=⟨_,rfl⟩;have hb1:Below w.heap.size w w1:=by rw[hw1];exact(m8 _ _).alloc (l9 _) _
 have hB1:w1.heap[w.heap.size]?=some (.cells #[.int .i64 s'.time,.slice x1 n1 c1,.slice x2 n2 c2,.slice x3 n3 c3,.int .i64 s'.stop] 108 (0,0)):=by rw[hw1];exact aT _ _ rfl _
 have hs1:w1.heap.size=w.heap.size+1:=by rw[hw1];simp
 have hno:∀k,(Value.slice x n c).ownBlock=some k->sb<k/\k<w.heap.size:=fun k hk=>by have:=h3'.lt k hk;exact⟨by omega,this.2⟩
 refine(KW w sb n x c s'.time s'.time s'.stop x1 x2 x3 n1 n2 n3 c1 c2 c3 (fun w'=>FS sb w w'/\kO fp F w' sb mb mo st s (n+1)) (fun W=>Below w1.heap.size w1 W)
  (fun g cap W=>(∀k,k<w1.heap.size->some k≠(Value.slice x n c).ownBlock->W.heap[k]?=w1.heap[k]?)/\W.os=w.os/\W.tape=w.tape/\W.output=w.output/\w1.heap.size<=W.heap.size/\((Value.slice x n c).ownBlock=some g\/w1.heap.size<=g)/\W.ownsRow (sb+1) 265 6 (.slice (some ⟨g,0,none⟩) (n+1) cap) (n+1) (jC es++[.int .i64 s'.time,.int .i64 0,.slice none 0 0,.slice none 0 0,.slice none 0 0,.int .i64 0])) (by omega) ?_ (fun W hW=>?_) (fun g cap W hW=>?_))
 ·show Calls _ _ _ _ _
  rw[<-hw1];refine(GV (h.grow hb1 (fun _ h=>h) (fun _ h=>Or.inl h)) s'.time hn).mono ?_
  rintro e w' ⟨a,fd,rfl,hb,hf⟩
  have e1:a=n:=by
   refine Nat.le_antisymm hf.le ?_;rcases ag_ a n with h8|h8
   ·have:=hf.hi a h8 (l9 _);omega
   ·exact h8
  have e2:fd=false:=by
   cases fd with
   |false=>rfl
   |true=>have:=(hf.fnd.1 rfl).1;omega
  exact⟨by rw[e1,e2],hb⟩
 ·have hbw:Below w.heap.size w W:=hb1.trans (hW.mono (by omega))
  have hrW:=iP h3' hbw;refine⟨m9 hlt hbw.size,aA (by rw[hbw.block _ hlt];exact h1) rfl,?_⟩
  refine(UD _ (sb+1) W.heap.size n (.slice x n c) (jC es) s'.time (hrW.alloc _) (aT _ _ rfl _) (by omega) (by have:=hbw.size;simp;omega)).mono ?_
  rintro e w' ⟨g,cap,rfl,q1,q2,q3⟩;have hWs:=hW.size;have q2s:=q2.size;simp only[World.size_alloc] at q2s;refine⟨g,cap,rfl,fun k hk hne=>?_,?_,?_,?_,by omega,?_,q1⟩
  ·rw[q2.block k (by simp;omega) hne,o9 _ _ _ (by omega),hW.block k hk]
  ·exact q2.os.trans hbw.os
  ·exact q2.tape.trans hbw.tape
  ·exact q2.output.trans hbw.output
  ·rcases q3 with q3|q3
   ·exact Or.inl q3
   ·exact Or.inr (by rw[q3];simp;omega)
 ·obtain⟨b1,b2,b3,b4,b5,b6,b7⟩:=hW;have hb7:=b7;have hgsb:g≠sb:=by have:=(b7.lt g rfl).1;omega
  have hgw:g≠w.heap.size:=by
   rcases b6 with h8|h8
   ·have:=hno g h8;omega
   ·omega
  rcases b7.2 with ⟨r1,_⟩|⟨g',cap',cur,r1,r2,r3,r4,r5,r6,r7⟩
  ·cases r1
  cases r1
  have hsbW:W.heap[sb]?=some (.cells #[.int .i64 s.time,fv,tv,ov,.int .i64 s.stop,.slice x n c,.map (some mb)] 114 (0,0)):=by
   rw[b1 sb (by omega) (fun e=>by have:=hno sb e.symm;omega),hb1.block _ hlt];exact h1
  have hcs:n*6+5<cur.size:=by rw[r6];omega
  refine⟨by omega,hgsb,hgw,by omega,⟨_,aA hsbW rfl⟩,aE hsbW,aD r3,⟨cur,r3,hcs⟩,by rw[b1 _ (by omega) (fun e=>by have:=hno _ e.symm;omega)];exact hB1,fun W' hS=>?_⟩
  generalize hW1:W.setCell ⟨sb,5,none⟩ (.slice (some ⟨g,0,none⟩) (n+1) cap)=W1 at hS;have hk1:∀k,k≠sb->W1.heap[k]?=W.heap[k]?:=fun k hk=>by rw[<-hW1];exact m7 _ _ _ _ hk
  have hsb1:W1.heap[sb]?=some (.cells #[.int .i64 s.time,fv,tv,ov,.int .i64 s.stop,.slice (some ⟨g,0,none⟩) (n+1) cap,.map (some mb)] 114 (0,0)):=by rw[<-hW1];exact aS hsbW
  have hos1:W1.os=W.os/\W1.tape=W.tape/\W1.output=W.output/\W1.heap.size=W.heap.size:=by rw[<-hW1];exact⟨rfl,rfl,rfl,by simp⟩
  have hk2:∀k,k≠g->W'.heap[k]?=W1.heap[k]?:=fun k hk=>by rw[hS.heap];exact IK W1 g _ _ _ _ _ _ _ _ _ _ k hk
  obtain⟨a1,a2,a3,a4⟩:=VP W1 ⟨g,n*6+1,none⟩ ⟨g,n*6+2,none⟩ ⟨g,n*6+3,none⟩ ⟨g,n*6+4,none⟩ ⟨g,n*6+5,none⟩ (.int .i64 s'.time) (.slice x1 n1 c1) (.slice x2 n2 c2) (.slice x3 n3 c3) (.int .i64 s'.stop);have hsz:W'.heap.size=W.heap.size:=by rw[hS.heap,a4,hos1.2.2.2]
  have hkk:∀k,k<w.heap.size->k≠sb->some k≠(Value.slice x n c).ownBlock->W'.heap[k]?=w.heap[k]?:=fun k hk hne hr=>by
   have hkg:k≠g:=fun e=>by
    rcases b6 with h8|h8
    ·exact hr (by rw[e];exact h8.symm)
    ·omega
   rw[hk2 k hkg,hk1 k hne,b1 k (by omega) hr,hb1.block k hk]
  have hFk:∀k,F k->W'.heap[k]?=w.heap[k]?:=fun k hk=>hkk k (h.fix k hk).1 (h.fix k hk).2.1 fun e=>h6 k hk e.symm
  have hmb:=aD h.map.1;have hrow0:lT sb w=(Value.slice x n c).ownBlock:=lX h1 rfl;have hsb':W'.heap[sb]?=some (.cells #[.int .i64 s.time,fv,tv,ov,.int .i64 s.stop,.slice (some ⟨g,0,none⟩) (n+1) cap,.map (some mb)] 114 (0,0)):=by rw[hk2 sb (fun e=>hgsb e.symm)];exact hsb1
  obtain⟨z,hz⟩:∃z:Ent,z=⟨s'.time,0,.slice none 0 0,.slice none 0 0,.slice none 0 0,0⟩:=⟨_,rfl⟩
  have hown1:W1.ownsRow (sb+1) 265 6 (.slice (some ⟨g,0,none⟩) (n+1) cap) (n+1) (jC (es++[z])):=by
   rw[LD,hz];exact bA hb7 fun k e=>hk1 k (by cases e;exact hgsb)
  have hel:(es++[z]).length=n+1:=by simp[h4]
  have hzk:(es++[z])[n]'(by rw[hel];omega)=z:=by rw[a2_ (by omega)];simp
  have hrow:=G0 (W:=W') (i:=n) (k0:=s'.time) (a:=s'.time) (b:=.slice x1 n1 c1) (c:=.slice x2 n2 c2) (d:=.slice x3 n3 c3) (e:=s'.stop) hel hown1 (by rw[hel];omega) (by rw[hzk,hz]) hS.heap
  refine⟨⟨hS.os.trans (a1.trans (hos1.1.trans b2)),hS.tape.trans (a2.trans (hos1.2.1.trans b3)),hS.output.trans (a3.trans (hos1.2.2.1.trans b4)),by rw[hsz];omega,fun k hk hne hr=>hkk k hk hne (fun e=>hr (by rw[hrow0];exact e.symm)),fun k hk=>?_⟩,⟨fv,tv,ov,.slice (some ⟨g,0,none⟩) (n+1) cap,(es++[z]).set n ⟨s'.time,s'.time,.slice x1 n1 c1,.slice x2 n2 c2,.slice x3 n3 c3,s'.stop⟩,hsb',h2.keep hFk fun _ h=>h,?_,by simp[h4],fun i hi=>?_,fun k hk e=>?_,fun e=>?_⟩,h.now,fun k hk=>?_,?_⟩
  ·rw[lX hsb' rfl] at hk;cases hk;rcases b6 with h8|h8
   ·exact Or.inl (by rw[hrow0];exact h8)
   ·exact Or.inr (by show w.heap.size<=g;omega)
  ·exact hrow
  ·have hi':i<n+1:=by simpa [h4] using hi
   by_cases hin:i=n
   ·subst hin;rw[List.getElem_set_self];refine⟨by show (s'.time:Int)=_;omega,s',?_,hv.keep hFk fun _ h=>h⟩
    rw[show 20*i=s'.time by omega];exact hs
   ·rw[List.getElem_set_ne (fun e=>hin e.symm),a7_ (by omega)]
    exact(h5 i (by omega)).keep hFk fun _ h=>h
  ·have e':g=k:=by simpa [Value.ownBlock] using e
   rcases b6 with h8|h8
   ·exact h6 k hk (by rw[<-e'];exact h8)
   ·have:=(h.fix _ hk).1;omega
  ·have e':g=mb:=by simpa [Value.ownBlock] using e
   rcases b6 with h8|h8
   ·exact h7 (by rw[<-e'];exact h8)
   ·omega
  ·have:=h.fix k hk;exact⟨by rw[hsz];omega,this.2⟩
  ·exact⟨by rw[hkk mb hmb h.map.2 (fun e=>h7 e.symm)];exact h.map.1,h.map.2⟩
theorem GU(h:kO fp F w sb mb mo st s n)(v:Value)(s':bW)(hv:nQ fp F w v s')(hs:st s'.time=some s')(hg:s'.time%20=0->s'.time/20<=n)(hn:n<=1000)(ht:s'.time<=1000000):
 Calls prog 71 #[.pointer (some ⟨sb,0,none⟩),v] w fun e w'=>e=.returned (.tuple #[])/\FS sb w w'/\kO fp F w' sb mb mo st s (if s'.time%20=0/\s'.time/20=n then n+1 else n):=by
 obtain⟨f',t',o',rfl,⟨x1,n1,c1,rfl⟩,⟨x2,n2,c2,rfl⟩,⟨x3,n3,c3,rfl⟩⟩:=hv.form;by_cases hm:s'.time%20=0
 ·refine SI w sb s'.time s'.stop x1 x2 x3 n1 n2 n3 c1 c2 c3 _ hm ht fun W hW=>?_
  have hgr:=h.grow hW (fun _ h=>h) (fun _ h=>Or.inl h)
  have hvW:=hv.keep (fun k hk=>hW.block k (h.fix k hk).1) fun _ h=>h
  rcases as_ (hg hm) with e|e
  ·rw[if_pos ⟨hm,e⟩];refine(ZG hgr _ s' hvW hs hm e hn).mono ?_;rintro e w' ⟨he,q1,q2⟩;exact⟨he,(FS.of_below hW h.lt).trans q1,q2⟩
  ·rw[if_neg (by omega)]
   refine(ZH hgr _ s' hvW hs hm e hn ht).mono ?_;rintro e w' ⟨he,q1,q2⟩;exact⟨he,(FS.of_below hW h.lt).trans q1,q2⟩
 ·rw[if_neg (fun e=>hm e.1)]
  refine(XI w sb s'.time s'.stop x1 x2 x3 n1 n2 n3 c1 c2 c3 hm ht).mono ?_;rintro e w' ⟨he,hb⟩;exact⟨he,FS.of_below hb h.lt,h.grow hb (fun _ h=>h) (fun _ h=>Or.inl h)⟩
end
end Go.Proofs.YtblbkfdhjfppkaaGreatDoor
