/- Contracts of the program: a value as it is written; its text. -/
import Derived.Test.YtblbkfdhjfppkaaGreatDoorB05
import Derived.Test.YtblbkfdhjfppkaaGreatDoorP13
import Derived.Test.YtblbkfdhjfppkaaGreatDoorP10N
set_option maxRecDepth 100000
set_option maxHeartbeats 4000000
namespace Go.Proofs.YtblbkfdhjfppkaaGreatDoor
open Hs
open Go.RowKit
def kI(w:World):Prop:=Lib.TabIs Tryz.prog w "internal/strconv.uint64pow10" .u64 Lib.pow10Tab
theorem kI.keep{w w':World}{g:Nat}(h:kI w)(hg:Tryz.prog.globalNamed "internal/strconv.uint64pow10"=some g)(hk:w'.heap[g]?=w.heap[g]?):kI w':=by
 unfold kI Lib.TabIs World.var? at h ⊢
 rw[hg] at h ⊢
 simp only[Option.bind_some] at h ⊢
 rw[hk];exact h
theorem kI.below{w w':World}(h:kI w)(hb:Below w.heap.size w w'):kI w':=by
 cases hg:Tryz.prog.globalNamed "internal/strconv.uint64pow10" with
 |none=>unfold kI Lib.TabIs World.var? at h;rw[hg] at h;cases h
 |some g=>
  refine h.keep hg (hb.block g ?_);unfold kI Lib.TabIs World.var? at h;rw[hg] at h;simp only[Option.bind_some] at h;rcases Nat.lt_or_ge g w.heap.size with h1|h1
  ·exact h1
  ·rw[Array.getElem?_eq_none (by exact h1)] at h
   cases h
theorem wL:∀(f n:Nat) (t:List UInt8),n<10 ^ (f+1)→Hs.digitsF (f+1) n t=Lib.decDigits n++t
 |0,n,t,h=>by
  have h1:n<10:=by simpa using h
  rw[Hs.digitsF,Lib.decDigits,if_pos h1,dif_pos h1];rfl
 |f+1,n,t,h=>by
  rw[Hs.digitsF,Lib.decDigits];by_cases h1:n<10
  ·rw[if_pos h1,dif_pos h1];rfl
  ·rw[if_neg h1,dif_neg h1,wL f (n/10) _ (by rw[Nat.pow_succ] at h;omega)]
   simp
theorem rA(n:Int)(h1: -9223372036854775808≤n)(h2:n≤9223372036854775807):Lib.itoa n=cA n:=by
 unfold Lib.itoa cA;rw[wL 19 n.natAbs [] (by omega),List.append_nil]
 by_cases h:n<0
 ·rw[if_pos h,if_pos h];rfl
 ·rw[if_neg h,if_neg h,List.nil_append,show n.toNat=n.natAbs by omega]
theorem wJ:∀l:List (List UInt8),Lib.join l [44,32]=eZ l
 |[]=>rfl
 |[x]=>by simp[Lib.join,List.intercalate,eZ]
 |x::y::l=>by
  have ih:=wJ (y::l);unfold Lib.join List.intercalate at ih ⊢
  rw[List.intersperse_cons_cons,List.flatten_cons,List.flatten_cons,ih];simp[eZ]
theorem TN(l:List (List UInt8)):Lib.join ((l.map bs).map fun x=>x.data.toList) (bs [44,32]).data.toList=eZ l:=by
 rw[←wJ,List.map_map];have e:((fun x:ByteArray=>x.data.toList) ∘ bs)=id:=funext fun x=>by simp[iV]
 rw[e,List.map_id];simp[iV]
theorem EY(w:World)(x:List UInt8):∀j u,([.string (bs x)]:List Value)[j]?=some u→(w.alloc (.cells #[.string (bs x)] 9)).cell? ((⟨w.heap.size,0,none⟩:Addr).add j)=some u:=by
 intro j v hj;match j,hj with
 |0,hj=>simp at hj;subst hj;simp[Addr.add,go_sem]
 |j+1,hj=>simp at hj
theorem LW(x:List UInt8):∀u∈([.string (bs x)]:List Value),u.oneCell'=true:=by
 intro u hu;simp at hu;rw[hu];rfl
theorem AW:(Tryz.prog.info? 9).map (fun i=>(i.zero,i.size,i.bytes))=some (some (.string ⟨#[]⟩),1,16):=by kernel_rfl
def EN(l:List (List UInt8)):List Value:=l.map fun x=>Value.string (bs x)
def qN(F:Nat→Prop)(k:Nat):Prop:=∀(v:Value) (a:aI) (w:World),PV F w v a→(∀b,F b→b<w.heap.size)→kI w→aJ a≤k→k≤1000000→Calls Tryz.prog 157 #[v] w fun e w'=>e=.returned (.string (bs (cB a)))∧Below w.heap.size w w'
theorem IG(F:Nat→Prop)(k:Nat)(IH:qN F k)(x:Option Addr)(c:Nat)(l:List aI)(w:World)(hl:PVs F w (.slice x l.length c) l)(hF:∀b,F b→b<w.heap.size)(hp:kI w)(hc:(l.map aJ).sum≤k)(hk:k≤1000000):
 Calls Tryz.prog 219 #[.slice x l.length c] w fun e w'=>e=.returned (.string (bs (eZ (l.map cB))))∧Below w.heap.size w w':=by
 obtain⟨i0,hi,hz0,hz1,hz2⟩:=info_parts AW;have hlen:=iS l;have HIH:=aB IH;have HL:=aB hl;have HF:=aB hF;have HP:=aB hp;clear IH hl hF hp;go_enter Tryz.func219,Tryz.ntmps219;go_wp2_with fail;go_loopg [3,5,8] l.length (fun gk s _ i wr=>∃j:Nat,j+gk=l.length∧i=.int .i64 j∧(∃y d,s=.slice y j d)∧wr.ownsRow w.heap.size 9 1 s j (EN ((l.map cB).take j))∧Below w.heap.size w wr)
 case atStart=>exact⟨0,by omega,rfl,⟨none,0,rfl⟩,World.ownsRow_nil _ _ _ _,Below.refl _ _⟩
 case round=>
  obtain⟨j,hj,rfl,⟨y,d,rfl⟩,hown,hbel⟩:=hrel;by_cases hlt:j<l.length
  ·obtain⟨m,rfl⟩:∃m,gk=m+1:=⟨gk-1,by omega⟩
   have hl':=HL.out.keep fun b hb=>hbel.block b (HF.out b hb)
   obtain⟨g,u,rfl,hn,hFg,hg,hcap,hcell,hu⟩:=hl'.get j hlt;have hmem:l[j]∈l:=List.getElem_mem hlt;have hcm:=kU hmem;have HX:=aB (HIH.out u l[j] wr hu (fun b hb=>Nat.lt_of_lt_of_le (HF.out b hb) hbel.size) (HP.out.below hbel) (by omega) (by omega))
   obtain⟨t,u',rfl⟩:=hu.form;have hsz:=hbel.size;have HO:=aB hown;have HB:=aB hbel
   have htk:EN ((l.map cB).take (j+1))=EN ((l.map cB).take j)++[.string (bs (cB l[j]))]:=by
    rw[List.take_succ_eq_append_getElem (by simpa using hlt)];simp[EN]
   have HTK:=aB htk;clear hu hown hbel htk hl';go_wp2_with fail;refine HX.out.mono ?_;rintro e w1 ⟨rfl,hb1⟩;have hsz1:=hb1.size;have hown1:=iA HO.out hb1;have HO1:=aB hown1;clear hown1;generalize cB l[j]=tx at*;go_wp2_with (at_builtin;refine wpList_append_lies _ (by rfl) _ _ 60 (by rfl) w.heap.size 9 i0 _ 1 16 Tryz.underlying60 hi hz0 hz1 hz2 rfl (by decide) (.slice y j d) j _ (by rfl) (HO1.out.alloc _) ⟨w1.heap.size,0,none⟩ 1 1 [.string (bs tx)] (by rfl) (by rfl) (EY w1 _) (LW _) (by decide) (by unfold maxLen;omega) (by omega) (by simp;omega) (w1.heap.size+1) (by simp) ?_)
   intro g4 cap4 w4 hown4 hgrow4 hat4 hg4;have HO4:=aB hown4;have HG4:=aB hgrow4;clear hown4 hgrow4 hat4;go_wp2_with fail;go_roundg m
   case measure=>omega
   case rel=>
    refine⟨j+1,by omega,by go_num,⟨_,_,rfl⟩,by rw[HTK.out];exact HO4.out,?_⟩
    exact((HB.out.trans (hb1.mono (by omega))).alloc (by omega) _).grown HG4.out (by simp;omega) fun k hk=>(HO1.out.lt k hk).1
  ·have hjl:j=l.length:=by omega
   subst hjl;have hsz:=hbel.size;rw[List.take_of_length_le (by simp)] at hown
   have HB:=aB hbel;have hwl:=sO l fun a _=>vQ a
   rcases hown.2 with ⟨r1,r2⟩|⟨g,cp,cur,r1,r2,r3,r4,r5,r6,r7⟩
   ·have e1:l=[]:=List.eq_nil_of_length_eq_zero r2;subst e1;cases r1;clear hown hbel HL HIH;go_wp2_with fail;refine(Tryz.strings_Join_none _ _ _ _).mono ?_;rintro e w1 ⟨rfl,rfl⟩;go_wp2_with fail;go_ret;exact⟨rfl,HB.out⟩
   ·cases r1
    have HJ:=aB (Tryz.strings_Join g 0 d ((l.map cB).map bs) (bs [44,32]) wr (fun i x hx=>by
     refine aA r3 ?_
     have e2:(EN (l.map cB))[i]?=some (.string x):=by
      unfold EN;rw[List.getElem?_map] at hx ⊢
      obtain⟨y,hy,rfl⟩:=Option.map_eq_some_iff.1 hx;rw[hy];rfl
     have hil:i<l.length:=by
      have:=(List.getElem?_eq_some_iff.1 hx).1;simpa using this
     rw[←r7,List.getElem?_take,if_pos (by omega)] at e2
     simpa using e2) (aD r3) (by simp;omega) (by simpa using r4) (by rw[TN];omega))
    have hln:((l.map cB).map bs).length=l.length:=by simp
    rw[hln,TN] at HJ;clear hown hbel HL HIH r3 r6 r7;go_wp2_with fail;refine HJ.out.mono ?_;rintro e w1 ⟨rfl,hb1⟩;go_wp2_with fail;go_ret;exact⟨rfl,HB.out.trans (hb1.mono (by omega))⟩
theorem AZ{w w':World}{k:Nat}{os:Array Obj}(h:w'=Sort.grow (w.drewN k) os):Below w.heap.size w w':=by
 subst h;refine⟨rfl,rfl,rfl,?_,fun i hi=>?_⟩
 ·show w.heap.size≤(w.heap++os).size
  rw[Array.size_append];omega
 ·show (w.heap++os)[i]?=w.heap[i]?
  rw[Array.getElem?_append_left hi]
theorem XI:(⟨(Lib.formatBool false).toArray⟩:ByteArray)=bs [102,97,108,115,101]:=by kernel_rfl
theorem YZ:(⟨(Lib.formatBool true).toArray⟩:ByteArray)=bs [116,114,117,101]:=by kernel_rfl
theorem DF(F:Nat→Prop)(k:Nat)(IH:qN F k):qN F (k+1):=by
 intro v a w h hF hp hc hk;rcases h.cases with ⟨n,rfl,rfl,h1,h2⟩|⟨b,rfl,rfl⟩|⟨s,rfl,rfl⟩|⟨x,c,l,rfl,rfl,hl⟩
 ·have q:=kN;have hw:cB (bB n)=cA n:=by rw[jB];rfl
  have HX:=aB (Tryz.strconv_FormatInt_10 n h1 h2 w hp);rw[hw];clear h IH hc hp;go_enter Tryz.func157,Tryz.ntmps157;go_wp2_with fail;refine HX.out.mono ?_;rintro e w1 ⟨rfl,k1,os,hw1⟩;have hb:=AZ hw1;clear hw1;go_wp2_with fail;go_ret;exact⟨by rw[rA n h1 h2];rfl,hb⟩
 ·have q:=jQ;have q':=sR;have hw:cB (bL b)=if b then [116,114,117,101] else [102,97,108,115,101]:=by rw[jB];cases b<;>rfl
  rw[hw];clear h IH hc hp;cases b
  all_goals
   go_enter Tryz.func157,Tryz.ntmps157;go_wp2_with fail;refine(Tryz.strconv_FormatBool _ _).mono ?_;rintro e w1 ⟨rfl,rfl⟩;go_wp2_with fail;go_ret;exact⟨by first|(rw[XI];rfl)|(rw[YZ];rfl),Below.refl _ _⟩
 ·have q:=kM;have q':=vR;have q'':=jK;have hw:cB (bH s)=[34]++s++[34]:=by rw[jB];rfl
  have hs:(bs s).size=s.length:=gX s;rw[jX] at hc;rw[hw];clear h IH hp;go_enter Tryz.func157,Tryz.ntmps157;go_wp2_with fail;go_ret;refine⟨?_,Below.refl _ _⟩;show Ending.returned (.string ((⟨#[34]⟩:ByteArray)++bs s++(⟨#[34]⟩:ByteArray)))=_
  rw[VA,VB];rfl
 ·have q:=jO;have q':=sQ;have q'':=kY;have q''':=gD;have hw:cB (aU l)=[91]++eZ (l.map cB)++[93]:=by rw[jB];rfl
  have hwl:=sO l fun a _=>vQ a
  rw[iC] at hc;have HX:=aB (IG F k IH x c l w hl hF hp (by omega) (by omega))
  have hs:(bs (eZ (l.map cB))).size=(eZ (l.map cB)).length:=gX _;rw[hw];generalize eZ (l.map cB)=tx at*;clear h IH hp hl hF;go_enter Tryz.func157,Tryz.ntmps157;go_wp2_with fail;refine HX.out.mono ?_;rintro e w1 ⟨rfl,hb⟩;go_wp2_with fail;go_ret;refine⟨?_,hb⟩;show Ending.returned (.string (bs [91]++bs tx++bs [93]))=_
  rw[jY,jY];rfl
theorem tJ(F:Nat→Prop):∀k,qN F k
 |0=>fun v a w _ _ _ h=>by have:=qM a;omega
 |k+1=>DF F k (tJ F k)
theorem VF(F:Nat→Prop)(v:Value)(a:aI)(w:World)(h:PV F w v a)(hF:∀b,F b→b<w.heap.size)(hp:kI w)(hc:aJ a≤100000):
 Calls Tryz.prog 409 #[v] w fun e w'=>e=.returned (.string (bs (jC a)))∧Below w.heap.size w w':=by
 have HX:=aB (tJ F 100000 v a w h hF hp hc (by omega))
 rcases h.cases with ⟨n,rfl,rfl,h1,h2⟩|⟨b,rfl,rfl⟩|⟨s,rfl,rfl⟩|⟨x,c,l,rfl,rfl,hl⟩
 ·have q:=lU;have hw:jC (bB n)=cB (bB n):=rfl;rw[hw];generalize cB (bB n)=tx at*;clear h hF hp hc;go_enter Tryz.func409,Tryz.ntmps409;go_wp2_with fail;refine HX.out.mono ?_;rintro e w1 ⟨rfl,hb⟩;go_wp2_with fail;go_ret;exact⟨rfl,hb⟩
 ·have q:=jP;have hw:jC (bL b)=cB (bL b):=rfl;rw[hw];generalize cB (bL b)=tx at*;clear h hF hp hc;go_enter Tryz.func409,Tryz.ntmps409;go_wp2_with fail;refine HX.out.mono ?_;rintro e w1 ⟨rfl,hb⟩;go_wp2_with fail;go_ret;exact⟨rfl,hb⟩
 ·have q:=jK;have hw:jC (bH s)=s:=rfl;rw[hw];clear h hF hp hc HX;go_enter Tryz.func409,Tryz.ntmps409;go_wp2_with fail;go_ret;exact⟨rfl,Below.refl _ _⟩
 ·have q:=kY;have hw:jC (aU l)=cB (aU l):=rfl;rw[hw];generalize cB (aU l)=tx at*;clear h hF hp hc hl;go_enter Tryz.func409,Tryz.ntmps409;go_wp2_with fail;refine HX.out.mono ?_;rintro e w1 ⟨rfl,hb⟩;go_wp2_with fail;go_ret;exact⟨rfl,hb⟩
theorem ZU(F:Nat→Prop)(v:Value)(a:aI)(w:World)(h:PV F w v a)(hu:bM a)(hc:aJ a≤1000000):Calls Tryz.prog 399 #[v] w (eH F w (dT a)):=by
 rcases h.cases with ⟨m,rfl,rfl,h1,h2⟩|⟨b,rfl,rfl⟩|⟨s,rfl,rfl⟩|⟨x,c,l,rfl,rfl,hl⟩
 ·have q:=iG;have q':=lU;have hr:dT (bB m)=(bK,2):=rfl;rw[hr];clear h hu hc;go_enter Tryz.func399,Tryz.ntmps399;go_wp2_with fail;exact⟨rfl,eH.stop (Below.refl _ _) rfl (by decide)⟩
 ·have q:=gE;have q':=jP;have hr:dT (bL b)=(bK,2):=rfl;rw[hr];clear h hu hc;go_enter Tryz.func399,Tryz.ntmps399;go_wp2_with fail;exact⟨rfl,eH.stop (Below.refl _ _) rfl (by decide)⟩
 ·have q:=jN;have q':=jK;have ht:cL s:=hu.txt;have hr:dT (bH s)=(bB (dO s).length,0):=rfl;have hs:(bs s).size=s.length:=gX s;rw[jX] at hc;have hlen:=rK s
  have hcn:Lib.runeCount (bs s)=(dO s).length:=by
   unfold Lib.runeCount;have hd:(bs s).data.toList=s:=by simp[iV]
   rw[wM (bs s) (bs s).size 0 (by omega) (by rw[hd];exact ht),hd];rfl
  have HX:=aB (Tryz.utf8_RuneCountInString (bs s) w (by omega))
  rw[hcn] at HX;rw[hr];clear h hu hcn;go_enter Tryz.func399,Tryz.ntmps399;go_wp2_with fail;refine HX.out.mono ?_;rintro e w1 ⟨rfl,pos,hw1⟩;have hb:Below w.heap.size w w1:=by rw[hw1];exact(Below.refl _ w).alloc (Nat.le_refl _) _
  clear hw1;go_wp2_with fail;go_ret;exact eH.ok hb rfl (PV.num _ _ _ (by omega) (by omega))
 ·have q:=gD;have hr:dT (aU l)=(bB l.length,0):=rfl;have hlen:=iS l;rw[iC] at hc;rw[hr];clear h hu hl;go_enter Tryz.func399,Tryz.ntmps399;go_wp2_with fail;go_ret;exact eH.ok (Below.refl _ _) rfl (PV.num _ _ _ (by omega) (by omega))
theorem ZV(F:Nat→Prop)(x:Option Addr)(c:Nat)(l:List aI)(v:Value)(b:aI)(w:World)(hl:PVs F w (.slice x l.length c) l)(hv:PV F w v b)(hc:l.length≤1000000):Calls Tryz.prog 381 #[.iface 319 (.slice x l.length c),v] w (eH F w (cV (aU l) b)):=by
 have q:=gD;have HX:=aB (sE F v b l.length w hv (by omega))
 obtain⟨t,z,rfl⟩:=hv.form;have HL:=aB hl
 have hr:cV (aU l) b=if b.sort≠0 then (bK,2) else if b.n<0∨(l.length:Int)≤b.n then (bK,4) else (l.getD b.n.toNat bK,0):=by
  simp[cV,iP,aU]
 have HR:=aB hr;generalize cV (aU l) b=r at HR;clear hv hl hr;go_enter Tryz.func381,Tryz.ntmps381;go_wp2_with fail;refine HX.out.mono ?_;rintro e w1 ⟨rfl,⟨h1,rfl⟩|⟨h1,h2,rfl⟩|⟨h1,k,h2,h3,rfl⟩⟩
 ·go_wp2_with fail;exact⟨rfl,eH.stop (Below.refl _ _) (HR.out.trans (if_pos h1)) (by decide)⟩
 ·go_wp2_with fail;exact⟨rfl,eH.stop (Below.refl _ _) (HR.out.trans ((if_neg (fun h=>h h1)).trans (if_pos h2))) (by decide)⟩
 ·obtain⟨g,u,rfl,_,hF,hg,hcap,hcell,hu⟩:=HL.out.get k h2;obtain⟨t',z',rfl⟩:=hu.form;have HU:=aB hu;have hget:l.getD b.n.toNat bK=l[k]:=by rw[h3];simp[h2]
  have hres:r=(l[k],0):=by rw[HR.out,if_neg (fun h=>h h1),if_neg (by omega),hget]
  have HRes:=aB hres;have e1:(0:Int)≤(k:Int):=by omega
  have e2:(k:Int)<(l.length:Int):=by omega
  clear hu hget hres HL HX;go_wp2_with fail;go_ret;exact eH.ok (Below.refl _ _) HRes.out (HU.out.mono fun k hk=>Or.inl hk)
theorem XW(r:Nat)(W:World):(convert 21 318 (.int .i32 (r:Int))).run Tryz.prog W=.ok (.string (bs (BG r))) W:=by
 have henc:Utf8.encode (Int.ofNat r)=bs (BG r):=by
  have:∀x:ByteArray,x=bs x.data.toList:=fun x=>by cases x;simp[bs]
  exact this _
 rw[Int.ofNat_eq_natCast] at henc;simp[convert,run_underlying Tryz.underlying21,run_underlying Tryz.underlying318,Conv.intToString,henc]
theorem J2(F:Nat→Prop)(s:List UInt8)(v:Value)(b:aI)(w:World)(hv:PV F w v b)(ht:cL s)(hc:s.length≤1000000)(hF:∀k,F k→k<w.heap.size):Calls Tryz.prog 381 #[.iface 318 (.string (bs s)),v] w (eH F w (cV (bH s) b)):=by
 have q:=jN;have q':=jK;have hs:(bs s).size=s.length:=gX s;have hd:(bs s).data.toList=s:=by simp[iV]
 obtain⟨rs,r1,r2,r3,r4⟩:=wA (bs s) (bs s).size 0 #[] (by omega) (by rw[hd];exact ht)
 rw[List.drop_zero,hd] at r2 r4;have hsz:(Conv.runesFrom (bs s) (bs s).size 0 #[]).size=rs.length:=by rw[r1];simp
 have hcl:=rK s;have hconv:=run_runes_of_string (P:=Tryz.prog) w 318 498 21 (bs s) Tryz.underlying318 Tryz.underlying498 Tryz.underlying21 (by rw[hsz];omega)
 rw[hsz,r1] at hconv;generalize grownCap w rs.length 0 21=cp at hconv;generalize hob:(Obj.cells ((#[]++(rs.map fun r=>Value.int .i32 (Int.ofNat r)).toArray)++Array.replicate (cp-rs.length) (.int .i32 0)) 21)=ob at hconv
 have hcell:∀k (h:k<rs.length),(w.drew.alloc ob).cell? ⟨w.heap.size,k,none⟩=some (.int .i32 ((rs[k]:Nat):Int)):=fun k h=>by
  rw[←hob];refine aA (aR _ _ rfl _) ?_;rw[Array.getElem?_append_left (by simpa using h)]
  simp[h]
 have hb:Below w.heap.size w (w.drew.alloc ob):=((Below.refl _ w).drew).alloc (Nat.le_refl _) _;have HX:=aB (sE F v b rs.length (w.drew.alloc ob) (hv.keep fun k hk=>hb.block k (hF k hk)) (by omega))
 obtain⟨t,z,rfl⟩:=hv.form
 have hr:cV (bH s) b=if b.sort≠0 then (bK,2) else if b.n<0∨(rs.length:Int)≤b.n then (bK,4) else (((dO s).map bH).getD b.n.toNat bK,0):=by
  rw[r2];simp[cV,iP,bH]
 have HR:=aB hr;have hrn:rs.length≤1000000:=by omega
 have R2:=aB r2;have R4:=aB r4;have HC:=aB hcell;have HB:=aB hb;generalize cV (bH s) b=r at HR;generalize hw1:w.drew.alloc ob=w1 at hconv HX HC HB;have hcl1:w.heap.size<w1.heap.size:=by rw[←hw1];simp
 clear hv hr hcell hb hw1 hob r1 hsz hd r2 r4 hcl;go_enter Tryz.func381,Tryz.ntmps381;go_wp2_with fail;refine HX.out.mono ?_;rintro e w2 ⟨rfl,⟨h1,rfl⟩|⟨h1,h2,rfl⟩|⟨h1,k,h2,h3,rfl⟩⟩
 ·go_wp2_with fail;exact⟨rfl,eH.stop HB.out (HR.out.trans (if_pos h1)) (by decide)⟩
 ·go_wp2_with fail;exact⟨rfl,eH.stop HB.out (HR.out.trans ((if_neg (fun h=>h h1)).trans (if_pos h2))) (by decide)⟩
 ·have hce:=HC.out k h2;have r2:=R2.out;have r4:=R4.out
  have hre:BG rs[k]=(dO s)[k]'(by omega):=by
   have:(rs.map BG)[k]?=(dO s)[k]?:=by rw[r4]
   rw[List.getElem?_map,List.getElem?_eq_getElem h2,List.getElem?_eq_getElem (by omega)] at this
   simpa using this
  have hget:((dO s).map bH).getD b.n.toNat bK=bH (BG rs[k]):=by
   rw[hre,h3];have hk':k<(dO s).length:=by omega
   simp[hk']
  have hres:r=(bH (BG rs[k]),0):=by rw[HR.out,if_neg (fun h=>h h1),if_neg (by omega),hget]
  have hcv:=XW rs[k] w2;have HRes:=aB hres;have e1:(0:Int)≤(k:Int):=by omega
  have e2:(k:Int)<(rs.length:Int):=by omega
  clear hget hres hre HX HC r2 r4;generalize rs[k]=rk at*;go_wp2_with fail;go_ret;exact eH.ok HB.out HRes.out (PV.str _ _ _)
theorem J3(F:Nat→Prop)(u v:Value)(a b:aI)(w:World)(hu:PV F w u a)(hv:PV F w v b)(ht:bM a)(hc:aJ a≤1000000)(hF:∀k,F k→k<w.heap.size):Calls Tryz.prog 381 #[u,v] w (eH F w (cV a b)):=by
 rcases hu.cases with ⟨m,rfl,rfl,h1,h2⟩|⟨x,rfl,rfl⟩|⟨s,rfl,rfl⟩|⟨x,c,l,rfl,rfl,hl⟩
 ·have q:=iG;have q':=lU;have hr:cV (bB m) b=(bK,2):=by simp[cV,bB]
  rw[hr];obtain⟨t,z,rfl⟩:=hv.form;clear hu hv ht hc hF hr;go_enter Tryz.func381,Tryz.ntmps381;go_wp2_with fail;exact⟨rfl,eH.stop (Below.refl _ _) rfl (by decide)⟩
 ·have q:=gE;have q':=jP;have hr:cV (bL x) b=(bK,2):=by simp[cV,bL]
  rw[hr];obtain⟨t,z,rfl⟩:=hv.form;clear hu hv ht hc hF hr;go_enter Tryz.func381,Tryz.ntmps381;go_wp2_with fail;exact⟨rfl,eH.stop (Below.refl _ _) rfl (by decide)⟩
 ·rw[jX] at hc;exact J2 F s v b w hv ht.txt (by omega) hF
 ·rw[iC] at hc;have:=iS l;exact ZV F x c l v b w hl hv (by omega)
theorem SA(n m:Int)(w:World):(binOp .eql 256 (.iface 315 (.int .i64 n)) (.iface 315 (.int .i64 m))).run Tryz.prog w=.ok (.bool (n==m)) w:=by kernel_rfl
theorem JE(n m:Bool)(w:World):(binOp .eql 256 (.iface 316 (.bool n)) (.iface 316 (.bool m))).run Tryz.prog w=.ok (.bool (n==m)) w:=by kernel_rfl
theorem NJ(n m:ByteArray)(w:World):(binOp .eql 256 (.iface 318 (.string n)) (.iface 318 (.string m))).run Tryz.prog w=.ok (.bool (n==m)) w:=by kernel_rfl
theorem RX(a b:List UInt8)(w:World):(binOp .eql 256 (.iface 318 (.string (bs a))) (.iface 318 (.string (bs b)))).run Tryz.prog w=.ok (.bool (a==b)) w:=by
 rw[NJ];have h:(bs a==bs b)=((bs a).data==(bs b).data):=rfl;rw[h];simp[bs]
theorem NN(u v:Value)(w:World):(binOp .eql 256 (.iface 315 u) (.iface 316 v)).run Tryz.prog w=.ok (.bool false) w:=by kernel_rfl
theorem RZ(u v:Value)(w:World):(binOp .eql 256 (.iface 315 u) (.iface 318 v)).run Tryz.prog w=.ok (.bool false) w:=by kernel_rfl
theorem NM(u v:Value)(w:World):(binOp .eql 256 (.iface 315 u) (.iface 319 v)).run Tryz.prog w=.ok (.bool false) w:=by kernel_rfl
theorem NP(u v:Value)(w:World):(binOp .eql 256 (.iface 316 u) (.iface 315 v)).run Tryz.prog w=.ok (.bool false) w:=by kernel_rfl
theorem NO(u v:Value)(w:World):(binOp .eql 256 (.iface 316 u) (.iface 318 v)).run Tryz.prog w=.ok (.bool false) w:=by kernel_rfl
theorem JD(u v:Value)(w:World):(binOp .eql 256 (.iface 316 u) (.iface 319 v)).run Tryz.prog w=.ok (.bool false) w:=by kernel_rfl
theorem RY(u v:Value)(w:World):(binOp .eql 256 (.iface 318 u) (.iface 315 v)).run Tryz.prog w=.ok (.bool false) w:=by kernel_rfl
theorem NL(u v:Value)(w:World):(binOp .eql 256 (.iface 318 u) (.iface 316 v)).run Tryz.prog w=.ok (.bool false) w:=by kernel_rfl
theorem NK(u v:Value)(w:World):(binOp .eql 256 (.iface 318 u) (.iface 319 v)).run Tryz.prog w=.ok (.bool false) w:=by kernel_rfl
theorem lY{a b:aI}(h:a=b):cD a b=true:=(vZ a b).2 h
theorem dH{a b:aI}(h:a≠b):cD a b=false:=by
 cases hs:cD a b
 ·rfl
 ·exact absurd ((vZ a b).1 hs) h
theorem yP{l m:List aI}:aU l=aU m↔l=m:=by simp[aU]
def yM(F:Nat→Prop)(k:Nat):Prop:=∀(u v:Value) (a b:aI) (w:World),PV F w u a→PV F w v b→aJ a≤k→k≤1000000000→aJ b≤1000000000→
 Calls Tryz.prog 389 #[u,v] w fun e w'=>w'=w∧e=.returned (.bool (cD a b))
theorem AN(F:Nat→Prop)(k:Nat)(IH:yM F k)(x y:Option Addr)(c d:Nat)(l m:List aI)(w:World)(hl:PVs F w (.slice x l.length c) l)(hm:PVs F w (.slice y m.length d) m)(hc:aJ (aU l)≤k+1)(hk:k≤1000000000)(hd:aJ (aU m)≤1000000000):
 Calls Tryz.prog 393 #[.slice x l.length c,.slice y m.length d,.func (.func 389) #[] #[]] w fun e w'=>w'=w∧e=.returned (.bool (cD (aU l) (aU m))):=by
 have h1:=iS l;have h2:=iS m;rw[iC] at hc hd;by_cases hlen:l.length=m.length
 ·have hne:((l.length:Int) != (l.length:Int))=false:=by simp
  rw[←hlen] at hm ⊢
  have HL:=aB hl;have HM:=aB hm;have HIH:=aB IH;have HLN:=aB hlen;clear hl hm IH hlen;go_enter Tryz.func393,Tryz.ntmps393;go_wp2_with fail;go_loopg [6,7,8,9,17] l.length (fun gk _ _ _ _ i wr=>∃j:Nat,j+gk=l.length∧i=.int .i64 j∧wr=w∧Hid (l.take j=m.take j))
  case atStart=>exact⟨0,by omega,rfl,rfl,by simp[Hid]⟩
  case round=>
   obtain⟨j,hj,rfl,rfl,HT⟩:=hrel;by_cases hlt:j<l.length
   ·obtain⟨q,rfl⟩:∃q,gk=q+1:=⟨gk-1,by omega⟩
    obtain⟨g,u,rfl,hn,hF,hg,hcap,hcell,hu⟩:=HL.out.get j hlt;obtain⟨g',u',rfl,hn',hF',hg',hcap',hcell',hu'⟩:=HM.out.get j (by rw[←HLN.out];exact hlt)
    have hcm:=kU (List.getElem_mem hlt);have hjm:j<m.length:=by rw[←HLN.out];exact hlt
    have hcm':=kU (List.getElem_mem hjm);have HX:=aB (HIH.out u u' l[j] (m[j]'hjm) wr hu hu' (by omega) hk (by omega))
    obtain⟨t,z,rfl⟩:=hu.form;obtain⟨t',z',rfl⟩:=hu'.form;have htk:l.take (j+1)=l.take j++[l[j]]:=List.take_succ_eq_append_getElem hlt;have htk':m.take (j+1)=m.take j++[m[j]'hjm]:=List.take_succ_eq_append_getElem hjm;have hgl:l[j]?=some l[j]:=List.getElem?_eq_getElem hlt;have hgm:m[j]?=some (m[j]'hjm):=List.getElem?_eq_getElem hjm;generalize l[j]=a at*;generalize m[j]'hjm=b at*;clear hu hu' hcm hcm' hn hn';by_cases hab:a=b
    ·rw[lY hab] at HX;have HT2:Hid (l.take (j+1)=m.take (j+1)):=by show _=_;rw[htk,htk',HT.out,hab]
     clear htk htk' hgl hgm HT hab;go_wp2_with fail;refine HX.out.mono ?_;rintro e w1 ⟨rfl,rfl⟩;go_wp2_with fail;go_roundg q
     case measure=>omega
     case rel=>exact⟨j+1,by omega,by go_num,rfl,HT2⟩
    ·rw[dH hab] at HX;have HN:Hid (l≠m):=by show _≠_;intro e;rw[e,hgm] at hgl;cases hgl;exact hab rfl
     clear htk htk' hgl hgm HT hab;go_wp2_with fail;refine HX.out.mono ?_;rintro e w1 ⟨rfl,rfl⟩;go_wp2_with fail;go_ret;exact⟨rfl,by rw[dH fun e=>HN.out (yP.1 e)];rfl⟩
   ·have HE:Hid (l=m):=by
     show _=_
     have:=HT.out;rw[List.take_of_length_le (by omega),List.take_of_length_le (by rw[←HLN.out];omega)] at this
     exact this
    go_wp2_with fail;go_ret;exact⟨rfl,by rw[lY (yP.2 HE.out)];rfl⟩
 ·have hne:((l.length:Int) != (m.length:Int))=true:=by simp;omega
  have HN:Hid (l≠m):=by show _≠_;intro e;exact hlen (by rw[e])
  clear hl hm IH;go_enter Tryz.func393,Tryz.ntmps393;go_wp2_with fail;go_ret;exact⟨rfl,by rw[dH fun e=>HN.out (yP.1 e)];rfl⟩
theorem LP(F:Nat→Prop)(k:Nat)(IH:yM F k):yM F (k+1):=by
 intro u v a b w hu hv hc hk hd;rcases hu.cases with ⟨n,rfl,rfl,h1,h2⟩|⟨s,rfl,rfl⟩|⟨s,rfl,rfl⟩|⟨x,c,l,rfl,rfl,hl⟩
 ·have q:=iG;rcases hv.cases with ⟨n',rfl,rfl,_,_⟩|⟨s',rfl,rfl⟩|⟨s',rfl,rfl⟩|⟨x',c',l',rfl,rfl,_⟩
  ·have q2:=SA
   have HS:Hid (cD (bB n) (bB n')=(n==n')):=by
    show _=_
    by_cases e:n=n'
    ·rw[lY (by rw[e]),e,beq_self_eq_true]
    ·rw[dH (by simp[bB,e]),beq_eq_false_iff_ne.2 e]
   clear hu hv IH hc hd;generalize cD (bB n) (bB n')=r at*;go_enter Tryz.func389,Tryz.ntmps389;go_wp2_with fail;go_ret;exact⟨rfl,by rw[HS.out];rfl⟩
  ·have q2:=NN;have HS:Hid (cD (bB n) (bL s')=false):=dH (by simp[bB,bL])
   clear hu hv IH hc hd;generalize cD (bB n) (bL s')=r at*;go_enter Tryz.func389,Tryz.ntmps389;go_wp2_with fail;go_ret;exact⟨rfl,by rw[HS.out];rfl⟩
  ·have q2:=RZ;have HS:Hid (cD (bB n) (bH s')=false):=dH (by simp[bB,bH])
   clear hu hv IH hc hd;generalize cD (bB n) (bH s')=r at*;go_enter Tryz.func389,Tryz.ntmps389;go_wp2_with fail;go_ret;exact⟨rfl,by rw[HS.out];rfl⟩
  ·have q2:=NM;have HS:Hid (cD (bB n) (aU l')=false):=dH (by simp[bB,aU])
   clear hu hv IH hc hd;generalize cD (bB n) (aU l')=r at*;go_enter Tryz.func389,Tryz.ntmps389;go_wp2_with fail;go_ret;exact⟨rfl,by rw[HS.out];rfl⟩
 ·have q:=gE;rcases hv.cases with ⟨n',rfl,rfl,_,_⟩|⟨s',rfl,rfl⟩|⟨s',rfl,rfl⟩|⟨x',c',l',rfl,rfl,_⟩
  ·have q2:=NP;have HS:Hid (cD (bL s) (bB n')=false):=dH (by simp[bL,bB])
   clear hu hv IH hc hd;generalize cD (bL s) (bB n')=r at*;go_enter Tryz.func389,Tryz.ntmps389;go_wp2_with fail;go_ret;exact⟨rfl,by rw[HS.out];rfl⟩
  ·have q2:=JE
   have HS:Hid (cD (bL s) (bL s')=(s==s')):=by
    show _=_
    cases s<;>cases s'<;>first|exact lY rfl|exact dH (by simp[bL])
   clear hu hv IH hc hd;generalize cD (bL s) (bL s')=r at*;go_enter Tryz.func389,Tryz.ntmps389;go_wp2_with fail;go_ret;exact⟨rfl,by rw[HS.out];rfl⟩
  ·have q2:=NO;have HS:Hid (cD (bL s) (bH s')=false):=dH (by simp[bL,bH])
   clear hu hv IH hc hd;generalize cD (bL s) (bH s')=r at*;go_enter Tryz.func389,Tryz.ntmps389;go_wp2_with fail;go_ret;exact⟨rfl,by rw[HS.out];rfl⟩
  ·have q2:=JD;have HS:Hid (cD (bL s) (aU l')=false):=dH (by simp[bL,aU])
   clear hu hv IH hc hd;generalize cD (bL s) (aU l')=r at*;go_enter Tryz.func389,Tryz.ntmps389;go_wp2_with fail;go_ret;exact⟨rfl,by rw[HS.out];rfl⟩
 ·have q:=jN;rcases hv.cases with ⟨n',rfl,rfl,_,_⟩|⟨s',rfl,rfl⟩|⟨s',rfl,rfl⟩|⟨x',c',l',rfl,rfl,_⟩
  ·have q2:=RY;have HS:Hid (cD (bH s) (bB n')=false):=dH (by simp[bH,bB])
   clear hu hv IH hc hd;generalize cD (bH s) (bB n')=r at*;go_enter Tryz.func389,Tryz.ntmps389;go_wp2_with fail;go_ret;exact⟨rfl,by rw[HS.out];rfl⟩
  ·have q2:=NL;have HS:Hid (cD (bH s) (bL s')=false):=dH (by simp[bH,bL])
   clear hu hv IH hc hd;generalize cD (bH s) (bL s')=r at*;go_enter Tryz.func389,Tryz.ntmps389;go_wp2_with fail;go_ret;exact⟨rfl,by rw[HS.out];rfl⟩
  ·have q2:=RX
   have HS:Hid (cD (bH s) (bH s')=(s==s')):=by
    show _=_
    by_cases e:s=s'
    ·rw[lY (by rw[e]),e,beq_self_eq_true]
    ·rw[dH (by simp[bH,e]),beq_eq_false_iff_ne.2 e]
   clear hu hv IH hc hd;generalize cD (bH s) (bH s')=r at*;go_enter Tryz.func389,Tryz.ntmps389;go_wp2_with fail;go_ret;exact⟨rfl,by rw[HS.out];rfl⟩
  ·have q2:=NK;have HS:Hid (cD (bH s) (aU l')=false):=dH (by simp[bH,aU])
   clear hu hv IH hc hd;generalize cD (bH s) (aU l')=r at*;go_enter Tryz.func389,Tryz.ntmps389;go_wp2_with fail;go_ret;exact⟨rfl,by rw[HS.out];rfl⟩
 ·have q:=gD;rcases hv.cases with ⟨n',rfl,rfl,_,_⟩|⟨s',rfl,rfl⟩|⟨s',rfl,rfl⟩|⟨x',c',l',rfl,rfl,hl'⟩
  ·have q2:=iG;have HS:Hid (cD (aU l) (bB n')=false):=dH (by simp[aU,bB])
   clear hu hv hl IH hc hd;generalize cD (aU l) (bB n')=r at*;go_enter Tryz.func389,Tryz.ntmps389;go_wp2_with fail;go_ret;exact⟨rfl,by rw[HS.out];rfl⟩
  ·have q2:=gE;have HS:Hid (cD (aU l) (bL s')=false):=dH (by simp[aU,bL])
   clear hu hv hl IH hc hd;generalize cD (aU l) (bL s')=r at*;go_enter Tryz.func389,Tryz.ntmps389;go_wp2_with fail;go_ret;exact⟨rfl,by rw[HS.out];rfl⟩
  ·have q2:=jN;have HS:Hid (cD (aU l) (bH s')=false):=dH (by simp[aU,bH])
   clear hu hv hl IH hc hd;generalize cD (aU l) (bH s')=r at*;go_enter Tryz.func389,Tryz.ntmps389;go_wp2_with fail;go_ret;exact⟨rfl,by rw[HS.out];rfl⟩
  ·have HX:=aB (AN F k IH x x' c c' l l' w hl hl' hc (by omega) hd)
   clear hu hv hl hl' IH hc hd;generalize cD (aU l) (aU l')=r at*;go_enter Tryz.func389,Tryz.ntmps389;go_wp2_with fail;refine HX.out.mono ?_;rintro e w1 ⟨rfl,rfl⟩;go_wp2_with fail;go_ret;exact⟨rfl,rfl⟩
theorem sF(F:Nat→Prop):∀k,yM F k
 |0=>fun u v a b w _ _ h=>by have:=qM a;omega
 |k+1=>LP F k (sF F k)
theorem eH.ofQ{F:Nat→Prop}{w w':World}{r:aI × Nat}{e:Ending}(h:kK F w r e w'):eH F w r e w':=by
 obtain⟨rfl,⟨h1,u,h2,h3⟩|⟨h1,h2⟩⟩:=h
 ·exact⟨Below.refl _ _,Or.inl ⟨h1,u,h2,h3.mono fun _ hb=>Or.inl hb⟩⟩
 ·exact⟨Below.refl _ _,Or.inr ⟨h1,h2⟩⟩
theorem YX{op:List UInt8}(h1:op≠[61,61])(h2:op≠[33,61])(n m:Int):eG op (bB n) (bB m)=iL op n m:=by
 unfold eG;rw[if_neg h1,if_neg h2,if_neg (by simp[bB]),if_pos (by simp[bB])];rfl
theorem YW{op:List UInt8}(h1:op≠[61,61])(h2:op≠[33,61])(a b:List UInt8):eG op (bH a) (bH b)=EO op a b:=by
 unfold eG EO iK;rw[if_neg h1,if_neg h2,if_neg (by simp[bH]),if_neg (by simp[bH])]
 by_cases o0:op=[60]
 ·rw[if_neg (by rw[o0];decide),if_pos ⟨rfl,o0⟩,if_pos o0];rfl
 by_cases o1:op=[60,61]
 ·rw[if_neg (by rw[o1];decide),if_neg (fun h=>o0 h.2),if_pos ⟨rfl,o1⟩,if_neg o0,if_pos o1];rfl
 by_cases o2:op=[43]
 ·rw[if_pos o2,if_neg o0,if_neg o1,if_pos o2];have e:(if (bH a).sort=3 then aU ((bH a).l++(bH b).l) else bH ((bH a).s++(bH b).s))=bH (a++b):=rfl
  simp only[e]
 ·rw[if_neg o2,if_neg (fun h=>o0 h.2),if_neg (fun h=>o1 h.2),if_neg o0,if_neg o1,if_neg o2]
theorem UH{op:List UInt8}(h1:op≠[61,61])(h2:op≠[33,61])(a b:List aI):eG op (aU a) (aU b)=vA op a b:=by
 unfold eG vA iK;rw[if_neg h1,if_neg h2,if_neg (by simp[aU]),if_neg (by simp[aU])]
 by_cases o2:op=[43]
 ·rw[if_pos o2,if_pos o2];have e:(if (aU a).sort=3 then aU ((aU a).l++(aU b).l) else bH ((aU a).s++(aU b).s))=aU (a++b):=rfl
  simp only[e]
 ·rw[if_neg o2,if_neg o2,if_neg (by simp[aU]),if_neg (by simp[aU])]
theorem fT{op:List UInt8}(h1:op≠[61,61])(h2:op≠[33,61]){a b:aI}(h:a.sort≠b.sort∨a.sort=1):eG op a b=(bK,2):=by
 unfold eG;rw[if_neg h1,if_neg h2,if_pos h]
theorem LT(op:List UInt8)(F:Nat→Prop)(u v:Value)(a b:aI)(w:World)(hu:PV F w u a)(hv:PV F w v b)(hF:∀k,F k→k<w.heap.size)(hca:aJ a≤400000)(hcb:aJ b≤400000):
 Calls Tryz.prog 388 #[.string (bs op),u,v] w (eH F w (eG op a b)):=by
 have hbt:=bZ op;by_cases o0:op=[61,61]
 ·have e0:((bs op).toList==[61,61])=true:=by rw[hbt,o0];rfl
  have HP:Hid (eG op a b=(bL (cD a b),0)):=by show _=_;unfold eG;rw[if_pos o0]
  have HX:=aB (sF F 400000 u v a b w hu hv hca (by omega) (by omega))
  obtain⟨t,z,rfl⟩:=hu.form;obtain⟨t',z',rfl⟩:=hv.form;clear hu hv hbt o0;rw[HP.out];generalize cD a b=s at*;go_enter Tryz.func388,Tryz.ntmps388;go_wp2_with fail;refine HX.out.mono ?_;rintro e w1 ⟨rfl,rfl⟩;go_wp2_with fail;go_ret;exact eH.ok (Below.refl _ _) rfl (PV.tru _ _ s)
 have e0:((bs op).toList==[61,61])=false:=by rw[hbt];simpa using o0
 by_cases o1:op=[33,61]
 ·have e1:((bs op).toList==[33,61])=true:=by rw[hbt,o1];rfl
  have HP:Hid (eG op a b=(bL (!cD a b),0)):=by show _=_;unfold eG;rw[if_neg o0,if_pos o1]
  have HX:=aB (sF F 400000 u v a b w hu hv hca (by omega) (by omega))
  obtain⟨t,z,rfl⟩:=hu.form;obtain⟨t',z',rfl⟩:=hv.form;clear hu hv hbt o0 o1;rw[HP.out];generalize cD a b=s at*;go_enter Tryz.func388,Tryz.ntmps388;go_wp2_with fail;refine HX.out.mono ?_;rintro e w1 ⟨rfl,rfl⟩;go_wp2_with fail;go_ret;exact eH.ok (Below.refl _ _) rfl (PV.tru _ _ (!s))
 have e1:((bs op).toList==[33,61])=false:=by rw[hbt];simpa using o1
 clear hbt;rcases hu.cases with ⟨n,rfl,rfl,h1,h2⟩|⟨s,rfl,rfl⟩|⟨s,rfl,rfl⟩|⟨x,c,l,rfl,rfl,hl⟩
 ·have qa:=kN;rcases hv.cases with ⟨n',rfl,rfl,h1',h2'⟩|⟨s',rfl,rfl⟩|⟨s',rfl,rfl⟩|⟨x',c',l',rfl,rfl,hl'⟩
  ·have qb:=kN;rw[YX o0 o1];have HX:=aB (VM op F n n' w h1 h2 h1' h2');generalize iL op n n'=r at*;clear hu hv hF o0 o1 hca hcb;go_enter Tryz.func388,Tryz.ntmps388;go_wp2_with fail;refine HX.out.mono ?_;rintro e w1 ⟨rfl,⟨hk,u1,rfl,hp⟩|⟨hk,rfl⟩⟩
   ·have HP:=aB hp;have HK:=aB hk;obtain⟨t1,z1,rfl⟩:=hp.form;clear hp hk;go_wp2_with fail;go_ret;exact eH.ofQ ⟨rfl,Or.inl ⟨HK.out,_,rfl,HP.out⟩⟩
   ·have HK:=aB hk;clear hk;go_wp2_with fail;exact⟨rfl,eH.ofQ ⟨rfl,Or.inr ⟨HK.out,rfl⟩⟩⟩
  ·have qb:=jQ;rw[fT o0 o1 (by simp[bB,bL])]
   clear hu hv hF o0 o1 hca hcb;go_enter Tryz.func388,Tryz.ntmps388;go_wp2_with fail;exact⟨rfl,eH.stop (Below.refl _ _) rfl (by decide)⟩
  ·have qb:=kM;rw[fT o0 o1 (by simp[bB,bH])]
   clear hu hv hF o0 o1 hca hcb;go_enter Tryz.func388,Tryz.ntmps388;go_wp2_with fail;exact⟨rfl,eH.stop (Below.refl _ _) rfl (by decide)⟩
  ·have qb:=jO;rw[fT o0 o1 (by simp[bB,aU])]
   clear hu hv hF o0 o1 hca hcb;go_enter Tryz.func388,Tryz.ntmps388;go_wp2_with fail;exact⟨rfl,eH.stop (Below.refl _ _) rfl (by decide)⟩
 ·have qa:=jQ;have qa_Str:=jP;have qa_List:=gE;rcases hv.cases with ⟨n',rfl,rfl,h1',h2'⟩|⟨s',rfl,rfl⟩|⟨s',rfl,rfl⟩|⟨x',c',l',rfl,rfl,hl'⟩
  ·have qb:=kN;rw[fT o0 o1 (by simp[bL,bB])]
   clear hu hv hF o0 o1 hca hcb;go_enter Tryz.func388,Tryz.ntmps388;go_wp2_with fail;exact⟨rfl,eH.stop (Below.refl _ _) rfl (by decide)⟩
  ·have qb:=jQ;rw[fT o0 o1 (by simp[bL])]
   clear hu hv hF o0 o1 hca hcb;go_enter Tryz.func388,Tryz.ntmps388;go_wp2_with fail;exact⟨rfl,eH.stop (Below.refl _ _) rfl (by decide)⟩
  ·have qb:=kM;rw[fT o0 o1 (by simp[bL,bH])]
   clear hu hv hF o0 o1 hca hcb;go_enter Tryz.func388,Tryz.ntmps388;go_wp2_with fail;exact⟨rfl,eH.stop (Below.refl _ _) rfl (by decide)⟩
  ·have qb:=jO;rw[fT o0 o1 (by simp[bL,aU])]
   clear hu hv hF o0 o1 hca hcb;go_enter Tryz.func388,Tryz.ntmps388;go_wp2_with fail;exact⟨rfl,eH.stop (Below.refl _ _) rfl (by decide)⟩
 ·have qa:=kM;have qa_Str:=jK;rcases hv.cases with ⟨n',rfl,rfl,h1',h2'⟩|⟨s',rfl,rfl⟩|⟨s',rfl,rfl⟩|⟨x',c',l',rfl,rfl,hl'⟩
  ·have qb:=lU;rw[fT o0 o1 (by simp[bH,bB])]
   clear hu hv hF o0 o1 hca hcb;go_enter Tryz.func388,Tryz.ntmps388;go_wp2_with fail;exact⟨rfl,eH.stop (Below.refl _ _) rfl (by decide)⟩
  ·have qb:=jP;rw[fT o0 o1 (by simp[bH,bL])]
   clear hu hv hF o0 o1 hca hcb;go_enter Tryz.func388,Tryz.ntmps388;go_wp2_with fail;exact⟨rfl,eH.stop (Below.refl _ _) rfl (by decide)⟩
  ·have qb:=jK;rw[YW o0 o1];rw[jX] at hca hcb;have HX:=aB (VG op F s s' w (by omega))
   generalize EO op s s'=r at*;clear hu hv hF o0 o1 hca hcb;go_enter Tryz.func388,Tryz.ntmps388;go_wp2_with fail;refine HX.out.mono ?_;rintro e w1 ⟨rfl,⟨hk,u1,rfl,hp⟩|⟨hk,rfl⟩⟩
   ·have HP:=aB hp;have HK:=aB hk;obtain⟨t1,z1,rfl⟩:=hp.form;clear hp hk;go_wp2_with fail;go_ret;exact eH.ofQ ⟨rfl,Or.inl ⟨HK.out,_,rfl,HP.out⟩⟩
   ·have HK:=aB hk;clear hk;go_wp2_with fail;exact⟨rfl,eH.ofQ ⟨rfl,Or.inr ⟨HK.out,rfl⟩⟩⟩
  ·have qb:=kY;rw[fT o0 o1 (by simp[bH,aU])]
   clear hu hv hF o0 o1 hca hcb;go_enter Tryz.func388,Tryz.ntmps388;go_wp2_with fail;exact⟨rfl,eH.stop (Below.refl _ _) rfl (by decide)⟩
 ·have qa:=jO;have qa_Str:=kY;have qa_List:=gD;rcases hv.cases with ⟨n',rfl,rfl,h1',h2'⟩|⟨s',rfl,rfl⟩|⟨s',rfl,rfl⟩|⟨x',c',l',rfl,rfl,hl'⟩
  ·have qb:=iG;rw[fT o0 o1 (by simp[aU,bB])]
   clear hu hv hF o0 o1 hca hcb;go_enter Tryz.func388,Tryz.ntmps388;go_wp2_with fail;exact⟨rfl,eH.stop (Below.refl _ _) rfl (by decide)⟩
  ·have qb:=gE;rw[fT o0 o1 (by simp[aU,bL])]
   clear hu hv hF o0 o1 hca hcb;go_enter Tryz.func388,Tryz.ntmps388;go_wp2_with fail;exact⟨rfl,eH.stop (Below.refl _ _) rfl (by decide)⟩
  ·have qb:=jN;rw[fT o0 o1 (by simp[aU,bH])]
   clear hu hv hF o0 o1 hca hcb;go_enter Tryz.func388,Tryz.ntmps388;go_wp2_with fail;exact⟨rfl,eH.stop (Below.refl _ _) rfl (by decide)⟩
  ·have qb:=gD;rw[UH o0 o1];have HX:=aB (QH op F x x' c c' l l' w hl hl' hF (by omega))
   generalize vA op l l'=r at*;clear hu hv hF o0 o1 hca hcb hl hl';go_enter Tryz.func388,Tryz.ntmps388;go_wp2_with fail;refine HX.out.mono ?_;rintro e w1 ⟨hb1,⟨hk,u1,rfl,hp⟩|⟨hk,rfl⟩⟩
   ·have HP:=aB hp;have HK:=aB hk;have HB:=aB hb1;obtain⟨t1,z1,rfl⟩:=hp.form;clear hp hk hb1;go_wp2_with fail;go_ret;exact⟨HB.out,Or.inl ⟨HK.out,_,rfl,HP.out⟩⟩
   ·have HK:=aB hk;have HB:=aB hb1;clear hk hb1;go_wp2_with fail;exact⟨rfl,HB.out,Or.inr ⟨HK.out,rfl⟩⟩
end Go.Proofs.YtblbkfdhjfppkaaGreatDoor
