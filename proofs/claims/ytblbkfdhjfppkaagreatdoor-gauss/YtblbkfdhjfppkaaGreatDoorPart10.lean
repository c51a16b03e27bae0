/- Contracts of the program: cells of values, places in lists, what is too large. -/
import Derived.Test.YtblbkfdhjfppkaaGreatDoorPart09
import Derived.Laws.Append
import Derived.Laws.AppendOwnNone
import Derived.Lib.SliceRun
import Derived.RegionDies
import Derived.Test.YtblbkfdhjfppkaaGreatDoorPart00
import Derived.Deep.QuietTactic
import Derived.BigQuiet
import Derived.Test.YtblbkfdhjfppkaaGreatDoorShelf
set_option maxRecDepth 100000
set_option maxHeartbeats 4000000
namespace Go.Proofs.YtblbkfdhjfppkaaGreatDoor
open Hs
open Go.RowKit
theorem PVs.get{F:Nat→Prop}{w:World}{x:Option Addr}{n c:Nat}{l:List aI}(h:PVs F w (.slice x n c) l)(i:Nat)(hi:i<l.length):∃g u,x=some ⟨g,0,none⟩∧n=l.length∧F g∧g<w.heap.size∧l.length≤c∧w.cell? ⟨g,i,none⟩=some u∧PV F w u l[i]:=by
 rcases h with ⟨rfl,_⟩|⟨g,cap,cur,h1,h2,h3,h4,h5⟩
 ·simp at hi
 ·cases h1;obtain⟨u,k1,k2⟩:=h5 i hi;exact⟨g,u,rfl,rfl,h2,aD h3,h4,aA h3 k1,k2⟩
theorem PV.form{F:Nat→Prop}{w:World}{v:Value}{a:aI}(h:PV F w v a):∃t u,v=.iface t u:=by
 rcases h.cases with ⟨n,rfl,_⟩|⟨b,rfl,_⟩|⟨s,rfl,_⟩|⟨x,c,l,rfl,_⟩<;>exact⟨_,_,rfl⟩
theorem PVs.keep{F:Nat→Prop}{w w':World}{sv:Value}{l:List aI}(h:PVs F w sv l)(hk:∀b,F b→w'.heap[b]?=w.heap[b]?):PVs F w' sv l:=(VLr.mono h (fun _ _ h=>h.keep hk) (fun _ h=>h)).keep hk
theorem PVs.mono{F G:Nat→Prop}{w:World}{sv:Value}{l:List aI}(h:PVs F w sv l)(hF:∀b,F b→G b):PVs G w sv l:=VLr.mono h (fun _ _ h=>h.mono hF) hF
theorem YF(n:Int):aJ (bB n)=1:=by rw[eN];simp[bB]
theorem YD(b:Bool):aJ (bL b)=1:=by rw[eN];simp[bL]
theorem jX(s:List UInt8):aJ (bH s)=1+s.length:=by rw[eN];simp[bH]
theorem iC(l:List aI):aJ (aU l)=1+(l.map aJ).sum:=by rw[eN];simp[aU]
theorem kU{l:List aI}{a:aI}(h:a∈l):aJ a≤(l.map aJ).sum:=by
 induction l with
 |nil=>cases h
 |cons x l ih=>
  simp only[List.map_cons,List.sum_cons];rcases List.mem_cons.1 h with rfl|h
  ·omega
  ·have:=ih h;omega
theorem qM(a:aI):1≤aJ a:=by rw[eN];omega
theorem iS(l:List aI):l.length≤(l.map aJ).sum:=by
 induction l with
 |nil=>simp
 |cons x l ih=>simp only[List.map_cons,List.sum_cons,List.length_cons];have:=qM x;omega
def KD(F:Nat→Prop)(k:Nat):Prop:=∀(v:Value) (a:aI) (w:World),PV F w v a→aJ a≤k→k≤1000000000→Calls Tryz.prog 379 #[v] w fun e w'=>w'=w∧e=.returned (.int .i64 (aJ a:Nat))
theorem LS(F:Nat→Prop)(k:Nat)(IH:KD F k):KD F (k+1):=by
 intro v a w h hc hk;rcases h.cases with ⟨n,rfl,rfl,h1,h2⟩|⟨b,rfl,rfl⟩|⟨s,rfl,rfl⟩|⟨x,c,l,rfl,rfl,hl⟩
 ·have q:=lU;have q':=iG;rw[YF];clear h IH hc;go_enter Tryz.func379,Tryz.ntmps379;go_wp2_with fail;go_ret;exact⟨rfl,rfl⟩
 ·have q:=jP;have q':=gE;rw[YD];clear h IH hc;go_enter Tryz.func379,Tryz.ntmps379;go_wp2_with fail;go_ret;exact⟨rfl,rfl⟩
 ·have q:=jK;have hs:(bs s).size=s.length:=gX s;rw[jX] at hc ⊢
  clear h IH;go_enter Tryz.func379,Tryz.ntmps379;go_wp2_with fail;go_ret;exact⟨rfl,by go_num⟩
 ·have q:=kY;have q':=gD;have hlen:=iS l;rw[iC] at hc ⊢
  have HIH:=aB IH;have HL:=aB hl;clear h IH hl;go_enter Tryz.func379,Tryz.ntmps379;go_wp2_with fail;go_loopg [5,7,20] l.length (fun gk s _ i wr=>∃j:Nat,j+gk=l.length∧i=.int .i64 j∧s=.int .i64 ((1+((l.map aJ).take j).sum:Nat):Int)∧wr=w)
  case atStart=>exact⟨0,by omega,rfl,rfl,rfl⟩
  case round=>
   obtain⟨j,hj,rfl,rfl,rfl⟩:=hrel;by_cases hlt:j<l.length
   ·obtain⟨m,rfl⟩:∃m,gk=m+1:=⟨gk-1,by omega⟩
    obtain⟨g,u,rfl,hn,hF,hg,hcap,hcell,hu⟩:=HL.out.get j hlt;have hmem:l[j]∈l:=List.getElem_mem hlt;have hcm:=kU hmem;have HX:=aB (HIH.out u l[j] wr hu (by omega) (by omega))
    obtain⟨t,u',rfl⟩:=hu.form
    have htk:((l.map aJ).take (j+1)).sum=((l.map aJ).take j).sum+aJ l[j]:=by
     rw[List.take_succ_eq_append_getElem (by simpa using hlt),List.sum_append];simp only[List.getElem_map,List.sum_cons,List.sum_nil,Nat.add_zero]
    have htl:((l.map aJ).take (j+1)).sum≤(l.map aJ).sum:=by
     have e:(l.map aJ).sum=((l.map aJ).take (j+1)++(l.map aJ).drop (j+1)).sum:=by rw[List.take_append_drop]
     rw[e,List.sum_append];omega
    generalize aJ l[j]=cj at*;clear hu;go_wp2_with fail;refine HX.out.mono ?_;rintro e w1 ⟨rfl,rfl⟩;go_wp2_with fail;go_roundg m
    case measure=>omega
    case rel=>exact⟨j+1,by omega,by go_num,by rw[htk];go_num,rfl⟩
   ·have hjl:j=l.length:=by omega
    subst hjl;go_wp2_with fail;go_ret;exact⟨rfl,by rw[List.take_of_length_le (by simp)];rfl⟩
theorem AO(F:Nat→Prop):∀k,KD F k
 |0=>fun v a w _ h=>by have:=qM a;omega
 |k+1=>LS F k (AO F k)
theorem lL(F:Nat→Prop)(v:Value)(a:aI)(w:World)(h:PV F w v a)(hc:aJ a≤1000000000):
 Calls Tryz.prog 378 #[v] w fun e w'=>w'=w∧((aJ a≤200∧e=.returned v)∨(200<aJ a∧e=fE 6)):=by
 have HX:=aB (AO F 1000000000 v a w h hc (Nat.le_refl _));obtain⟨t,u,rfl⟩:=h.form;clear h;generalize aJ a=n at*;by_cases h2:n≤200
 ·have e:decide ((200:Int)<(n:Int))=false:=decide_eq_false (by omega)
  go_enter Tryz.func378,Tryz.ntmps378;go_wp2_with fail;refine HX.out.mono ?_;rintro e w1 ⟨rfl,rfl⟩;go_wp2_with fail;go_ret;exact⟨rfl,Or.inl ⟨h2,rfl⟩⟩
 ·have e:decide ((200:Int)<(n:Int))=true:=decide_eq_true (by omega)
  go_enter Tryz.func378,Tryz.ntmps378;go_wp2_with fail;refine HX.out.mono ?_;rintro e w1 ⟨rfl,rfl⟩;go_wp2_with fail;exact⟨rfl,rfl,Or.inr ⟨by omega,rfl⟩⟩
theorem sE(F:Nat→Prop)(v:Value)(a:aI)(n:Nat)(w:World)(h:PV F w v a)(_hn:n≤1000000000):
 Calls Tryz.prog 382 #[v,.int .i64 n] w fun e w'=>w'=w∧((a.sort≠0∧e=fE 2)∨(a.sort=0∧(a.n<0∨(n:Int)≤a.n)∧e=fE 4)∨(a.sort=0∧∃k:Nat,k<n∧a.n=k∧e=.returned (.int .i64 k))):=by
 rcases h.cases with ⟨m,rfl,rfl,h1,h2⟩|⟨b,rfl,rfl⟩|⟨s,rfl,rfl⟩|⟨x,c,l,rfl,rfl,_⟩
 ·have q:=kN;clear h;by_cases hm:m<0
  ·have e1:decide (m<0)=true:=decide_eq_true hm;go_enter Tryz.func382,Tryz.ntmps382;go_wp2_with fail;exact⟨rfl,rfl,Or.inr (Or.inl ⟨rfl,Or.inl hm,rfl⟩)⟩
  have e1:decide (m<0)=false:=decide_eq_false hm;by_cases hm2:(n:Int)≤m
  ·have e2:decide ((n:Int)≤m)=true:=decide_eq_true hm2;go_enter Tryz.func382,Tryz.ntmps382;go_wp2_with fail;exact⟨rfl,rfl,Or.inr (Or.inl ⟨rfl,Or.inr hm2,rfl⟩)⟩
  ·have e2:decide ((n:Int)≤m)=false:=decide_eq_false hm2;go_enter Tryz.func382,Tryz.ntmps382;go_wp2_with fail;go_ret;exact⟨rfl,Or.inr (Or.inr ⟨rfl,m.toNat,by omega,by show m=_;omega,by rw[Int.toNat_of_nonneg (by omega)];rfl⟩)⟩
 ·have q:=jQ;clear h;go_enter Tryz.func382,Tryz.ntmps382;go_wp2_with fail;exact⟨rfl,rfl,Or.inl ⟨by simp[bL],rfl⟩⟩
 ·have q:=kM;clear h;go_enter Tryz.func382,Tryz.ntmps382;go_wp2_with fail;exact⟨rfl,rfl,Or.inl ⟨by simp[bH],rfl⟩⟩
 ·have q:=jO;clear h;go_enter Tryz.func382,Tryz.ntmps382;go_wp2_with fail;exact⟨rfl,rfl,Or.inl ⟨by simp[aU],rfl⟩⟩
theorem IF(F:Nat→Prop)(x:Option Addr)(c:Nat)(l:List aI)(w:World)(h:PVs F w (.slice x l.length c) l)(hc:aJ (aU l)≤1000000000):
 Calls Tryz.prog 376 #[.slice x l.length c] w fun e w'=>w'=w∧((aJ (aU l)≤200∧e=.returned (.iface 319 (.slice x l.length c)))∨(200<aJ (aU l)∧e=fE 6)):=by
 have HX:=aB (lL F _ _ w (PV.lst h) hc);clear h;generalize aJ (aU l)=n at*;go_enter Tryz.func376,Tryz.ntmps376;go_wp2_with fail;refine HX.out.mono ?_;rintro e w1 ⟨rfl,⟨h2,rfl⟩|⟨h2,rfl⟩⟩
 ·go_wp2_with fail;go_ret;exact⟨rfl,Or.inl ⟨h2,rfl⟩⟩
 ·go_wp2_with fail;exact⟨rfl,rfl,Or.inr ⟨h2,rfl⟩⟩
noncomputable def EO(op:List UInt8)(a b:List UInt8):aI × Nat:=
 if op=[60] then (bL (fV a b),0)
 else if op=[60,61] then (bL (!fV b a),0)
 else if op=[43] then (if 200<aJ (bH (a++b)) then (bK,6) else (bH (a++b),0))
 else (bK,2)
theorem VG(op:List UInt8)(F:Nat→Prop)(a b:List UInt8)(w:World)(hab:a.length+b.length≤1000000):
 Calls Tryz.prog 391 #[.string (bs op),.string (bs a),.string (bs b)] w (kK F w (EO op a b)):=by
 have hbt:=bZ op;obtain⟨r,hr⟩:∃r,r=EO op a b:=⟨_,rfl⟩;rw[←hr];unfold EO at hr;by_cases o0:op=[60]
 ·rw[if_pos o0] at hr;have e0:((bs op).toList==[60])=true:=by rw[hbt,o0];rfl
  have HLE:Hid (Op.bytesLess (bs a).toList (bs b).toList=fV a b):=by show _=_;rw[bZ,bZ,sP]
  have HP:=aB hr;clear hbt hr o0;generalize fV a b=sl at*;go_enter Tryz.func391,Tryz.ntmps391;go_wp2_with fail;go_ret;exact kK.ok HP.out (by rw[←HLE.out];exact PV.tru F w _)
 rw[if_neg o0] at hr;have e0:((bs op).toList==[60])=false:=by rw[hbt];simpa using o0
 by_cases o1:op=[60,61]
 ·rw[if_pos o1] at hr;have e1:((bs op).toList==[60,61])=true:=by rw[hbt,o1];rfl
  have HLE:Hid ((Op.bytesLess (bs a).toList (bs b).toList || (bs a).toList==(bs b).toList)= !fV b a):=by show _=_;rw[bZ,bZ,sP,FW]
  have HP:=aB hr;clear hbt hr o0 o1;generalize fV b a=sl at*;go_enter Tryz.func391,Tryz.ntmps391;go_wp2_with fail;go_ret;exact kK.ok HP.out (by rw[←HLE.out];exact PV.tru F w _)
 rw[if_neg o1] at hr;have e1:((bs op).toList==[60,61])=false:=by rw[hbt];simpa using o1
 by_cases o2:op=[43]
 ·rw[if_pos o2] at hr;have e2:((bs op).toList==[43])=true:=by rw[hbt,o2];rfl
  have hcl:=jX (a++b);have HX:=aB (lL F (.iface 318 (.string (bs (a++b)))) _ w (PV.str F w (a++b)) (by rw[hcl,List.length_append];omega))
  have HP:=aB hr;have hbz:=gX;clear hbt hr o0 o1 o2 hcl;go_enter Tryz.func391,Tryz.ntmps391;go_wp2_with fail;refine HX.out.mono ?_;rintro e w1 ⟨rfl,⟨h2,rfl⟩|⟨h2,rfl⟩⟩
  ·have HQ:Hid (r=(bH (a++b),0)):=by show _=_;rw[HP.out,if_neg (by omega)]
   clear h2 HP;go_wp2_with fail;go_ret;exact kK.ok HQ.out (PV.str F w1 (a++b))
  ·have HQ:Hid (r=(bK,6)):=by show _=_;rw[HP.out,if_pos h2]
   clear h2 HP;go_wp2_with fail;exact⟨rfl,kK.stop HQ.out (by decide)⟩
 ·rw[if_neg o2] at hr;have e2:((bs op).toList==[43])=false:=by rw[hbt];simpa using o2
  have HP:=aB hr;clear hbt hr o0 o1 o2;go_enter Tryz.func391,Tryz.ntmps391;go_wp2_with fail;exact⟨rfl,kK.stop HP.out (by decide)⟩
theorem SA(n m:Int)(w:World):(binOp .eql 256 (.iface 315 (.int .i64 n)) (.iface 315 (.int .i64 m))).run Tryz.prog w=.ok (.bool (n==m)) w:=by kernel_rfl
theorem JE(n m:Bool)(w:World):(binOp .eql 256 (.iface 316 (.bool n)) (.iface 316 (.bool m))).run Tryz.prog w=.ok (.bool (n==m)) w:=by kernel_rfl
theorem NJ(n m:ByteArray)(w:World):(binOp .eql 256 (.iface 318 (.string n)) (.iface 318 (.string m))).run Tryz.prog w=.ok (.bool (n==m)) w:=by kernel_rfl
theorem RX(a b:List UInt8)(w:World):(binOp .eql 256 (.iface 318 (.string (bs a))) (.iface 318 (.string (bs b)))).run Tryz.prog w=.ok (.bool (a==b)) w:=by
 rw[NJ];have h:(bs a==bs b)=((bs a).data==(bs b).data):=rfl;rw[h];simp[bs]
theorem NN(u v:Value)(w:World):(binOp .eql 256 (.iface 315 u) (.iface 316 v)).run Tryz.prog w=.ok (.bool false) w:=by kernel_rfl
theorem RZ(u v:Value)(w:World):(binOp .eql 256 (.iface 315 u) (.iface 318 v)).run Tryz.prog w=.ok (.bool false) w:=by kernel_rfl
theorem NM(u v:Value)(w:World):(binOp .eql 256 (.iface 315 u) (.iface 319 v)).run Tryz.prog w=.ok (.bool false) w:=by kernel_rfl
theorem NP(u v:Value)(w:World):(binOp .eql 256 (.iface 316 u) (.iface 315 v)).run Tryz.prog w=.ok (.bool false) w:=by kernel_rfl
theorem NO(u v:Value)(w:World):(binOp .eql 256 (.iface 316 u) (.iface 318 v)).run Tryz.prog w=.ok (.bool false) w:=by kernel_rfl
theorem JD(u v:Value)(w:World):(binOp .eql 256 (.iface 316 u) (.iface 319 v)).run Tryz.prog w=.ok (.bool false) w:=by kernel_rfl
theorem RY(u v:Value)(w:World):(binOp .eql 256 (.iface 318 u) (.iface 315 v)).run Tryz.prog w=.ok (.bool false) w:=by kernel_rfl
theorem NL(u v:Value)(w:World):(binOp .eql 256 (.iface 318 u) (.iface 316 v)).run Tryz.prog w=.ok (.bool false) w:=by kernel_rfl
theorem NK(u v:Value)(w:World):(binOp .eql 256 (.iface 318 u) (.iface 319 v)).run Tryz.prog w=.ok (.bool false) w:=by kernel_rfl
theorem lY{a b:aI}(h:a=b):cD a b=true:=(vZ a b).2 h
theorem dH{a b:aI}(h:a≠b):cD a b=false:=by
 cases hs:cD a b
 ·rfl
 ·exact absurd ((vZ a b).1 hs) h
theorem yP{l m:List aI}:aU l=aU m↔l=m:=by simp[aU]
def yM(F:Nat→Prop)(k:Nat):Prop:=∀(u v:Value) (a b:aI) (w:World),PV F w u a→PV F w v b→aJ a≤k→k≤1000000000→aJ b≤1000000000→
 Calls Tryz.prog 389 #[u,v] w fun e w'=>w'=w∧e=.returned (.bool (cD a b))
theorem AN(F:Nat→Prop)(k:Nat)(IH:yM F k)(x y:Option Addr)(c d:Nat)(l m:List aI)(w:World)(hl:PVs F w (.slice x l.length c) l)(hm:PVs F w (.slice y m.length d) m)(hc:aJ (aU l)≤k+1)(hk:k≤1000000000)(hd:aJ (aU m)≤1000000000):
 Calls Tryz.prog 393 #[.slice x l.length c,.slice y m.length d,.func (.func 389) #[] #[]] w fun e w'=>w'=w∧e=.returned (.bool (cD (aU l) (aU m))):=by
 have h1:=iS l;have h2:=iS m;rw[iC] at hc hd;by_cases hlen:l.length=m.length
 ·have hne:((l.length:Int) != (l.length:Int))=false:=by simp
  rw[←hlen] at hm ⊢
  have HL:=aB hl;have HM:=aB hm;have HIH:=aB IH;have HLN:=aB hlen;clear hl hm IH hlen;go_enter Tryz.func393,Tryz.ntmps393;go_wp2_with fail;go_loopg [6,7,8,9,17] l.length (fun gk _ _ _ _ i wr=>∃j:Nat,j+gk=l.length∧i=.int .i64 j∧wr=w∧Hid (l.take j=m.take j))
  case atStart=>exact⟨0,by omega,rfl,rfl,by simp[Hid]⟩
  case round=>
   obtain⟨j,hj,rfl,rfl,HT⟩:=hrel;by_cases hlt:j<l.length
   ·obtain⟨q,rfl⟩:∃q,gk=q+1:=⟨gk-1,by omega⟩
    obtain⟨g,u,rfl,hn,hF,hg,hcap,hcell,hu⟩:=HL.out.get j hlt;obtain⟨g',u',rfl,hn',hF',hg',hcap',hcell',hu'⟩:=HM.out.get j (by rw[←HLN.out];exact hlt)
    have hcm:=kU (List.getElem_mem hlt);have hjm:j<m.length:=by rw[←HLN.out];exact hlt
    have hcm':=kU (List.getElem_mem hjm);have HX:=aB (HIH.out u u' l[j] (m[j]'hjm) wr hu hu' (by omega) hk (by omega))
    obtain⟨t,z,rfl⟩:=hu.form;obtain⟨t',z',rfl⟩:=hu'.form;have htk:l.take (j+1)=l.take j++[l[j]]:=List.take_succ_eq_append_getElem hlt;have htk':m.take (j+1)=m.take j++[m[j]'hjm]:=List.take_succ_eq_append_getElem hjm;have hgl:l[j]?=some l[j]:=List.getElem?_eq_getElem hlt;have hgm:m[j]?=some (m[j]'hjm):=List.getElem?_eq_getElem hjm;generalize l[j]=a at*;generalize m[j]'hjm=b at*;clear hu hu' hcm hcm' hn hn';by_cases hab:a=b
    ·rw[lY hab] at HX;have HT2:Hid (l.take (j+1)=m.take (j+1)):=by show _=_;rw[htk,htk',HT.out,hab]
     clear htk htk' hgl hgm HT hab;go_wp2_with fail;refine HX.out.mono ?_;rintro e w1 ⟨rfl,rfl⟩;go_wp2_with fail;go_roundg q
     case measure=>omega
     case rel=>exact⟨j+1,by omega,by go_num,rfl,HT2⟩
    ·rw[dH hab] at HX;have HN:Hid (l≠m):=by show _≠_;intro e;rw[e,hgm] at hgl;cases hgl;exact hab rfl
     clear htk htk' hgl hgm HT hab;go_wp2_with fail;refine HX.out.mono ?_;rintro e w1 ⟨rfl,rfl⟩;go_wp2_with fail;go_ret;exact⟨rfl,by rw[dH fun e=>HN.out (yP.1 e)];rfl⟩
   ·have HE:Hid (l=m):=by
     show _=_
     have:=HT.out;rw[List.take_of_length_le (by omega),List.take_of_length_le (by rw[←HLN.out];omega)] at this
     exact this
    go_wp2_with fail;go_ret;exact⟨rfl,by rw[lY (yP.2 HE.out)];rfl⟩
 ·have hne:((l.length:Int) != (m.length:Int))=true:=by simp;omega
  have HN:Hid (l≠m):=by show _≠_;intro e;exact hlen (by rw[e])
  clear hl hm IH;go_enter Tryz.func393,Tryz.ntmps393;go_wp2_with fail;go_ret;exact⟨rfl,by rw[dH fun e=>HN.out (yP.1 e)];rfl⟩
theorem LP(F:Nat→Prop)(k:Nat)(IH:yM F k):yM F (k+1):=by
 intro u v a b w hu hv hc hk hd;rcases hu.cases with ⟨n,rfl,rfl,h1,h2⟩|⟨s,rfl,rfl⟩|⟨s,rfl,rfl⟩|⟨x,c,l,rfl,rfl,hl⟩
 ·have q:=iG;rcases hv.cases with ⟨n',rfl,rfl,_,_⟩|⟨s',rfl,rfl⟩|⟨s',rfl,rfl⟩|⟨x',c',l',rfl,rfl,_⟩
  ·have q2:=SA
   have HS:Hid (cD (bB n) (bB n')=(n==n')):=by
    show _=_
    by_cases e:n=n'
    ·rw[lY (by rw[e]),e,beq_self_eq_true]
    ·rw[dH (by simp[bB,e]),beq_eq_false_iff_ne.2 e]
   clear hu hv IH hc hd;generalize cD (bB n) (bB n')=r at*;go_enter Tryz.func389,Tryz.ntmps389;go_wp2_with fail;go_ret;exact⟨rfl,by rw[HS.out];rfl⟩
  ·have q2:=NN;have HS:Hid (cD (bB n) (bL s')=false):=dH (by simp[bB,bL])
   clear hu hv IH hc hd;generalize cD (bB n) (bL s')=r at*;go_enter Tryz.func389,Tryz.ntmps389;go_wp2_with fail;go_ret;exact⟨rfl,by rw[HS.out];rfl⟩
  ·have q2:=RZ;have HS:Hid (cD (bB n) (bH s')=false):=dH (by simp[bB,bH])
   clear hu hv IH hc hd;generalize cD (bB n) (bH s')=r at*;go_enter Tryz.func389,Tryz.ntmps389;go_wp2_with fail;go_ret;exact⟨rfl,by rw[HS.out];rfl⟩
  ·have q2:=NM;have HS:Hid (cD (bB n) (aU l')=false):=dH (by simp[bB,aU])
   clear hu hv IH hc hd;generalize cD (bB n) (aU l')=r at*;go_enter Tryz.func389,Tryz.ntmps389;go_wp2_with fail;go_ret;exact⟨rfl,by rw[HS.out];rfl⟩
 ·have q:=gE;rcases hv.cases with ⟨n',rfl,rfl,_,_⟩|⟨s',rfl,rfl⟩|⟨s',rfl,rfl⟩|⟨x',c',l',rfl,rfl,_⟩
  ·have q2:=NP;have HS:Hid (cD (bL s) (bB n')=false):=dH (by simp[bL,bB])
   clear hu hv IH hc hd;generalize cD (bL s) (bB n')=r at*;go_enter Tryz.func389,Tryz.ntmps389;go_wp2_with fail;go_ret;exact⟨rfl,by rw[HS.out];rfl⟩
  ·have q2:=JE
   have HS:Hid (cD (bL s) (bL s')=(s==s')):=by
    show _=_
    cases s<;>cases s'<;>first|exact lY rfl|exact dH (by simp[bL])
   clear hu hv IH hc hd;generalize cD (bL s) (bL s')=r at*;go_enter Tryz.func389,Tryz.ntmps389;go_wp2_with fail;go_ret;exact⟨rfl,by rw[HS.out];rfl⟩
  ·have q2:=NO;have HS:Hid (cD (bL s) (bH s')=false):=dH (by simp[bL,bH])
   clear hu hv IH hc hd;generalize cD (bL s) (bH s')=r at*;go_enter Tryz.func389,Tryz.ntmps389;go_wp2_with fail;go_ret;exact⟨rfl,by rw[HS.out];rfl⟩
  ·have q2:=JD;have HS:Hid (cD (bL s) (aU l')=false):=dH (by simp[bL,aU])
   clear hu hv IH hc hd;generalize cD (bL s) (aU l')=r at*;go_enter Tryz.func389,Tryz.ntmps389;go_wp2_with fail;go_ret;exact⟨rfl,by rw[HS.out];rfl⟩
 ·have q:=jN;rcases hv.cases with ⟨n',rfl,rfl,_,_⟩|⟨s',rfl,rfl⟩|⟨s',rfl,rfl⟩|⟨x',c',l',rfl,rfl,_⟩
  ·have q2:=RY;have HS:Hid (cD (bH s) (bB n')=false):=dH (by simp[bH,bB])
   clear hu hv IH hc hd;generalize cD (bH s) (bB n')=r at*;go_enter Tryz.func389,Tryz.ntmps389;go_wp2_with fail;go_ret;exact⟨rfl,by rw[HS.out];rfl⟩
  ·have q2:=NL;have HS:Hid (cD (bH s) (bL s')=false):=dH (by simp[bH,bL])
   clear hu hv IH hc hd;generalize cD (bH s) (bL s')=r at*;go_enter Tryz.func389,Tryz.ntmps389;go_wp2_with fail;go_ret;exact⟨rfl,by rw[HS.out];rfl⟩
  ·have q2:=RX
   have HS:Hid (cD (bH s) (bH s')=(s==s')):=by
    show _=_
    by_cases e:s=s'
    ·rw[lY (by rw[e]),e,beq_self_eq_true]
    ·rw[dH (by simp[bH,e]),beq_eq_false_iff_ne.2 e]
   clear hu hv IH hc hd;generalize cD (bH s) (bH s')=r at*;go_enter Tryz.func389,Tryz.ntmps389;go_wp2_with fail;go_ret;exact⟨rfl,by rw[HS.out];rfl⟩
  ·have q2:=NK;have HS:Hid (cD (bH s) (aU l')=false):=dH (by simp[bH,aU])
   clear hu hv IH hc hd;generalize cD (bH s) (aU l')=r at*;go_enter Tryz.func389,Tryz.ntmps389;go_wp2_with fail;go_ret;exact⟨rfl,by rw[HS.out];rfl⟩
 ·have q:=gD;rcases hv.cases with ⟨n',rfl,rfl,_,_⟩|⟨s',rfl,rfl⟩|⟨s',rfl,rfl⟩|⟨x',c',l',rfl,rfl,hl'⟩
  ·have q2:=iG;have HS:Hid (cD (aU l) (bB n')=false):=dH (by simp[aU,bB])
   clear hu hv hl IH hc hd;generalize cD (aU l) (bB n')=r at*;go_enter Tryz.func389,Tryz.ntmps389;go_wp2_with fail;go_ret;exact⟨rfl,by rw[HS.out];rfl⟩
  ·have q2:=gE;have HS:Hid (cD (aU l) (bL s')=false):=dH (by simp[aU,bL])
   clear hu hv hl IH hc hd;generalize cD (aU l) (bL s')=r at*;go_enter Tryz.func389,Tryz.ntmps389;go_wp2_with fail;go_ret;exact⟨rfl,by rw[HS.out];rfl⟩
  ·have q2:=jN;have HS:Hid (cD (aU l) (bH s')=false):=dH (by simp[aU,bH])
   clear hu hv hl IH hc hd;generalize cD (aU l) (bH s')=r at*;go_enter Tryz.func389,Tryz.ntmps389;go_wp2_with fail;go_ret;exact⟨rfl,by rw[HS.out];rfl⟩
  ·have HX:=aB (AN F k IH x x' c c' l l' w hl hl' hc (by omega) hd)
   clear hu hv hl hl' IH hc hd;generalize cD (aU l) (aU l')=r at*;go_enter Tryz.func389,Tryz.ntmps389;go_wp2_with fail;refine HX.out.mono ?_;rintro e w1 ⟨rfl,rfl⟩;go_wp2_with fail;go_ret;exact⟨rfl,rfl⟩
theorem sF(F:Nat→Prop):∀k,yM F k
 |0=>fun u v a b w _ _ h=>by have:=qM a;omega
 |k+1=>LP F k (sF F k)
theorem mA:(Tryz.prog.info? 256).map (fun i=>(i.zero,i.size,i.bytes))=some (some .nilIface,1,16):=by kernel_rfl
theorem uX{P:Program}(w:World)(t u ty e:TypeId)(i:TypeInfo)(z:Value)(ht:P.underlying t=some (.slice e))(hu:P.underlying u=some (.int .i64))(hi:P.info? e=some i)(hz:i.zero=some z)(h1:i.size=1)
 (n:Nat) (h0:0<n) (hn:n≤1000000000) (hb:i.bytes≤64):
 (Builtin.append_ #[t,u] ty #[.slice none 0 0,.int .i64 n]).run P w=
   .ok (.slice (some ⟨w.heap.size,0,none⟩) n (grownCap w n 0 e)) (w.drew.alloc (.cells (Builtin.zeroCells z.cells n++Builtin.zeroCells z.cells (grownCap w n 0 e-n)) e)):=by
 have hn0:n≠0:=by omega
 have hmul:n*i.bytes≤1000000000*64:=Nat.mul_le_mul hn hb;have h48:¬(281474976710656<Builtin.nextslicecap n 0*i.bytes):=by rw[nextslicecap_zero h0];omega
 have h63:¬(9223372036854775807<(n:Int)):=by omega
 have hw:IntKind.i64.wrap (n:Int)=n:=by
  rw[IntKind.wrap_i64];omega
 have h48':¬(281474976710656<(n:Int)*(i.bytes:Int)):=by
  have:((n*i.bytes:Nat):Int)≤64000000000:=by omega
  rw[Int.natCast_mul] at this;omega
 have hlt0:¬((n:Int)<0):=by omega
 have hmax:max (n:Int) 0=n:=by omega
 simp[Builtin.append_,run_underlying ht,run_underlying hu,sizeOf,typeInfo,zeroValue,hi,hz,h1,hw,asInt,asIntOf,hlt0,hmax,hn0,h63,h48,h48',Question.forced,run_firstCells_none,newRow,grownCap]
theorem qR{P:Program}{w:World}{ops:Array Oper}{rest:List Oper}{o:Oper}{a:Act}{Q:Exit→Act→World→Prop}(hgd:o.guard=none)(s x:Operand)(t u:TypeId)
 (ho:o.op=.call { callee:=.builtin .append,args:= #[s,x],argTypes:= #[t,u] })
 (e:TypeId) (i:TypeInfo) (z:Value) (ht:P.underlying t=some (.slice e)) (hu:P.underlying u=some (.int .i64)) (hi:P.info? e=some i) (hz:i.zero=some z) (h1:i.size=1)
 (n:Nat) (h0:0<n) (hn:n≤1000000000) (hb:i.bytes≤64) (hs:a.eval s=.slice none 0 0) (hx:a.eval x=.int .i64 n)
 (h:wpList P ops Q rest (a.put o.dst (.slice (some ⟨w.heap.size,0,none⟩) n (grownCap w n 0 e))) (w.drew.alloc (.cells (Builtin.zeroCells z.cells n++Builtin.zeroCells z.cells (grownCap w n 0 e-n)) e))):wpList P ops Q (o::rest) a w:=by
 refine wpList_plain hgd fun K hK=>?_
 have hrun:=uX (P:=P) w t u o.type e i z ht hu hi hz h1 n h0 hn hb;unfold Oper.wp;simp[execOp,ho,resolve,invoke,builtin,hs,hx,hrun,Result.andThen];exact hK _ _ h
theorem VN(n:Nat)(hn:n≤1000000)(w:World):
 Calls Tryz.prog 395 #[.slice none 0 0,.int .i64 n] w fun e w'=>∃v,e=.returned v∧w'.ownsRow w.heap.size 256 1 v 0 []∧Below w.heap.size w w':=by
 obtain⟨i0,hi,hz0,hz1,hz2⟩:=info_parts mA;rcases Nat.eq_zero_or_pos n with rfl|hp
 ·go_enter Tryz.func395,Tryz.ntmps395;go_wp2_with fail;go_ret;exact⟨_,rfl,World.ownsRow_nil _ _ _ _,Below.refl _ _⟩
 ·have e1:decide ((n:Int)<0)=false:=decide_eq_false (by omega)
  have e2:decide ((0:Int)<(n:Int))=true:=decide_eq_true (by omega)
  have hcap:=grownCap_ge w n 0 256;have hcm:=grownCap_le_maxLen w n 0 256 (by unfold maxLen;omega)
  generalize hgc:grownCap w n 0 256=cap at hcap hcm;have HGC:=aB hgc;clear hgc;go_enter Tryz.func395,Tryz.ntmps395;go_wp2_with (at_builtin;refine qR (by rfl) _ _ 319 3 (by rfl) 256 i0 .nilIface Tryz.underlying319 Tryz.underlying3 hi hz0 hz1 n hp (by omega) (by omega) (by rfl) (by rfl) ?_;rw[HGC.out])
  go_ret;refine⟨_,rfl,⟨rfl,Or.inr ⟨w.heap.size,cap,_,rfl,Nat.le_refl _,aR _ _ rfl _,Nat.zero_le _,hcm,?_,rfl⟩⟩,?_⟩
  ·rw[Array.size_append,size_zeroCells,size_zeroCells];simp;omega
  ·exact((Below.refl _ _).drew).alloc (by simp) _
def fR(F:Nat→Prop)(w:World)(xs:List Value)(l:List aI):Prop:=xs.length=l.length∧∀i (h:i<l.length),∃u,xs[i]?=some u∧PV F w u l[i]
theorem fR.nil(F:Nat→Prop)(w:World):fR F w [] []:=⟨rfl,fun i h=>by simp at h⟩
theorem fR.keep{F:Nat→Prop}{w w':World}{xs:List Value}{l:List aI}(h:fR F w xs l)(hk:∀b,F b→w'.heap[b]?=w.heap[b]?):fR F w' xs l:=
 ⟨h.1,fun i hi=>by obtain⟨u,h1,h2⟩:=h.2 i hi;exact⟨u,h1,h2.keep hk⟩⟩
theorem fR.mono{F G:Nat→Prop}{w:World}{xs:List Value}{l:List aI}(h:fR F w xs l)(hF:∀b,F b→G b):fR G w xs l:=
 ⟨h.1,fun i hi=>by obtain⟨u,h1,h2⟩:=h.2 i hi;exact⟨u,h1,h2.mono hF⟩⟩
theorem fR.append{F:Nat→Prop}{w:World}{xs ys:List Value}{l m:List aI}(h:fR F w xs l)(k:fR F w ys m):fR F w (xs++ys) (l++m):=by
 refine⟨by simp[h.1,k.1],fun i hi=>?_⟩
 rcases Nat.lt_or_ge i l.length with h1|h1
 ·obtain⟨u,e1,e2⟩:=h.2 i h1;exact⟨u,by rw[List.getElem?_append_left (by rw[h.1];exact h1)];exact e1,by rw[List.getElem_append_left h1];exact e2⟩
 ·have h2:i-l.length<m.length:=by simp at hi;omega
  obtain⟨u,e1,e2⟩:=k.2 _ h2;exact⟨u,by rw[List.getElem?_append_right (by rw[h.1];exact h1),h.1];exact e1,by rw[List.getElem_append_right h1];exact e2⟩
theorem PVs.row{F:Nat→Prop}{w:World}{sv:Value}{l:List aI}(h:PVs F w sv l):(l=[]∧sv=.slice none 0 0)∨∃g cap xs,sv=.slice (some ⟨g,0,none⟩) l.length cap∧F g∧g<w.heap.size∧fR F w xs l∧∀j u,xs[j]?=some u→w.cell? ⟨g,j,none⟩=some u:=by
 rcases h with h|⟨g,cap,cur,h1,h2,h3,h4,h5⟩
 ·exact Or.inl h
 ·have hsz:l.length≤cur.size:=by
   rcases Nat.eq_zero_or_pos l.length with h0|h0
   ·omega
   ·obtain⟨u,e1,_⟩:=h5 (l.length-1) (by omega)
    have:=(Array.getElem?_eq_some_iff.1 e1).1;omega
  refine Or.inr ⟨g,cap,cur.toList.take l.length,h1,h2,aD h3,⟨by simp;omega,fun i hi=>?_⟩,fun j u hj=>?_⟩
  ·obtain⟨u,e1,e2⟩:=h5 i hi;exact⟨u,by rw[List.getElem?_take,if_pos hi];simpa using e1,e2⟩
  ·rw[List.getElem?_take] at hj;split at hj
   ·exact aA h3 (by simpa using hj)
   ·cases hj
theorem PVs.ofRow{F:Nat→Prop}{w:World}{base:Nat}{v:Value}{xs:List Value}{l:List aI}(h:w.ownsRow base 256 1 v l.length xs)(hr:fR F w xs l)(hF:∀k,v.ownBlock=some k→F k):PVs F w v l:=by
 rcases h.2 with ⟨r1,r2⟩|⟨g,cap,cur,r1,r2,r3,r4,r5,r6,r7⟩
 ·exact Or.inl ⟨List.eq_nil_of_length_eq_zero r2,r1⟩
 ·refine Or.inr ⟨g,cap,cur,r1,hF g (by rw[r1];rfl),r3,r4,fun i hi=>?_⟩
  obtain⟨u,e1,e2⟩:=hr.2 i hi;refine⟨u,?_,e2⟩;rw[←r7,List.getElem?_take,if_pos (by omega)] at e1
  simpa using e1
theorem nG{F:Nat→Prop}{w:World}{xs:List Value}{l:List aI}(h:fR F w xs l):∀u∈xs,u.oneCell'=true:=by
 intro u hu;obtain⟨j,hj,rfl⟩:=List.mem_iff_getElem.1 hu;obtain⟨u',e1,e2⟩:=h.2 j (by rw[←h.1];exact hj)
 rw[List.getElem?_eq_getElem hj] at e1;cases e1;obtain⟨t,z,e⟩:=e2.form;rw[e];rfl
theorem BZ{ops:Array Oper}{rest:List Oper}{o:Oper}{a:Act}{Q:Exit→Act→World→Prop}{w:World}(hgd:o.guard=none)(s x:Operand)(t:TypeId)(ht:Tryz.prog.underlying t=some (.slice 256))
 (ho:o.op=.call { callee:=.builtin .append,args:= #[s,x],argTypes:= #[t,t] })
 (base:Nat) (v:Value) (l m:List aI) (xs:List Value) (F:Nat→Prop) (hs:a.eval s=v) (hown:w.ownsRow base 256 1 v l.length xs) (hr:fR F w xs l)
 (sv:Value) (hx:a.eval x=sv) (hm:PVs F w sv m) (hF:∀b,F b→b<w.heap.size∧v.ownBlock≠some b) (hlen:l.length+m.length≤1000000000) (hbase:base≤w.heap.size)
 (h:∀v' w' ys,w'.ownsRow base 256 1 v' (l++m).length ys→fR F w' ys (l++m)→w.grownBy w' v.ownBlock→wpList Tryz.prog ops Q rest (a.put o.dst v') w'):
 wpList Tryz.prog ops Q (o::rest) a w:=by
 obtain⟨i0,hi,hz0,hz1,hz2⟩:=info_parts mA;rcases hm.row with ⟨rfl,rfl⟩|⟨g,cap,ys,rfl,hg,hgl,hrow,hcell⟩
 ·refine wpList_append_own_none hgd s x t ho base 256 i0 1 ht hi v l.length xs hs hown hx ?_;exact h v w xs (by simpa using hown) (by simpa using hr) ⟨rfl,rfl,rfl,Nat.le_refl _,fun _ _ _=>rfl⟩
 ·refine wpList_append_own _ hgd s x t ho base 256 i0 _ 1 16 ht hi hz0 hz1 hz2 rfl (by decide) v l.length xs hs hown ⟨g,0,none⟩ m.length cap ys hx (by rw[hrow.1];omega) (fun j u hj=>by rw[Addr.add_lit,Nat.zero_add];exact hcell j u hj) (nG hrow) (by unfold maxLen;omega) (by omega) hbase ?_
  intro v' w' hown' hgrow _;have hk:∀b,F b→w'.heap[b]?=w.heap[b]?:=fun b hb=>hgrow.block b (hF b hb).1 (fun e=>(hF b hb).2 e.symm)
  exact h v' w' (xs++ys) (by rw[List.length_append];exact hown') ((hr.keep hk).append (hrow.keep hk)) hgrow
def mY(F:Nat→Prop)(w:World)(ls:List aI)(v:Value)(wr:World):Prop:=
 ∃ys,wr.ownsRow w.heap.size 256 1 v ls.length ys∧fR F wr ys ls∧Below w.heap.size w wr
theorem mY.step{F:Nat→Prop}{w wr w':World}{ls m:List aI}{v v':Value}{ys:List Value}(h:mY F w ls v wr)(ho:w'.ownsRow w.heap.size 256 1 v' (ls++m).length ys)(hr:fR F w' ys (ls++m))(hg:wr.grownBy w' v.ownBlock):mY F w (ls++m) v' w':=by
 obtain⟨zs,h1,h2,h3⟩:=h;refine⟨ys,ho,hr,h3.grown hg h3.size fun k hk=>?_⟩
 exact bX h1 k hk
theorem cP{w:World}{base n k:Nat}{t:TypeId}{v:Value}{ys:List Value}(h:w.ownsRow base t k v n ys):∃x c,v=.slice x n c:=by
 rcases h.2 with ⟨r1,r2⟩|⟨g,cap,cur,r1,_⟩
 ·exact⟨none,0,by rw[r1,r2]⟩
 ·exact⟨_,_,r1⟩
theorem LQ(F:Nat→Prop)(b:Nat)(x y:Option Addr)(c d:Nat)(l m:List aI)(w:World)(hb:w.heap[b]?=some (.cells #[.slice x l.length c,.slice y m.length d] 319 (0,0)))(hl:PVs F w (.slice x l.length c) l)(hm:PVs F w (.slice y m.length d) m)(hF:∀k,F k→k<w.heap.size)(hlm:l.length+m.length≤1000000):
 Calls Tryz.prog 394 #[.slice (some ⟨b,0,none⟩) 2 2] w fun e w'=>∃v',e=.returned v'∧mY F w (l++m) v' w':=by
 have hbl:=aD hb;have c0:=aA hb (i:=0) rfl;have c1:=aA hb (i:=1) rfl;have HL:=aB hl;have HM:=aB hm;have HF:=aB hF;have HG:=aB (VN (l.length+m.length) (by omega) w)
 have HB:=aB hb;clear hl hm hF hb;go_enter Tryz.func394,Tryz.ntmps394;go_wp2_with fail;go_loopg [3,5,11] 2 (fun gk s _ i wr=>wr=w∧((gk=2∧i=.int .i64 0∧s=.int .i64 0)∨(gk=1∧i=.int .i64 1∧s=.int .i64 (l.length:Nat))∨(gk=0∧i=.int .i64 2∧s=.int .i64 ((l.length+m.length:Nat):Int))))
 case atStart=>exact⟨rfl,Or.inl ⟨rfl,rfl,rfl⟩⟩
 case round=>
  obtain⟨hw,hrel⟩:=hrel;obtain rfl:=hw.symm;rcases hrel with ⟨rfl,rfl,rfl⟩|⟨rfl,rfl,rfl⟩|⟨rfl,rfl,rfl⟩
  ·have e:decide ((l.length:Int)<0)=false:=decide_eq_false (by omega)
   go_wp2_with fail;go_roundg 1
   case measure=>omega
   case rel=>exact⟨rfl,Or.inr (Or.inl ⟨rfl,rfl,rfl⟩)⟩
  ·have e:decide ((l.length:Int)+(m.length:Int)<0)=false:=decide_eq_false (by omega)
   go_wp2_with fail;go_roundg 0
   case measure=>omega
   case rel=>exact⟨rfl,Or.inr (Or.inr ⟨rfl,rfl,by simp⟩)⟩
  ·go_wp2_with fail;refine HG.out.mono ?_;rintro e w1 ⟨v1,rfl,hown1,hb1⟩
   obtain⟨x1,c1',rfl⟩:∃x c,v1=.slice x 0 c:=by
    rcases hown1.2 with ⟨r1,_⟩|⟨g,cap,cur,r1,_⟩
    ·exact⟨none,0,r1⟩
    ·exact⟨_,_,r1⟩
   have HI:Hid (mY F w [] (.slice x1 0 c1') w1):=⟨[],hown1,fR.nil _ _,hb1⟩;clear hown1 hb1 HG c0 c1;go_wp2_with fail;go_loopg [6,8,27] 2 (fun gk s _ i wq=>(gk=2∧i=.int .i64 0∧mY F w [] s wq)∨(gk=1∧i=.int .i64 1∧mY F w l s wq)∨(gk=0∧i=.int .i64 2∧mY F w (l++m) s wq))
   case atStart=>exact Or.inl ⟨rfl,rfl,HI.out⟩
   case round=>
    rcases hrel with ⟨rfl,rfl,hc⟩|⟨rfl,rfl,hc⟩|⟨rfl,rfl,hc⟩
    ·have hcs:=hc;obtain⟨ys,ho,hr,hbw⟩:=hc;obtain⟨sx,sc,rfl⟩:=cP ho;have c0:wr.cell? ⟨b,0,none⟩=some (.slice x l.length c):=aA ((hbw.block b hbl).trans HB.out) rfl;have c1:wr.cell? ⟨b,1,none⟩=some (.slice y m.length d):=aA ((hbw.block b hbl).trans HB.out) rfl;have hblr:b<wr.heap.size:=Nat.lt_of_lt_of_le hbl hbw.size;have HO:=aB ho;have HR:=aB hr;have HBW:=aB hbw;have HCS:=aB hcs;have HMM:=aB (HL.out.keep (w':=wr) fun k hk=>hbw.block k (HF.out k hk))
     have HFF:Hid (∀k,F k→k<wr.heap.size∧(Value.slice sx ([]:List aI).length sc).ownBlock≠some k):=fun k hk=>⟨Nat.lt_of_lt_of_le (HF.out k hk) hbw.size,fun e=>by have:=bX ho k e;have:=HF.out k hk;omega⟩
     clear ho hr hbw hcs HI;go_wp2_with (at_builtin;refine BZ (by rfl) _ _ 319 Tryz.underlying319 (by rfl) w.heap.size (.slice sx ([]:List aI).length sc) ([]:List aI) l ys F (by rfl) HO.out HR.out _ (by rfl) HMM.out HFF.out (by first|omega|(simp;omega)) HBW.out.size ?_)
     intro v' w' ys' ho' hr' hg';have HI2:Hid (mY F w (([]:List aI)++l) v' w'):=HCS.out.step (by first|exact ho'|(rw[List.length_append];exact ho')) hr' hg'
     obtain⟨x',c',rfl⟩:=cP ho';clear ho' hr' hg' HO HR HMM HFF HBW HCS;go_wp2_with fail;go_roundg 1
     case measure=>omega
     case rel=>exact Or.inr (Or.inl ⟨rfl,rfl,by simpa using HI2.out⟩)
    ·have hcs:=hc;obtain⟨ys,ho,hr,hbw⟩:=hc;obtain⟨sx,sc,rfl⟩:=cP ho;have c0:wr.cell? ⟨b,0,none⟩=some (.slice x l.length c):=aA ((hbw.block b hbl).trans HB.out) rfl;have c1:wr.cell? ⟨b,1,none⟩=some (.slice y m.length d):=aA ((hbw.block b hbl).trans HB.out) rfl;have hblr:b<wr.heap.size:=Nat.lt_of_lt_of_le hbl hbw.size;have HO:=aB ho;have HR:=aB hr;have HBW:=aB hbw;have HCS:=aB hcs;have HMM:=aB (HM.out.keep (w':=wr) fun k hk=>hbw.block k (HF.out k hk))
     have HFF:Hid (∀k,F k→k<wr.heap.size∧(Value.slice sx (l).length sc).ownBlock≠some k):=fun k hk=>⟨Nat.lt_of_lt_of_le (HF.out k hk) hbw.size,fun e=>by have:=bX ho k e;have:=HF.out k hk;omega⟩
     clear ho hr hbw hcs HI;go_wp2_with (at_builtin;refine BZ (by rfl) _ _ 319 Tryz.underlying319 (by rfl) w.heap.size (.slice sx (l).length sc) (l) m ys F (by rfl) HO.out HR.out _ (by rfl) HMM.out HFF.out (by first|omega|(simp;omega)) HBW.out.size ?_)
     intro v' w' ys' ho' hr' hg';have HI2:Hid (mY F w (l++m) v' w'):=HCS.out.step (by first|exact ho'|(rw[List.length_append];exact ho')) hr' hg'
     obtain⟨x',c',rfl⟩:=cP ho';clear ho' hr' hg' HO HR HMM HFF HBW HCS;go_wp2_with fail;go_roundg 0
     case measure=>omega
     case rel=>exact Or.inr (Or.inr ⟨rfl,rfl,HI2.out⟩)
    ·have HC:=aB hc;obtain⟨ys,ho,_⟩:=hc;obtain⟨sx,sc,rfl⟩:=cP ho;clear ho HI;go_wp2_with fail;go_ret;exact⟨_,rfl,HC.out⟩
def eH(F:Nat→Prop)(w:World)(r:aI × Nat)(e:Ending)(w':World):Prop:=Below w.heap.size w w'∧((r.2=0∧∃u,e=.returned u∧PV (Grow F w w') w' u r.1)∨(r.2≠0∧e=fE r.2))
theorem eH.ok{F:Nat→Prop}{w w':World}{r:aI × Nat}{u:Value}{a:aI}(hb:Below w.heap.size w w')(hr:r=(a,0))(h:PV (Grow F w w') w' u a):eH F w r (.returned u) w':=by subst hr;exact⟨hb,Or.inl ⟨rfl,u,rfl,h⟩⟩
theorem eH.stop{F:Nat→Prop}{w w':World}{r:aI × Nat}{a:aI}{k:Nat}(hb:Below w.heap.size w w')(hr:r=(a,k))(hk:k≠0):eH F w r (fE k) w':=by subst hr;exact⟨hb,Or.inr ⟨hk,rfl⟩⟩
noncomputable def vA(op:List UInt8)(l m:List aI):aI × Nat:=if op=[43] then (if 200<aJ (aU (l++m)) then (bK,6) else (aU (l++m),0)) else (bK,2)
theorem QH(op:List UInt8)(F:Nat→Prop)(x y:Option Addr)(c d:Nat)(l m:List aI)(w:World)(hl:PVs F w (.slice x l.length c) l)(hm:PVs F w (.slice y m.length d) m)(hF:∀k,F k→k<w.heap.size)(hc:aJ (aU l)+aJ (aU m)≤1000000):
 Calls Tryz.prog 392 #[.string (bs op),.slice x l.length c,.slice y m.length d] w (eH F w (vA op l m)):=by
 have hbt:=bZ op;obtain⟨r,hr⟩:∃r,r=vA op l m:=⟨_,rfl⟩;rw[←hr];unfold vA at hr;by_cases o0:op=[43]
 ·rw[if_pos o0] at hr;have e0:((bs op).toList==[43])=true:=by rw[hbt,o0];rfl
  have e0':((bs op).toList != [43])=false:=by rw[hbt,o0];rfl
  have hll:=iS l;have hlm:=iS m;rw[iC,iC] at hc;have hcl:aJ (aU (l++m))=1+((l.map aJ).sum+(m.map aJ).sum):=by rw[iC,List.map_append,List.sum_append]
  have hb0:Below w.heap.size w (w.alloc (.cells #[.slice x l.length c,.slice y m.length d] 319)):=(Below.refl _ _).alloc (Nat.le_refl _) _;have HX:=aB (LQ F w.heap.size x y c d l m (w.alloc (.cells #[.slice x l.length c,.slice y m.length d] 319)) (aR _ _ rfl _) (hl.keep fun k hk=>hb0.block k (hF k hk)) (hm.keep fun k hk=>hb0.block k (hF k hk)) (fun k hk=>Nat.lt_of_lt_of_le (hF k hk) hb0.size) (by omega))
  have HB0:=aB hb0;have HP:=aB hr;clear hbt hr o0 hl hm hF hb0;go_enter Tryz.func392,Tryz.ntmps392;go_wp2_with fail;refine HX.out.mono ?_;rintro e w1 ⟨v1,rfl,ys,ho,hrw,hb1⟩;obtain⟨x1,c1,rfl⟩:=cP ho;have hb01:=HB0.out.trans (hb1.mono HB0.out.size);have hpv:PVs (Grow F w w1) w1 (.slice x1 (l++m).length c1) (l++m):=PVs.ofRow ho (hrw.mono fun k hk=>Or.inl hk) fun k hk=>Or.inr ⟨by have:=bX ho k hk;have:=HB0.out.size;omega,cG ho k hk⟩
  have HY:=aB (lL (Grow F w w1) _ _ w1 (PV.lst hpv) (by omega))
  have HPV:=aB hpv;have HB1:=aB hb01;clear ho hrw hb1 hb01 hpv HX;generalize (l++m).length=n at*;go_wp2_with fail;refine HY.out.mono ?_;rintro e w2 ⟨rfl,⟨h2,rfl⟩|⟨h2,rfl⟩⟩
  ·have HQ:Hid (r=(aU (l++m),0)):=by show _=_;rw[HP.out,if_neg (by omega)]
   clear h2 HP;go_wp2_with fail;go_ret;exact eH.ok HB1.out HQ.out (PV.lst HPV.out)
  ·have HQ:Hid (r=(bK,6)):=by show _=_;rw[HP.out,if_pos h2]
   clear h2 HP;go_wp2_with fail;exact⟨rfl,eH.stop HB1.out HQ.out (by decide)⟩
 ·rw[if_neg o0] at hr;have e0:((bs op).toList==[43])=false:=by rw[hbt];simpa using o0
  have e0':((bs op).toList != [43])=true:=by rw[hbt];simpa using o0
  have HP:=aB hr;clear hbt hr o0 hl hm hF;go_enter Tryz.func392,Tryz.ntmps392;go_wp2_with fail;exact⟨rfl,eH.stop (Below.refl _ _) HP.out (by decide)⟩
theorem eH.ofQ{F:Nat→Prop}{w w':World}{r:aI × Nat}{e:Ending}(h:kK F w r e w'):eH F w r e w':=by
 obtain⟨rfl,⟨h1,u,h2,h3⟩|⟨h1,h2⟩⟩:=h
 ·exact⟨Below.refl _ _,Or.inl ⟨h1,u,h2,h3.mono fun _ hb=>Or.inl hb⟩⟩
 ·exact⟨Below.refl _ _,Or.inr ⟨h1,h2⟩⟩
theorem YX{op:List UInt8}(h1:op≠[61,61])(h2:op≠[33,61])(n m:Int):eG op (bB n) (bB m)=iL op n m:=by
 unfold eG;rw[if_neg h1,if_neg h2,if_neg (by simp[bB]),if_pos (by simp[bB])];rfl
theorem YW{op:List UInt8}(h1:op≠[61,61])(h2:op≠[33,61])(a b:List UInt8):eG op (bH a) (bH b)=EO op a b:=by
 unfold eG EO iK;rw[if_neg h1,if_neg h2,if_neg (by simp[bH]),if_neg (by simp[bH])]
 by_cases o0:op=[60]
 ·rw[if_neg (by rw[o0];decide),if_pos ⟨rfl,o0⟩,if_pos o0];rfl
 by_cases o1:op=[60,61]
 ·rw[if_neg (by rw[o1];decide),if_neg (fun h=>o0 h.2),if_pos ⟨rfl,o1⟩,if_neg o0,if_pos o1];rfl
 by_cases o2:op=[43]
 ·rw[if_pos o2,if_neg o0,if_neg o1,if_pos o2];have e:(if (bH a).sort=3 then aU ((bH a).l++(bH b).l) else bH ((bH a).s++(bH b).s))=bH (a++b):=rfl
  simp only[e]
 ·rw[if_neg o2,if_neg (fun h=>o0 h.2),if_neg (fun h=>o1 h.2),if_neg o0,if_neg o1,if_neg o2]
theorem UH{op:List UInt8}(h1:op≠[61,61])(h2:op≠[33,61])(a b:List aI):eG op (aU a) (aU b)=vA op a b:=by
 unfold eG vA iK;rw[if_neg h1,if_neg h2,if_neg (by simp[aU]),if_neg (by simp[aU])]
 by_cases o2:op=[43]
 ·rw[if_pos o2,if_pos o2];have e:(if (aU a).sort=3 then aU ((aU a).l++(aU b).l) else bH ((aU a).s++(aU b).s))=aU (a++b):=rfl
  simp only[e]
 ·rw[if_neg o2,if_neg o2,if_neg (by simp[aU]),if_neg (by simp[aU])]
theorem fT{op:List UInt8}(h1:op≠[61,61])(h2:op≠[33,61]){a b:aI}(h:a.sort≠b.sort∨a.sort=1):eG op a b=(bK,2):=by
 unfold eG;rw[if_neg h1,if_neg h2,if_pos h]
theorem LT(op:List UInt8)(F:Nat→Prop)(u v:Value)(a b:aI)(w:World)(hu:PV F w u a)(hv:PV F w v b)(hF:∀k,F k→k<w.heap.size)(hca:aJ a≤400000)(hcb:aJ b≤400000):
 Calls Tryz.prog 388 #[.string (bs op),u,v] w (eH F w (eG op a b)):=by
 have hbt:=bZ op;by_cases o0:op=[61,61]
 ·have e0:((bs op).toList==[61,61])=true:=by rw[hbt,o0];rfl
  have HP:Hid (eG op a b=(bL (cD a b),0)):=by show _=_;unfold eG;rw[if_pos o0]
  have HX:=aB (sF F 400000 u v a b w hu hv hca (by omega) (by omega))
  obtain⟨t,z,rfl⟩:=hu.form;obtain⟨t',z',rfl⟩:=hv.form;clear hu hv hbt o0;rw[HP.out];generalize cD a b=s at*;go_enter Tryz.func388,Tryz.ntmps388;go_wp2_with fail;refine HX.out.mono ?_;rintro e w1 ⟨rfl,rfl⟩;go_wp2_with fail;go_ret;exact eH.ok (Below.refl _ _) rfl (PV.tru _ _ s)
 have e0:((bs op).toList==[61,61])=false:=by rw[hbt];simpa using o0
 by_cases o1:op=[33,61]
 ·have e1:((bs op).toList==[33,61])=true:=by rw[hbt,o1];rfl
  have HP:Hid (eG op a b=(bL (!cD a b),0)):=by show _=_;unfold eG;rw[if_neg o0,if_pos o1]
  have HX:=aB (sF F 400000 u v a b w hu hv hca (by omega) (by omega))
  obtain⟨t,z,rfl⟩:=hu.form;obtain⟨t',z',rfl⟩:=hv.form;clear hu hv hbt o0 o1;rw[HP.out];generalize cD a b=s at*;go_enter Tryz.func388,Tryz.ntmps388;go_wp2_with fail;refine HX.out.mono ?_;rintro e w1 ⟨rfl,rfl⟩;go_wp2_with fail;go_ret;exact eH.ok (Below.refl _ _) rfl (PV.tru _ _ (!s))
 have e1:((bs op).toList==[33,61])=false:=by rw[hbt];simpa using o1
 clear hbt;rcases hu.cases with ⟨n,rfl,rfl,h1,h2⟩|⟨s,rfl,rfl⟩|⟨s,rfl,rfl⟩|⟨x,c,l,rfl,rfl,hl⟩
 ·have qa:=kN;rcases hv.cases with ⟨n',rfl,rfl,h1',h2'⟩|⟨s',rfl,rfl⟩|⟨s',rfl,rfl⟩|⟨x',c',l',rfl,rfl,hl'⟩
  ·have qb:=kN;rw[YX o0 o1];have HX:=aB (VM op F n n' w h1 h2 h1' h2');generalize iL op n n'=r at*;clear hu hv hF o0 o1 hca hcb;go_enter Tryz.func388,Tryz.ntmps388;go_wp2_with fail;refine HX.out.mono ?_;rintro e w1 ⟨rfl,⟨hk,u1,rfl,hp⟩|⟨hk,rfl⟩⟩
   ·have HP:=aB hp;have HK:=aB hk;obtain⟨t1,z1,rfl⟩:=hp.form;clear hp hk;go_wp2_with fail;go_ret;exact eH.ofQ ⟨rfl,Or.inl ⟨HK.out,_,rfl,HP.out⟩⟩
   ·have HK:=aB hk;clear hk;go_wp2_with fail;exact⟨rfl,eH.ofQ ⟨rfl,Or.inr ⟨HK.out,rfl⟩⟩⟩
  ·have qb:=jQ;rw[fT o0 o1 (by simp[bB,bL])]
   clear hu hv hF o0 o1 hca hcb;go_enter Tryz.func388,Tryz.ntmps388;go_wp2_with fail;exact⟨rfl,eH.stop (Below.refl _ _) rfl (by decide)⟩
  ·have qb:=kM;rw[fT o0 o1 (by simp[bB,bH])]
   clear hu hv hF o0 o1 hca hcb;go_enter Tryz.func388,Tryz.ntmps388;go_wp2_with fail;exact⟨rfl,eH.stop (Below.refl _ _) rfl (by decide)⟩
  ·have qb:=jO;rw[fT o0 o1 (by simp[bB,aU])]
   clear hu hv hF o0 o1 hca hcb;go_enter Tryz.func388,Tryz.ntmps388;go_wp2_with fail;exact⟨rfl,eH.stop (Below.refl _ _) rfl (by decide)⟩
 ·have qa:=jQ;have qa_Str:=jP;have qa_List:=gE;rcases hv.cases with ⟨n',rfl,rfl,h1',h2'⟩|⟨s',rfl,rfl⟩|⟨s',rfl,rfl⟩|⟨x',c',l',rfl,rfl,hl'⟩
  ·have qb:=kN;rw[fT o0 o1 (by simp[bL,bB])]
   clear hu hv hF o0 o1 hca hcb;go_enter Tryz.func388,Tryz.ntmps388;go_wp2_with fail;exact⟨rfl,eH.stop (Below.refl _ _) rfl (by decide)⟩
  ·have qb:=jQ;rw[fT o0 o1 (by simp[bL])]
   clear hu hv hF o0 o1 hca hcb;go_enter Tryz.func388,Tryz.ntmps388;go_wp2_with fail;exact⟨rfl,eH.stop (Below.refl _ _) rfl (by decide)⟩
  ·have qb:=kM;rw[fT o0 o1 (by simp[bL,bH])]
   clear hu hv hF o0 o1 hca hcb;go_enter Tryz.func388,Tryz.ntmps388;go_wp2_with fail;exact⟨rfl,eH.stop (Below.refl _ _) rfl (by decide)⟩
  ·have qb:=jO;rw[fT o0 o1 (by simp[bL,aU])]
   clear hu hv hF o0 o1 hca hcb;go_enter Tryz.func388,Tryz.ntmps388;go_wp2_with fail;exact⟨rfl,eH.stop (Below.refl _ _) rfl (by decide)⟩
 ·have qa:=kM;have qa_Str:=jK;rcases hv.cases with ⟨n',rfl,rfl,h1',h2'⟩|⟨s',rfl,rfl⟩|⟨s',rfl,rfl⟩|⟨x',c',l',rfl,rfl,hl'⟩
  ·have qb:=lU;rw[fT o0 o1 (by simp[bH,bB])]
   clear hu hv hF o0 o1 hca hcb;go_enter Tryz.func388,Tryz.ntmps388;go_wp2_with fail;exact⟨rfl,eH.stop (Below.refl _ _) rfl (by decide)⟩
  ·have qb:=jP;rw[fT o0 o1 (by simp[bH,bL])]
   clear hu hv hF o0 o1 hca hcb;go_enter Tryz.func388,Tryz.ntmps388;go_wp2_with fail;exact⟨rfl,eH.stop (Below.refl _ _) rfl (by decide)⟩
  ·have qb:=jK;rw[YW o0 o1];rw[jX] at hca hcb;have HX:=aB (VG op F s s' w (by omega))
   generalize EO op s s'=r at*;clear hu hv hF o0 o1 hca hcb;go_enter Tryz.func388,Tryz.ntmps388;go_wp2_with fail;refine HX.out.mono ?_;rintro e w1 ⟨rfl,⟨hk,u1,rfl,hp⟩|⟨hk,rfl⟩⟩
   ·have HP:=aB hp;have HK:=aB hk;obtain⟨t1,z1,rfl⟩:=hp.form;clear hp hk;go_wp2_with fail;go_ret;exact eH.ofQ ⟨rfl,Or.inl ⟨HK.out,_,rfl,HP.out⟩⟩
   ·have HK:=aB hk;clear hk;go_wp2_with fail;exact⟨rfl,eH.ofQ ⟨rfl,Or.inr ⟨HK.out,rfl⟩⟩⟩
  ·have qb:=kY;rw[fT o0 o1 (by simp[bH,aU])]
   clear hu hv hF o0 o1 hca hcb;go_enter Tryz.func388,Tryz.ntmps388;go_wp2_with fail;exact⟨rfl,eH.stop (Below.refl _ _) rfl (by decide)⟩
 ·have qa:=jO;have qa_Str:=kY;have qa_List:=gD;rcases hv.cases with ⟨n',rfl,rfl,h1',h2'⟩|⟨s',rfl,rfl⟩|⟨s',rfl,rfl⟩|⟨x',c',l',rfl,rfl,hl'⟩
  ·have qb:=iG;rw[fT o0 o1 (by simp[aU,bB])]
   clear hu hv hF o0 o1 hca hcb;go_enter Tryz.func388,Tryz.ntmps388;go_wp2_with fail;exact⟨rfl,eH.stop (Below.refl _ _) rfl (by decide)⟩
  ·have qb:=gE;rw[fT o0 o1 (by simp[aU,bL])]
   clear hu hv hF o0 o1 hca hcb;go_enter Tryz.func388,Tryz.ntmps388;go_wp2_with fail;exact⟨rfl,eH.stop (Below.refl _ _) rfl (by decide)⟩
  ·have qb:=jN;rw[fT o0 o1 (by simp[aU,bH])]
   clear hu hv hF o0 o1 hca hcb;go_enter Tryz.func388,Tryz.ntmps388;go_wp2_with fail;exact⟨rfl,eH.stop (Below.refl _ _) rfl (by decide)⟩
  ·have qb:=gD;rw[UH o0 o1];have HX:=aB (QH op F x x' c c' l l' w hl hl' hF (by omega))
   generalize vA op l l'=r at*;clear hu hv hF o0 o1 hca hcb hl hl';go_enter Tryz.func388,Tryz.ntmps388;go_wp2_with fail;refine HX.out.mono ?_;rintro e w1 ⟨hb1,⟨hk,u1,rfl,hp⟩|⟨hk,rfl⟩⟩
   ·have HP:=aB hp;have HK:=aB hk;have HB:=aB hb1;obtain⟨t1,z1,rfl⟩:=hp.form;clear hp hk hb1;go_wp2_with fail;go_ret;exact⟨HB.out,Or.inl ⟨HK.out,_,rfl,HP.out⟩⟩
   ·have HK:=aB hk;have HB:=aB hb1;clear hk hb1;go_wp2_with fail;exact⟨rfl,HB.out,Or.inr ⟨HK.out,rfl⟩⟩
theorem gZ{w:World}{a:Addr}{v:Value}(o:Obj)(h:w.cell? a=some v):(w.alloc o).cell? a=some v:=by
 have hlt:=World.block_lt_of_cell? w a h;rw[←h];exact World.cell?_of_block (Below.heap_alloc _ _ _ hlt)
theorem DY(g off n c:Nat)(news:List Value)(w:World)(hl:news.length=n*1)(hn:n≤1000000)(hc:∀j u,news[j]?=some u→w.cell? ⟨g,off+j,none⟩=some u)(h1:∀u∈news,u.oneCell'=true):
 Calls Tryz.prog 407 #[.slice (some ⟨g,off,none⟩) n c] w fun e w'=>∃v',e=.returned v'∧w'.ownsRow w.heap.size 256 1 v' n news∧Below w.heap.size w w':=by
 obtain⟨i0,hi,hz0,hz1,hz2⟩:=info_parts mA;have HC:=aB hc;clear hc;have q22:∀(w:World) (a:Option Addr) (n c n' c':Nat),(binOp .eql 319 (.slice a n c) (.slice none n' c')).run Tryz.prog w=.ok (.bool a.isNone) w:=fun w a n c n' c'=>Lib.run_eql_slice_nil w _ _ a n c n' c' Tryz.underlying319
 go_enter Tryz.func407,Tryz.ntmps407;go_wp2_with (at_builtin;refine wpList_append_own _ (by rfl) _ _ 319 (by rfl) w.heap.size 256 i0 _ 1 16 Tryz.underlying319 hi hz0 hz1 hz2 rfl (by decide) (.slice (some ⟨w.heap.size,0,none⟩) 0 0) 0 [] (by rfl) (World.ownsRow_made w #[] 0 (Nat.le_refl _) (Nat.zero_le _) (by simp)) ⟨g,off,none⟩ n c news (by rfl) hl (fun j u hj=>by rw[Addr.add_lit];exact gZ _ (HC.out j u hj)) h1 (by unfold maxLen;omega) (by omega) (by simp) ?_)
 intro v' w1 hown hgrow _;have HO:=aB hown;have HG:=aB hgrow;obtain⟨x',c',rfl⟩:=cP hown;clear hown hgrow;go_wp2_with fail;go_ret;refine⟨_,rfl,by simpa using HO.out,?_⟩
 exact((Below.refl _ w).alloc (Nat.le_refl _) _).grown HG.out (by simp) (by intro k hk;simp[Value.ownBlock] at hk;omega)
theorem rH(g off n c:Nat)(news:List Value)(w:World)(hl:news.length=n*1)(hn:n≤1000000)(hc:∀j u,news[j]?=some u→w.cell? ⟨g,off+j,none⟩=some u)(h1:∀u∈news,u.oneCell'=true):
 Calls Tryz.prog 282 #[.slice (some ⟨g,off,none⟩) n c] w fun e w'=>∃v',e=.returned v'∧w'.ownsRow w.heap.size 256 1 v' n news∧Below w.heap.size w w':=by
 obtain⟨i0,hi,hz0,hz1,hz2⟩:=info_parts mA;have HC:=aB hc;clear hc;have q22:∀(w:World) (a:Option Addr) (n c n' c':Nat),(binOp .eql 193 (.slice a n c) (.slice none n' c')).run Tryz.prog w=.ok (.bool a.isNone) w:=fun w a n c n' c'=>Lib.run_eql_slice_nil w _ _ a n c n' c' Tryz.underlying193
 go_enter Tryz.func282,Tryz.ntmps282;go_wp2_with (at_builtin;refine wpList_append_own _ (by rfl) _ _ 193 (by rfl) w.heap.size 256 i0 _ 1 16 Tryz.underlying193 hi hz0 hz1 hz2 rfl (by decide) (.slice (some ⟨w.heap.size,0,none⟩) 0 0) 0 [] (by rfl) (World.ownsRow_made w #[] 0 (Nat.le_refl _) (Nat.zero_le _) (by simp)) ⟨g,off,none⟩ n c news (by rfl) hl (fun j u hj=>by rw[Addr.add_lit];exact gZ _ (HC.out j u hj)) h1 (by unfold maxLen;omega) (by omega) (by simp) ?_)
 intro v' w1 hown hgrow _;have HO:=aB hown;have HG:=aB hgrow;obtain⟨x',c',rfl⟩:=cP hown;clear hown hgrow;go_wp2_with fail;go_ret;refine⟨_,rfl,by simpa using HO.out,?_⟩
 exact((Below.refl _ w).alloc (Nat.le_refl _) _).grown HG.out (by simp) (by intro k hk;simp[Value.ownBlock] at hk;omega)
theorem rG(w:World):
 Calls Tryz.prog 282 #[.slice none 0 0] w fun e w'=>e=.returned (.slice none 0 0)∧w'=w:=by
 have q22:∀(w:World) (a:Option Addr) (n c n' c':Nat),(binOp .eql 193 (.slice a n c) (.slice none n' c')).run Tryz.prog w=.ok (.bool a.isNone) w:=fun w a n c n' c'=>Lib.run_eql_slice_nil w _ _ a n c n' c' Tryz.underlying193
 go_enter Tryz.func282,Tryz.ntmps282;go_wp2_with fail;go_ret;exact⟨rfl,rfl⟩
def O7(F:Nat→Prop)(w:World)(sv:Value)(l:List aI):Prop:=
 (l=[]∧∃x c,sv=.slice x 0 c)∨∃g o c,sv=.slice (some ⟨g,o,none⟩) l.length c∧l.length≤c∧g<w.heap.size∧∀i (h:i<l.length),∃u,w.cell? ⟨g,o+i,none⟩=some u∧PV F w u l[i]
theorem tU{i:aI}{at':List aI}{a b:aI}:cF (i::at') a b=if a.sort≠3∨i.sort≠0 then (bK,2) else if i.n<0∨(a.l.length:Int)≤i.n then (bK,4) else if (cF at' (a.l.getD i.n.toNat bK) b).2≠0 then (bK,(cF at' (a.l.getD i.n.toNat bK) b).2) else (aU (a.l.set i.n.toNat (cF at' (a.l.getD i.n.toNat bK) b).1),0):=by
 rw[cF]
theorem J4{w:World}{base n g cap k:Nat}{t:TypeId}{ys:List Value}{u:Value}(h:w.ownsRow base t 1 (.slice (some ⟨g,0,none⟩) n cap) n ys)(_hk:k<n):
 (w.setCell ⟨g,k,none⟩ u).ownsRow base t 1 (.slice (some ⟨g,0,none⟩) n cap) n (ys.set k u):=by
 rcases h.2 with ⟨r1,_⟩|⟨g',cap',cur,r1,r2,r3,r4,r5,r6,r7⟩
 ·cases r1
 ·cases r1;refine⟨by rw[List.length_set];exact h.1,Or.inr ⟨g,cap,cur.setIfInBounds k u,rfl,r2,?_,r4,r5,by simpa using r6,?_⟩⟩
  ·rw[aQ r3]
  ·rw[←r7,Array.toList_setIfInBounds,List.take_set]
theorem fR.set{F:Nat→Prop}{w:World}{xs:List Value}{l:List aI}{u:Value}{a:aI}(h:fR F w xs l)(k:Nat)(hu:PV F w u a):fR F w (xs.set k u) (l.set k a):=by
 refine⟨by simp[h.1],fun i hi=>?_⟩
 rw[List.length_set] at hi;by_cases hk:k=i
 ·subst hk;exact⟨u,by rw[List.getElem?_set_self (by rw[h.1];exact hi)],by rw[List.getElem_set_self];exact hu⟩
 ·obtain⟨v,e1,e2⟩:=h.2 i hi;exact⟨v,by rw[List.getElem?_set_ne hk];exact e1,by rw[List.getElem_set_ne hk];exact e2⟩
theorem ZN{F:Nat→Prop}{w w1 w2:World}{g1 c1 k:Nat}{xs:List Value}{m:List aI}{t2:TypeId}{u2:Value}{rk:aI}{r:aI × Nat}(hb1:Below w.heap.size w w1)(hb2:Below w1.heap.size w1.drew w2)
 (hown:w1.ownsRow w.heap.size 256 1 (.slice (some ⟨g1,0,none⟩) m.length c1) m.length xs) (hr:fR F w xs m) (hp:PV (Grow F w1.drew w2) w2 (.iface t2 u2) rk) (hq:r=(aU (m.set k rk),0)) (hF:∀q,F q→q<w.heap.size) (hk:k<m.length):
 eH F w r (.returned (.iface 319 (.slice (some ⟨g1,0,none⟩) m.length c1))) (w2.setCell ⟨g1,k,none⟩ (.iface t2 u2)):=by
 have hg1:w.heap.size≤g1:=bX hown g1 rfl;have hg1l:g1<w1.heap.size:=cG hown g1 rfl;have hb2':Below w1.heap.size w1 w2:=((Below.refl _ w1).drew).trans hb2;have h12:w1.heap.size≤w2.heap.size:=hb2'.size;have h01:w.heap.size≤w1.heap.size:=hb1.size;have hb:Below w.heap.size w w2:=hb1.trans (hb2'.mono hb1.size);have hb3:Below w.heap.size w (w2.setCell ⟨g1,k,none⟩ (.iface t2 u2)):=hb.setCell hg1 _;have ho2:w2.ownsRow w.heap.size 256 1 (.slice (some ⟨g1,0,none⟩) m.length c1) m.length xs:=aY hown fun q hq=>hb2'.block q (cG hown q hq)
 have ho3:=J4 (u:=.iface t2 u2) ho2 hk;have hsz:(w2.setCell ⟨g1,k,none⟩ (.iface t2 u2)).heap.size=w2.heap.size:=by simp
 refine eH.ok hb3 hq (PV.lst ?_);have hlen:(m.set k rk).length=m.length:=List.length_set;have:=PVs.ofRow (F:=Grow F w (w2.setCell ⟨g1,k,none⟩ (.iface t2 u2))) (l:=m.set k rk) (by rw[hlen];exact ho3) ?_ ?_
 ·exact this
 ·refine fR.set ((hr.keep fun q hq=>hb3.block q (hF q hq)).mono fun q hq=>Or.inl hq) k ?_
  refine(hp.keep fun q hq=>?_).mono fun q hq=>?_
  ·refine Below.heap_setCell _ _ _ _ ?_;show q≠g1
   rcases hq with hq|⟨hq,_⟩
   ·have:=hF q hq;omega
   ·have:w1.heap.size≤q:=hq;omega
  ·rcases hq with hq|⟨hq,hq'⟩
   ·exact Or.inl hq
   ·refine Or.inr ⟨?_,by rw[hsz];exact hq'⟩
    have:w1.heap.size≤q:=hq;omega
 ·intro q hq;obtain rfl:g1=q:=Option.some.inj hq;exact Or.inr ⟨hg1,by rw[hsz];omega⟩
def qP(F:Nat→Prop)(l:List aI):Prop:=∀(sv u v:Value) (a b:aI) (w:World),O7 F w sv l→PV F w u a→PV F w v b→(∀k,F k→k<w.heap.size)→aJ a≤400000→l.length≤1000000→
 Calls Tryz.prog 406 #[u,sv,v] w (eH F w (cF l a b))
theorem JP(F:Nat→Prop):qP F []:=by
 intro sv u v a b w hi hu hv hF hc hl
 obtain⟨x,c,rfl⟩:∃x c,sv=.slice x 0 c:=by
  rcases hi with ⟨_,x,c,h⟩|⟨g,o,c,h,_⟩
  ·exact⟨x,c,h⟩
  ·exact⟨_,_,h⟩
 have HV:=aB hv;obtain⟨t,z,rfl⟩:=hu.form;obtain⟨t',z',rfl⟩:=hv.form;clear hi hu hv hF;go_enter Tryz.func406,Tryz.ntmps406;go_wp2_with fail;go_ret;exact eH.ok (Below.refl _ _) rfl (HV.out.mono fun _ hb=>Or.inl hb)
theorem JQ(F:Nat→Prop)(i:aI)(l:List aI)(IH:∀F,qP F l):qP F (i::l):=by
 intro sv u v a b w hi hu hv hF hc hl;simp only[List.length_cons] at hl
 obtain⟨g,o,c,rfl,hcap,hg,hcell⟩:∃g o c,sv=.slice (some ⟨g,o,none⟩) (l.length+1) c∧l.length+1≤c∧g<w.heap.size∧∀j (h:j<(i::l).length),∃u,w.cell? ⟨g,o+j,none⟩=some u∧PV F w u (i::l)[j]:=by
  rcases hi with ⟨h,_⟩|⟨g,o,c,h1,h2,h3,h4⟩
  ·cases h
  ·exact⟨g,o,c,h1,h2,h3,h4⟩
 obtain⟨ui,ci,hpi⟩:=hcell 0 (by simp)
 simp only[Nat.add_zero,List.getElem_cons_zero] at ci hpi;have hne:(((l.length+1:Nat):Int)==0)=false:=by simp;omega
 obtain⟨r,hr⟩:∃r,r=cF (i::l) a b:=⟨_,rfl⟩;rw[←hr];rw[tU] at hr;obtain⟨t',z',rfl⟩:=hv.form;obtain⟨ti,zi,rfl⟩:=hpi.form;have stopT:a.sort≠3→Hid (r=(bK,2)):=fun h=>by show _=_;rw[hr,if_pos (Or.inl h)]
 rcases hu.cases with ⟨n,rfl,rfl,_,_⟩|⟨s,rfl,rfl⟩|⟨s,rfl,rfl⟩|⟨x,cx,m,rfl,rfl,hm⟩
 ·have HP:=stopT (by simp[bB])
  have q:=iG;clear hu hv hi hF hcell hpi hr stopT IH;go_enter Tryz.func406,Tryz.ntmps406;go_wp2_with fail;exact⟨rfl,eH.stop (Below.refl _ _) HP.out (by decide)⟩
 ·have HP:=stopT (by simp[bL])
  have q:=gE;clear hu hv hi hF hcell hpi hr stopT IH;go_enter Tryz.func406,Tryz.ntmps406;go_wp2_with fail;exact⟨rfl,eH.stop (Below.refl _ _) HP.out (by decide)⟩
 ·have HP:=stopT (by simp[bH])
  have q:=jN;clear hu hv hi hF hcell hpi hr stopT IH;go_enter Tryz.func406,Tryz.ntmps406;go_wp2_with fail;exact⟨rfl,eH.stop (Below.refl _ _) HP.out (by decide)⟩
 ·have q:=gD;have hml:=iS m;rw[iC] at hc;have HPL:=aB (sE F _ i m.length w hpi (by omega))
  have HR:=aB hr;have HM:=aB hm;have HV:=aB hv;have HF:=aB hF;have HCE:=aB hcell;have HIH:=aB IH;clear hu hv hi hF hcell hpi hr stopT IH hm;go_enter Tryz.func406,Tryz.ntmps406;go_wp2_with fail;refine HPL.out.mono ?_;rintro e w1 ⟨hw,⟨h2,rfl⟩|⟨h2,h3,rfl⟩|⟨h2,k,hk,hkn,rfl⟩⟩
  ·obtain rfl:=hw.symm;have HP:Hid (r=(bK,2)):=by show _=_;rw[HR.out,if_pos (Or.inr h2)]
   clear h2 hw;go_wp2_with fail;exact⟨rfl,eH.stop (Below.refl _ _) HP.out (by decide)⟩
  ·obtain rfl:=hw.symm;have HP:Hid (r=(bK,4)):=by show _=_;rw[HR.out,if_neg (by simp[aU,h2]),if_pos (show i.n<0∨((aU m).l.length:Int)≤i.n from h3)]
   clear h2 h3 hw;go_wp2_with fail;exact⟨rfl,eH.stop (Below.refl _ _) HP.out (by decide)⟩
  ·obtain rfl:=hw.symm;obtain⟨gm,uk0,hx0,_⟩:=HM.out.get k hk;rcases HM.out.row with ⟨rfl,_⟩|⟨gm',cm',xs,hxe,hgF,hgl,hrow,hcellm⟩
   ·simp at hk
   cases hxe;obtain⟨uk,hxk,hpk⟩:=hrow.2 k hk;have HCL:=aB (DY gm' 0 m.length cx xs w (by rw[hrow.1];omega) (by omega) (fun j u hj=>by rw[Nat.zero_add];exact hcellm j u hj) (nG hrow))
   have hck:aJ m[k]≤400000:=by have:=kU (List.getElem_mem hk);omega
   have HRK:Hid (r=if (cF l m[k] b).2≠0 then (bK,(cF l m[k] b).2) else (aU (m.set k (cF l m[k] b).1),0)):=by
    show _=_
    have hkt:i.n.toNat=k:=by rw[hkn];rfl
    have hgd:(aU m).l.getD i.n.toNat bK=m[k]:=by rw[hkt];show m.getD k bK=_;show (m[k]?).getD bK=_;rw[List.getElem?_eq_getElem hk];rfl
    rw[HR.out,if_neg (by simp[aU,h2]),if_neg (by show ¬(i.n<0∨((aU m).l.length:Int)≤i.n);rw[hkn];show ¬((k:Int)<0∨(m.length:Int)≤k);omega),hgd,hkt]
    rfl
   obtain⟨tk,zk,rfl⟩:=hpk.form;have HRW:=aB hrow;have HPK:=aB hpk;have HXK:=aB hxk;clear hw h2 hkn HR HPL hcellm hrow hpk hxk hgF hx0;go_wp2_with fail;refine HCL.out.mono ?_;rintro e w1 ⟨v1,rfl,hown,hb1⟩;rcases hown.2 with ⟨r1,r2⟩|⟨g1,c1,cur,rfl,hg1,hblk1,hmc,hcm,hcs,htk⟩
   ·omega
   have hcur:cur[k]?=some (.iface tk zk):=by
    have:=HXK.out;rw[←htk,List.getElem?_take,if_pos (by omega)] at this
    simpa using this
   have d0:w1.cell? ⟨g1,k,none⟩=some (.iface tk zk):=aA hblk1 hcur;have hg1l:=aD hblk1;have HF1:Hid (∀q,F q→q<w1.drew.heap.size):=fun q hq=>Nat.lt_of_lt_of_le (HF.out q hq) hb1.size
   have hb1d:Below w.heap.size w w1.drew:=hb1.drew;obtain⟨ad,had⟩:∃ad:Option Addr,(if c=1 then some (⟨g,o,none⟩:Addr) else some ⟨g,o+1,none⟩)=ad:=⟨_,rfl⟩
   have hix:O7 F w1.drew (.slice ad l.length (c-1)) l:=by
    by_cases h1:c=1
    ·have ht:l=[]:=List.length_eq_zero_iff.1 (by omega)
     exact Or.inl ⟨ht,_,_,by rw[ht];rfl⟩
    ·rw[if_neg h1] at had;subst had;refine Or.inr ⟨g,o+1,c-1,rfl,by omega,Nat.lt_of_lt_of_le hg hb1d.size,fun j hj=>?_⟩
     obtain⟨u,e1,e2⟩:=HCE.out (j+1) (by simp;omega)
     rw[show o+(j+1)=o+1+j by omega] at e1
     exact⟨u,by rw[hb1d.cell (p:=⟨g,o+1+j,none⟩) hg];exact e1,e2.keep fun k hk=>hb1d.block k (HF.out k hk)⟩
   have hs1:(1:Int)≤(l.length:Int)+1:=by omega
   have hs2:(l.length:Int)+1≤(c:Int):=by omega
   have HX:=aB (HIH.out F (.slice ad l.length (c-1)) (.iface tk zk) (.iface t' z') m[k] b w1.drew hix (HPK.out.keep fun k hk=>hb1d.block k (HF.out k hk)) (HV.out.keep fun k hk=>hb1d.block k (HF.out k hk)) HF1.out hck (by omega))
   generalize cF l m[k] b=rk at HX HRK;have HOWN:=aB hown;have HBLK:=aB hblk1;have HB1:=aB hb1;clear hown hblk1 hb1 hb1d hix HCL HIH HCE HPK hcs htk hmc hcm HXK;by_cases hz:rk.2=0
   ·have HX1:Hid (Calls Tryz.prog 406 #[.iface tk zk,.slice ad l.length (c-1),.iface t' z'] w1.drew fun e w'=>Below w1.heap.size w1.drew w'∧∃t2 u2,e=.returned (.iface t2 u2)∧PV (Grow F w1.drew w') w' (.iface t2 u2) rk.1):=by
     refine HX.out.mono ?_;rintro e w2 ⟨hb2,⟨_,u2,rfl,hp2⟩|⟨hk2,rfl⟩⟩
     ·obtain⟨t2,z2,rfl⟩:=hp2.form;exact⟨hb2,t2,z2,rfl,hp2⟩
     ·exact absurd hz hk2
    have HQ:Hid (r=(aU (m.set k rk.1),0)):=by show _=_;rw[HRK.out,if_neg (by simp[hz])]
    clear HX HRK hz;go_wp2_with fail;go_region_law (go_simp;go_at_call 406;refine HX1.out.mono ?_;rintro e w2 ⟨hb2,t2,u2,rfl,hp2⟩;have hblk2:=(hb2.block g1 hg1l).trans HBLK.out;have d2:=aA hblk2 hcur;have fz2:=aE hblk2 (i:=k);have hg2l:=aD hblk2;have HP2:=aB hp2;have HB2:=aB hb2;have HBLK2:=aB hblk2;clear hp2 hb2 hblk2)
    all_goals
     go_wp2_with fail;go_ret;exact ZN HB1.out HB2.out HOWN.out HRW.out HP2.out HQ.out HF.out hk
   ·have HX1:Hid (Calls Tryz.prog 406 #[.iface tk zk,.slice ad l.length (c-1),.iface t' z'] w1.drew fun e w'=>Below w1.heap.size w1.drew w'∧e=fE rk.2):=by
     refine HX.out.mono ?_;rintro e w2 ⟨hb2,⟨hk2,_⟩|⟨_,rfl⟩⟩
     ·exact absurd hk2 hz
     ·exact⟨hb2,rfl⟩
    have HQ:Hid (r=(bK,rk.2)):=by show _=_;rw[HRK.out,if_pos hz]
    have HS:Hid (∀w2,Below w1.heap.size w1.drew w2→eH F w r (fE rk.2) w2):=fun w2 h=>eH.stop (HB1.out.drew.trans (h.mono HB1.out.size)) HQ.out hz
    clear HX HRK hz;go_wp2_with fail;go_region_dies
    all_goals (refine HX1.out.mono ?_;rintro e w2 ⟨hb2,rfl⟩;exact⟨rfl,HS.out _ hb2⟩)
theorem wO:∀(l:List aI) (F:Nat→Prop),qP F l
 |[],F=>JP F
 |i::l,F=>JQ F i l (wO l)
end Go.Proofs.YtblbkfdhjfppkaaGreatDoor
namespace Go.Proofs.YtblbkfdhjfppkaaGreatDoor.Hs
inductive aH where
 |begin (line:Nat) (seen:List (List UInt8))
 |push (v:aI)
 |load (slot:Nat)
 |declare (slot:Nat)
 |assign (slot n:Nat)
 |jump (to_:Nat)
 |skip (to_:Nat)
 |shortcut (when:Bool) (to_:Nat)
 |truth
 |unary (op:List UInt8)
 |binary (op:List UInt8)
 |index
 |list (n:Nat)
 |length
 |read
 |call (f:Nat) (n:Nat)
 |give
 |drop
 |print
def aH.isBegin:aH→Bool
 |.begin _ _=>true
 |_=>false
structure eJ where
 name:List UInt8
 code:List aH
structure aK where
 fn:eJ
 next:Nat
 line:Nat
 seen:List (List UInt8)
 vars:List aI
 ops:List aI
structure cM where
 frames:List aK
 tape:List Int
 out:List (List UInt8)
def aK.push(f:aK)(v:aI):aK:={ f with ops:=f.ops++[v] }
def aK.last(f:aK):aI:=f.ops.getLast?.getD bK
def aK.pop(f:aK):aK:={ f with ops:=f.ops.dropLast }
def aK.many(f:aK)(n:Nat):List aI:=f.ops.drop (f.ops.length-n)
def aK.popMany(f:aK)(n:Nat):aK:={ f with ops:=f.ops.take (f.ops.length-n) }
noncomputable def gO(r:aI × Nat):aI × Nat:=if r.2=0 then if 200<aJ r.1 then (bK,6) else r else r
noncomputable def mI(whole:aI)(at_:List aI)(to_:aI):aI × Nat:=gO (cF at_ whole to_)
noncomputable def aN(i:aH)(f:aK):aK × Nat:=
 match i with
 |.begin l s=>({ f with line:=l,seen:=s },0)
 |.push v=>(f.push v,0)
 |.load k=>(f.push (f.vars[k]?.getD bK),0)
 |.declare k=>({ f.pop with vars:=f.vars.take k++[f.last] },0)
 |.assign k n=>
  let g:=f.pop.popMany n
  let r:=mI (f.vars[k]?.getD bK) (f.pop.many n) f.last
  if r.2=0 then ({ g with vars:=f.vars.set k r.1 },0) else (g,r.2)
 |.jump t=>({ f with next:=t },0)
 |.skip t=>if f.last.sort=1 then (if f.last.n=1 then f.pop else { f.pop with next:=t },0) else (f.pop,2)
 |.shortcut w t=>if f.last.sort=1 then (if decide (f.last.n=1)=w then { f.pop.push f.last with next:=t } else f.pop,0) else (f.pop,2)
 |.truth=>if f.last.sort=1 then (f.pop.push f.last,0) else (f.pop,2)
 |.unary op=>let r:=fB (op++[120]) f.last;if r.2=0 then (f.pop.push r.1,0) else (f.pop,r.2)
 |.binary op=>let r:=eG op f.pop.last f.last;if r.2=0 then (f.pop.pop.push r.1,0) else (f.pop.pop,r.2)
 |.index=>let r:=cV f.pop.last f.last;if r.2=0 then (f.pop.pop.push r.1,0) else (f.pop.pop,r.2)
 |.list n=>let r:=gO (aU (f.many n),0);if r.2=0 then ((f.popMany n).push r.1,0) else (f.popMany n,r.2)
 |.length=>let r:=dT f.last;if r.2=0 then (f.pop.push r.1,0) else (f.pop,r.2)
 |.drop=>(f.pop,0)
 |_=>(f,0)
noncomputable def cC(tab:List eJ)(i:aH)(below:List aK)(f:aK)(tape:List Int)(out:List (List UInt8)):cM × Nat:=
 match i with
 |.read=>
  match tape with
  |[]=>(⟨below++[f],tape,out⟩,7)
  |t::r=>(⟨below++[f.push (bB t)],r,out⟩,0)
 |.call k n=>
  if below.length+1=16 then (⟨below++[f.popMany n],tape,out⟩,5)
  else (⟨below++[f.popMany n,⟨tab[k]?.getD ⟨[],[]⟩,0,0,[],f.many n,[]⟩],tape,out⟩,0)
 |.give=>(⟨below.dropLast++(below.getLast?.map fun g=>g.push f.last).toList,tape,out⟩,0)
 |.print=>if out.length=50 then (⟨below++[f.pop],tape,out⟩,8) else (⟨below++[f.pop],tape,out++[jC f.last]⟩,0)
 |i=>let r:=aN i f;(⟨below++[r.1],tape,out⟩,r.2)
def aK.fetch(f:aK):Option (aH × aK):=f.fn.code[f.next]?.map fun i=>(i,{ f with next:=f.next+1 })
noncomputable def dN(tab:List eJ):Nat→cM→Option (cM × Nat)
 |0,_=>none
 |k+1,m=>
  match m.frames.getLast? with
  |none=>some (m,1)
  |some f=>
   match f.fetch with
   |none=>none
   |some (i,g)=>
    let r:=cC tab i m.frames.dropLast g m.tape m.out
    if r.2≠0 then some r
    else if i.isBegin then some r
    else dN tab k r.1
structure bW where
 time:Nat
 m:cM
 stop:Nat
def bQ(time stop:Nat):Nat:=if stop=0∧time=500 then 9 else stop
def dS:List (List UInt8)→List UInt8→Nat
 |[],_=>0
 |x::l,name=>if x=name then l.length else dS l name
def cU(fs:List aC)(name:List UInt8):Nat:=fs.findIdx fun f=>f.text==name
def bO(c:aC→Nat→List aH):List aC→Nat→List aH
 |[],_=>[]
 |a::l,p=>c a p++bO c l (p+(c a p).length)
def aG(fs:List aC)(seen:List (List UInt8)):Nat→aC→Nat→List aH
 |0,_,_=>[]
 |d+1,a,p=>
  let kids:=bO (aG fs seen d) a.kids p
  if a.op==[48] then [.push (bB (((dA 0 a.text).getD 0:Nat):Int))]
  else if a.op==[115] then [.push (bH a.text)]
  else if a.op==[98,111,111,108] then [.push (bL (a.text==[116,114,117,101]))]
  else if a.op==[110,97,109,101] then [.load (dS seen a.text)]
  else if a.op==[108,105,115,116] then kids++[.list a.kids.length]
  else if a.op==[105,110,100,101,120] then kids++[.index]
  else if a.op==[45,120] then kids++[.unary [45]]
  else if a.op==[33,120] then kids++[.unary [33]]
  else if a.op==[99,97,108,108] then
   kids++[if a.text==[108,101,110] then .length else if a.text==[114,101,97,100] then .read else .call (cU fs a.text) a.kids.length]
  else if a.op==[38,38] || a.op==[124,124] then
   match a.kids with
   |[l,r]=>
    let cl:=aG fs seen d l p
    let cr:=aG fs seen d r (p+cl.length+1)
    cl++[.shortcut (a.op==[124,124]) (p+cl.length+1+cr.length+1)]++cr++[.truth]
   |_=>[]
  else kids++[.binary a.op]
def bF(c:List (List UInt8)→aC→Nat→List aH × List (List UInt8)):List (List UInt8)→List aC→Nat→List aH
 |_,[],_=>[]
 |seen,a::l,p=>(c seen a p).1++bF c (c seen a p).2 l (p+(c seen a p).1.length)
def bA(fs:List aC):Nat→List (List UInt8)→aC→Nat→List aH × List (List UInt8)
 |0,seen,_,_=>([],seen)
 |d+1,seen,a,p=>
  let start:=aH.begin a.line seen
  let blk:=fun (b:aC) q=>bF (bA fs d) seen b.kids q
  if a.op==[118,97,114] then
   match a.kids with
   |[t,v]=>(start::aG fs seen d v (p+1)++[.declare seen.length],t.text::seen)
   |_=>([],seen)
  else if a.op==[115,101,116] then
   (start::bO (aG fs seen d) a.kids (p+1)++[.assign (dS seen a.text) (a.kids.length-1)],seen)
  else if a.op==[105,102] then
   match a.kids with
   |c::t::e=>
    let cc:=aG fs seen d c (p+1)
    let ct:=blk t (p+1+cc.length+1)
    let q:=p+1+cc.length+1+ct.length+1
    let ce:=match e with|[x]=>blk x q|_=>[]
    (start::cc++[.skip q]++ct++[.jump (q+ce.length)]++ce,seen)
   |_=>([],seen)
  else if a.op==[119,104,105,108,101] then
   match a.kids with
   |[c,b]=>
    let cc:=aG fs seen d c (p+1)
    let cb:=blk b (p+1+cc.length+1)
    (start::cc++[.skip (p+1+cc.length+1+cb.length+1)]++cb++[.jump p],seen)
   |_=>([],seen)
  else if a.op==[114,101,116,117,114,110] then
   match a.kids with
   |[v]=>(start::aG fs seen d v (p+1)++[.give],seen)
   |_=>([start,.push (bB 0),.give],seen)
  else if a.op==[112,114,105,110,116] then
   match a.kids with
   |[v]=>(start::aG fs seen d v (p+1)++[.print],seen)
   |_=>([],seen)
  else
   match a.kids with
   |[c]=>(start::aG fs seen d c (p+1)++[.drop],seen)
   |_=>([],seen)
def fD(fs:List aC)(d:Nat)(f:aC):eJ:=
 let seen:=(f.kids.dropLast.map (·.text)).reverse
 ⟨f.text,bF (bA fs d) seen ((f.kids.getLast?.map (·.kids)).getD []) 0++[.push (bB 0),.give]⟩
def dK(fs:List aC)(d:Nat):List eJ:=fs.map (fD fs d)
def gG(fs:List aC)(d:Nat)(tape:List Int):cM:=⟨[⟨(dK fs d)[cU fs [109,97,105,110]]?.getD ⟨[],[]⟩,0,0,[],[],[]⟩],tape,[]⟩
end Go.Proofs.YtblbkfdhjfppkaaGreatDoor.Hs
namespace Go.Proofs.YtblbkfdhjfppkaaGreatDoor
open Hs
open Go.RowKit
theorem YE(l:List aI)(k:Nat)(x:aI):((l.set k x).map aJ).sum≤(l.map aJ).sum+aJ x:=by
 induction l generalizing k with
 |nil=>simp
 |cons a l ih=>
  cases k with
  |zero=>simp only[List.set_cons_zero,List.map_cons,List.sum_cons];omega
  |succ k=>simp only[List.set_cons_succ,List.map_cons,List.sum_cons];have:=ih k;omega
theorem rM:∀(l:List aI) (a b:aI),aJ (cF l a b).1≤(l.length+1)*(aJ a+aJ b+1)
 |[],a,b=>by rw[cF];simp;omega
 |i::l,a,b=>by
  rw[tU];have hnil:aJ bK=1:=by rw[eN];simp[bK]
  have hpos:1≤((i::l).length+1)*(aJ a+aJ b+1):=Nat.mul_pos (by simp) (by omega)
  repeat' split
  ·rw[hnil];exact hpos
  ·rw[hnil];exact hpos
  ·rw[hnil];exact hpos
  ·rename_i h1 h2 h3;have hl:i.n.toNat<a.l.length:=by omega
   have hg:a.l.getD i.n.toNat bK=a.l[i.n.toNat]:=by show (a.l[i.n.toNat]?).getD bK=_;rw[List.getElem?_eq_getElem hl];rfl
   have ih:=rM l (a.l.getD i.n.toNat bK) b;have hmem:=kU (List.getElem_mem hl);have hca:=eN a;rw[iC];have hset:=YE a.l i.n.toNat (cF l (a.l.getD i.n.toNat bK) b).1;rw[hg] at ih hset ⊢
   have hm:(l.length+1)*(aJ a.l[i.n.toNat]+aJ b+1)≤(l.length+1)*(aJ a+aJ b+1):=Nat.mul_le_mul_left _ (by omega)
   have he:((i::l).length+1)*(aJ a+aJ b+1)=(l.length+1)*(aJ a+aJ b+1)+(aJ a+aJ b+1):=by simp only[List.length_cons];rw[Nat.succ_mul]
   omega
theorem LR(F:Nat→Prop)(l:List aI)(sv u v:Value)(a b:aI)(w:World)(hi:O7 F w sv l)(hu:PV F w u a)(hv:PV F w v b)(hF:∀k,F k→k<w.heap.size)(hca:aJ a≤400)(hcb:aJ b≤400)(hl:l.length≤100000):
 Calls Tryz.prog 405 #[u,sv,v] w (eH F w (mI a l b)):=by
 have hcc:=rM l a b;have hcm:(l.length+1)*(aJ a+aJ b+1)≤100001*801:=Nat.mul_le_mul (by omega) (by omega)
 have HX:=aB (wO l F sv u v a b w hi hu hv hF (by omega) (by omega))
 obtain⟨r,hr⟩:∃r,r=mI a l b:=⟨_,rfl⟩;rw[←hr];unfold mI gO at hr;have HR:=aB hr
 obtain⟨x,c,rfl⟩:∃x c,sv=.slice x l.length c:=by
  rcases hi with ⟨rfl,x,c,h⟩|⟨g,o,c,h,_⟩
  ·exact⟨x,c,h⟩
  ·exact⟨_,_,h⟩
 obtain⟨t,z,rfl⟩:=hu.form;obtain⟨t',z',rfl⟩:=hv.form;generalize cF l a b=rk at HX HR hcc;clear hi hu hv hF hr;go_enter Tryz.func405,Tryz.ntmps405;go_wp2_with fail;refine HX.out.mono ?_;rintro e w1 ⟨hb1,⟨hk,u1,rfl,hp⟩|⟨hk,rfl⟩⟩
 ·have HY:=aB (lL (Grow F w w1) u1 rk.1 w1 hp (by omega))
  obtain⟨t1,z1,rfl⟩:=hp.form;have HP:=aB hp;have HB:=aB hb1;have HK:=aB hk;clear hp hb1 hk HX;go_wp2_with fail;refine HY.out.mono ?_;rintro e w2 ⟨rfl,⟨h2,rfl⟩|⟨h2,rfl⟩⟩
  ·have HQ:Hid (r=(rk.1,0)):=by show _=_;rw[HR.out,if_pos HK.out,if_neg (by omega)];rw[←HK.out]
   clear h2;go_wp2_with fail;go_ret;exact eH.ok HB.out HQ.out HP.out
  ·have HQ:Hid (r=(bK,6)):=by show _=_;rw[HR.out,if_pos HK.out,if_pos h2]
   clear h2;go_wp2_with fail;exact⟨rfl,eH.stop HB.out HQ.out (by decide)⟩
 ·have HQ:Hid (r=(rk.1,rk.2)):=by show _=_;rw[HR.out,if_neg hk]
  have HK:=aB hk;have HB:=aB hb1;clear hk hb1 HX;go_wp2_with fail;exact⟨rfl,eH.stop HB.out HQ.out HK.out⟩
structure Chg(gf:Nat)(row:Option Nat)(w w':World):Prop where
 os:w'.os=w.os
 tape:w'.tape=w.tape
 output:w'.output=w.output
 size:w.heap.size≤w'.heap.size
 block:∀k,k<w.heap.size→k≠gf→some k≠row→w'.heap[k]?=w.heap[k]?
theorem AT(w:World)(u:Value):∀j v,([u]:List Value)[j]?=some v→(w.alloc (.cells #[u] 256)).cell? ((⟨w.heap.size,0,none⟩:Addr).add j)=some v:=by
 intro j v hj;match j,hj with
 |0,hj=>simp at hj;subst hj;simp[Addr.add,go_sem]
 |j+1,hj=>simp at hj
theorem uY(t:TypeId)(z:Value):∀u∈([.iface t z]:List Value),u.oneCell'=true:=by
 intro u hu;simp at hu;rw[hu];rfl
theorem vC(base gf o n:Nat)(cur:Array Value)(ov:Value)(xs:List Value)(t:TypeId)(z:Value)(w:World)(hb:w.heap[gf]?=some (.cells cur 195 (0,0)))(ho:cur[o+5]?=some ov)(hown:w.ownsRow base 256 1 ov n xs)(hne:ov.ownBlock≠some gf)(hbase:base≤w.heap.size)(hn:n≤1000000):
 Calls Tryz.prog 371 #[.pointer (some ⟨gf,o,none⟩),.iface t z] w fun e w'=>e=.returned (.tuple #[])∧∃ov',w'.heap[gf]?=some (.cells (cur.setIfInBounds (o+5) ov') 195 (0,0))∧w'.ownsRow base 256 1 ov' (n+1) (xs++[.iface t z])∧(∀k,ov'.ownBlock=some k→ov.ownBlock=some k∨w.heap.size≤k)∧Chg gf ov.ownBlock w w':=by
 obtain⟨i0,hi,hz0,hz1,hz2⟩:=info_parts mA;obtain⟨x,c,rfl⟩:=cP hown;have hgl:=aD hb;have c5:=aA hb ho;have HO:=aB hown;have HB:=aB hb;have HNE:=aB hne;clear hown hb hne;go_enter Tryz.func371,Tryz.ntmps371;go_wp2_with (at_builtin;refine wpList_append_lies _ (by rfl) _ _ 193 (by rfl) base 256 i0 _ 1 16 Tryz.underlying193 hi hz0 hz1 hz2 rfl (by decide) (.slice x n c) n xs (by rfl) (HO.out.alloc _) ⟨w.heap.size,0,none⟩ 1 1 [.iface t z] (by rfl) (by rfl) (AT w _) (uY t z) (by decide) (by unfold maxLen;omega) (by omega) (by simp;omega) (w.heap.size+1) (by simp) ?_)
 intro g4 cap4 w4 hown4 hgrow4 hat4 hg4
 have hblk4:w4.heap[gf]?=some (.cells cur 195 (0,0)):=by
  rw[hgrow4.block gf (by simp;omega) (fun e=>HNE.out e.symm),Below.heap_alloc _ _ _ hgl];exact HB.out
 have c5':=aA hblk4 ho;have f5':=aE hblk4 (i:=o+5);have hgl4:=aD hblk4
 have hgg:g4≠gf:=by
  rcases hat4 with h|h
  ·exact fun e=>HNE.out (by rw[←e];exact h)
  ·omega
 have HOWN:=aB hown4;have HG:=aB hgrow4;have HAT:=aB hat4;have HBL:=aB hblk4;clear hown4 hgrow4 hat4 hblk4;go_wp2_with fail;go_end0;refine⟨rfl,.slice (some ⟨g4,0,none⟩) (n+1) cap4,aQ HBL.out,?_,?_,?_⟩
 ·exact aY HOWN.out fun k hk=>Below.heap_setCell _ _ _ _ (by cases hk;exact hgg)
 ·intro k hk;cases hk;rcases HAT.out with h|h
  ·exact Or.inl h
  ·exact Or.inr (by show w.heap.size≤g4;omega)
 ·refine⟨HG.out.os.trans rfl,HG.out.tape.trans rfl,HG.out.output.trans rfl,Nat.le_trans (by simp) (Nat.le_trans HG.out.size (by simp)),fun k hk h1 h2=>?_⟩
  rw[Below.heap_setCell _ _ _ _ h1,HG.out.block k (by simp;omega) h2,Below.heap_alloc _ _ _ hk]
theorem NC(base gf o n:Nat)(cur:Array Value)(ov:Value)(xs:List Value)(u:Value)(w:World)(hb:w.heap[gf]?=some (.cells cur 195 (0,0)))(ho:cur[o+5]?=some ov)(hown:w.ownsRow base 256 1 ov (n+1) (xs++[u]))(hx:xs.length=n)(hu:∃t z,u=.iface t z)(hn:n≤1000000):
 Calls Tryz.prog 171 #[.pointer (some ⟨gf,o,none⟩)] w fun e w'=>e=.returned u∧∃ov',w'=w.setCell ⟨gf,o+5,none⟩ ov'∧w.ownsRow base 256 1 ov' n xs∧ov'.ownBlock=ov.ownBlock:=by
 obtain⟨t,z,rfl⟩:=hu;rcases hown.2 with ⟨r1,r2⟩|⟨g,c,row,rfl,hg1,hrow,hcap,hcm,hcs,htk⟩
 ·omega
 have hgl:=aD hb;have c5:=aA hb ho;have f5:=aE hb (i:=o+5);have hrl:=aD hrow
 have hlast:row[n]?=some (.iface t z):=by
  have:(xs++[Value.iface t z])[n]?=some (.iface t z):=by rw[←hx];simp
  rw[←htk,List.getElem?_take,if_pos (by omega)] at this
  simpa using this
 have cl:=aA hrow hlast
 have HOWN:Hid (w.ownsRow base 256 1 (.slice (some ⟨g,0,none⟩) n c) n xs):=by
  refine⟨by rw[hx];omega,Or.inr ⟨g,c,row,rfl,hg1,hrow,by omega,hcm,hcs,?_⟩⟩
  have:=congrArg (List.take n) htk;rw[List.take_take] at this;rw[show min n ((n+1)*1)=n by omega] at this
  rw[Nat.mul_one,this,←hx];simp
 have e1:(0:Int)≤n:=by omega
 have e2:(n:Int)<(n:Int)+1:=by omega
 have e3:(n:Int)≤c:=by omega
 clear hown hb ho hrow htk hlast;go_enter Tryz.func171,Tryz.ntmps171;go_wp2_with fail;go_ret;exact⟨rfl,_,rfl,HOWN.out,rfl⟩
theorem GF(sb gf n cap:Nat)(w:World)(hc:w.cell? ⟨sb,1,none⟩=some (.slice (some ⟨gf,0,none⟩) (n+1) cap))(hn:n≤1000):
 Calls Tryz.prog 158 #[.pointer (some ⟨sb,0,none⟩)] w fun e w'=>e=.returned (.pointer (some ⟨gf,n*6,none⟩))∧∃q,w'=w.drewN q:=by
 have e1:(0:Int)≤(n:Int):=by omega
 have e2:(n:Int)<(n:Int)+1:=by omega
 go_enter Tryz.func158,Tryz.ntmps158;go_wp2_with fail;go_quiet (fail)
 go_wp2_with fail;go_ret;exact⟨rfl,_,rfl⟩
theorem XH(gf o fb gc n cap k:Nat)(cur:Array Value)(nm u:Value)(w:World)(hb:w.heap[gf]?=some (.cells cur 195 (0,0)))(h0:cur[o]?=some (.pointer (some ⟨fb,0,none⟩)))(h1:cur[o+1]?=some (.int .i64 k))
 (hf:w.heap[fb]?=some (.cells #[nm,.slice (some ⟨gc,0,none⟩) n cap] 250 (0,0))) (hu:w.cell? ⟨gc,k,none⟩=some u) (hi:∃t z,u=.iface t z) (hk:k<n) (hn:n≤1000000):
 Calls Tryz.prog 235 #[.pointer (some ⟨gf,o,none⟩)] w fun e w'=>e=.returned u∧∃q,w'=(w.drewN q).setCell ⟨gf,o+1,none⟩ (.int .i64 ((k+1:Nat):Int)):=by
 obtain⟨t,z,rfl⟩:=hi;have hgl:=aD hb;have hfl:=aD hf;have c0:=aA hb h0;have c1:=aA hb h1;have f1:=aE hb (i:=o+1);have d1:=aA hf (i:=1) rfl;have e1:(0:Int)≤(k:Int):=by omega
 have e2:(k:Int)<(n:Int):=by omega
 clear hb hf h0 h1;go_enter Tryz.func235,Tryz.ntmps235;go_wp2_with fail;go_quiet (fail)
 go_wp2_with fail;go_ret;exact⟨rfl,_,by congr 2⟩
theorem tO(base gf o n k:Nat)(cur:Array Value)(ov:Value)(xs ys:List Value)(w:World)(hb:w.heap[gf]?=some (.cells cur 195 (0,0)))(ho:cur[o+5]?=some ov)(hown:w.ownsRow base 256 1 ov (n+k) (xs++ys))(hx:xs.length=n)(hy:ys.length=k)(h1:∀u∈ys,u.oneCell'=true)(hn:n+k≤1000000):
 Calls Tryz.prog 377 #[.pointer (some ⟨gf,o,none⟩),.int .i64 k] w fun e w'=>∃v' ov' w1,e=.returned v'∧Below w.heap.size w w1∧w1.ownsRow w.heap.size 256 1 v' k ys∧w'=w1.setCell ⟨gf,o+5,none⟩ ov'∧w.ownsRow base 256 1 ov' n xs∧ov'.ownBlock=ov.ownBlock:=by
 have hgl:=aD hb;have c5:=aA hb ho;have f5:=aE hb (i:=o+5);have e1:(0:Int)≤(n:Int):=by omega
 have e2:(n:Int)≤(n:Int)+(k:Int):=by omega
 rcases hown.2 with ⟨rfl,r2⟩|⟨g,c,row,rfl,hg1,hrow,hcap,hcm,hcs,htk⟩
 ·obtain⟨rfl,rfl⟩:n=0∧k=0:=by omega
  obtain rfl:=List.eq_nil_of_length_eq_zero hx;obtain rfl:=List.eq_nil_of_length_eq_zero hy;have HC:=aB (rG w);clear hown hb ho;go_enter Tryz.func377,Tryz.ntmps377;go_wp2_with fail;refine HC.out.mono ?_;rintro e w1 ⟨rfl,rfl⟩;go_wp2_with fail;go_ret;exact⟨_,_,_,rfl,Below.refl _ _,World.ownsRow_nil _ _ _ _,rfl,World.ownsRow_nil _ _ _ _,rfl⟩
 ·have e3:(n:Int)≤(c:Int):=by omega
  have e4:(n:Int)+(k:Int)≤(c:Int):=by omega
  have e5:((n+k:Nat):Int)-(k:Int)=(n:Int):=by omega
  have HC:Hid (∀off cc,off=n∨k=0→Calls Tryz.prog 282 #[.slice (some ⟨g,off,none⟩) k cc] w fun e w'=>∃x' c',e=.returned (.slice x' k c')∧w'.ownsRow w.heap.size 256 1 (.slice x' k c') k ys∧Below w.heap.size w w'):=fun off cc hoff=>by
   refine(rH g off k cc ys w (by omega) (by omega) (fun j u hj=>?_) h1).mono ?_
   ·have hjl:j<ys.length:=(List.getElem?_eq_some_iff.1 hj).1;rcases hoff with rfl|h0
    ·refine aA hrow ?_;have hh:(xs++ys)[off+j]?=some u:=by rw[List.getElem?_append_right (by omega),hx,Nat.add_sub_cancel_left];exact hj
     rw[←htk,List.getElem?_take,if_pos (by omega)] at hh
     simpa using hh
    ·omega
   ·rintro e w1 ⟨v',rfl,ho',hb'⟩;obtain⟨x',c',rfl⟩:=cP ho';exact⟨x',c',rfl,ho',hb'⟩
  have HOWN:Hid (∀cc,cc=c→w.ownsRow base 256 1 (.slice (some ⟨g,0,none⟩) n cc) n xs):=by
   rintro cc rfl;refine⟨by rw[hx];omega,Or.inr ⟨g,cc,row,rfl,hg1,hrow,by omega,hcm,hcs,?_⟩⟩
   have:=congrArg (List.take n) htk;rw[List.take_take] at this;rw[show min n ((n+k)*1)=n by omega] at this
   rw[Nat.mul_one,this,←hx];simp
  have HB:Hid (∀w1,Below w.heap.size w w1→w1.heap[gf]?=some (.cells cur 195 (0,0))):=fun w1 h=>by rw[h.block gf hgl];exact hb
  clear hown hb hrow htk;go_enter Tryz.func377,Tryz.ntmps377;go_wp2_with fail
  all_goals
   refine(HC.out _ _ (by omega)).mono ?_
   rintro e w1 ⟨x',c',rfl,ho',hb'⟩;have hblk:=HB.out w1 hb';have hgl1:=aD hblk;have c5':=aA hblk ho;have f5':=aE hblk (i:=o+5);have HO:=aB ho';have HBB:=aB hb';clear ho' hb' hblk;go_wp2_with fail;go_ret;exact⟨_,_,w1,rfl,HBB.out,HO.out,rfl,HOWN.out _ (by first|rfl|omega),rfl⟩
def eO(F:Nat→Prop)(w:World):Value→List (List UInt8)→Prop
 |v,[]=>v=.pointer none
 |v,x::l=>∃b o,v=.pointer (some ⟨b,0,none⟩)∧F b∧w.heap[b]?=some (.cells #[.string (bs x),.int .i64 l.length,o] 253 (0,0))∧eO F w o l
theorem eO.keep{F G:Nat→Prop}{w w':World}(hk:∀b,F b→w'.heap[b]?=w.heap[b]?)(hF:∀b,F b→G b):∀{l:List (List UInt8)} {v:Value},eO F w v l→eO G w' v l
 |[],_,h=>h
 |_::_,_,⟨b,o,h1,h2,h3,h4⟩=>⟨b,o,h1,hF b h2,by rw[hk b h2];exact h3,eO.keep hk hF h4⟩
theorem eO.form{F:Nat→Prop}{w:World}{l:List (List UInt8)}{v:Value}(h:eO F w v l):∃p,v=.pointer p:=by
 cases l with
 |nil=>exact⟨none,h⟩
 |cons x l=>obtain⟨b,o,h1,_⟩:=h;exact⟨_,h1⟩
def kL(fp:Nat→Value)(F:Nat→Prop)(w:World)(v:Value):aH→Prop
 |.begin l s=>∃sp,v=.iface 365 (.agg #[.int .i64 l,sp])∧eO F w sp s
 |.push a=>∃u,v=.iface 361 (.agg #[u])∧PV F w u a∧aJ a≤200
 |.load k=>v=.iface 402 (.agg #[.int .i64 k])
 |.declare k=>v=.iface 443 (.agg #[.int .i64 k])
 |.assign k n=>v=.iface 445 (.agg #[.int .i64 k,.int .i64 n])
 |.jump t=>v=.iface 462 (.agg #[.int .i64 t])
 |.skip t=>v=.iface 461 (.agg #[.int .i64 t])
 |.shortcut b t=>v=.iface 438 (.agg #[.bool b,.int .i64 t])
 |.truth=>v=.iface 436 (.agg #[])
 |.unary op=>v=.iface 407 (.agg #[.string (bs op)])
 |.binary op=>v=.iface 435 (.agg #[.string (bs op)])
 |.index=>v=.iface 405 (.agg #[])
 |.list n=>v=.iface 404 (.agg #[.int .i64 n])
 |.length=>v=.iface 439 (.agg #[])
 |.read=>v=.iface 440 (.agg #[])
 |.call k n=>v=.iface 442 (.agg #[fp k,.int .i64 n])
 |.give=>v=.iface 363 (.agg #[])
 |.drop=>v=.iface 449 (.agg #[])
 |.print=>v=.iface 448 (.agg #[])
theorem kL.keep{fp:Nat→Value}{F G:Nat→Prop}{w w':World}{v:Value}{i:aH}(h:kL fp F w v i)(hk:∀b,F b→w'.heap[b]?=w.heap[b]?)(hF:∀b,F b→G b):kL fp G w' v i:=by
 cases i<;>first
  |exact h
  |(obtain⟨sp,h1,h2⟩:=h;exact⟨sp,h1,eO.keep hk hF h2⟩)
  |(obtain⟨u,h1,h2,h3⟩:=h;exact⟨u,h1,(h2.keep hk).mono hF,h3⟩)
theorem kL.form{fp:Nat→Value}{F:Nat→Prop}{w:World}{v:Value}{i:aH}(h:kL fp F w v i):∃t z,v=.iface t z:=by
 cases i<;>first
  |exact⟨_,_,h⟩
  |(obtain⟨sp,h1,h2⟩:=h;exact⟨_,_,h1⟩)
def YN(fp:Nat→Value)(F:Nat→Prop)(w:World)(v:Value)(f:eJ):Prop:=
 ∃fb gc cap cur,v=.pointer (some ⟨fb,0,none⟩)∧F fb∧w.heap[fb]?=some (.cells #[.string (bs f.name),.slice (some ⟨gc,0,none⟩) f.code.length cap] 250 (0,0))∧F gc∧w.heap[gc]?=some (.cells cur 355 (0,0))∧
  ∀i (h:i<f.code.length),∃u,cur[i]?=some u∧kL fp F w u f.code[i]
theorem YN.keep{fp:Nat→Value}{F G:Nat→Prop}{w w':World}{v:Value}{f:eJ}(h:YN fp F w v f)(hk:∀b,F b→w'.heap[b]?=w.heap[b]?)(hF:∀b,F b→G b):YN fp G w' v f:=by
 obtain⟨fb,gc,cap,cur,h1,h2,h3,h4,h5,h6⟩:=h;refine⟨fb,gc,cap,cur,h1,hF _ h2,by rw[hk _ h2];exact h3,hF _ h4,by rw[hk _ h4];exact h5,fun i hi=>?_⟩
 obtain⟨u,e1,e2⟩:=h6 i hi;exact⟨u,e1,e2.keep hk hF⟩
def kH(fp:Nat→Value)(F:Nat→Prop)(w:World)(tab:List eJ):Prop:=∀k f,tab[k]?=some f→YN fp F w (fp k) f
theorem kH.keep{fp:Nat→Value}{F G:Nat→Prop}{w w':World}{tab:List eJ}(h:kH fp F w tab)(hk:∀b,F b→w'.heap[b]?=w.heap[b]?)(hF:∀b,F b→G b):kH fp G w' tab:=fun k f hf=>(h k f hf).keep hk hF
structure FVal where
 fp:Value
 nx:Value
 ln:Value
 sp:Value
 vv:Value
 ov:Value
def FVal.cells(f:FVal):List Value:=[f.fp,f.nx,f.ln,f.sp,f.vv,f.ov]
def fS:List FVal→List Value
 |[]=>[]
 |f::l=>f.cells++fS l
theorem iU(l m:List FVal):fS (l++m)=fS l++fS m:=by
 induction l with
 |nil=>rfl
 |cons f l ih=>simp[fS,ih]
theorem dV(l:List FVal):(fS l).length=l.length*6:=by
 induction l with
 |nil=>rfl
 |cons f l ih=>simp[fS,FVal.cells,ih];omega
def FVal.owns(f:FVal):List Nat:=f.vv.ownBlock.toList++f.ov.ownBlock.toList
def lF(F:Nat→Prop)(base:Nat)(w:World)(v:Value)(l:List aI):Prop:=(∃xs,w.ownsRow base 256 1 v l.length xs∧fR F w xs l)∧∀a∈l,aJ a≤200
theorem lF.keep{F G:Nat→Prop}{base:Nat}{w w':World}{v:Value}{l:List aI}(h:lF F base w v l)(hk:∀b,F b→w'.heap[b]?=w.heap[b]?)(hF:∀b,F b→G b)(ho:∀k,v.ownBlock=some k→w'.heap[k]?=w.heap[k]?):lF G base w' v l:=by
 obtain⟨⟨xs,h1,h2⟩,h3⟩:=h;exact⟨⟨xs,aY h1 ho,(h2.keep hk).mono hF⟩,h3⟩
structure KA(fp:Nat→Value)(F:Nat→Prop)(base:Nat)(w:World)(v:FVal)(f:aK):Prop where
 fn:YN fp F w v.fp f.fn
 nx:v.nx=.int .i64 f.next
 ln:v.ln=.int .i64 f.line
 sp:eO F w v.sp f.seen
 vars:lF F base w v.vv f.vars
 ops:lF F base w v.ov f.ops
theorem KA.keep{fp:Nat→Value}{F G:Nat→Prop}{base:Nat}{w w':World}{v:FVal}{f:aK}(h:KA fp F base w v f)(hk:∀b,F b→w'.heap[b]?=w.heap[b]?)(hF:∀b,F b→G b)(ho:∀k∈v.owns,w'.heap[k]?=w.heap[k]?):KA fp G base w' v f:=
 ⟨h.fn.keep hk hF,h.nx,h.ln,eO.keep hk hF h.sp,h.vars.keep hk hF fun k e=>ho k (by simp[FVal.owns,e]),h.ops.keep hk hF fun k e=>ho k (by simp[FVal.owns,e])⟩
def iE(fp:Nat→Value)(F:Nat→Prop)(base:Nat)(w:World):List FVal→List aK→Prop
 |[],[]=>True
 |v::vs,f::fs=>KA fp F base w v f∧iE fp F base w vs fs
 |_,_=>False
theorem iE.keep{fp:Nat→Value}{F G:Nat→Prop}{base:Nat}{w w':World}(hk:∀b,F b→w'.heap[b]?=w.heap[b]?)(hF:∀b,F b→G b):∀{vs:List FVal} {fs:List aK},iE fp F base w vs fs→(∀v∈vs,∀k∈v.owns,w'.heap[k]?=w.heap[k]?)→iE fp G base w' vs fs
 |[],[],_,_=>trivial
 |v::_,_::_,⟨h1,h2⟩,ho=>⟨h1.keep hk hF (ho v (List.mem_cons_self ..)),iE.keep hk hF h2 fun u hu=>ho u (List.mem_cons_of_mem _ hu)⟩
 |[],_::_,h,_=>h.elim
 |_::_,[],h,_=>h.elim
theorem iE.length{fp:Nat→Value}{F:Nat→Prop}{base:Nat}{w:World}:∀{vs:List FVal} {fs:List aK},iE fp F base w vs fs→vs.length=fs.length
 |[],[],_=>rfl
 |_::_,_::_,⟨_,h⟩=>by simp[iE.length h]
 |[],_::_,h=>h.elim
 |_::_,[],h=>h.elim
theorem iE.snoc{fp:Nat→Value}{F:Nat→Prop}{base:Nat}{w:World}{v:FVal}{f:aK}:∀{vs:List FVal} {fs:List aK},iE fp F base w vs fs→KA fp F base w v f→iE fp F base w (vs++[v]) (fs++[f])
 |[],[],_,h=>⟨h,trivial⟩
 |_::_,_::_,⟨h1,h2⟩,h=>⟨h1,iE.snoc h2 h⟩
 |[],_::_,h,_=>h.elim
 |_::_,[],h,_=>h.elim
theorem iE.unsnoc{fp:Nat→Value}{F:Nat→Prop}{base:Nat}{w:World}{f:aK}:∀{vs:List FVal} {fs:List aK},iE fp F base w vs (fs++[f])→∃vs' v,vs=vs'++[v]∧iE fp F base w vs' fs∧KA fp F base w v f
 |[],[],h=>h.elim
 |[v],[],⟨h1,h2⟩=>⟨[],v,rfl,trivial,h1⟩
 |_::_::_,[],⟨_,h⟩=>h.elim
 |v::vs,g::fs,⟨h1,h2⟩=>by
  obtain⟨vs',u,e,h3,h4⟩:=iE.unsnoc (vs:=vs) (fs:=fs) h2;exact⟨v::vs',u,by rw[e];rfl,⟨h1,h3⟩,h4⟩
 |[],_::_,h=>h.elim
def aS(l:List FVal):List Nat:=l.flatMap FVal.owns
def aF(sb gf:Nat)(outv:Value)(fvs:List FVal):List Nat:=sb::gf::(outv.ownBlock.toList++aS fvs)
def lA(l:List (List UInt8)):List Value:=l.map fun x=>Value.string (bs x)
def qA(F:Nat→Prop)(w:World)(v:Value)(l:List Int):Prop:=
 (l=[]∧∃x c,v=.slice x 0 c)∨∃g o c,v=.slice (some ⟨g,o,none⟩) l.length c∧l.length≤c∧F g∧∀i (h:i<l.length),w.cell? ⟨g,o+i,none⟩=some (.int .i64 l[i])∧ -9223372036854775808≤l[i]∧l[i]≤9223372036854775807
theorem qA.keep{F G:Nat→Prop}{w w':World}{v:Value}{l:List Int}(h:qA F w v l)(hk:∀b,F b→w'.heap[b]?=w.heap[b]?)(hF:∀b,F b→G b):qA G w' v l:=by
 rcases h with h|⟨g,o,c,h1,h2,h3,h4⟩
 ·exact Or.inl h
 ·exact Or.inr ⟨g,o,c,h1,h2,hF g h3,fun i hi=>⟨by rw[World.cell?_of_block (hk g h3)];exact(h4 i hi).1,(h4 i hi).2⟩⟩
structure cO(fp:Nat→Value)(F:Nat→Prop)(base:Nat)(w:World)(sb gf cap:Nat)(t0 tv outv s0:Value)(fvs:List FVal)(m:cM):Prop where
 blk:w.heap[sb]?=some (.cells #[t0,.slice (some ⟨gf,0,none⟩) fvs.length cap,tv,outv,s0] 108 (0,0))
 row:w.ownsRow base 195 6 (.slice (some ⟨gf,0,none⟩) fvs.length cap) fvs.length (fS fvs)
 frs:iE fp F base w fvs m.frames
 tape:qA F w tv m.tape
 out:w.ownsRow base 9 1 outv m.out.length (lA m.out)
 nodup:(aF sb gf outv fvs).Nodup
 lt:∀k∈aF sb gf outv fvs,k<w.heap.size
 apart:∀k,F k→k<w.heap.size∧k∉aF sb gf outv fvs
theorem cO.step{fp:Nat→Value}{F G:Nat→Prop}{base:Nat}{w w':World}{sb gf cap:Nat}{t0 tv outv s0:Value}{fb:List FVal}{v v':FVal}{below:List aK}{f f':aK}{tape:List Int}{out:List (List UInt8)}
 (h:cO fp F base w sb gf cap t0 tv outv s0 (fb++[v]) ⟨below++[f],tape,out⟩) (hsz:w.heap.size≤w'.heap.size) (hc:∀k,k<w.heap.size→k≠gf→k∉v.owns→w'.heap[k]?=w.heap[k]?)
 (hrow:w'.ownsRow base 195 6 (.slice (some ⟨gf,0,none⟩) (fb.length+1) cap) (fb.length+1) (fS (fb++[v'])))
 (hfr:KA fp G base w' v' f') (ho:∀k∈v'.owns,k<w'.heap.size∧(k∈v.owns∨w.heap.size≤k)) (hnd:v'.owns.Nodup)
 (hF:∀k,F k→G k) (hG:∀k,G k→F k∨(w.heap.size≤k∧k<w'.heap.size∧k∉v'.owns)):
 cO fp G base w' sb gf cap t0 tv outv s0 (fb++[v']) ⟨below++[f'],tape,out⟩:=by
 have hlen:(fb++[v']).length=(fb++[v]).length:=by simp
 have hlen':(fb++[v']).length=fb.length+1:=by simp
 have hown:∀u:FVal,aF sb gf outv (fb++[u])=(sb::gf::(outv.ownBlock.toList++aS fb))++u.owns:=fun u=>by simp[aF,aS]
 have hnd0:=h.nodup;have hlt0:=h.lt;have hap0:=h.apart;rw[hown] at hnd0 hlt0 hap0;generalize hpre:(sb::gf::(outv.ownBlock.toList++aS fb))=pre at hnd0 hlt0 hap0 hown;obtain⟨hn1,hn2,hn3⟩:=List.nodup_append.1 hnd0;have hpv:∀k∈pre,k<w.heap.size∧k∉v.owns:=fun k hk=>⟨hlt0 k (List.mem_append_left _ hk),fun hv=>hn3 k hk k hv rfl⟩
 have hsbm:sb∈pre:=by rw[←hpre];simp
 have hgfm:gf∈pre:=by rw[←hpre];simp
 have hsg:sb≠gf:=by
  rw[←hpre] at hn1;have:=(List.nodup_cons.1 hn1).1;intro e;exact this (by simp[e])
 have hFk:∀b,F b→w'.heap[b]?=w.heap[b]?:=fun b hb=>by
  obtain⟨h1,h2⟩:=hap0 b hb;exact hc b h1 (fun e=>h2 (List.mem_append_left _ (by rw[e];exact hgfm))) fun hv=>h2 (List.mem_append_right _ hv)
 have hfbm:∀u∈fb,∀k∈u.owns,k∈pre∧k≠gf:=fun u hu k hk=>by
  have hk1:k∈aS fb:=List.mem_flatMap.2 ⟨u,hu,hk⟩;refine⟨by rw[←hpre];simp[hk1],?_⟩
  rw[←hpre] at hn1;have:=(List.nodup_cons.1 (List.nodup_cons.1 hn1).2).1;intro e;exact this (by rw[←e];simp[hk1])
 have houtm:∀k,outv.ownBlock=some k→k∈pre∧k≠gf:=fun k hk=>by
  refine⟨by rw[←hpre];simp[hk],?_⟩
  rw[←hpre] at hn1;have:=(List.nodup_cons.1 (List.nodup_cons.1 hn1).2).1;intro e;exact this (by rw[←e];simp[hk])
 refine⟨?_,by rw[hlen'];exact hrow,?_,h.tape.keep hFk hF,aY h.out fun k hk=>?_,?_,?_,?_⟩
 ·rw[hlen,hc sb (hpv sb hsbm).1 hsg (hpv sb hsbm).2];exact h.blk
 ·obtain⟨vs',u,e,k1,k2⟩:=iE.unsnoc h.frs;obtain⟨rfl,e2⟩:=List.append_inj' e rfl;exact(k1.keep hFk hF fun u hu k hk=>hc k (hpv k (hfbm u hu k hk).1).1 (hfbm u hu k hk).2 (hpv k (hfbm u hu k hk).1).2).snoc hfr
 ·obtain⟨h1,h2⟩:=houtm k hk;exact hc k (hpv k h1).1 h2 (hpv k h1).2
 ·rw[hown];refine List.nodup_append.2 ⟨hn1,hnd,fun a ha b hb e=>?_⟩
  subst e;rcases(ho a hb).2 with h1|h1
  ·exact(hpv a ha).2 h1
  ·have:=(hpv a ha).1;omega
 ·intro k hk;rw[hown] at hk;rcases List.mem_append.1 hk with hk|hk
  ·exact Nat.lt_of_lt_of_le (hpv k hk).1 hsz
  ·exact(ho k hk).1
 ·intro k hk;rw[hown];rcases hG k hk with h1|⟨h1,h2,h3⟩
  ·obtain⟨h4,h5⟩:=hap0 k h1;refine⟨Nat.lt_of_lt_of_le h4 hsz,fun hm=>?_⟩
   rcases List.mem_append.1 hm with hm|hm
   ·exact h5 (List.mem_append_left _ hm)
   ·rcases(ho k hm).2 with h6|h6
    ·exact h5 (List.mem_append_right _ h6)
    ·omega
  ·refine⟨h2,fun hm=>?_⟩
   rcases List.mem_append.1 hm with hm|hm
   ·have:=(hpv k hm).1;omega
   ·exact h3 hm
def kI(w:World):Prop:=Lib.TabIs Tryz.prog w "internal/strconv.uint64pow10" .u64 Lib.pow10Tab
theorem kI.keep{w w':World}{g:Nat}(h:kI w)(hg:Tryz.prog.globalNamed "internal/strconv.uint64pow10"=some g)(hk:w'.heap[g]?=w.heap[g]?):kI w':=by
 unfold kI Lib.TabIs World.var? at h ⊢
 rw[hg] at h ⊢
 simp only[Option.bind_some] at h ⊢
 rw[hk];exact h
theorem kI.below{w w':World}(h:kI w)(hb:Below w.heap.size w w'):kI w':=by
 cases hg:Tryz.prog.globalNamed "internal/strconv.uint64pow10" with
 |none=>unfold kI Lib.TabIs World.var? at h;rw[hg] at h;cases h
 |some g=>
  refine h.keep hg (hb.block g ?_);unfold kI Lib.TabIs World.var? at h;rw[hg] at h;simp only[Option.bind_some] at h;rcases Nat.lt_or_ge g w.heap.size with h1|h1
  ·exact h1
  ·rw[Array.getElem?_eq_none (by exact h1)] at h
   cases h
theorem wL:∀(f n:Nat) (t:List UInt8),n<10 ^ (f+1)→Hs.digitsF (f+1) n t=Lib.decDigits n++t
 |0,n,t,h=>by
  have h1:n<10:=by simpa using h
  rw[Hs.digitsF,Lib.decDigits,if_pos h1,dif_pos h1];rfl
 |f+1,n,t,h=>by
  rw[Hs.digitsF,Lib.decDigits];by_cases h1:n<10
  ·rw[if_pos h1,dif_pos h1];rfl
  ·rw[if_neg h1,dif_neg h1,wL f (n/10) _ (by rw[Nat.pow_succ] at h;omega)]
   simp
theorem rA(n:Int)(h1: -9223372036854775808≤n)(h2:n≤9223372036854775807):Lib.itoa n=cA n:=by
 unfold Lib.itoa cA;rw[wL 19 n.natAbs [] (by omega),List.append_nil]
 by_cases h:n<0
 ·rw[if_pos h,if_pos h];rfl
 ·rw[if_neg h,if_neg h,List.nil_append,show n.toNat=n.natAbs by omega]
theorem wJ:∀l:List (List UInt8),Lib.join l [44,32]=eZ l
 |[]=>rfl
 |[x]=>by simp[Lib.join,List.intercalate,eZ]
 |x::y::l=>by
  have ih:=wJ (y::l);unfold Lib.join List.intercalate at ih ⊢
  rw[List.intersperse_cons_cons,List.flatten_cons,List.flatten_cons,ih];simp[eZ]
theorem TN(l:List (List UInt8)):Lib.join ((l.map bs).map fun x=>x.data.toList) (bs [44,32]).data.toList=eZ l:=by
 rw[←wJ,List.map_map];have e:((fun x:ByteArray=>x.data.toList) ∘ bs)=id:=funext fun x=>by simp[iV]
 rw[e,List.map_id];simp[iV]
theorem EY(w:World)(x:List UInt8):∀j u,([.string (bs x)]:List Value)[j]?=some u→(w.alloc (.cells #[.string (bs x)] 9)).cell? ((⟨w.heap.size,0,none⟩:Addr).add j)=some u:=by
 intro j v hj;match j,hj with
 |0,hj=>simp at hj;subst hj;simp[Addr.add,go_sem]
 |j+1,hj=>simp at hj
theorem LW(x:List UInt8):∀u∈([.string (bs x)]:List Value),u.oneCell'=true:=by
 intro u hu;simp at hu;rw[hu];rfl
theorem AW:(Tryz.prog.info? 9).map (fun i=>(i.zero,i.size,i.bytes))=some (some (.string ⟨#[]⟩),1,16):=by kernel_rfl
def EN(l:List (List UInt8)):List Value:=l.map fun x=>Value.string (bs x)
def qN(F:Nat→Prop)(k:Nat):Prop:=∀(v:Value) (a:aI) (w:World),PV F w v a→(∀b,F b→b<w.heap.size)→kI w→aJ a≤k→k≤1000000→Calls Tryz.prog 157 #[v] w fun e w'=>e=.returned (.string (bs (cB a)))∧Below w.heap.size w w'
theorem IG(F:Nat→Prop)(k:Nat)(IH:qN F k)(x:Option Addr)(c:Nat)(l:List aI)(w:World)(hl:PVs F w (.slice x l.length c) l)(hF:∀b,F b→b<w.heap.size)(hp:kI w)(hc:(l.map aJ).sum≤k)(hk:k≤1000000):
 Calls Tryz.prog 219 #[.slice x l.length c] w fun e w'=>e=.returned (.string (bs (eZ (l.map cB))))∧Below w.heap.size w w':=by
 obtain⟨i0,hi,hz0,hz1,hz2⟩:=info_parts AW;have hlen:=iS l;have HIH:=aB IH;have HL:=aB hl;have HF:=aB hF;have HP:=aB hp;clear IH hl hF hp;go_enter Tryz.func219,Tryz.ntmps219;go_wp2_with fail;go_loopg [3,5,8] l.length (fun gk s _ i wr=>∃j:Nat,j+gk=l.length∧i=.int .i64 j∧(∃y d,s=.slice y j d)∧wr.ownsRow w.heap.size 9 1 s j (EN ((l.map cB).take j))∧Below w.heap.size w wr)
 case atStart=>exact⟨0,by omega,rfl,⟨none,0,rfl⟩,World.ownsRow_nil _ _ _ _,Below.refl _ _⟩
 case round=>
  obtain⟨j,hj,rfl,⟨y,d,rfl⟩,hown,hbel⟩:=hrel;by_cases hlt:j<l.length
  ·obtain⟨m,rfl⟩:∃m,gk=m+1:=⟨gk-1,by omega⟩
   have hl':=HL.out.keep fun b hb=>hbel.block b (HF.out b hb)
   obtain⟨g,u,rfl,hn,hFg,hg,hcap,hcell,hu⟩:=hl'.get j hlt;have hmem:l[j]∈l:=List.getElem_mem hlt;have hcm:=kU hmem;have HX:=aB (HIH.out u l[j] wr hu (fun b hb=>Nat.lt_of_lt_of_le (HF.out b hb) hbel.size) (HP.out.below hbel) (by omega) (by omega))
   obtain⟨t,u',rfl⟩:=hu.form;have hsz:=hbel.size;have HO:=aB hown;have HB:=aB hbel
   have htk:EN ((l.map cB).take (j+1))=EN ((l.map cB).take j)++[.string (bs (cB l[j]))]:=by
    rw[List.take_succ_eq_append_getElem (by simpa using hlt)];simp[EN]
   have HTK:=aB htk;clear hu hown hbel htk hl';go_wp2_with fail;refine HX.out.mono ?_;rintro e w1 ⟨rfl,hb1⟩;have hsz1:=hb1.size;have hown1:=iA HO.out hb1;have HO1:=aB hown1;clear hown1;generalize cB l[j]=tx at*;go_wp2_with (at_builtin;refine wpList_append_lies _ (by rfl) _ _ 60 (by rfl) w.heap.size 9 i0 _ 1 16 Tryz.underlying60 hi hz0 hz1 hz2 rfl (by decide) (.slice y j d) j _ (by rfl) (HO1.out.alloc _) ⟨w1.heap.size,0,none⟩ 1 1 [.string (bs tx)] (by rfl) (by rfl) (EY w1 _) (LW _) (by decide) (by unfold maxLen;omega) (by omega) (by simp;omega) (w1.heap.size+1) (by simp) ?_)
   intro g4 cap4 w4 hown4 hgrow4 hat4 hg4;have HO4:=aB hown4;have HG4:=aB hgrow4;clear hown4 hgrow4 hat4;go_wp2_with fail;go_roundg m
   case measure=>omega
   case rel=>
    refine⟨j+1,by omega,by go_num,⟨_,_,rfl⟩,by rw[HTK.out];exact HO4.out,?_⟩
    exact((HB.out.trans (hb1.mono (by omega))).alloc (by omega) _).grown HG4.out (by simp;omega) fun k hk=>(HO1.out.lt k hk).1
  ·have hjl:j=l.length:=by omega
   subst hjl;have hsz:=hbel.size;rw[List.take_of_length_le (by simp)] at hown
   have HB:=aB hbel;have hwl:=sO l fun a _=>vQ a
   rcases hown.2 with ⟨r1,r2⟩|⟨g,cp,cur,r1,r2,r3,r4,r5,r6,r7⟩
   ·have e1:l=[]:=List.eq_nil_of_length_eq_zero r2;subst e1;cases r1;clear hown hbel HL HIH;go_wp2_with fail;refine(Tryz.strings_Join_none _ _ _ _).mono ?_;rintro e w1 ⟨rfl,rfl⟩;go_wp2_with fail;go_ret;exact⟨rfl,HB.out⟩
   ·cases r1
    have HJ:=aB (Tryz.strings_Join g 0 d ((l.map cB).map bs) (bs [44,32]) wr (fun i x hx=>by
     refine aA r3 ?_
     have e2:(EN (l.map cB))[i]?=some (.string x):=by
      unfold EN;rw[List.getElem?_map] at hx ⊢
      obtain⟨y,hy,rfl⟩:=Option.map_eq_some_iff.1 hx;rw[hy];rfl
     have hil:i<l.length:=by
      have:=(List.getElem?_eq_some_iff.1 hx).1;simpa using this
     rw[←r7,List.getElem?_take,if_pos (by omega)] at e2
     simpa using e2) (aD r3) (by simp;omega) (by simpa using r4) (by rw[TN];omega))
    have hln:((l.map cB).map bs).length=l.length:=by simp
    rw[hln,TN] at HJ;clear hown hbel HL HIH r3 r6 r7;go_wp2_with fail;refine HJ.out.mono ?_;rintro e w1 ⟨rfl,hb1⟩;go_wp2_with fail;go_ret;exact⟨rfl,HB.out.trans (hb1.mono (by omega))⟩
theorem AZ{w w':World}{k:Nat}{os:Array Obj}(h:w'=Sort.grow (w.drewN k) os):Below w.heap.size w w':=by
 subst h;refine⟨rfl,rfl,rfl,?_,fun i hi=>?_⟩
 ·show w.heap.size≤(w.heap++os).size
  rw[Array.size_append];omega
 ·show (w.heap++os)[i]?=w.heap[i]?
  rw[Array.getElem?_append_left hi]
theorem XI:(⟨(Lib.formatBool false).toArray⟩:ByteArray)=bs [102,97,108,115,101]:=by kernel_rfl
theorem YZ:(⟨(Lib.formatBool true).toArray⟩:ByteArray)=bs [116,114,117,101]:=by kernel_rfl
theorem DF(F:Nat→Prop)(k:Nat)(IH:qN F k):qN F (k+1):=by
 intro v a w h hF hp hc hk;rcases h.cases with ⟨n,rfl,rfl,h1,h2⟩|⟨b,rfl,rfl⟩|⟨s,rfl,rfl⟩|⟨x,c,l,rfl,rfl,hl⟩
 ·have q:=kN;have hw:cB (bB n)=cA n:=by rw[jB];rfl
  have HX:=aB (Tryz.strconv_FormatInt_10 n h1 h2 w hp);rw[hw];clear h IH hc hp;go_enter Tryz.func157,Tryz.ntmps157;go_wp2_with fail;refine HX.out.mono ?_;rintro e w1 ⟨rfl,k1,os,hw1⟩;have hb:=AZ hw1;clear hw1;go_wp2_with fail;go_ret;exact⟨by rw[rA n h1 h2];rfl,hb⟩
 ·have q:=jQ;have q':=sR;have hw:cB (bL b)=if b then [116,114,117,101] else [102,97,108,115,101]:=by rw[jB];cases b<;>rfl
  rw[hw];clear h IH hc hp;cases b
  all_goals
   go_enter Tryz.func157,Tryz.ntmps157;go_wp2_with fail;refine(Tryz.strconv_FormatBool _ _).mono ?_;rintro e w1 ⟨rfl,rfl⟩;go_wp2_with fail;go_ret;exact⟨by first|(rw[XI];rfl)|(rw[YZ];rfl),Below.refl _ _⟩
 ·have q:=kM;have q':=vR;have q'':=jK;have hw:cB (bH s)=[34]++s++[34]:=by rw[jB];rfl
  have hs:(bs s).size=s.length:=gX s;rw[jX] at hc;rw[hw];clear h IH hp;go_enter Tryz.func157,Tryz.ntmps157;go_wp2_with fail;go_ret;refine⟨?_,Below.refl _ _⟩;show Ending.returned (.string ((⟨#[34]⟩:ByteArray)++bs s++(⟨#[34]⟩:ByteArray)))=_
  rw[VA,VB];rfl
 ·have q:=jO;have q':=sQ;have q'':=kY;have q''':=gD;have hw:cB (aU l)=[91]++eZ (l.map cB)++[93]:=by rw[jB];rfl
  have hwl:=sO l fun a _=>vQ a
  rw[iC] at hc;have HX:=aB (IG F k IH x c l w hl hF hp (by omega) (by omega))
  have hs:(bs (eZ (l.map cB))).size=(eZ (l.map cB)).length:=gX _;rw[hw];generalize eZ (l.map cB)=tx at*;clear h IH hp hl hF;go_enter Tryz.func157,Tryz.ntmps157;go_wp2_with fail;refine HX.out.mono ?_;rintro e w1 ⟨rfl,hb⟩;go_wp2_with fail;go_ret;refine⟨?_,hb⟩;show Ending.returned (.string (bs [91]++bs tx++bs [93]))=_
  rw[jY,jY];rfl
theorem tJ(F:Nat→Prop):∀k,qN F k
 |0=>fun v a w _ _ _ h=>by have:=qM a;omega
 |k+1=>DF F k (tJ F k)
theorem VF(F:Nat→Prop)(v:Value)(a:aI)(w:World)(h:PV F w v a)(hF:∀b,F b→b<w.heap.size)(hp:kI w)(hc:aJ a≤100000):
 Calls Tryz.prog 409 #[v] w fun e w'=>e=.returned (.string (bs (jC a)))∧Below w.heap.size w w':=by
 have HX:=aB (tJ F 100000 v a w h hF hp hc (by omega))
 rcases h.cases with ⟨n,rfl,rfl,h1,h2⟩|⟨b,rfl,rfl⟩|⟨s,rfl,rfl⟩|⟨x,c,l,rfl,rfl,hl⟩
 ·have q:=lU;have hw:jC (bB n)=cB (bB n):=rfl;rw[hw];generalize cB (bB n)=tx at*;clear h hF hp hc;go_enter Tryz.func409,Tryz.ntmps409;go_wp2_with fail;refine HX.out.mono ?_;rintro e w1 ⟨rfl,hb⟩;go_wp2_with fail;go_ret;exact⟨rfl,hb⟩
 ·have q:=jP;have hw:jC (bL b)=cB (bL b):=rfl;rw[hw];generalize cB (bL b)=tx at*;clear h hF hp hc;go_enter Tryz.func409,Tryz.ntmps409;go_wp2_with fail;refine HX.out.mono ?_;rintro e w1 ⟨rfl,hb⟩;go_wp2_with fail;go_ret;exact⟨rfl,hb⟩
 ·have q:=jK;have hw:jC (bH s)=s:=rfl;rw[hw];clear h hF hp hc HX;go_enter Tryz.func409,Tryz.ntmps409;go_wp2_with fail;go_ret;exact⟨rfl,Below.refl _ _⟩
 ·have q:=kY;have hw:jC (aU l)=cB (aU l):=rfl;rw[hw];generalize cB (aU l)=tx at*;clear h hF hp hc hl;go_enter Tryz.func409,Tryz.ntmps409;go_wp2_with fail;refine HX.out.mono ?_;rintro e w1 ⟨rfl,hb⟩;go_wp2_with fail;go_ret;exact⟨rfl,hb⟩
end Go.Proofs.YtblbkfdhjfppkaaGreatDoor
namespace Go.Proofs.YtblbkfdhjfppkaaGreatDoor.Hs
structure dU where
 h:Nat
 v:Nat
 e:Option Nat
 b:Bool
def eB(D:Nat→Prop)(T:Nat→dU)(q h v:Nat)(e:Option Nat):Prop:=D q∧(T q).h=h∧(T q).v≤v∧((T q).e=none∨(T q).e=e)
def hJ(ar:Nat→Option Nat)(D:Nat→Prop)(T:Nat→dU)(p:Nat)(i:aH):Prop:=
 (T p).b=i.isBegin∧(T p).h≤p∧
 match i with
 |.begin _ s=>s.length≤(T p).v∧eB D T (p+1) (T p).h (T p).v (some s.length)
 |.push _=>eB D T (p+1) ((T p).h+1) (T p).v (T p).e
 |.load k=>k<(T p).v∧eB D T (p+1) ((T p).h+1) (T p).v (T p).e
 |.declare k=>1≤(T p).h∧k≤(T p).v∧k≤90000∧(T p).e=some k∧eB D T (p+1) ((T p).h-1) (k+1) (T p).e
 |.assign k n=>n+1≤(T p).h∧k<(T p).v∧eB D T (p+1) ((T p).h-(n+1)) (T p).v (T p).e
 |.jump q=>(p<q∨(T q).b=true)∧eB D T q (T p).h (T p).v (T p).e
 |.skip q=>1≤(T p).h∧p<q∧eB D T q ((T p).h-1) (T p).v (T p).e∧eB D T (p+1) ((T p).h-1) (T p).v (T p).e
 |.shortcut _ q=>1≤(T p).h∧p<q∧eB D T q (T p).h (T p).v (T p).e∧eB D T (p+1) ((T p).h-1) (T p).v (T p).e
 |.truth=>1≤(T p).h∧eB D T (p+1) (T p).h (T p).v (T p).e
 |.unary _=>1≤(T p).h∧eB D T (p+1) (T p).h (T p).v (T p).e
 |.length=>1≤(T p).h∧eB D T (p+1) (T p).h (T p).v (T p).e
 |.binary _=>2≤(T p).h∧eB D T (p+1) ((T p).h-1) (T p).v (T p).e
 |.index=>2≤(T p).h∧eB D T (p+1) ((T p).h-1) (T p).v (T p).e
 |.list n=>n≤(T p).h∧eB D T (p+1) ((T p).h-n+1) (T p).v (T p).e
 |.read=>eB D T (p+1) ((T p).h+1) (T p).v (T p).e
 |.call k n=>n≤(T p).h∧ar k=some n∧eB D T (p+1) ((T p).h-n+1) (T p).v (T p).e
 |.give=>1≤(T p).h
 |.drop=>1≤(T p).h∧eB D T (p+1) ((T p).h-1) (T p).v (T p).e
 |.print=>1≤(T p).h∧eB D T (p+1) ((T p).h-1) (T p).v (T p).e
def KB(L:Nat→dU→Prop)(lo hi:Nat)(q:Nat):Prop:=(lo≤q∧q≤hi)∨∃y,L q y
def bE(ar:Nat→Option Nat)(L:Nat→dU→Prop)(p:Nat)(c:List aH)(h v:Nat)(e:Option Nat)(h' v':Nat)(e':Option Nat):Prop:=
 ∃T:Nat→dU,(∀q y,L q y→T q=y)∧(T p).h=h∧(T p).v≤v∧((T p).e=none∨(T p).e=e)∧
  (T (p+c.length)).h=h'∧(T (p+c.length)).v=v'∧(T (p+c.length)).e=e'∧
  ∀j i,c[j]?=some i→hJ ar (KB L p (p+c.length)) T (p+j) i
theorem eB.same{D D':Nat→Prop}{T T':Nat→dU}{q h v:Nat}{e:Option Nat}(f:eB D T q h v e)(hd:D q→D' q∧(T' q).h=(T q).h∧(T' q).v≤(T q).v∧((T' q).e=none∨(T' q).e=(T q).e)):eB D' T' q h v e:=by
 obtain⟨f1,f2,f3,f4⟩:=f;obtain⟨d1,d2,d3,d4⟩:=hd f1;refine⟨d1,by rw[d2,f2],by omega,?_⟩
 rcases d4 with d4|d4
 ·exact Or.inl d4
 ·rw[d4];exact f4
theorem hJ.same{ar:Nat→Option Nat}{D D':Nat→Prop}{T T':Nat→dU}{p:Nat}{i:aH}(f:hJ ar D T p i)(hp:T' p=T p)
 (hd:∀q,D q→D' q∧(T' q).h=(T q).h∧(T' q).v≤(T q).v∧((T' q).e=none∨(T' q).e=(T q).e)) (hb:∀q,D q→q≤p→(T q).b=true→(T' q).b=true):hJ ar D' T' p i:=by
 obtain⟨f1,f2,f3⟩:=f;refine⟨by rw[hp];exact f1,by rw[hp];exact f2,?_⟩
 cases i<;>simp only at f3 ⊢<;>try rw[hp]
 case jump q=>
  refine⟨?_,f3.2.same (hd _)⟩;rcases f3.1 with h|h
  ·exact Or.inl h
  ·rcases Nat.lt_or_ge p q with h'|h'
   ·exact Or.inl h'
   ·exact Or.inr (hb q f3.2.1 h' h)
 all_goals first
  |exact f3
  |exact f3.same (hd _)
  |exact⟨f3.1,f3.2.same (hd _)⟩
  |exact⟨f3.1,f3.2.1,f3.2.2.same (hd _)⟩
  |exact⟨f3.1,f3.2.1,f3.2.2.1.same (hd _),f3.2.2.2.same (hd _)⟩
  |exact⟨f3.1,f3.2.1,f3.2.2.1,f3.2.2.2.1,f3.2.2.2.2.same (hd _)⟩
theorem bE.append{ar:Nat→Option Nat}{L:Nat→dU→Prop}{p:Nat}{c c':List aH}{h v h1 v1 h2 v2:Nat}{e e1 e2:Option Nat}(a:bE ar L p c h v e h1 v1 e1)(b:bE ar L (p+c.length) c' h1 v1 e1 h2 v2 e2)
 (hL:∀q y,L q y→q≤p∨p+c.length+c'.length≤q) (hc:c≠[]):bE ar L p (c++c') h v e h2 v2 e2:=by
 obtain⟨T,t1,t2,t3,t4,t5,t6,t7,t8⟩:=a;obtain⟨U,u1,u2,u3,u4,u5,u6,u7,u8⟩:=b;have hc0:0<c.length:=List.length_pos_iff.2 hc;have hlen:(c++c').length=c.length+c'.length:=List.length_append;refine⟨fun q=>if q<p+c.length then T q else U q,fun q y hq=>?_,?_,?_,?_,?_,?_,?_,fun j i hj=>?_⟩
 ·rcases hL q y hq with h|h
  ·simp only[if_pos (show q<p+c.length by omega)];exact t1 q y hq
  ·simp only[if_neg (show ¬q<p+c.length by omega)];exact u1 q y hq
 ·simp only[if_pos (show p<p+c.length by omega)];exact t2
 ·simp only[if_pos (show p<p+c.length by omega)];exact t3
 ·simp only[if_pos (show p<p+c.length by omega)];exact t4
 ·simp only[if_neg (show ¬p+(c++c').length<p+c.length by omega)];rw[hlen,←Nat.add_assoc];exact u5
 ·simp only[if_neg (show ¬p+(c++c').length<p+c.length by omega)];rw[hlen,←Nat.add_assoc];exact u6
 ·simp only[if_neg (show ¬p+(c++c').length<p+c.length by omega)];rw[hlen,←Nat.add_assoc];exact u7
 ·rcases Nat.lt_or_ge j c.length with hj'|hj'
  ·rw[List.getElem?_append_left hj'] at hj;refine(t8 j i hj).same (by simp only[if_pos (show p+j<p+c.length by omega)]) (fun q hq=>?_) (fun q hq hqp hb=>?_)
   ·rcases Nat.lt_or_ge q (p+c.length) with h|h
    ·rw[if_pos h];exact⟨hq.imp (fun hq=>⟨hq.1,by omega⟩) id,rfl,Nat.le_refl _,Or.inr rfl⟩
    ·rw[if_neg (show ¬q<p+c.length by omega)]
     rcases Nat.eq_or_lt_of_le h with h|h
     ·subst h;exact⟨Or.inl ⟨by omega,by omega⟩,by rw[u2,t5],by rw[t6];exact u3,by rw[t7];exact u4⟩
     ·rcases hq with hq|⟨y,hy⟩
      ·omega
      ·rw[t1 q y hy,u1 q y hy];exact⟨Or.inr ⟨y,hy⟩,rfl,Nat.le_refl _,Or.inr rfl⟩
   ·simp only[if_pos (show q<p+c.length by omega)];exact hb
  ·rw[List.getElem?_append_right hj'] at hj;have hu:=u8 (j-c.length) i hj;rw[show p+c.length+(j-c.length)=p+j by omega] at hu
   have hlt:j-c.length<c'.length:=(List.getElem?_eq_some_iff.1 hj).1;refine hu.same (by simp only[if_neg (show ¬p+j<p+c.length by omega)]) (fun q hq=>?_) (fun q hq hqp hb=>?_)
   ·rcases hq with hq|⟨y,hy⟩
    ·rw[if_neg (show ¬q<p+c.length by omega)]
     exact⟨Or.inl ⟨by omega,by omega⟩,rfl,Nat.le_refl _,Or.inr rfl⟩
    ·refine⟨Or.inr ⟨y,hy⟩,?_⟩;split
     ·rw[t1 q y hy,u1 q y hy];exact⟨rfl,Nat.le_refl _,Or.inr rfl⟩
     ·exact⟨rfl,Nat.le_refl _,Or.inr rfl⟩
   ·rcases hq with hq|⟨y,hy⟩
    ·simp only[if_neg (show ¬q<p+c.length by omega)];exact hb
    ·split
     ·rw[t1 q y hy,←u1 q y hy];exact hb
     ·exact hb
theorem bE.nil(ar:Nat→Option Nat)(p h v:Nat)(e:Option Nat)(L:Nat→dU→Prop)(hL:∀q y,L q y→q=p→y.h=h∧y.v=v∧y.e=e)(hu:∀q y z,L q y→L q z→y=z):bE ar L p [] h v e h v e:=by
 classical
 refine⟨fun q=>if hq:∃y,L q y then hq.choose else ⟨h,v,e,false⟩,fun q y hy=>?_,?_⟩
 ·have hex:∃y,L q y:=⟨y,hy⟩;simp only[dif_pos hex];exact hu q _ _ hex.choose_spec hy
 ·simp only[List.length_nil,Nat.add_zero];split
  ·rename_i hex;obtain⟨h1,h2,h3⟩:=hL p _ hex.choose_spec rfl;exact⟨h1,by omega,Or.inr h3,h1,h2,h3,fun j i hj=>by simp at hj⟩
  ·exact⟨rfl,Nat.le_refl _,Or.inr rfl,rfl,rfl,rfl,fun j i hj=>by simp at hj⟩
structure nM(ar:Nat→Option Nat)(c:List aH)(T:Nat→dU):Prop where
 ins:∀j i,c[j]?=some i→hJ ar (fun q=>q<c.length) T j i
 len:c.length≤80000
def gY(c:List aH):Prop:=(∃l s r,c=.begin l s::r)∨∃v,c=[.push v,.give]
structure cE(ar:Nat→Option Nat)(f:aK)(more:Nat):Prop where
 code:∃T,nM ar f.fn.code T∧(T f.next).h=f.ops.length+more∧(T f.next).v≤f.vars.length∧((T f.next).e=none∨(T f.next).e=some f.seen.length)
 next:f.next<f.fn.code.length
 seen:f.seen.length≤f.vars.length
 vars:f.vars.length≤90001
structure jF(ar:Nat→Option Nat)(tab:List eJ):Prop where
 fn:∀k n,ar k=some n→∃f T,tab[k]?=some f∧nM ar f.code T∧(T 0).h=0∧(T 0).v≤n∧(T 0).e=none∧
  gY f.code
structure mK(ar:Nat→Option Nat)(m:cM):Prop where
 low:∀f∈m.frames.dropLast,cE ar f 1
 top:∀f,m.frames.getLast?=some f→cE ar f 0
 deep:m.frames.length≤16
theorem eW{α:Type}(l:List α)(a:α):(l++[a]).getLast?=some a:=by simp
theorem fQ{α:Type}(l:List α)(a:α):(l++[a]).dropLast=l:=by simp
theorem mK.snoc{ar:Nat→Option Nat}{below:List aK}{f:aK}{t:List Int}{o:List (List UInt8)}(h1:∀g∈below,cE ar g 1)(h2:cE ar f 0)(h3:below.length+1≤16):mK ar ⟨below++[f],t,o⟩:=
 ⟨by simp only[fQ];exact h1,fun g hg=>by simp only[eW] at hg;cases hg;exact h2,by simp;omega⟩
theorem cE.flow{ar:Nat→Option Nat}{T:Nat→dU}{f g:aK}{h v:Nat}{e:Option Nat}(hc:nM ar f.fn.code T)(hf:eB (fun q=>q<f.fn.code.length) T g.next h v e)(h1:g.fn=f.fn)(h2:h=g.ops.length)(h3:v≤g.vars.length)(h4:e=none∨e=some g.seen.length)
 (h5:g.seen.length≤g.vars.length) (h6:g.vars.length≤90001):cE ar g 0:=by
 obtain⟨f1,f2,f3,f4⟩:=hf;refine⟨⟨T,by rw[h1];exact hc,by omega,by omega,?_⟩,by rw[h1];exact f1,h5,h6⟩
 rcases f4 with f4|f4
 ·exact Or.inl f4
 ·rw[f4];exact h4
theorem aK.pop_len(f:aK):f.pop.ops.length=f.ops.length-1:=by simp[aK.pop]
theorem aK.push_len(f:aK)(v:aI):(f.push v).ops.length=f.ops.length+1:=by simp[aK.push]
theorem aK.popMany_len(f:aK)(n:Nat):(f.popMany n).ops.length=f.ops.length-n:=by simp[aK.popMany]
theorem DL{ar:Nat→Option Nat}{T:Nat→dU}{f:aK}{i:aH}(hc:nM ar f.fn.code T)(hi:hJ ar (fun q=>q<f.fn.code.length) T f.next i)
 (hh:(T f.next).h=f.ops.length) (hv:(T f.next).v≤f.vars.length) (he:(T f.next).e=none∨(T f.next).e=some f.seen.length) (hs:f.seen.length≤f.vars.length) (hm:f.vars.length≤90001)
 (hn:i≠.give) (hr:i≠.read) (hp:i≠.print) (hk:∀k n,i≠.call k n) (r:aK × Nat) (hr':r=aN i { f with next:=f.next+1 }):
 r.1.seen.length≤r.1.vars.length∧(r.2=0→cE ar r.1 0):=by
 obtain⟨_,_,hi⟩:=hi;have hs0:=hs;cases i with
 |give=>exact absurd rfl hn
 |read=>exact absurd rfl hr
 |print=>exact absurd rfl hp
 |call k n=>exact absurd rfl (hk k n)
 |begin l s=>
  simp only[aN] at hr' hi;subst hr';exact⟨by simp only;omega,fun _=>cE.flow (f:=f) hc hi.2 rfl hh hv (Or.inr rfl) (by simp only;omega) hm⟩
 |push v=>
  simp only[aN] at hr' hi;subst hr';exact⟨hs,fun _=>cE.flow (f:=f) hc hi rfl (by rw[aK.push_len];simp only;omega) hv he hs hm⟩
 |load k=>
  simp only[aN] at hr' hi;subst hr';exact⟨hs,fun _=>cE.flow (f:=f) hc hi.2 rfl (by rw[aK.push_len];simp only;omega) hv he hs hm⟩
 |declare k=>
  simp only[aN] at hr' hi;subst hr';obtain⟨i1,i2,i3,i4,i5⟩:=hi;have hse:f.seen.length=k:=by rcases he with he|he<;>rw[i4] at he<;>cases he;rfl
  have hl:(f.vars.take k++[aK.last { f with next:=f.next+1 }]).length=k+1:=by simp;omega
  exact⟨by show f.seen.length≤(f.vars.take k++[_]).length;rw[hl];omega,fun _=>cE.flow (f:=f) hc i5 rfl (by show _=(aK.pop _).ops.length;rw[aK.pop_len];simp only;omega) (by show _≤(f.vars.take k++[_]).length;rw[hl];omega) he (by show f.seen.length≤(f.vars.take k++[_]).length;rw[hl];omega) (by show (f.vars.take k++[_]).length≤_;rw[hl];omega)⟩
 |assign k n=>
  simp only[aN] at hr' hi;split at hr'
  ·subst hr';refine⟨by simp only[List.length_set];exact hs,fun _=>cE.flow (f:=f) hc hi.2.2 rfl ?_ (by simp only[List.length_set];exact hv) he (by simp only[List.length_set];exact hs) (by simp only[List.length_set];exact hm)⟩
   show _=(aK.popMany _ n).ops.length
   rw[aK.popMany_len,aK.pop_len];simp only;omega
  ·subst hr';rename_i h0;exact⟨hs,fun h=>absurd h h0⟩
 |jump q=>
  simp only[aN] at hr' hi;subst hr';exact⟨hs,fun _=>cE.flow (f:=f) hc hi.2 rfl hh hv he hs hm⟩
 |skip q=>
  simp only[aN] at hr' hi;split at hr'
  ·subst hr';refine⟨?_,fun _=>?_⟩
   ·split<;>exact hs
   ·split
    ·exact cE.flow (f:=f) hc hi.2.2.2 rfl (by rw[aK.pop_len];simp only;omega) hv he hs hm
    ·exact cE.flow (f:=f) hc hi.2.2.1 rfl (by show _=(aK.pop _).ops.length;rw[aK.pop_len];simp only;omega) hv he hs hm
  ·subst hr';exact⟨hs,fun h=>absurd h (by simp)⟩
 |shortcut w q=>
  simp only[aN] at hr' hi;split at hr'
  ·subst hr';refine⟨?_,fun _=>?_⟩
   ·split<;>exact hs
   ·split
    ·exact cE.flow (f:=f) hc hi.2.2.1 rfl (by show _=(aK.push (aK.pop _) _).ops.length;rw[aK.push_len,aK.pop_len];simp only;omega) hv he hs hm
    ·exact cE.flow (f:=f) hc hi.2.2.2 rfl (by rw[aK.pop_len];simp only;omega) hv he hs hm
  ·subst hr';exact⟨hs,fun h=>absurd h (by simp)⟩
 |truth=>
  simp only[aN] at hr' hi;split at hr'
  ·subst hr';exact⟨hs,fun _=>cE.flow (f:=f) hc hi.2 rfl (by rw[aK.push_len,aK.pop_len];simp only;omega) hv he hs hm⟩
  ·subst hr';exact⟨hs,fun h=>absurd h (by simp)⟩
 |unary op=>
  simp only[aN] at hr' hi;split at hr'
  ·subst hr';exact⟨hs,fun _=>cE.flow (f:=f) hc hi.2 rfl (by rw[aK.push_len,aK.pop_len];simp only;omega) hv he hs hm⟩
  ·subst hr';rename_i h0;exact⟨hs,fun h=>absurd h h0⟩
 |length=>
  simp only[aN] at hr' hi;split at hr'
  ·subst hr';exact⟨hs,fun _=>cE.flow (f:=f) hc hi.2 rfl (by rw[aK.push_len,aK.pop_len];simp only;omega) hv he hs hm⟩
  ·subst hr';rename_i h0;exact⟨hs,fun h=>absurd h h0⟩
 |binary op=>
  simp only[aN] at hr' hi;split at hr'
  ·subst hr';exact⟨hs,fun _=>cE.flow (f:=f) hc hi.2 rfl (by rw[aK.push_len,aK.pop_len,aK.pop_len];simp only;omega) hv he hs hm⟩
  ·subst hr';rename_i h0;exact⟨hs,fun h=>absurd h h0⟩
 |index=>
  simp only[aN] at hr' hi;split at hr'
  ·subst hr';exact⟨hs,fun _=>cE.flow (f:=f) hc hi.2 rfl (by rw[aK.push_len,aK.pop_len,aK.pop_len];simp only;omega) hv he hs hm⟩
  ·subst hr';rename_i h0;exact⟨hs,fun h=>absurd h h0⟩
 |list n=>
  simp only[aN] at hr' hi;split at hr'
  ·subst hr';exact⟨hs,fun _=>cE.flow (f:=f) hc hi.2 rfl (by rw[aK.push_len,aK.popMany_len];simp only;omega) hv he hs hm⟩
  ·subst hr';rename_i h0;exact⟨hs,fun h=>absurd h h0⟩
 |drop=>
  simp only[aN] at hr' hi;subst hr';exact⟨hs,fun _=>cE.flow (f:=f) hc hi.2 rfl (by rw[aK.pop_len];simp only;omega) hv he hs hm⟩
end Go.Proofs.YtblbkfdhjfppkaaGreatDoor.Hs
namespace Go.Proofs.YtblbkfdhjfppkaaGreatDoor
open Hs
open Go.RowKit
structure Kept(own:List Nat)(w w':World):Prop where
 os:w'.os=w.os
 tape:w'.tape=w.tape
 output:w'.output=w.output
 size:w.heap.size≤w'.heap.size
 block:∀k,k<w.heap.size→k∉own→w'.heap[k]?=w.heap[k]?
structure Ext(F G:Nat→Prop)(n:Nat):Prop where
 sub:∀k,F k→G k
 new:∀k,G k→F k∨n≤k
theorem Ext.refl(F:Nat→Prop)(n:Nat):Ext F F n:=⟨fun _ h=>h,fun _ h=>Or.inl h⟩
theorem Ext.trans{F G H:Nat→Prop}{n m:Nat}(h:Ext F G n)(k:Ext G H m)(hn:n≤m):Ext F H n:=⟨fun x hx=>k.sub x (h.sub x hx),fun x hx=>by
 rcases k.new x hx with h1|h1
 ·exact h.new x h1
 ·exact Or.inr (Nat.le_trans hn h1)⟩
theorem Ext.le{F G:Nat→Prop}{n m:Nat}(h:Ext F G n)(hn:m≤n):Ext F G m:=⟨h.sub,fun x hx=>(h.new x hx).imp_right (Nat.le_trans hn)⟩
def Done(fp:Nat→Value)(F:Nat→Prop)(base:Nat)(sb:Nat)(t0 s0:Value)(own:List Nat)(w:World)(m:cM)(w':World):Prop:=
 Kept own w w'∧∃G gf cap tv outv fvs,Ext F G w.heap.size∧cO fp G base w' sb gf cap t0 tv outv s0 fvs m∧∀k∈aF sb gf outv fvs,k∈own∨w.heap.size≤k
theorem tI{w:World}{base gf cap j:Nat}{fb:List FVal}{v:FVal}{x:Value}(h:w.ownsRow base 195 6 (.slice (some ⟨gf,0,none⟩) (fb.length+1) cap) (fb.length+1) (fS (fb++[v])))(hj:j<6):
 ∃cur,w.heap[gf]?=some (.cells cur 195 (0,0))∧(∀i,i<6→cur[fb.length*6+i]?=v.cells[i]?)∧
  ∀W:World,W.heap[gf]?=some (.cells (cur.setIfInBounds (fb.length*6+j) x) 195 (0,0))→∀v':FVal,v'.cells=v.cells.set j x→W.ownsRow base 195 6 (.slice (some ⟨gf,0,none⟩) (fb.length+1) cap) (fb.length+1) (fS (fb++[v'])):=by
 rcases h.2 with ⟨r1,_⟩|⟨g',cap',cur,r1,r2,r3,r4,r5,r6,r7⟩
 ·cases r1
 cases r1;have hfl:∀u:FVal,fS (fb++[u])=fS fb++u.cells:=fun u=>by rw[iU];simp[fS]
 have hc6:∀u:FVal,u.cells.length=6:=fun _=>rfl
 have hsz:(fb.length+1)*6≤cur.size:=by rw[r6];exact Nat.mul_le_mul_right _ r4
 refine⟨cur,r3,fun i hi=>?_,fun W hW v' hv'=>?_⟩
 ·have:(fS (fb++[v]))[fb.length*6+i]?=v.cells[i]?:=by
   rw[hfl,List.getElem?_append_right (by rw[dV];omega),dV,Nat.add_sub_cancel_left]
  rw[←r7,List.getElem?_take,if_pos (by omega)] at this
  simpa using this
 ·refine⟨by rw[dV];simp,Or.inr ⟨gf,cap,_,rfl,r2,hW,r4,r5,by simpa using r6,?_⟩⟩
  rw[Array.toList_setIfInBounds,List.take_set,r7,hfl,hfl,hv',List.set_append_right _ _ (by rw[dV];omega),dV,Nat.add_sub_cancel_left]
theorem Kept.refl(own:List Nat)(w:World):Kept own w w:=⟨rfl,rfl,rfl,Nat.le_refl _,fun _ _ _=>rfl⟩
theorem Kept.trans{own own':List Nat}{a b c:World}(h:Kept own a b)(k:Kept own' b c)(ho:∀x∈own',x∈own∨a.heap.size≤x):Kept own a c:=
 ⟨k.os.trans h.os,k.tape.trans h.tape,k.output.trans h.output,Nat.le_trans h.size k.size,fun x hx hn=>by
   rw[k.block x (Nat.lt_of_lt_of_le hx h.size) (fun hm=>by rcases ho x hm with h1|h1;·exact hn h1
                                                           ·omega),h.block x hx hn]⟩
theorem Kept.of_below{own:List Nat}{w w':World}(h:Below w.heap.size w w'):Kept own w w':=⟨h.os,h.tape,h.output,h.size,fun k hk _=>h.block k hk⟩
theorem cO.grow{fp:Nat→Value}{F G:Nat→Prop}{base:Nat}{w w':World}{sb gf cap:Nat}{t0 tv outv s0:Value}{fvs:List FVal}{m:cM}(h:cO fp F base w sb gf cap t0 tv outv s0 fvs m)(hb:Below w.heap.size w w')(hF:∀k,F k→G k)(hG:∀k,G k→F k∨(w.heap.size≤k∧k<w'.heap.size)):cO fp G base w' sb gf cap t0 tv outv s0 fvs m:=by
 have hFk:∀b,F b→w'.heap[b]?=w.heap[b]?:=fun b hb'=>hb.block b (h.apart b hb').1
 have hin:∀k,k∈aF sb gf outv fvs→w'.heap[k]?=w.heap[k]?:=fun k hk=>hb.block k (h.lt k hk)
 refine⟨by rw[hin sb (by simp[aF])];exact h.blk,aY h.row fun k hk=>?_,h.frs.keep hFk hF fun v hv k hk=>hin k ?_,h.tape.keep hFk hF,aY h.out fun k hk=>hin k (by simp[aF,hk]),h.nodup,fun k hk=>Nat.lt_of_lt_of_le (h.lt k hk) hb.size,fun k hk=>?_⟩
 ·cases hk;exact hin gf (by simp[aF])
 ·have:k∈aS fvs:=List.mem_flatMap.2 ⟨v,hv,hk⟩;simp[aF,this]
 ·rcases hG k hk with h1|⟨h1,h2⟩
  ·exact⟨Nat.lt_of_lt_of_le (h.apart k h1).1 hb.size,(h.apart k h1).2⟩
  ·exact⟨h2,fun hm=>by have:=h.lt k hm;omega⟩
theorem cO.pushed{fp:Nat→Value}{F:Nat→Prop}{base:Nat}{w w':World}{sb gf cap:Nat}{t0 tv outv s0:Value}{fb:List FVal}{v:FVal}{below:List aK}{f:aK}{tape:List Int}{out:List (List UInt8)}{cur:Array Value}{ov' u:Value}{a:aI}{xs:List Value}
 (h:cO fp F base w sb gf cap t0 tv outv s0 (fb++[v]) ⟨below++[f],tape,out⟩) (hcur:w.heap[gf]?=some (.cells cur 195 (0,0)))
 (hxs:fR F w xs f.ops) (hu:PV F w u a) (hca:aJ a≤200)
 (p1:w'.heap[gf]?=some (.cells (cur.setIfInBounds (fb.length*6+5) ov') 195 (0,0))) (p2:w'.ownsRow base 256 1 ov' (f.ops.length+1) (xs++[u])) (p3:∀k,ov'.ownBlock=some k→v.ov.ownBlock=some k∨w.heap.size≤k) (p4:Chg gf v.ov.ownBlock w w'):
 cO fp F base w' sb gf cap t0 tv outv s0 (fb++[{ v with ov:=ov' }]) ⟨below++[f.push a],tape,out⟩∧Kept (aF sb gf outv (fb++[v])) w w':=by
 obtain⟨vs',v0,e,hfb,hv⟩:=iE.unsnoc h.frs;obtain⟨rfl,e2⟩:=List.append_inj' e rfl;cases e2;have hrow:=h.row;rw[show (fb++[v]).length=fb.length+1 by simp] at hrow
 obtain⟨cur',c1,_,c3⟩:=tI (j:=5) (x:=ov') hrow (by omega)
 obtain rfl:cur'=cur:=by rw[hcur] at c1;cases c1;rfl
 have hvm:∀k∈v.owns,k∈aF sb gf outv (fb++[v]):=fun k hk=>by simp[aF,aS,hk]
 have hgv:gf∉v.owns:=fun hm=>by
  have:=(List.nodup_cons.1 (List.nodup_cons.1 h.nodup).2).1;exact this (by simp[aS,hm])
 have hnv:v.owns.Nodup:=by
  have h1:=h.nodup;have:aF sb gf outv (fb++[v])=(sb::gf::(outv.ownBlock.toList++aS fb))++v.owns:=by simp[aF,aS]
  rw[this] at h1;exact(List.nodup_append.1 h1).2.1
 have hFk:∀b,F b→w'.heap[b]?=w.heap[b]?:=fun b hb=>by
  obtain⟨h1,h2⟩:=h.apart b hb;exact p4.block b h1 (fun e=>h2 (by simp[aF,e])) (fun e=>h2 (hvm b (by simp[FVal.owns,←e])))
 have hchg:∀k,k<w.heap.size→k≠gf→k∉v.owns→w'.heap[k]?=w.heap[k]?:=fun k h1 h2 h3=>p4.block k h1 h2 fun e=>h3 (by simp[FVal.owns,←e])
 have hvvo:∀k,v.vv.ownBlock=some k→k<w.heap.size∧k≠gf∧v.ov.ownBlock≠some k:=fun k hk=>by
  have hm:k∈v.owns:=by simp[FVal.owns,hk]
  refine⟨h.lt k (hvm k hm),fun e=>hgv (by rw[←e];exact hm),fun e=>?_⟩
  unfold FVal.owns at hnv;rw[hk,e] at hnv;simp at hnv
 refine⟨h.step (G:=F) p4.size hchg (c3 w' p1 _ rfl) ?_ ?_ ?_ (fun _ h=>h) (fun _ h=>Or.inl h),?_⟩
 ·refine⟨hv.fn.keep hFk fun _ h=>h,hv.nx,hv.ln,eO.keep hFk (fun _ h=>h) hv.sp,hv.vars.keep hFk (fun _ h=>h) fun k hk=>?_,⟨xs++[u],?_,?_⟩,?_⟩
  ·obtain⟨h1,h2,h3⟩:=hvvo k hk;exact p4.block k h1 h2 (fun e=>h3 e.symm)
  ·show w'.ownsRow base 256 1 ov' (f.ops++[a]).length _
   rw[List.length_append];exact p2
  ·exact(hxs.keep hFk).append ⟨rfl,fun i hi=>by
    obtain rfl:i=0:=by simpa using hi
    exact⟨u,rfl,hu.keep hFk⟩⟩
  ·intro b hb;rcases List.mem_append.1 hb with hb|hb
   ·exact hv.ops.2 b hb
   ·rw[List.mem_singleton.1 hb];exact hca
 ·intro k hk;rcases List.mem_append.1 hk with hk|hk
  ·have hk':v.vv.ownBlock=some k:=by simpa using hk
   exact⟨Nat.lt_of_lt_of_le (hvvo k hk').1 p4.size,Or.inl (by simp[FVal.owns,hk'])⟩
  ·have hk':ov'.ownBlock=some k:=by simpa using hk
   refine⟨cG p2 k hk',?_⟩;rcases p3 k hk' with h1|h1
   ·exact Or.inl (by simp[FVal.owns,h1])
   ·exact Or.inr h1
 ·show (v.vv.ownBlock.toList++ov'.ownBlock.toList).Nodup
  refine List.nodup_append.2 ⟨by cases v.vv.ownBlock<;>simp,by cases ov'.ownBlock<;>simp,fun x hx y hy e=>?_⟩
  subst e;have h1:v.vv.ownBlock=some x:=by simpa using hx
  have h2:ov'.ownBlock=some x:=by simpa using hy
  obtain⟨h3,_,h4⟩:=hvvo x h1;rcases p3 x h2 with h5|h5
  ·exact h4 h5
  ·omega
 ·exact⟨p4.os,p4.tape,p4.output,p4.size,fun k hk hn=>hchg k hk (fun e=>hn (by simp[aF,e])) fun hm=>hn (hvm k hm)⟩
structure aW(w w':World):Prop where
 os:w'.os=w.os
 tape:w'.tape=w.tape
 output:w'.output=w.output
 heap:w'.heap=w.heap
theorem aW.refl(w:World):aW w w:=⟨rfl,rfl,rfl,rfl⟩
theorem aW.drewN(w:World)(n:Nat):aW w (w.drewN n):=⟨rfl,rfl,rfl,rfl⟩
theorem aW.drew(w:World):aW w w.drew:=⟨rfl,rfl,rfl,rfl⟩
theorem aW.trans{a b c:World}(h:aW a b)(k:aW b c):aW a c:=⟨k.os.trans h.os,k.tape.trans h.tape,k.output.trans h.output,k.heap.trans h.heap⟩
theorem aW.below{w w':World}(h:aW w w'):Below w.heap.size w w':=⟨h.os,h.tape,h.output,by rw[h.heap];exact Nat.le_refl _,fun k _=>by rw[h.heap]⟩
theorem cO.top{fp:Nat→Value}{F:Nat→Prop}{base:Nat}{w:World}{sb gf cap:Nat}{t0 tv outv s0:Value}{fvs:List FVal}{below:List aK}{f:aK}{tape:List Int}{out:List (List UInt8)}(h:cO fp F base w sb gf cap t0 tv outv s0 fvs ⟨below++[f],tape,out⟩):
 ∃fb v cur,fvs=fb++[v]∧fb.length=below.length∧KA fp F base w v f∧w.heap[sb]?=some (.cells #[t0,.slice (some ⟨gf,0,none⟩) (fb.length+1) cap,tv,outv,s0] 108 (0,0))∧w.heap[gf]?=some (.cells cur 195 (0,0))∧fb.length+1≤cap∧
  cur[fb.length*6]?=some v.fp∧cur[fb.length*6+1]?=some v.nx∧cur[fb.length*6+2]?=some v.ln∧cur[fb.length*6+3]?=some v.sp∧cur[fb.length*6+4]?=some v.vv∧cur[fb.length*6+5]?=some v.ov:=by
 obtain⟨fb,v,rfl,h1,h2⟩:=iE.unsnoc h.frs;have hrow:=h.row;have hblk:=h.blk;rw[show (fb++[v]).length=fb.length+1 by simp] at hrow hblk
 obtain⟨cur,c1,c2,_⟩:=tI (j:=0) (x:=undef) hrow (by omega)
 have hcap:fb.length+1≤cap:=by
  rcases hrow.2 with ⟨r1,_⟩|⟨g',cap',cur,r1,r2,r3,r4,_⟩
  ·cases r1
  ·cases r1;exact r4
 exact⟨fb,v,cur,rfl,h1.length,h2,hblk,c1,hcap,c2 0 (by omega),c2 1 (by omega),c2 2 (by omega),c2 3 (by omega),c2 4 (by omega),c2 5 (by omega)⟩
theorem cQ{w W:World}(h:W.heap=w.heap){a:Addr}{v:Value}(hc:w.cell? a=some v):W.cell? a=some v:=by
 have e:W.cell? a=w.cell? a:=World.cell?_of_block (by rw[h])
 rw[e];exact hc
theorem LJ(w w0:World)(sb fa fj:Nat)(t:TypeId)(z:Value)(P:World→Prop)(hW:w.alloc (.cells #[.iface t z] 361)=w0)
 (HT:Hid (∀W,aW w0 W→Calls Tryz.prog 158 #[.pointer (some ⟨sb,0,none⟩)] W fun e w'=>e=.returned (.pointer (some ⟨fa,fj,none⟩))∧aW w0 w'))
 (HP:Hid (∀W,aW w0 W→Calls Tryz.prog 371 #[.pointer (some ⟨fa,fj,none⟩),.iface t z] W fun e w'=>e=.returned (.tuple #[])∧P w')):
 Calls Tryz.prog 370 #[.agg #[.iface t z],.pointer (some ⟨sb,0,none⟩)] w fun e w'=>e=.returned (.tuple #[])∧P w':=by
 have hbox:(w.alloc (.cells #[.iface t z] 361)).heap[w.heap.size]?=some (.cells #[.iface t z] 361 (0,0)):=aR _ _ rfl _;rw[hW] at hbox;have HW:=aB hW;have c0:w0.cell? ⟨w.heap.size,0,none⟩=some (.iface t z):=aA hbox rfl;have HC0:=aB c0;have hlt:=aD hbox;clear hW hbox;go_enter Tryz.func370,Tryz.ntmps370;go_wp2_with fail;rw[HW.out];go_region_law (go_simp;first|(go_at_call 158;refine(HT.out _ (aW.drew _)).mono ?_;rintro e w1 ⟨rfl,hs1⟩;have c1:=cQ hs1.heap HC0.out;have hl1:w.heap.size<w1.heap.size:=by (rw[hs1.heap];exact hlt))|(go_at_call 371;refine(HP.out _ hs1).mono ?_;rintro e w2 ⟨rfl,hd2⟩))
 all_goals
  go_wp2_with fail;go_end0;exact⟨rfl,hd2⟩
theorem QE(fp:Nat→Value)(F:Nat→Prop)(base:Nat)(w:World)(sb gf cap:Nat)(t0 tv outv s0:Value)(fvs:List FVal)(below:List aK)(f:aK)(tape:List Int)(out:List (List UInt8))(u:Value)(a:aI)
 (h:cO fp F base w sb gf cap t0 tv outv s0 fvs ⟨below++[f],tape,out⟩) (hu:PV F w u a) (hca:aJ a≤200) (hops:f.ops.length≤100000) (hbel:below.length≤15) (hbase:base≤w.heap.size):
 Calls Tryz.prog 370 #[.agg #[u],.pointer (some ⟨sb,0,none⟩)] w fun e w'=>e=.returned (.tuple #[])∧Done fp F base sb t0 s0 (aF sb gf outv fvs) w ⟨below++[f.push a],tape,out⟩ w':=by
 obtain⟨t,z,rfl⟩:=hu.form;have hb0:Below w.heap.size w (w.alloc (.cells #[.iface t z] 361)):=(Below.refl _ _).alloc (Nat.le_refl _) _;have hbox:(w.alloc (.cells #[.iface t z] 361)).heap[w.heap.size]?=some (.cells #[.iface t z] 361 (0,0)):=aR _ _ rfl _;have h0:=h.grow hb0 (fun _ h=>h) (fun _ h=>Or.inl h)
 have hu0:PV F (w.alloc (.cells #[.iface t z] 361)) (.iface t z) a:=hu.keep fun k hk=>hb0.block k (h.apart k hk).1
 generalize hW:w.alloc (.cells #[.iface t z] 361)=w0 at*;have HW:=aB hW;obtain⟨fb,v,cur,rfl,hfl,hv,hblk,hcur,hcap,k0,k1,k2,k3,k4,k5⟩:=h0.top;obtain⟨⟨xs,hown,hxs⟩,hc200⟩:=hv.ops
 have hgv:v.ov.ownBlock≠some gf:=fun e=>by
  have:=(List.nodup_cons.1 (List.nodup_cons.1 h0.nodup).2).1;exact this (by simp[aS,FVal.owns,e])
 have HT:Hid (∀W,aW w0 W→Calls Tryz.prog 158 #[.pointer (some ⟨sb,0,none⟩)] W fun e w'=>e=.returned (.pointer (some ⟨gf,fb.length*6,none⟩))∧aW w0 w'):=fun W hS=>by
  refine(GF sb gf fb.length cap W (cQ hS.heap (aA hblk rfl)) (by omega)).mono ?_
  rintro e w' ⟨he,q,rfl⟩;exact⟨he,hS.trans (aW.drewN _ _)⟩
 have HP:Hid (∀W,aW w0 W→Calls Tryz.prog 371 #[.pointer (some ⟨gf,fb.length*6,none⟩),.iface t z] W fun e w'=>e=.returned (.tuple #[])∧Done fp F base sb t0 s0 (aF sb gf outv (fb++[v])) w ⟨below++[f.push a],tape,out⟩ w'):=fun W hS=>by
  have hbW:=hS.below;have hR:=h0.grow hbW (fun _ h=>h) (fun _ h=>Or.inl h)
  refine(vC base gf (fb.length*6) f.ops.length cur v.ov xs t z W (by rw[hS.heap];exact hcur) k5 (aY hown fun k _=>by rw[hS.heap]) hgv (by rw[hS.heap];exact Nat.le_trans hbase hb0.size) (by omega)).mono ?_
  rintro e w' ⟨he,ov',p1,p2,p3,p4⟩;obtain⟨q1,q2⟩:=hR.pushed (cur:=cur) (by rw[hS.heap];exact hcur) (hxs.keep fun k _=>by rw[hS.heap]) (hu0.keep fun k _=>by rw[hS.heap]) hca p1 p2 p3 p4
  have hk:Kept (aF sb gf outv (fb++[v])) w w':=(Kept.of_below (own:=aF sb gf outv (fb++[v])) (hb0.trans (hbW.mono hb0.size))).trans q2 fun x hx=>Or.inl hx
  refine⟨he,hk,F,gf,cap,tv,outv,_,Ext.refl _ _,q1,fun k hk'=>?_⟩
  have hsz:W.heap.size=w0.heap.size:=by rw[hS.heap]
  have h1:aF sb gf outv (fb++[{ v with ov:=ov' }])=(sb::gf::(outv.ownBlock.toList++aS fb))++({ v with ov:=ov' }:FVal).owns:=by simp[aF,aS]
  have h2:aF sb gf outv (fb++[v])=(sb::gf::(outv.ownBlock.toList++aS fb))++v.owns:=by simp[aF,aS]
  rw[h1] at hk';rw[h2];rcases List.mem_append.1 hk' with h3|h3
  ·exact Or.inl (List.mem_append_left _ h3)
  ·rcases List.mem_append.1 h3 with h3|h3
   ·exact Or.inl (List.mem_append_right _ (List.mem_append_left _ h3))
   ·have h4:ov'.ownBlock=some k:=by simpa using h3
    rcases p3 k h4 with h5|h5
    ·exact Or.inl (List.mem_append_right _ (by simp[FVal.owns,h5]))
    ·exact Or.inr (by have:=hb0.size;omega)
 clear hown hxs hc200 hgv;exact LJ w w0 sb gf (fb.length*6) t z _ HW.out HT HP
theorem fR.split{F:Nat→Prop}{w:World}{xs:List Value}{l m:List aI}(h:fR F w xs (l++m)):∃ys zs,xs=ys++zs∧ys.length=l.length∧zs.length=m.length∧fR F w ys l∧fR F w zs m:=by
 obtain⟨h1,h2⟩:=h;rw[List.length_append] at h1;refine⟨xs.take l.length,xs.drop l.length,(List.take_append_drop _ _).symm,by simp;omega,by simp;omega,⟨by simp;omega,fun i hi=>?_⟩,⟨by simp;omega,fun i hi=>?_⟩⟩
 ·obtain⟨u,e1,e2⟩:=h2 i (by simp;omega)
  rw[List.getElem_append_left hi] at e2;exact⟨u,by rw[List.getElem?_take,if_pos hi];exact e1,e2⟩
 ·obtain⟨u,e1,e2⟩:=h2 (l.length+i) (by simp;omega)
  rw[List.getElem_append_right (by omega)] at e2
  simp only[Nat.add_sub_cancel_left] at e2;exact⟨u,by rw[List.getElem?_drop];exact e1,e2⟩
theorem fR.unsnoc{F:Nat→Prop}{w:World}{xs:List Value}{l:List aI}{a:aI}(h:fR F w xs (l++[a])):∃ys u,xs=ys++[u]∧ys.length=l.length∧fR F w ys l∧PV F w u a:=by
 obtain⟨ys,zs,e,h1,h2,h3,h4⟩:=h.split;match zs,h2 with
 |[u],_=>
  obtain⟨u',e1,e2⟩:=h4.2 0 (by simp)
  simp at e1 e2;subst e1;exact⟨ys,u,e,h1,h3,e2⟩
theorem cO.setTop{fp:Nat→Value}{F:Nat→Prop}{base:Nat}{w:World}{sb gf cap:Nat}{t0 tv outv s0:Value}{fb:List FVal}{v v':FVal}{below:List aK}{f f':aK}{tape:List Int}{out:List (List UInt8)}{j:Nat}{x:Value}
 (h:cO fp F base w sb gf cap t0 tv outv s0 (fb++[v]) ⟨below++[f],tape,out⟩) (hj:j<6) (hv':v'.cells=v.cells.set j x) (ho:v'.owns=v.owns) (hfr:KA fp F base w v' f'):
 cO fp F base (w.setCell ⟨gf,fb.length*6+j,none⟩ x) sb gf cap t0 tv outv s0 (fb++[v']) ⟨below++[f'],tape,out⟩∧Kept (aF sb gf outv (fb++[v])) w (w.setCell ⟨gf,fb.length*6+j,none⟩ x):=by
 have hrow:=h.row;rw[show (fb++[v]).length=fb.length+1 by simp] at hrow
 obtain⟨cur,c1,_,c3⟩:=tI (j:=j) (x:=x) hrow hj;have hvm:∀k∈v.owns,k∈aF sb gf outv (fb++[v]):=fun k hk=>by simp[aF,aS,hk]
 have hgv:gf∉v.owns:=fun hm=>by
  have:=(List.nodup_cons.1 (List.nodup_cons.1 h.nodup).2).1;exact this (by simp[aS,hm])
 have hnv:v.owns.Nodup:=by
  have h1:=h.nodup;have:aF sb gf outv (fb++[v])=(sb::gf::(outv.ownBlock.toList++aS fb))++v.owns:=by simp[aF,aS]
  rw[this] at h1;exact(List.nodup_append.1 h1).2.1
 have hk:∀k,k≠gf→(w.setCell ⟨gf,fb.length*6+j,none⟩ x).heap[k]?=w.heap[k]?:=fun k hk=>Below.heap_setCell _ _ _ _ hk
 have hFk:∀b,F b→(w.setCell ⟨gf,fb.length*6+j,none⟩ x).heap[b]?=w.heap[b]?:=fun b hb=>hk b fun e=>(h.apart b hb).2 (by simp[aF,e])
 refine⟨h.step (G:=F) (by simp) (fun k _ h2 _=>hk k h2) (c3 _ (aQ c1) _ hv') (hfr.keep hFk (fun _ h=>h) fun k hm=>hk k fun e=>hgv (by rw[←ho,←e];exact hm)) (fun k hm=>?_) (by rw[ho];exact hnv) (fun _ h=>h) (fun _ h=>Or.inl h),⟨rfl,rfl,rfl,by simp,fun k _ hn=>hk k fun e=>hn (by simp[aF,e])⟩⟩
 rw[ho] at hm;exact⟨Nat.lt_of_lt_of_le (h.lt k (hvm k hm)) (by simp),Or.inl hm⟩
def Mid(fp:Nat→Value)(base sb gf n:Nat)(t0 s0:Value)(own:List Nat)(w0:World)(G:Nat→Prop)(m:cM)(w:World):Prop:=
 Kept own w0 w∧base≤w.heap.size∧∃cap tv outv fvs,fvs.length=n+1∧cO fp G base w sb gf cap t0 tv outv s0 fvs m∧∀k∈aF sb gf outv fvs,k∈own∨w0.heap.size≤k
section
variable {fp:Nat→Value} {base sb gf n:Nat} {t0 s0:Value} {own:List Nat} {w0 w w':World} {G G':Nat→Prop} {m:cM} {below:List aK} {f f':aK} {tape:List Int} {out:List (List UInt8)}
theorem Mid.init{cap:Nat}{tv outv:Value}{fvs:List FVal}(h:cO fp G base w sb gf cap t0 tv outv s0 fvs m)(hn:fvs.length=n+1)(hb:base≤w.heap.size)(ob:Obj):Mid fp base sb gf n t0 s0 (aF sb gf outv fvs) (w.alloc ob) G m (w.alloc ob):=
 ⟨Kept.refl _ _,Nat.le_trans hb (by simp),cap,tv,outv,fvs,hn,h.grow ((Below.refl _ _).alloc (Nat.le_refl _) _) (fun _ h=>h) (fun _ h=>Or.inl h),fun _ h=>Or.inl h⟩
theorem Mid.same(h:Mid fp base sb gf n t0 s0 own w0 G m w)(hs:aW w w'):Mid fp base sb gf n t0 s0 own w0 G m w':=by
 obtain⟨h1,h2,cap,tv,outv,fvs,h3,h4,h5⟩:=h;exact⟨h1.trans (Kept.of_below (own:=[]) hs.below) (fun x hx=>by simp at hx),by rw[hs.heap];exact h2,cap,tv,outv,fvs,h3,h4.grow hs.below (fun _ h=>h) (fun _ h=>Or.inl h),h5⟩
theorem Mid.grow(h:Mid fp base sb gf n t0 s0 own w0 G m w)(hb:Below w.heap.size w w')(hF:∀k,G k→G' k)(hG:∀k,G' k→G k∨(w.heap.size≤k∧k<w'.heap.size)):Mid fp base sb gf n t0 s0 own w0 G' m w':=by
 obtain⟨h1,h2,cap,tv,outv,fvs,h3,h4,h5⟩:=h;exact⟨h1.trans (Kept.of_below (own:=[]) hb) (fun x hx=>by simp at hx),Nat.le_trans h2 hb.size,cap,tv,outv,fvs,h3,h4.grow hb hF hG,h5⟩
theorem Mid.old(h:Mid fp base sb gf n t0 s0 own w0 G m w){k:Nat}(hk:k<w0.heap.size)(ho:k∉own):w.heap[k]?=w0.heap[k]?:=h.1.block k hk ho
theorem Mid.done{F:Nat→Prop}{ob:Obj}(h:Mid fp base sb gf n t0 s0 own (w.alloc ob) G m w')(hF:Ext F G w.heap.size):Done fp F base sb t0 s0 own w m w':=by
 obtain⟨h1,h2,cap,tv,outv,fvs,h3,h4,h5⟩:=h
 exact⟨(Kept.of_below (own:=own) ((Below.refl _ w).alloc (Nat.le_refl _) ob)).trans h1 (fun x hx=>Or.inl hx),G,gf,cap,tv,outv,fvs,hF,h4,fun k hk=>by
  rcases h5 k hk with h|h
  ·exact Or.inl h
  ·exact Or.inr (Nat.le_trans (by simp) h)⟩
theorem Mid.top(h:Mid fp base sb gf n t0 s0 own w0 G m w)(hn:n≤15):Calls Tryz.prog 158 #[.pointer (some ⟨sb,0,none⟩)] w fun e w'=>e=.returned (.pointer (some ⟨gf,n*6,none⟩))∧aW w w':=by
 obtain⟨h1,h2,cap,tv,outv,fvs,h3,h4,h5⟩:=h;have:=h4.blk;rw[h3] at this;refine(GF sb gf n cap w (aA this rfl) (by omega)).mono ?_
 rintro e w' ⟨he,q,rfl⟩;exact⟨he,aW.drewN _ _⟩
theorem Mid.cells(h:Mid fp base sb gf n t0 s0 own w0 G ⟨below++[f],tape,out⟩ w):∃v:FVal,KA fp G base w v f∧gf<w.heap.size∧∀j x,v.cells[j]?=some x→w.cell? ⟨gf,n*6+j,none⟩=some x∧w.frozen? ⟨gf,n*6+j,none⟩=false:=by
 obtain⟨h1,h2,cap,tv,outv,fvs,h3,h4,h5⟩:=h;obtain⟨fb,v,cur,rfl,hfl,hv,hblk,hcur,hcap,k0,k1,k2,k3,k4,k5⟩:=h4.top;have hfn:fb.length=n:=by simpa using h3
 subst hfn;refine⟨v,hv,aD hcur,fun j x hx=>?_⟩
 have hj:j<6:=(List.getElem?_eq_some_iff.1 hx).1;refine⟨aA hcur ?_,aE hcur⟩;rw[←hx];match j,hj with
 |0,_=>exact k0
 |1,_=>exact k1
 |2,_=>exact k2
 |3,_=>exact k3
 |4,_=>exact k4
 |5,_=>exact k5
theorem Mid.set(h:Mid fp base sb gf n t0 s0 own w0 G ⟨below++[f],tape,out⟩ w)(j:Nat)(x:Value)(hj:j<6)(g:FVal→FVal)(hg:∀v,(g v).cells=v.cells.set j x)(ho:∀v,KA fp G base w v f→(g v).owns=v.owns)(hfr:∀v,KA fp G base w v f→KA fp G base w (g v) f'):
 Mid fp base sb gf n t0 s0 own w0 G ⟨below++[f'],tape,out⟩ (w.setCell ⟨gf,n*6+j,none⟩ x):=by
 obtain⟨h1,h2,cap,tv,outv,fvs,h3,h4,h5⟩:=h;obtain⟨fb,v,cur,rfl,hfl,hv,_⟩:=h4.top;have hfn:fb.length=n:=by simpa using h3
 subst hfn;obtain⟨q1,q2⟩:=h4.setTop hj (hg v) (ho v hv) (hfr v hv);refine⟨h1.trans q2 h5,Nat.le_trans h2 q2.size,cap,tv,outv,_,by simp,q1,?_⟩
 rw[show aF sb gf outv (fb++[g v])=aF sb gf outv (fb++[v]) by simp[aF,aS,ho v hv]]
 exact h5
theorem Mid.push(h:Mid fp base sb gf n t0 s0 own w0 G ⟨below++[f],tape,out⟩ w){t:TypeId}{z:Value}{a:aI}(hu:PV G w (.iface t z) a)(hca:aJ a≤200)(hops:f.ops.length≤100000):Calls Tryz.prog 371 #[.pointer (some ⟨gf,n*6,none⟩),.iface t z] w fun e w'=>e=.returned (.tuple #[])∧Mid fp base sb gf n t0 s0 own w0 G ⟨below++[f.push a],tape,out⟩ w':=by
 obtain⟨h1,h2,cap,tv,outv,fvs,h3,h4,h5⟩:=h;obtain⟨fb,v,cur,rfl,hfl,hv,hblk,hcur,hcap,k0,k1,k2,k3,k4,k5⟩:=h4.top;have hfn:fb.length=n:=by simpa using h3
 subst hfn;obtain⟨⟨xs,hown,hxs⟩,hc200⟩:=hv.ops
 have hgv:v.ov.ownBlock≠some gf:=fun e=>by
  have:=(List.nodup_cons.1 (List.nodup_cons.1 h4.nodup).2).1;exact this (by simp[aS,FVal.owns,e])
 refine(vC base gf (fb.length*6) f.ops.length cur v.ov xs t z w hcur k5 hown hgv h2 (by omega)).mono ?_
 rintro e w' ⟨he,ov',p1,p2,p3,p4⟩;obtain⟨q1,q2⟩:=h4.pushed (cur:=cur) hcur hxs hu hca p1 p2 p3 p4;refine⟨he,h1.trans q2 h5,Nat.le_trans h2 q2.size,cap,tv,outv,_,by simp,q1,fun k hk'=>?_⟩
 have e1:aF sb gf outv (fb++[{ v with ov:=ov' }])=(sb::gf::(outv.ownBlock.toList++aS fb))++({ v with ov:=ov' }:FVal).owns:=by simp[aF,aS]
 have e2:aF sb gf outv (fb++[v])=(sb::gf::(outv.ownBlock.toList++aS fb))++v.owns:=by simp[aF,aS]
 rw[e1] at hk';rw[e2] at h5;rcases List.mem_append.1 hk' with h3|h3
 ·exact h5 k (List.mem_append_left _ h3)
 ·rcases List.mem_append.1 h3 with h3|h3
  ·exact h5 k (List.mem_append_right _ (List.mem_append_left _ h3))
  ·have h4:ov'.ownBlock=some k:=by simpa using h3
   rcases p3 k h4 with h6|h6
   ·exact h5 k (List.mem_append_right _ (by simp[FVal.owns,h6]))
   ·exact Or.inr (Nat.le_trans h1.size h6)
theorem Mid.popK(h:Mid fp base sb gf n t0 s0 own w0 G ⟨below++[f],tape,out⟩ w){vs:List aI}{a:aI}(hf:f.ops=vs++[a])(hops:f.ops.length≤100000):Calls Tryz.prog 171 #[.pointer (some ⟨gf,n*6,none⟩)] w fun e w'=>∃t z,e=.returned (.iface t z)∧PV G w' (.iface t z) a∧aJ a≤200∧Mid fp base sb gf n t0 s0 own w0 G ⟨below++[f.pop],tape,out⟩ w'∧∀k,G k→w'.heap[k]?=w.heap[k]?:=by
 obtain⟨h1,h2,cap,tv,outv,fvs,h3,h4,h5⟩:=h;obtain⟨fb,v,cur,rfl,hfl,hv,hblk,hcur,hcap,k0,k1,k2,k3,k4,k5⟩:=h4.top;have hfn:fb.length=n:=by simpa using h3
 subst hfn;obtain⟨⟨xs,hown,hxs⟩,hc200⟩:=hv.ops;rw[hf] at hown hxs hc200 hops;obtain⟨xs',u,rfl,hl,hxs',hu⟩:=fR.unsnoc hxs;obtain⟨t,z,rfl⟩:=hu.form;rw[List.length_append] at hown hops;refine(NC base gf (fb.length*6) vs.length cur v.ov xs' _ w hcur k5 hown hl ⟨t,z,rfl⟩ (by omega)).mono ?_
 rintro e w' ⟨rfl,ov',rfl,p2,p3⟩;have hpop:f.pop.ops=vs:=by simp[aK.pop,hf]
 have hfr:KA fp G base w { v with ov:=ov' } f.pop:=⟨hv.fn,hv.nx,hv.ln,hv.sp,hv.vars,⟨xs',by rw[hpop];exact p2,by rw[hpop];exact hxs'⟩,fun b hb=>hc200 b (List.mem_append_left _ (by rw[hpop] at hb;exact hb))⟩
 obtain⟨q1,q2⟩:=h4.setTop (j:=5) (x:=ov') (v':={ v with ov:=ov' }) (by omega) rfl (by simp[FVal.owns,p3]) hfr
 have hgf:∀k,G k→(w.setCell ⟨gf,fb.length*6+5,none⟩ ov').heap[k]?=w.heap[k]?:=fun k hk=>Below.heap_setCell _ _ _ _ fun e=>(h4.apart k hk).2 (by simp[aF,e])
 refine⟨t,z,rfl,hu.keep hgf,hc200 a (by simp),⟨h1.trans q2 h5,Nat.le_trans h2 q2.size,cap,tv,outv,_,by simp,q1,?_⟩,hgf⟩
 rw[show aF sb gf outv (fb++[{ v with ov:=ov' }])=aF sb gf outv (fb++[v]) by simp[aF,aS,FVal.owns,p3]]
 exact h5
theorem Mid.pop(h:Mid fp base sb gf n t0 s0 own w0 G ⟨below++[f],tape,out⟩ w){vs:List aI}{a:aI}(hf:f.ops=vs++[a])(hops:f.ops.length≤100000):Calls Tryz.prog 171 #[.pointer (some ⟨gf,n*6,none⟩)] w fun e w'=>∃t z,e=.returned (.iface t z)∧PV G w' (.iface t z) a∧aJ a≤200∧Mid fp base sb gf n t0 s0 own w0 G ⟨below++[f.pop],tape,out⟩ w':=by
 refine(h.popK hf hops).mono ?_;rintro e w' ⟨t,z,h1,h2,h3,h4,_⟩;exact⟨t,z,h1,h2,h3,h4⟩
end
def R5(k:Nat)(e:Ending):Prop:=(k=0∧e=.returned (.tuple #[]))∨(k≠0∧e=fE k)
theorem jI{w W:World}(h:W.heap=w.heap){k:Nat}(hk:k<w.heap.size):k<W.heap.size:=by rw[h];exact hk
theorem pS{w W:World}(h:W.heap=w.heap){a:Addr}(hc:w.frozen? a=false):W.frozen? a=false:=by
 have e:W.frozen? a=w.frozen? a:=by unfold World.frozen?;rw[h]
 rw[e];exact hc
theorem NQ(w w0:World)(sb fa fj:Nat)(P:World→Prop)(hW:w.alloc (.cells #[] 449)=w0)
 (HT:Hid (∀W,aW w0 W→Calls Tryz.prog 158 #[.pointer (some ⟨sb,0,none⟩)] W fun e w'=>e=.returned (.pointer (some ⟨fa,fj,none⟩))∧aW w0 w'))
 (HP:Hid (∀W,aW w0 W→Calls Tryz.prog 171 #[.pointer (some ⟨fa,fj,none⟩)] W fun e w'=>∃t z,e=.returned (.iface t z)∧P w')):
 Calls Tryz.prog 410 #[.agg #[],.pointer (some ⟨sb,0,none⟩)] w fun e w'=>e=.returned (.tuple #[])∧P w':=by
 have HW:=aB hW;clear hW;go_enter Tryz.func410,Tryz.ntmps410;go_wp2_with fail;rw[HW.out];refine(HT.out _ (aW.refl _)).mono ?_;rintro e w1 ⟨rfl,hs1⟩;go_wp2_with fail;refine(HP.out _ hs1).mono ?_;rintro e w2 ⟨t,z,rfl,h2⟩;go_wp2_with fail;go_end0;exact⟨rfl,h2⟩
theorem GE(w w0:World)(sb fa fj:Nat)(P S:World→Prop)(Q1:TypeId→Value→World→Prop)(Q2:Bool→World→Prop)(hW:w.alloc (.cells #[] 436)=w0)
 (HT:Hid (∀W,aW w0 W→Calls Tryz.prog 158 #[.pointer (some ⟨sb,0,none⟩)] W fun e w'=>e=.returned (.pointer (some ⟨fa,fj,none⟩))∧aW w0 w'))
 (HP:Hid (∀W,aW w0 W→Calls Tryz.prog 171 #[.pointer (some ⟨fa,fj,none⟩)] W fun e w'=>∃t z,e=.returned (.iface t z)∧Q1 t z w'))
 (HV:Hid (∀W t z,Q1 t z W→Calls Tryz.prog 385 #[.iface t z] W fun e w'=>(∃b,e=.returned (.bool b)∧Q2 b w')∨(e=fE 2∧S w')))
 (HU:Hid (∀W b,Q2 b W→Calls Tryz.prog 371 #[.pointer (some ⟨fa,fj,none⟩),.iface 316 (.bool b)] W fun e w'=>e=.returned (.tuple #[])∧P w')):
 Calls Tryz.prog 396 #[.agg #[],.pointer (some ⟨sb,0,none⟩)] w fun e w'=>(e=.returned (.tuple #[])∧P w')∨(e=fE 2∧S w'):=by
 have HW:=aB hW;clear hW;go_enter Tryz.func396,Tryz.ntmps396;go_wp2_with fail;rw[HW.out];refine(HT.out _ (aW.refl _)).mono ?_;rintro e w1 ⟨rfl,hs1⟩;go_wp2_with fail;refine(HP.out _ hs1).mono ?_;rintro e w2 ⟨t,z,rfl,h2⟩;have h3:=aB (HV.out _ t z h2);clear h2;go_wp2_with fail;refine h3.out.mono ?_;rintro e w3 (⟨b,rfl,h3⟩|⟨rfl,h3⟩)
 ·have h4:=aB (HU.out _ b h3);clear h3;go_wp2_with fail;refine h4.out.mono ?_;rintro e w4 ⟨rfl,h4⟩;go_wp2_with fail;go_end0;exact Or.inl ⟨rfl,h4⟩
 ·go_wp2_with fail;exact⟨rfl,Or.inr ⟨rfl,h3⟩⟩
theorem CF(w w0:World)(sb fa fj tg:Nat)(P S:World→Prop)(Q1:TypeId→Value→World→Prop)(Q2:Bool→World→Prop)(hW:w.alloc (.cells #[.int .i64 tg] 461)=w0)
 (HT:Hid (∀W,aW w0 W→Calls Tryz.prog 158 #[.pointer (some ⟨sb,0,none⟩)] W fun e w'=>e=.returned (.pointer (some ⟨fa,fj,none⟩))∧aW w0 w'))
 (HP:Hid (∀W,aW w0 W→Calls Tryz.prog 171 #[.pointer (some ⟨fa,fj,none⟩)] W fun e w'=>∃t z,e=.returned (.iface t z)∧Q1 t z w'))
 (HV:Hid (∀W t z,Q1 t z W→Calls Tryz.prog 385 #[.iface t z] W fun e w'=>(∃b,e=.returned (.bool b)∧Q2 b w')∨(e=fE 2∧S w')))
 (HQ:Hid (∀W,Q2 true W→P W)) (HN:Hid (∀W,Q2 false W→P (W.setCell ⟨fa,fj+1,none⟩ (.int .i64 tg))))
 (HB:Hid (∀W b,Q2 b W→W.cell? ⟨w.heap.size,0,none⟩=some (.int .i64 tg)∧w.heap.size<W.heap.size∧(∃u,W.cell? ⟨fa,fj+1,none⟩=some u)∧W.frozen? ⟨fa,fj+1,none⟩=false∧fa<W.heap.size)):
 Calls Tryz.prog 411 #[.agg #[.int .i64 tg],.pointer (some ⟨sb,0,none⟩)] w fun e w'=>(e=.returned (.tuple #[])∧P w')∨(e=fE 2∧S w'):=by
 have HW:=aB hW;clear hW;go_enter Tryz.func411,Tryz.ntmps411;go_wp2_with fail;rw[HW.out];refine(HT.out _ (aW.refl _)).mono ?_;rintro e w1 ⟨rfl,hs1⟩;go_wp2_with fail;refine(HP.out _ hs1).mono ?_;rintro e w2 ⟨t,z,rfl,h2⟩;have h3:=aB (HV.out _ t z h2);clear h2;go_wp2_with fail;refine h3.out.mono ?_;rintro e w3 (⟨b,rfl,h3⟩|⟨rfl,h3⟩)
 ·obtain⟨c1,c2,⟨u,c3⟩,c4,c5⟩:=HB.out _ b h3;cases b with
  |false=>
   have h4:=aB (HN.out _ h3);clear h3;go_wp2_with fail;go_end0;exact Or.inl ⟨rfl,h4.out⟩
  |true=>
   have h4:=aB (HQ.out _ h3);clear h3;go_wp2_with fail;go_end0;exact Or.inl ⟨rfl,h4.out⟩
 ·go_wp2_with fail;exact⟨rfl,Or.inr ⟨rfl,h3⟩⟩
theorem MP(w w0:World)(sb fa fj tg:Nat)(P:World→Prop)(hW:w.alloc (.cells #[.int .i64 tg] 462)=w0)
 (HT:Hid (∀W,aW w0 W→Calls Tryz.prog 158 #[.pointer (some ⟨sb,0,none⟩)] W fun e w'=>e=.returned (.pointer (some ⟨fa,fj,none⟩))∧aW w0 w'))
 (hc:∃u,w0.cell? ⟨fa,fj+1,none⟩=some u) (hf:w0.frozen? ⟨fa,fj+1,none⟩=false) (hl:fa<w0.heap.size)
 (HN:Hid (∀W,aW w0 W→P (W.setCell ⟨fa,fj+1,none⟩ (.int .i64 tg)))):
 Calls Tryz.prog 412 #[.agg #[.int .i64 tg],.pointer (some ⟨sb,0,none⟩)] w fun e w'=>e=.returned (.tuple #[])∧P w':=by
 have hbox:(w.alloc (.cells #[.int .i64 tg] 462)).heap[w.heap.size]?=some (.cells #[.int .i64 tg] 462 (0,0)):=aR _ _ rfl _;rw[hW] at hbox;have HW:=aB hW;have c0:w0.cell? ⟨w.heap.size,0,none⟩=some (.int .i64 tg):=aA hbox rfl;have HC0:=aB c0;have hlt:=aD hbox;obtain⟨u,hc⟩:=hc;have HC:=aB hc;have HF:=aB hf;clear hW hbox hc hf;go_enter Tryz.func412,Tryz.ntmps412;go_wp2_with fail;rw[HW.out];go_region_law (go_simp;go_at_call 158;refine(HT.out _ (aW.drew _)).mono ?_;rintro e w1 ⟨rfl,hs1⟩;have c1:=cQ hs1.heap HC0.out;have c2:=cQ hs1.heap HC.out;have c3:=pS hs1.heap HF.out;have hl1:=jI hs1.heap hlt;have hl2:=jI hs1.heap hl)
 all_goals
  go_wp2_with fail;go_end0;exact⟨rfl,HN.out _ hs1⟩
end Go.Proofs.YtblbkfdhjfppkaaGreatDoor
