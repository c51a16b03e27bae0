/- Plain facts: a text's characters, as the library decodes and encodes them. -/
import Derived.Test.YtblbkfdhjfppkaaGreatDoorPart07
import Derived.Test.YtblbkfdhjfppkaaGreatDoorPart12
import Derived.Laws.IdiomStrings
import Derived.Lib.RuneCount
import Derived.Test.YtblbkfdhjfppkaaGreatDoorPart10
import Derived.Defers
import Derived.Recover
import Derived.Laws.OwnMore
import Derived.Test.YtblbkfdhjfppkaaGreatDoorPart05
set_option maxRecDepth 100000
set_option maxHeartbeats 4000000
namespace Go.Proofs.YtblbkfdhjfppkaaGreatDoor
open Hs
theorem XA(s:ByteArray)(k i lo hi:Nat):cY (s.data.toList.drop k) i lo hi=decide (i<s.size-k∧lo≤(s.get! (k+i)).toNat∧(s.get! (k+i)).toNat≤hi):=by
 unfold cY;rw[List.getElem?_drop];by_cases h:k+i<s.size
 ·have e:s.data.toList[k+i]?=some s[k+i]:=by simp[h];rfl
  rw[e,nH s (k+i) h];have h':i<s.size-k:=by omega
  simp[h']
 ·have e:s.data.toList[k+i]?=none:=List.getElem?_eq_none (by simpa using (by omega:s.size≤k+i))
  rw[e];have h':¬i<s.size-k:=by omega
  simp[h']
theorem YB(s:ByteArray)(k:Nat)(h:k<s.size):bD (s.data.toList.drop k)=mG (s.size-k) (s.get! k).toNat (s.get! (k+1)).toNat (s.get! (k+2)).toNat (s.get! (k+3)).toNat:=by
 unfold bD mG;have e:(s.data.toList.drop k)[0]?=some s[k]:=by rw[List.getElem?_drop];simp[h];rfl
 rw[e,←nH s k h];simp only[XA,Bool.and_eq_true,decide_eq_true_eq]
def BG(r:Nat):List UInt8:=(Utf8.encode (Int.ofNat r)).data.toList
theorem yK(r:Nat)(h:r<55296∨(57344≤r∧r≤1114111)):BG r=if r<128 then [UInt8.ofNat r] else if r<2048 then [UInt8.ofNat (192+r/64),UInt8.ofNat (128+r%64)] else if r<65536 then [UInt8.ofNat (224+r/4096),UInt8.ofNat (128+r/64%64),UInt8.ofNat (128+r%64)]
 else [UInt8.ofNat (240+r/262144),UInt8.ofNat (128+r/4096%64),UInt8.ofNat (128+r/64%64),UInt8.ofNat (128+r%64)]:=by
 have hv:Utf8.valid (Int.ofNat r)=true:=by
  unfold Utf8.valid;simp only[Bool.or_eq_true,Bool.and_eq_true,decide_eq_true_eq,Int.ofNat_eq_natCast];omega
 have hc:(if Utf8.valid (Int.ofNat r) then (Int.ofNat r).toNat else Utf8.runeError)=r:=by rw[if_pos hv];rfl
 unfold BG Utf8.encode;simp only[hc];repeat' split
 all_goals rfl
theorem M3(n b0 b1 b2 b3:Nat)(h0:b0<256)(hc:mG n b0 b1 b2 b3≠0):
 (Lib.decodeN n b0 b1 b2 b3).2=mG n b0 b1 b2 b3∧(Lib.decodeN n b0 b1 b2 b3).1≤1114111∧BG (Lib.decodeN n b0 b1 b2 b3).1=([b0,b1,b2,b3].take (mG n b0 b1 b2 b3)).map UInt8.ofNat:=by
 have a1:b0/32=6↔192≤b0∧b0≤223:=by omega
 have a2:b0/16=14↔224≤b0∧b0≤239:=by omega
 have a3:b0/8=30↔240≤b0∧b0≤247:=by omega
 unfold mG at hc ⊢
 unfold Lib.decodeN;by_cases c1:b0<128
 ·simp only[if_pos c1];refine⟨trivial,by omega,?_⟩
  rw[yK _ (by omega),if_pos c1];rfl
 simp only[if_neg c1] at hc ⊢
 by_cases c2:194≤b0∧b0≤223
 ·rw[if_pos c2] at hc ⊢
  by_cases d2:1<n∧128≤b1∧b1≤191
  ·rw[if_pos d2] at hc ⊢
   rw[if_pos ⟨a1.2 (by omega),d2.1,by omega⟩,if_pos (by omega)]
   refine⟨rfl,by omega,?_⟩
   rw[yK _ (by omega),if_neg (by omega),if_pos (by omega)]
   simp only[List.take_succ_cons,List.take_zero,List.map_cons,List.map_nil];rw[show 192+(b0%32*64+b1%64)/64=b0 by omega,show 128+(b0%32*64+b1%64)%64=b1 by omega]
  ·rw[if_neg d2] at hc;exact absurd rfl hc
 rw[if_neg c2] at hc ⊢
 by_cases c3:224≤b0∧b0≤239
 ·rw[if_pos c3] at hc ⊢
  by_cases d3:(1<n∧(if b0=224 then 160 else 128)≤b1∧b1≤(if b0=237 then 159 else 191))∧(2<n∧128≤b2∧b2≤191)
  ·rw[if_pos d3] at hc ⊢
   have l1:128≤b1:=by have:=d3.1.2.1;split at this<;>omega
   have l2:b1≤191:=by have:=d3.1.2.2;split at this<;>omega
   have l3:b0=224→160≤b1:=fun e=>by have:=d3.1.2.1;rw[if_pos e] at this;exact this
   have l4:b0=237→b1≤159:=fun e=>by have:=d3.1.2.2;rw[if_pos e] at this;exact this
   rw[if_neg (fun h=>by have:=a1.1 h.1;omega),if_pos ⟨a2.2 c3,⟨d3.1.1,by omega⟩,d3.2.1,by omega⟩]
   have hr:2048≤b0%16*4096+b1%64*64+b2%64:=by
    rcases Nat.eq_or_lt_of_le c3.1 with e|e
    ·have:=l3 e.symm;omega
    ·omega
   have hs:b0%16*4096+b1%64*64+b2%64<55296∨(57344≤b0%16*4096+b1%64*64+b2%64∧b0%16*4096+b1%64*64+b2%64≤1114111):=by
    by_cases e:b0=237
    ·have:=l4 e;omega
    ·omega
   rw[if_pos ⟨hr,by omega⟩]
   refine⟨rfl,by omega,?_⟩
   rw[yK _ hs,if_neg (by omega),if_neg (by omega),if_pos (by omega)]
   simp only[List.take_succ_cons,List.take_zero,List.map_cons,List.map_nil];rw[show 224+(b0%16*4096+b1%64*64+b2%64)/4096=b0 by omega,show 128+(b0%16*4096+b1%64*64+b2%64)/64%64=b1 by omega,show 128+(b0%16*4096+b1%64*64+b2%64)%64=b2 by omega]
  ·rw[if_neg d3] at hc;exact absurd rfl hc
 rw[if_neg c3] at hc ⊢
 by_cases c4:240≤b0∧b0≤244
 ·rw[if_pos c4] at hc ⊢
  by_cases d4:((1<n∧(if b0=240 then 144 else 128)≤b1∧b1≤(if b0=244 then 143 else 191))∧(2<n∧128≤b2∧b2≤191))∧(3<n∧128≤b3∧b3≤191)
  ·rw[if_pos d4] at hc ⊢
   have l1:128≤b1:=by have:=d4.1.1.2.1;split at this<;>omega
   have l2:b1≤191:=by have:=d4.1.1.2.2;split at this<;>omega
   have l3:b0=240→144≤b1:=fun e=>by have:=d4.1.1.2.1;rw[if_pos e] at this;exact this
   have l4:b0=244→b1≤143:=fun e=>by have:=d4.1.1.2.2;rw[if_pos e] at this;exact this
   rw[if_neg (fun h=>by have:=a1.1 h.1;omega),if_neg (fun h=>by have:=a2.1 h.1;omega),if_pos ⟨a3.2 (by omega),⟨d4.1.1.1,by omega⟩,⟨d4.1.2.1,by omega⟩,d4.2.1,by omega⟩]
   have hr:65536≤b0%8*262144+b1%64*4096+b2%64*64+b3%64:=by
    rcases Nat.eq_or_lt_of_le c4.1 with e|e
    ·have:=l3 e.symm;omega
    ·omega
   have hs:b0%8*262144+b1%64*4096+b2%64*64+b3%64≤1114111:=by
    rcases Nat.eq_or_lt_of_le c4.2 with e|e
    ·have:=l4 e;omega
    ·omega
   rw[if_pos ⟨hr,by omega⟩]
   refine⟨rfl,hs,?_⟩;rw[yK _ (by omega),if_neg (by omega),if_neg (by omega),if_neg (by omega)]
   simp only[List.take_succ_cons,List.take_zero,List.map_cons,List.map_nil];rw[show 240+(b0%8*262144+b1%64*4096+b2%64*64+b3%64)/262144=b0 by omega,show 128+(b0%8*262144+b1%64*4096+b2%64*64+b3%64)/4096%64=b1 by omega,show 128+(b0%8*262144+b1%64*4096+b2%64*64+b3%64)/64%64=b2 by omega,show 128+(b0%8*262144+b1%64*4096+b2%64*64+b3%64)%64=b3 by omega]
  ·rw[if_neg d4] at hc;exact absurd rfl hc
 ·rw[if_neg c4] at hc;exact absurd rfl hc
theorem NZ(s:ByteArray)(k:Nat)(h:k<s.size)(hc:bD (s.data.toList.drop k)≠0):
 (Utf8.decode s k).2=bD (s.data.toList.drop k)∧(Utf8.decode s k).1≤1114111∧BG (Utf8.decode s k).1=(s.data.toList.drop k).take (bD (s.data.toList.drop k)):=by
 have hle:= @jJ (s.data.toList.drop k);rw[YB s k h] at hc hle ⊢
 obtain⟨e1,e2,e3⟩:=M3 (s.size-k) (s.get! k).toNat (s.get! (k+1)).toNat (s.get! (k+2)).toNat (s.get! (k+3)).toNat (UInt8.toNat_lt _) hc;rw[Lib.decode_at];refine⟨e1,e2,e3.trans ?_⟩;generalize hk:mG (s.size-k) (s.get! k).toNat (s.get! (k+1)).toNat (s.get! (k+2)).toNat (s.get! (k+3)).toNat=c at*
 have h4:c≤4:=by rw[←hk];unfold mG;repeat' split
                 all_goals omega
 have hl:(s.data.toList.drop k).length=s.size-k:=by simp
 refine List.ext_getElem? fun i=>?_
 rw[List.getElem?_map,List.getElem?_take,List.getElem?_take];by_cases hi:i<c
 ·rw[if_pos hi,if_pos hi,List.getElem?_drop];have hki:k+i<s.size:=by omega
  have e:s.data.toList[k+i]?=some (s.get! (k+i)):=by rw[nH s (k+i) hki];simp[hki];rfl
  rw[e];match i,hi with
  |0,_=>simp
  |1,_=>simp
  |2,_=>simp
  |3,_=>simp
  |j+4,hi=>omega
 ·rw[if_neg hi,if_neg hi];rfl
theorem wM(s:ByteArray):∀(f k:Nat),s.size-k≤f→cL (s.data.toList.drop k)→Lib.runeCountFrom s f k=(dO (s.data.toList.drop k)).length
 |0,k,hf,_=>by
  rw[dL (Or.inl (List.drop_eq_nil_of_le (by simp;omega)))];rfl
 |f+1,k,hf,ht=>by
  unfold Lib.runeCountFrom;by_cases h:k<s.size
  ·have hne:s.data.toList.drop k≠[]:=fun e=>by have:=congrArg List.length e;simp at this;omega
   obtain⟨h1,h2⟩:=ht.ne hne;obtain⟨e1,_,_⟩:=NZ s k h h1;rw[if_pos h,e1,gP hne h1,List.length_cons];rw[List.drop_drop] at h2 ⊢
   rw[wM s f (k+bD (s.data.toList.drop k)) (by omega) h2]
   omega
  ·rw[if_neg h,dL (Or.inl (List.drop_eq_nil_of_le (by simp;omega)))];rfl
theorem wA(s:ByteArray):∀(f k:Nat) (acc:Array Value),s.size-k≤f→cL (s.data.toList.drop k)→
 ∃rs:List Nat,Conv.runesFrom s f k acc=acc++(rs.map fun r=>Value.int .i32 (Int.ofNat r)).toArray∧rs.length=(dO (s.data.toList.drop k)).length∧(∀r∈rs,r≤1114111)∧rs.map BG=dO (s.data.toList.drop k)
 |0,k,acc,hf,_=>⟨[],by simp[Conv.runesFrom],by
    rw[dL (Or.inl (List.drop_eq_nil_of_le (by simp;omega)))];rfl,by simp,by
    rw[dL (Or.inl (List.drop_eq_nil_of_le (by simp;omega)))];rfl⟩
 |f+1,k,acc,hf,ht=>by
  by_cases h:k<s.size
  ·have hne:s.data.toList.drop k≠[]:=fun e=>by have:=congrArg List.length e;simp at this;omega
   obtain⟨h1,h2⟩:=ht.ne hne;obtain⟨e1,e2,e3⟩:=NZ s k h h1;rw[List.drop_drop] at h2;obtain⟨rs,q1,q2,q3,q4⟩:=wA s f (k+bD (s.data.toList.drop k)) (acc.push (.int .i32 (Int.ofNat (Utf8.decode s k).1))) (by omega) h2
   refine⟨(Utf8.decode s k).1::rs,?_,?_,?_,?_⟩
   ·unfold Conv.runesFrom;rw[if_pos h];simp only[e1];rw[q1];simp
   ·rw[gP hne h1,List.length_cons,List.length_cons,List.drop_drop,q2]
   ·intro r hr;rcases List.mem_cons.1 hr with rfl|hr
    ·exact e2
    ·exact q3 r hr
   ·rw[gP hne h1,List.map_cons,List.drop_drop,q4,e3]
  ·refine⟨[],?_,?_,by simp,?_⟩
   ·unfold Conv.runesFrom;rw[if_neg h];simp
   all_goals rw[dL (Or.inl (List.drop_eq_nil_of_le (by simp;omega)))];rfl
open Go.RowKit
theorem ZU(F:Nat→Prop)(v:Value)(a:aI)(w:World)(h:PV F w v a)(hu:bM a)(hc:aJ a≤1000000):Calls Tryz.prog 399 #[v] w (eH F w (dT a)):=by
 rcases h.cases with ⟨m,rfl,rfl,h1,h2⟩|⟨b,rfl,rfl⟩|⟨s,rfl,rfl⟩|⟨x,c,l,rfl,rfl,hl⟩
 ·have q:=iG;have q':=lU;have hr:dT (bB m)=(bK,2):=rfl;rw[hr];clear h hu hc;go_enter Tryz.func399,Tryz.ntmps399;go_wp2_with fail;exact⟨rfl,eH.stop (Below.refl _ _) rfl (by decide)⟩
 ·have q:=gE;have q':=jP;have hr:dT (bL b)=(bK,2):=rfl;rw[hr];clear h hu hc;go_enter Tryz.func399,Tryz.ntmps399;go_wp2_with fail;exact⟨rfl,eH.stop (Below.refl _ _) rfl (by decide)⟩
 ·have q:=jN;have q':=jK;have ht:cL s:=hu.txt;have hr:dT (bH s)=(bB (dO s).length,0):=rfl;have hs:(bs s).size=s.length:=gX s;rw[jX] at hc;have hlen:=rK s
  have hcn:Lib.runeCount (bs s)=(dO s).length:=by
   unfold Lib.runeCount;have hd:(bs s).data.toList=s:=by simp[iV]
   rw[wM (bs s) (bs s).size 0 (by omega) (by rw[hd];exact ht),hd];rfl
  have HX:=aB (Tryz.utf8_RuneCountInString (bs s) w (by omega))
  rw[hcn] at HX;rw[hr];clear h hu hcn;go_enter Tryz.func399,Tryz.ntmps399;go_wp2_with fail;refine HX.out.mono ?_;rintro e w1 ⟨rfl,pos,hw1⟩;have hb:Below w.heap.size w w1:=by rw[hw1];exact(Below.refl _ w).alloc (Nat.le_refl _) _
  clear hw1;go_wp2_with fail;go_ret;exact eH.ok hb rfl (PV.num _ _ _ (by omega) (by omega))
 ·have q:=gD;have hr:dT (aU l)=(bB l.length,0):=rfl;have hlen:=iS l;rw[iC] at hc;rw[hr];clear h hu hl;go_enter Tryz.func399,Tryz.ntmps399;go_wp2_with fail;go_ret;exact eH.ok (Below.refl _ _) rfl (PV.num _ _ _ (by omega) (by omega))
theorem ZV(F:Nat→Prop)(x:Option Addr)(c:Nat)(l:List aI)(v:Value)(b:aI)(w:World)(hl:PVs F w (.slice x l.length c) l)(hv:PV F w v b)(hc:l.length≤1000000):Calls Tryz.prog 381 #[.iface 319 (.slice x l.length c),v] w (eH F w (cV (aU l) b)):=by
 have q:=gD;have HX:=aB (sE F v b l.length w hv (by omega))
 obtain⟨t,z,rfl⟩:=hv.form;have HL:=aB hl
 have hr:cV (aU l) b=if b.sort≠0 then (bK,2) else if b.n<0∨(l.length:Int)≤b.n then (bK,4) else (l.getD b.n.toNat bK,0):=by
  simp[cV,iP,aU]
 have HR:=aB hr;generalize cV (aU l) b=r at HR;clear hv hl hr;go_enter Tryz.func381,Tryz.ntmps381;go_wp2_with fail;refine HX.out.mono ?_;rintro e w1 ⟨rfl,⟨h1,rfl⟩|⟨h1,h2,rfl⟩|⟨h1,k,h2,h3,rfl⟩⟩
 ·go_wp2_with fail;exact⟨rfl,eH.stop (Below.refl _ _) (HR.out.trans (if_pos h1)) (by decide)⟩
 ·go_wp2_with fail;exact⟨rfl,eH.stop (Below.refl _ _) (HR.out.trans ((if_neg (fun h=>h h1)).trans (if_pos h2))) (by decide)⟩
 ·obtain⟨g,u,rfl,_,hF,hg,hcap,hcell,hu⟩:=HL.out.get k h2;obtain⟨t',z',rfl⟩:=hu.form;have HU:=aB hu;have hget:l.getD b.n.toNat bK=l[k]:=by rw[h3];simp[h2]
  have hres:r=(l[k],0):=by rw[HR.out,if_neg (fun h=>h h1),if_neg (by omega),hget]
  have HRes:=aB hres;have e1:(0:Int)≤(k:Int):=by omega
  have e2:(k:Int)<(l.length:Int):=by omega
  clear hu hget hres HL HX;go_wp2_with fail;go_ret;exact eH.ok (Below.refl _ _) HRes.out (HU.out.mono fun k hk=>Or.inl hk)
theorem XW(r:Nat)(W:World):(convert 21 318 (.int .i32 (r:Int))).run Tryz.prog W=.ok (.string (bs (BG r))) W:=by
 have henc:Utf8.encode (Int.ofNat r)=bs (BG r):=by
  have:∀x:ByteArray,x=bs x.data.toList:=fun x=>by cases x;simp[bs]
  exact this _
 rw[Int.ofNat_eq_natCast] at henc;simp[convert,run_underlying Tryz.underlying21,run_underlying Tryz.underlying318,Conv.intToString,henc]
theorem J2(F:Nat→Prop)(s:List UInt8)(v:Value)(b:aI)(w:World)(hv:PV F w v b)(ht:cL s)(hc:s.length≤1000000)(hF:∀k,F k→k<w.heap.size):Calls Tryz.prog 381 #[.iface 318 (.string (bs s)),v] w (eH F w (cV (bH s) b)):=by
 have q:=jN;have q':=jK;have hs:(bs s).size=s.length:=gX s;have hd:(bs s).data.toList=s:=by simp[iV]
 obtain⟨rs,r1,r2,r3,r4⟩:=wA (bs s) (bs s).size 0 #[] (by omega) (by rw[hd];exact ht)
 rw[List.drop_zero,hd] at r2 r4;have hsz:(Conv.runesFrom (bs s) (bs s).size 0 #[]).size=rs.length:=by rw[r1];simp
 have hcl:=rK s;have hconv:=run_runes_of_string (P:=Tryz.prog) w 318 498 21 (bs s) Tryz.underlying318 Tryz.underlying498 Tryz.underlying21 (by rw[hsz];omega)
 rw[hsz,r1] at hconv;generalize grownCap w rs.length 0 21=cp at hconv;generalize hob:(Obj.cells ((#[]++(rs.map fun r=>Value.int .i32 (Int.ofNat r)).toArray)++Array.replicate (cp-rs.length) (.int .i32 0)) 21)=ob at hconv
 have hcell:∀k (h:k<rs.length),(w.drew.alloc ob).cell? ⟨w.heap.size,k,none⟩=some (.int .i32 ((rs[k]:Nat):Int)):=fun k h=>by
  rw[←hob];refine aA (aR _ _ rfl _) ?_;rw[Array.getElem?_append_left (by simpa using h)]
  simp[h]
 have hb:Below w.heap.size w (w.drew.alloc ob):=((Below.refl _ w).drew).alloc (Nat.le_refl _) _;have HX:=aB (sE F v b rs.length (w.drew.alloc ob) (hv.keep fun k hk=>hb.block k (hF k hk)) (by omega))
 obtain⟨t,z,rfl⟩:=hv.form
 have hr:cV (bH s) b=if b.sort≠0 then (bK,2) else if b.n<0∨(rs.length:Int)≤b.n then (bK,4) else (((dO s).map bH).getD b.n.toNat bK,0):=by
  rw[r2];simp[cV,iP,bH]
 have HR:=aB hr;have hrn:rs.length≤1000000:=by omega
 have R2:=aB r2;have R4:=aB r4;have HC:=aB hcell;have HB:=aB hb;generalize cV (bH s) b=r at HR;generalize hw1:w.drew.alloc ob=w1 at hconv HX HC HB;have hcl1:w.heap.size<w1.heap.size:=by rw[←hw1];simp
 clear hv hr hcell hb hw1 hob r1 hsz hd r2 r4 hcl;go_enter Tryz.func381,Tryz.ntmps381;go_wp2_with fail;refine HX.out.mono ?_;rintro e w2 ⟨rfl,⟨h1,rfl⟩|⟨h1,h2,rfl⟩|⟨h1,k,h2,h3,rfl⟩⟩
 ·go_wp2_with fail;exact⟨rfl,eH.stop HB.out (HR.out.trans (if_pos h1)) (by decide)⟩
 ·go_wp2_with fail;exact⟨rfl,eH.stop HB.out (HR.out.trans ((if_neg (fun h=>h h1)).trans (if_pos h2))) (by decide)⟩
 ·have hce:=HC.out k h2;have r2:=R2.out;have r4:=R4.out
  have hre:BG rs[k]=(dO s)[k]'(by omega):=by
   have:(rs.map BG)[k]?=(dO s)[k]?:=by rw[r4]
   rw[List.getElem?_map,List.getElem?_eq_getElem h2,List.getElem?_eq_getElem (by omega)] at this
   simpa using this
  have hget:((dO s).map bH).getD b.n.toNat bK=bH (BG rs[k]):=by
   rw[hre,h3];have hk':k<(dO s).length:=by omega
   simp[hk']
  have hres:r=(bH (BG rs[k]),0):=by rw[HR.out,if_neg (fun h=>h h1),if_neg (by omega),hget]
  have hcv:=XW rs[k] w2;have HRes:=aB hres;have e1:(0:Int)≤(k:Int):=by omega
  have e2:(k:Int)<(rs.length:Int):=by omega
  clear hget hres hre HX HC r2 r4;generalize rs[k]=rk at*;go_wp2_with fail;go_ret;exact eH.ok HB.out HRes.out (PV.str _ _ _)
theorem J3(F:Nat→Prop)(u v:Value)(a b:aI)(w:World)(hu:PV F w u a)(hv:PV F w v b)(ht:bM a)(hc:aJ a≤1000000)(hF:∀k,F k→k<w.heap.size):Calls Tryz.prog 381 #[u,v] w (eH F w (cV a b)):=by
 rcases hu.cases with ⟨m,rfl,rfl,h1,h2⟩|⟨x,rfl,rfl⟩|⟨s,rfl,rfl⟩|⟨x,c,l,rfl,rfl,hl⟩
 ·have q:=iG;have q':=lU;have hr:cV (bB m) b=(bK,2):=by simp[cV,bB]
  rw[hr];obtain⟨t,z,rfl⟩:=hv.form;clear hu hv ht hc hF hr;go_enter Tryz.func381,Tryz.ntmps381;go_wp2_with fail;exact⟨rfl,eH.stop (Below.refl _ _) rfl (by decide)⟩
 ·have q:=gE;have q':=jP;have hr:cV (bL x) b=(bK,2):=by simp[cV,bL]
  rw[hr];obtain⟨t,z,rfl⟩:=hv.form;clear hu hv ht hc hF hr;go_enter Tryz.func381,Tryz.ntmps381;go_wp2_with fail;exact⟨rfl,eH.stop (Below.refl _ _) rfl (by decide)⟩
 ·rw[jX] at hc;exact J2 F s v b w hv ht.txt (by omega) hF
 ·rw[iC] at hc;have:=iS l;exact ZV F x c l v b w hl hv (by omega)
theorem OG:∀(n:Nat) (l:List UInt8),l.length≤n→∀c∈dO l,c.length≤l.length:=by
 intro n;induction n with
 |zero=>
  intro l hl c hc;rw[dL (Or.inl (List.length_eq_zero_iff.1 (by omega)))] at hc
  cases hc
 |succ n ih=>
  intro l hl c hc;by_cases h1:l=[]
  ·rw[dL (Or.inl h1)] at hc;cases hc
  by_cases h2:bD l=0
  ·rw[dL (Or.inr h2)] at hc;cases hc
  rw[gP h1 h2] at hc;rcases List.mem_cons.1 hc with rfl|hc
  ·rw[List.length_take];omega
  ·have:=ih _ (by rw[List.length_drop];omega) c hc
   rw[List.length_drop] at this;omega
theorem MR(a b:aI)(h:aJ a≤200):aJ (cV a b).1≤200:=by
 unfold cV;split
 ·exact iN
 split
 ·exact iN
 have hp:∀x∈iP a,aJ x≤200:=fun x hx=>by
  unfold iP at hx;rw[eN] at h;split at hx
  ·obtain⟨c,hc,rfl⟩:=List.mem_map.1 hx;have:=OG _ _ (Nat.le_refl _) c hc;rw[jX];omega
  ·have:=kU hx;omega
 show aJ ((iP a).getD b.n.toNat bK)≤200
 rw[List.getD_eq_getElem?_getD];cases hk:(iP a)[b.n.toNat]? with
 |none=>exact iN
 |some x=>exact hp x (List.mem_of_getElem? hk)
theorem IQ(a:aI):aJ (dT a).1≤200:=by
 unfold dT;repeat' split
 all_goals first|(show aJ (bB _)≤200;rw[jL];omega)|exact iN
section
variable {fp:Nat→Value} {F:Nat→Prop} {base:Nat} {w:World} {sb gf cap:Nat} {t0 tv outv s0:Value} {fvs:List FVal} {below:List aK} {f:aK} {tape:List Int} {out:List (List UInt8)}
theorem C7(h:cO fp F base w sb gf cap t0 tv outv s0 fvs ⟨below++[f],tape,out⟩)(hbel:below.length≤15)(hbase:base≤w.heap.size)(hops:f.ops.length≤99000)(hne:∃vs a b,f.ops=vs++[a,b]∧bM a):
 Calls Tryz.prog 380 #[.agg #[],.pointer (some ⟨sb,0,none⟩)] w (mZ fp F base sb t0 s0 (aF sb gf outv fvs) w below tape out (aN .index f)):=by
 obtain⟨vs,a,b,hf,hut⟩:=hne;have hf:f.ops=(vs++[a])++[b]:=by rw[hf];simp
 have hM:=h.mid hbase (.cells #[] 405);have hf2:f.pop.ops=vs++[a]:=lK hf;have hlen:=hops;rw[hf,List.length_append,List.length_append] at hlen;have hl1:f.pop.ops.length≤100000:=by rw[hf2,List.length_append];omega
 have hl2:f.pop.pop.ops.length≤100000:=by rw[lK hf2];omega
 have hr:aN .index f=if (cV a b).2=0 then (f.pop.pop.push (cV a b).1,0) else (f.pop.pop,(cV a b).2):=by simp[aN,iF hf,iF hf2]
 have hcl:aJ a≤200→aJ (cV a b).1≤200:=MR a b;have hbi:∀(W:World) (u v:Value),PV F W u a→PV F W v b→(∀k,F k→k<W.heap.size)→aJ a≤200→aJ b≤200→Calls Tryz.prog 381 #[u,v] W (eH F W (cV a b)):=fun W u v h1 h2 h3 h4 h5=>J3 F u v a b W h1 h2 hut (by omega) h3
 generalize cV a b=r at hbi hr hcl;rw[hr]
 refine(IV w _ sb gf (below.length*6) r.2 (fun w'=>r.2=0∧Done fp F base sb t0 s0 (aF sb gf outv fvs) w ⟨below++[f.pop.pop.push r.1],tape,out⟩ w') (fun w'=>r.2≠0∧Done fp F base sb t0 s0 (aF sb gf outv fvs) w ⟨below++[f.pop.pop],tape,out⟩ w')
  (fun t z W=>PV F W (.iface t z) b∧aJ b≤200∧Mid fp base sb gf below.length t0 s0 (aF sb gf outv fvs) (w.alloc (.cells #[] 405)) F ⟨below++[f.pop],tape,out⟩ W)
  (fun t z t' z' W=>PV F W (.iface t z) b∧aJ b≤200∧PV F W (.iface t' z') a∧aJ a≤200∧Mid fp base sb gf below.length t0 s0 (aF sb gf outv fvs) (w.alloc (.cells #[] 405)) F ⟨below++[f.pop.pop],tape,out⟩ W)
  (fun t z W=>(r.2=0∧aJ r.1≤200)∧∃G,Ext F G w.heap.size∧PV G W (.iface t z) r.1∧Mid fp base sb gf below.length t0 s0 (aF sb gf outv fvs) (w.alloc (.cells #[] 405)) G ⟨below++[f.pop.pop],tape,out⟩ W) rfl (hM.topS hbel) (fun W hS=>?_) (fun W t z hq=>?_) (fun W t z t' z' hq=>?_) (fun W t z hq=>?_)).mono ?_
 ·refine((hM.same hS).pop hf (by omega)).mono ?_
  rintro e w' ⟨t,z,he,h1,h2,h3⟩;exact⟨t,z,he,h1,h2,h3⟩
 ·obtain⟨h1,h2,h3⟩:=hq;refine(h3.popK hf2 hl1).mono ?_;rintro e w' ⟨t',z',he,k1,k2,k3,k4⟩;exact⟨t',z',he,h1.keep k4,h2,k1,k2,k3⟩
 ·obtain⟨h1,h2,h3,h4,h5⟩:=hq;refine(hbi W _ _ h3 h1 (fun k hk=>(h5.apart k hk).1) h4 h2).mono ?_
  rintro e w' ⟨hb,⟨hz,u,rfl,hu⟩|⟨hz,rfl⟩⟩
  ·obtain⟨t1,z1,rfl⟩:=hu.form;exact Or.inl ⟨t1,z1,rfl,⟨hz,hcl h4⟩,Grow F W w',⟨fun _=>Or.inl,fun k hk=>hk.imp_right fun h1=>Nat.le_trans (Nat.le_trans (by simp) h5.1.size) h1.1⟩,hu,h5.grow hb (fun _=>Or.inl) fun _ h=>h⟩
  ·exact Or.inr ⟨rfl,hz,(h5.grow hb (fun _ h=>h) fun _=>Or.inl).done (Ext.refl _ _)⟩
 ·obtain⟨⟨hz,hcr⟩,G,hG,h1,h2⟩:=hq;refine(h2.push h1 hcr hl2).mono ?_;rintro e w' ⟨he,h4⟩;exact⟨he,hz,h4.done hG⟩
 ·rintro e w' (⟨rfl,h1,h2⟩|⟨rfl,h1,h2⟩)
  ·exact mZ.ok (if_pos h1) h2
  ·exact mZ.stop (if_neg h1) h1 h2
theorem WV(h:cO fp F base w sb gf cap t0 tv outv s0 fvs ⟨below++[f],tape,out⟩)(hbel:below.length≤15)(hbase:base≤w.heap.size)(hops:f.ops.length≤99000)(hne:∃vs a,f.ops=vs++[a]∧bM a):
 Calls Tryz.prog 398 #[.agg #[],.pointer (some ⟨sb,0,none⟩)] w (mZ fp F base sb t0 s0 (aF sb gf outv fvs) w below tape out (aN .length f)):=by
 obtain⟨vs,a,hf,hut⟩:=hne;have hM:=h.mid hbase (.cells #[] 439);have hl:f.pop.ops.length≤100000:=by rw[lK hf];rw[hf,List.length_append] at hops;omega
 have hr:aN .length f=if (dT a).2=0 then (f.pop.push (dT a).1,0) else (f.pop,(dT a).2):=by simp[aN,iF hf]
 have hcl:=IQ a;have hbi:∀(W:World) (u:Value),PV F W u a→aJ a≤200→Calls Tryz.prog 399 #[u] W (eH F W (dT a)):=fun W u h1 h4=>ZU F u a W h1 hut (by omega)
 generalize dT a=r at hbi hr hcl;rw[hr]
 refine(DJ w _ sb gf (below.length*6) r.2 (fun w'=>r.2=0∧Done fp F base sb t0 s0 (aF sb gf outv fvs) w ⟨below++[f.pop.push r.1],tape,out⟩ w') (fun w'=>r.2≠0∧Done fp F base sb t0 s0 (aF sb gf outv fvs) w ⟨below++[f.pop],tape,out⟩ w')
  (fun t z W=>PV F W (.iface t z) a∧aJ a≤200∧Mid fp base sb gf below.length t0 s0 (aF sb gf outv fvs) (w.alloc (.cells #[] 439)) F ⟨below++[f.pop],tape,out⟩ W)
  (fun t z W=>r.2=0∧∃G,Ext F G w.heap.size∧PV G W (.iface t z) r.1∧Mid fp base sb gf below.length t0 s0 (aF sb gf outv fvs) (w.alloc (.cells #[] 439)) G ⟨below++[f.pop],tape,out⟩ W) rfl (hM.topS hbel) (fun W hS=>?_) (fun W t z hq=>?_) (fun W t z hq=>?_)).mono ?_
 ·refine((hM.same hS).pop hf (by omega)).mono ?_
  rintro e w' ⟨t,z,he,h1,h2,h3⟩;exact⟨t,z,he,h1,h2,h3⟩
 ·obtain⟨h1,h2,h5⟩:=hq;refine(hbi W _ h1 h2).mono ?_;rintro e w' ⟨hb,⟨hz,u,rfl,hu⟩|⟨hz,rfl⟩⟩
  ·obtain⟨t1,z1,rfl⟩:=hu.form;exact Or.inl ⟨t1,z1,rfl,hz,Grow F W w',⟨fun _=>Or.inl,fun k hk=>hk.imp_right fun h1=>Nat.le_trans (Nat.le_trans (by simp) h5.1.size) h1.1⟩,hu,h5.grow hb (fun _=>Or.inl) fun _ h=>h⟩
  ·exact Or.inr ⟨rfl,hz,(h5.grow hb (fun _ h=>h) fun _=>Or.inl).done (Ext.refl _ _)⟩
 ·obtain⟨hz,G,hG,h1,h2⟩:=hq;refine(h2.push h1 hcl hl).mono ?_;rintro e w' ⟨he,h4⟩;exact⟨he,hz,h4.done hG⟩
 ·rintro e w' (⟨rfl,h1,h2⟩|⟨rfl,h1,h2⟩)
  ·exact mZ.ok (if_pos h1) h2
  ·exact mZ.stop (if_neg h1) h1 h2
end
def Disp(t:TypeId)(f:Nat):Prop:=(∀recv w,(Go.method 616 t recv "hindsight/machine.do").run Tryz.prog w=.ok (f,recv) w)∧∀a b w,(callFunc f #[a,b]).run Tryz.prog w=.ok (.enter f #[a,b]) w
def eY(t:TypeId):Prop:=∀v w,(Instr.typeAssert (.iface t v) 355 365 true).run Tryz.prog w=.ok (.tuple #[.agg #[.int .i64 0,.pointer none],.bool false]) w
theorem C2(v:Value)(w:World):(Instr.typeAssert (.iface 365 v) 355 365 true).run Tryz.prog w=.ok (.tuple #[v,.bool true]) w:=by kernel_rfl
theorem SG:Disp 365 373:=⟨fun _ _=>by kernel_rfl,fun _ _ _=>by kernel_rfl⟩
theorem XP:Disp 361 370:=⟨fun _ _=>by kernel_rfl,fun _ _ _=>by kernel_rfl⟩
theorem XQ:Disp 402 374:=⟨fun _ _=>by kernel_rfl,fun _ _ _=>by kernel_rfl⟩
theorem JL:Disp 443 403:=⟨fun _ _=>by kernel_rfl,fun _ _ _=>by kernel_rfl⟩
theorem NW:Disp 445 404:=⟨fun _ _=>by kernel_rfl,fun _ _ _=>by kernel_rfl⟩
theorem XS:Disp 462 412:=⟨fun _ _=>by kernel_rfl,fun _ _ _=>by kernel_rfl⟩
theorem NT:Disp 461 411:=⟨fun _ _=>by kernel_rfl,fun _ _ _=>by kernel_rfl⟩
theorem DU:Disp 438 397:=⟨fun _ _=>by kernel_rfl,fun _ _ _=>by kernel_rfl⟩
theorem SE:Disp 436 396:=⟨fun _ _=>by kernel_rfl,fun _ _ _=>by kernel_rfl⟩
theorem SD:Disp 407 383:=⟨fun _ _=>by kernel_rfl,fun _ _ _=>by kernel_rfl⟩
theorem NV:Disp 435 387:=⟨fun _ _=>by kernel_rfl,fun _ _ _=>by kernel_rfl⟩
theorem SF:Disp 405 380:=⟨fun _ _=>by kernel_rfl,fun _ _ _=>by kernel_rfl⟩
theorem XR:Disp 404 375:=⟨fun _ _=>by kernel_rfl,fun _ _ _=>by kernel_rfl⟩
theorem NU:Disp 439 398:=⟨fun _ _=>by kernel_rfl,fun _ _ _=>by kernel_rfl⟩
theorem XO:Disp 440 401:=⟨fun _ _=>by kernel_rfl,fun _ _ _=>by kernel_rfl⟩
theorem XV:Disp 442 402:=⟨fun _ _=>by kernel_rfl,fun _ _ _=>by kernel_rfl⟩
theorem XT:Disp 363 372:=⟨fun _ _=>by kernel_rfl,fun _ _ _=>by kernel_rfl⟩
theorem XU:Disp 449 410:=⟨fun _ _=>by kernel_rfl,fun _ _ _=>by kernel_rfl⟩
theorem DV:Disp 448 408:=⟨fun _ _=>by kernel_rfl,fun _ _ _=>by kernel_rfl⟩
theorem J8:eY 361:=fun _ _=>by kernel_rfl
theorem J9:eY 402:=fun _ _=>by kernel_rfl
theorem QT:eY 443:=fun _ _=>by kernel_rfl
theorem WJ:eY 445:=fun _ _=>by kernel_rfl
theorem K2:eY 462:=fun _ _=>by kernel_rfl
theorem WG:eY 461:=fun _ _=>by kernel_rfl
theorem MD:eY 438:=fun _ _=>by kernel_rfl
theorem B3:eY 436:=fun _ _=>by kernel_rfl
theorem B2:eY 407:=fun _ _=>by kernel_rfl
theorem WI:eY 435:=fun _ _=>by kernel_rfl
theorem B4:eY 405:=fun _ _=>by kernel_rfl
theorem K1:eY 404:=fun _ _=>by kernel_rfl
theorem WH:eY 439:=fun _ _=>by kernel_rfl
theorem J7:eY 440:=fun _ _=>by kernel_rfl
theorem K5:eY 442:=fun _ _=>by kernel_rfl
theorem K3:eY 363:=fun _ _=>by kernel_rfl
theorem K4:eY 449:=fun _ _=>by kernel_rfl
theorem ME:eY 448:=fun _ _=>by kernel_rfl
def P0(t:TypeId)(z:Value)(b:Bool):Prop:=(t=365∧(∃l p,z=.agg #[.int .i64 l,.pointer p])∧b=true)∨(eY t∧b=false)
theorem ZB(w:World)(sb:Nat)(L:Nat→World→Prop)(P:World→Prop)(S:Nat→World→Prop)(M:Nat→Nat→Nat→World→Prop)(N:Nat→TypeId→Value→Nat→Bool→World→Prop)(K0:Nat)(h0:L K0 w)
 (HL:Hid (∀k W,L k W→∃x n c,W.cell? ⟨sb,1,none⟩=some (.slice x n c)∧sb<W.heap.size∧n≤16∧(n=0→S 1 W)∧(n≠0→∃j,k=j+1∧∃fa fj,M j fa fj W)))
 (HM:Hid (∀j fa fj W,M j fa fj W→Calls Tryz.prog 158 #[.pointer (some ⟨sb,0,none⟩)] W fun e w'=>e=.returned (.pointer (some ⟨fa,fj,none⟩))∧M j fa fj w'))
 (HF:Hid (∀j fa fj W,M j fa fj W→Calls Tryz.prog 235 #[.pointer (some ⟨fa,fj,none⟩)] W fun e w'=>∃t z fno b,e=.returned (.iface t z)∧Disp t fno∧P0 t z b∧N j t z fno b w'))
 (HN:Hid (∀j t z fno b W,N j t z fno b W→Calls Tryz.prog fno #[z,.pointer (some ⟨sb,0,none⟩)] W fun e w'=>(e=.returned (.tuple #[])∧(b=true→∀ob,P (w'.alloc ob))∧(b=false→∀ob,L j (w'.alloc ob)))∨(∃q,e=fE q∧S q w'))):
 Calls Tryz.prog 175 #[.pointer (some ⟨sb,0,none⟩)] w fun e w'=>(e=.returned (.tuple #[])∧P w')∨(∃q,e=fE q∧S q w'):=by
 have H0:=aB h0;clear h0;go_enter Tryz.func175,Tryz.ntmps175;go_wp2_with fail;go_loopg [2,3,4] K0 (fun gk _ _ _ wr=>L gk wr)
 case atStart=>exact H0.out
 case round=>
  obtain⟨x,n,c,c1,hl,hn,hz,hs⟩:=HL.out _ _ hrel;by_cases h0:n=0
  ·subst h0;have HZ:=aB (hz rfl);clear hrel hz hs;go_wp2_with fail;exact⟨rfl,Or.inr ⟨1,rfl,HZ.out⟩⟩
  ·obtain⟨j,rfl,fa,fj,hm⟩:=hs h0;have HMM:=aB (HM.out _ _ _ _ hm);have hpos:(0:Int)<(n:Int):=by omega
   clear hrel hz hs hm;go_wp2_with fail;refine HMM.out.mono ?_;rintro e w1 ⟨rfl,h1⟩;have HFF:=aB (HF.out _ _ _ _ h1);clear h1;go_wp2_with fail;refine HFF.out.mono ?_;rintro e w2 ⟨t,z,fno,b,rfl,hd,hb,h2⟩;have HNN:=aB (HN.out _ _ _ _ _ _ h2);have hd1:=hd.1 z w2;have hd2:=hd.2 z (.pointer (some ⟨sb,0,none⟩)) w2;clear h2 hd;go_wp2_with fail;refine HNN.out.mono ?_;rintro e w3 (⟨rfl,h3,h4⟩|⟨q,rfl,h3⟩)
   ·rcases hb with ⟨rfl,⟨l,p,rfl⟩,rfl⟩|⟨hnb,rfl⟩
    ·have hib:=C2 (.agg #[.int .i64 l,.pointer p]) w3;have HP:=aB (h3 rfl);clear h3 h4 hd1 hd2;go_wp2_with fail;exact⟨rfl,_,results_none (by rfl) _ _ _,Or.inl ⟨rfl,HP.out _⟩⟩
    ·have hib:=hnb z w3;have HP:=aB (h4 rfl);clear h3 h4 hd1 hd2 hnb;go_wp2_with fail;go_roundg j
     case measure=>omega
     case rel=>exact HP.out _
   ·go_wp2_with fail;exact⟨rfl,Or.inr ⟨q,rfl,h3⟩⟩
theorem mU{α:Type}{l:List α}(h:1≤l.length):∃vs a,l=vs++[a]:=by
 rcases List.eq_nil_or_concat l with e|⟨b,x,e⟩
 ·subst e;simp at h
 ·exact⟨b,x,by rw[e,List.concat_eq_append]⟩
theorem GU{α:Type}{l:List α}{n:Nat}(h:n≤l.length):∃vs us,l=vs++us∧us.length=n:=
 ⟨l.take (l.length-n),l.drop (l.length-n),(List.take_append_drop _ _).symm,by simp;omega⟩
theorem ZL{α:Type}{l:List α}(h:2≤l.length):∃vs a b,l=vs++[a,b]:=by
 obtain⟨vs,us,e,hu⟩:=GU h;match us,hu with
 |[a,b],_=>exact⟨vs,a,b,e⟩
section
variable {fp:Nat→Value} {F:Nat→Prop} {base:Nat} {w:World} {sb gf cap:Nat} {t0 tv outv s0:Value} {fvs:List FVal} {below:List aK} {f0 f:aK} {tape:List Int} {out:List (List UInt8)}
theorem P6{ar:Nat→Option Nat}{tab:List eJ}{i:aH}{v:Value}(ht:jF ar tab)(hA:fC ar ⟨below++[f0],tape,out⟩)(hfe:f0.fetch=some (i,f))(hU:fL ⟨below++[f0],tape,out⟩)
 (h:cO fp F base w sb gf cap t0 tv outv s0 fvs ⟨below++[f],tape,out⟩) (hT:kH fp F w tab) (hp:yG (aF sb gf outv fvs) w) (hbase:base≤w.heap.size) (hol:out.length≤50) (htl:tape.length≤1000000000) (hI:kL fp F w v i):
 ∃t z fno b,v=.iface t z∧Disp t fno∧P0 t z b∧b=i.isBegin∧Calls Tryz.prog fno #[z,.pointer (some ⟨sb,0,none⟩)] w (R6 fp F base sb t0 s0 (aF sb gf outv fvs) w (cC tab i below f tape out)):=by
 have hlow:∀x∈below,cE ar x 1:=by have:=hA.ok.low;simpa only[fQ] using this
 have htop:cE ar f0 0:=hA.ok.top f0 (eW _ _);have hbel:below.length≤15:=by have:=hA.ok.deep;simp at this;omega
 have hu0:dE f0:=hU f0 (by simp)
 obtain⟨⟨T,hc,hh,hv,he⟩,hnx,hs,hm⟩:=htop
 obtain⟨rfl,hi⟩:f={ f0 with next:=f0.next+1 }∧f0.fn.code[f0.next]?=some i:=by
  unfold aK.fetch at hfe;cases hx:f0.fn.code[f0.next]? with
  |none=>rw[hx] at hfe;cases hfe
  |some j=>rw[hx] at hfe;simp at hfe;exact⟨hfe.2.symm,by rw[hfe.1]⟩
 obtain⟨hb0,hhp,hio⟩:=hc.ins _ _ hi;clear hb0;have hlc:=hc.len;have hops:f0.ops.length≤99000:=by omega
 have hgo:∀g∈below,g.ops.length≤99000:=fun g hg=>by
  obtain⟨⟨T',hc',hh',_⟩,hn',_⟩:=hlow g hg;have h1:=(hc'.ins _ _ (List.getElem?_eq_getElem hn')).2.1;have h2:=hc'.len;omega
 have hmem:i∈f0.fn.code:=List.mem_of_getElem? hi;cases i
 case begin l s=>
  obtain⟨sp,rfl,hsp⟩:=hI;obtain⟨p,rfl⟩:=hsp.form;exact⟨_,_,_,true,rfl,SG,Or.inl ⟨rfl,⟨_,_,rfl⟩,rfl⟩,rfl,E8 l _ s h hbel hbase hsp⟩
 case push a=>
  obtain⟨u,rfl,hu,hca⟩:=hI;refine⟨_,_,_,false,rfl,XP,Or.inr ⟨J8,rfl⟩,rfl,(QE fp F base w sb gf cap t0 tv outv s0 fvs below _ tape out u a h hu hca (by show f0.ops.length≤100000;omega) hbel hbase).mono ?_⟩
  rintro e w' ⟨rfl,hd⟩;exact⟨Or.inl ⟨rfl,rfl⟩,hd⟩
 case load k=>
  obtain rfl:=hI;exact⟨_,_,_,false,rfl,XQ,Or.inr ⟨J9,rfl⟩,rfl,K6 k h hbel hbase hops (by have:=hio.1;show k<f0.vars.length;omega)⟩
 case declare k=>
  obtain rfl:=hI;exact⟨_,_,_,false,rfl,JL,Or.inr ⟨QT,rfl⟩,rfl,SH k h hbel hbase hops (mU (by have:=hio.1;show 1≤f0.ops.length;omega)) (by have:=hio.2.1;show k≤f0.vars.length;omega) hm⟩
 case assign k n=>
  obtain rfl:=hI;obtain⟨vs,us,e1,e2⟩:=GU (l:=f0.ops) (n:=n+1) (by have:=hio.1;omega)
  obtain⟨us',b,rfl⟩:=mU (l:=us) (by omega)
  have e3:us'.length=n:=by simpa using e2
  subst e3;exact⟨_,_,_,false,rfl,NW,Or.inr ⟨WJ,rfl⟩,rfl,YL k vs us' b h hbel hbase hops (by show f0.ops=_;rw[e1];simp) (by have:=hio.2.1;show k<f0.vars.length;omega)⟩
 case jump q=>
  obtain rfl:=hI;exact⟨_,_,_,false,rfl,XS,Or.inr ⟨K2,rfl⟩,rfl,K9 q h hbel hbase⟩
 case skip q=>
  obtain rfl:=hI;exact⟨_,_,_,false,rfl,NT,Or.inr ⟨WG,rfl⟩,rfl,UF q h hbel hbase hops (mU (by have:=hio.1;show 1≤f0.ops.length;omega))⟩
 case shortcut wh q=>
  obtain rfl:=hI;exact⟨_,_,_,false,rfl,DU,Or.inr ⟨MD,rfl⟩,rfl,LC wh q h hbel hbase hops (mU (by have:=hio.1;show 1≤f0.ops.length;omega))⟩
 case truth=>
  obtain rfl:=hI;exact⟨_,_,_,false,rfl,SE,Or.inr ⟨B3,rfl⟩,rfl,YY h hbel hbase hops (mU (by have:=hio.1;show 1≤f0.ops.length;omega))⟩
 case unary op=>
  obtain rfl:=hI;exact⟨_,_,_,false,rfl,SD,Or.inr ⟨B2,rfl⟩,rfl,YU op (hu0.fn.2 op hmem) h hbel hbase hops (mU (by have:=hio.1;show 1≤f0.ops.length;omega))⟩
 case binary op=>
  obtain rfl:=hI;exact⟨_,_,_,false,rfl,NV,Or.inr ⟨WI,rfl⟩,rfl,YK op h hbel hbase hops (ZL (by have:=hio.1;show 2≤f0.ops.length;omega))⟩
 case index=>
  obtain rfl:=hI;obtain⟨vs,a,b,e⟩:=ZL (l:=f0.ops) (by have:=hio.1;omega)
  exact⟨_,_,_,false,rfl,SF,Or.inr ⟨B4,rfl⟩,rfl,C7 h hbel hbase hops ⟨vs,a,b,e,hu0.ops a (by rw[e];simp)⟩⟩
 case list n=>
  obtain rfl:=hI;obtain⟨vs,us,e1,rfl⟩:=GU (l:=f0.ops) (n:=n) (by have:=hio.1;omega)
  exact⟨_,_,_,false,rfl,XR,Or.inr ⟨K1,rfl⟩,rfl,K7 vs us h hbel hbase hops e1⟩
 case length=>
  obtain rfl:=hI;obtain⟨vs,a,e⟩:=mU (l:=f0.ops) (by have:=hio.1;omega)
  exact⟨_,_,_,false,rfl,NU,Or.inr ⟨WH,rfl⟩,rfl,WV h hbel hbase hops ⟨vs,a,e,hu0.ops a (by rw[e];simp)⟩⟩
 case read=>
  obtain rfl:=hI;exact⟨_,_,_,false,rfl,XO,Or.inr ⟨J7,rfl⟩,rfl,J1 tab h hbel hbase hops htl⟩
 case call k n=>
  obtain rfl:=hI;obtain⟨vs,us,e1,rfl⟩:=GU (l:=f0.ops) (n:=n) (by have:=hio.1;omega)
  obtain⟨fn,_,hfn,_⟩:=ht.fn k _ hio.2.1;exact⟨_,_,_,false,rfl,XV,Or.inr ⟨K5,rfl⟩,rfl,N5 tab k fn vs us h hbel hbase hops e1 hT hfn⟩
 case give=>
  obtain rfl:=hI;exact⟨_,_,_,false,rfl,XT,Or.inr ⟨K3,rfl⟩,rfl,L6 tab h hbel hbase hops (mU (by have:=hio;show 1≤f0.ops.length;omega)) hgo⟩
 case drop=>
  obtain rfl:=hI;exact⟨_,_,_,false,rfl,XU,Or.inr ⟨K4,rfl⟩,rfl,M6 h hbel hbase hops (mU (by have:=hio.1;show 1≤f0.ops.length;omega))⟩
 case print=>
  obtain rfl:=hI;obtain⟨vs,a,e⟩:=mU (l:=f0.ops) (by have:=hio.1;omega)
  exact⟨_,_,_,false,rfl,DV,Or.inr ⟨ME,rfl⟩,rfl,ZT tab h hp hbel hbase hops e hol⟩
end
theorem ZC{tab:List eJ}{j:Nat}{below:List aK}{f0 f:aK}{t:List Int}{o:List (List UInt8)}{i:aH}{r:cM × Nat}(h:dN tab (j+1) ⟨below++[f0],t,o⟩=some r)(hf:f0.fetch=some (i,f)):
 ((cC tab i below f t o).2≠0→r=cC tab i below f t o)∧((cC tab i below f t o).2=0→i.isBegin=true→r=cC tab i below f t o)∧((cC tab i below f t o).2=0→i.isBegin=false→dN tab j (cC tab i below f t o).1=some r):=by
 rw[dN] at h;simp only[eW,hf,fQ] at h;refine⟨fun h1=>?_,fun h1 h2=>?_,fun h1 h2=>?_⟩
 ·rw[if_pos h1] at h;cases h;rfl
 ·rw[if_neg (by rw[h1];simp),if_pos h2] at h;cases h;rfl
 ·rw[if_neg (by rw[h1];simp),h2] at h;exact h
theorem TT{tab:List eJ}{i:aH}{below:List aK}{f:aK}{t:List Int}{o:List (List UInt8)}(ho:o.length≤50):(cC tab i below f t o).1.out.length≤50:=by
 cases i<;>simp only[cC]<;>(repeat' split)<;>first|exact ho|(simp;omega)
theorem NS{tab:List eJ}{i:aH}{below:List aK}{f:aK}{t:List Int}{o:List (List UInt8)}:(cC tab i below f t o).1.tape.length≤t.length:=by
 cases i<;>simp only[cC]<;>(repeat' split)<;>first|exact Nat.le_refl _|simp
section
variable {fp:Nat→Value} {F:Nat→Prop} {base:Nat} {w:World} {sb gf cap:Nat} {t0 tv outv s0:Value} {fvs:List FVal} {below:List aK} {f0 f:aK} {tape:List Int} {out:List (List UInt8)}
theorem cO.fetched{i:aH}(h:cO fp F base w sb gf cap t0 tv outv s0 fvs ⟨below++[f0],tape,out⟩)(hf:f0.fetch=some (i,f))(hl:f0.fn.code.length≤1000000):
 Calls Tryz.prog 235 #[.pointer (some ⟨gf,below.length*6,none⟩)] w fun e w'=>∃v fvs',e=.returned v∧kL fp F w' v i∧cO fp F base w' sb gf cap t0 tv outv s0 fvs' ⟨below++[f],tape,out⟩∧Kept (aF sb gf outv fvs) w w'∧aF sb gf outv fvs'=aF sb gf outv fvs:=by
 obtain⟨fb,v,cur,rfl,hfl,hv,hblk,hcur,hcap,k0,k1,k2,k3,k4,k5⟩:=h.top;rw[←hfl]
 obtain⟨hi,rfl⟩:f0.fn.code[f0.next]?=some i∧f={ f0 with next:=f0.next+1 }:=by
  unfold aK.fetch at hf;cases hx:f0.fn.code[f0.next]? with
  |none=>rw[hx] at hf;cases hf
  |some j=>rw[hx] at hf;simp at hf;exact⟨by rw[hf.1],hf.2.symm⟩
 obtain⟨hnl,hie⟩:=List.getElem?_eq_some_iff.1 hi;obtain⟨fbk,gc,cp,row,e1,e2,e3,e4,e5,e6⟩:=hv.fn;obtain⟨u,u1,u2⟩:=e6 f0.next hnl
 rw[hie] at u2;rw[e1] at k0;rw[hv.nx] at k1;refine(XH gf (fb.length*6) fbk gc f0.fn.code.length cp f0.next cur _ u w hcur k0 k1 e3 (aA e5 u1) u2.form hnl hl).mono ?_
 rintro e w' ⟨he,q,rfl⟩;have hS:=aW.drewN w q;have hR1:=h.grow hS.below (fun _ h=>h) (fun _ h=>Or.inl h)
 have hv1:KA fp F base (w.drewN q) v f0:=hv.keep (fun b _=>by rw[hS.heap]) (fun _ h=>h) fun k _=>by rw[hS.heap]
 have hv2:KA fp F base (w.drewN q) { v with nx:=.int .i64 ((f0.next+1:Nat):Int) } { f0 with next:=f0.next+1 }:=⟨hv1.fn,rfl,hv1.ln,hv1.sp,hv1.vars,hv1.ops⟩
 obtain⟨q1,q2⟩:=hR1.setTop (j:=1) (x:=.int .i64 ((f0.next+1:Nat):Int)) (v':={ v with nx:=.int .i64 ((f0.next+1:Nat):Int) }) (by omega) rfl rfl hv2
 refine⟨u,_,he,u2.keep (fun b hb=>?_) (fun _ h=>h),q1,(Kept.of_below hS.below).trans q2 fun _ h=>Or.inl h,by simp[aF,aS,FVal.owns]⟩
 rw[Below.heap_setCell _ _ _ _ fun e=>(h.apart b hb).2 (by simp[aF,e]),hS.heap]
def S9(fp:Nat→Value)(F0:Nat→Prop)(base sb:Nat)(t0 s0:Value)(own0:List Nat)(w0:World)(ar:Nat→Option Nat)(tab:List eJ)(m:cM)(W:World):Prop:=
 ∃F gf cap tv outv fvs,Ext F0 F w0.heap.size∧cO fp F base W sb gf cap t0 tv outv s0 fvs m∧kH fp F W tab∧Kept own0 w0 W∧(∀x∈aF sb gf outv fvs,x∈own0∨w0.heap.size≤x)∧fC ar m∧fL m∧m.out.length≤50∧m.tape.length≤1000000000
theorem wR{ar:Nat→Option Nat}{tab:List eJ}{m:cM}{k:Nat}{r:cM × Nat}(ht:jF ar tab)(htu:iW tab)(h:cO fp F base w sb gf cap t0 tv outv s0 fvs m)(hT:kH fp F w tab)(hp:yG (aF sb gf outv fvs) w)(hbase:base≤w.heap.size)
 (hA:fC ar m) (hU:fL m) (hol:m.out.length≤50) (htl:m.tape.length≤1000000000) (hk:dN tab k m=some r):
 Calls Tryz.prog 175 #[.pointer (some ⟨sb,0,none⟩)] w (R6 fp F base sb t0 s0 (aF sb gf outv fvs) w r):=by
 generalize hown:aF sb gf outv fvs=own0 at hp
 refine(ZB w sb (fun k W=>∃m,S9 fp F base sb t0 s0 own0 w ar tab m W∧dN tab k m=some r)
  (fun W=>r.2=0∧Done fp F base sb t0 s0 own0 w r.1 W) (fun q W=>q=r.2∧r.2≠0∧Done fp F base sb t0 s0 own0 w r.1 W)
  (fun j fa fj W=>∃F' gf cap tv outv fvs below f0 tape out,fa=gf∧fj=below.length*6∧(Ext F F' w.heap.size∧cO fp F' base W sb gf cap t0 tv outv s0 fvs ⟨below++[f0],tape,out⟩∧kH fp F' W tab∧Kept own0 w W∧(∀x∈aF sb gf outv fvs,x∈own0∨w.heap.size≤x))∧(fC ar ⟨below++[f0],tape,out⟩∧fL ⟨below++[f0],tape,out⟩∧out.length≤50∧tape.length≤1000000000)∧dN tab (j+1) ⟨below++[f0],tape,out⟩=some r)
  (fun j t z fno b W=>∃F' gf cap tv outv fvs below f0 f i tape out,(Ext F F' w.heap.size∧cO fp F' base W sb gf cap t0 tv outv s0 fvs ⟨below++[f],tape,out⟩∧kH fp F' W tab∧Kept own0 w W∧(∀x∈aF sb gf outv fvs,x∈own0∨w.heap.size≤x))∧(fC ar ⟨below++[f0],tape,out⟩∧fL ⟨below++[f0],tape,out⟩∧out.length≤50∧tape.length≤1000000000)∧dN tab (j+1) ⟨below++[f0],tape,out⟩=some r∧f0.fetch=some (i,f)∧b=i.isBegin∧
    Calls Tryz.prog fno #[z,.pointer (some ⟨sb,0,none⟩)] W (R6 fp F' base sb t0 s0 (aF sb gf outv fvs) W (cC tab i below f tape out)))
  k ⟨m,⟨F,gf,cap,tv,outv,fvs,Ext.refl _ _,h,hT,Kept.refl _ _,fun x hx=>Or.inl (by rw[←hown];exact hx),hA,hU,hol,htl⟩,hk⟩ (fun k W hL=>?_) (fun j fa fj W hM=>?_) (fun j fa fj W hM=>?_) (fun j t z fno b W hN=>?_)).mono ?_
 ·obtain⟨m,⟨F',gf,cap,tv,outv,fvs,g1,g2,g3,g4,g5,g6,g7,g8,g9⟩,hk⟩:=hL;have hc:=g2.count;have hd:=g6.ok.deep;refine⟨_,_,_,aA g2.blk rfl,aD g2.blk,by omega,fun h0=>?_,fun h0=>?_⟩
  ·have hm:m.frames=[]:=List.eq_nil_of_length_eq_zero (by omega)
   cases k with
   |zero=>rw[dN] at hk;cases hk
   |succ j=>
    rw[dN,hm] at hk;simp only[List.getLast?_nil] at hk;cases hk;exact⟨rfl,Nat.one_ne_zero,g4,F',gf,cap,tv,outv,fvs,g1,g2,g5⟩
  ·obtain⟨b,f,e⟩:=mB (l:=m.frames) (fun e=>h0 (by rw[hc,e];rfl))
   obtain⟨fr,t,o⟩:=m;simp only at e;subst e;cases k with
   |zero=>rw[dN] at hk;cases hk
   |succ j=>exact⟨j,rfl,gf,b.length*6,F',gf,cap,tv,outv,fvs,b,f,t,o,rfl,rfl,⟨g1,g2,g3,g4,g5⟩,⟨g6,g7,g8,g9⟩,hk⟩
 ·obtain⟨F',gf,cap,tv,outv,fvs,b,f,t,o,rfl,rfl,⟨g1,g2,g3,g4,g5⟩,⟨g6,g7,g8,g9⟩,hk⟩:=hM;have hc:=g2.count;have hd:=g6.ok.deep;have hblk:=g2.blk;rw[hc,List.length_append,List.length_singleton] at hblk;simp at hd;refine(GF sb fa b.length cap W (aA hblk rfl) (by omega)).mono ?_
  rintro e w' ⟨he,q,rfl⟩;have hS:=aW.drewN W q;exact⟨he,F',fa,cap,tv,outv,fvs,b,f,t,o,rfl,rfl,⟨g1,g2.grow hS.below (fun _ h=>h) (fun _ h=>Or.inl h),g3.keep (fun b _=>by rw[hS.heap]) (fun _ h=>h),g4.trans (Kept.of_below (own:=[]) hS.below) (fun x hx=>by simp at hx),g5⟩,⟨g6,g7,g8,g9⟩,hk⟩
 ·obtain⟨F',gf,cap,tv,outv,fvs,b,f0,t,o,rfl,rfl,⟨g1,g2,g3,g4,g5⟩,⟨g6,g7,g8,g9⟩,hk⟩:=hM;have htop:cE ar f0 0:=g6.ok.top f0 (eW _ _);have hf:=wK htop.next
  obtain⟨T,hc, -⟩:=htop.code;have hcl:=hc.len;generalize f0.fn.code[f0.next]'htop.next=i at hf
  refine(g2.fetched hf (by omega)).mono ?_
  rintro e w' ⟨v,fvs',he,q1,q2,q3,q4⟩;have g3':kH fp F' w' tab:=g3.keep (fun x hx=>q3.block x (g2.apart x hx).1 (g2.apart x hx).2) fun _ h=>h
  have hk':Kept own0 w w':=g4.trans q3 g5;have hp':yG (aF sb fa outv fvs') w':=hp.step hk' (fun x hx=>g5 x (by rw[←q4];exact hx))
  obtain⟨t',z,fno,bb,e1,e2,e3,e4,e5⟩:=P6 ht g6 hf g7 q2 g3' hp' (Nat.le_trans hbase hk'.size) g8 g9 q1;exact⟨t',z,fno,bb,by rw[he,e1],e2,e3,F',fa,cap,tv,outv,fvs',b,f0,_,i,t,o,⟨g1,q2,g3',hk',fun x hx=>g5 x (by rw[←q4];exact hx)⟩,⟨g6,g7,g8,g9⟩,hk,hf,e4,e5⟩
 ·obtain⟨F',gf,cap,tv,outv,fvs,below,f0,f,i,tp,o,⟨g1,g2,g3,g4,g5⟩,⟨g6,g7,g8,g9⟩,hk,hf,hb,hc⟩:=hN;obtain⟨s1,s2,s3⟩:=ZC hk hf;refine hc.mono ?_;rintro e w' ⟨he,hd1,G,gf',cap',tv',outv',fvs',d1,d2,d3⟩;have hk':Kept own0 w w':=g4.trans hd1 g5
  have hsub:∀x∈aF sb gf' outv' fvs',x∈own0∨w.heap.size≤x:=fun x hx=>by
   rcases d3 x hx with h1|h1
   ·exact g5 x h1
   ·exact Or.inr (Nat.le_trans g4.size h1)
  have hTab:kH fp G w' tab:=g3.keep (fun x hx=>hd1.block x (g2.apart x hx).1 (g2.apart x hx).2) d1.sub
  have hal:∀ob,Below w'.heap.size w' (w'.alloc ob):=fun ob=>(Below.refl _ w').alloc (Nat.le_refl _) ob
  rcases he with ⟨hz,rfl⟩|⟨hz,rfl⟩
  ·refine Or.inl ⟨rfl,fun hbt ob=>?_,fun hbf ob=>?_⟩
   ·have hr:=s2 hz (by rw[←hb];exact hbt)
    rw[hr];exact⟨hz,hk'.trans (Kept.of_below (own:=[]) (hal ob)) (fun x hx=>by simp at hx),G,gf',cap',tv',outv',fvs',g1.trans d1 g4.size,d2.grow (hal ob) (fun _ h=>h) (fun _ h=>Or.inl h),hsub⟩
   ·refine⟨_,⟨G,gf',cap',tv',outv',fvs',g1.trans d1 g4.size,d2.grow (hal ob) (fun _ h=>h) (fun _ h=>Or.inl h),hTab.keep (fun x hx=>(hal ob).block x (d2.apart x hx).1) (fun _ h=>h),hk'.trans (Kept.of_below (own:=[]) (hal ob)) (fun x hx=>by simp at hx),hsub,(vM ht g6 hf).2.2 hz,BT htu g7 hf,TT g8,Nat.le_trans NS g9⟩,s3 hz (by rw[←hb];exact hbf)⟩
  ·refine Or.inr ⟨_,rfl,?_⟩;have hr:=s1 hz;rw[hr];exact⟨rfl,hz,hk',G,gf',cap',tv',outv',fvs',g1.trans d1 g4.size,d2,hsub⟩
 ·rintro e w' (⟨rfl,h1,h2⟩|⟨q,rfl,rfl,h1,h2⟩)
  ·exact⟨Or.inl ⟨h1,rfl⟩,h2⟩
  ·exact⟨Or.inr ⟨h1,rfl⟩,h2⟩
end
theorem P5(v:Value)(w:World):(Instr.typeAssert (.iface 353 v) 20 353 true).run Tryz.prog w=.ok (.tuple #[v,.bool true]) w:=by kernel_rfl
theorem TL(fn:Fn)(first cap:Array Value)(w:World):(Instr.makeFunc fn first cap).run Tryz.prog w=.ok (.func fn first cap) w:=rfl
theorem SN(p k:Nat)(older:List PanicEntry)(w:World)(hp:w.heap[p]?=some (.cells #[.int .i64 0] 61 (0,0))):
 CallsD Tryz.prog 234 #[.pointer (some ⟨p,0,none⟩)] (.panicking ({ v:=.iface 353 (.int .i64 k),recovered:=false }::older)) w fun e u' w'=>
  e=.returned (.tuple #[])∧u'=.panicking ({ v:=.iface 353 (.int .i64 k),recovered:=true }::older)∧w'=w.setCell ⟨p,0,none⟩ (.int .i64 k):=by
 have c0:w.cell? ⟨p,0,none⟩=some (.int .i64 0):=aA hp rfl;have f0:=aE (i:=0) hp;have l0:=aD hp;have hft:=P5;refine callsD_of_wpS Tryz.func234 rfl fun c₀ cs hu=>?_
 apply wpS_seq
 apply wpS_region
 simp[wpOpsS,go_sem,recoverD,hu,Tryz.ntmps234,Exit.thenS];refine wpS_of_wp ?_;clear hp;go_wp2_with fail;exact⟨rfl,_,rfl,.tuple #[],by simp[results,Tryz.results234],rfl,rfl,rfl⟩
theorem SO(p:Addr)(w:World):
 CallsD Tryz.prog 234 #[.pointer (some p)] .returning w fun e u' w'=>e=.returned (.tuple #[])∧u'=.returning∧w'=w:=by
 refine callsD_of_wpS Tryz.func234 rfl fun c₀ cs hu=>?_
 apply wpS_seq
 apply wpS_region
 simp[wpOpsS,go_sem,recoverD,hu,Tryz.ntmps234,Exit.thenS];refine wpS_of_wp ?_;go_wp2_with fail;exact⟨rfl,c₀.mode,rfl,.tuple #[],by simp[results,Tryz.results234],rfl,hu,rfl⟩
theorem PM(fno:Nat)(p:Addr)(w:World)(R:Nat→World→Prop)(hent:∀a W,(callFunc fno #[a]).run Tryz.prog W=.ok (.enter fno #[a]) W)
 (hC:Calls Tryz.prog fno #[.pointer (some p)] (w.alloc (.cells #[.int .i64 0] 61)) fun e w'=>∃k,R5 k e∧R k w'∧w'.heap[w.heap.size]?=some (.cells #[.int .i64 0] 61 (0,0))):
 Calls Tryz.prog 169 #[.func (.func fno) #[.pointer (some p)] #[]] w fun e w'=>∃(k:Nat) (w1:World),e=.returned (.int .i64 k)∧R k w1∧w'=w1.setCell ⟨w.heap.size,0,none⟩ (.int .i64 k):=by
 have hmf:=TL;have hen:=hent (.pointer (some p)) (w.alloc (.cells #[.int .i64 0] 61));have HC:=aB hC;clear hC hent;go_enter_defers Tryz.func169,Tryz.ntmps169
 go_wp2_with fail;refine HC.out.mono ?_;rintro e w1 ⟨k,hr,hR,hp⟩;have HR:=aB hR;have c0:w1.cell? ⟨w.heap.size,0,none⟩=some (.int .i64 0):=aA hp rfl;have f0:=aE (i:=0) hp;have l0:=aD hp;clear hR HC;rcases hr with ⟨rfl,rfl⟩|⟨hr,rfl⟩
 ·go_wp2_with fail;refine leaves_cons (f:=234) (args:= #[.pointer (some ⟨w.heap.size,0,none⟩)]) (by simp) (by simp[go_sem]) ?_
  refine(SO ⟨w.heap.size,0,none⟩ _).mono ?_;rintro e u' w'' ⟨rfl,rfl,rfl⟩;simp[Leaves,settle,results,Tryz.results169,go_sem,c0];exact⟨0,rfl,w1,HR.out,rfl⟩
 ·go_wp2_with fail;refine leaves_cons (f:=234) (args:= #[.pointer (some ⟨w.heap.size,0,none⟩)]) (by simp) (by simp[go_sem]) ?_
  refine(SN w.heap.size k [] _ hp).mono ?_;rintro e u' w2 ⟨rfl,rfl,rfl⟩;simp[Leaves,settle,results,Tryz.results169,go_sem,c0];exact⟨k,rfl,w1,HR.out,rfl⟩
theorem C4:(Tryz.prog.info? 3).map (fun i=>(i.zero,i.size,i.bytes))=some (some (.int .i64 0),1,8):=by kernel_rfl
theorem rJ(g off n c:Nat)(news:List Value)(w:World)(hl:news.length=n*1)(hn:n≤1000000)(hc:∀j u,news[j]?=some u→w.cell? ⟨g,off+j,none⟩=some u)(h1:∀u∈news,u.oneCell'=true):
 Calls Tryz.prog 109 #[.slice (some ⟨g,off,none⟩) n c] w fun e w'=>∃v',e=.returned v'∧w'.ownsRow w.heap.size 9 1 v' n news∧Below w.heap.size w w':=by
 obtain⟨i0,hi,hz0,hz1,hz2⟩:=info_parts AW;have HC:=aB hc;clear hc;have q22:∀(w:World) (a:Option Addr) (n c n' c':Nat),(binOp .eql 60 (.slice a n c) (.slice none n' c')).run Tryz.prog w=.ok (.bool a.isNone) w:=fun w a n c n' c'=>Lib.run_eql_slice_nil w _ _ a n c n' c' Tryz.underlying60
 go_enter Tryz.func109,Tryz.ntmps109;go_wp2_with (at_builtin;refine wpList_append_own _ (by rfl) _ _ 60 (by rfl) w.heap.size 9 i0 _ 1 16 Tryz.underlying60 hi hz0 hz1 hz2 rfl (by decide) (.slice (some ⟨w.heap.size,0,none⟩) 0 0) 0 [] (by rfl) (World.ownsRow_made w #[] 0 (Nat.le_refl _) (Nat.zero_le _) (by simp)) ⟨g,off,none⟩ n c news (by rfl) hl (fun j u hj=>by rw[Addr.add_lit];exact gZ _ (HC.out j u hj)) h1 (by unfold maxLen;omega) (by omega) (by simp) ?_)
 intro v' w1 hown hgrow _;have HO:=aB hown;have HG:=aB hgrow;obtain⟨x',c',rfl⟩:=cP hown;clear hown hgrow;go_wp2_with fail;go_ret;refine⟨_,rfl,by simpa using HO.out,?_⟩
 exact((Below.refl _ w).alloc (Nat.le_refl _) _).grown HG.out (by simp) (by intro k hk;simp[Value.ownBlock] at hk;omega)
theorem rI(w:World):
 Calls Tryz.prog 109 #[.slice none 0 0] w fun e w'=>e=.returned (.slice none 0 0)∧w'=w:=by
 have q22:∀(w:World) (a:Option Addr) (n c n' c':Nat),(binOp .eql 60 (.slice a n c) (.slice none n' c')).run Tryz.prog w=.ok (.bool a.isNone) w:=fun w a n c n' c'=>Lib.run_eql_slice_nil w _ _ a n c n' c' Tryz.underlying60
 go_enter Tryz.func109,Tryz.ntmps109;go_wp2_with fail;go_ret;exact⟨rfl,rfl⟩
theorem EA(g off n c:Nat)(news:List Value)(w:World)(hl:news.length=n*1)(hn:n≤1000000)(hc:∀j u,news[j]?=some u→w.cell? ⟨g,off+j,none⟩=some u)(h1:∀u∈news,u.oneCell'=true):
 Calls Tryz.prog 124 #[.slice (some ⟨g,off,none⟩) n c] w fun e w'=>∃v',e=.returned v'∧w'.ownsRow w.heap.size 3 1 v' n news∧Below w.heap.size w w':=by
 obtain⟨i0,hi,hz0,hz1,hz2⟩:=info_parts C4;have HC:=aB hc;clear hc;have q22:∀(w:World) (a:Option Addr) (n c n' c':Nat),(binOp .eql 31 (.slice a n c) (.slice none n' c')).run Tryz.prog w=.ok (.bool a.isNone) w:=fun w a n c n' c'=>Lib.run_eql_slice_nil w _ _ a n c n' c' Tryz.underlying31
 go_enter Tryz.func124,Tryz.ntmps124;go_wp2_with (at_builtin;refine wpList_append_own _ (by rfl) _ _ 31 (by rfl) w.heap.size 3 i0 _ 1 8 Tryz.underlying31 hi hz0 hz1 hz2 rfl (by decide) (.slice (some ⟨w.heap.size,0,none⟩) 0 0) 0 [] (by rfl) (World.ownsRow_made w #[] 0 (Nat.le_refl _) (Nat.zero_le _) (by simp)) ⟨g,off,none⟩ n c news (by rfl) hl (fun j u hj=>by rw[Addr.add_lit];exact gZ _ (HC.out j u hj)) h1 (by unfold maxLen;omega) (by omega) (by simp) ?_)
 intro v' w1 hown hgrow _;have HO:=aB hown;have HG:=aB hgrow;obtain⟨x',c',rfl⟩:=cP hown;clear hown hgrow;go_wp2_with fail;go_ret;refine⟨_,rfl,by simpa using HO.out,?_⟩
 exact((Below.refl _ w).alloc (Nat.le_refl _) _).grown HG.out (by simp) (by intro k hk;simp[Value.ownBlock] at hk;omega)
theorem DZ(w:World):
 Calls Tryz.prog 124 #[.slice none 0 0] w fun e w'=>e=.returned (.slice none 0 0)∧w'=w:=by
 have q22:∀(w:World) (a:Option Addr) (n c n' c':Nat),(binOp .eql 31 (.slice a n c) (.slice none n' c')).run Tryz.prog w=.ok (.bool a.isNone) w:=fun w a n c n' c'=>Lib.run_eql_slice_nil w _ _ a n c n' c' Tryz.underlying31
 go_enter Tryz.func124,Tryz.ntmps124;go_wp2_with fail;go_ret;exact⟨rfl,rfl⟩
theorem EB(g off n c:Nat)(news:List Value)(w:World)(hl:news.length=n*6)(hn:n≤1000000)(hc:∀j u,news[j]?=some u→w.cell? ⟨g,off+j,none⟩=some u)(h1:∀u∈news,u.oneCell'=true):
 Calls Tryz.prog 281 #[.slice (some ⟨g,off,none⟩) n c] w fun e w'=>∃v',e=.returned v'∧w'.ownsRow w.heap.size 195 6 v' n news∧Below w.heap.size w w':=by
 obtain⟨i0,hi,hz0,hz1,hz2⟩:=info_parts FI;have HC:=aB hc;clear hc;have q22:∀(w:World) (a:Option Addr) (n c n' c':Nat),(binOp .eql 106 (.slice a n c) (.slice none n' c')).run Tryz.prog w=.ok (.bool a.isNone) w:=fun w a n c n' c'=>Lib.run_eql_slice_nil w _ _ a n c n' c' Tryz.underlying106
 go_enter Tryz.func281,Tryz.ntmps281;go_wp2_with (at_builtin;refine wpList_append_own _ (by rfl) _ _ 106 (by rfl) w.heap.size 195 i0 _ 6 80 Tryz.underlying106 hi hz0 hz1 hz2 rfl (by decide) (.slice (some ⟨w.heap.size,0,none⟩) 0 0) 0 [] (by rfl) (World.ownsRow_made w #[] 0 (Nat.le_refl _) (Nat.zero_le _) (by simp)) ⟨g,off,none⟩ n c news (by rfl) hl (fun j u hj=>by rw[Addr.add_lit];exact gZ _ (HC.out j u hj)) h1 (by unfold maxLen;omega) (by omega) (by simp) ?_)
 intro v' w1 hown hgrow _;have HO:=aB hown;have HG:=aB hgrow;obtain⟨x',c',rfl⟩:=cP hown;clear hown hgrow;go_wp2_with fail;go_ret;refine⟨_,rfl,by simpa using HO.out,?_⟩
 exact((Below.refl _ w).alloc (Nat.le_refl _) _).grown HG.out (by simp) (by intro k hk;simp[Value.ownBlock] at hk;omega)
theorem XD(w:World)(sb time:Nat)(R:Nat→World→Prop)(P:World→Prop)(ht:time≤1000000)
 (HS:Hid (Calls Tryz.prog 169 #[.func (.func 175) #[.pointer (some ⟨sb,0,none⟩)] #[]] w fun e w'=>∃k:Nat,k≤1000∧e=.returned (.int .i64 k)∧R k w'))
 (HR:Hid (∀k W,R k W→(∃u,W.cell? ⟨sb,4,none⟩=some u)∧W.frozen? ⟨sb,4,none⟩=false∧sb<W.heap.size∧W.cell? ⟨sb,0,none⟩=some (.int .i64 time)))
 (HN:Hid (∀k W,R k W→¬(k=0∧time=500)→P (W.setCell ⟨sb,4,none⟩ (.int .i64 k))))
 (HE:Hid (∀W,R 0 W→time=500→P ((W.setCell ⟨sb,4,none⟩ (.int .i64 0)).setCell ⟨sb,4,none⟩ (.int .i64 9)))):
 Calls Tryz.prog 125 #[.pointer (some ⟨sb,0,none⟩)] w fun e w'=>e=.returned (.tuple #[])∧P w':=by
 have hmf:=TL;go_enter Tryz.func125,Tryz.ntmps125;go_wp2_with fail;refine HS.out.mono ?_;rintro e w1 ⟨k,hk,rfl,h1⟩;obtain⟨⟨u,c1⟩,f1,l1,c0⟩:=HR.out _ _ h1;by_cases h0:k=0
 ·subst h0;by_cases h5:time=500
  ·subst h5;have HP:=aB (HE.out _ h1 rfl);clear h1;go_wp2_with fail;go_end0;exact⟨rfl,HP.out⟩
  ·have HP:=aB (HN.out _ _ h1 (fun h=>h5 h.2))
   have e1:¬(time:Int)=500:=by omega
   clear h1;go_wp2_with fail;go_end0;exact⟨rfl,HP.out⟩
 ·have HP:=aB (HN.out _ _ h1 (fun h=>h0 h.1))
  have e1:¬(k:Int)=0:=by omega
  clear h1;go_wp2_with fail;go_end0;exact⟨rfl,HP.out⟩
section
variable {fp:Nat→Value} {F:Nat→Prop} {base:Nat} {w:World} {sb gf cap:Nat} {t0 tv outv s0:Value} {fvs:List FVal}
theorem cO.setStop{m:cM}(h:cO fp F base w sb gf cap t0 tv outv s0 fvs m)(x:Value):cO fp F base (w.setCell ⟨sb,4,none⟩ x) sb gf cap t0 tv outv x fvs m∧Kept (aF sb gf outv fvs) w (w.setCell ⟨sb,4,none⟩ x):=by
 obtain⟨n1,n2⟩:=List.nodup_cons.1 h.nodup;have hk:∀k,k≠sb→(w.setCell ⟨sb,4,none⟩ x).heap[k]?=w.heap[k]?:=fun k hk=>Below.heap_setCell _ _ _ _ hk
 have hFk:∀b,F b→(w.setCell ⟨sb,4,none⟩ x).heap[b]?=w.heap[b]?:=fun b hb=>hk b fun e=>(h.apart b hb).2 (by simp[aF,e])
 refine⟨⟨aQ h.blk,aY h.row fun k e=>hk k ?_,h.frs.keep hFk (fun _ h=>h) fun v hv k hkm=>hk k ?_,h.tape.keep hFk (fun _ h=>h),aY h.out fun k e=>hk k ?_,h.nodup,fun k hk=>by simpa using h.lt k hk,fun k hk=>by simpa using h.apart k hk⟩,⟨rfl,rfl,rfl,by simp,fun k _ hn=>hk k fun e=>hn (by simp[aF,e])⟩⟩
 ·cases e;exact fun e=>n1 (by simp[←e])
 ·have hm:k∈aS fvs:=List.mem_flatMap.2 ⟨v,hv,hkm⟩;exact fun e=>n1 (by simp[←e,hm])
 ·exact fun e2=>n1 (by simp[←e2,e])
theorem N6(a:Value)(W:World):(callFunc 175 #[a]).run Tryz.prog W=.ok (.enter 175 #[a]) W:=by kernel_rfl
theorem MU{ar:Nat→Option Nat}{tab:List eJ}{m:cM}{k time:Nat}{r:cM × Nat}(ht:jF ar tab)(htu:iW tab)(h:cO fp F base w sb gf cap (.int .i64 time) tv outv s0 fvs m)(hT:kH fp F w tab)(hp:yG (aF sb gf outv fvs) w)(hbase:base≤w.heap.size)
 (hA:fC ar m) (hU:fL m) (hol:m.out.length≤50) (htl:m.tape.length≤1000000000) (hk:dN tab k m=some r) (htm:time≤1000000) (hr9:r.2≤1000):
 Calls Tryz.prog 125 #[.pointer (some ⟨sb,0,none⟩)] w fun e w'=>e=.returned (.tuple #[])∧Done fp F base sb (.int .i64 time) (.int .i64 (bQ time r.2)) (aF sb gf outv fvs) w r.1 w':=by
 have hal:Below w.heap.size w (w.alloc (.cells #[.int .i64 0] 61)):=(Below.refl _ w).alloc (Nat.le_refl _) _;have h0:=h.grow hal (fun _ h=>h) (fun _ h=>Or.inl h)
 have hT0:kH fp F (w.alloc (.cells #[.int .i64 0] 61)) tab:=hT.keep (fun x hx=>hal.block x (h.apart x hx).1) fun _ h=>h
 have hK0:Kept (aF sb gf outv fvs) w (w.alloc (.cells #[.int .i64 0] 61)):=Kept.of_below hal;have hX:=wR ht htu h0 hT0 (hp.step hK0 fun _ h=>Or.inl h) (Nat.le_trans hbase hK0.size) hA hU hol htl hk
 have hfirst:(w.alloc (.cells #[.int .i64 0] 61)).heap[w.heap.size]?=some (.cells #[.int .i64 0] 61 (0,0)):=aR _ _ rfl _;have hnew:w.heap.size∉aF sb gf outv fvs:=fun hm=>by have:=h.lt _ hm;omega
 have hS:=PM 175 ⟨sb,0,none⟩ w (fun k W=>k=r.2∧Done fp F base sb (.int .i64 time) s0 (aF sb gf outv fvs) (w.alloc (.cells #[.int .i64 0] 61)) r.1 W) N6 (hX.mono fun e w' hd=>by
  obtain⟨he,hd⟩:=hd;refine⟨r.2,he,⟨rfl,hd⟩,?_⟩;rw[hd.1.block _ (by simp) hnew];exact hfirst)
 generalize hw0:w.alloc (.cells #[.int .i64 0] 61)=w0 at*
 have hD:∀W x,Done fp F base sb (.int .i64 time) s0 (aF sb gf outv fvs) w0 r.1 W→Done fp F base sb (.int .i64 time) s0 (aF sb gf outv fvs) w r.1 (W.setCell ⟨w.heap.size,0,none⟩ x):=fun W x hd=>by
  obtain⟨d1,G,gf',cap',tv',outv',fvs',d2,d3,d4⟩:=hd;have hsz:w.heap.size<w0.heap.size:=by rw[←hw0];simp
  have hnG:¬F w.heap.size:=fun hF=>by have:=(h.apart _ hF).1;omega
  have hno:w.heap.size∉aF sb gf' outv' fvs':=fun hm=>by
   rcases d4 _ hm with h1|h1
   ·exact hnew h1
   ·omega
  have hnG2:∀b,G b→b≠w.heap.size:=fun b hb e=>by
   subst e;rcases d2.new _ hb with h1|h1
   ·exact hnG h1
   ·omega
  have hk:∀k,k≠w.heap.size→(W.setCell ⟨w.heap.size,0,none⟩ x).heap[k]?=W.heap[k]?:=fun k hk=>Below.heap_setCell _ _ _ _ hk
  have hko:∀k∈aF sb gf' outv' fvs',(W.setCell ⟨w.heap.size,0,none⟩ x).heap[k]?=W.heap[k]?:=fun k hm=>hk k fun e=>hno (by rw[←e];exact hm)
  have hFk:∀b,G b→(W.setCell ⟨w.heap.size,0,none⟩ x).heap[b]?=W.heap[b]?:=fun b hb=>hk b (hnG2 b hb)
  refine⟨⟨d1.os.trans hK0.os,d1.tape.trans hK0.tape,d1.output.trans hK0.output,Nat.le_trans hK0.size (by simpa using d1.size),fun k h1 h2=>?_⟩,G,gf',cap',tv',outv',fvs',d2.le (Nat.le_of_lt hsz),⟨by rw[hko sb (by simp[aF])];exact d3.blk,aY d3.row fun k e=>?_,d3.frs.keep hFk (fun _ h=>h) fun v hv k hkm=>hko k ?_,d3.tape.keep hFk (fun _ h=>h),aY d3.out fun k e=>hko k (by simp[aF,e]),d3.nodup,fun k hk=>by simpa using d3.lt k hk,fun k hk=>by simpa using d3.apart k hk⟩,fun k hm=>(d4 k hm).imp_right (Nat.le_trans (Nat.le_of_lt hsz))⟩
  ·rw[hk k (by omega),d1.block k (by omega) h2,hK0.block k h1 h2]
  ·cases e;exact hko gf' (by simp[aF])
  ·have hm:k∈aS fvs':=List.mem_flatMap.2 ⟨v,hv,hkm⟩;simp[aF,hm]
 refine(XD w sb time (fun k W=>k=r.2∧Done fp F base sb (.int .i64 time) s0 (aF sb gf outv fvs) w r.1 W) (fun w'=>Done fp F base sb (.int .i64 time) (.int .i64 (bQ time r.2)) (aF sb gf outv fvs) w r.1 w') htm (hS.mono ?_) (fun k W hq=>?_) (fun k W hq hn=>?_) (fun W hq hn=>?_))
 ·rintro e w' ⟨k,w1,rfl,⟨rfl,hd⟩,rfl⟩;exact⟨r.2,hr9,rfl,rfl,hD _ _ hd⟩
 ·obtain⟨_,_,G,gf',cap',tv',outv',fvs',_,d3,_⟩:=hq;exact⟨⟨_,aA d3.blk rfl⟩,aE d3.blk,aD d3.blk,aA d3.blk rfl⟩
 ·obtain⟨rfl,d1,G,gf',cap',tv',outv',fvs',d2,d3,d4⟩:=hq;obtain⟨q1,q2⟩:=d3.setStop (.int .i64 r.2);have e:bQ time r.2=r.2:=if_neg hn;rw[e];exact⟨d1.trans q2 d4,G,gf',cap',tv',outv',fvs',d2,q1,d4⟩
 ·obtain⟨hz,d1,G,gf',cap',tv',outv',fvs',d2,d3,d4⟩:=hq;obtain⟨q1,q2⟩:=d3.setStop (.int .i64 0);obtain⟨q3,q4⟩:=q1.setStop (.int .i64 9);have e:bQ time r.2=9:=if_pos ⟨hz.symm,hn⟩;rw[e];exact⟨(d1.trans q2 d4).trans q4 d4,G,gf',cap',tv',outv',fvs',d2,q3,d4⟩
end
structure R8(fp:Nat→Value)(F:Nat→Prop)(w:World)(v:FVal)(f:aK):Prop where
 fn:YN fp F w v.fp f.fn
 nx:v.nx=.int .i64 f.next
 ln:v.ln=.int .i64 f.line
 sp:eO F w v.sp f.seen
 vars:PVs F w v.vv f.vars
 varsB:∀a∈f.vars,aJ a≤200
 ops:PVs F w v.ov f.ops
 opsB:∀a∈f.ops,aJ a≤200
theorem R8.keep{fp:Nat→Value}{F G:Nat→Prop}{w w':World}{v:FVal}{f:aK}(h:R8 fp F w v f)(hk:∀b,F b→w'.heap[b]?=w.heap[b]?)(hF:∀b,F b→G b):R8 fp G w' v f:=
 ⟨h.fn.keep hk hF,h.nx,h.ln,eO.keep hk hF h.sp,(h.vars.keep hk).mono hF,h.varsB,(h.ops.keep hk).mono hF,h.opsB⟩
def tX(fp:Nat→Value)(F:Nat→Prop)(w:World):List FVal→List aK→Prop
 |[],[]=>True
 |v::vs,f::fs=>R8 fp F w v f∧tX fp F w vs fs
 |_,_=>False
theorem tX.keep{fp:Nat→Value}{F G:Nat→Prop}{w w':World}(hk:∀b,F b→w'.heap[b]?=w.heap[b]?)(hF:∀b,F b→G b):∀{vs:List FVal} {fs:List aK},tX fp F w vs fs→tX fp G w' vs fs
 |[],[],_=>trivial
 |_::_,_::_,⟨h1,h2⟩=>⟨h1.keep hk hF,tX.keep hk hF h2⟩
 |[],_::_,h=>h.elim
 |_::_,[],h=>h.elim
theorem tX.length{fp:Nat→Value}{F:Nat→Prop}{w:World}:∀{vs:List FVal} {fs:List aK},tX fp F w vs fs→vs.length=fs.length
 |[],[],_=>rfl
 |_::_,_::_,⟨_,h⟩=>by simp[tX.length h]
 |[],_::_,h=>h.elim
 |_::_,[],h=>h.elim
theorem tX.get{fp:Nat→Value}{F:Nat→Prop}{w:World}:∀{vs:List FVal} {fs:List aK},tX fp F w vs fs→∀(i:Nat) v f,vs[i]?=some v→fs[i]?=some f→R8 fp F w v f
 |[],[],_,i,v,f,h1,_=>by simp at h1
 |_::_,_::_,⟨h,_⟩,0,v,f,h1,h2=>by simp at h1 h2;subst h1;subst h2;exact h
 |_::_,_::_,⟨_,h⟩,i+1,v,f,h1,h2=>tX.get h i v f (by simpa using h1) (by simpa using h2)
 |[],_::_,h,_,_,_,_,_=>h.elim
 |_::_,[],h,_,_,_,_,_=>h.elim
def TZ(F:Nat→Prop)(w:World)(v:Value)(fvs:List FVal):Prop:=
 (fvs=[]∧∃x c,v=.slice x 0 c)∨∃g c cur,v=.slice (some ⟨g,0,none⟩) fvs.length c∧F g∧w.heap[g]?=some (.cells cur 195 (0,0))∧fvs.length≤c∧cur.toList.take (fvs.length*6)=fS fvs
theorem TZ.keep{F G:Nat→Prop}{w w':World}{v:Value}{fvs:List FVal}(h:TZ F w v fvs)(hk:∀b,F b→w'.heap[b]?=w.heap[b]?)(hF:∀b,F b→G b):TZ G w' v fvs:=by
 rcases h with h|⟨g,c,cur,h1,h2,h3,h4⟩
 ·exact Or.inl h
 ·exact Or.inr ⟨g,c,cur,h1,hF g h2,by rw[hk g h2];exact h3,h4⟩
def GA(F:Nat→Prop)(w:World)(v:Value)(l:List (List UInt8)):Prop:=
 (l=[]∧v=.slice none 0 0)∨∃g c cur,v=.slice (some ⟨g,0,none⟩) l.length c∧F g∧w.heap[g]?=some (.cells cur 9 (0,0))∧l.length≤c∧cur.toList.take l.length=lA l
theorem GA.keep{F G:Nat→Prop}{w w':World}{v:Value}{l:List (List UInt8)}(h:GA F w v l)(hk:∀b,F b→w'.heap[b]?=w.heap[b]?)(hF:∀b,F b→G b):GA G w' v l:=by
 rcases h with h|⟨g,c,cur,h1,h2,h3,h4⟩
 ·exact Or.inl h
 ·exact Or.inr ⟨g,c,cur,h1,hF g h2,by rw[hk g h2];exact h3,h4⟩
def mX(fp:Nat→Value)(F:Nat→Prop)(w:World)(v:Value)(s:bW):Prop:=
 ∃fv tv outv fvs,v=.agg #[.int .i64 s.time,fv,tv,outv,.int .i64 s.stop]∧TZ F w fv fvs∧tX fp F w fvs s.m.frames∧qA F w tv s.m.tape∧GA F w outv s.m.out
theorem mX.keep{fp:Nat→Value}{F G:Nat→Prop}{w w':World}{v:Value}{s:bW}(h:mX fp F w v s)(hk:∀b,F b→w'.heap[b]?=w.heap[b]?)(hF:∀b,F b→G b):mX fp G w' v s:=by
 obtain⟨fv,tv,outv,fvs,h1,h2,h3,h4,h5⟩:=h;exact⟨fv,tv,outv,fvs,h1,h2.keep hk hF,h3.keep hk hF,h4.keep hk hF,h5.keep hk hF⟩
theorem iE.kept{fp:Nat→Value}{F G:Nat→Prop}{base:Nat}{w:World}(hF:∀k,F k→G k):∀{vs:List FVal} {fs:List aK},iE fp F base w vs fs→(∀v∈vs,∀k∈v.owns,G k)→tX fp G w vs fs
 |[],[],_,_=>trivial
 |v::_,_::_,⟨h1,h2⟩,ho=>by
  have hv:=ho v (List.mem_cons_self ..);obtain⟨⟨xs,a1,a2⟩,a3⟩:=h1.vars;obtain⟨⟨ys,b1,b2⟩,b3⟩:=h1.ops;exact⟨⟨h1.fn.keep (fun _ _=>rfl) hF,h1.nx,h1.ln,eO.keep (fun _ _=>rfl) hF h1.sp,PVs.ofRow a1 (a2.mono hF) fun k e=>hv k (by simp[FVal.owns,e]),a3,PVs.ofRow b1 (b2.mono hF) fun k e=>hv k (by simp[FVal.owns,e]),b3⟩,iE.kept hF h2 fun u hu=>ho u (List.mem_cons_of_mem _ hu)⟩
 |[],_::_,h,_=>h.elim
 |_::_,[],h,_=>h.elim
theorem cO.kept{fp:Nat→Value}{F G:Nat→Prop}{base:Nat}{w:World}{sb gf cap time stop:Nat}{tv outv:Value}{fvs:List FVal}{m:cM}(h:cO fp F base w sb gf cap (.int .i64 time) tv outv (.int .i64 stop) fvs m)(hF:∀k,F k→G k)(hG:∀k∈aF sb gf outv fvs,k≠sb→G k):
 mX fp G w (.agg #[.int .i64 time,.slice (some ⟨gf,0,none⟩) fvs.length cap,tv,outv,.int .i64 stop]) ⟨time,m,stop⟩:=by
 obtain⟨n1,n2⟩:=List.nodup_cons.1 h.nodup;have hne:∀k,k∈gf::(outv.ownBlock.toList++aS fvs)→k≠sb:=fun k hk e=>n1 (by rw[←e];exact hk)
 have hg:∀k,k∈gf::(outv.ownBlock.toList++aS fvs)→G k:=fun k hk=>hG k (List.mem_cons_of_mem _ hk) (hne k hk)
 refine⟨_,tv,outv,fvs,rfl,?_,iE.kept hF h.frs fun v hv k hk=>hg k ?_,h.tape.keep (fun _ _=>rfl) hF,?_⟩
 ·rcases h.row.2 with ⟨r1,_⟩|⟨g',cap',cur,r1,r2,r3,r4,r5,r6,r7⟩
  ·cases r1
  ·cases r1;exact Or.inr ⟨gf,cap,cur,rfl,hg gf (by simp),r3,r4,r7⟩
 ·have hm:k∈aS fvs:=List.mem_flatMap.2 ⟨v,hv,hk⟩;simp[hm]
 ·rcases h.out.2 with ⟨r1,r2⟩|⟨g',cap',cur,r1,r2,r3,r4,r5,r6,r7⟩
  ·exact Or.inl ⟨List.eq_nil_of_length_eq_zero r2,r1⟩
  ·exact Or.inr ⟨g',cap',cur,r1,hg g' (by rw[r1];simp[Value.ownBlock]),r3,r4,by simpa using r7⟩
theorem Kept.setCell{own:List Nat}{w W:World}(h:Kept own w W)(p:Addr)(x:Value)(hp:p.block∈own):Kept own w (W.setCell p x):=
 ⟨h.os,h.tape,h.output,by simpa using h.size,fun k hk hn=>by rw[Below.heap_setCell _ _ _ _ fun e=>hn (by rw[e];exact hp),h.block k hk hn]⟩
theorem OB(w w2:World)(time stop x0 n c0:Nat)(fv tv xo:Value)(P:Value→World→Prop)(A:Nat→Nat→World→Prop)(C E:Nat→Nat→Nat→World→Prop)(D1 D2:Nat→Nat→Nat→Option Addr→Nat→Nat→World→Prop)(O:Nat→Nat→Option Addr→Nat→Nat→World→Prop)(hn:n≤100)
 (hfv:fv=.slice (some ⟨x0,0,none⟩) n c0) (hxo:∃xa xl xc,xo=.slice xa xl xc) (htv:∃ta tl tc,tv=.slice ta tl tc)
 (hW:(w.alloc (.cells #[.int .i64 time,fv,tv,xo,.int .i64 stop] 108)).alloc (.cells #[.int .i64 0,.slice none 0 0,.slice none 0 0,.slice none 0 0,.int .i64 0] 108)=w2)
 (HC:Hid (Calls Tryz.prog 281 #[fv] w2 fun e w'=>∃g cap,e=.returned (.slice (some ⟨g,0,none⟩) n cap)∧A g cap w'))
 (HA:Hid (∀g cap W,A g cap W→(∃u,W.cell? ⟨w.heap.size,1,none⟩=some u)∧W.frozen? ⟨w.heap.size,1,none⟩=false∧w.heap.size<W.heap.size∧C g cap 0 (W.setCell ⟨w.heap.size,1,none⟩ (.slice (some ⟨g,0,none⟩) n cap))))
 (HR:Hid (∀g cap j W,C g cap j W→W.cell? ⟨w.heap.size,1,none⟩=some (.slice (some ⟨g,0,none⟩) n cap)∧w.heap.size<W.heap.size∧g<W.heap.size))
 (HV:Hid (∀g cap j W,C g cap j W→j<n→∃x l c,W.cell? ⟨g,j*6+4,none⟩=some (.slice x l c)∧Calls Tryz.prog 282 #[.slice x l c] W fun e w'=>∃x' c',e=.returned (.slice x' l c')∧D1 g cap j x' l c' w'))
 (HD1:Hid (∀g cap j x l c W,D1 g cap j x l c W→(∃u,W.cell? ⟨g,j*6+4,none⟩=some u)∧W.frozen? ⟨g,j*6+4,none⟩=false∧g<W.heap.size∧E g cap j (W.setCell ⟨g,j*6+4,none⟩ (.slice x l c))))
 (HE:Hid (∀g cap j W,E g cap j W→∃x l c,W.cell? ⟨g,j*6+5,none⟩=some (.slice x l c)∧g<W.heap.size∧Calls Tryz.prog 282 #[.slice x l c] W fun e w'=>∃x' c',e=.returned (.slice x' l c')∧D2 g cap j x' l c' w'))
 (HD2:Hid (∀g cap j x l c W,D2 g cap j x l c W→(∃u,W.cell? ⟨g,j*6+5,none⟩=some u)∧W.frozen? ⟨g,j*6+5,none⟩=false∧g<W.heap.size∧C g cap (j+1) (W.setCell ⟨g,j*6+5,none⟩ (.slice x l c))))
 (HO:Hid (∀g cap W,C g cap n W→W.cell? ⟨w.heap.size,3,none⟩=some xo∧Calls Tryz.prog 109 #[xo] W fun e w'=>∃x' l' c',e=.returned (.slice x' l' c')∧O g cap x' l' c' w'))
 (HF:Hid (∀g cap x l c W,O g cap x l c W→(W.cell? ⟨w.heap.size,0,none⟩=some (.int .i64 time)∧W.cell? ⟨w.heap.size,1,none⟩=some (.slice (some ⟨g,0,none⟩) n cap)∧W.cell? ⟨w.heap.size,2,none⟩=some tv∧(∃u,W.cell? ⟨w.heap.size,3,none⟩=some u)∧W.cell? ⟨w.heap.size,4,none⟩=some (.int .i64 stop)∧W.frozen? ⟨w.heap.size,3,none⟩=false∧w.heap.size+1<W.heap.size)∧
   (W.heap[w.heap.size+1]?=some (.cells #[.int .i64 0,.slice none 0 0,.slice none 0 0,.slice none 0 0,.int .i64 0] 108 (0,0)))))
 (HP:Hid (∀g cap x l c W W',O g cap x l c W→Kept [w.heap.size,w.heap.size+1] W W'→W'.heap.size=W.heap.size→P (.agg #[.int .i64 time,.slice (some ⟨g,0,none⟩) n cap,tv,.slice x l c,.int .i64 stop]) W')):
 Calls Tryz.prog 226 #[.agg #[.int .i64 time,fv,tv,xo,.int .i64 stop]] w fun e w'=>∃v,e=.returned v∧P v w':=by
 obtain⟨xa,xl,xc,rfl⟩:=hxo;obtain⟨ta,tl,tc,rfl⟩:=htv;subst hfv;have HW:=aB hW;clear hW;go_enter Tryz.func226,Tryz.ntmps226;go_wp2_with fail;rw[HW.out];refine HC.out.mono ?_;rintro e w3 ⟨g,cap,rfl,h3⟩;obtain⟨⟨u3,a1⟩,a2,a3,h4⟩:=HA.out _ _ _ h3;obtain⟨b1,b2,b3⟩:=HR.out _ _ _ _ h4;have H4:=aB h4;clear h3 h4;generalize hW4:w3.setCell ⟨w.heap.size,1,none⟩ (.slice (some ⟨g,0,none⟩) n cap)=w4 at H4 b1 b2 b3;have HW4:=aB hW4;clear hW4;go_wp2_with fail;rw[HW4.out];go_wp2_with fail;go_loopg [3,4,12] n (fun gk _ _ i wr=>∃j:Nat,j+gk=n∧i=.int .i64 j∧C g cap j wr)
 case atStart=>exact⟨0,by omega,rfl,H4.out⟩
 case round=>
  obtain⟨j,hj,rfl,hC⟩:=hrel;obtain⟨b1,b2,b3⟩:=HR.out _ _ _ _ hC;by_cases hlt:j<n
  ·obtain⟨m,rfl⟩:∃m,gk=m+1:=⟨gk-1,by omega⟩
   obtain⟨x,l,c,c1,hcl⟩:=HV.out _ _ _ _ hC hlt;have HCL:=aB hcl;have e1:(0:Int)≤(j:Int):=by omega
   have e2:(j:Int)<(n:Int):=by omega
   clear hC hcl;go_wp2_with fail;refine HCL.out.mono ?_;rintro e w5 ⟨x',c',rfl,h5⟩;obtain⟨⟨u5,d1⟩,d2,d3,h6⟩:=HD1.out _ _ _ _ _ _ _ h5;obtain⟨y,l2,c2,y1,y2,hcl2⟩:=HE.out _ _ _ _ h6;have HCL2:=aB hcl2;have y1':w5.cell? ⟨g,j*6+5,none⟩=some (.slice y l2 c2):=by simpa [go_sem] using y1
   clear h5 h6 hcl2 y1 y2;go_wp2_with fail;refine HCL2.out.mono ?_;rintro e w7 ⟨y',d',rfl,h7⟩;obtain⟨⟨u7,f1⟩,f2,f3,h8⟩:=HD2.out _ _ _ _ _ _ _ h7;have H8:=aB h8;clear h7 h8;go_wp2_with fail;go_roundg m
   case measure=>omega
   case rel=>exact⟨j+1,by omega,by go_num,H8.out⟩
  ·have hjn:j=n:=by omega
   subst hjn;obtain⟨o1,hcl⟩:=HO.out _ _ _ hC;have HCL:=aB hcl;clear hC hcl;go_wp2_with fail;refine HCL.out.mono ?_;rintro e w5 ⟨x',l',c',rfl,h5⟩;obtain⟨⟨p0,p1,p2,⟨u3,p3⟩,p4,pf,pl⟩,pb⟩:=HF.out _ _ _ _ _ _ h5;have hb0:w5.cell? ⟨w.heap.size+1,0,none⟩=some (.int .i64 0):=aA pb rfl;have hb1:w5.cell? ⟨w.heap.size+1,1,none⟩=some (.slice none 0 0):=aA pb rfl;have hb2:w5.cell? ⟨w.heap.size+1,2,none⟩=some (.slice none 0 0):=aA pb rfl;have hb3:w5.cell? ⟨w.heap.size+1,3,none⟩=some (.slice none 0 0):=aA pb rfl;have hb4:w5.cell? ⟨w.heap.size+1,4,none⟩=some (.int .i64 0):=aA pb rfl;have hf0:=aE (i:=0) pb;have hf1:=aE (i:=1) pb;have hf2:=aE (i:=2) pb;have hf3:=aE (i:=3) pb;have hf4:=aE (i:=4) pb;have H5:=aB h5;clear h5 pb;have hl0:w.heap.size<w5.heap.size:=by omega
   go_wp2_with fail;refine⟨rfl,.agg #[.int .i64 time,.slice (some ⟨g,0,none⟩) j cap,.slice ta tl tc,.slice x' l' c',.int .i64 stop],?_,_,rfl,HP.out _ _ _ _ _ _ _ H5.out ?_ (by simp)⟩
   ·simp[results,Tryz.results226,go_sem,hb0,hb1,hb2,hb3,hb4]
   ·exact((((((Kept.refl _ _).setCell _ _ (by simp)).setCell _ _ (by simp)).setCell _ _ (by simp)).setCell _ _ (by simp)).setCell _ _ (by simp)).setCell _ _ (by simp)
theorem D5(a b:List FVal)(v:FVal)(i:Nat)(hi:i<6):(fS (a++v::b))[a.length*6+i]?=v.cells[i]?:=by
 rw[iU,List.getElem?_append_right (by rw[dV];omega),dV,Nat.add_sub_cancel_left]
 show (v.cells++fS b)[i]?=_
 rw[List.getElem?_append_left (by exact hi)]
theorem XG(a b:List FVal)(v v':FVal)(i:Nat)(x:Value)(hi:i<6)(hv:v'.cells=v.cells.set i x):(fS (a++v::b)).set (a.length*6+i) x=fS (a++v'::b):=by
 rw[iU,iU,List.set_append_right _ _ (by rw[dV];omega),dV,Nat.add_sub_cancel_left]
 show fS a++(v.cells++fS b).set i x=fS a++(v'.cells++fS b)
 rw[List.set_append_left _ _ (by exact hi),hv]
structure CI(w:World)(time stop n g cap:Nat)(tv xo:Value)(fvs':List FVal)(own:List Nat)(W:World):Prop where
 row:W.ownsRow (w.heap.size+2) 195 6 (.slice (some ⟨g,0,none⟩) n cap) n (fS fvs')
 nodup:(g::own).Nodup
 rng:∀k∈g::own,w.heap.size+2≤k∧k<W.heap.size
 bel:Below w.heap.size w W
 b1:W.heap[w.heap.size]?=some (.cells #[.int .i64 time,.slice (some ⟨g,0,none⟩) n cap,tv,xo,.int .i64 stop] 108 (0,0))
 b2:W.heap[w.heap.size+1]?=some (.cells #[.int .i64 0,.slice none 0 0,.slice none 0 0,.slice none 0 0,.int .i64 0] 108 (0,0))
section
variable {w:World} {time stop n g cap:Nat} {tv xo:Value} {own:List Nat} {W W':World} {a b:List FVal} {v v':FVal}
theorem CI.cell(h:CI w time stop n g cap tv xo (a++v::b) own W)(i:Nat)(hi:i<6):W.cell? ⟨g,a.length*6+i,none⟩=v.cells[i]?∧W.frozen? ⟨g,a.length*6+i,none⟩=false∧g<W.heap.size:=by
 refine⟨?_,h.row.frozenAt _,(h.rng g (by simp)).2⟩
 have hl:=h.row.1;rw[dV,List.length_append,List.length_cons] at hl;rw[h.row.cellAt (a.length*6+i) (by omega),D5 a b v i hi]
theorem CI.grow{fvs':List FVal}(h:CI w time stop n g cap tv xo fvs' own W)(hb:Below W.heap.size W W')(o:Option Nat)(ho:∀k,o=some k→W.heap.size≤k∧k<W'.heap.size):CI w time stop n g cap tv xo fvs' (own++o.toList) W':=by
 have hw:=h.bel.size;have h1:=aD h.b1;have h2:=aD h.b2;refine⟨iA h.row hb,?_,fun k hk=>?_,h.bel.trans (hb.mono hw),by rw[hb.block _ h1];exact h.b1,by rw[hb.block _ h2];exact h.b2⟩
 ·rw[←List.cons_append];refine List.nodup_append.2 ⟨h.nodup,by cases o<;>simp,fun x hx y hy e=>?_⟩
  subst e;have hy':o=some x:=by simpa using hy
  have:=(h.rng x hx).2;have:=(ho x hy').1;omega
 ·rw[←List.cons_append] at hk;rcases List.mem_append.1 hk with hk|hk
  ·exact⟨(h.rng k hk).1,Nat.lt_of_lt_of_le (h.rng k hk).2 hb.size⟩
  ·have hk':o=some k:=by simpa using hk
   have:=(ho k hk').1;exact⟨by omega,(ho k hk').2⟩
theorem CI.set(h:CI w time stop n g cap tv xo (a++v::b) own W)(i:Nat)(hi:i<6)(x:Value)(hv:v'.cells=v.cells.set i x):CI w time stop n g cap tv xo (a++v'::b) own (W.setCell ⟨g,a.length*6+i,none⟩ x):=by
 have hg:=(h.rng g (by simp)).1
 have hk:∀k,k≠g→(W.setCell ⟨g,a.length*6+i,none⟩ x).heap[k]?=W.heap[k]?:=fun k hk=>Below.heap_setCell _ _ _ _ hk
 refine⟨?_,h.nodup,fun k hk=>⟨(h.rng k hk).1,by simpa using (h.rng k hk).2⟩,h.bel.setCell (by show w.heap.size≤g;omega) _,by rw[hk _ (by omega)];exact h.b1,by rw[hk _ (by omega)];exact h.b2⟩
 rw[←XG a b v v' i x hi hv];exact(h.row.stored _ _).1
theorem CI.keep{fvs':List FVal}(h:CI w time stop n g cap tv xo fvs' own W):w.heap.size<W.heap.size∧w.heap.size+1<W.heap.size:=⟨aD h.b1,aD h.b2⟩
end
structure OU(fp:Nat→Value)(F:Nat→Prop)(base:Nat)(w:World)(gf cap:Nat)(tv outv:Value)(fvs:List FVal)(m:cM):Prop where
 row:w.ownsRow base 195 6 (.slice (some ⟨gf,0,none⟩) fvs.length cap) fvs.length (fS fvs)
 frs:iE fp F base w fvs m.frames
 tape:qA F w tv m.tape
 out:w.ownsRow base 9 1 outv m.out.length (lA m.out)
 nodup:(gf::(outv.ownBlock.toList++aS fvs)).Nodup
 rng:∀k∈gf::(outv.ownBlock.toList++aS fvs),base≤k∧k<w.heap.size
theorem PVs.cells{F:Nat→Prop}{w:World}{v:Value}{l:List aI}(h:PVs F w v l)(hl:l.length≤1000000):
 ∃x c,v=.slice x l.length c∧Calls Tryz.prog 282 #[.slice x l.length c] w fun e w'=>∃x' c' ys,e=.returned (.slice x' l.length c')∧w'.ownsRow w.heap.size 256 1 (.slice x' l.length c') l.length ys∧fR F w ys l∧Below w.heap.size w w':=by
 rcases h.row with ⟨rfl,rfl⟩|⟨g,cap,xs,rfl,hg,hgl,hr,hc⟩
 ·refine⟨none,0,rfl,(rG w).mono ?_⟩;rintro e w' ⟨rfl,rfl⟩;exact⟨none,0,[],rfl,World.ownsRow_nil _ _ _ _,fR.nil _ _,Below.refl _ _⟩
 ·refine⟨_,_,rfl,(rH g 0 l.length cap xs w (by rw[hr.1];omega) hl (fun j u hj=>by rw[Nat.zero_add];exact hc j u hj) (nG hr)).mono ?_⟩
  rintro e w' ⟨v',rfl,ho,hb⟩;obtain⟨x',c',rfl⟩:=cP ho;exact⟨x',c',xs,rfl,ho,hr,hb⟩
theorem kS{fp:Nat→Value}{F:Nat→Prop}{base:Nat}{w w':World}{vs:List FVal}{fs:List aK}(h:iE fp F base w vs fs)(hF:∀b,F b→w'.heap[b]?=w.heap[b]?)(ho:∀k∈aS vs,w'.heap[k]?=w.heap[k]?):iE fp F base w' vs fs:=
 h.keep hF (fun _ h=>h) fun v hv k hk=>ho k (List.mem_flatMap.2 ⟨v,hv,hk⟩)
theorem IK(us:List FVal)(v:FVal):aS (us++[v])=aS us++v.owns:=by simp[aS]
theorem gW{w:World}{base base':Nat}{e:TypeId}{size:Nat}{v:Value}{n:Nat}{xs:List Value}(h:w.ownsRow base e size v n xs)(hb:base'≤base):w.ownsRow base' e size v n xs:=by
 refine⟨h.1,?_⟩;rcases h.2 with h|⟨g,cap,cur,h1,h2,h3⟩
 ·exact Or.inl h
 ·exact Or.inr ⟨g,cap,cur,h1,Nat.le_trans hb h2,h3⟩
def U7(fp:Nat→Value)(F:Nat→Prop)(w:World)(time stop n:Nat)(tv xo:Value)(fvs:List FVal)(frames:List aK)(g cap j:Nat)(W:World):Prop:=
 ∃us:List FVal,us.length=j∧CI w time stop n g cap tv xo (us++fvs.drop j) (aS us) W∧iE fp F (w.heap.size+2) W us (frames.take j)
def U8(fp:Nat→Value)(F:Nat→Prop)(w:World)(time stop n:Nat)(tv xo:Value)(fvs:List FVal)(frames:List aK)(g cap j:Nat)(W:World):Prop:=
 ∃(us:List FVal) (v:FVal) (f:aK) (x:Value),us.length=j∧fvs[j]?=some v∧frames[j]?=some f∧CI w time stop n g cap tv xo (us++{ v with vv:=x }::fvs.drop (j+1)) (aS us++x.ownBlock.toList) W∧iE fp F (w.heap.size+2) W us (frames.take j)∧lF F (w.heap.size+2) W x f.vars
theorem SI{fp:Nat→Value}{F:Nat→Prop}{w:World}{v:Value}{s:bW}(h:mX fp F w v s)(hF:∀k,F k→k<w.heap.size)(hne:s.m.frames≠[])(hfr:s.m.frames.length≤16)(hb:∀f∈s.m.frames,f.vars.length≤90001∧f.ops.length≤99000)(hol:s.m.out.length≤50):
 Calls Tryz.prog 226 #[v] w fun e w'=>∃v',e=.returned v'∧∃gf cap tv outv fvs,v'=.agg #[.int .i64 s.time,.slice (some ⟨gf,0,none⟩) fvs.length cap,tv,outv,.int .i64 s.stop]∧Below w.heap.size w w'∧OU fp F w.heap.size w' gf cap tv outv fvs s.m:=by
 obtain⟨fv,tv,xo,fvs,rfl,hrow,hfs,htp,hst⟩:=h;have hlen:=hfs.length
 have hnpos:0<fvs.length:=by
  rw[hlen];exact List.length_pos_iff.2 hne
 rcases hrow with ⟨e,_⟩|⟨x0,c0,cur,rfl,hFx,hcur,hcap,htk⟩
 ·rw[e] at hnpos;simp at hnpos
 have htvf:∃ta tl tc,tv=.slice ta tl tc:=by
  rcases htp with ⟨_,x,c,e⟩|⟨g,o,c,e,_⟩
  ·exact⟨_,_,_,e⟩
  ·exact⟨_,_,_,e⟩
 have hxof:∃xa xl xc,xo=.slice xa xl xc:=by
  rcases hst with ⟨_,e⟩|⟨g,c,cu,e,_⟩
  ·exact⟨_,_,_,e⟩
  ·exact⟨_,_,_,e⟩
 generalize hW2:(w.alloc (.cells #[.int .i64 s.time,.slice (some ⟨x0,0,none⟩) fvs.length c0,tv,xo,.int .i64 s.stop] 108)).alloc (.cells #[.int .i64 0,.slice none 0 0,.slice none 0 0,.slice none 0 0,.int .i64 0] 108)=w2;have hb2:Below w.heap.size w w2:=by rw[←hW2];exact((Below.refl _ w).alloc (Nat.le_refl _) _).alloc (by simp) _
 have hs2:w2.heap.size=w.heap.size+2:=by rw[←hW2];simp
 have hB1:w2.heap[w.heap.size]?=some (.cells #[.int .i64 s.time,.slice (some ⟨x0,0,none⟩) fvs.length c0,tv,xo,.int .i64 s.stop] 108 (0,0)):=by
  rw[←hW2,Below.heap_alloc _ _ _ (by simp)];exact aR _ _ rfl _
 have hB2:w2.heap[w.heap.size+1]?=some (.cells #[.int .i64 0,.slice none 0 0,.slice none 0 0,.slice none 0 0,.int .i64 0] 108 (0,0)):=by
  rw[←hW2];exact aR _ _ (by simp) _
 have hFk2:∀b,F b→w2.heap[b]?=w.heap[b]?:=fun b hb=>hb2.block b (hF b hb)
 have hkF:∀{W:World},Below w.heap.size w W→∀b,F b→W.heap[b]?=w.heap[b]?:=fun hb b hb'=>hb.block b (hF b hb')
 have honeAll:∀u∈fS fvs,u.oneCell'=true:=by
  have hgen:∀(vs:List FVal) (fs:List aK),tX fp F w vs fs→∀u∈fS vs,u.oneCell'=true:=by
   intro vs;induction vs with
   |nil=>intro fs _ u hu;cases hu
   |cons v vs ih=>
    intro fs hfs u hu;cases fs with
    |nil=>exact hfs.elim
    |cons f fs=>
     obtain⟨h1,h2⟩:=hfs;rcases List.mem_append.1 hu with hu|hu
     ·obtain⟨fbk,gc,cp,row,e1,_⟩:=h1.fn;obtain⟨p,hp⟩:=h1.sp.form
      have hvv:∃x n c,v.vv=.slice x n c:=by
       rcases h1.vars.row with ⟨_,e⟩|⟨g,c,xs,e,_⟩<;>exact⟨_,_,_,e⟩
      have hov:∃x n c,v.ov=.slice x n c:=by
       rcases h1.ops.row with ⟨_,e⟩|⟨g,c,xs,e,_⟩<;>exact⟨_,_,_,e⟩
      obtain⟨x1,n1,c1,e2⟩:=hvv;obtain⟨x2,n2,c2,e3⟩:=hov;simp only[FVal.cells,e1,h1.nx,h1.ln,hp,e2,e3,List.mem_cons,List.not_mem_nil,or_false] at hu;rcases hu with rfl|rfl|rfl|rfl|rfl|rfl<;>rfl
     ·exact ih fs h2 u hu
  exact hgen fvs s.m.frames hfs
 have hfget:∀j (hj:j<fvs.length),∃v f,fvs[j]?=some v∧s.m.frames[j]?=some f∧R8 fp F w v f∧f∈s.m.frames∧fvs.drop j=v::fvs.drop (j+1)∧s.m.frames.take (j+1)=s.m.frames.take j++[f]:=fun j hj=>by
  have hj':j<s.m.frames.length:=by omega
  refine⟨fvs[j],s.m.frames[j],List.getElem?_eq_getElem hj,List.getElem?_eq_getElem hj',hfs.get j _ _ (List.getElem?_eq_getElem hj) (List.getElem?_eq_getElem hj'),List.getElem_mem hj',List.drop_eq_getElem_cons hj,List.take_succ_eq_append_getElem hj'⟩
 have hR:∀g cap j W,U7 fp F w s.time s.stop fvs.length tv xo fvs s.m.frames g cap j W→W.cell? ⟨w.heap.size,1,none⟩=some (.slice (some ⟨g,0,none⟩) fvs.length cap)∧w.heap.size<W.heap.size∧g<W.heap.size:=fun g cap j W hq=>by
  obtain⟨us,_,hc,_⟩:=hq;exact⟨aA hc.b1 rfl,aD hc.b1,(hc.rng g (by simp)).2⟩
 refine(OB w w2 s.time s.stop x0 fvs.length c0 (.slice (some ⟨x0,0,none⟩) fvs.length c0) tv xo
  (fun v' w'=>∃gf cap tv outv fvs,v'=.agg #[.int .i64 s.time,.slice (some ⟨gf,0,none⟩) fvs.length cap,tv,outv,.int .i64 s.stop]∧Below w.heap.size w w'∧OU fp F w.heap.size w' gf cap tv outv fvs s.m)
  (fun g cap W=>W.ownsRow (w.heap.size+2) 195 6 (.slice (some ⟨g,0,none⟩) fvs.length cap) fvs.length (fS fvs)∧Below w2.heap.size w2 W)
  (U7 fp F w s.time s.stop fvs.length tv xo fvs s.m.frames) (U8 fp F w s.time s.stop fvs.length tv xo fvs s.m.frames)
  (fun g cap j x l c W=>∃us v f,us.length=j∧fvs[j]?=some v∧s.m.frames[j]?=some f∧CI w s.time s.stop fvs.length g cap tv xo (us++v::fvs.drop (j+1)) (aS us++(Value.slice x l c).ownBlock.toList) W∧iE fp F (w.heap.size+2) W us (s.m.frames.take j)∧lF F (w.heap.size+2) W (.slice x l c) f.vars)
  (fun g cap j x l c W=>∃us v f y,us.length=j∧fvs[j]?=some v∧s.m.frames[j]?=some f∧CI w s.time s.stop fvs.length g cap tv xo (us++{ v with vv:=y }::fvs.drop (j+1)) (aS us++y.ownBlock.toList++(Value.slice x l c).ownBlock.toList) W∧iE fp F (w.heap.size+2) W us (s.m.frames.take j)∧lF F (w.heap.size+2) W y f.vars∧lF F (w.heap.size+2) W (.slice x l c) f.ops)
  (fun g cap x l c W=>∃us,us.length=fvs.length∧CI w s.time s.stop fvs.length g cap tv xo us (aS us++(Value.slice x l c).ownBlock.toList) W∧iE fp F (w.heap.size+2) W us s.m.frames∧W.ownsRow (w.heap.size+2) 9 1 (.slice x l c) s.m.out.length (lA s.m.out))
  (by omega) rfl hxof htvf hW2 ?_ (fun g cap W hq=>?_) hR (fun g cap j W hq hj=>?_) (fun g cap j x l c W hq=>?_) (fun g cap j W hq=>?_) (fun g cap j x l c W hq=>?_) (fun g cap W hq=>?_) (fun g cap x l c W hq=>?_) (fun g cap x l c W W' hq hk hsz=>?_))
 ·refine(EB x0 0 fvs.length c0 (fS fvs) w2 (by rw[dV]) (by omega) (fun j u hj=>?_) honeAll).mono ?_
  ·rw[Nat.zero_add];rw[←htk,List.getElem?_take] at hj;split at hj
   ·exact aA ((hFk2 x0 hFx).trans hcur) (by simpa using hj)
   ·cases hj
  ·rintro e w' ⟨v',rfl,ho,hbw⟩;rw[hs2] at ho;rcases ho.2 with ⟨r1,r2⟩|⟨g,cp,cu,r1,_⟩
   ·omega
   ·rw[r1] at ho ⊢
    exact⟨g,cp,rfl,ho,hbw⟩
 ·obtain⟨ho,hbw⟩:=hq;have hg:=ho.lt g rfl;have hb1:W.heap[w.heap.size]?=_:=(hbw.block _ (by omega)).trans hB1
  have hb2':W.heap[w.heap.size+1]?=_:=(hbw.block _ (by omega)).trans hB2
  refine⟨⟨_,aA hb1 rfl⟩,aE hb1,aD hb1,[],rfl,⟨?_,by simp[aS],fun k hk=>?_,?_,aQ hb1,?_⟩,trivial⟩
  ·exact aY ho fun k e=>Below.heap_setCell _ _ _ _ (by cases e;show g≠w.heap.size;omega)
  ·simp[aS] at hk;subst hk;exact⟨hg.1,by simpa using hg.2⟩
  ·exact(hb2.trans (hbw.mono (by omega))).setCell (Nat.le_refl _) _
  ·rw[Below.heap_setCell _ _ _ _ (by show w.heap.size+1≠w.heap.size;omega)];exact hb2'
 ·obtain⟨us,rfl,hc,hus⟩:=hq;obtain⟨v,f,e1,e2,hv,hfm,e3,e4⟩:=hfget us.length hj;rw[e3] at hc;obtain⟨c1,c2,c3⟩:=hc.cell 4 (by omega)
  have hvk:=hv.keep (hkF hc.bel) fun _ h=>h
  obtain⟨x,c,e5,hcl⟩:=hvk.vars.cells (by have:=(hb f hfm).1;omega)
  refine⟨x,f.vars.length,c,c1.trans (by rw[←e5];rfl),hcl.mono ?_⟩
  rintro e w' ⟨x',c',ys,he,ho,hr,hbw⟩;have hobl:∀k,(Value.slice x' f.vars.length c').ownBlock=some k→W.heap.size≤k∧k<w'.heap.size:=fun k hk=>ho.lt k hk
  have hsz:=hc.keep;refine⟨x',c',he,us,v,f,rfl,e1,e2,hc.grow hbw _ hobl,kS hus (fun b hb'=>hbw.block b (Nat.lt_of_lt_of_le (hF b hb') hc.bel.size)) (fun k hk=>hbw.block k (hc.rng k (List.mem_cons_of_mem _ hk)).2),⟨ys,gW ho (by omega),hr.keep fun b hb'=>hbw.block b (Nat.lt_of_lt_of_le (hF b hb') hc.bel.size)⟩,hv.varsB⟩
 ·obtain⟨us,v,f,rfl,e1,e2,hc,hus,hvr⟩:=hq;obtain⟨c1,c2,c3⟩:=hc.cell 4 (by omega)
  have hgne:∀k∈aS us++(Value.slice x l c).ownBlock.toList,k≠g:=fun k hk e=>(List.nodup_cons.1 hc.nodup).1 (by rw[←e];exact hk)
  have hset:∀k,k≠g→(W.setCell ⟨g,us.length*6+4,none⟩ (.slice x l c)).heap[k]?=W.heap[k]?:=fun k hk=>Below.heap_setCell _ _ _ _ hk
  have hgF:∀b,F b→b≠g:=fun b hb' e=>by have h1:=hF b hb';have h2:=(hc.rng g (by simp)).1;omega
  refine⟨⟨_,c1⟩,c2,c3,us,v,f,_,rfl,e1,e2,hc.set 4 (by omega) _ rfl,kS hus (fun b hb'=>hset b (hgF b hb')) (fun k hk=>hset k (hgne k (List.mem_append_left _ hk))),hvr.keep (fun b hb'=>hset b (hgF b hb')) (fun _ h=>h) fun k hk=>hset k (hgne k (by simp[hk]))⟩
 ·obtain⟨us,v,f,x,rfl,e1,e2,hc,hus,hvr⟩:=hq;obtain⟨c1,c2,c3⟩:=hc.cell 5 (by omega)
  have hj:us.length<fvs.length:=(List.getElem?_eq_some_iff.1 e1).1;obtain⟨v',f',e1',e2',hv,hfm,e3,e4⟩:=hfget us.length hj;rw[e1] at e1';cases e1';rw[e2] at e2';cases e2';have hvk:=hv.keep (hkF hc.bel) fun _ h=>h
  obtain⟨y,d,e5,hcl⟩:=hvk.ops.cells (by have:=(hb f hfm).2;omega)
  refine⟨y,f.ops.length,d,c1.trans (by rw[←e5];rfl),c3,hcl.mono ?_⟩
  rintro e w' ⟨y',d',ys,he,ho,hr,hbw⟩;have hobl:∀k,(Value.slice y' f.ops.length d').ownBlock=some k→W.heap.size≤k∧k<w'.heap.size:=fun k hk=>ho.lt k hk
  have hsz:=hc.keep;have hFw:∀b,F b→w'.heap[b]?=W.heap[b]?:=fun b hb'=>hbw.block b (Nat.lt_of_lt_of_le (hF b hb') hc.bel.size)
  refine⟨y',d',he,us,v,f,x,rfl,e1,e2,hc.grow hbw _ hobl,kS hus hFw (fun k hk=>hbw.block k (hc.rng k (List.mem_cons_of_mem _ (List.mem_append_left _ hk))).2),hvr.keep hFw (fun _ h=>h) fun k hk=>hbw.block k (hc.rng k (by simp[hk])).2,⟨ys,gW ho (by omega),hr.keep hFw⟩,hv.opsB⟩
 ·obtain⟨us,v,f,y,rfl,e1,e2,hc,hus,hvr,hor⟩:=hq;obtain⟨c1,c2,c3⟩:=hc.cell 5 (by omega)
  have hj:us.length<fvs.length:=(List.getElem?_eq_some_iff.1 e1).1;obtain⟨v',f',e1',e2',hv,hfm,e3,e4⟩:=hfget us.length hj;rw[e1] at e1';cases e1';rw[e2] at e2';cases e2';have hgne:∀k∈aS us++y.ownBlock.toList++(Value.slice x l c).ownBlock.toList,k≠g:=fun k hk e=>(List.nodup_cons.1 hc.nodup).1 (by rw[←e];exact hk)
  have hset:∀k,k≠g→(W.setCell ⟨g,us.length*6+5,none⟩ (.slice x l c)).heap[k]?=W.heap[k]?:=fun k hk=>Below.heap_setCell _ _ _ _ hk
  have hgF:∀b,F b→b≠g:=fun b hb' e=>by have h1:=hF b hb';have h2:=(hc.rng g (by simp)).1;omega
  have hFs:∀b,F b→(W.setCell ⟨g,us.length*6+5,none⟩ (.slice x l c)).heap[b]?=W.heap[b]?:=fun b hb'=>hset b (hgF b hb')
  have hset5:=hc.set (v':={ v with vv:=y,ov:=.slice x l c }) 5 (by omega) (.slice x l c) rfl
  have hvS:=hv.keep (hkF (hset5.bel)) fun _ h=>h
  refine⟨⟨_,c1⟩,c2,c3,us++[{ v with vv:=y,ov:=.slice x l c }],by simp,?_,?_⟩
  ·have e5:aS (us++[{ v with vv:=y,ov:=.slice x l c }])=aS us++y.ownBlock.toList++(Value.slice x l c).ownBlock.toList:=by
    rw[IK,List.append_assoc];rfl
   have e6:us++[{ v with vv:=y,ov:=.slice x l c }]++fvs.drop (us.length+1)=us++{ v with vv:=y,ov:=.slice x l c }::fvs.drop (us.length+1):=by simp
   rw[e5,e6];exact hset5
  ·rw[e4];refine(kS hus hFs (fun k hk=>hset k (hgne k (by simp[hk])))).snoc ⟨hvS.fn,hvS.nx,hvS.ln,hvS.sp,hvr.keep hFs (fun _ h=>h) fun k hk=>hset k (hgne k (by simp[hk])),hor.keep hFs (fun _ h=>h) fun k hk=>hset k (hgne k (by simp[hk]))⟩
 ·obtain⟨us,hul,hc,hus⟩:=hq;rw[List.drop_of_length_le (Nat.le_refl _),List.append_nil] at hc;rw[hlen,List.take_of_length_le (Nat.le_refl _)] at hus;have hsz:=hc.keep;have hst':=hst.keep (hkF hc.bel) fun _ h=>h
  refine⟨aA hc.b1 rfl,?_⟩
  have hfin:∀x' l' c' (w':World),w'.ownsRow W.heap.size 9 1 (.slice x' l' c') s.m.out.length (lA s.m.out)→Below W.heap.size W w'→∃us,us.length=fvs.length∧CI w s.time s.stop fvs.length g cap tv xo us (aS us++(Value.slice x' l' c').ownBlock.toList) w'∧iE fp F (w.heap.size+2) w' us s.m.frames∧w'.ownsRow (w.heap.size+2) 9 1 (.slice x' l' c') s.m.out.length (lA s.m.out):=fun x' l' c' w' ho hbw=>
   ⟨us,hul,hc.grow hbw _ fun k hk=>ho.lt k hk,kS hus (fun b hb'=>hbw.block b (Nat.lt_of_lt_of_le (hF b hb') hc.bel.size)) (fun k hk=>hbw.block k (hc.rng k (List.mem_cons_of_mem _ hk)).2),gW ho (by omega)⟩
  rcases hst' with ⟨e1,rfl⟩|⟨go,co,cu,rfl,h1,h2,h3,h4⟩
  ·refine(rI W).mono ?_;rintro e w' ⟨rfl,rfl⟩;exact⟨none,0,0,rfl,hfin _ _ _ _ (by rw[e1];exact World.ownsRow_nil _ _ _ _) (Below.refl _ _)⟩
  ·refine(rJ go 0 s.m.out.length co (lA s.m.out) W (by simp[lA]) (by omega) (fun j u hj=>?_) (fun u hu=>?_)).mono ?_
   ·rw[Nat.zero_add];rw[←h4,List.getElem?_take] at hj;split at hj
    ·exact aA h2 (by simpa using hj)
    ·cases hj
   ·obtain⟨y,_,rfl⟩:=List.mem_map.1 hu;rfl
   ·rintro e w' ⟨v',rfl,ho,hbw⟩;obtain⟨x',c',rfl⟩:=cP ho;exact⟨x',_,c',rfl,hfin _ _ _ _ ho hbw⟩
 ·obtain⟨us,hul,hc,hus,ho⟩:=hq;exact⟨⟨aA hc.b1 rfl,aA hc.b1 rfl,aA hc.b1 rfl,⟨_,aA hc.b1 rfl⟩,aA hc.b1 rfl,aE hc.b1,aD hc.b2⟩,hc.b2⟩
 ·obtain⟨us,hul,hc,hus,ho⟩:=hq
  have hne2:∀k∈g::(aS us++(Value.slice x l c).ownBlock.toList),k∉[w.heap.size,w.heap.size+1]:=fun k hk hm=>by
   have:=(hc.rng k hk).1;simp at hm;omega
  have hkk:∀k∈g::(aS us++(Value.slice x l c).ownBlock.toList),W'.heap[k]?=W.heap[k]?:=fun k hk'=>hk.block k (hc.rng k hk').2 (hne2 k hk')
  have hFW:∀b,F b→W'.heap[b]?=W.heap[b]?:=fun b hb'=>hk.block b (Nat.lt_of_lt_of_le (hF b hb') hc.bel.size) (by have:=hF b hb';simp;omega)
  have hbW:Below w.heap.size w W':=⟨hk.os.trans hc.bel.os,hk.tape.trans hc.bel.tape,hk.output.trans hc.bel.output,by rw[hsz];exact hc.bel.size,fun k hk'=>by
   rw[hk.block k (Nat.lt_of_lt_of_le hk' hc.bel.size) (by simp;omega),hc.bel.block k hk']⟩
  have hperm:∀k,k∈g::((Value.slice x l c).ownBlock.toList++aS us)↔k∈g::(aS us++(Value.slice x l c).ownBlock.toList):=fun k=>by simp[or_comm]
  have hkeepN:∀(u:List FVal) (fs:List aK),iE fp F (w.heap.size+2) W' u fs→iE fp F w.heap.size W' u fs:=by
   intro u;induction u with
   |nil=>intro fs h;cases fs with
    |nil=>trivial
    |cons=>exact h.elim
   |cons v vs ih=>intro fs h;cases fs with
    |nil=>exact h.elim
    |cons f fs=>
     obtain⟨h1,h2⟩:=h;obtain⟨⟨xs,a1,a2⟩,a3⟩:=h1.vars;obtain⟨⟨ys,b1,b2⟩,b3⟩:=h1.ops;exact⟨⟨h1.fn,h1.nx,h1.ln,h1.sp,⟨⟨xs,gW a1 (by omega),a2⟩,a3⟩,⟨⟨ys,gW b1 (by omega),b2⟩,b3⟩⟩,ih fs h2⟩
  refine⟨g,cap,tv,.slice x l c,us,by rw[hul],hbW,⟨?_,hkeepN _ _ (kS hus hFW fun k hk'=>hkk k (by simp[hk'])),htp.keep (fun b hb'=>by rw[hbW.block b (hF b hb')]) (fun _ h=>h),?_,?_,fun k hk'=>?_⟩⟩
  ·rw[hul];exact gW (aY hc.row fun k e=>by cases e;exact hkk g (by simp)) (by omega)
  ·exact gW (aY ho fun k e=>hkk k (by simp[e])) (by omega)
  ·have:=hc.nodup;rw[List.nodup_cons] at this ⊢
   refine⟨fun hm=>this.1 (by simpa [or_comm] using hm),?_⟩
   exact(List.perm_append_comm.nodup_iff).1 this.2
  ·have:=hc.rng k ((hperm k).1 hk');exact⟨by omega,by rw[hsz];exact this.2⟩
theorem WA(w:World)(time stop:Nat)(fv tv xo:Value)(hs:stop≠0)(hfv:∃x l c,fv=.slice x l c)(htv:∃x l c,tv=.slice x l c)(hxo:∃x l c,xo=.slice x l c):
 Calls Tryz.prog 163 #[.agg #[.int .i64 time,fv,tv,xo,.int .i64 stop]] w fun e w'=>e=.returned (.tuple #[.agg #[.int .i64 0,.slice none 0 0,.slice none 0 0,.slice none 0 0,.int .i64 0],.bool false])∧Below w.heap.size w w':=by
 obtain⟨x1,l1,c1,rfl⟩:=hfv;obtain⟨x2,l2,c2,rfl⟩:=htv;obtain⟨x3,l3,c3,rfl⟩:=hxo;have e1:¬(stop:Int)=0:=by omega
 go_enter Tryz.func163,Tryz.ntmps163;go_wp2_with fail;refine⟨rfl,.tuple #[.agg #[.int .i64 0,.slice none 0 0,.slice none 0 0,.slice none 0 0,.int .i64 0],.bool false],?_,rfl,((Below.refl _ w).alloc (Nat.le_refl _) _).alloc (by simp) _⟩
 simp[results,Tryz.results163,go_sem]
theorem VZ(w w2:World)(time:Nat)(fv tv xo:Value)(P:Value→World→Prop)(A:Nat→Nat→Nat→Value→Value→World→Prop)(B:Nat→World→Prop)(ht:time≤1000000)(hfv:∃x l c,fv=.slice x l c)(htv:∃x l c,tv=.slice x l c)(hxo:∃x l c,xo=.slice x l c)
 (hW:(w.alloc (.cells #[.int .i64 time,fv,tv,xo,.int .i64 0] 108)).alloc (.cells #[.int .i64 0,.slice none 0 0,.slice none 0 0,.slice none 0 0,.int .i64 0] 108)=w2)
 (HC:Hid (Calls Tryz.prog 226 #[.agg #[.int .i64 time,fv,tv,xo,.int .i64 0]] w2 fun e w'=>∃gf n cap tv' xo',e=.returned (.agg #[.int .i64 time,.slice (some ⟨gf,0,none⟩) n cap,tv',xo',.int .i64 0])∧(∃x l c,tv'=.slice x l c)∧(∃x l c,xo'=.slice x l c)∧A gf n cap tv' xo' w'))
 (HG:Hid (∀gf n cap tv' xo' W,A gf n cap tv' xo' W→Calls Tryz.prog 125 #[.pointer (some ⟨W.heap.size,0,none⟩)] (W.alloc (.cells #[.int .i64 ((time+1:Nat):Int),.slice (some ⟨gf,0,none⟩) n cap,tv',xo',.int .i64 0] 108)) fun e w'=>e=.returned (.tuple #[])∧B W.heap.size w'))
 (HB:Hid (∀b W,B b W→∃(q:Nat) (f t o:Value) (st:Nat),W.heap[b]?=some (.cells #[.int .i64 q,f,t,o,.int .i64 st] 108 (0,0))∧(∃x l c,f=.slice x l c)∧(∃x l c,t=.slice x l c)∧(∃x l c,o=.slice x l c)∧W.heap[w.heap.size+1]?=some (.cells #[.int .i64 0,.slice none 0 0,.slice none 0 0,.slice none 0 0,.int .i64 0] 108 (0,0))∧b≠w.heap.size+1∧
   ∀W',Kept [w.heap.size+1] W W'→W'.heap.size=W.heap.size→P (.agg #[.int .i64 q,f,t,o,.int .i64 st]) W')):
 Calls Tryz.prog 163 #[.agg #[.int .i64 time,fv,tv,xo,.int .i64 0]] w fun e w'=>∃v',e=.returned (.tuple #[v',.bool true])∧P v' w':=by
 obtain⟨x1,l1,c1,rfl⟩:=hfv;obtain⟨x2,l2,c2,rfl⟩:=htv;obtain⟨x3,l3,c3,rfl⟩:=hxo;have HW:=aB hW;clear hW;go_enter Tryz.func163,Tryz.ntmps163;go_wp2_with fail;rw[HW.out];refine HC.out.mono ?_;rintro e w3 ⟨gf,n,cap,tv',xo',rfl,⟨y2,m2,d2,rfl⟩,⟨y3,m3,d3,rfl⟩,h3⟩;have HGG:=aB (HG.out _ _ _ _ _ _ h3);generalize hb:w3.heap.size=b at HGG;clear h3;rw[show ((time+1:Nat):Int)=(time:Int)+1 by omega] at HGG
 go_wp2_with fail;refine HGG.out.mono ?_;rintro e w4 ⟨rfl,h4⟩;obtain⟨q,f,t,o,st,q1,⟨z1,r1,s1,rfl⟩,⟨z2,r2,s2,rfl⟩,⟨z3,r3,s3,rfl⟩,q2,q3,q4⟩:=HB.out _ _ h4;have HQ:=aB q4;have hc0:w4.cell? ⟨b,0,none⟩=some (.int .i64 q):=aA q1 rfl;have hc1:w4.cell? ⟨b,1,none⟩=some (.slice z1 r1 s1):=aA q1 rfl;have hc2:w4.cell? ⟨b,2,none⟩=some (.slice z2 r2 s2):=aA q1 rfl;have hc3:w4.cell? ⟨b,3,none⟩=some (.slice z3 r3 s3):=aA q1 rfl;have hc4:w4.cell? ⟨b,4,none⟩=some (.int .i64 st):=aA q1 rfl;have hb0:w4.cell? ⟨w.heap.size+1,0,none⟩=some (.int .i64 0):=aA q2 rfl;have hb1:w4.cell? ⟨w.heap.size+1,1,none⟩=some (.slice none 0 0):=aA q2 rfl;have hb2:w4.cell? ⟨w.heap.size+1,2,none⟩=some (.slice none 0 0):=aA q2 rfl;have hb3:w4.cell? ⟨w.heap.size+1,3,none⟩=some (.slice none 0 0):=aA q2 rfl;have hb4:w4.cell? ⟨w.heap.size+1,4,none⟩=some (.int .i64 0):=aA q2 rfl;have hf0:=aE (i:=0) q2;have hf1:=aE (i:=1) q2;have hf2:=aE (i:=2) q2;have hf3:=aE (i:=3) q2;have hf4:=aE (i:=4) q2;have hl1:=aD q1;have hl2:=aD q2;clear h4 q4 q1 q2;go_wp2_with fail;refine⟨rfl,.tuple #[.agg #[.int .i64 q,.slice z1 r1 s1,.slice z2 r2 s2,.slice z3 r3 s3,.int .i64 st],.bool true],?_,_,rfl,HQ.out _ ?_ (by simp)⟩
 ·simp[results,Tryz.results163,go_sem,hb0,hb1,hb2,hb3,hb4]
 ·exact(((((Kept.refl _ _).setCell _ _ (by simp)).setCell _ _ (by simp)).setCell _ _ (by simp)).setCell _ _ (by simp)).setCell _ _ (by simp)
theorem sH{w:World}{base n k:Nat}{t:TypeId}{v:Value}{ys:List Value}(h:w.ownsRow base t k v n ys):∃x l c,v=.slice x l c:=by
 obtain⟨x,c,e⟩:=cP h;exact⟨x,n,c,e⟩
theorem yG.of{w w':World}{own:List Nat}(h:kI w)(hb:Below w.heap.size w w')(ho:∀k∈own,w.heap.size≤k):yG own w':=fun W hW=>by
 cases hg:Tryz.prog.globalNamed "internal/strconv.uint64pow10" with
 |none=>unfold kI Lib.TabIs World.var? at h;rw[hg] at h;cases h
 |some g=>
  have hgl:g<w.heap.size:=by
   unfold kI Lib.TabIs World.var? at h;rw[hg] at h;simp only[Option.bind_some] at h;rcases Nat.lt_or_ge g w.heap.size with h1|h1
   ·exact h1
   ·rw[Array.getElem?_eq_none (by exact h1)] at h
    cases h
  refine h.keep hg ?_;rw[hW.block g (Nat.lt_of_lt_of_le hgl hb.size) (fun hm=>by have:=ho g hm;omega),hb.block g hgl]
theorem mX.form{fp:Nat→Value}{F:Nat→Prop}{w:World}{v:Value}{s:bW}(h:mX fp F w v s):∃fv tv xo,v=.agg #[.int .i64 s.time,fv,tv,xo,.int .i64 s.stop]∧(∃x l c,fv=.slice x l c)∧(∃x l c,tv=.slice x l c)∧(∃x l c,xo=.slice x l c):=by
 obtain⟨fv,tv,xo,fvs,rfl,hrow,hfs,htp,hst⟩:=h;refine⟨fv,tv,xo,rfl,?_,?_,?_⟩
 ·rcases hrow with ⟨_,x,c,e⟩|⟨g,c,cur,e,_⟩<;>exact⟨_,_,_,e⟩
 ·rcases htp with ⟨_,x,c,e⟩|⟨g,o,c,e,_⟩<;>exact⟨_,_,_,e⟩
 ·rcases hst with ⟨_,e⟩|⟨g,c,cu,e,_⟩<;>exact⟨_,_,_,e⟩
theorem OU.run{fp:Nat→Value}{F:Nat→Prop}{base:Nat}{w:World}{gf cap:Nat}{tv outv:Value}{fvs:List FVal}{m:cM}(h:OU fp F base w gf cap tv outv fvs m)(hF:∀b,F b→b<base)(hbase:base≤w.heap.size)(t0 s0:Value):
 cO fp F base (w.alloc (.cells #[t0,.slice (some ⟨gf,0,none⟩) fvs.length cap,tv,outv,s0] 108)) w.heap.size gf cap t0 tv outv s0 fvs m∧∀k∈aF w.heap.size gf outv fvs,base≤k:=by
 generalize hW:w.alloc (.cells #[t0,.slice (some ⟨gf,0,none⟩) fvs.length cap,tv,outv,s0] 108)=W;have hb:Below w.heap.size w W:=by rw[←hW];exact(Below.refl _ w).alloc (Nat.le_refl _) _
 have hsz:W.heap.size=w.heap.size+1:=by rw[←hW];simp
 have hblk:W.heap[w.heap.size]?=some (.cells #[t0,.slice (some ⟨gf,0,none⟩) fvs.length cap,tv,outv,s0] 108 (0,0)):=by rw[←hW];exact aR _ _ rfl _
 have hFk:∀b,F b→W.heap[b]?=w.heap[b]?:=fun b hb'=>hb.block b (Nat.lt_of_lt_of_le (hF b hb') hbase)
 have hin:∀k∈gf::(outv.ownBlock.toList++aS fvs),W.heap[k]?=w.heap[k]?:=fun k hk=>hb.block k (h.rng k hk).2
 refine⟨⟨hblk,aY h.row fun k e=>by cases e;exact hin gf (by simp),kS h.frs hFk fun k hk=>hin k (by simp[hk]),h.tape.keep hFk (fun _ h=>h),aY h.out fun k e=>hin k (by simp[e]),?_,fun k hk=>?_,fun k hk=>?_⟩,fun k hk=>?_⟩
 ·exact List.nodup_cons.2 ⟨fun hm=>by have:=(h.rng _ hm).2;omega,h.nodup⟩
 ·rcases List.mem_cons.1 hk with rfl|hk
  ·omega
  ·have:=(h.rng k hk).2;omega
 ·have h1:=hF k hk;refine⟨by omega,fun hm=>?_⟩
  rcases List.mem_cons.1 hm with rfl|hm
  ·omega
  ·have:=(h.rng k hm).1;omega
 ·rcases List.mem_cons.1 hk with rfl|hk
  ·exact hbase
  ·exact(h.rng k hk).1
theorem PR{fp:Nat→Value}{F:Nat→Prop}{w:World}{v:Value}{s:bW}{ar:Nat→Option Nat}{tab:List eJ}{k:Nat}{r:cM × Nat}(ht:jF ar tab)(htu:iW tab)(h:mX fp F w v s)(hF:∀b,F b→b<w.heap.size)(hT:kH fp F w tab)(hp:kI w)(hs:s.stop=0)
 (hA:fC ar s.m) (hne:s.m.frames≠[]) (hU:fL s.m) (hol:s.m.out.length≤50) (htl:s.m.tape.length≤1000000000) (hk:dN tab k s.m=some r) (htm:s.time+1≤1000000) (hr:r.2≤1000):
 Calls Tryz.prog 163 #[v] w fun e w'=>∃v',e=.returned (.tuple #[v',.bool true])∧Below w.heap.size w w'∧∃G,Ext F G w.heap.size∧(∀b,G b→b<w'.heap.size)∧mX fp G w' v' ⟨s.time+1,r.1,bQ (s.time+1) r.2⟩:=by
 obtain⟨fv,tv,xo,rfl,f1,f2,f3⟩:=h.form
 have hops:∀f∈s.m.frames,f.vars.length≤90001∧f.ops.length≤99000:=fun f hf=>by
  have hq:∃more,cE ar f more:=by
   obtain⟨b,g,e⟩:=mB hne;rw[e] at hf;have hlow:=hA.ok.low;have htop:=hA.ok.top;rw[e,fQ] at hlow;rw[e,eW] at htop;rcases List.mem_append.1 hf with h1|h1
   ·exact⟨1,hlow f h1⟩
   ·rw[List.mem_singleton.1 h1];exact⟨0,htop g rfl⟩
  obtain⟨more,⟨T,hc,hh,_⟩,hn,_,hv⟩:=hq;have h1:=(hc.ins _ _ (List.getElem?_eq_getElem hn)).2.1;have h2:=hc.len;exact⟨hv,by omega⟩
 rw[hs] at h ⊢
 generalize hW2:(w.alloc (.cells #[.int .i64 s.time,fv,tv,xo,.int .i64 (0:Nat)] 108)).alloc (.cells #[.int .i64 0,.slice none 0 0,.slice none 0 0,.slice none 0 0,.int .i64 0] 108)=w2;have hb2:Below w.heap.size w w2:=by rw[←hW2];exact((Below.refl _ w).alloc (Nat.le_refl _) _).alloc (by simp) _
 have hs2:w2.heap.size=w.heap.size+2:=by rw[←hW2];simp
 have hB2:w2.heap[w.heap.size+1]?=some (.cells #[.int .i64 0,.slice none 0 0,.slice none 0 0,.slice none 0 0,.int .i64 0] 108 (0,0)):=by
  rw[←hW2];exact aR _ _ (by simp) _
 have hF2:∀b,F b→b<w2.heap.size:=fun b hb=>Nat.lt_of_lt_of_le (hF b hb) hb2.size
 have h2:mX fp F w2 (.agg #[.int .i64 s.time,fv,tv,xo,.int .i64 (0:Nat)]) s:=by
  have:=h.keep (fun b hb=>hb2.block b (hF b hb)) (fun _ h=>h)
  exact this
 refine(VZ w w2 s.time fv tv xo (fun v' w'=>Below w.heap.size w w'∧∃G,Ext F G w.heap.size∧(∀b,G b→b<w'.heap.size)∧mX fp G w' v' ⟨s.time+1,r.1,bQ (s.time+1) r.2⟩)
  (fun gf n cap tv' xo' W=>∃fvs,n=fvs.length∧Below w2.heap.size w2 W∧OU fp F w2.heap.size W gf cap tv' xo' fvs s.m)
  (fun b W=>∃W0 gf cap tv' outv fvs G,(Below w2.heap.size w2 W∧w2.heap.size≤b)∧(w2.heap.size≤W0∧Ext F G W0)∧cO fp G w2.heap.size W b gf cap (.int .i64 ((s.time+1:Nat):Int)) tv' outv (.int .i64 (bQ (s.time+1) r.2)) fvs r.1∧∀k∈aF b gf outv fvs,w2.heap.size≤k)
  (by omega) f1 f2 f3 hW2 ?_ (fun gf n cap tv' xo' W hq=>?_) (fun b W hq=>?_))
 ·refine(SI h2 hF2 hne hA.ok.deep hops hol).mono ?_;rintro e w' ⟨v',rfl,gf,cap,tv',outv,fvs,rfl,hbw,hc⟩;rw[hs];refine⟨gf,fvs.length,cap,tv',outv,rfl,?_,sH hc.out,fvs,rfl,hbw,hc⟩;rcases hc.tape with ⟨_,x,c,e⟩|⟨g,o,c,e,_⟩<;>exact⟨_,_,_,e⟩
 ·obtain⟨fvs,rfl,hbw,hc⟩:=hq;obtain⟨hrun,hown⟩:=hc.run hF2 hbw.size (.int .i64 ((s.time+1:Nat):Int)) (.int .i64 0);generalize hW':W.alloc (.cells #[.int .i64 ((s.time+1:Nat):Int),.slice (some ⟨gf,0,none⟩) fvs.length cap,tv',xo',.int .i64 0] 108)=W' at hrun;have hbW:Below W.heap.size W W':=by rw[←hW'];exact(Below.refl _ W).alloc (Nat.le_refl _) _
  have hbw':Below w2.heap.size w2 W':=hbw.trans (hbW.mono hbw.size);have hbw0:Below w.heap.size w W':=hb2.trans (hbw'.mono hb2.size);have hTW:kH fp F W' tab:=hT.keep (fun b hb=>hbw0.block b (hF b hb)) fun _ h=>h
  refine(MU ht htu hrun hTW (yG.of hp hbw0 fun k hk=>Nat.le_trans hb2.size (hown k hk)) hbw'.size hA hU hol htl hk (by omega) hr).mono ?_
  rintro e w' ⟨he,hd1,G,gf',cap',tv'',outv',fvs',d1,d2,d3⟩
  have hsub:∀x∈aF W.heap.size gf' outv' fvs',w2.heap.size≤x:=fun x hx=>by
   rcases d3 x hx with h1|h1
   ·exact hown x h1
   ·exact Nat.le_trans hbw'.size h1
  refine⟨he,W'.heap.size,gf',cap',tv'',outv',fvs',G,⟨⟨hd1.os.trans hbw'.os,hd1.tape.trans hbw'.tape,hd1.output.trans hbw'.output,Nat.le_trans hbw'.size hd1.size,fun k hk'=>?_⟩,hbw.size⟩,⟨hbw'.size,d1⟩,d2,hsub⟩
  rw[hd1.block k (Nat.lt_of_lt_of_le hk' hbw'.size) (fun hm=>by have:=hown k hm;omega),hbw'.block k hk']
 ·obtain⟨W0,gf,cap,tv',outv,fvs,G,⟨g1,g2⟩,⟨g3,g4⟩,g5,g6⟩:=hq;have hblk:=g5.blk;refine⟨_,_,_,_,_,hblk,⟨_,_,_,rfl⟩,?_,sH g5.out,by rw[g1.block _ (by omega)];exact hB2,by omega,fun W' hkp hsz=>?_⟩
  ·rcases g5.tape with ⟨_,x,c,e⟩|⟨g,o,c,e,_⟩<;>exact⟨_,_,_,e⟩
  ·have hb0:Below w.heap.size w W:=hb2.trans (g1.mono hb2.size);have hS:=g5.kept (G:=fun k=>G k∨(k∈aF b gf outv fvs∧k≠b)) (fun _ h=>Or.inl h) (fun k hk' hn=>Or.inr ⟨hk',hn⟩)
   have hne1:∀k,(G k∨(k∈aF b gf outv fvs∧k≠b))→k≠w.heap.size+1∧k<W.heap.size:=fun k hk'=>by
    rcases hk' with h1|⟨h1,_⟩
    ·refine⟨?_,(g5.apart k h1).1⟩;rcases g4.new k h1 with h3|h3
     ·have:=hF k h3;omega
     ·omega
    ·have:=g6 k h1;exact⟨by omega,g5.lt k h1⟩
   refine⟨⟨hkp.os.trans hb0.os,hkp.tape.trans hb0.tape,hkp.output.trans hb0.output,by rw[hsz];exact hb0.size,fun k hk'=>?_⟩,fun k=>G k∨(k∈aF b gf outv fvs∧k≠b),⟨fun k hk'=>Or.inl (g4.sub k hk'),fun k hk'=>?_⟩,fun k hk'=>by rw[hsz];exact(hne1 k hk').2,hS.keep (fun k hk'=>hkp.block k (hne1 k hk').2 (by simpa using (hne1 k hk').1)) fun _ h=>h⟩
   ·rw[hkp.block k (Nat.lt_of_lt_of_le hk' hb0.size) (by simp;omega),hb0.block k hk']
   ·rcases hk' with h1|⟨h1,_⟩
    ·rcases g4.new k h1 with h3|h3
     ·exact Or.inl h3
     ·exact Or.inr (by omega)
    ·exact Or.inr (by have:=g6 k h1;omega)
def OV(fp:Nat→Value)(F:Nat→Prop)(w:World)(xs:List Value)(code:List (Option aH)):Prop:=
 xs.length=code.length∧∀(i:Nat) o,code[i]?=some o→∃u,xs[i]?=some u∧(match o with|none=>u=.nilIface|some i=>kL fp F w u i)
theorem OV.keep{fp:Nat→Value}{F G:Nat→Prop}{w w':World}{xs:List Value}{code:List (Option aH)}(h:OV fp F w xs code)(hk:∀b,F b→w'.heap[b]?=w.heap[b]?)(hF:∀b,F b→G b):OV fp G w' xs code:=
 ⟨h.1,fun i o ho=>by
   obtain⟨u,h1,h2⟩:=h.2 i o ho;refine⟨u,h1,?_⟩;cases o with
   |none=>exact h2
   |some j=>exact kL.keep h2 hk hF⟩
def GB(fp:Nat→Value)(fb:Nat→Nat)(nms:List (List UInt8))(F:Nat→Prop)(w:World)(fv:Value):Prop:=
 (nms=[]∧fv=.slice none 0 0)∨∃g cap,fv=.slice (some ⟨g,0,none⟩) nms.length cap∧F g∧nms.length≤cap∧g<w.heap.size∧∀k (h:k<nms.length),w.cell? ⟨g,k,none⟩=some (fp k)∧fp k=.pointer (some ⟨fb k,0,none⟩)∧F (fb k)∧∃x,w.heap[fb k]?=some (.cells #[.string (bs nms[k]),x] 250 (0,0))
theorem GB.keep{fp:Nat→Value}{fb:Nat→Nat}{nms:List (List UInt8)}{F G:Nat→Prop}{w w':World}{fv:Value}(h:GB fp fb nms F w fv)(hk:∀b,F b→w'.heap[b]?=w.heap[b]?)(hF:∀b,F b→G b)(hs:w.heap.size≤w'.heap.size):GB fp fb nms G w' fv:=by
 rcases h with h|⟨g,cap,h1,h2,h3,h4,h5⟩
 ·exact Or.inl h
 ·refine Or.inr ⟨g,cap,h1,hF g h2,h3,Nat.lt_of_lt_of_le h4 hs,fun k hk'=>?_⟩
  obtain⟨e1,e2,e3,x,e4⟩:=h5 k hk';exact⟨by rw[World.cell?_of_block (hk g h2)];exact e1,e2,hF _ e3,x,by rw[hk _ e3];exact e4⟩
structure CP(fp:Nat→Value)(fb:Nat→Nat)(nms:List (List UInt8))(cb:Nat)(F:Nat→Prop)(w:World)(code:List (Option aH))(seen:List (List UInt8)):Prop where
 blk:∃fv cv sp,w.heap[cb]?=some (.cells #[fv,cv,sp] 276 (0,0))∧(∃xs,w.ownsRow (cb+1) 355 1 cv code.length xs∧OV fp F w xs code)∧eO F w sp seen∧GB fp fb nms F w fv
 fix:∀k,F k→k<w.heap.size∧k≠cb∧kE cb w≠some k
section
variable {fp:Nat→Value} {fb:Nat→Nat} {nms:List (List UInt8)} {cb:Nat} {F:Nat→Prop} {w w':World} {code:List (Option aH)} {seen:List (List UInt8)}
theorem CP.lt(h:CP fp fb nms cb F w code seen):cb<w.heap.size:=by
 obtain⟨_,_,_,h1,_⟩:=h.blk;exact aD h1
theorem iI{v0 v1 v2:Value}(h:w.heap[cb]?=some (.cells #[v0,v1,v2] 276 (0,0))):kE cb w=v1.ownBlock:=by unfold kE;rw[h];rfl
theorem CP.grow(h:CP fp fb nms cb F w code seen)(hb:Below w.heap.size w w'):CP fp fb nms cb F w' code seen:=by
 have hlt:=h.lt;obtain⟨fv,cv,sp,h1,⟨xs,h2,h3⟩,h4,h5⟩:=h.blk;have hF:∀b,F b→w'.heap[b]?=w.heap[b]?:=fun b hb'=>hb.block b (h.fix b hb').1
 refine⟨⟨fv,cv,sp,by rw[hb.block _ hlt];exact h1,⟨xs,iA h2 hb,h3.keep hF fun _ h=>h⟩,eO.keep hF (fun _ h=>h) h4,h5.keep hF (fun _ h=>h) hb.size⟩,fun k hk=>?_⟩
 obtain⟨e1,e2,e3⟩:=h.fix k hk;exact⟨Nat.lt_of_lt_of_le e1 hb.size,e2,by rw[nD (hb.block cb hlt)];exact e3⟩
theorem CP.new(h:CP fp fb nms cb F w code seen)(o:Obj):Loc cb w w.heap.size o (w.alloc o)∧CP fp fb nms cb F (w.alloc o) code seen:=by
 have hcb:=h.lt;have hb:Below w.heap.size w (w.alloc o):=(Below.refl _ _).alloc (Nat.le_refl _) _;refine⟨⟨FB.of_below hb hcb,aR _ _ rfl _,fun e=>?_,by omega⟩,h.grow hb⟩
 obtain⟨fv,cv,sp,h1,⟨xs,h2,_⟩,_⟩:=h.blk;rw[nD (hb.block cb hcb),iI h1] at e;have:=cG h2 _ e;omega
theorem L1:(Tryz.prog.info? 355).map (fun i=>(i.zero,i.size,i.bytes))=some (some .nilIface,1,16):=by kernel_rfl
theorem A7(w:World)(u:Value):∀j v,([u]:List Value)[j]?=some v→(w.alloc (.cells #[u] 355)).cell? ((⟨w.heap.size,0,none⟩:Addr).add j)=some v:=by
 intro j v hj;match j,hj with
 |0,hj=>simp at hj;subst hj;simp[Addr.add,go_sem]
 |j+1,hj=>simp at hj
def O2(fp:Nat→Value)(F:Nat→Prop)(w:World)(u:Value):Option aH→Prop
 |none=>u=.nilIface
 |some i=>kL fp F w u i
theorem O2.one{u:Value}{o:Option aH}(h:O2 fp F w u o):u.oneCell'=true∧(u=.nilIface∨∃t z,u=.iface t z):=by
 cases o with
 |none=>rw[show u=.nilIface from h];exact⟨rfl,Or.inl rfl⟩
 |some i=>obtain⟨t,z,rfl⟩:=kL.form h;exact⟨rfl,Or.inr ⟨t,z,rfl⟩⟩
theorem XN(cb n:Nat)(fv cv sp u:Value)(xs:List Value)(w:World)(hblk:w.heap[cb]?=some (.cells #[fv,cv,sp] 276 (0,0)))(hown:w.ownsRow (cb+1) 355 1 cv n xs)(hu1:u.oneCell'=true)(hu:u=.nilIface∨∃t z,u=.iface t z)(hn:n≤1000000):
 Calls Tryz.prog 238 #[.pointer (some ⟨cb,0,none⟩),u] w fun e w'=>e=.returned (.int .i64 n)∧∃cv',w'.heap[cb]?=some (.cells #[fv,cv',sp] 276 (0,0))∧w'.ownsRow (cb+1) 355 1 cv' (n+1) (xs++[u])∧FB cb w w':=by
 obtain⟨i0,hi,hz0,hz1,hz2⟩:=info_parts L1;obtain⟨x,c,rfl⟩:=cP hown;have hgl:=aD hblk;have c1:w.cell? ⟨cb,1,none⟩=some (.slice x n c):=aA hblk rfl;have HO:=aB hown;have HB:=aB hblk;have hone:∀v∈([u]:List Value),v.oneCell'=true:=fun v hv=>by simp at hv;rw[hv];exact hu1
 have HONE:=aB hone;clear hown hblk hone hu1
 have main:∀u':Value,u=u'→(u'=.nilIface∨∃t z,u'=.iface t z)→Calls Tryz.prog 238 #[.pointer (some ⟨cb,0,none⟩),u'] w fun e w'=>e=.returned (.int .i64 n)∧∃cv',w'.heap[cb]?=some (.cells #[fv,cv',sp] 276 (0,0))∧w'.ownsRow (cb+1) 355 1 cv' (n+1) (xs++[u'])∧FB cb w w':=by
  intro u' e hu';subst e;rcases hu' with rfl|⟨t,z,rfl⟩
  all_goals
   go_enter Tryz.func238,Tryz.ntmps238;go_wp2_with (at_builtin;refine wpList_append_lies _ (by rfl) _ _ 248 (by rfl) (cb+1) 355 i0 _ 1 16 Tryz.underlying248 hi hz0 hz1 hz2 rfl (by decide) (.slice x n c) n xs (by rfl) (HO.out.alloc _) ⟨w.heap.size,0,none⟩ 1 1 [_] (by rfl) (by rfl) (A7 w _) HONE.out (by decide) (by unfold maxLen;omega) (by omega) (by simp;omega) (w.heap.size+1) (by simp) ?_)
   intro g4 cap4 w4 hown4 hgrow4 hat4 hg4;have hne:some cb≠(Value.slice x n c).ownBlock:=fun e=>by have:=(HO.out.lt cb e.symm).1;omega
   have hblk4:w4.heap[cb]?=some (.cells #[fv,.slice x n c,sp] 276 (0,0)):=by
    rw[hgrow4.block cb (by simp;omega) hne,Below.heap_alloc _ _ _ hgl];exact HB.out
   have c1':w4.cell? ⟨cb,1,none⟩=some (.slice x n c):=aA hblk4 rfl;have f1':=aE hblk4 (i:=1);have hgl4:=aD hblk4
   have hgg:g4≠cb:=by
    have:=(hown4.lt g4 rfl).1;omega
   have HOWN:=aB hown4;have HG:=aB hgrow4;have HAT:=aB hat4;have HBL:=aB hblk4;clear hown4 hgrow4 hat4 hblk4;go_wp2_with fail;go_ret;refine⟨by go_num,.slice (some ⟨g4,0,none⟩) (n+1) cap4,aQ HBL.out,aY HOWN.out fun k hk=>Below.heap_setCell _ _ _ _ (by cases hk;exact hgg),⟨?_,fun k hk h1 h2=>?_,fun k hk=>?_⟩⟩
   ·exact(((Below.refl cb w).alloc (by omega) _).grown HG.out (by simp;omega) (fun k hk=>by have:=(HO.out.lt k hk).1;omega)).setCell (by exact Nat.le_refl cb) _
   ·rw[iI HB.out] at h2;rw[Below.heap_setCell _ _ _ _ h1,HG.out.block k (by simp;omega) (fun e=>h2 e.symm),Below.heap_alloc _ _ _ hk]
   ·rw[iI (aQ HBL.out),iI HB.out] at*;cases hk;rcases HAT.out with h|h
    ·exact Or.inl h
    ·exact Or.inr (by show w.heap.size≤g4;omega)
 exact main u rfl hu
theorem CP.step{code':List (Option aH)}{fv cv' sp:Value}{xs':List Value}(h:CP fp fb nms cb F w code seen)(hfb:FB cb w w')(hblk:w'.heap[cb]?=some (.cells #[fv,cv',sp] 276 (0,0)))(hrow:w'.ownsRow (cb+1) 355 1 cv' code'.length xs')(hc:OV fp F w' xs' code')(hsp:eO F w' sp seen)(hfv:GB fp fb nms F w' fv):CP fp fb nms cb F w' code' seen:=
 ⟨⟨fv,cv',sp,hblk,⟨xs',hrow,hc⟩,hsp,hfv⟩,fun k hk=>by
   obtain⟨e1,e2,e3⟩:=h.fix k hk;refine⟨Nat.lt_of_lt_of_le e1 hfb.bel.size,e2,fun e=>?_⟩
   rcases hfb.row k e with h1|h1
   ·exact e3 h1
   ·omega⟩
theorem CP.fixed(h:CP fp fb nms cb F w code seen)(hfb:FB cb w w'):∀b,F b→w'.heap[b]?=w.heap[b]?:=fun b hb=>by
 obtain⟨e1,e2,e3⟩:=h.fix b hb;exact hfb.blk b e1 e2 e3
theorem pU{u:Value}{o:Option aH}(h:CP fp fb nms cb F w code seen)(hu:O2 fp F w u o)(hn:code.length≤1000000):
 Calls Tryz.prog 238 #[.pointer (some ⟨cb,0,none⟩),u] w fun e w'=>e=.returned (.int .i64 code.length)∧CP fp fb nms cb F w' (code++[o]) seen∧FB cb w w':=by
 obtain⟨fv,cv,sp,h1,⟨xs,h2,h3⟩,h4,h5⟩:=h.blk;obtain⟨o1,o2⟩:=hu.one;refine(XN cb code.length fv cv sp u xs w h1 h2 o1 o2 hn).mono ?_;rintro e w' ⟨he,cv',q1,q2,q3⟩;have hF:=h.fixed q3;refine⟨he,h.step q3 q1 (by rw[List.length_append];exact q2) ?_ (eO.keep hF (fun _ h=>h) h4) (h5.keep hF (fun _ h=>h) q3.bel.size),q3⟩
 have h3':=h3.keep hF fun _ h=>h
 refine⟨by simp[h3.1],fun i o' ho=>?_⟩
 rcases Nat.lt_or_ge i code.length with hi|hi
 ·rw[List.getElem?_append_left hi] at ho;obtain⟨u',e1,e2⟩:=h3'.2 i o' ho;exact⟨u',by rw[List.getElem?_append_left (by rw[h3.1];exact hi)];exact e1,e2⟩
 ·rw[List.getElem?_append_right hi] at ho
  have hi0:i-code.length=0:=by
   have:=(List.getElem?_eq_some_iff.1 ho).1;simp at this;omega
  rw[hi0] at ho;simp at ho;subst ho;refine⟨u,by rw[List.getElem?_append_right (by rw[h3.1];exact hi),h3.1,hi0];rfl,?_⟩
  cases o with
  |none=>exact hu
  |some j=>exact kL.keep hu hF fun _ h=>h
theorem NB(h:CP fp fb nms cb F w code seen)(hn:seen.length≤1000000):
 Calls Tryz.prog 290 #[.pointer (some ⟨cb,0,none⟩)] w fun e w'=>e=.returned (.int .i64 seen.length)∧w'=w:=by
 obtain⟨fv,cv,sp,h1, -,h4, -⟩:=h.blk;have hl:=aD h1;have c2:w.cell? ⟨cb,2,none⟩=some sp:=aA h1 rfl;cases seen with
 |nil=>
  obtain rfl:sp=.pointer none:=h4;clear h h1;go_enter Tryz.func290,Tryz.ntmps290;go_wp2_with fail;go_ret;exact⟨rfl,rfl⟩
 |cons x l=>
  obtain⟨b,o,rfl,hb,hbb,hso⟩:=h4;have c1:w.cell? ⟨b,1,none⟩=some (.int .i64 l.length):=aA hbb rfl;have hbl:=aD hbb;simp only[List.length_cons] at hn;clear h h1 hbb hso;go_enter Tryz.func290,Tryz.ntmps290;go_wp2_with fail;go_ret;exact⟨by go_num,rfl⟩
end
section
variable {fp:Nat→Value} {fb:Nat→Nat} {nms:List (List UInt8)} {cb:Nat} {F:Nat→Prop} {w w':World} {code:List (Option aH)} {seen:List (List UInt8)}
theorem ZO(w:World)(cb n:Nat)(x:List UInt8)(p:Option Addr)(hl:cb<w.heap.size)(c2:w.cell? ⟨cb,2,none⟩=some (.pointer p))(f2:w.frozen? ⟨cb,2,none⟩=false)
 (HF:Hid (Calls Tryz.prog 290 #[.pointer (some ⟨cb,0,none⟩)] w.drew fun e w'=>e=.returned (.int .i64 n)∧w'=w.drew)):
 Calls Tryz.prog 236 #[.pointer (some ⟨cb,0,none⟩),.string (bs x)] w fun e w'=>e=.returned (.tuple #[])∧aW ((w.setCell ⟨cb,2,none⟩ (.pointer (some ⟨w.heap.size,0,none⟩))).alloc (.cells #[.string (bs x),.int .i64 n,.pointer p] 253)) w':=by
 go_enter Tryz.func236,Tryz.ntmps236;go_wp2_with fail;go_region_law (go_simp;go_at_call 290;refine HF.out.mono ?_;rintro e w1 ⟨rfl,rfl⟩)
 all_goals
  go_wp2_with fail;go_end0;exact⟨rfl,aW.drew _⟩
theorem TC(x:List UInt8)(h:CP fp fb nms cb F w code seen)(hn:seen.length≤1000000):
 Calls Tryz.prog 236 #[.pointer (some ⟨cb,0,none⟩),.string (bs x)] w fun e w'=>e=.returned (.tuple #[])∧CP fp fb nms cb (fun k=>F k∨k=w.heap.size) w' code (x::seen)∧FB cb w w':=by
 have hlt:=h.lt;obtain⟨fv,cv,sp,h1,⟨xs,h2,h3⟩,h4,h5⟩:=h.blk;obtain⟨p,rfl⟩:=h4.form;have hd:CP fp fb nms cb F w.drew code seen:=h.grow (aW.drew w).below;refine(ZO w cb seen.length x p hlt (aA h1 rfl) (aE h1) (NB hd hn)).mono ?_;rintro e w' ⟨he,hS⟩;generalize hW:(w.setCell ⟨cb,2,none⟩ (.pointer (some ⟨w.heap.size,0,none⟩))).alloc (.cells #[.string (bs x),.int .i64 seen.length,.pointer p] 253)=W at hS
 have hk:∀k,k<w.heap.size→k≠cb→w'.heap[k]?=w.heap[k]?:=fun k h1 h2=>by
  rw[hS.heap,←hW,Below.heap_alloc _ _ _ (by simpa using h1),Below.heap_setCell _ _ _ _ h2]
 have hcb:w'.heap[cb]?=some (.cells #[fv,cv,.pointer (some ⟨w.heap.size,0,none⟩)] 276 (0,0)):=by
  rw[hS.heap,←hW,Below.heap_alloc _ _ _ (by simpa using hlt)];exact aQ h1
 have hnew:w'.heap[w.heap.size]?=some (.cells #[.string (bs x),.int .i64 seen.length,.pointer p] 253 (0,0)):=by
  rw[hS.heap,←hW];exact aR _ _ (by simp) _
 have hsz:w'.heap.size=w.heap.size+1:=by rw[hS.heap,←hW];simp
 have hro:kE cb w'=kE cb w:=by rw[iI hcb,iI h1]
 have hF:∀b,F b→w'.heap[b]?=w.heap[b]?:=fun b hb=>hk b (h.fix b hb).1 (h.fix b hb).2.1
 have hrl:=fun k (e:cv.ownBlock=some k)=>h2.lt k e
 refine⟨he,⟨⟨fv,cv,_,hcb,⟨xs,aY h2 fun k e=>hk k (hrl k e).2 (by have:=(hrl k e).1;omega),h3.keep hF fun _ h=>Or.inl h⟩,⟨w.heap.size,.pointer p,rfl,Or.inr rfl,hnew,eO.keep hF (fun _ h=>Or.inl h) h4⟩,h5.keep hF (fun _ h=>Or.inl h) (by omega)⟩,fun k hk'=>?_⟩,⟨?_,fun k h1 h2 _=>hk k h1 h2,fun k e=>Or.inl (by rw[←hro];exact e)⟩⟩
 ·rcases hk' with hk'|rfl
  ·obtain⟨e1,e2,e3⟩:=h.fix k hk';exact⟨by omega,e2,by rw[hro];exact e3⟩
  ·refine⟨by omega,by omega,fun e=>?_⟩
   rw[hro,iI h1] at e;have:=(hrl _ e).2;omega
 ·refine⟨by rw[hS.os,←hW];rfl,by rw[hS.tape,←hW];rfl,by rw[hS.output,←hW];rfl,by omega,fun k hk'=>hk k (by omega) (by omega)⟩
theorem ZI{x y:List UInt8}{l:List (List UInt8)}(h:y∈x::l)(hn:x≠y):y∈l∧dS (x::l) y=dS l y:=by
 refine⟨?_,by rw[dS,if_neg hn]⟩
 rcases List.mem_cons.1 h with e|e
 ·exact absurd e.symm hn
 ·exact e
theorem LA(name:List UInt8)(h:CP fp fb nms cb F w code seen)(hm:name∈seen)(_hn:seen.length≤1000000):
 Calls Tryz.prog 286 #[.pointer (some ⟨cb,0,none⟩),.string (bs name)] w fun e w'=>e=.returned (.int .i64 (dS seen name))∧w'=w:=by
 obtain⟨fv,cv,sp,h1, -,h4, -⟩:=h.blk;have hl:=aD h1;have c2:w.cell? ⟨cb,2,none⟩=some sp:=aA h1 rfl;have H4:Hid (eO F w sp seen∧name∈seen):=⟨h4,hm⟩;obtain⟨p,rfl⟩:=h4.form;clear h h1 h4 hm;go_enter Tryz.func286,Tryz.ntmps286;go_wp2_with fail;go_loopg [5] seen.length (fun gk v wr=>∃l,l.length=gk∧eO F w v l∧name∈l∧dS l name=dS seen name∧wr=w)
 case atStart=>exact⟨seen,rfl,H4.out.1,H4.out.2,rfl,rfl⟩
 case round=>
  obtain⟨l,hl',hs,hml,hsl,rfl⟩:=hrel;cases l with
  |nil=>cases hml
  |cons x l=>
   obtain⟨b,o,rfl,hb,hbb,hso⟩:=hs;obtain⟨p',rfl⟩:=hso.form;have d0:wr.cell? ⟨b,0,none⟩=some (.string (bs x)):=aA hbb rfl;have d1:wr.cell? ⟨b,1,none⟩=some (.int .i64 l.length):=aA hbb rfl;have d2:wr.cell? ⟨b,2,none⟩=some (.pointer p'):=aA hbb rfl;have hbl:=aD hbb;by_cases hx:x=name
   ·subst hx;have hr:dS (x::l) x=l.length:=by rw[dS,if_pos rfl]
    rw[hr] at hsl;clear hbb hso hml;go_wp2_with fail;go_ret;exact⟨by rw[←hsl];rfl,rfl⟩
   ·obtain⟨q1,q2⟩:=ZI hml hx;have hne:((bs x).toList==(bs name).toList)=false:=by rw[bZ,bZ];simpa using hx
    have HS:Hid (eO F wr (.pointer p') l):=hso;rw[q2] at hsl;clear hbb hso hml;go_wp2_with fail;go_roundg l.length
    case measure=>simp at hl';omega
    case rel=>exact⟨l,rfl,HS.out,q1,hsl,rfl⟩
theorem rQ(name:List UInt8)(h:CP fp fb nms cb F w code seen)(hm:name∈nms)(hn:nms.length≤1000000):
 Calls Tryz.prog 174 #[.pointer (some ⟨cb,0,none⟩),.string (bs name)] w fun e w'=>e=.returned (fp (nms.findIdx fun x=>x==name))∧w'=w:=by
 obtain⟨fv,cv,sp,h1, -, -,h5⟩:=h.blk;rcases h5 with ⟨rfl,_⟩|⟨g,cap,rfl,hFg,hcap,hgl,hall⟩
 ·cases hm
 have hl:=aD h1;have c0:w.cell? ⟨cb,0,none⟩=some (.slice (some ⟨g,0,none⟩) nms.length cap):=aA h1 rfl;have HA:=aB hall;clear h h1 hall;go_enter Tryz.func174,Tryz.ntmps174;go_wp2_with fail;go_loopg [6,12] nms.length (fun gk _ i wr=>∃j:Nat,j+gk=nms.length∧i=.int .i64 j∧j≤nms.findIdx (fun x=>x==name)∧wr=w)
 case atStart=>exact⟨0,by omega,rfl,Nat.zero_le _,rfl⟩
 case round=>
  obtain⟨j,hj,rfl,hle,rfl⟩:=hrel;have hfi:nms.findIdx (fun x=>x==name)<nms.length:=List.findIdx_lt_length_of_exists ⟨name,hm,by simp⟩
  have hlt:j<nms.length:=by omega
  obtain⟨m,rfl⟩:∃m,gk=m+1:=⟨gk-1,by omega⟩
  obtain⟨e1,e2,e3,x,e4⟩:=HA.out j hlt;rw[e2] at e1;have d0:wr.cell? ⟨fb j,0,none⟩=some (.string (bs nms[j])):=aA e4 rfl;have hbl:=aD e4;have i1:(0:Int)≤(j:Int):=by omega
  have i2:(j:Int)<(nms.length:Int):=by omega
  by_cases hx:nms[j]=name
  ·have hje:nms.findIdx (fun x=>x==name)=j:=by
    refine Nat.le_antisymm (Nat.not_lt.1 fun hlt'=>?_) hle
    have:=List.not_of_lt_findIdx hlt';simp[hx] at this
   have E2:=aB e2;rw[hx] at d0;clear e4 e2 HA;go_wp2_with fail;go_ret;exact⟨by rw[hje,E2.out];rfl,rfl⟩
  ·have hne:((bs nms[j]).toList==(bs name).toList)=false:=by rw[bZ,bZ];simpa using hx
   have hle':j+1≤nms.findIdx (fun x=>x==name):=by
    rcases Nat.eq_or_lt_of_le hle with e|e
    ·have:=List.findIdx_getElem (w:=hfi);simp only[←e] at this;simp at this;exact absurd this hx
    ·exact e
   generalize nms[j]=y at*;clear e4 e2;go_wp2_with fail;go_roundg m
   case measure=>omega
   case rel=>exact⟨j+1,by omega,by go_num,hle',rfl⟩
end
end Go.Proofs.YtblbkfdhjfppkaaGreatDoor
