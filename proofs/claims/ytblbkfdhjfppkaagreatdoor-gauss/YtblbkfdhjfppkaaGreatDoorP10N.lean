/- Plain facts: characters, decoded. -/
import Derived.Test.YtblbkfdhjfppkaaGreatDoorP01
import Derived.Laws.IdiomStrings
import Derived.Lib.DecodeN
import Derived.Lib.RuneCount
set_option maxRecDepth 100000
set_option maxHeartbeats 4000000
namespace Go.Proofs.YtblbkfdhjfppkaaGreatDoor
open Hs
def mG(n b0 b1 b2 b3:Nat):Nat:=
 if b0<128 then 1
 else if 194≤b0∧b0≤223 then (if 1<n∧128≤b1∧b1≤191 then 2 else 0)
 else if 224≤b0∧b0≤239 then
  (if (1<n∧(if b0=224 then 160 else 128)≤b1∧b1≤(if b0=237 then 159 else 191))∧(2<n∧128≤b2∧b2≤191) then 3 else 0)
 else if 240≤b0∧b0≤244 then
  (if ((1<n∧(if b0=240 then 144 else 128)≤b1∧b1≤(if b0=244 then 143 else 191))∧(2<n∧128≤b2∧b2≤191))∧(3<n∧128≤b3∧b3≤191) then 4 else 0)
 else 0
theorem E3(n b0 b1 b2 b3:Nat)(h0:b0<256)(h1:b1<256)(h2:b2<256)(h3:b3<256):
 (mG n b0 b1 b2 b3=0→Lib.decodeN n b0 b1 b2 b3=(65533,1))∧(mG n b0 b1 b2 b3≠0→(Lib.decodeN n b0 b1 b2 b3).2=mG n b0 b1 b2 b3∧¬((Lib.decodeN n b0 b1 b2 b3).1=65533∧mG n b0 b1 b2 b3=1)∧((Lib.decodeN n b0 b1 b2 b3).1=10↔b0=10)):=by
 have d1:b1/64=2↔128≤b1∧b1≤191:=by omega
 have d2:b2/64=2↔128≤b2∧b2≤191:=by omega
 have d3:b3/64=2↔128≤b3∧b3≤191:=by omega
 have a1:b0/32=6↔192≤b0∧b0≤223:=by omega
 have a2:b0/16=14↔224≤b0∧b0≤239:=by omega
 have a3:b0/8=30↔240≤b0∧b0≤247:=by omega
 unfold mG Lib.decodeN;simp only[d1,d2,d3,a1,a2,a3];by_cases c1:b0<128
 ·simp only[if_pos c1];exact⟨fun h=>absurd h (by omega),fun _=>⟨trivial,by omega,trivial⟩⟩
 ·simp only[if_neg c1];repeat' split
  all_goals first
   |(refine⟨fun _=>rfl,fun h=>absurd rfl h⟩)
   |(refine⟨fun h=>absurd h (by omega),fun _=>⟨rfl,?_,?_⟩⟩<;>(simp only;omega))
   |(exfalso;omega)
theorem nH(s:ByteArray)(i:Nat)(h:i<s.size):s.get! i=s[i]:=by
 show s.data[i]! =s.data[i]
 rw[getElem!_pos s.data i (by simpa using h)]
theorem L4(s:ByteArray)(i lo hi:Nat):cY s.data.toList i lo hi=decide (i<s.size∧lo≤(s.get! i).toNat∧(s.get! i).toNat≤hi):=by
 unfold cY;by_cases h:i<s.size
 ·have e:s.data.toList[i]?=some s[i]:=by simp[h];rfl
  rw[e,nH s i h];simp[h]
 ·have e:s.data.toList[i]?=none:=List.getElem?_eq_none (by simpa using (by omega:s.size≤i))
  rw[e];simp[h]
theorem N2(s:ByteArray)(h:0<s.size):bD s.data.toList=mG s.size (s.get! 0).toNat (s.get! 1).toNat (s.get! 2).toNat (s.get! 3).toNat:=by
 unfold bD mG;have e:s.data.toList[0]?=some s[0]:=by simp[h];rfl
 rw[e,←nH s 0 h];simp only[L4,Bool.and_eq_true,decide_eq_true_eq]
theorem XA(s:ByteArray)(k i lo hi:Nat):cY (s.data.toList.drop k) i lo hi=decide (i<s.size-k∧lo≤(s.get! (k+i)).toNat∧(s.get! (k+i)).toNat≤hi):=by
 unfold cY;rw[List.getElem?_drop];by_cases h:k+i<s.size
 ·have e:s.data.toList[k+i]?=some s[k+i]:=by simp[h];rfl
  rw[e,nH s (k+i) h];have h':i<s.size-k:=by omega
  simp[h']
 ·have e:s.data.toList[k+i]?=none:=List.getElem?_eq_none (by simpa using (by omega:s.size≤k+i))
  rw[e];have h':¬i<s.size-k:=by omega
  simp[h']
theorem YB(s:ByteArray)(k:Nat)(h:k<s.size):bD (s.data.toList.drop k)=mG (s.size-k) (s.get! k).toNat (s.get! (k+1)).toNat (s.get! (k+2)).toNat (s.get! (k+3)).toNat:=by
 unfold bD mG;have e:(s.data.toList.drop k)[0]?=some s[k]:=by rw[List.getElem?_drop];simp[h];rfl
 rw[e,←nH s k h];simp only[XA,Bool.and_eq_true,decide_eq_true_eq]
def BG(r:Nat):List UInt8:=(Utf8.encode (Int.ofNat r)).data.toList
theorem yK(r:Nat)(h:r<55296∨(57344≤r∧r≤1114111)):BG r=if r<128 then [UInt8.ofNat r] else if r<2048 then [UInt8.ofNat (192+r/64),UInt8.ofNat (128+r%64)] else if r<65536 then [UInt8.ofNat (224+r/4096),UInt8.ofNat (128+r/64%64),UInt8.ofNat (128+r%64)]
 else [UInt8.ofNat (240+r/262144),UInt8.ofNat (128+r/4096%64),UInt8.ofNat (128+r/64%64),UInt8.ofNat (128+r%64)]:=by
 have hv:Utf8.valid (Int.ofNat r)=true:=by
  unfold Utf8.valid;simp only[Bool.or_eq_true,Bool.and_eq_true,decide_eq_true_eq,Int.ofNat_eq_natCast];omega
 have hc:(if Utf8.valid (Int.ofNat r) then (Int.ofNat r).toNat else Utf8.runeError)=r:=by rw[if_pos hv];rfl
 unfold BG Utf8.encode;simp only[hc];repeat' split
 all_goals rfl
theorem M3(n b0 b1 b2 b3:Nat)(h0:b0<256)(hc:mG n b0 b1 b2 b3≠0):
 (Lib.decodeN n b0 b1 b2 b3).2=mG n b0 b1 b2 b3∧(Lib.decodeN n b0 b1 b2 b3).1≤1114111∧BG (Lib.decodeN n b0 b1 b2 b3).1=([b0,b1,b2,b3].take (mG n b0 b1 b2 b3)).map UInt8.ofNat:=by
 have a1:b0/32=6↔192≤b0∧b0≤223:=by omega
 have a2:b0/16=14↔224≤b0∧b0≤239:=by omega
 have a3:b0/8=30↔240≤b0∧b0≤247:=by omega
 unfold mG at hc ⊢
 unfold Lib.decodeN;by_cases c1:b0<128
 ·simp only[if_pos c1];refine⟨trivial,by omega,?_⟩
  rw[yK _ (by omega),if_pos c1];rfl
 simp only[if_neg c1] at hc ⊢
 by_cases c2:194≤b0∧b0≤223
 ·rw[if_pos c2] at hc ⊢
  by_cases d2:1<n∧128≤b1∧b1≤191
  ·rw[if_pos d2] at hc ⊢
   rw[if_pos ⟨a1.2 (by omega),d2.1,by omega⟩,if_pos (by omega)]
   refine⟨rfl,by omega,?_⟩
   rw[yK _ (by omega),if_neg (by omega),if_pos (by omega)]
   simp only[List.take_succ_cons,List.take_zero,List.map_cons,List.map_nil];rw[show 192+(b0%32*64+b1%64)/64=b0 by omega,show 128+(b0%32*64+b1%64)%64=b1 by omega]
  ·rw[if_neg d2] at hc;exact absurd rfl hc
 rw[if_neg c2] at hc ⊢
 by_cases c3:224≤b0∧b0≤239
 ·rw[if_pos c3] at hc ⊢
  by_cases d3:(1<n∧(if b0=224 then 160 else 128)≤b1∧b1≤(if b0=237 then 159 else 191))∧(2<n∧128≤b2∧b2≤191)
  ·rw[if_pos d3] at hc ⊢
   have l1:128≤b1:=by have:=d3.1.2.1;split at this<;>omega
   have l2:b1≤191:=by have:=d3.1.2.2;split at this<;>omega
   have l3:b0=224→160≤b1:=fun e=>by have:=d3.1.2.1;rw[if_pos e] at this;exact this
   have l4:b0=237→b1≤159:=fun e=>by have:=d3.1.2.2;rw[if_pos e] at this;exact this
   rw[if_neg (fun h=>by have:=a1.1 h.1;omega),if_pos ⟨a2.2 c3,⟨d3.1.1,by omega⟩,d3.2.1,by omega⟩]
   have hr:2048≤b0%16*4096+b1%64*64+b2%64:=by
    rcases Nat.eq_or_lt_of_le c3.1 with e|e
    ·have:=l3 e.symm;omega
    ·omega
   have hs:b0%16*4096+b1%64*64+b2%64<55296∨(57344≤b0%16*4096+b1%64*64+b2%64∧b0%16*4096+b1%64*64+b2%64≤1114111):=by
    by_cases e:b0=237
    ·have:=l4 e;omega
    ·omega
   rw[if_pos ⟨hr,by omega⟩]
   refine⟨rfl,by omega,?_⟩
   rw[yK _ hs,if_neg (by omega),if_neg (by omega),if_pos (by omega)]
   simp only[List.take_succ_cons,List.take_zero,List.map_cons,List.map_nil];rw[show 224+(b0%16*4096+b1%64*64+b2%64)/4096=b0 by omega,show 128+(b0%16*4096+b1%64*64+b2%64)/64%64=b1 by omega,show 128+(b0%16*4096+b1%64*64+b2%64)%64=b2 by omega]
  ·rw[if_neg d3] at hc;exact absurd rfl hc
 rw[if_neg c3] at hc ⊢
 by_cases c4:240≤b0∧b0≤244
 ·rw[if_pos c4] at hc ⊢
  by_cases d4:((1<n∧(if b0=240 then 144 else 128)≤b1∧b1≤(if b0=244 then 143 else 191))∧(2<n∧128≤b2∧b2≤191))∧(3<n∧128≤b3∧b3≤191)
  ·rw[if_pos d4] at hc ⊢
   have l1:128≤b1:=by have:=d4.1.1.2.1;split at this<;>omega
   have l2:b1≤191:=by have:=d4.1.1.2.2;split at this<;>omega
   have l3:b0=240→144≤b1:=fun e=>by have:=d4.1.1.2.1;rw[if_pos e] at this;exact this
   have l4:b0=244→b1≤143:=fun e=>by have:=d4.1.1.2.2;rw[if_pos e] at this;exact this
   rw[if_neg (fun h=>by have:=a1.1 h.1;omega),if_neg (fun h=>by have:=a2.1 h.1;omega),if_pos ⟨a3.2 (by omega),⟨d4.1.1.1,by omega⟩,⟨d4.1.2.1,by omega⟩,d4.2.1,by omega⟩]
   have hr:65536≤b0%8*262144+b1%64*4096+b2%64*64+b3%64:=by
    rcases Nat.eq_or_lt_of_le c4.1 with e|e
    ·have:=l3 e.symm;omega
    ·omega
   have hs:b0%8*262144+b1%64*4096+b2%64*64+b3%64≤1114111:=by
    rcases Nat.eq_or_lt_of_le c4.2 with e|e
    ·have:=l4 e;omega
    ·omega
   rw[if_pos ⟨hr,by omega⟩]
   refine⟨rfl,hs,?_⟩;rw[yK _ (by omega),if_neg (by omega),if_neg (by omega),if_neg (by omega)]
   simp only[List.take_succ_cons,List.take_zero,List.map_cons,List.map_nil];rw[show 240+(b0%8*262144+b1%64*4096+b2%64*64+b3%64)/262144=b0 by omega,show 128+(b0%8*262144+b1%64*4096+b2%64*64+b3%64)/4096%64=b1 by omega,show 128+(b0%8*262144+b1%64*4096+b2%64*64+b3%64)/64%64=b2 by omega,show 128+(b0%8*262144+b1%64*4096+b2%64*64+b3%64)%64=b3 by omega]
  ·rw[if_neg d4] at hc;exact absurd rfl hc
 ·rw[if_neg c4] at hc;exact absurd rfl hc
theorem NZ(s:ByteArray)(k:Nat)(h:k<s.size)(hc:bD (s.data.toList.drop k)≠0):
 (Utf8.decode s k).2=bD (s.data.toList.drop k)∧(Utf8.decode s k).1≤1114111∧BG (Utf8.decode s k).1=(s.data.toList.drop k).take (bD (s.data.toList.drop k)):=by
 have hle:= @jJ (s.data.toList.drop k);rw[YB s k h] at hc hle ⊢
 obtain⟨e1,e2,e3⟩:=M3 (s.size-k) (s.get! k).toNat (s.get! (k+1)).toNat (s.get! (k+2)).toNat (s.get! (k+3)).toNat (UInt8.toNat_lt _) hc;rw[Lib.decode_at];refine⟨e1,e2,e3.trans ?_⟩;generalize hk:mG (s.size-k) (s.get! k).toNat (s.get! (k+1)).toNat (s.get! (k+2)).toNat (s.get! (k+3)).toNat=c at*
 have h4:c≤4:=by rw[←hk];unfold mG;repeat' split
                 all_goals omega
 have hl:(s.data.toList.drop k).length=s.size-k:=by simp
 refine List.ext_getElem? fun i=>?_
 rw[List.getElem?_map,List.getElem?_take,List.getElem?_take];by_cases hi:i<c
 ·rw[if_pos hi,if_pos hi,List.getElem?_drop];have hki:k+i<s.size:=by omega
  have e:s.data.toList[k+i]?=some (s.get! (k+i)):=by rw[nH s (k+i) hki];simp[hki];rfl
  rw[e];match i,hi with
  |0,_=>simp
  |1,_=>simp
  |2,_=>simp
  |3,_=>simp
  |j+4,hi=>omega
 ·rw[if_neg hi,if_neg hi];rfl
theorem wM(s:ByteArray):∀(f k:Nat),s.size-k≤f→cL (s.data.toList.drop k)→Lib.runeCountFrom s f k=(dO (s.data.toList.drop k)).length
 |0,k,hf,_=>by
  rw[dL (Or.inl (List.drop_eq_nil_of_le (by simp;omega)))];rfl
 |f+1,k,hf,ht=>by
  unfold Lib.runeCountFrom;by_cases h:k<s.size
  ·have hne:s.data.toList.drop k≠[]:=fun e=>by have:=congrArg List.length e;simp at this;omega
   obtain⟨h1,h2⟩:=ht.ne hne;obtain⟨e1,_,_⟩:=NZ s k h h1;rw[if_pos h,e1,gP hne h1,List.length_cons];rw[List.drop_drop] at h2 ⊢
   rw[wM s f (k+bD (s.data.toList.drop k)) (by omega) h2]
   omega
  ·rw[if_neg h,dL (Or.inl (List.drop_eq_nil_of_le (by simp;omega)))];rfl
theorem wA(s:ByteArray):∀(f k:Nat) (acc:Array Value),s.size-k≤f→cL (s.data.toList.drop k)→
 ∃rs:List Nat,Conv.runesFrom s f k acc=acc++(rs.map fun r=>Value.int .i32 (Int.ofNat r)).toArray∧rs.length=(dO (s.data.toList.drop k)).length∧(∀r∈rs,r≤1114111)∧rs.map BG=dO (s.data.toList.drop k)
 |0,k,acc,hf,_=>⟨[],by simp[Conv.runesFrom],by
    rw[dL (Or.inl (List.drop_eq_nil_of_le (by simp;omega)))];rfl,by simp,by
    rw[dL (Or.inl (List.drop_eq_nil_of_le (by simp;omega)))];rfl⟩
 |f+1,k,acc,hf,ht=>by
  by_cases h:k<s.size
  ·have hne:s.data.toList.drop k≠[]:=fun e=>by have:=congrArg List.length e;simp at this;omega
   obtain⟨h1,h2⟩:=ht.ne hne;obtain⟨e1,e2,e3⟩:=NZ s k h h1;rw[List.drop_drop] at h2;obtain⟨rs,q1,q2,q3,q4⟩:=wA s f (k+bD (s.data.toList.drop k)) (acc.push (.int .i32 (Int.ofNat (Utf8.decode s k).1))) (by omega) h2
   refine⟨(Utf8.decode s k).1::rs,?_,?_,?_,?_⟩
   ·unfold Conv.runesFrom;rw[if_pos h];simp only[e1];rw[q1];simp
   ·rw[gP hne h1,List.length_cons,List.length_cons,List.drop_drop,q2]
   ·intro r hr;rcases List.mem_cons.1 hr with rfl|hr
    ·exact e2
    ·exact q3 r hr
   ·rw[gP hne h1,List.map_cons,List.drop_drop,q4,e3]
  ·refine⟨[],?_,?_,by simp,?_⟩
   ·unfold Conv.runesFrom;rw[if_neg h];simp
   all_goals rw[dL (Or.inl (List.drop_eq_nil_of_le (by simp;omega)))];rfl
end Go.Proofs.YtblbkfdhjfppkaaGreatDoor
