/- Contracts of the program: which sort a value is of. -/
import Derived.Test.YtblbkfdhjfppkaaGreatDoorB01
import Derived.Test.YtblbkfdhjfppkaaGreatDoorP00
set_option maxRecDepth 100000
set_option maxHeartbeats 4000000
namespace Go.Proofs.YtblbkfdhjfppkaaGreatDoor
open Hs
open Tryz(prog)
open Go.RowKit
theorem lC(v:Value)(w:World):(Instr.typeAssert (.iface 315 v) 256 315 true).run prog w=.ok (.tuple #[v,.bool true]) w:=by kernel_rfl
theorem MQ(v:Value)(w:World):(Instr.typeAssert (.iface 315 v) 256 316 true).run prog w=.ok (.tuple #[.bool false,.bool false]) w:=by kernel_rfl
theorem mJ(v:Value)(w:World):(Instr.typeAssert (.iface 315 v) 256 318 true).run prog w=.ok (.tuple #[.string ⟨#[]⟩,.bool false]) w:=by kernel_rfl
theorem iW(v:Value)(w:World):(Instr.typeAssert (.iface 315 v) 256 319 true).run prog w=.ok (.tuple #[.slice none 0 0,.bool false]) w:=by kernel_rfl
theorem kF(v:Value)(w:World):(Instr.typeAssert (.iface 316 v) 256 315 true).run prog w=.ok (.tuple #[.int .i64 0,.bool false]) w:=by kernel_rfl
theorem tV(v:Value)(w:World):(Instr.typeAssert (.iface 316 v) 256 316 true).run prog w=.ok (.tuple #[v,.bool true]) w:=by kernel_rfl
theorem kE(v:Value)(w:World):(Instr.typeAssert (.iface 316 v) 256 318 true).run prog w=.ok (.tuple #[.string ⟨#[]⟩,.bool false]) w:=by kernel_rfl
theorem gO(v:Value)(w:World):(Instr.typeAssert (.iface 316 v) 256 319 true).run prog w=.ok (.tuple #[.slice none 0 0,.bool false]) w:=by kernel_rfl
theorem lB(v:Value)(w:World):(Instr.typeAssert (.iface 318 v) 256 315 true).run prog w=.ok (.tuple #[.int .i64 0,.bool false]) w:=by kernel_rfl
theorem xD(v:Value)(w:World):(Instr.typeAssert (.iface 318 v) 256 316 true).run prog w=.ok (.tuple #[.bool false,.bool false]) w:=by kernel_rfl
theorem jZ(v:Value)(w:World):(Instr.typeAssert (.iface 318 v) 256 318 true).run prog w=.ok (.tuple #[v,.bool true]) w:=by kernel_rfl
theorem kC(v:Value)(w:World):(Instr.typeAssert (.iface 318 v) 256 319 true).run prog w=.ok (.tuple #[.slice none 0 0,.bool false]) w:=by kernel_rfl
theorem kD(v:Value)(w:World):(Instr.typeAssert (.iface 319 v) 256 315 true).run prog w=.ok (.tuple #[.int .i64 0,.bool false]) w:=by kernel_rfl
theorem tU(v:Value)(w:World):(Instr.typeAssert (.iface 319 v) 256 316 true).run prog w=.ok (.tuple #[.bool false,.bool false]) w:=by kernel_rfl
theorem lP(v:Value)(w:World):(Instr.typeAssert (.iface 319 v) 256 318 true).run prog w=.ok (.tuple #[.string ⟨#[]⟩,.bool false]) w:=by kernel_rfl
theorem gN(v:Value)(w:World):(Instr.typeAssert (.iface 319 v) 256 319 true).run prog w=.ok (.tuple #[v,.bool true]) w:=by kernel_rfl
def mW(n b0 b1 b2 b3:Nat):Nat:=
 if b0<128 then 1
 else if 194<=b0/\b0<=223 then (if 1<n/\128<=b1/\b1<=191 then 2 else 0)
 else if 224<=b0/\b0<=239 then
  (if (1<n/\(if b0=224 then 160 else 128)<=b1/\b1<=(if b0=237 then 159 else 191))/\(2<n/\128<=b2/\b2<=191) then 3 else 0)
 else if 240<=b0/\b0<=244 then
  (if ((1<n/\(if b0=240 then 144 else 128)<=b1/\b1<=(if b0=244 then 143 else 191))/\(2<n/\128<=b2/\b2<=191))/\(3<n/\128<=b3/\b3<=191) then 4 else 0)
 else 0
theorem L6(n b0 b1 b2 b3:Nat)(h0:b0<256)(h1:b1<256)(h2:b2<256)(h3:b3<256):
 (mW n b0 b1 b2 b3=0->Lib.decodeN n b0 b1 b2 b3=(65533,1))/\(mW n b0 b1 b2 b3≠0->(Lib.decodeN n b0 b1 b2 b3).2=mW n b0 b1 b2 b3/\¬((Lib.decodeN n b0 b1 b2 b3).1=65533/\mW n b0 b1 b2 b3=1)/\((Lib.decodeN n b0 b1 b2 b3).1=10↔b0=10)):=by
 have d1:b1/64=2↔128<=b1/\b1<=191:=by omega
 have d2:b2/64=2↔128<=b2/\b2<=191:=by omega
 have d3:b3/64=2↔128<=b3/\b3<=191:=by omega
 have a1:b0/32=6↔192<=b0/\b0<=223:=by omega
 have a2:b0/16=14↔224<=b0/\b0<=239:=by omega
 have a3:b0/8=30↔240<=b0/\b0<=247:=by omega
 unfold mW Lib.decodeN;simp only[d1,d2,d3,a1,a2,a3];by_cases c1:b0<128
 ·simp only[if_pos c1];exact⟨fun h=>absurd h (by omega),fun _=>⟨trivial,by omega,trivial⟩⟩
 ·simp only[if_neg c1];repeat' split
  all_goals first
   |(refine⟨fun _=>rfl,fun h=>absurd rfl h⟩)
   |(refine⟨fun h=>absurd h (by omega),fun _=>⟨rfl,?_,?_⟩⟩<;>(simp only;omega))
   |(exfalso;omega)
theorem oB(s:ByteArray)(i:Nat)(h:i<s.size):s.get! i=s[i]:=by
 show s.data[i]! =s.data[i]
 rw[getElem!_pos s.data i (by simpa using h)]
theorem T7(s:ByteArray)(i lo hi:Nat):dF s.data.toList i lo hi=decide (i<s.size/\lo<=(s.get! i).toNat/\(s.get! i).toNat<=hi):=by
 unfold dF;by_cases h:i<s.size
 ·have e:s.data.toList[i]?=some s[i]:=by simp[h];rfl
  rw[e,oB s i h];simp[h]
 ·have e:s.data.toList[i]?=none:=aa_ (by simpa using (by omega:s.size<=i))
  rw[e];simp[h]
theorem V8(s:ByteArray)(h:0<s.size):bC s.data.toList=mW s.size (s.get! 0).toNat (s.get! 1).toNat (s.get! 2).toNat (s.get! 3).toNat:=by
 unfold bC mW;have e:s.data.toList[0]?=some s[0]:=by simp[h];rfl
 rw[e,<-oB s 0 h];simp only[T7,y6,decide_eq_true_eq]
theorem ZJ(s:ByteArray)(k i lo hi:Nat):dF (s.data.toList.drop k) i lo hi=decide (i<s.size-k/\lo<=(s.get! (k+i)).toNat/\(s.get! (k+i)).toNat<=hi):=by
 unfold dF;rw[aV_];by_cases h:k+i<s.size
 ·have e:s.data.toList[k+i]?=some s[k+i]:=by simp[h];rfl
  rw[e,oB s (k+i) h];have h':i<s.size-k:=by omega
  simp[h']
 ·have e:s.data.toList[k+i]?=none:=aa_ (by simpa using (by omega:s.size<=k+i))
  rw[e];have h':¬i<s.size-k:=by omega
  simp[h']
theorem B2(s:ByteArray)(k:Nat)(h:k<s.size):bC (s.data.toList.drop k)=mW (s.size-k) (s.get! k).toNat (s.get! (k+1)).toNat (s.get! (k+2)).toNat (s.get! (k+3)).toNat:=by
 unfold bC mW;have e:(s.data.toList.drop k)[0]?=some s[k]:=by rw[aV_];simp[h];rfl
 rw[e,<-oB s k h];simp only[ZJ,y6,decide_eq_true_eq]
def DE(r:Nat):List UInt8:=(Utf8.encode (Int.ofNat r)).data.toList
theorem AA(r:Nat)(h:r<55296\/(57344<=r/\r<=1114111)):DE r=if r<128 then [UInt8.ofNat r] else if r<2048 then [UInt8.ofNat (192+r/64),UInt8.ofNat (128+r%64)] else if r<65536 then [UInt8.ofNat (224+r/4096),UInt8.ofNat (128+r/64%64),UInt8.ofNat (128+r%64)]
 else [UInt8.ofNat (240+r/262144),UInt8.ofNat (128+r/4096%64),UInt8.ofNat (128+r/64%64),UInt8.ofNat (128+r%64)]:=by
 have hv:Utf8.valid (Int.ofNat r)=true:=by
  unfold Utf8.valid;simp only[aQ_,y6,decide_eq_true_eq,Int.ofNat_eq_natCast];omega
 have hc:(if Utf8.valid (Int.ofNat r) then (Int.ofNat r).toNat else Utf8.runeError)=r:=by rw[if_pos hv];rfl
 unfold DE Utf8.encode;simp only[hc];repeat' split
 all_goals rfl
theorem U4(n b0 b1 b2 b3:Nat)(h0:b0<256)(hc:mW n b0 b1 b2 b3≠0):
 (Lib.decodeN n b0 b1 b2 b3).2=mW n b0 b1 b2 b3/\(Lib.decodeN n b0 b1 b2 b3).1<=1114111/\DE (Lib.decodeN n b0 b1 b2 b3).1=([b0,b1,b2,b3].take (mW n b0 b1 b2 b3)).map UInt8.ofNat:=by
 have a1:b0/32=6↔192<=b0/\b0<=223:=by omega
 have a2:b0/16=14↔224<=b0/\b0<=239:=by omega
 have a3:b0/8=30↔240<=b0/\b0<=247:=by omega
 unfold mW at hc ⊢
 unfold Lib.decodeN;by_cases c1:b0<128
 ·simp only[if_pos c1];refine⟨trivial,by omega,?_⟩
  rw[AA _ (by omega),if_pos c1];rfl
 simp only[if_neg c1] at hc ⊢
 by_cases c2:194<=b0/\b0<=223
 ·rw[if_pos c2] at hc ⊢
  by_cases d2:1<n/\128<=b1/\b1<=191
  ·rw[if_pos d2] at hc ⊢
   rw[if_pos ⟨a1.2 (by omega),d2.1,by omega⟩,if_pos (by omega)]
   refine⟨rfl,by omega,?_⟩
   rw[AA _ (by omega),if_neg (by omega),if_pos (by omega)]
   simp only[aw_,a9_,s5,ah_];rw[show 192+(b0%32*64+b1%64)/64=b0 by omega,show 128+(b0%32*64+b1%64)%64=b1 by omega]
  ·rw[if_neg d2] at hc;exact absurd rfl hc
 rw[if_neg c2] at hc ⊢
 by_cases c3:224<=b0/\b0<=239
 ·rw[if_pos c3] at hc ⊢
  by_cases d3:(1<n/\(if b0=224 then 160 else 128)<=b1/\b1<=(if b0=237 then 159 else 191))/\(2<n/\128<=b2/\b2<=191)
  ·rw[if_pos d3] at hc ⊢
   have l1:128<=b1:=by have:=d3.1.2.1;split at this<;>omega
   have l2:b1<=191:=by have:=d3.1.2.2;split at this<;>omega
   have l3:b0=224->160<=b1:=fun e=>by have:=d3.1.2.1;rw[if_pos e] at this;exact this
   have l4:b0=237->b1<=159:=fun e=>by have:=d3.1.2.2;rw[if_pos e] at this;exact this
   rw[if_neg (fun h=>by have:=a1.1 h.1;omega),if_pos ⟨a2.2 c3,⟨d3.1.1,by omega⟩,d3.2.1,by omega⟩]
   have hr:2048<=b0%16*4096+b1%64*64+b2%64:=by
    rcases as_ c3.1 with e|e
    ·have:=l3 e.symm;omega
    ·omega
   have hs:b0%16*4096+b1%64*64+b2%64<55296\/(57344<=b0%16*4096+b1%64*64+b2%64/\b0%16*4096+b1%64*64+b2%64<=1114111):=by
    by_cases e:b0=237
    ·have:=l4 e;omega
    ·omega
   rw[if_pos ⟨hr,by omega⟩]
   refine⟨rfl,by omega,?_⟩
   rw[AA _ hs,if_neg (by omega),if_neg (by omega),if_pos (by omega)]
   simp only[aw_,a9_,s5,ah_];rw[show 224+(b0%16*4096+b1%64*64+b2%64)/4096=b0 by omega,show 128+(b0%16*4096+b1%64*64+b2%64)/64%64=b1 by omega,show 128+(b0%16*4096+b1%64*64+b2%64)%64=b2 by omega]
  ·rw[if_neg d3] at hc;exact absurd rfl hc
 rw[if_neg c3] at hc ⊢
 by_cases c4:240<=b0/\b0<=244
 ·rw[if_pos c4] at hc ⊢
  by_cases d4:((1<n/\(if b0=240 then 144 else 128)<=b1/\b1<=(if b0=244 then 143 else 191))/\(2<n/\128<=b2/\b2<=191))/\(3<n/\128<=b3/\b3<=191)
  ·rw[if_pos d4] at hc ⊢
   have l1:128<=b1:=by have:=d4.1.1.2.1;split at this<;>omega
   have l2:b1<=191:=by have:=d4.1.1.2.2;split at this<;>omega
   have l3:b0=240->144<=b1:=fun e=>by have:=d4.1.1.2.1;rw[if_pos e] at this;exact this
   have l4:b0=244->b1<=143:=fun e=>by have:=d4.1.1.2.2;rw[if_pos e] at this;exact this
   rw[if_neg (fun h=>by have:=a1.1 h.1;omega),if_neg (fun h=>by have:=a2.1 h.1;omega),if_pos ⟨a3.2 (by omega),⟨d4.1.1.1,by omega⟩,⟨d4.1.2.1,by omega⟩,d4.2.1,by omega⟩]
   have hr:65536<=b0%8*262144+b1%64*4096+b2%64*64+b3%64:=by
    rcases as_ c4.1 with e|e
    ·have:=l3 e.symm;omega
    ·omega
   have hs:b0%8*262144+b1%64*4096+b2%64*64+b3%64<=1114111:=by
    rcases as_ c4.2 with e|e
    ·have:=l4 e;omega
    ·omega
   rw[if_pos ⟨hr,by omega⟩]
   refine⟨rfl,hs,?_⟩;rw[AA _ (by omega),if_neg (by omega),if_neg (by omega),if_neg (by omega)]
   simp only[aw_,a9_,s5,ah_];rw[show 240+(b0%8*262144+b1%64*4096+b2%64*64+b3%64)/262144=b0 by omega,show 128+(b0%8*262144+b1%64*4096+b2%64*64+b3%64)/4096%64=b1 by omega,show 128+(b0%8*262144+b1%64*4096+b2%64*64+b3%64)/64%64=b2 by omega,show 128+(b0%8*262144+b1%64*4096+b2%64*64+b3%64)%64=b3 by omega]
  ·rw[if_neg d4] at hc;exact absurd rfl hc
 ·rw[if_neg c4] at hc;exact absurd rfl hc
theorem QK(s:ByteArray)(k:Nat)(h:k<s.size)(hc:bC (s.data.toList.drop k)≠0):
 (Utf8.decode s k).2=bC (s.data.toList.drop k)/\(Utf8.decode s k).1<=1114111/\DE (Utf8.decode s k).1=(s.data.toList.drop k).take (bC (s.data.toList.drop k)):=by
 have hle:= @jY (s.data.toList.drop k);rw[B2 s k h] at hc hle ⊢
 obtain⟨e1,e2,e3⟩:=U4 (s.size-k) (s.get! k).toNat (s.get! (k+1)).toNat (s.get! (k+2)).toNat (s.get! (k+3)).toNat (aT_ _) hc;rw[Lib.decode_at];refine⟨e1,e2,e3.trans ?_⟩;generalize hk:mW (s.size-k) (s.get! k).toNat (s.get! (k+1)).toNat (s.get! (k+2)).toNat (s.get! (k+3)).toNat=c at*
 have h4:c<=4:=by rw[<-hk];unfold mW;repeat' split
                  all_goals omega
 have hl:(s.data.toList.drop k).length=s.size-k:=by simp
 refine List.ext_getElem? fun i=>?_
 rw[aM_,x6,x6];by_cases hi:i<c
 ·rw[if_pos hi,if_pos hi,aV_];have hki:k+i<s.size:=by omega
  have e:s.data.toList[k+i]?=some (s.get! (k+i)):=by rw[oB s (k+i) hki];simp[hki];rfl
  rw[e];match i,hi with
  |0,_=>simp
  |1,_=>simp
  |2,_=>simp
  |3,_=>simp
  |j+4,hi=>omega
 ·rw[if_neg hi,if_neg hi];rfl
theorem yB(s:ByteArray):∀(f k:Nat),s.size-k<=f->cO (s.data.toList.drop k)->Lib.runeCountFrom s f k=(dV (s.data.toList.drop k)).length
 |0,k,hf,_=>by
  rw[dQ (Or.inl (am_ (by simp;omega)))];rfl
 |f+1,k,hf,ht=>by
  unfold Lib.runeCountFrom;by_cases h:k<s.size
  ·have hne:s.data.toList.drop k≠[]:=fun e=>by have:=congrArg List.length e;simp at this;omega
   obtain⟨h1,h2⟩:=ht.ne hne;obtain⟨e1,_,_⟩:=QK s k h h1;rw[if_pos h,e1,iB hne h1,n8];rw[aN_] at h2 ⊢
   rw[yB s f (k+bC (s.data.toList.drop k)) (by omega) h2]
   omega
  ·rw[if_neg h,dQ (Or.inl (am_ (by simp;omega)))];rfl
theorem xN(s:ByteArray):∀(f k:Nat) (acc:Array Value),s.size-k<=f->cO (s.data.toList.drop k)->
 ∃rs:List Nat,Conv.runesFrom s f k acc=acc++(rs.map fun r=>Value.int .i32 (Int.ofNat r)).toArray/\rs.length=(dV (s.data.toList.drop k)).length/\(∀r∈rs,r<=1114111)/\rs.map DE=dV (s.data.toList.drop k)
 |0,k,acc,hf,_=>⟨[],by simp[Conv.runesFrom],by
    rw[dQ (Or.inl (am_ (by simp;omega)))];rfl,by simp,by
    rw[dQ (Or.inl (am_ (by simp;omega)))];rfl⟩
 |f+1,k,acc,hf,ht=>by
  by_cases h:k<s.size
  ·have hne:s.data.toList.drop k≠[]:=fun e=>by have:=congrArg List.length e;simp at this;omega
   obtain⟨h1,h2⟩:=ht.ne hne;obtain⟨e1,e2,e3⟩:=QK s k h h1;rw[aN_] at h2;obtain⟨rs,q1,q2,q3,q4⟩:=xN s f (k+bC (s.data.toList.drop k)) (acc.push (.int .i32 (Int.ofNat (Utf8.decode s k).1))) (by omega) h2
   refine⟨(Utf8.decode s k).1::rs,?_,?_,?_,?_⟩
   ·unfold Conv.runesFrom;rw[if_pos h];simp only[e1];rw[q1];simp
   ·rw[iB hne h1,n8,n8,aN_,q2]
   ·intro r hr;rcases p8.1 hr with rfl|hr
    ·exact e2
    ·exact q3 r hr
   ·rw[iB hne h1,s5,aN_,q4,e3]
  ·refine⟨[],?_,?_,by simp,?_⟩
   ·unfold Conv.runesFrom;rw[if_neg h];simp
   all_goals rw[dQ (Or.inl (am_ (by simp;omega)))];rfl
end Go.Proofs.YtblbkfdhjfppkaaGreatDoor
