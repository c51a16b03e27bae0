/- Contracts of the program: which sort a value is of. -/
import Derived.Test.YtmjbnmpamlainaaGreatDoorP01
set_option linter.defProp false
set_option maxRecDepth 100000
set_option maxHeartbeats 4000000
namespace Go.Proofs.YtmjbnmpamlainaaGreatDoor
open Hs
open _root_.Go.Proofs.Tryz
open Instr(typeAssert)
open Go.RowKit
def mH(v:aQ)(w:aG):(typeAssert (.iface 209 v) 129 209 true).run prog w=.ok (.tuple #[v,.bool true]) w:=by kernel_rfl
def OZ(v:aQ)(w:aG):(typeAssert (.iface 209 v) 129 211 true).run prog w=.ok (.tuple #[.bool false,.bool false]) w:=by kernel_rfl
def nU(v:aQ)(w:aG):(typeAssert (.iface 209 v) 129 213 true).run prog w=.ok (.tuple #[.string ⟨#[]⟩,.bool false]) w:=by kernel_rfl
def jU(v:aQ)(w:aG):(typeAssert (.iface 209 v) 129 214 true).run prog w=.ok (.tuple #[bF,.bool false]) w:=by kernel_rfl
def lH(v:aQ)(w:aG):(typeAssert (.iface 211 v) 129 209 true).run prog w=.ok (.tuple #[Iv0 0,.bool false]) w:=by kernel_rfl
def vQ(v:aQ)(w:aG):(typeAssert (.iface 211 v) 129 211 true).run prog w=.ok (.tuple #[v,.bool true]) w:=by kernel_rfl
def lG(v:aQ)(w:aG):(typeAssert (.iface 211 v) 129 213 true).run prog w=.ok (.tuple #[.string ⟨#[]⟩,.bool false]) w:=by kernel_rfl
def iH(v:aQ)(w:aG):(typeAssert (.iface 211 v) 129 214 true).run prog w=.ok (.tuple #[bF,.bool false]) w:=by kernel_rfl
def mG(v:aQ)(w:aG):(typeAssert (.iface 213 v) 129 209 true).run prog w=.ok (.tuple #[Iv0 0,.bool false]) w:=by kernel_rfl
def zF(v:aQ)(w:aG):(typeAssert (.iface 213 v) 129 211 true).run prog w=.ok (.tuple #[.bool false,.bool false]) w:=by kernel_rfl
def kZ(v:aQ)(w:aG):(typeAssert (.iface 213 v) 129 213 true).run prog w=.ok (.tuple #[v,.bool true]) w:=by kernel_rfl
def lE(v:aQ)(w:aG):(typeAssert (.iface 213 v) 129 214 true).run prog w=.ok (.tuple #[bF,.bool false]) w:=by kernel_rfl
def lF(v:aQ)(w:aG):(typeAssert (.iface 214 v) 129 209 true).run prog w=.ok (.tuple #[Iv0 0,.bool false]) w:=by kernel_rfl
def vP(v:aQ)(w:aG):(typeAssert (.iface 214 v) 129 211 true).run prog w=.ok (.tuple #[.bool false,.bool false]) w:=by kernel_rfl
def mX(v:aQ)(w:aG):(typeAssert (.iface 214 v) 129 213 true).run prog w=.ok (.tuple #[.string ⟨#[]⟩,.bool false]) w:=by kernel_rfl
def iG(v:aQ)(w:aG):(typeAssert (.iface 214 v) 129 214 true).run prog w=.ok (.tuple #[v,.bool true]) w:=by kernel_rfl
def oF(n b0 b1 b2 b3:Nat):Nat:=
 if b0<128 then 1
 else if 194<=b0/\b0<=223 then (if 1<n/\128<=b1/\b1<=191 then 2 else 0)
 else if 224<=b0/\b0<=239 then
  (if (1<n/\(if b0=224 then 160 else 128)<=b1/\b1<=(if b0=237 then 159 else 191))/\(2<n/\128<=b2/\b2<=191) then 3 else 0)
 else if 240<=b0/\b0<=244 then
  (if ((1<n/\(if b0=240 then 144 else 128)<=b1/\b1<=(if b0=244 then 143 else 191))/\(2<n/\128<=b2/\b2<=191))/\(3<n/\128<=b3/\b3<=191) then 4 else 0)
 else 0
def j6(n a b d c:Nat)(o:a<256)(p:b<256)(m:d<256)(q:c<256):
 (oF n a b d c=0->Lib.decodeN n a b d c=(65533,1))/\(oF n a b d c≠0->(Lib.decodeN n a b d c).2=oF n a b d c/\¬((Lib.decodeN n a b d c).1=65533/\oF n a b d c=1)/\((Lib.decodeN n a b d c).1=10↔a=10)):=by
 have i:b/64=2↔128<=b/\b<=191:=by omega
 have f:d/64=2↔128<=d/\d<=191:=by omega
 have g:c/64=2↔128<=c/\c<=191:=by omega
 have k:a/32=6↔192<=a/\a<=223:=by omega
 have l:a/16=14↔224<=a/\a<=239:=by omega
 have j:a/8=30↔240<=a/\a<=247:=by omega
 unfold oF Lib.decodeN;simp only[i,f,g,k,l,j];by_cases e:a<128
 ·simp only[if_pos e];exact⟨fun h=>absurd h (by omega),fun _=>⟨trivial,by omega,trivial⟩⟩
 ·simp only[if_neg e];repeat' split
  all_goals first
   |(refine⟨fun _=>rfl,fun h=>absurd rfl h⟩)
   |(refine⟨fun h=>absurd h (by omega),fun _=>⟨rfl,?_,?_⟩⟩<;>(simp only;omega))
   |(exfalso;omega)
def pR(s:ByteArray)(i:Nat)(h:i<s.size):s.get! i=s[i]:=by
 show s.data[i]! =s.data[i]
 rw[getElem!_pos s.data i (by simpa using h)]
def aM_(s:ByteArray)(i lo hi:Nat):dN s.data.toList i lo hi=decide (i<s.size/\lo<=(s.get! i).toNat/\(s.get! i).toNat<=hi):=by
 unfold dN;by_cases h:i<s.size
 ·have e:s.data.toList[i]?=some s[i]:=by simp[h];rfl
  rw[e,pR s i h];simp[h]
 ·have e:s.data.toList[i]?=none:=cV_ (by simpa using (by omega:s.size<=i))
  rw[e];simp[h]
def a0_(s:ByteArray)(h:0<s.size):bK s.data.toList=oF s.size (s.get! 0).toNat (s.get! 1).toNat (s.get! 2).toNat (s.get! 3).toNat:=by
 unfold bK oF;have e:s.data.toList[0]?=some s[0]:=by simp[h];rfl
 rw[e,<-pR s 0 h];simp only[aM_,cO_,decide_eq_true_eq]
def L1(s:ByteArray)(k i lo hi:Nat):dN (s.data.toList.drop k) i lo hi=decide (i<s.size-k/\lo<=(s.get! (k+i)).toNat/\(s.get! (k+i)).toNat<=hi):=by
 unfold dN;rw[dK_];by_cases h:k+i<s.size
 ·have e:s.data.toList[k+i]?=some s[k+i]:=by simp[h];rfl
  rw[e,pR s (k+i) h];have a:i<s.size-k:=by omega
  simp[a]
 ·have e:s.data.toList[k+i]?=none:=cV_ (by simpa using (by omega:s.size<=k+i))
  rw[e];have a:¬i<s.size-k:=by omega
  simp[a]
def O0(s:ByteArray)(k:Nat)(h:k<s.size):bK (s.data.toList.drop k)=oF (s.size-k) (s.get! k).toNat (s.get! (k+1)).toNat (s.get! (k+2)).toNat (s.get! (k+3)).toNat:=by
 unfold bK oF;have e:(s.data.toList.drop k)[0]?=some s[k]:=by rw[dK_];simp[h];rfl
 rw[e,<-pR s k h];simp only[L1,cO_,decide_eq_true_eq]
def FI(r:Nat):cD:=(Utf8.encode (Int.ofNat r)).data.toList
def CE(r:Nat)(h:r<55296\/(57344<=r/\r<=1114111)):FI r=if r<128 then [UInt8.ofNat r] else if r<2048 then [UInt8.ofNat (192+r/64),UInt8.ofNat (128+r%64)] else if r<65536 then [UInt8.ofNat (224+r/4096),UInt8.ofNat (128+r/64%64),UInt8.ofNat (128+r%64)]
 else [UInt8.ofNat (240+r/262144),UInt8.ofNat (128+r/4096%64),UInt8.ofNat (128+r/64%64),UInt8.ofNat (128+r%64)]:=by
 have a:Utf8.valid (Int.ofNat r)=true:=by
  unfold Utf8.valid;simp only[dB_,cO_,decide_eq_true_eq,Int.ofNat_eq_natCast];omega
 have b:(if Utf8.valid (Int.ofNat r) then (Int.ofNat r).toNat else Utf8.runeError)=r:=by rw[if_pos a];rfl
 unfold FI Utf8.encode;simp only[b];repeat' split
 all_goals rfl
def aR_(n a b c f:Nat)(y:a<256)(d:oF n a b c f≠0):
 (Lib.decodeN n a b c f).2=oF n a b c f/\(Lib.decodeN n a b c f).1<=1114111/\FI (Lib.decodeN n a b c f).1=([a,b,c,f].take (oF n a b c f)).map UInt8.ofNat:=by
 have s:a/32=6↔192<=a/\a<=223:=by omega
 have u:a/16=14↔224<=a/\a<=239:=by omega
 have v:a/8=30↔240<=a/\a<=247:=by omega
 unfold oF at d ⊢
 unfold Lib.decodeN;by_cases m:a<128
 ·simp only[if_pos m];refine⟨trivial,by omega,?_⟩
  rw[CE _ (by omega),if_pos m];rfl
 simp only[if_neg m] at d ⊢
 by_cases t:194<=a/\a<=223
 ·rw[if_pos t] at d ⊢
  by_cases l:1<n/\128<=b/\b<=191
  ·rw[if_pos l] at d ⊢
   rw[if_pos ⟨s.2 (by omega),l.1,by omega⟩,if_pos (by omega)]
   refine⟨rfl,by omega,?_⟩
   rw[CE _ (by omega),if_neg (by omega),if_pos (by omega)]
   simp only[dj_,List.take_zero,cE_,c1_];rw[show 192+(a%32*64+b%64)/64=a by omega,show 128+(a%32*64+b%64)%64=b by omega]
  ·rw[if_neg l] at d;exact absurd rfl d
 rw[if_neg t] at d ⊢
 by_cases j:224<=a/\a<=239
 ·rw[if_pos j] at d ⊢
  by_cases i:(1<n/\(if a=224 then 160 else 128)<=b/\b<=(if a=237 then 159 else 191))/\(2<n/\128<=c/\c<=191)
  ·rw[if_pos i] at d ⊢
   have w:128<=b:=by have:=i.1.2.1;split at this<;>omega
   have x:b<=191:=by have:=i.1.2.2;split at this<;>omega
   have o:a=224->160<=b:=fun e=>by have:=i.1.2.1;rw[if_pos e] at this;exact this
   have p:a=237->b<=159:=fun e=>by have:=i.1.2.2;rw[if_pos e] at this;exact this
   rw[if_neg (fun h=>by have:=s.1 h.1;omega),if_pos ⟨u.2 j,⟨i.1.1,by omega⟩,i.2.1,by omega⟩]
   have q:2048<=a%16*4096+b%64*64+c%64:=by
    rcases dd_ j.1 with e|e
    ·have:=o e.symm;omega
    ·omega
   have r:a%16*4096+b%64*64+c%64<55296\/(57344<=a%16*4096+b%64*64+c%64/\a%16*4096+b%64*64+c%64<=1114111):=by
    by_cases e:a=237
    ·have:=p e;omega
    ·omega
   rw[if_pos ⟨q,by omega⟩]
   refine⟨rfl,by omega,?_⟩
   rw[CE _ r,if_neg (by omega),if_neg (by omega),if_pos (by omega)]
   simp only[dj_,List.take_zero,cE_,c1_];rw[show 224+(a%16*4096+b%64*64+c%64)/4096=a by omega,show 128+(a%16*4096+b%64*64+c%64)/64%64=b by omega,show 128+(a%16*4096+b%64*64+c%64)%64=c by omega]
  ·rw[if_neg i] at d;exact absurd rfl d
 rw[if_neg j] at d ⊢
 by_cases k:240<=a/\a<=244
 ·rw[if_pos k] at d ⊢
  by_cases g:((1<n/\(if a=240 then 144 else 128)<=b/\b<=(if a=244 then 143 else 191))/\(2<n/\128<=c/\c<=191))/\(3<n/\128<=f/\f<=191)
  ·rw[if_pos g] at d ⊢
   have w:128<=b:=by have:=g.1.1.2.1;split at this<;>omega
   have x:b<=191:=by have:=g.1.1.2.2;split at this<;>omega
   have o:a=240->144<=b:=fun e=>by have:=g.1.1.2.1;rw[if_pos e] at this;exact this
   have p:a=244->b<=143:=fun e=>by have:=g.1.1.2.2;rw[if_pos e] at this;exact this
   rw[if_neg (fun h=>by have:=s.1 h.1;omega),if_neg (fun h=>by have:=u.1 h.1;omega),if_pos ⟨v.2 (by omega),⟨g.1.1.1,by omega⟩,⟨g.1.2.1,by omega⟩,g.2.1,by omega⟩]
   have q:65536<=a%8*262144+b%64*4096+c%64*64+f%64:=by
    rcases dd_ k.1 with e|e
    ·have:=o e.symm;omega
    ·omega
   have r:a%8*262144+b%64*4096+c%64*64+f%64<=1114111:=by
    rcases dd_ k.2 with e|e
    ·have:=p e;omega
    ·omega
   rw[if_pos ⟨q,by omega⟩]
   refine⟨rfl,r,?_⟩;rw[CE _ (by omega),if_neg (by omega),if_neg (by omega),if_neg (by omega)]
   simp only[dj_,List.take_zero,cE_,c1_];rw[show 240+(a%8*262144+b%64*4096+c%64*64+f%64)/262144=a by omega,show 128+(a%8*262144+b%64*4096+c%64*64+f%64)/4096%64=b by omega,show 128+(a%8*262144+b%64*4096+c%64*64+f%64)/64%64=c by omega,show 128+(a%8*262144+b%64*4096+c%64*64+f%64)%64=f by omega]
  ·rw[if_neg g] at d;exact absurd rfl d
 ·rw[if_neg k] at d;exact absurd rfl d
def TC(s:ByteArray)(k:Nat)(h:k<s.size)(f:bK (s.data.toList.drop k)≠0):
 (Utf8.decode s k).2=bK (s.data.toList.drop k)/\(Utf8.decode s k).1<=1114111/\FI (Utf8.decode s k).1=(s.data.toList.drop k).take (bK (s.data.toList.drop k)):=by
 have d:= @kY (s.data.toList.drop k);rw[O0 s k h] at f d ⊢
 obtain⟨l,n,m⟩:=aR_ (s.size-k) (s.get! k).toNat (s.get! (k+1)).toNat (s.get! (k+2)).toNat (s.get! (k+3)).toNat (dG_ _) f;rw[Lib.decode_at];refine⟨l,n,m.trans ?_⟩;generalize g:oF (s.size-k) (s.get! k).toNat (s.get! (k+1)).toNat (s.get! (k+2)).toNat (s.get! (k+3)).toNat=c at*
 have p:c<=4:=by rw[<-g];unfold oF;repeat' split
                 all_goals omega
 have o:(s.data.toList.drop k).length=s.size-k:=by simp
 refine List.ext_getElem? fun i=>?_
 rw[dw_,cM_,cM_];by_cases a:i<c
 ·rw[if_pos a,if_pos a,dK_];have b:k+i<s.size:=by omega
  have e:s.data.toList[k+i]?=some (s.get! (k+i)):=by rw[pR s (k+i) b];simp[b];rfl
  rw[e];match i,a with
  |0,_=>simp
  |1,_=>simp
  |2,_=>simp
  |3,_=>simp
  |j+4,a=>omega
 ·rw[if_neg a,if_neg a];rfl
def AC(s:ByteArray):∀(f k:Nat),s.size-k<=f->dB (s.data.toList.drop k)->Lib.runeCountFrom s f k=(eG (s.data.toList.drop k)).length
 |0,k,d,_=>by
  rw[eB (cl_ (c2_ (by simp;omega)))];rfl
 |f+1,k,d,i=>by
  unfold Lib.runeCountFrom;by_cases h:k<s.size
  ·have a:s.data.toList.drop k≠[]:=fun e=>by have:=congrArg List.length e;simp at this;omega
   obtain⟨c,b⟩:=i.ne a;obtain⟨g,_,_⟩:=TC s k h c;rw[if_pos h,g,iS a c,ct_];rw[dx_] at b ⊢
   rw[AC s f (k+bK (s.data.toList.drop k)) (by omega) b]
   omega
  ·rw[if_neg h,eB (cl_ (c2_ (by simp;omega)))];rfl
def zP(s:ByteArray):∀(f k:Nat) (acc:Array Value),s.size-k<=f->dB (s.data.toList.drop k)->
 ∃b:List Nat,Conv.runesFrom s f k acc=acc++(b.map fun r=>Value.int .i32 (Int.ofNat r)).toArray/\b.length=(eG (s.data.toList.drop k)).length/\(∀r∈b,r<=1114111)/\b.map FI=eG (s.data.toList.drop k)
 |0,k,acc,n,_=>⟨[],by simp[Conv.runesFrom],by
    rw[eB (cl_ (c2_ (by simp;omega)))];rfl,by simp,by
    rw[eB (cl_ (c2_ (by simp;omega)))];rfl⟩
 |f+1,k,acc,n,i=>by
  by_cases h:k<s.size
  ·have a:s.data.toList.drop k≠[]:=fun e=>by have:=congrArg List.length e;simp at this;omega
   obtain⟨c,g⟩:=i.ne a;obtain⟨p,m,q⟩:=TC s k h c;rw[dx_] at g;obtain⟨b,j,t,l,o⟩:=zP s f (k+bK (s.data.toList.drop k)) (acc.push (.int .i32 (Int.ofNat (Utf8.decode s k).1))) (by omega) g
   refine⟨(Utf8.decode s k).1::b,?_,?_,?_,?_⟩
   ·unfold Conv.runesFrom;rw[if_pos h];simp only[p];rw[j];simp
   ·rw[iS a c,ct_,ct_,dx_,t]
   ·intro r d;rcases cv_.1 d with rfl|d
    ·exact m
    ·exact l r d
   ·rw[iS a c,cE_,dx_,o,q]
  ·refine⟨[],?_,?_,by simp,?_⟩
   ·unfold Conv.runesFrom;rw[if_neg h];simp
   all_goals rw[eB (cl_ (c2_ (by simp;omega)))];rfl
def uR(v:aQ)(w:aG):(typeAssert (.iface 178 v) 59 178 true).run prog w=.ok (.tuple #[v,.bool true]) w:=by kernel_rfl
def wC(v:aQ)(w:aG):(typeAssert (.iface 181 v) 59 178 true).run prog w=.ok (.tuple #[.agg #[Iv0 0,Iv0 0,.string ⟨#[]⟩,.nilIface],.bool false]) w:=by kernel_rfl
def xX(v:aQ)(w:aG):(typeAssert (.iface 181 v) 59 181 true).run prog w=.ok (.tuple #[v,.bool true]) w:=by kernel_rfl
def tS(v:aQ)(w:aG):(typeAssert (.iface 185 v) 59 178 true).run prog w=.ok (.tuple #[.agg #[Iv0 0,Iv0 0,.string ⟨#[]⟩,.nilIface],.bool false]) w:=by kernel_rfl
def wA(v:aQ)(w:aG):(typeAssert (.iface 185 v) 59 181 true).run prog w=.ok (.tuple #[.agg #[Iv0 0,.string ⟨#[]⟩,bF,.nilIface],.bool false]) w:=by kernel_rfl
def PG(v:aQ)(w:aG):(typeAssert (.iface 185 v) 59 185 true).run prog w=.ok (.tuple #[v,.bool true]) w:=by kernel_rfl
def xH(v:aQ)(w:aG):(typeAssert (.iface 187 v) 59 178 true).run prog w=.ok (.tuple #[.agg #[Iv0 0,Iv0 0,.string ⟨#[]⟩,.nilIface],.bool false]) w:=by kernel_rfl
def AK(v:aQ)(w:aG):(typeAssert (.iface 187 v) 59 181 true).run prog w=.ok (.tuple #[.agg #[Iv0 0,.string ⟨#[]⟩,bF,.nilIface],.bool false]) w:=by kernel_rfl
def PC(v:aQ)(w:aG):(typeAssert (.iface 187 v) 59 185 true).run prog w=.ok (.tuple #[.agg #[Iv0 0,.nilIface,bF,bF],.bool false]) w:=by kernel_rfl
def CO(v:aQ)(w:aG):(typeAssert (.iface 187 v) 59 187 true).run prog w=.ok (.tuple #[v,.bool true]) w:=by kernel_rfl
def oO(v:aQ)(w:aG):(typeAssert (.iface 189 v) 59 178 true).run prog w=.ok (.tuple #[.agg #[Iv0 0,Iv0 0,.string ⟨#[]⟩,.nilIface],.bool false]) w:=by kernel_rfl
def pN(v:aQ)(w:aG):(typeAssert (.iface 189 v) 59 181 true).run prog w=.ok (.tuple #[.agg #[Iv0 0,.string ⟨#[]⟩,bF,.nilIface],.bool false]) w:=by kernel_rfl
def vX(v:aQ)(w:aG):(typeAssert (.iface 189 v) 59 185 true).run prog w=.ok (.tuple #[.agg #[Iv0 0,.nilIface,bF,bF],.bool false]) w:=by kernel_rfl
def qR(v:aQ)(w:aG):(typeAssert (.iface 189 v) 59 187 true).run prog w=.ok (.tuple #[.agg #[Iv0 0,.nilIface,bF],.bool false]) w:=by kernel_rfl
def pM(v:aQ)(w:aG):(typeAssert (.iface 189 v) 59 189 true).run prog w=.ok (.tuple #[v,.bool true]) w:=by kernel_rfl
def xN(v:aQ)(w:aG):(typeAssert (.iface 190 v) 59 178 true).run prog w=.ok (.tuple #[.agg #[Iv0 0,Iv0 0,.string ⟨#[]⟩,.nilIface],.bool false]) w:=by kernel_rfl
def AS(v:aQ)(w:aG):(typeAssert (.iface 190 v) 59 181 true).run prog w=.ok (.tuple #[.agg #[Iv0 0,.string ⟨#[]⟩,bF,.nilIface],.bool false]) w:=by kernel_rfl
def PE(v:aQ)(w:aG):(typeAssert (.iface 190 v) 59 185 true).run prog w=.ok (.tuple #[.agg #[Iv0 0,.nilIface,bF,bF],.bool false]) w:=by kernel_rfl
def CY(v:aQ)(w:aG):(typeAssert (.iface 190 v) 59 187 true).run prog w=.ok (.tuple #[.agg #[Iv0 0,.nilIface,bF],.bool false]) w:=by kernel_rfl
def AR(v:aQ)(w:aG):(typeAssert (.iface 190 v) 59 189 true).run prog w=.ok (.tuple #[.agg #[Iv0 0,.nilIface],.bool false]) w:=by kernel_rfl
def CZ(v:aQ)(w:aG):(typeAssert (.iface 190 v) 59 190 true).run prog w=.ok (.tuple #[v,.bool true]) w:=by kernel_rfl
def BA(v:aQ)(w:aG):(typeAssert (.iface 192 v) 59 178 true).run prog w=.ok (.tuple #[.agg #[Iv0 0,Iv0 0,.string ⟨#[]⟩,.nilIface],.bool false]) w:=by kernel_rfl
def DI(v:aQ)(w:aG):(typeAssert (.iface 192 v) 59 181 true).run prog w=.ok (.tuple #[.agg #[Iv0 0,.string ⟨#[]⟩,bF,.nilIface],.bool false]) w:=by kernel_rfl
def UM(v:aQ)(w:aG):(typeAssert (.iface 192 v) 59 185 true).run prog w=.ok (.tuple #[.agg #[Iv0 0,.nilIface,bF,bF],.bool false]) w:=by kernel_rfl
def GW(v:aQ)(w:aG):(typeAssert (.iface 192 v) 59 187 true).run prog w=.ok (.tuple #[.agg #[Iv0 0,.nilIface,bF],.bool false]) w:=by kernel_rfl
def DH(v:aQ)(w:aG):(typeAssert (.iface 192 v) 59 189 true).run prog w=.ok (.tuple #[.agg #[Iv0 0,.nilIface],.bool false]) w:=by kernel_rfl
def GX(v:aQ)(w:aG):(typeAssert (.iface 192 v) 59 190 true).run prog w=.ok (.tuple #[.agg #[Iv0 0,.nilIface],.bool false]) w:=by kernel_rfl
def LW(v:aQ)(w:aG):(typeAssert (.iface 192 v) 59 192 true).run prog w=.ok (.tuple #[v,.bool true]) w:=by kernel_rfl
def tQ(v:aQ)(w:aG):(typeAssert (.iface 195 v) 59 178 true).run prog w=.ok (.tuple #[.agg #[Iv0 0,Iv0 0,.string ⟨#[]⟩,.nilIface],.bool false]) w:=by kernel_rfl
def uO(v:aQ)(w:aG):(typeAssert (.iface 195 v) 59 181 true).run prog w=.ok (.tuple #[.agg #[Iv0 0,.string ⟨#[]⟩,bF,.nilIface],.bool false]) w:=by kernel_rfl
def CR(v:aQ)(w:aG):(typeAssert (.iface 195 v) 59 185 true).run prog w=.ok (.tuple #[.agg #[Iv0 0,.nilIface,bF,bF],.bool false]) w:=by kernel_rfl
def vT(v:aQ)(w:aG):(typeAssert (.iface 195 v) 59 187 true).run prog w=.ok (.tuple #[.agg #[Iv0 0,.nilIface,bF],.bool false]) w:=by kernel_rfl
def uN(v:aQ)(w:aG):(typeAssert (.iface 195 v) 59 189 true).run prog w=.ok (.tuple #[.agg #[Iv0 0,.nilIface],.bool false]) w:=by kernel_rfl
def vU(v:aQ)(w:aG):(typeAssert (.iface 195 v) 59 190 true).run prog w=.ok (.tuple #[.agg #[Iv0 0,.nilIface],.bool false]) w:=by kernel_rfl
def xI(v:aQ)(w:aG):(typeAssert (.iface 195 v) 59 192 true).run prog w=.ok (.tuple #[.agg #[Iv0 0,.string ⟨#[]⟩,bF],.bool false]) w:=by kernel_rfl
def rH(v:aQ)(w:aG):(typeAssert (.iface 195 v) 59 195 true).run prog w=.ok (.tuple #[v,.bool true]) w:=by kernel_rfl
def AX(v:aQ)(w:aG):(typeAssert (.iface 197 v) 59 178 true).run prog w=.ok (.tuple #[.agg #[Iv0 0,Iv0 0,.string ⟨#[]⟩,.nilIface],.bool false]) w:=by kernel_rfl
def DD(v:aQ)(w:aG):(typeAssert (.iface 197 v) 59 181 true).run prog w=.ok (.tuple #[.agg #[Iv0 0,.string ⟨#[]⟩,bF,.nilIface],.bool false]) w:=by kernel_rfl
def UL(v:aQ)(w:aG):(typeAssert (.iface 197 v) 59 185 true).run prog w=.ok (.tuple #[.agg #[Iv0 0,.nilIface,bF,bF],.bool false]) w:=by kernel_rfl
def GS(v:aQ)(w:aG):(typeAssert (.iface 197 v) 59 187 true).run prog w=.ok (.tuple #[.agg #[Iv0 0,.nilIface,bF],.bool false]) w:=by kernel_rfl
def DC(v:aQ)(w:aG):(typeAssert (.iface 197 v) 59 189 true).run prog w=.ok (.tuple #[.agg #[Iv0 0,.nilIface],.bool false]) w:=by kernel_rfl
def GT(v:aQ)(w:aG):(typeAssert (.iface 197 v) 59 190 true).run prog w=.ok (.tuple #[.agg #[Iv0 0,.nilIface],.bool false]) w:=by kernel_rfl
def LV(v:aQ)(w:aG):(typeAssert (.iface 197 v) 59 192 true).run prog w=.ok (.tuple #[.agg #[Iv0 0,.string ⟨#[]⟩,bF],.bool false]) w:=by kernel_rfl
def xR(v:aQ)(w:aG):(typeAssert (.iface 197 v) 59 195 true).run prog w=.ok (.tuple #[.agg #[Iv0 0,.string ⟨#[]⟩],.bool false]) w:=by kernel_rfl
def LU(v:aQ)(w:aG):(typeAssert (.iface 197 v) 59 197 true).run prog w=.ok (.tuple #[v,.bool true]) w:=by kernel_rfl
def xS(v:aQ)(w:aG):(typeAssert (.iface 199 v) 59 178 true).run prog w=.ok (.tuple #[.agg #[Iv0 0,Iv0 0,.string ⟨#[]⟩,.nilIface],.bool false]) w:=by kernel_rfl
def AZ(v:aQ)(w:aG):(typeAssert (.iface 199 v) 59 181 true).run prog w=.ok (.tuple #[.agg #[Iv0 0,.string ⟨#[]⟩,bF,.nilIface],.bool false]) w:=by kernel_rfl
def PF(v:aQ)(w:aG):(typeAssert (.iface 199 v) 59 185 true).run prog w=.ok (.tuple #[.agg #[Iv0 0,.nilIface,bF,bF],.bool false]) w:=by kernel_rfl
def DE(v:aQ)(w:aG):(typeAssert (.iface 199 v) 59 187 true).run prog w=.ok (.tuple #[.agg #[Iv0 0,.nilIface,bF],.bool false]) w:=by kernel_rfl
def AY(v:aQ)(w:aG):(typeAssert (.iface 199 v) 59 189 true).run prog w=.ok (.tuple #[.agg #[Iv0 0,.nilIface],.bool false]) w:=by kernel_rfl
def DF(v:aQ)(w:aG):(typeAssert (.iface 199 v) 59 190 true).run prog w=.ok (.tuple #[.agg #[Iv0 0,.nilIface],.bool false]) w:=by kernel_rfl
def GV(v:aQ)(w:aG):(typeAssert (.iface 199 v) 59 192 true).run prog w=.ok (.tuple #[.agg #[Iv0 0,.string ⟨#[]⟩,bF],.bool false]) w:=by kernel_rfl
def vZ(v:aQ)(w:aG):(typeAssert (.iface 199 v) 59 195 true).run prog w=.ok (.tuple #[.agg #[Iv0 0,.string ⟨#[]⟩],.bool false]) w:=by kernel_rfl
def GU(v:aQ)(w:aG):(typeAssert (.iface 199 v) 59 197 true).run prog w=.ok (.tuple #[.agg #[Iv0 0,bF],.bool false]) w:=by kernel_rfl
def DG(v:aQ)(w:aG):(typeAssert (.iface 199 v) 59 199 true).run prog w=.ok (.tuple #[v,.bool true]) w:=by kernel_rfl
def xJ(v:aQ)(w:aG):(typeAssert (.iface 201 v) 59 178 true).run prog w=.ok (.tuple #[.agg #[Iv0 0,Iv0 0,.string ⟨#[]⟩,.nilIface],.bool false]) w:=by kernel_rfl
def AM(v:aQ)(w:aG):(typeAssert (.iface 201 v) 59 181 true).run prog w=.ok (.tuple #[.agg #[Iv0 0,.string ⟨#[]⟩,bF,.nilIface],.bool false]) w:=by kernel_rfl
def PD(v:aQ)(w:aG):(typeAssert (.iface 201 v) 59 185 true).run prog w=.ok (.tuple #[.agg #[Iv0 0,.nilIface,bF,bF],.bool false]) w:=by kernel_rfl
def CS(v:aQ)(w:aG):(typeAssert (.iface 201 v) 59 187 true).run prog w=.ok (.tuple #[.agg #[Iv0 0,.nilIface,bF],.bool false]) w:=by kernel_rfl
def AL(v:aQ)(w:aG):(typeAssert (.iface 201 v) 59 189 true).run prog w=.ok (.tuple #[.agg #[Iv0 0,.nilIface],.bool false]) w:=by kernel_rfl
def CU(v:aQ)(w:aG):(typeAssert (.iface 201 v) 59 190 true).run prog w=.ok (.tuple #[.agg #[Iv0 0,.nilIface],.bool false]) w:=by kernel_rfl
def GR(v:aQ)(w:aG):(typeAssert (.iface 201 v) 59 192 true).run prog w=.ok (.tuple #[.agg #[Iv0 0,.string ⟨#[]⟩,bF],.bool false]) w:=by kernel_rfl
def vV(v:aQ)(w:aG):(typeAssert (.iface 201 v) 59 195 true).run prog w=.ok (.tuple #[.agg #[Iv0 0,.string ⟨#[]⟩],.bool false]) w:=by kernel_rfl
def GQ(v:aQ)(w:aG):(typeAssert (.iface 201 v) 59 197 true).run prog w=.ok (.tuple #[.agg #[Iv0 0,bF],.bool false]) w:=by kernel_rfl
def CV(v:aQ)(w:aG):(typeAssert (.iface 201 v) 59 199 true).run prog w=.ok (.tuple #[.agg #[Iv0 0,.nilIface,.nilIface],.bool false]) w:=by kernel_rfl
def CT(v:aQ)(w:aG):(typeAssert (.iface 201 v) 59 201 true).run prog w=.ok (.tuple #[v,.bool true]) w:=by kernel_rfl
def wB(v:aQ)(w:aG):(typeAssert (.iface 203 v) 59 178 true).run prog w=.ok (.tuple #[.agg #[Iv0 0,Iv0 0,.string ⟨#[]⟩,.nilIface],.bool false]) w:=by kernel_rfl
def xW(v:aQ)(w:aG):(typeAssert (.iface 203 v) 59 181 true).run prog w=.ok (.tuple #[.agg #[Iv0 0,.string ⟨#[]⟩,bF,.nilIface],.bool false]) w:=by kernel_rfl
def LZ(v:aQ)(w:aG):(typeAssert (.iface 203 v) 59 185 true).run prog w=.ok (.tuple #[.agg #[Iv0 0,.nilIface,bF,bF],.bool false]) w:=by kernel_rfl
def BC(v:aQ)(w:aG):(typeAssert (.iface 203 v) 59 187 true).run prog w=.ok (.tuple #[.agg #[Iv0 0,.nilIface,bF],.bool false]) w:=by kernel_rfl
def xU(v:aQ)(w:aG):(typeAssert (.iface 203 v) 59 189 true).run prog w=.ok (.tuple #[.agg #[Iv0 0,.nilIface],.bool false]) w:=by kernel_rfl
def BE(v:aQ)(w:aG):(typeAssert (.iface 203 v) 59 190 true).run prog w=.ok (.tuple #[.agg #[Iv0 0,.nilIface],.bool false]) w:=by kernel_rfl
def DN(v:aQ)(w:aG):(typeAssert (.iface 203 v) 59 192 true).run prog w=.ok (.tuple #[.agg #[Iv0 0,.string ⟨#[]⟩,bF],.bool false]) w:=by kernel_rfl
def uS(v:aQ)(w:aG):(typeAssert (.iface 203 v) 59 195 true).run prog w=.ok (.tuple #[.agg #[Iv0 0,.string ⟨#[]⟩],.bool false]) w:=by kernel_rfl
def DM(v:aQ)(w:aG):(typeAssert (.iface 203 v) 59 197 true).run prog w=.ok (.tuple #[.agg #[Iv0 0,bF],.bool false]) w:=by kernel_rfl
def BF(v:aQ)(w:aG):(typeAssert (.iface 203 v) 59 199 true).run prog w=.ok (.tuple #[.agg #[Iv0 0,.nilIface,.nilIface],.bool false]) w:=by kernel_rfl
def BD(v:aQ)(w:aG):(typeAssert (.iface 203 v) 59 201 true).run prog w=.ok (.tuple #[.agg #[Iv0 0,.string ⟨#[]⟩,.nilIface],.bool false]) w:=by kernel_rfl
def xV(v:aQ)(w:aG):(typeAssert (.iface 203 v) 59 203 true).run prog w=.ok (.tuple #[v,.bool true]) w:=by kernel_rfl
def vY(v:aQ)(w:aG):(typeAssert (.iface 243 v) 59 178 true).run prog w=.ok (.tuple #[.agg #[Iv0 0,Iv0 0,.string ⟨#[]⟩,.nilIface],.bool false]) w:=by kernel_rfl
def xQ(v:aQ)(w:aG):(typeAssert (.iface 243 v) 59 181 true).run prog w=.ok (.tuple #[.agg #[Iv0 0,.string ⟨#[]⟩,bF,.nilIface],.bool false]) w:=by kernel_rfl
def LT(v:aQ)(w:aG):(typeAssert (.iface 243 v) 59 185 true).run prog w=.ok (.tuple #[.agg #[Iv0 0,.nilIface,bF,bF],.bool false]) w:=by kernel_rfl
def AT(v:aQ)(w:aG):(typeAssert (.iface 243 v) 59 187 true).run prog w=.ok (.tuple #[.agg #[Iv0 0,.nilIface,bF],.bool false]) w:=by kernel_rfl
def xO(v:aQ)(w:aG):(typeAssert (.iface 243 v) 59 189 true).run prog w=.ok (.tuple #[.agg #[Iv0 0,.nilIface],.bool false]) w:=by kernel_rfl
def AV(v:aQ)(w:aG):(typeAssert (.iface 243 v) 59 190 true).run prog w=.ok (.tuple #[.agg #[Iv0 0,.nilIface],.bool false]) w:=by kernel_rfl
def DB(v:aQ)(w:aG):(typeAssert (.iface 243 v) 59 192 true).run prog w=.ok (.tuple #[.agg #[Iv0 0,.string ⟨#[]⟩,bF],.bool false]) w:=by kernel_rfl
def uQ(v:aQ)(w:aG):(typeAssert (.iface 243 v) 59 195 true).run prog w=.ok (.tuple #[.agg #[Iv0 0,.string ⟨#[]⟩],.bool false]) w:=by kernel_rfl
def DA(v:aQ)(w:aG):(typeAssert (.iface 243 v) 59 197 true).run prog w=.ok (.tuple #[.agg #[Iv0 0,bF],.bool false]) w:=by kernel_rfl
def AW(v:aQ)(w:aG):(typeAssert (.iface 243 v) 59 199 true).run prog w=.ok (.tuple #[.agg #[Iv0 0,.nilIface,.nilIface],.bool false]) w:=by kernel_rfl
def AU(v:aQ)(w:aG):(typeAssert (.iface 243 v) 59 201 true).run prog w=.ok (.tuple #[.agg #[Iv0 0,.string ⟨#[]⟩,.nilIface],.bool false]) w:=by kernel_rfl
def xP(v:aQ)(w:aG):(typeAssert (.iface 243 v) 59 203 true).run prog w=.ok (.tuple #[.agg #[Iv0 0,.string ⟨#[]⟩,.nilIface,.nilIface],.bool false]) w:=by kernel_rfl
def vW(v:aQ)(w:aG):(typeAssert (.iface 244 v) 59 178 true).run prog w=.ok (.tuple #[.agg #[Iv0 0,Iv0 0,.string ⟨#[]⟩,.nilIface],.bool false]) w:=by kernel_rfl
def xM(v:aQ)(w:aG):(typeAssert (.iface 244 v) 59 181 true).run prog w=.ok (.tuple #[.agg #[Iv0 0,.string ⟨#[]⟩,bF,.nilIface],.bool false]) w:=by kernel_rfl
def LS(v:aQ)(w:aG):(typeAssert (.iface 244 v) 59 185 true).run prog w=.ok (.tuple #[.agg #[Iv0 0,.nilIface,bF,bF],.bool false]) w:=by kernel_rfl
def AN(v:aQ)(w:aG):(typeAssert (.iface 244 v) 59 187 true).run prog w=.ok (.tuple #[.agg #[Iv0 0,.nilIface,bF],.bool false]) w:=by kernel_rfl
def xK(v:aQ)(w:aG):(typeAssert (.iface 244 v) 59 189 true).run prog w=.ok (.tuple #[.agg #[Iv0 0,.nilIface],.bool false]) w:=by kernel_rfl
def AP(v:aQ)(w:aG):(typeAssert (.iface 244 v) 59 190 true).run prog w=.ok (.tuple #[.agg #[Iv0 0,.nilIface],.bool false]) w:=by kernel_rfl
def CX(v:aQ)(w:aG):(typeAssert (.iface 244 v) 59 192 true).run prog w=.ok (.tuple #[.agg #[Iv0 0,.string ⟨#[]⟩,bF],.bool false]) w:=by kernel_rfl
def uP(v:aQ)(w:aG):(typeAssert (.iface 244 v) 59 195 true).run prog w=.ok (.tuple #[.agg #[Iv0 0,.string ⟨#[]⟩],.bool false]) w:=by kernel_rfl
def CW(v:aQ)(w:aG):(typeAssert (.iface 244 v) 59 197 true).run prog w=.ok (.tuple #[.agg #[Iv0 0,bF],.bool false]) w:=by kernel_rfl
def AQ(v:aQ)(w:aG):(typeAssert (.iface 244 v) 59 199 true).run prog w=.ok (.tuple #[.agg #[Iv0 0,.nilIface,.nilIface],.bool false]) w:=by kernel_rfl
def AO(v:aQ)(w:aG):(typeAssert (.iface 244 v) 59 201 true).run prog w=.ok (.tuple #[.agg #[Iv0 0,.string ⟨#[]⟩,.nilIface],.bool false]) w:=by kernel_rfl
def xL(v:aQ)(w:aG):(typeAssert (.iface 244 v) 59 203 true).run prog w=.ok (.tuple #[.agg #[Iv0 0,.string ⟨#[]⟩,.nilIface,.nilIface],.bool false]) w:=by kernel_rfl
def BB(v:aQ)(w:aG):(typeAssert (.iface 246 v) 59 178 true).run prog w=.ok (.tuple #[.agg #[Iv0 0,Iv0 0,.string ⟨#[]⟩,.nilIface],.bool false]) w:=by kernel_rfl
def DL(v:aQ)(w:aG):(typeAssert (.iface 246 v) 59 181 true).run prog w=.ok (.tuple #[.agg #[Iv0 0,.string ⟨#[]⟩,bF,.nilIface],.bool false]) w:=by kernel_rfl
def UN(v:aQ)(w:aG):(typeAssert (.iface 246 v) 59 185 true).run prog w=.ok (.tuple #[.agg #[Iv0 0,.nilIface,bF,bF],.bool false]) w:=by kernel_rfl
def GY(v:aQ)(w:aG):(typeAssert (.iface 246 v) 59 187 true).run prog w=.ok (.tuple #[.agg #[Iv0 0,.nilIface,bF],.bool false]) w:=by kernel_rfl
def DJ(v:aQ)(w:aG):(typeAssert (.iface 246 v) 59 189 true).run prog w=.ok (.tuple #[.agg #[Iv0 0,.nilIface],.bool false]) w:=by kernel_rfl
def IA(v:aQ)(w:aG):(typeAssert (.iface 246 v) 59 190 true).run prog w=.ok (.tuple #[.agg #[Iv0 0,.nilIface],.bool false]) w:=by kernel_rfl
def LY(v:aQ)(w:aG):(typeAssert (.iface 246 v) 59 192 true).run prog w=.ok (.tuple #[.agg #[Iv0 0,.string ⟨#[]⟩,bF],.bool false]) w:=by kernel_rfl
def xT(v:aQ)(w:aG):(typeAssert (.iface 246 v) 59 195 true).run prog w=.ok (.tuple #[.agg #[Iv0 0,.string ⟨#[]⟩],.bool false]) w:=by kernel_rfl
def LX(v:aQ)(w:aG):(typeAssert (.iface 246 v) 59 197 true).run prog w=.ok (.tuple #[.agg #[Iv0 0,bF],.bool false]) w:=by kernel_rfl
def IB(v:aQ)(w:aG):(typeAssert (.iface 246 v) 59 199 true).run prog w=.ok (.tuple #[.agg #[Iv0 0,.nilIface,.nilIface],.bool false]) w:=by kernel_rfl
def GZ(v:aQ)(w:aG):(typeAssert (.iface 246 v) 59 201 true).run prog w=.ok (.tuple #[.agg #[Iv0 0,.string ⟨#[]⟩,.nilIface],.bool false]) w:=by kernel_rfl
def DK(v:aQ)(w:aG):(typeAssert (.iface 246 v) 59 203 true).run prog w=.ok (.tuple #[.agg #[Iv0 0,.string ⟨#[]⟩,.nilIface,.nilIface],.bool false]) w:=by kernel_rfl
def FY{c:UInt8}(h:eN c=true):48<=c.toNat/\c.toNat<=57:=by
 unfold eN at h;simpa using h
def TZ(n:Nat)(c:UInt8)(r:cD)(h:48<=c.toNat/\c.toNat<=57):dP n (c::r)=if 9223372036854775807<n*10+(c.toNat-48) then none else dP (n*10+(c.toNat-48)) r:=by
 rw[dP];unfold MZ;have e:((9223372036854775807-(c.toNat-48))/10<n)↔(9223372036854775807<n*10+(c.toNat-48)):=by omega
 rw[Nat.mul_comm 10 n];by_cases a:9223372036854775807<n*10+(c.toNat-48)
 ·rw[if_pos (e.2 a),if_pos a]
 ·rw[if_neg (fun x=>a (e.1 x)),if_neg a]
def R3:∀(l:cD) (acc:Nat),(∀c∈l,eN c=true)->9223372036854775807<acc->Lib.parseUintM (2 ^ 64-1) acc l=.range\/∃u,Lib.parseUintM (2 ^ 64-1) acc l=.ok u/\9223372036854775808<=u
 |[],acc,_,h=>ck_ ⟨acc,rfl,by omega⟩
 |c::r,acc,a,h=>by
  have d:=FY (a c (cJ_ ..));rw[Lib.parseUintM,if_pos d];by_cases b:1844674407370955162<=acc
  ·rw[if_pos b];exact cl_ rfl
  ·omega
def CM:∀(l:cD) (acc:Nat),(∀c∈l,eN c=true)->acc<=9223372036854775807->
 (∃v,dP acc l=some v/\Lib.parseUintM (2 ^ 64-1) acc l=.ok v/\v<=9223372036854775807)\/(dP acc l=none/\(Lib.parseUintM (2 ^ 64-1) acc l=.range\/∃u,Lib.parseUintM (2 ^ 64-1) acc l=.ok u/\9223372036854775808<=u))
 |[],acc,_,h=>cl_ ⟨acc,rfl,rfl,h⟩
 |c::r,acc,b,h=>by
  have g:=FY (b c (cJ_ ..));have e:∀x∈r,eN x=true:=fun x i=>b x (cx_ _ i)
  rw[TZ acc c r g,Lib.parseUintM,if_pos g];by_cases a:9223372036854775807<acc*10+(c.toNat-48)
  ·refine ck_ ⟨if_pos a,?_⟩;by_cases d:1844674407370955162<=acc
   ·rw[if_pos d];exact cl_ rfl
   ·rw[if_neg d];by_cases f:2 ^ 64-1<acc*10+(c.toNat-48)
    ·rw[if_pos f];exact cl_ rfl
    ·rw[if_neg f];exact R3 r _ e a
  ·rw[if_neg a,if_neg (by omega),if_neg (by omega)]
   exact CM r _ e (by omega)
def K9(l:cD)(e:∀c∈l,eN c=true)(d:l≠[]):(∃v,dP 0 l=some v/\Lib.parseIntB 64 l=.ok (v:Int))\/(dP 0 l=none/\Lib.parseIntB 64 l=.range):=by
 cases l with
 |nil=>exact absurd rfl d
 |cons c r=>
  have i:=FY (e c (cJ_ ..));have h:¬(c.toNat=43\/c.toNat=45):=by omega
  have f:¬c.toNat=45:=by omega
  unfold Lib.parseIntB;simp only[if_neg h];unfold Lib.parseUintB;rw[if_neg (by simp)]
  rcases CM (c::r) 0 e (by omega) with ⟨v,b,a,g⟩|⟨b,a|⟨u,a,g⟩⟩
  ·refine cl_ ⟨v,b,?_⟩;rw[a];simp only[f];rw[if_neg (by omega)]
   simp
  ·exact ck_ ⟨b,by rw[a]⟩
  ·refine ck_ ⟨b,?_⟩;rw[a];simp only[f];rw[if_pos ⟨by simp,by omega⟩]
def psort(s:Nat):Nat:=if s=110 then 1 else if s=48 then 2 else if s=115 then 3 else if s=101 then 4 else 0
def pval(t:bB):Nat:=if t.sort=48 then (dP 0 t.text).getD 0 else 0
def ptok(t:bB):List Value:=[Iv0 (psort t.sort),.string (bs t.text),Iv0 (pval t),Iv0 t.line]
def ptoks:List bB->List Value
 |[]=>[]
 |t::ts=>ptok t++ptoks ts
def MO(ts:List bB):(ptoks ts).length=ts.length*4:=by
 induction ts with
 |nil=>rfl
 |cons t ts a=>simp[ptoks,ptok,a];omega
def EI(ts:List bB)(t:bB):ptoks (ts++[t])=ptoks ts++ptok t:=by
 induction ts with
 |nil=>simp[ptoks]
 |cons x ts a=>simp[ptoks,a]
structure PAt(C:Ctx)(w:aG)(p:Nat):Prop where
 blk:w.heap[C.pb]?=some (.cells #[.slice (some (aH C.g 0)) C.ts.length C.cap,Iv0 p] 97 (0,0))
 row:∃cur,w.heap[C.g]?=some (.cells cur 150 (0,0))/\cur.toList.take (C.ts.length*4)=ptoks C.ts
 ne:C.g≠C.pb
 lt:p<C.ts.length
 len:C.ts.length<=3000
 cap:C.ts.length<=C.cap
 all:sV C.ts
 tsk:GH C.ts
def D5(ts:List bB)(p:Nat)(h:p<ts.length):(ptoks ts)[p*4]?=some (Iv0 (psort (aT ts p).sort))/\(ptoks ts)[p*4+1]?=some (.string (bs (aT ts p).text))/\(ptoks ts)[p*4+1+1]?=some (Iv0 (pval (aT ts p)))/\(ptoks ts)[p*4+1+1+1]?=some (Iv0 (aT ts p).line):=by
 induction ts generalizing p with
 |nil=>simp at h
 |cons t ts a=>
  cases p with
  |zero=>simp[ptoks,ptok,aT]
  |succ p=>
   have:=a p (by simpa using h)
   have e:∀j,(ptoks (t::ts))[(p+1)*4+j]?=(ptoks ts)[p*4+j]?:=fun j=>by
    rw[ptoks,cN_ (by simp[ptok];omega)]
    congr 1;simp[ptok];omega
   have b:aT (t::ts) (p+1)=aT ts p:=by simp[aT]
   rw[b];exact⟨(e 0).trans this.1,(e 1).trans this.2.1,(e 2).trans this.2.2.1,(e 3).trans this.2.2.2⟩
def PAt.tok{C:Ctx}{w:aG}{p:Nat}(h:PAt C w p):w.cell? (aH C.g (p*4))=some (Iv0 (psort (aT C.ts p).sort))/\w.cell? (aH C.g (p*4+1))=some (.string (bs (aT C.ts p).text))/\w.cell? (aH C.g (p*4+1+1))=some (Iv0 (pval (aT C.ts p)))/\w.cell? (aH C.g (p*4+1+1+1))=some (Iv0 (aT C.ts p).line):=by
 obtain⟨c,k,i⟩:=h.row;obtain⟨m,g,d,f⟩:=D5 C.ts p h.lt;have n:=MO C.ts
 have e:∀j v,(ptoks C.ts)[j]?=some v->w.cell? (aH C.g j)=some v:=fun j v a=>by
  have b:j<C.ts.length*4:=by
   by_cases l:j<C.ts.length*4
   ·exact l
   ·rw[cV_ (by omega)] at a;cases a
  refine aA k ?_;rw[<-i,cM_,if_pos b] at a;simpa using a
 exact⟨e _ _ m,e _ _ g,e _ _ d,e _ _ f⟩
def PAt.keep{C:Ctx}{w w':aG}{p:Nat}(h:PAt C w p)(e:w'.heap[C.pb]?=w.heap[C.pb]?)(c:w'.heap[C.g]?=w.heap[C.g]?):PAt C w' p:=by
 obtain⟨a,d,b⟩:=h.row;exact⟨by rw[e];exact h.blk,⟨a,by rw[c];exact d,b⟩,h.ne,h.lt,h.len,h.cap,h.all,h.tsk⟩
def PAt.below{C:Ctx}{w w':aG}{p:Nat}(h:PAt C w p)(a:Below w.heap.size w w'):PAt C w' p:=by
 obtain⟨b,c,d⟩:=h.row;exact h.keep (a.block _ (aC h.blk)) (a.block _ (aC c))
def PAt.other{C:Ctx}{w:aG}{p b i:Nat}{u:aQ}(h:PAt C w p)(c:b≠C.pb)(a:b≠C.g):PAt C (w.setCell (aH b i) u) p:=
 h.keep (cm_ _ _ _ _ (fun e=>c e.symm)) (cm_ _ _ _ _ (fun e=>a e.symm))
def PAt.g_lt{C:Ctx}{w:aG}{p:Nat}(h:PAt C w p):C.g<w.heap.size:=by obtain⟨_,a,_⟩:=h.row;exact aC a
def PAt.pb_lt{C:Ctx}{w:aG}{p:Nat}(h:PAt C w p):C.pb<w.heap.size:=aC h.blk
def PAt.alloc{C:Ctx}{w:aG}{p:Nat}(h:PAt C w p)(o:Obj):PAt C (w.alloc o) p:=h.below ((co_ _ _).alloc cL _)
def PAt.drew{C:Ctx}{w:aG}{p:Nat}(h:PAt C w p):PAt C w.drew p:=h.below (co_ _ _).drew
def oT(t:bB):Value:=.agg #[Iv0 (psort t.sort),.string (bs t.text),Iv0 (pval t),Iv0 t.line]
def VX(pb g h p n:Nat)(w:aG)(a c d:Int)(b:ByteArray)(x:p<n)(_hn:n<=3000)(_hnc:n<=h)(i:pb<w.heap.size)(f:g<w.heap.size)
 (q:w.cell? (aH pb 0)=some (.slice (some (aH g 0)) n h)) (c1:w.cell? (aH pb 1)=some (Iv0 p))
 (l:w.cell? (aH g (p*4))=some (Iv0 a)) (m:w.cell? (aH g (p*4+1))=some (.string b)) (j:w.cell? (aH g (p*4+1+1))=some (Iv0 c)) (k:w.cell? (aH g (p*4+1+1+1))=some (Iv0 d)):
  Calls prog 76 #[bH pb] w fun e r=>e=aZ (.agg #[Iv0 a,.string b,Iv0 c,Iv0 d])/\Below w.heap.size w r:=by
 have y:∀o,(w.alloc o).cell? (aH pb 0)=some (.slice (some (aH g 0)) n h):=fun o=>by rw[World.cell?_alloc_past _ _ _ i];exact q
 have t:∀o,(w.alloc o).cell? (aH pb 1)=some (Iv0 p):=fun o=>by rw[World.cell?_alloc_past _ _ _ i];exact c1
 have s:∀o,(w.alloc o).cell? (aH g (p*4))=some (Iv0 a):=fun o=>by rw[World.cell?_alloc_past _ _ _ f];exact l
 have z:∀o,(w.alloc o).cell? (aH g (p*4+1))=some (.string b):=fun o=>by rw[World.cell?_alloc_past _ _ _ f];exact m
 have u:∀o,(w.alloc o).cell? (aH g (p*4+1+1))=some (Iv0 c):=fun o=>by rw[World.cell?_alloc_past _ _ _ f];exact j
 have A:∀o,(w.alloc o).cell? (aH g (p*4+1+1+1))=some (Iv0 d):=fun o=>by rw[World.cell?_alloc_past _ _ _ f];exact k
 clear q c1 l m j k;go_in
 go_wp2_with fail;go_region
 go_wp2
 refine bodyPost_ret (v:=.agg #[Iv0 a,.string b,Iv0 c,Iv0 d]) (by simp[results,results76,go_sem]) rfl ⟨rfl,?_⟩
 exact((co_ _ _).alloc cL _).drew
def mM(C:Ctx)(w:aG)(p:Nat)(h:PAt C w p):
 Calls prog 76 #[bH C.pb] w fun e a=>e=aZ (oT (aT C.ts p))/\Below w.heap.size w a:=
 VX C.pb C.g C.cap p C.ts.length w _ _ _ _ h.lt h.len h.cap (aC h.blk) (by obtain⟨_,b,_⟩:=h.row;exact aC b) (aA h.blk rfl) (aA h.blk rfl) h.tok.1 h.tok.2.1 h.tok.2.2.1 h.tok.2.2.2
abbrev cT(k n:Nat):Ending:=.panicked [{ v:=.iface 94 (.agg #[Iv0 k,Iv0 n]),recovered:=false }]
def gW(k n:Nat)(w:aG):
 Calls prog 79 #[Iv0 k,Iv0 n] w fun e a=>e=cT k n/\a=w:=by
 go_in
 go_wp2_with fail;exact⟨rfl,rfl,rfl⟩
def KN(a c d:Int)(b:ByteArray)(w:aG):(Instr.field 150 (.agg #[Iv0 a,.string b,Iv0 c,Iv0 d]) 3).run prog w=.ok (Iv0 d) w:=by kernel_rfl
def nQ(C:Ctx)(w:aG)(p:Nat)(h:PAt C w p):
 Calls prog 123 #[bH C.pb] w fun e f=>e=aZ (.agg #[Iv0 (aT C.ts p).line])/\Below w.heap.size w f:=by
 have b:=aB (fun o=>mM C (w.alloc o) p (h.below ((co_ _ _).alloc cL _)))
 simp only[oT] at b;clear h;go_in
 go_wp2_with fail;refine(b _).mono ?_;rintro e c ⟨rfl,a⟩;obtain⟨i,j⟩:=bcell a;have k:w.heap.size<c.heap.size:=by have:=a.size;simp at this;omega
 have d:=aB a;have g:=KN;clear a b;go_wp2
 refine bodyPost_ret (v:=.agg #[Iv0 (aT C.ts p).line]) (by simp[results,results123,go_sem,i]) rfl ⟨rfl,?_⟩
 exact(((co_ _ _).alloc cL _).trans (d.mono (by simp))).setCell (by simp) _
def PAt.move{C:Ctx}{w w1:aG}{p:Nat}(h:PAt C w p)(c:Below w.heap.size w w1)(q:Nat)(e:q<C.ts.length):
 PAt C (w1.setCell (aH C.pb 1) (Iv0 q)) q/\Fr C.pb w (w1.setCell (aH C.pb 1) (Iv0 q)):=by
 have b:=h.below c;obtain⟨a,f,d⟩:=b.row;refine⟨⟨?_,⟨a,?_,d⟩,h.ne,e,h.len,h.cap,h.all,h.tsk⟩,Fr.setCell (p:=(aH C.pb 1)) (Fr.below c) (cl_ rfl) _⟩
 ·rw[aK b.blk];rfl
 ·rw[cm_ _ _ _ _ h.ne];exact f
def PAt.cells{C:Ctx}{w w1:aG}{p:Nat}(h:PAt C w p)(b:Below w.heap.size w w1):
 C.pb<w1.heap.size/\w1.cell? (aH C.pb 1)=some (Iv0 p)/\w1.frozen? (aH C.pb 1)=false:=by
 have a:=h.below b;exact⟨aC a.blk,aA a.blk rfl,aD a.blk⟩
def bU_{C:Ctx}{w:aG}{p:Nat}(h:PAt C w p)(x:cD):aY C.ts p x=(decide (psort (aT C.ts p).sort=0) && (aT C.ts p).text==x):=by
 unfold aY psort;have:=h.tsk.tk p h.lt;generalize aT C.ts p=t at*;rcases this with h|⟨h,_⟩|h|⟨h,_⟩|h|h<;>simp[h]
def dO(C:Ctx)(w:World)(p:Nat)(x:ByteArray)(h:PAt C w p):
 Calls prog 155 #[.pointer (some ⟨C.pb,0,none⟩),.string x] w fun e m=>e=.returned (.bool (aY C.ts p x.data.toList))/\PAt C m (if aY C.ts p x.data.toList then p+1 else p)/\Fr C.pb w m:=by
 have i:=aB (bU_ h x.data.toList);have g:=aB (mM C w p h);simp only[oT] at g;have v:Hid (aY C.ts p x.data.toList=true->p+1<C.ts.length):=fun e=>h.all.ok.isT h.lt e
 have l:Hid (((bs (aT C.ts p).text).toList==x.toList)=((aT C.ts p).text==x.data.toList)):=by show _=_;rw[cE,Lib.toList_data]
 have r:p<=3000:=by have:=h.lt;have:=h.len;omega
 have H:=aB h;clear h;generalize aY C.ts p x.data.toList=k at*;generalize aT C.ts p=t at*;obtain⟨c,f,s⟩:=t;simp only at i g l;generalize pval ⟨c,f,s⟩=z at*;go_enter func155,ntmps155;go_wp2_with fail;refine g.out.mono ?_;rintro e y ⟨rfl,j⟩;obtain⟨D,B,A⟩:=H.out.cells j;have b:=aB j;clear j g;by_cases n:psort c=0
 ·have q:((psort c:Int) != 0)=false:=by simp;omega
  cases d:(f==x.data.toList)
  ·have u:((bs f).toList==x.toList)=false:=by rw[l.out,d]
   have a:k=false:=by have:=i.out;rw[d] at this;simpa using this
   subst a;go_wp2_with fail;go_ret;exact⟨jX rfl,H.out.below (b.out.alloc b.out.size _),Fr.below (b.out.alloc b.out.size _)⟩
  ·have u:((bs f).toList==x.toList)=true:=by rw[l.out,d]
   have a:k=true:=by have:=i.out;rw[d,n] at this;simpa using this
   subst a;go_wp2_with fail;go_ret;have o:=H.out.move b.out (p+1) (v.out trivial);exact⟨jX rfl,o.1.below ((co_ _ _).alloc (cy_ _) _),o.2.alloc _⟩
 ·have q:((psort c:Int) != 0)=true:=by simp;omega
  have a:k=false:=by have:=i.out;simp[n] at this;exact this
  subst a;go_wp2_with fail;go_ret;exact⟨jX rfl,H.out.below (b.out.alloc b.out.size _),Fr.below (b.out.alloc b.out.size _)⟩
def gN(C:Ctx)(w:aG)(p:Nat)(x:ByteArray)(h:PAt C w p):
 Calls prog 109 #[bH C.pb,.string x] w fun e k=>Fr C.pb w k/\if aY C.ts p x.data.toList then e=aZ (.tuple #[])/\PAt C k (p+1) else e=cT 4 (aT C.ts p).line:=by
 have g:=aB (dO C w p x h);have H:=aB h;clear h;cases d:aY C.ts p x.data.toList
 ·rw[d] at g;go_in
  go_wp2_with fail;refine g.mono ?_;rintro e j ⟨rfl,a,b⟩;have l:=aB (mM C j p a);simp only[oT] at l;have c:=aB b;have o:=KN;clear b a;go_wp2_with fail;refine l.mono ?_;rintro e r ⟨rfl,f⟩;have m:=aB f;clear f;go_wp2_with (go_at_call 79;refine(gW 4 (aT C.ts p).line _).mono ?_;rintro e q ⟨rfl,n⟩;obtain rfl:=n.symm)
  exact⟨rfl,c.trans (Fr.below m),rfl⟩
 ·rw[d] at g;go_in
  go_wp2_with fail;refine g.mono ?_;rintro e j ⟨rfl,a,b⟩;have c:=aB b;have i:=aB a;clear b a;go_wp2
  go_end0;exact⟨c,rfl,i⟩
def D8(t:bB):psort t.sort=1↔t.sort=110:=by
 unfold psort;split<;>(try split)<;>(try split)<;>(try split)<;>simp_all
def nP(C:Ctx)(w:aG)(p:Nat)(h:PAt C w p):
 Calls prog 110 #[bH C.pb] w fun e s=>Fr C.pb w s/\if (aT C.ts p).sort==110 then e=aZ (.agg #[Iv0 (aT C.ts p).line,.string (bs (aT C.ts p).text)])/\PAt C s (p+1) else e=cT 4 (aT C.ts p).line:=by
 have d:=aB (fun o=>mM C (w.alloc o) p (h.below ((co_ _ _).alloc cL _)))
 simp only[oT] at d;have l:Hid ((aT C.ts p).sort=110->p+1<C.ts.length):=fun e=>h.all.ok.next p h.lt (by rw[e];decide)
 have i:=aB (D8 (aT C.ts p));have F:p<=3000:=by have:=h.lt;have:=h.len;omega
 have H:=aB h;have B:C.pb<w.heap.size:=aC h.blk;have g:w.heap.size≠C.g:=by have:=h.g_lt;omega
 clear h;generalize aT C.ts p=t at*;obtain⟨f,y,q⟩:=t;simp only at d l i;simp only;generalize pval ⟨f,y,q⟩=M at*;generalize psort f=u at*;by_cases c:f=110
 ·obtain rfl:u=1:=i.2 c;have r:=l c;rw[show (f==110)=true by simpa using c]
  clear c i l;go_in
  go_wp2_with fail;refine(d _).mono ?_;rintro e m ⟨rfl,b⟩;have a:=((co_ _ _).alloc cL _).trans (b.mono (by simp))
  obtain⟨J,E,D⟩:=H.cells a;obtain⟨A,I⟩:=bcell b;have x:w.heap.size<m.heap.size:=by have:=b.size;simp at this;omega
  have k:=aB a;clear b a d;have n:¬C.pb=w.heap.size:=by omega
  have j:¬w.heap.size=C.pb:=by omega
  go_wp2_with fail;have z:=H.move k (p+1) r;refine bodyPost_ret (v:=.agg #[Iv0 q,.string (bs y)]) (by simp[results,results110,go_sem,World.cell?_alloc_past,x,A]) rfl ?_
  refine⟨((z.2.setCell (p:=(aH w.heap.size 0)) (ck_ cL) _).setCell (p:=(aH w.heap.size 1)) (ck_ cL) _).alloc _,rfl,?_⟩;exact((z.1.other (by omega) g).other (by omega) g).below ((co_ _ _).alloc cL _)
 ·have K:((u:Int) != 1)=true:=by simp;intro e;exact c (i.1 (by omega))
  rw[show (f==110)=false by simpa using c]
  clear c i l;go_in
  go_wp2_with fail;refine(d _).mono ?_;rintro e m ⟨rfl,b⟩;have a:=((co_ _ _).alloc cL _).trans (b.mono (by simp))
  obtain⟨J,E,D⟩:=H.cells a;obtain⟨A,I⟩:=bcell b;have x:w.heap.size<m.heap.size:=by have:=b.size;simp at this;omega
  have k:=aB a;clear b a d;have n:¬C.pb=w.heap.size:=by omega
  have j:¬w.heap.size=C.pb:=by omega
  go_wp2_with (go_at_call 79;refine(gW 4 q _).mono ?_;rintro e L ⟨rfl,G⟩;obtain rfl:=G.symm)
  exact⟨rfl,Fr.below (k.alloc k.size _),rfl⟩
def xC(R:Value->aE->Prop)(F:bX)(w:aG)(kv:aQ)(ks:List aE):Prop:=
 (kv=bF/\ks=[])\/
 ∃g cap cur vs,kv=.slice (some (aH g 0)) ks.length cap/\F g/\w.heap[g]?=some (.cells cur 59 (0,0))/\ks.length<=cap/\cur.toList.take ks.length=vs/\kW R vs ks
structure Prt where
 v:Value
 ks:List aE
 one:Bool
def uI(R:Value->aE->Prop)(F:bX)(w:aG)(p:Prt):Prop:=
 (p.one=true/\∃a,p.ks=[a]/\R p.v a)\/(p.one=false/\xC R F w p.v p.ks)
def Shape(T:TypeId)(cs:Array Value)(a:aE)(ps:List Prt):Prop:=
 (T=243/\∃k,cs= #[Iv0 a.line,Iv0 (k:Nat)]/\a.op=[48]/\dP 0 a.text=some k/\a.kids=[]/\ps=[])\/
 (T=244/\cs= #[Iv0 a.line,.string (bs a.text)]/\a.op=[115]/\a.kids=[]/\ps=[])\/
 (T=246/\cs= #[Iv0 a.line,.bool (a.text==[116,114,117,101])]/\a.op=[98,111,111,108]/\a.kids=[]/\ps=[])\/
 (T=197/\∃sv,cs= #[Iv0 a.line,sv]/\a.op=[108,105,115,116]/\ps=[⟨sv,a.kids,false⟩])\/
 (T=192/\∃sv,cs= #[Iv0 a.line,.string (bs a.text),sv]/\a.op=[99,97,108,108]/\ps=[⟨sv,a.kids,false⟩])\/
 (T=195/\cs= #[Iv0 a.line,.string (bs a.text)]/\a.op=[110,97,109,101]/\a.kids=[]/\ps=[])\/
 (T=199/\∃l v1 v2 a1 a2,cs= #[Iv0 (l:Nat),v1,v2]/\a.op=[105,110,100,101,120]/\a.kids=[a1,a2]/\ps=[⟨v1,[a1],true⟩,⟨v2,[a2],true⟩])\/
 (T=201/\∃o v1 a1,cs= #[Iv0 a.line,.string (bs [o]),v1]/\(o=45\/o=33)/\a.op=[o,120]/\a.kids=[a1]/\ps=[⟨v1,[a1],true⟩])\/
 (T=203/\∃l v1 v2 a1 a2,cs= #[Iv0 (l:Nat),.string (bs a.op),v1,v2]/\cJ a.op≠9/\a.kids=[a1,a2]/\ps=[⟨v1,[a1],true⟩,⟨v2,[a2],true⟩])\/
 (T=178/\∃v1 t a1,cs= #[Iv0 a.line,Iv0 t.line,.string (bs t.text),v1]/\a.op=[118,97,114]/\a.kids=[t,a1]/\ps=[⟨v1,[a1],true⟩])\/
 (T=181/\∃sv v1 l a1,cs= #[Iv0 a.line,.string (bs a.text),sv,v1]/\a.op=[115,101,116]/\a.kids=l++[a1]/\ps=[⟨sv,l,false⟩,⟨v1,[a1],true⟩])\/
 (T=185/\∃v1 s1 a1 b1,cs= #[Iv0 a.line,v1,s1,bF]/\a.op=[105,102]/\b1.op=[98,108,111,99,107]/\a.kids=[a1,b1]/\ps=[⟨v1,[a1],true⟩,⟨s1,b1.kids,false⟩])\/
 (T=185/\∃v1 s1 s2 a1 b1 b2,cs= #[Iv0 a.line,v1,s1,s2]/\a.op=[105,102]/\b1.op=[98,108,111,99,107]/\b2.op=[98,108,111,99,107]/\a.kids=[a1,b1,b2]/\ps=[⟨v1,[a1],true⟩,⟨s1,b1.kids,false⟩,⟨s2,b2.kids,false⟩])\/
 (T=187/\∃v1 s1 a1 b1,cs= #[Iv0 a.line,v1,s1]/\a.op=[119,104,105,108,101]/\b1.op=[98,108,111,99,107]/\a.kids=[a1,b1]/\ps=[⟨v1,[a1],true⟩,⟨s1,b1.kids,false⟩])\/
 (T=189/\∃l,cs= #[Iv0 a.line,.iface 243 (.agg #[Iv0 (l:Nat),Iv0 0])]/\a.op=[114,101,116,117,114,110]/\a.kids=[]/\ps=[])\/
 (T=189/\∃v1 a1,cs= #[Iv0 a.line,v1]/\a.op=[114,101,116,117,114,110]/\a.kids=[a1]/\ps=[⟨v1,[a1],true⟩])\/
 (T=190/\∃v1 a1,cs= #[Iv0 a.line,v1]/\a.op=[112,114,105,110,116]/\a.kids=[a1]/\ps=[⟨v1,[a1],true⟩])\/
 (T=192/\∃sv c,cs= #[Iv0 c.line,.string (bs c.text),sv]/\a.op=[100,111]/\a.line=c.line/\a.text=c.text/\a.kids=[c]/\c.op=[99,97,108,108]/\ps=[⟨sv,c.kids,false⟩])
def PND:Nat->(Nat->Prop)->World->Value->aE->Prop
 |0,_,_,_,_=>False
 |d+1,F,w,v,a=>∃T cs ps,v=.iface T (.agg cs)/\Shape T cs a ps/\∀p∈ps,uI (PND d F w) F w p
def PN(F:bX)(w:aG)(v:aQ)(a:aE):Prop:=∃d,PND d F w v a
def xC.mono{R S:Value->aE->Prop}{F G:bX}{w:aG}{e:aQ}{ks:List aE}(h:xC R F w e ks)(p:∀v a,R v a->S v a)(m:∀b,F b->G b):xC S G w e ks:=by
 rcases h with h|⟨g,c,d,i,k,f,n,j,l,o⟩
 ·exact cl_ h
 ·exact ck_ ⟨g,c,d,i,k,m _ f,n,j,l,o.mono p⟩
def xC.keep{R:Value->aE->Prop}{F:bX}{w w':aG}{e:aQ}{ks:List aE}(h:xC R F w e ks)(f:∀b,F b->w'.heap[b]?=w.heap[b]?):xC R F w' e ks:=by
 rcases h with h|⟨g,a,c,i,k,d,m,j,l,n⟩
 ·exact cl_ h
 ·exact ck_ ⟨g,a,c,i,k,d,by rw[f g d];exact m,j,l,n⟩
def uI.mono{R S:Value->aE->Prop}{F G:bX}{w:aG}{p:Prt}(h:uI R F w p)(e:∀v a,R v a->S v a)(g:∀b,F b->G b):uI S G w p:=by
 rcases h with ⟨d,a,c,f⟩|⟨d,c⟩
 ·exact cl_ ⟨d,a,c,e _ _ f⟩
 ·exact ck_ ⟨d,c.mono e g⟩
def uI.keep{R:Value->aE->Prop}{F:bX}{w w':aG}{p:Prt}(h:uI R F w p)(a:∀b,F b->w'.heap[b]?=w.heap[b]?):uI R F w' p:=by
 rcases h with h|⟨d,c⟩
 ·exact cl_ h
 ·exact ck_ ⟨d,c.keep a⟩
def PND.mono{F G:bX}{w:aG}(c:∀b,F b->G b):∀{d e:Nat} {v a},PND d F w v a->d<=e->PND e G w v a
 |_+1,_+1,_,_,⟨T,k,g,l,j,m⟩,i=>⟨T,k,g,l,j,fun p f=>(m p f).mono (fun _ _ h=>PND.mono c h (by omega)) c⟩
 |0,_,_,_,h,_=>h.elim
def PND.keep{F:bX}{w w':aG}(c:∀b,F b->w'.heap[b]?=w.heap[b]?):∀{d:Nat} {v a},PND d F w v a->PND d F w' v a
 |_+1,_,_,⟨T,i,f,j,g,k⟩=>⟨T,i,f,j,g,fun p e=>((k p e).mono (fun _ _ h=>PND.keep c h) dX).keep c⟩
def PN.mono{F G:bX}{w:aG}{v:aQ}{a:aE}(h:PN F w v a)(c:∀b,F b->G b):PN G w v a:=by
 obtain⟨d,h⟩:=h;exact⟨d,h.mono c cL⟩
def PN.keep{F:bX}{w w':aG}{v:aQ}{a:aE}(h:PN F w v a)(c:∀b,F b->w'.heap[b]?=w.heap[b]?):PN F w' v a:=by
 obtain⟨d,h⟩:=h;exact⟨d,h.keep c⟩
def PN.form{F:bX}{w:aG}{v:aQ}{a:aE}(h:PN F w v a):∃T b,v=.iface T (.agg b):=by
 obtain⟨d,h⟩:=h;cases d with
 |zero=>exact h.elim
 |succ d=>obtain⟨T,b,_,c,_⟩:=h;exact⟨T,b,c⟩
def kW.pdepth{F:bX}{w:aG}:∀{vs ks},kW (PN F w) vs ks->∃d,kW (PND d F w) vs ks
 |[],[],_=>⟨0,trivial⟩
 |_::_,_::_,⟨⟨d,b⟩,a⟩=>by
  obtain⟨e,c⟩:=kW.pdepth a;exact⟨max d e,b.mono dX (Nat.le_max_left _ _),c.mono fun _ _ h=>h.mono dX (Nat.le_max_right _ _)⟩
 |[],_::_,h=>h.elim
 |_::_,[],h=>h.elim
def Prt.ok(F:bX)(w:aG)(p:Prt):Prop:=uI (PN F w) F w p
def Prt.ok.depth{F:bX}{w:aG}{p:Prt}(h:p.ok F w):∃d,uI (PND d F w) F w p:=by
 rcases h with ⟨b,a,e,d,i⟩|⟨b,h|⟨g,f,c,l,j,e,i,m,o,k⟩⟩
 ·exact⟨d,cl_ ⟨b,a,e,i⟩⟩
 ·exact⟨0,ck_ ⟨b,cl_ h⟩⟩
 ·obtain⟨d,n⟩:=k.pdepth;exact⟨d,ck_ ⟨b,ck_ ⟨g,f,c,l,j,e,i,m,o,n⟩⟩⟩
def Prt.ok.all{F:bX}{w:aG}:∀{ps:List Prt},(∀p∈ps,p.ok F w)->∃d,∀p∈ps,uI (PND d F w) F w p
 |[],_=>⟨0,fun p b=>by cases b⟩
 |p::ps,h=>by
  obtain⟨d,f⟩:=(h p (cJ_ ..)).depth;obtain⟨e,c⟩:=Prt.ok.all (ps:=ps) fun q a=>h q (cx_ _ a)
  refine⟨max d e,fun q a=>?_⟩
  rcases cv_.1 a with rfl|a
  ·exact f.mono (fun _ _ h=>h.mono dX (Nat.le_max_left _ _)) dX
  ·exact(c q a).mono (fun _ _ h=>h.mono dX (Nat.le_max_right _ _)) dX
def PN.mk{F:bX}{w:aG}{T:TypeId}{cs:Array Value}{a:aE}{ps:List Prt}(h:Shape T cs a ps)(b:∀p∈ps,p.ok F w):PN F w (.iface T (.agg cs)) a:=by
 obtain⟨d,c⟩:=Prt.ok.all b;exact⟨d+1,T,cs,ps,rfl,h,c⟩
def Prt.ok.node{F:bX}{w:aG}{v:aQ}{a:aE}(h:PN F w v a):Prt.ok F w ⟨v,[a],true⟩:=cl_ ⟨rfl,a,rfl,h⟩
def PKid(F:bX)(w:aG)(kv:aQ)(ks:List aE):Prop:=xC (PN F w) F w kv ks
def Prt.ok.list{F:bX}{w:aG}{v:aQ}{l:List aE}(h:PKid F w v l):Prt.ok F w ⟨v,l,false⟩:=ck_ ⟨rfl,h⟩
def PKid.keep{F G:bX}{w w':aG}{c:aQ}{ks:List aE}(h:PKid F w c ks)(a:∀b,F b->w'.heap[b]?=w.heap[b]?)(d:∀b,F b->G b):PKid G w' c ks:=
 (xC.mono h (fun _ _ h=>(h.keep a).mono d) dX).keep a |>.mono (fun _ _ h=>h) d
def PN.grow{lo hi lo' hi':Nat}{w w':aG}{v:aQ}{a:aE}(h:PN (Btw lo hi) w v a)(d:∀k,lo<=k->k<hi->w'.heap[k]?=w.heap[k]?)(f:lo'<=lo)(e:hi<=hi'):PN (Btw lo' hi') w' v a:=
 (h.keep fun b c=>d b c.1 c.2).mono fun _ c=>⟨cw_ f c.1,cn_ c.2 e⟩
def PKid.grow{lo hi lo' hi':Nat}{w w':aG}{v:aQ}{l:List aE}(h:PKid (Btw lo hi) w v l)(c:∀k,lo<=k->k<hi->w'.heap[k]?=w.heap[k]?)(e:lo'<=lo)(d:hi<=hi'):PKid (Btw lo' hi') w' v l:=
 h.keep (fun b a=>c b a.1 a.2) fun _ a=>⟨cw_ e a.1,cn_ a.2 d⟩
def EW:(prog.info? 59).map (fun i=>(i.zero,i.size,i.bytes))=some (some .nilIface,1,16):=by kernel_rfl
def PLst(base:Nat)(w:aG)(v:aQ)(acc:List aE):Prop:=
 ∃vs F,w.ownsRow base 59 1 v acc.length vs/\kW (PN F w) vs acc/\∀b,F b->base<=b/\b<w.heap.size/\v.ownBlock≠some b
def PLst.nil(base:Nat)(w:aG):PLst base w (bF) []:=⟨[],fun _=>False,World.ownsRow_nil _ _ _ _,trivial,fun _ h=>h.elim⟩
def PLst.slice{base:Nat}{w:aG}{v:aQ}{acc:List aE}(h:PLst base w v acc):∃x c,v=.slice x acc.length c:=by
 obtain⟨i,F,f,_⟩:=h;rcases f.2 with ⟨a,d⟩|⟨g,b,e,a,_⟩
 ·exact⟨none,0,by rw[a,d]⟩
 ·exact⟨_,b,a⟩
def PLst.keep{base pb:Nat}{w w1:aG}{v:aQ}{acc:List aE}(h:PLst base w v acc)(c:Fr pb w w1)(j:pb<base):PLst base w1 v acc:=by
 obtain⟨g,F,d,i,e⟩:=h;refine⟨g,F,aW d fun k f=>?_,i.mono fun _ _ h=>h.keep fun b a=>?_,fun b a=>?_⟩
 ·have:=cS d k f;exact c.block k (cP d k f) (by omega)
 ·have:=e b a;have:=c.size;exact⟨by omega,by omega,(e b a).2.2⟩
 ·have:=e b a;exact c.block b this.2.1 (by omega)
def PLst.snoc{base lo:Nat}{w r o:aG}{v:aQ}{acc:List aE}{p:aQ}{a:aE}{g m:Nat}{vs:List Value}{F:bX}(t:kW (PN F w) vs acc)(z:∀b,F b->base<=b/\b<w.heap.size/\v.ownBlock≠some b)
 (y:PN (Btw lo w.heap.size) w p a) (A:base<=lo) (n:∀k,v.ownBlock=some k->k<lo) (q:∀k,k<w.heap.size->r.heap[k]?=w.heap[k]?) (x:w.heap.size<=r.heap.size)
 (l:o.ownsRow base 59 1 (.slice (some (aH g 0)) (acc.length+1) m) (acc.length+1) (vs++[p]))
 (f:r.grownBy o v.ownBlock) (j:v.ownBlock=some g\/w.heap.size<=g):PLst base o (.slice (some (aH g 0)) (acc.length+1) m) (acc++[a]):=by
 have s:∀b,(F b\/Btw lo w.heap.size b)->base<=b/\b<w.heap.size/\v.ownBlock≠some b:=by
  rintro b (i|i)
  ·exact z b i
  ·exact⟨by have:=i.1;omega,i.2,fun e=>by have:=n b e;have:=i.1;omega⟩
 have c:∀b,(F b\/Btw lo w.heap.size b)->o.heap[b]?=w.heap[b]?:=fun b i=>by
  have d:=s b i;rw[f.block b (by omega) (fun e=>d.2.2 e.symm),q b d.2.1]
 refine⟨vs++[p],fun b=>F b\/Btw lo w.heap.size b,?_,?_,?_⟩
 ·rw[cp_];exact l
 ·exact kW.snoc (t.mono fun _ _ h=>(h.mono (fun _=>cl_)).keep c) ((y.mono (fun _=>ck_)).keep c)
 ·intro b i;have d:=s b i;have:=f.size;refine⟨d.1,by omega,fun e=>?_⟩
  have u:g=b:=Option.some.inj e;rcases j with j|j
  ·exact d.2.2 (by rw[j,u])
  ·omega
def PLst.kid{base:Nat}{w:aG}{v:aQ}{acc:List aE}(h:PLst base w v acc):PKid (Btw base w.heap.size) w v acc:=by
 obtain⟨m,F,o,k,j⟩:=h;rcases o.2 with ⟨a,e⟩|⟨g,c,d,a,e,f,l,q,p,n⟩
 ·exact cl_ ⟨a,cF_ e⟩
 ·exact ck_ ⟨g,c,d,m,a,⟨e,aC f⟩,f,l,by rw[<-n,dW_],k.mono fun _ _ h=>h.mono fun b i=>⟨(j b i).1,(j b i).2.1⟩⟩
def PAt.grown{C:Ctx}{w w':aG}{p:Nat}{a:Option Nat}{base:Nat}(h:PAt C w p)(c:w.grownBy w' a)(b:∀k,a=some k->base<=k)(f:C.pb<base)(d:C.g<base):PAt C w' p:=
 h.keep (c.block _ h.pb_lt fun e=>by have:=b _ e.symm;omega) (c.block _ h.g_lt fun e=>by have:=b _ e.symm;omega)
def Out{α:Type}(C:Ctx)(w:aG)(r:cB α)(P:World->Value->α->Prop)(e:Ending)(w':aG):Prop:=
 Fr C.pb w w'/\match r with
  |.ok (a,q)=>PAt C w' q/\∃v,e=aZ v/\P w' v a
  |.error l=>e=cT 4 l
def JT(C:Ctx)(w:aG)(r:cB aE)(e:Ending)(w':aG):Prop:=Out C w r (fun w' v a=>PN (Btw w.heap.size w'.heap.size) w' v a) e w'
def PReads(C:Ctx)(F:Nat)(X:Nat->cB aE):Prop:=∀w p,PAt C w p->X p≠.error 0->Calls prog F #[bH C.pb] w (JT C w (X p))
def oV(ts:List bB)(p:Nat)(l:cN):cD:=(l.find? fun x=>aY ts p x).getD []
def KO(C:Ctx)(w:aG)(p:Nat)(l:cN)(g G:Nat)(Q:g<w.heap.size)(I:g≠C.pb)(hl:l.length<=100)(s:∀x∈l,x≠[])(W:∀i (hi:i<l.length),w.cell? (aH g i)=some (.string (bs l[i])))(h:PAt C w p):
 Calls prog 124 #[bH C.pb,.slice (some (aH g 0)) l.length G] w fun e P=>e=aZ (.string (bs (oV C.ts p l)))/\PAt C P (if oV C.ts p l=[] then p else p+1)/\Fr C.pb w P:=by
 have HC:=aB W;have H:=aB h;have K:=aB s;clear W h s;generalize r:(if oV C.ts p l=[] then p else p+1)=T
 generalize B:oV C.ts p l=V at*;have S:=aB r;have A:=aB B;clear r B;go_in
 go_wp2_with fail;go_loopg [6,9] l.length (fun gk m i wr=>∃k:Nat,k+gk=l.length/\i=Iv0 k/\Fr C.pb w wr/\PAt C wr p/\Hid (∀x∈l.take k,aY C.ts p x=false))
 case atStart=>exact⟨0,by omega,rfl,Fr.refl _ _,H,fun x hx=>by simp at hx⟩
 case round=>
  obtain⟨k,Y,rfl,a,c,q⟩:=hrel;by_cases f:k<l.length
  ·obtain⟨j,rfl⟩:∃j,gk=j+1:=⟨gk-1,by omega⟩
   have J:wr.cell? (aH g k)=some (.string (bs l[k])):=(zB (a.block g Q I)).trans (HC k f);have aa:g<wr.heap.size:=cn_ Q a.size;have D:=aB (dO C wr p (bs l[k]) c);have O:(bs l[k]).data.toList=l[k]:=by simp[bs]
   rw[O] at D
   have L:Hid (l=l.take k++l[k]::l.drop (k+1)):=by
    show _=_
    rw[dq_,cY_]
   have F:Hid (∀y∈l.take (k+1),y∈l.take k\/y=l[k]):=fun y U=>by
    rw[cK_ f] at U;rcases cu_.1 U with h|h
    ·exact cl_ h
    ·exact ck_ (cs_.1 h)
   have v:l[k]≠[]:=K _ (cG_ f);have N:=aB v;have E:=aB a;clear c a O v;generalize l[k]=y at*;cases b:aY C.ts p y
   ·rw[b] at D
    have M:Hid (∀z∈l.take (k+1),aY C.ts p z=false):=fun z t=>by
     rcases F z t with h|h
     ·exact q.out z h
     ·rw[h];exact b
    clear q F L b;go_wp2_with fail;refine D.mono ?_;rintro e X ⟨rfl,d,o⟩;go_wp2
    go_roundg j
    case measure=>omega
    case rel=>exact⟨k+1,by omega,by go_num,E.trans o,d,M⟩
   ·rw[b] at D
    have u:Hid (V=y):=by
     show _=_
     rw[<-A.out];unfold oV;rw[L.out,List.find?_append,dy_.2 (by intro z t;simpa using q.out z t)]
     simp[b]
    clear q F L b;go_wp2_with fail;refine D.mono ?_;rintro e X ⟨rfl,d,o⟩;go_wp2
    go_ret;have n:T=p+1:=by rw[<-S.out,u.out,if_neg N.out]
    rw[u.out,n];exact⟨rfl,d,E.trans o⟩
  ·have u:Hid (V=[]):=by
    show _=_
    rw[<-A.out];unfold oV;rw[dy_.2]
    ·rfl
    ·intro z t;simpa using q.out z (by rw[cS_ (by omega)];exact t)
   have E:=aB a;have Z:=aB c;clear q a c;go_wp2
   go_ret;have n:T=p:=by rw[<-S.out,u.out,if_pos rfl]
   rw[u.out,n];exact⟨rfl,Z,E⟩
def Out.err{a:Type}{C:Ctx}{w w':aG}{r:cB a}{P:World->Value->a->Prop}{l:Nat}(c:r=.error l)(b:Fr C.pb w w'):Out C w r P (cT 4 l) w':=by
 subst c;exact⟨b,rfl⟩
def Out.ok{b:Type}{C:Ctx}{w w':aG}{r:cB b}{P:World->Value->b->Prop}{a:b}{q:Nat}{v:aQ}(f:r=.ok (a,q))(d:Fr C.pb w w')(e:PAt C w' q)(c:P w' v a):Out C w r P (aZ v) w':=by
 subst f;exact⟨d,e,v,rfl,c⟩
def pD{b:Type}{ts:List bB}{x:cD}{a:b}{q:Nat}(h:aY ts q x=true):aS ts x (.ok (a,q):cB b)=.ok (a,q+1):=by
 unfold aS;simp only;rw[if_pos h]
def zH{b:Type}{ts:List bB}{x:cD}{a:b}{q:Nat}(h:aY ts q x=false):aS ts x (.ok (a,q):cB b)=.error (aT ts q).line:=by
 unfold aS;simp only;rw[if_neg (by rw[h];simp)];rfl
def tG(w:aG)(v:aQ):∀j u,([v]:List Value)[j]?=some u->(w.alloc (.cells #[v] 59)).cell? ((⟨w.heap.size,0,none⟩:Addr).add j)=some u:=by
 intro j u a;match j,a with
 |0,a=>simp at a;subst a;simp[Addr.add,go_sem]
 |j+1,a=>simp at a
def wN(T:TypeId)(cs:Array Value):∀u∈([.iface T (.agg cs)]:List Value),u.oneCell'=true:=by
 intro u a;simp at a;subst a;rfl
def b9_(C:Ctx)(w:aG)(r:cB (List aE))(e:Ending)(w':aG):Prop:=Out C w r (fun w' v l=>PKid (Btw w.heap.size w'.heap.size) w' v l) e w'
def bK_(C:Ctx)(E:Nat->cB aE)(w:aG)(r0:cB (List aE))(k:Nat)(v:aQ)(wr:aG):Prop:=
 Fr C.pb w wr/\∃q acc,PAt C wr q/\r0=(if aY C.ts q [44] then dR E C.ts k (q+1) acc else .ok (acc,q))/\acc.length+k<=4000/\PLst w.heap.size wr v acc
def uM(C:Ctx)(E:Nat->cB aE)(HE:PReads C 55 E)(w:aG)(p:Nat)(y:ByteArray)(h:PAt C w p)(N r:cB (List aE))(W:Hid (N=iP E C.ts p y.data.toList))(hr:Hid (r=aS C.ts y.data.toList N))(al:N≠.error 0):
 Calls prog 197 #[bH C.pb,.string y] w (b9_ C w r):=by
 obtain⟨i0,hi,ap,bd,ba⟩:=info_parts EW;have HA:=aB (dO C w p y h);have H:=aB h;have bc:=aB HE;have ah:=aB al;have bo:=h.len;have x:=h.pb_lt;have bg:=h.g_lt;clear h HE al;cases b:aY C.ts p y.data.toList
 ·rw[b] at HA;have z:Hid (N=dR E C.ts (C.ts.length+1) p []):=by show _=_;rw[W.out];unfold iP;rw[b];rfl
  clear b W;go_in
  go_wp2_with fail;refine HA.mono ?_;rintro e w1 ⟨rfl,X,aa⟩;have D:E p≠.error 0:=fun e=>ah (by rw[z.out,dR,e])
  have HX:=aB (bc w1 p X D);have P:=aB aa;clear X aa D;go_wp2_with fail;refine HX.mono ?_;rintro e w2 O;cases m:E p with
  |error l=>
   rw[m] at O;obtain⟨B,rfl⟩:=O;have HL:Hid (r=.error l):=by show _=_;rw[hr.out,z.out,dR,m];rfl
   have Z:=aB (P.trans B);clear B HX;go_wp2_with fail;exact⟨rfl,Out.err HL Z⟩
  |ok aq=>
   obtain⟨a,q⟩:=aq;rw[m] at O;obtain⟨B,az,v,rfl,hn⟩:=O;obtain⟨T,cs,rfl⟩:=hn.form;have aw:Hid (N=(if aY C.ts q [44] then dR E C.ts C.ts.length (q+1) [a] else .ok ([a],q))):=by show _=_;rw[z.out,dR,m];rfl
   have Z:=aB (P.trans B);have ao:=aB az;have HN:=aB hn;have bz:=P.size;have br:=B.size;clear az B hn HX z P;go_wp2_with (at_builtin;refine wpList_append_lies _ (by rfl) _ _ 157 (by rfl) w.heap.size 59 i0 _ 1 16 underlying157 hi ap bd ba rfl (by decide) (bF) 0 [] (by rfl) (World.ownsRow_nil _ _ _ _) (aH w2.heap.size 0) 1 1 [.iface T (.agg cs)] (by rfl) (by rfl) (tG _ _) (wN _ _) (by decide) (by unfold maxLen;omega) (by omega) (by simp;omega) (w2.heap.size+1) (by simp) ?_)
   intro g ca w3 G f ac bv;have bb:=aB (PLst.snoc (base:=w.heap.size) (lo:=w1.heap.size) (F:=fun _=>False) (vs:=[]) (acc:=[]) (v:=bF) trivial (fun _ h=>h.elim) HN (by omega) (fun k Q=>by cases Q) (fun k Q=>cq_ _ _ _ Q) (by simp) G f (ac.imp_right (fun e=>by omega)))
   have ar:=aB ((ao.alloc _).grown (base:=w.heap.size) f (fun k Q=>by cases Q) x bg)
   have bf:=aB ((Z.alloc _).grown f (fun k Q=>by cases Q))
   clear G f ac HN ao Z;go_wp2_with fail;go_loopg [5] C.ts.length (fun k v wr=>bK_ C E w N k v wr)
   case atStart=>exact⟨bf,q,[a],ar,aw,by simp;omega,bb⟩
   case round=>
    obtain⟨ae,u,j,an,Y,bu,ai⟩:=hrel;obtain⟨x4,c4,rfl⟩:=ai.slice;have A:=aB (dO C wr u ⟨#[44]⟩ an);have ay:=aB ae;have V:=aB ai;have bx:=ae.size;clear ae an ai bb ar bf aw;cases b:aY C.ts u [44]
    ·have o:aY C.ts u (⟨#[44]⟩:ByteArray).data.toList=false:=b;rw[o] at A;have n:Hid (N=.ok (j,u)):=by show _=_;rw[Y,b];rfl
     clear b o Y;go_wp2_with fail;refine A.mono ?_;rintro e w5 ⟨rfl,M,i⟩;have af:=aB (gN C w5 u y M);have K:=aB (ay.trans i);have s:=aB (V.keep i x);have bj:=i.size;clear M i A V;go_wp2_with fail;refine af.mono ?_;rintro e w6 ⟨c,U⟩;have t:=aB (K.trans c);have au:=aB (s.keep c x);cases b:aY C.ts u y.data.toList
     ·rw[b] at U;obtain rfl:e=cT 4 (aT C.ts u).line:=U;have HL:Hid (r=.error (aT C.ts u).line):=by show _=_;rw[hr.out,n.out];exact zH b
      clear c af b au s;go_wp2_with fail;exact⟨rfl,Out.err HL t⟩
     ·rw[b] at U;obtain⟨rfl,J⟩:=U;have HL:Hid (r=.ok (j,u+1)):=by show _=_;rw[hr.out,n.out];exact pD b
      have S:=aB J;clear c af b J s;go_wp2
      go_ret;exact Out.ok HL t S au.kid
    ·have o:aY C.ts u (⟨#[44]⟩:ByteArray).data.toList=true:=b;rw[o] at A;have n:Hid (N=dR E C.ts gk (u+1) j):=by show _=_;rw[Y,b];rfl
     clear b o Y
     obtain⟨k,rfl⟩:∃k,gk=k+1:=by
      cases gk with
      |zero=>exact absurd n ah
      |succ k=>exact⟨k,rfl⟩
     go_wp2_with fail;refine A.mono ?_;rintro e w5 ⟨rfl,M,i⟩;have D:E (u+1)≠.error 0:=fun e=>ah (by rw[n.out,dR,e])
     have HX:=aB (bc w5 (u+1) M D);have K:=aB (ay.trans i);have s:=aB (V.keep i x);have bj:=i.size;clear M i A V D;go_wp2_with fail;refine HX.mono ?_;rintro e w6 O;cases m:E (u+1) with
     |error l=>
      rw[m] at O;obtain⟨c,rfl⟩:=O;have HL:Hid (r=.error l):=by show _=_;rw[hr.out,n.out,dR,m];rfl
      have t:=aB (K.trans c);clear c HX;go_wp2_with fail;exact⟨rfl,Out.err HL t⟩
     |ok bl=>
      obtain⟨a6,q6⟩:=bl;rw[m] at O;obtain⟨c,J,v6,rfl,ag⟩:=O;obtain⟨T6,bh,rfl⟩:=ag.form;have bn:Hid (N=(if aY C.ts q6 [44] then dR E C.ts k (q6+1) (j++[a6]) else .ok (j++[a6],q6))):=by show _=_;rw[n.out,dR,m]
      obtain⟨vs,F,L,ab,ax⟩:=s.keep c x
      have be:∀g,(Value.slice x4 j.length c4).ownBlock=some g->g<w5.heap.size:=by
       obtain⟨bt,F',ak,_⟩:=s;exact cP ak
      have am:=aB be;have t:=aB (K.trans c);have S:=aB J;have av:=aB ag;have HALL:=aB (cL_ ab ax);have bq:=c.size;have aj:∀k,(Value.slice x4 j.length c4).ownBlock=some k->w.heap.size<=k:=cS L;clear J c ag HX n s K ab ax be;go_wp2_with (at_builtin;refine wpList_append_lies _ (by rfl) _ _ 157 (by rfl) w.heap.size 59 i0 _ 1 16 underlying157 hi ap bd ba rfl (by decide) _ _ _ (by rfl) (L.alloc _) (aH w6.heap.size 0) 1 1 [.iface T6 (.agg bh)] (by rfl) (by rfl) (tG _ _) (wN _ _) (by decide) (by unfold maxLen;omega) (by omega) (by simp;omega) (w6.heap.size+1) (by simp) ?_)
      intro g7 bp w7 I d ad bw;have bm:=aB (PLst.snoc (lo:=w5.heap.size) HALL.1 HALL.2 av (by omega) am (fun k Q=>cq_ _ _ _ Q) (by simp) I d (ad.imp_right (fun e=>by omega)))
      have bi:=aB ((S.alloc _).grown (base:=w.heap.size) d aj x bg);have bk:=aB ((t.alloc _).grown d aj);clear L I d ad av S t HALL am aj;go_wp2
      go_roundg k
      case measure=>omega
      case rel=>exact⟨bk,q6,j++[a6],bi,bn,by simp;omega,bm⟩
 ·rw[b] at HA;have z:Hid (r=.ok ([],p+1)):=by show _=_;rw[hr.out,W.out];unfold iP;rw[b];unfold aS;simp[b]
  clear b W;go_in
  go_wp2_with fail;refine HA.mono ?_;rintro e w1 ⟨rfl,X,aa⟩;go_wp2
  go_ret;exact Out.ok z aa X (cl_ ⟨rfl,rfl⟩)
structure PS(C:Ctx)(w:aG)(t:bB)(tb:Nat)(W:aG)(p:Nat):Prop where
 fr:Fr C.pb w W
 at_:PAt C W p
 tk:W.heap[tb]?=some (.cells #[Iv0 (psort t.sort),.string (bs t.text),Iv0 (pval t),Iv0 t.line] 150 (0,0))
 pl:W.heap[tb+1]?=some (.cells #[Iv0 t.line] 153 (0,0))
 lo:w.heap.size<=tb
 np:C.pb<tb
 ng:C.g<tb
def PS.keep{C:Ctx}{w W c:aG}{t:bB}{a p q:Nat}(h:PS C w t a W p)(b:Fr C.pb W c)(d:PAt C c q):PS C w t a c q:=
 ⟨h.fr.trans b,d,by rw[b.block a (aC h.tk) (by have:=h.np;omega)];exact h.tk,by rw[b.block (a+1) (aC h.pl) (by have:=h.np;omega)];exact h.pl,h.lo,h.np,h.ng⟩
def PS.cells{C:Ctx}{w W:aG}{t:bB}{a p:Nat}(h:PS C w t a W p):
 a+1<W.heap.size/\W.cell? (aH a 0)=some (Iv0 (psort t.sort))/\W.cell? (aH a 1)=some (.string (bs t.text))/\W.cell? (aH a 2)=some (Iv0 (pval t))/\W.cell? (aH a 3)=some (Iv0 t.line)/\W.cell? (aH (a+1) 0)=some (Iv0 t.line)/\C.pb<W.heap.size/\W.cell? (aH C.pb 1)=some (Iv0 p)/\W.frozen? (aH C.pb 1)=false:=
 ⟨aC h.pl,aA h.tk rfl,aA h.tk rfl,aA h.tk rfl,aA h.tk rfl,aA h.pl rfl,h.at_.pb_lt,aA h.at_.blk rfl,aD h.at_.blk⟩
def thrown{P:Program}{b:Array Oper}{o:Oper}{a:Act}{w:aG}{K:Act->World->Prop}{Q:Exit->Act->World->Prop}{E:Prop}(c:aQ)
 (h:if Region.wanted o (yielded b a.tmps)=true then Oper.wp P o a w K Q else E) (_d:Hid False->K (a.put o.dst c) w):
 if Region.wanted o (yielded b a.tmps)=true then Oper.wp P o a w K Q else E:=h
def Fr.keepB{pb b:Nat}{w w':aG}{o:Obj}(a:Fr pb w w')(h:w.heap[b]?=some o)(e:b≠pb):w'.heap[b]?=some o:=by
 have c:b<w.heap.size:=by
  by_cases d:b<w.heap.size
  ·exact d
  ·rw[dc_ (by omega)] at h;cases h
 rw[a.block b c e];exact h
def PKid.slice{F:bX}{w:aG}{v:aQ}{l:List aE}(h:PKid F w v l):∃x c,v=.slice x l.length c:=by
 rcases h with ⟨a,d⟩|⟨g,e,b,f,a,_⟩
 ·exact⟨none,0,by rw[a,d];rfl⟩
 ·exact⟨_,_,a⟩
def aa_{t:bB}(h:pP t):(psort t.sort=2↔t.sort=48)/\(psort t.sort=3↔t.sort=115):=by
 unfold psort;rcases h with h|⟨h,_⟩|h|⟨h,_⟩|h|h<;>simp[h]
def QJ(C:Ctx)(E:Nat->cB aE)(HE:PReads C 55 E):PReads C 214 (eH E C.ts):=by
 intro w p h bc;have HN:=aB (mM C w p h);simp only[oT] at HN;have br:=aB (fun w1 (hb:Below w.heap.size w w1)=>nQ C w1 p (h.below hb))
 have bg:=h.tsk.tk p h.lt;have HS:=aB (aa_ bg);have HT:Hid ((aT C.ts p).sort≠101->p+1<C.ts.length):=fun e=>h.all.ok.next p h.lt e
 have cs:p<=3000:=by have:=h.lt;have:=h.len;omega
 have H:=aB h;have bm:=aB HE;have aw:=aB bg;have cr:=h.pb_lt;have cz:=h.g_lt;obtain⟨r,hr⟩:∃r,r=eH E C.ts p:=⟨_,rfl⟩;rw[<-hr] at bc ⊢
 rw[eH] at hr;have HR:=aB hr;have bk:=aB bc;clear h HE bc bg hr;generalize ca:aT C.ts p=t at*;have be:=aB ca;clear ca;go_in
 go_wp2_with fail;refine HN.mono ?_;rintro e w1 ⟨rfl,cd⟩;have ay:=aB cd;clear cd;go_wp2_with fail;refine(br w1 ay).mono ?_;rintro e w2 ⟨rfl,bt⟩
 have bi:PS C w t w2.heap.size ((w2.alloc (.cells #[Iv0 (psort t.sort),.string (bs t.text),Iv0 (pval t),Iv0 t.line] 150)).alloc (.cells #[Iv0 t.line] 153)) p:=by
  have hb:=ay.trans (bt.mono ay.size);have ch:=hb.size;refine⟨((Fr.below hb).alloc _).alloc _,((H.below hb).alloc _).alloc _,?_,?_,ch,by omega,by omega⟩
  ·exact eA _ _ (by simp) _ (aO _ _ rfl _)
  ·exact aO _ _ (by simp) _
 have z:=aB bi;obtain⟨k0,k1,k2,k3,k4,k5,k6,k7,k8⟩:=bi.cells;clear bi bt ay br HN;go_upto_region 2 with fail
 generalize cq:(w2.alloc (.cells #[Iv0 (psort t.sort),.string (bs t.text),Iv0 (pval t),Iv0 t.line] 150)).alloc (.cells #[Iv0 t.line] 153)=W at*;generalize cp:psort t.sort=ps at*;have cv:=z.np;have cx:¬w2.heap.size=C.pb:=by omega
 have cw:¬C.pb=w2.heap.size:=by omega
 by_cases ap:ps=2
 ·have O:t.sort=48:=HS.1.1 ap;subst ap
  obtain⟨kk,bd⟩:∃kk,dP 0 t.text=some kk:=by
   rcases aw with h|⟨h,_⟩|h|⟨h,h2⟩|h|h
   ·omega
   ·omega
   ·omega
   ·exact Option.isSome_iff_exists.1 h2
   ·omega
   ·omega
  have V:Hid (pval t=kk):=by show _=_;unfold pval;rw[if_pos O,bd];rfl
  have d:Hid (r=.ok (aU [UInt8.ofNat t.sort] t.line t.text [],p+1)):=by show _=_;rw[HR.out,O];rfl
  have Q:Hid (Shape 243 #[Iv0 t.line,Iv0 (pval t)] (aU [UInt8.ofNat t.sort] t.line t.text []) []):=cl_ ⟨rfl,kk,by rw[V.out];rfl,by rw[O];rfl,bd,rfl,rfl⟩
  have hm:=z.at_.move (co_ _ _) (p+1) (HT (by omega))
  have HM:=aB (cL_ (z.fr.trans hm.2) hm.1);clear O bd V aw hm HR;go_wp2
  go_ret;exact Out.ok d HM.1 HM.2 (PN.mk Q (fun p hp=>by cases hp))
 by_cases T:ps=3
 ·have O:t.sort=115:=HS.2.1 T;subst T;have d:Hid (r=.ok (aU [UInt8.ofNat t.sort] t.line t.text [],p+1)):=by show _=_;rw[HR.out,O];rfl
  have Q:Hid (Shape 244 #[Iv0 t.line,.string (bs t.text)] (aU [UInt8.ofNat t.sort] t.line t.text []) []):=ck_ (cl_ ⟨rfl,rfl,by rw[O];rfl,rfl,rfl⟩)
  have hm:=z.at_.move (co_ _ _) (p+1) (HT (by omega))
  have HM:=aB (cL_ (z.fr.trans hm.2) hm.1);clear O aw hm HR ap;go_wp2
  go_ret;exact Out.ok d HM.1 HM.2 (PN.mk Q (fun p hp=>by cases hp))
 have cy:((ps:Int)==2)=false:=by simp;omega
 have co:((ps:Int)==3)=false:=by simp;omega
 have az:(t.sort==48 || t.sort==115)=false:=by
  have h1:t.sort≠48:=fun e=>ap (HS.1.2 e)
  have h2:t.sort≠115:=fun e=>T (HS.2.2 e)
  simp[h1,h2]
 have aa:Hid (r=if aY C.ts p [116,114,117,101] || aY C.ts p [102,97,108,115,101] then .ok (aU [98,111,111,108] t.line t.text [],p+1)
  else if aY C.ts p [40] then aS C.ts [41] (E (p+1))
  else if aY C.ts p [91] then cF (aU [108,105,115,116] t.line t.text) (eY E C.ts p [91] [93])
  else if t.sort==110 then
   if aY C.ts (p+1) [40] then cF (aU [99,97,108,108] t.line t.text) (eY E C.ts (p+1) [40] [41])
   else .ok (aU [110,97,109,101] t.line t.text [],p+1)
  else Hs.bad C.ts p):=by show _=_;rw[HR.out,az];rfl
 have ag:Hid (∀x,aY C.ts p x=true->t.text=x):=fun x hx=>by
  unfold aY at hx;rw[be.out] at hx;simp only[cO_,beq_iff_eq] at hx;exact hx.2
 clear HR az ap T HS aw;have X:=aB (dO C W p ⟨#[116,114,117,101]⟩ z.at_);have cb:(⟨#[116,114,117,101]⟩:ByteArray).data.toList=[116,114,117,101]:=rfl;rw[cb] at X;clear cb;cases i1:aY C.ts p [116,114,117,101];rotate_left
 ·have d:Hid (r=.ok (aU [98,111,111,108] t.line t.text [],p+1)):=by show _=_;rw[aa.out,i1];rfl
  have Q:Hid (Shape 246 #[Iv0 t.line,.bool true] (aU [98,111,111,108] t.line t.text []) []):=ck_ (ck_ (cl_ ⟨rfl,by show _= #[_,Value.bool (t.text==_)];rw[ag.out _ i1];rfl,rfl,rfl,rfl⟩))
  rw[i1] at X;clear i1 aa ag;go_wp2_with fail;refine X.mono ?_;rintro e w3 ⟨rfl,bb,ah⟩;have m:=z.keep ah bb;have o:=aB m;clear k1 k2 k3 k4 k5 k6 k7 k8 bb ah;obtain⟨k0,k1,k2,k3,k4,k5,k6,k7,k8⟩:=m.cells;clear m;go_wp2
  go_ret;exact Out.ok d o.fr o.at_ (PN.mk Q (fun p hp=>by cases hp))
 rw[i1] at X;go_wp2_with fail;refine X.mono ?_;rintro e w3 ⟨rfl,an,ah⟩;have m:=z.keep ah an;have ab:=aB (dO C w3 p ⟨#[102,97,108,115,101]⟩ an);have bo:(⟨#[102,97,108,115,101]⟩:ByteArray).data.toList=[102,97,108,115,101]:=rfl;rw[bo] at ab;have o:=aB m;clear bo an ah m z X k0 k1 k2 k3 k4 k5 k6 k7 k8;cases i2:aY C.ts p [102,97,108,115,101];rotate_left
 ·have d:Hid (r=.ok (aU [98,111,111,108] t.line t.text [],p+1)):=by show _=_;rw[aa.out,i1,i2];rfl
  have Q:Hid (Shape 246 #[Iv0 t.line,.bool false] (aU [98,111,111,108] t.line t.text []) []):=ck_ (ck_ (cl_ ⟨rfl,by show _= #[_,Value.bool (t.text==_)];rw[ag.out _ i2];rfl,rfl,rfl,rfl⟩))
  rw[i2] at ab;clear i1 i2 aa ag;go_wp2_with fail;refine ab.mono ?_;rintro e w4 ⟨rfl,n,aj⟩;have u:=o.keep aj n;have g:=aB u;clear n aj;obtain⟨k0,k1,k2,k3,k4,k5,k6,k7,k8⟩:=u.cells;clear u;go_wp2
  go_ret;exact Out.ok d g.fr g.at_ (PN.mk Q (fun p hp=>by cases hp))
 rw[i2] at ab
 have av:Hid (r=if aY C.ts p [40] then aS C.ts [41] (E (p+1))
  else if aY C.ts p [91] then cF (aU [108,105,115,116] t.line t.text) (eY E C.ts p [91] [93])
  else if t.sort==110 then
   if aY C.ts (p+1) [40] then cF (aU [99,97,108,108] t.line t.text) (eY E C.ts (p+1) [40] [41])
   else .ok (aU [110,97,109,101] t.line t.text [],p+1)
  else Hs.bad C.ts p):=by show _=_;rw[aa.out,i1,i2];rfl
 clear aa i1 i2 ag;go_wp2_with fail;refine ab.mono ?_;rintro e w4 ⟨rfl,n,aj⟩;have u:=o.keep aj n;have P:=aB (dO C w4 p ⟨#[40]⟩ n);have bq:(⟨#[40]⟩:ByteArray).data.toList=[40]:=rfl;rw[bq] at P;have g:=aB u;clear bq n aj u o ab;cases i3:aY C.ts p [40];rotate_left
 ·have A:Hid (r=aS C.ts [41] (E (p+1))):=by show _=_;rw[av.out,i3];rfl
  rw[i3] at P;clear i3 av;go_wp2_with fail;refine P.mono ?_;rintro e w5 ⟨rfl,s,ai⟩;have bp:E (p+1)≠.error 0:=fun e=>bk (by rw[A.out,e];rfl)
  have HX:=aB (bm w5 (p+1) s bp);have bl:=aB (g.fr.trans ai);have cu:=bl.size;clear s ai bp P g;go_wp2_with fail;refine HX.mono ?_;rintro e w6 hO;cases ar:E (p+1) with
  |error l=>
   rw[ar] at hO;obtain⟨f,rfl⟩:=hO;have d:Hid (r=.error l):=by show _=_;rw[A.out,ar];rfl
   have B:=aB (bl.trans f);clear f HX;go_wp2_with fail;exact⟨rfl,Out.err d B⟩
  |ok aq=>
   obtain⟨a,q⟩:=aq;rw[ar] at hO;obtain⟨f,bw,v6,rfl,bx⟩:=hO;have ax:=aB (gN C w6 q ⟨#[41]⟩ bw);have ao:(⟨#[41]⟩:ByteArray).data.toList=[41]:=rfl;rw[ao] at ax;have B:=aB (bl.trans f);have ck:=aB bx;have ct:=f.size;clear bw f bx HX ao;go_wp2_with fail;refine ax.mono ?_;rintro e w7 ⟨b,G⟩;cases Y:aY C.ts q [41]
   ·rw[Y] at G;obtain rfl:e=cT 4 (aT C.ts q).line:=G;have d:Hid (r=.error (aT C.ts q).line):=by show _=_;rw[A.out,ar];exact zH Y
    have y:=aB (B.trans b);clear b ax Y;go_wp2_with fail;exact⟨rfl,Out.err d y⟩
   ·rw[Y] at G;obtain⟨rfl,ak⟩:=G;have d:Hid (r=.ok (a,q+1)):=by show _=_;rw[A.out,ar];exact pD Y
    have y:=aB (B.trans b);have cg:=aB ak;have cm:=aB (ck.grow (lo':=w.heap.size) (hi':=w7.heap.size) (fun k h1 h2=>b.block k h2 (by omega)) (by omega) b.size)
    clear b ax Y ak;go_wp2
    go_ret;exact Out.ok d y cg cm
 rw[i3] at P
 have A:Hid (r=if aY C.ts p [91] then cF (aU [108,105,115,116] t.line t.text) (eY E C.ts p [91] [93])
  else if t.sort==110 then
   if aY C.ts (p+1) [40] then cF (aU [99,97,108,108] t.line t.text) (eY E C.ts (p+1) [40] [41])
   else .ok (aU [110,97,109,101] t.line t.text [],p+1)
  else Hs.bad C.ts p):=by show _=_;rw[av.out,i3];rfl
 clear av i3;go_wp2_with fail;refine P.mono ?_;rintro e w5 ⟨rfl,s,ai⟩;have ba:=g.keep ai s;have K:=aB (dO C w5 p ⟨#[91]⟩ s);have ao:(⟨#[91]⟩:ByteArray).data.toList=[91]:=rfl;rw[ao] at K;have S:=aB ba;clear ao s ai ba g P;cases i4:aY C.ts p [91];rotate_left
 ·obtain⟨r1,M⟩:∃r1,r1=iP E C.ts (p+1) [93]:=⟨_,rfl⟩;have F:Hid (r=cF (aU [108,105,115,116] t.line t.text) (aS C.ts [93] r1)):=by show _=_;rw[A.out,i4,M];unfold eY;rw[i4];rfl
  have ac:=aB M;rw[i4] at K;clear i4 A M;go_wp2_with fail;refine K.mono ?_;rintro e w6 ⟨rfl,j,f⟩;have af:=S.keep f j;have V:=aB (uM C E bm w6.drew (p+1) ⟨#[93]⟩ j.drew r1 _ ac rfl (fun e=>bk (by rw[F.out,e];rfl)))
  have al:(⟨#[93]⟩:ByteArray).data.toList=[93]:=rfl;rw[al] at V;have ad:=aB af;obtain⟨k0,k1,k2,k3,k4,k5,k6,k7,k8⟩:=af.cells;clear j f af al S K k1 k2 k3 k4 k7 k8;cases hV:aS C.ts [93] r1 with
  |error l=>
   rw[hV] at V;have d:Hid (r=.error l):=by show _=_;rw[F.out,hV];rfl
   clear hV;go_wp2_with fail;go_region_law (refine thrown (bF) ?_ ?_;(focus go_simp;go_at_call 197;refine V.mono ?_;rintro e w7 ⟨b,rfl⟩;exact cL_ rfl (Out.err d (ad.fr.drew.trans b)));intro D)
   all_goals exact D.out.elim
  |ok lq=>
   obtain⟨l,q⟩:=lq;rw[hV] at V;have d:Hid (r=.ok (aU [108,105,115,116] t.line t.text l,q)):=by show _=_;rw[F.out,hV];rfl
   clear hV;have cc:=ad.fr.size;go_wp2_with fail;go_region_law (go_simp;go_at_call 197;refine V.mono ?_;rintro e w7 ⟨b,ak,v,rfl,hk⟩;obtain⟨x,c,rfl⟩:=hk.slice;have HK:=aB hk;have U:=aB (ad.keep ((Fr.refl _ _).drew.trans b) ak);have y:=aB b;have c5:=U.cells.2.2.2.2.2.1;have c0:=U.cells.1;clear b ak hk)
   all_goals (go_wp2_with fail;go_ret)
   all_goals exact Out.ok d U.fr U.at_ (PN.mk (ck_ (ck_ (ck_ (cl_ ⟨rfl,_,rfl,rfl,rfl⟩)))) (fun p hp=>by obtain rfl:=cs_.1 hp;exact Prt.ok.list (HK.grow (fun _ _ _=>rfl) cc cL)))
 rw[i4] at K
 have F:Hid (r=if t.sort==110 then
       if aY C.ts (p+1) [40] then cF (aU [99,97,108,108] t.line t.text) (eY E C.ts (p+1) [40] [41])
       else .ok (aU [110,97,109,101] t.line t.text [],p+1)
  else Hs.bad C.ts p):=by show _=_;rw[A.out,i4];rfl
 clear A i4;go_wp2_with fail;refine K.mono ?_;rintro e w6 ⟨rfl,j,f⟩;have B:=aB (S.fr.trans f);have Z:=aB (nP C w6 p j);rw[be.out] at Z;clear j f S K;cases O:(t.sort==110)
 ·rw[O] at Z;have d:Hid (r=.error t.line):=by show _=_;rw[F.out,O];show Hs.bad _ _=_;unfold Hs.bad;rw[be.out]
  clear O F;go_wp2_with fail;refine Z.mono ?_;rintro e w7 ⟨b,G⟩;obtain rfl:e=cT 4 t.line:=G;have y:=aB (B.trans b);clear b;go_wp2_with fail;exact⟨rfl,Out.err d y⟩
 rw[O] at Z
 have ac:Hid (r=if aY C.ts (p+1) [40] then cF (aU [99,97,108,108] t.line t.text) (eY E C.ts (p+1) [40] [41])
       else .ok (aU [110,97,109,101] t.line t.text [],p+1)):=by show _=_;rw[F.out,O];rfl
 clear F O;go_wp2_with fail;refine Z.mono ?_;rintro e w7 ⟨b,G⟩;obtain⟨rfl,au⟩:=G;have y:=aB ((B.trans b).alloc (.cells #[Iv0 t.line,.string (bs t.text)] 155));have L:=aB (dO C (w7.alloc (.cells #[Iv0 t.line,.string (bs t.text)] 155)) (p+1) ⟨#[40]⟩ (au.alloc _));have al:(⟨#[40]⟩:ByteArray).data.toList=[40]:=rfl;rw[al] at L;have bz:Hid ((w7.alloc (.cells #[Iv0 t.line,.string (bs t.text)] 155)).heap[w7.heap.size]?=some (.cells #[Iv0 t.line,.string (bs t.text)] 155 (0,0))):=aO _ _ rfl _;have bj:w7.heap.size≠C.pb:=by have:=au.pb_lt;omega
 have cn:=(B.trans b).size;clear b au Z B al;cases i5:aY C.ts (p+1) [40]
 ·rw[i5] at L;have d:Hid (r=.ok (aU [110,97,109,101] t.line t.text [],p+1)):=by show _=_;rw[ac.out,i5];rfl
  clear i5 ac;go_wp2_with fail;refine L.mono ?_;rintro e w8 ⟨rfl,I,N⟩;have J:=aB (N.keepB bz bj);have am:=aB (y.trans N);have cf:=aB I;have c0:=aA J (i:=0) rfl;have c1:=aA J (i:=1) rfl;have ci:=aC J;clear I N L;go_wp2
  go_ret;exact Out.ok d am cf (PN.mk (ck_ (ck_ (ck_ (ck_ (ck_ (cl_ ⟨rfl,rfl,rfl,rfl,rfl⟩)))))) (fun p hp=>by cases hp))
 ·rw[i5] at L;obtain⟨r1,M⟩:∃r1,r1=iP E C.ts (p+1+1) [41]:=⟨_,rfl⟩;have bf:Hid (r=cF (aU [99,97,108,108] t.line t.text) (aS C.ts [41] r1)):=by show _=_;rw[ac.out,i5,M];unfold eY;rw[i5];rfl
  have cj:=aB M;clear i5 ac M;go_wp2_with fail;refine L.mono ?_;rintro e w8 ⟨rfl,I,N⟩;have J:=aB (N.keepB bz bj);have am:=aB (y.trans N);have V:=aB (uM C E bm w8.drew (p+1+1) ⟨#[41]⟩ I.drew r1 _ cj rfl (fun e=>bk (by rw[bf.out,e];rfl)))
  have bn:(⟨#[41]⟩:ByteArray).data.toList=[41]:=rfl;rw[bn] at V;have c0:=aA J (i:=0) rfl;have c1:=aA J (i:=1) rfl;have ci:=aC J;have bv:=am.size;clear I N L bn;cases hV:aS C.ts [41] r1 with
  |error l=>
   rw[hV] at V;have d:Hid (r=.error l):=by show _=_;rw[bf.out,hV];rfl
   clear hV;go_wp2_with fail;go_region_law (refine thrown (bF) ?_ ?_;(focus go_simp;go_at_call 197;refine V.mono ?_;rintro e w9 ⟨ae,rfl⟩;exact cL_ rfl (Out.err d (am.drew.trans ae)));intro D)
   all_goals exact D.out.elim
  |ok lq=>
   obtain⟨l,q⟩:=lq;rw[hV] at V;have d:Hid (r=.ok (aU [99,97,108,108] t.line t.text l,q)):=by show _=_;rw[bf.out,hV];rfl
   clear hV;go_wp2_with fail;go_region_law (go_simp;go_at_call 197;refine V.mono ?_;rintro e w9 ⟨ae,bu,v,rfl,hk⟩;obtain⟨x,c,rfl⟩:=hk.slice;have HK:=aB hk;have cl:=aB ae;have ce:=aB bu;have bh:=aB (((Fr.refl C.pb w8).drew.trans ae).keepB J bj);have d0:=aA bh (i:=0) rfl;have d1:=aA bh (i:=1) rfl;have da:=aC bh;clear ae bu hk)
   all_goals (go_wp2_with fail;go_ret)
   all_goals exact Out.ok d (am.drew.trans cl) ce (PN.mk (ck_ (ck_ (ck_ (ck_ (cl_ ⟨rfl,_,rfl,rfl,rfl⟩))))) (fun p hp=>by obtain rfl:=cs_.1 hp;exact Prt.ok.list (HK.grow (fun _ _ _=>rfl) bv cL)))
abbrev v7(W:aG)(b l:Nat):Prop:=W.heap[b]?=some (.cells #[Iv0 l] 153 (0,0))
def v7.new(w:aG)(l:Nat):v7 (w.alloc (.cells #[Iv0 l] 153)) w.heap.size l:=aO _ _ rfl _
def ON(C:Ctx)(E:Nat->cB aE)(w:aG)(r:cB aE)(tb l:Nat)(k:Nat)(v:aQ)(wr:aG):Prop:=
 Fr C.pb w wr/\∃q a,PAt C wr q/\r=dK E C.ts k a q/\PN (Btw w.heap.size wr.heap.size) wr v a/\v7 wr tb l
def V9(C:Ctx)(E:Nat->cB aE)(HE:PReads C 55 E):PReads C 209 (fun p=>bW (eH E C.ts p) (dK E C.ts (C.ts.length+1))):=by
 intro w p h K;have Q:=aB (nQ C w p h);have J:eH E C.ts p≠.error 0:=fun e=>K (by show bW _ _=_;rw[e];rfl)
 have t:=aB (fun w1 (hb:Below w.heap.size w w1)=>QJ C E HE w1 p (h.below hb) J)
 have ax:=aB HE;have ba:=h.pb_lt;obtain⟨r,hr⟩:∃r,r=bW (eH E C.ts p) (dK E C.ts (C.ts.length+1)):=⟨_,rfl⟩;have I:r≠.error 0:=hr▸K;show Calls _ _ _ _ (JT C w (bW (eH E C.ts p) (dK E C.ts (C.ts.length+1))))
 rw[<-hr];have HR:=aB hr;have ag:=aB I;clear h HE K hr J I;generalize (aT C.ts p).line=pl at*;cases n:eH E C.ts p with
 |error l=>
  have s:Hid (r=.error l):=by show _=_;rw[HR.out,n];rfl
  rw[n] at t;clear n HR;go_in
  go_wp2_with fail;refine Q.mono ?_;rintro e w1 ⟨rfl,A⟩;have o:=aB A;clear A;go_wp2_with fail;refine(t w1 o).mono ?_;rintro e w2 ⟨m,rfl⟩;have az:=aB ((Fr.below o).trans m);clear m;go_wp2_with fail;exact⟨rfl,Out.err s az⟩
 |ok aq=>
  obtain⟨a0,q0⟩:=aq;have s:Hid (r=dK E C.ts (C.ts.length+1) a0 q0):=by show _=_;rw[HR.out,n];rfl
  rw[n] at t;clear n HR;go_in
  go_wp2_with fail;refine Q.mono ?_;rintro e w1 ⟨rfl,A⟩;have o:=aB A;clear A;go_wp2_with fail;refine(t w1 o).mono ?_;rintro e w2 ⟨m,af,v2,rfl,Z⟩;have aw:=o.size;have bd:=m.size
  have HI:Hid (ON C E w r w2.heap.size pl (C.ts.length+1) v2 (w2.alloc (.cells #[Iv0 pl] 153))):=
   ⟨((Fr.below o).trans m).alloc _,q0,a0,af.alloc _,s,Z.grow (fun k _ B=>cq_ _ _ _ B) aw (by simp),v7.new _ _⟩
  obtain⟨T2,bh,rfl⟩:=Z.form;clear m af Z s t Q;go_wp2_with fail;go_loopg [4] (C.ts.length+1) (fun k v wr=>ON C E w r w2.heap.size pl k v wr)
  case atStart=>exact HI
  case round=>
   obtain⟨L,q,a,aa,z,O,G⟩:=hrel;obtain⟨T3,bi,rfl⟩:=O.form
   obtain⟨k,rfl⟩:∃k,gk=k+1:=by
    cases gk with
    |zero=>exact absurd z ag
    |succ k=>exact⟨k,rfl⟩
   have HA:=aB (dO C wr q ⟨#[91]⟩ aa);have ed:(⟨#[91]⟩:ByteArray).data.toList=[91]:=rfl;rw[ed] at HA;have Y:=aB L;have P:=aB O;have ac:=aB G;have bb:=L.size;clear L aa O G ed HI;cases b:aY C.ts q [91]
   ·have s:Hid (r=.ok (a,q)):=by show _=_;rw[z,dK,b];rfl
    rw[b] at HA;clear b z;go_wp2_with fail;refine HA.mono ?_;rintro e w4 ⟨rfl,u,c⟩;have f:=aB c;have x:=aB u;clear c u;go_wp2
    go_ret;exact Out.ok s (Y.trans f) x (P.grow (fun k h1 B=>f.block k B (by omega)) cL f.size)
   ·obtain⟨rE,M⟩:∃rE,rE=E (q+1):=⟨_,rfl⟩;have j:Hid (r=match aS C.ts [93] rE with|.error l=>.error l|.ok (i,q')=>dK E C.ts k (aU [105,110,100,101,120] (aT C.ts q).line [] [a,i]) q'):=by show _=_;rw[z,dK,b,M];rfl
    rw[b] at HA;have aj:=aB M;clear b z M;have ab:E (q+1)≠.error 0:=fun e=>ag (by rw[j.out,aj.out,e];rfl)
    go_wp2_with fail;refine HA.mono ?_;rintro e w4 ⟨rfl,u,c⟩;have HX:=aB (ax w4.drew (q+1) u.drew ab);rw[<-aj.out] at HX;have ao:=aB (P.grow (fun k h1 B=>c.block k B (by omega)) cL c.size)
    have x:=aB (c.keepB ac (by omega))
    have f:=aB (Y.trans c);have c0:=aA x (i:=0) rfl;have ay:=aC x;have bf:=c.size;clear c u P ac Y HA ab;cases rE with
    |error l=>
     have s:Hid (r=.error l):=j;go_wp2_with fail;go_region_law (refine thrown .nilIface ?_ ?_;(focus go_simp;go_at_call 55;refine HX.mono ?_;rintro e w5 ⟨y,rfl⟩;exact cL_ rfl (Out.err s (f.drew.trans y)));intro D)
     all_goals exact D.out.elim
    |ok iq=>
     obtain⟨i,F⟩:=iq;have T:=aB (fun w5 (h:PAt C w5 F)=>gN C w5 F ⟨#[93]⟩ h)
     have ed:(⟨#[93]⟩:ByteArray).data.toList=[93]:=rfl;rw[ed] at T;clear ed;go_wp2_with fail;go_cut [4] (fun v wc=>Fr C.pb w wc/\PAt C wc F/\PN (Btw w.heap.size wc.heap.size) wc v (aU [105,110,100,101,120] (aT C.ts q).line [] [a,i])/\v7 wc w2.heap.size pl)
     case first=>
      go_region_law (go_simp;go_at_call 55;refine HX.mono ?_;rintro e w5 ⟨y,ai,v5,rfl,S⟩;obtain⟨T5,bg,rfl⟩:=S.form;have am:=aB S;have V:=aB y;have al:=aB ai;have W:=aB (((Fr.refl C.pb w4).drew.trans y).keepB x (by omega));have d0:=aA W (i:=0) rfl;have be:=aC W;clear y ai S)
      all_goals
       go_wp2_with fail;go_meet
       case rel=>
        have ap:=V.size
        exact⟨f.drew.trans V,al,PN.mk (ck_ (ck_ (ck_ (ck_ (ck_ (ck_ (cl_ ⟨rfl,pl,_,_,a,i,rfl,rfl,rfl,rfl⟩))))))) (fun p hp=>by
         simp only[cv_,cD_,or_false] at hp;rcases hp with rfl|rfl
         ·exact Prt.ok.node (ao.grow (fun k h1 B=>V.block k B (by omega)) cL ap)
         ·exact Prt.ok.node (am.grow (fun _ _ _=>rfl) (by have:=f.size;exact this) cL)),W⟩
     case rest=>
      obtain⟨X,ae,U,H⟩:=hcut;obtain⟨T6,ak,rfl⟩:=U.form;have g:=aB (T _ ae);have ah:=aB X;have au:=aB U;have ar:=aB H;have bc:=X.size;clear X ae U H T HX c0 ay;cases b:aY C.ts F [93]
      ·have s:Hid (r=.error (aT C.ts F).line):=by show _=_;rw[j.out,zH b]
       rw[b] at g;clear b j;go_wp2_with fail;refine g.mono ?_;rintro e w7 ⟨d,N⟩;obtain rfl:e=cT 4 (aT C.ts F).line:=N;have av:=aB (ah.trans d);clear d;go_wp2_with fail;exact⟨rfl,Out.err s av⟩
      ·have s:Hid (r=dK E C.ts k (aU [105,110,100,101,120] (aT C.ts q).line [] [a,i]) (F+1)):=by show _=_;rw[j.out,pD b]
       rw[b] at g;clear b j;go_wp2_with fail;refine g.mono ?_;rintro e w7 ⟨d,N⟩;obtain⟨rfl,ad⟩:=N
       have an:Hid (ON C E w r w2.heap.size pl k (.iface T6 (.agg ak)) w7):=
        ⟨ah.trans d,F+1,_,ad,s,au.grow (fun k h1 B=>d.block k B (by omega)) cL d.size,d.keepB ar (by omega)⟩
       clear d ad;go_wp2
       go_roundg k
       case measure=>omega
       case rel=>exact an
def ZH(t:cD):∀l:cN,l.find? (fun x=>t==x)=if t∈l then some t else none
 |[]=>by simp
 |y::l=>by
  rw[List.find?_cons];by_cases h:t=y
  ·subst h;simp
  ·rw[show (t==y)=false by simpa using h]
   simp only[ZH t l,cv_,h,false_or]
def Y5(t:cD)(h:jK.contains t=true):cJ t=9:=by
 unfold jK at h;simp only[List.contains_eq_mem,cv_,cD_,or_false,decide_eq_true_eq] at h;rcases h with rfl|rfl|rfl|rfl|rfl|rfl|rfl|rfl|rfl<;>decide
def zU{ts:List bB}{q:Nat}(h:pP (aT ts q))(k:Nat)(f:k≠9)(l:cN)(c:∀x,x∈l↔cJ x=k):
 oV ts q l=if (aT ts q).sort==112 && cJ (aT ts q).text==k then (aT ts q).text else []:=by
 unfold oV;by_cases b:(aT ts q).sort=112
 ·rw[show (fun x=>aY ts q x)=(fun x=>(aT ts q).text==x) by funext x;unfold aY;simp[b],ZH]
  by_cases a:cJ (aT ts q).text=k
  ·rw[if_pos ((c _).2 a)];simp[b,a]
  ·rw[if_neg (fun e=>a ((c _).1 e))];simp[a]
 ·rw[dy_.2]
  ·simp[b]
  ·intro x g e;unfold aY at e;simp only[cO_,dB_,beq_iff_eq] at e;rcases h with h|⟨h,d⟩|h|⟨h,_⟩|h|h
   ·exact b h
   ·have:=Y5 _ d;rw[e.2,(c x).1 g] at this;exact f this
   all_goals (rw[h] at e;rcases e.1 with e|e<;>omega)
def b8_(x:cD):x∈([[124,124]]:cN)↔cJ x=0:=by
 unfold cJ;simp only[cv_,cD_,or_false,beq_iff_eq,dB_];repeat' split
 all_goals simp_all
def b7_(x:cD):x∈([[38,38]]:cN)↔cJ x=1:=by
 unfold cJ;simp only[cv_,cD_,or_false,beq_iff_eq,dB_];repeat' split
 all_goals simp_all
def b6_(x:cD):x∈([[61,61],[33,61],[60],[60,61]]:cN)↔cJ x=2:=by
 unfold cJ;simp only[cv_,cD_,or_false,beq_iff_eq,dB_];repeat' split
 all_goals simp_all
def b5_(x:cD):x∈([[43],[45]]:cN)↔cJ x=3:=by
 constructor
 ·simp only[cv_,cD_,or_false];rintro(rfl|rfl)<;>decide
 ·unfold cJ;simp only[cv_,cD_,or_false,beq_iff_eq,dB_];repeat' split
  all_goals simp_all
def b4_(x:cD):x∈([[42],[47],[37]]:cN)↔cJ x=4:=by
 constructor
 ·simp only[cv_,cD_,or_false];rintro(rfl|rfl|rfl)<;>decide
 ·unfold cJ;simp only[cv_,cD_,or_false,beq_iff_eq,dB_];repeat' split
  all_goals simp_all
def QU(ts:List bB)(p:Nat):oV ts p [[45],[33]]=if aY ts p [45] then [45] else if aY ts p [33] then [33] else []:=by
 unfold oV;simp only[List.find?_cons,List.find?_nil];cases aY ts p [45]<;>cases aY ts p [33]<;>rfl
def KS(C:Ctx)(w:aG)(p:Nat)(h:PAt C w p)(l:cN)(q:l.length<=100)(a:∀x∈l,x≠[])(d:cD)(g:oV C.ts p l=d)(j:Nat)(f:j=w.heap.size)(n:Nat)(t:n=l.length)(cs:Array Value)(c:cs=(l.map fun x=>Value.string (bs x)).toArray):
 Calls prog 124 #[bH C.pb,.slice (some (aH j 0)) n n] (w.alloc (.cells cs 9)) fun e b=>e=aZ (.string (bs d))/\PAt C b (if d=[] then p else p+1)/\Fr C.pb w b:=by
 subst g f t;have k:=h.pb_lt;refine(KO C _ p l w.heap.size l.length (by simp) (by omega) q a ?_ (h.alloc _)).mono fun e b ⟨o,m,r⟩=>⟨o,m,((Fr.refl _ _).alloc _).trans r⟩
 intro i s;refine aA (aO _ _ rfl _) ?_;rw[c];simp[s]
def UE(C:Ctx)(E:Nat->cB aE)(HE:PReads C 55 E)(g:Nat)(ae:PReads C 199 (eV E C.ts g)):PReads C 199 (eV E C.ts (g+1)):=by
 intro w p h G;have ih:=aB ae;have aa:=aB (nQ C w p h);have an:=h.pb_lt;have ap:=h.g_lt;have ak:=aB (V9 C E HE);obtain⟨r,hr⟩:∃r,r=eV E C.ts (g+1) p:=⟨_,rfl⟩;rw[<-hr] at G ⊢
 rw[eV] at hr;have U:=aB hr;have P:=aB G;have H:=aB h;clear h HE G hr ae;generalize O:(aT C.ts p).line=I at*;have n:=aB (QU C.ts p);generalize Y:oV C.ts p [[45],[33]]=oo at*;have B:=aB Y;clear Y;go_enter func199,ntmps199;go_wp2_with fail;refine aa.out.mono ?_;rintro e w1 ⟨rfl,F⟩;have X:=aB ((Fr.below (pb:=C.pb) F).alloc (.cells #[.int .i64 I] 153));have ag:=aB ((H.out.below F).alloc (.cells #[.int .i64 I] 153));have ad:=aB (v7.new w1 I);have ao:=F.size;clear F aa;have HM:=aB (KS C _ p ag.out [[45],[33]] (by decide) (by intro x hx;simp at hx;rcases hx with rfl|rfl<;>simp) oo B.out (w1.heap.size+1) (by simp) 2 rfl #[.string ⟨#[45]⟩,.string ⟨#[33]⟩] rfl)
 generalize ac:(if oo=[] then p else p+1)=qo at*
 have s:=aB ac;clear ac;go_wp2_with fail;refine HM.out.mono ?_;rintro e w2 ⟨rfl,ab,N⟩;have L:=aB ab;have m:=aB (X.out.trans N);have o:=aB (N.keepB ad.out (by omega))
 have J:=m.out.size;clear ab N X ag ad;by_cases f:aY C.ts p [45]=true
 ·obtain rfl:oo=[45]:=by rw[n.out,if_pos f]
  obtain rfl:qo=p+1:=s.out.symm;obtain⟨D,d⟩:∃D,D=eV E C.ts g (p+1):=⟨_,rfl⟩;have c:Hid (r=cF (fun x=>aU [45,120] I [] [x]) D):=by show _=_;rw[U.out,if_pos f,d]
  have y:eV E C.ts g (p+1)≠.error 0:=fun e=>P.out (by rw[c.out,d,e];rfl)
  have z:=aB (ih.out w2.drew (p+1) L.out.drew y);rw[<-d] at z;clear y d U n B s HM f O;have c0:=aA o.out (i:=0) rfl;have al:=aC o.out;simp only[bs];cases D with
  |error l=>
   have Q:Hid (r=.error l):=c.out;go_wp2_with fail;go_region_law (refine thrown .nilIface ?_ ?_;(focus go_simp;go_at_call 199;refine z.out.mono ?_;rintro e w5 ⟨b,rfl⟩;exact cL_ rfl (Out.err Q.out (m.out.drew.trans b)));intro j)
   all_goals exact j.out.elim
  |ok V=>
   obtain⟨a,q⟩:=V;have Q:Hid (r=.ok (aU [45,120] I [] [a],q)):=c.out;go_wp2_with fail;go_region_law (go_simp;go_at_call 199;refine z.out.mono ?_;rintro e w5 ⟨b,v,v5,rfl,k⟩;obtain⟨T5,am,rfl⟩:=k.form;have M:=aB k;have S:=aB b;have K:=aB v;have u:=aB (((Fr.refl C.pb w2).drew.trans b).keepB o.out (by omega));have d0:=aA u.out (i:=0) rfl;have ai:=aC u.out;clear b v k)
   all_goals (go_wp2_with fail;go_ret)
   all_goals exact Out.ok Q.out (m.out.drew.trans S.out) K.out (PN.mk (ck_ (ck_ (ck_ (ck_ (ck_ (ck_ (ck_ (cl_ ⟨rfl,45,_,a,rfl,cl_ rfl,rfl,rfl,rfl⟩)))))))) (fun p hp=>by obtain rfl:=cs_.1 hp;exact Prt.ok.node (M.out.grow (fun _ _ _=>rfl) J (cy_ _))))
 by_cases t:aY C.ts p [33]=true
 ·obtain rfl:oo=[33]:=by rw[n.out,if_neg f,if_pos t]
  obtain rfl:qo=p+1:=s.out.symm;obtain⟨D,d⟩:∃D,D=eV E C.ts g (p+1):=⟨_,rfl⟩;have c:Hid (r=cF (fun x=>aU [33,120] I [] [x]) D):=by show _=_;rw[U.out,if_neg f,if_pos t,d]
  have y:eV E C.ts g (p+1)≠.error 0:=fun e=>P.out (by rw[c.out,d,e];rfl)
  have z:=aB (ih.out w2.drew (p+1) L.out.drew y);rw[<-d] at z;clear y d U n B s HM f t O;have c0:=aA o.out (i:=0) rfl;have al:=aC o.out;simp only[bs];cases D with
  |error l=>
   have Q:Hid (r=.error l):=c.out;go_wp2_with fail;go_region_law (refine thrown .nilIface ?_ ?_;(focus go_simp;go_at_call 199;refine z.out.mono ?_;rintro e w5 ⟨b,rfl⟩;exact cL_ rfl (Out.err Q.out (m.out.drew.trans b)));intro j)
   all_goals exact j.out.elim
  |ok V=>
   obtain⟨a,q⟩:=V;have Q:Hid (r=.ok (aU [33,120] I [] [a],q)):=c.out;go_wp2_with fail;go_region_law (go_simp;go_at_call 199;refine z.out.mono ?_;rintro e w5 ⟨b,v,v5,rfl,k⟩;obtain⟨T5,am,rfl⟩:=k.form;have M:=aB k;have S:=aB b;have K:=aB v;have u:=aB (((Fr.refl C.pb w2).drew.trans b).keepB o.out (by omega));have d0:=aA u.out (i:=0) rfl;have ai:=aC u.out;clear b v k)
   all_goals (go_wp2_with fail;go_ret)
   all_goals exact Out.ok Q.out (m.out.drew.trans S.out) K.out (PN.mk (ck_ (ck_ (ck_ (ck_ (ck_ (ck_ (ck_ (cl_ ⟨rfl,33,_,a,rfl,ck_ rfl,rfl,rfl,rfl⟩)))))))) (fun p hp=>by obtain rfl:=cs_.1 hp;exact Prt.ok.node (M.out.grow (fun _ _ _=>rfl) J (cy_ _))))
 obtain rfl:oo=[]:=by rw[n.out,if_neg f,if_neg t]
 obtain rfl:p=qo:=s.out;have c:Hid (r=bW (eH E C.ts p) (dK E C.ts (C.ts.length+1))):=by show _=_;rw[U.out,if_neg f,if_neg t]
 have z:=aB (ak.out w2 p L.out (by show bW _ _≠_;rw[<-c.out];exact P.out))
 simp only[<-c.out] at z;clear U n B s HM f t O;simp only[bs];go_wp2_with fail;refine z.out.mono ?_;rintro e w3 ⟨A,af⟩;cases r with
 |error l=>
  obtain rfl:e=cT 4 l:=af;have T:=aB (m.out.trans A);clear A;go_wp2_with fail;exact⟨rfl,Out.err rfl T.out⟩
 |ok V=>
  obtain⟨a,q⟩:=V;obtain⟨W,v3,rfl,Z⟩:=af;have T:=aB (m.out.trans A);have ah:=aB W;have aj:=aB Z;clear A W Z;go_wp2_with fail;go_ret;exact Out.ok rfl T.out ah.out (aj.out.grow (fun _ _ _=>rfl) J (cy_ _))
def ZZ(C:Ctx)(E:Nat->cB aE)(c:PReads C 55 E)(g:Nat):PReads C 199 (eV E C.ts g):=by
 induction g with
 |zero=>exact fun w p _ a=>absurd rfl a
 |succ g b=>exact UE C E c g b
end Go.Proofs.YtmjbnmpamlainaaGreatDoor
