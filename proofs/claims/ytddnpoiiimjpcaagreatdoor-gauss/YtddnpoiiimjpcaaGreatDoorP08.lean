/- Plain facts: a text's characters, as the library decodes and encodes them. -/
import Derived.Test.YtddnpoiiimjpcaaGreatDoorP02
import Derived.Test.YtddnpoiiimjpcaaGreatDoorP07
set_option linter.defProp false
set_option maxRecDepth 100000
set_option maxHeartbeats 4000000
namespace Go.Proofs.YtddnpoiiimjpcaaGreatDoor
open Hs
open _root_.Go.Proofs.Tryz
open Instr(typeAssert)
def XR(s:ByteArray)(k i lo b:Nat):dI (s.data.toList.drop k) i lo b=decide (i<s.size-k/\lo<=(s.get! (k+i)).toNat/\(s.get! (k+i)).toNat<=b):=by
 unfold dI;rw[ak_];by_cases h:k+i<s.size
 ·have e:s.data.toList[k+i]?=some s[k+i]:=by simp[h];rfl
  rw[e,nX s (k+i) h];have a:i<s.size-k:=by omega
  simp[a]
 ·have e:s.data.toList[k+i]?=none:=j8 (by simpa using (by omega:s.size<=k+i))
  rw[e];have a:¬i<s.size-k:=by omega
  simp[a]
def YS(s:ByteArray)(k:Nat)(h:k<s.size):bG (s.data.toList.drop k)=mX (s.size-k) (s.get! k).toNat (s.get! (k+1)).toNat (s.get! (k+2)).toNat (s.get! (k+3)).toNat:=by
 unfold bG mX;have e:(s.data.toList.drop k)[0]?=some s[k]:=by rw[ak_];simp[h];rfl
 rw[e,<-nX s k h];simp only[XR,j3,decide_eq_true_eq]
def BX(r:Nat):cE:=(Utf8.encode (Int.ofNat r)).data.toList
def zB(r:Nat)(h:r<55296\/(57344<=r/\r<=1114111)):BX r=if r<128 then [UInt8.ofNat r] else if r<2048 then [UInt8.ofNat (192+r/64),UInt8.ofNat (128+r%64)] else if r<65536 then [UInt8.ofNat (224+r/4096),UInt8.ofNat (128+r/64%64),UInt8.ofNat (128+r%64)]
 else [UInt8.ofNat (240+r/262144),UInt8.ofNat (128+r/4096%64),UInt8.ofNat (128+r/64%64),UInt8.ofNat (128+r%64)]:=by
 have a:Utf8.valid (Int.ofNat r)=true:=by
  unfold Utf8.valid;simp only[ae_,j3,decide_eq_true_eq,Int.ofNat_eq_natCast];omega
 have b:(if Utf8.valid (Int.ofNat r) then (Int.ofNat r).toNat else Utf8.runeError)=r:=by rw[if_pos a];rfl
 unfold BX Utf8.encode;simp only[b];repeat' split
 all_goals rfl
def O4(n a b c f:Nat)(y:a<256)(d:mX n a b c f≠0):
 (Lib.decodeN n a b c f).2=mX n a b c f/\(Lib.decodeN n a b c f).1<=1114111/\BX (Lib.decodeN n a b c f).1=([a,b,c,f].take (mX n a b c f)).map UInt8.ofNat:=by
 have s:a/32=6↔192<=a/\a<=223:=by omega
 have u:a/16=14↔224<=a/\a<=239:=by omega
 have v:a/8=30↔240<=a/\a<=247:=by omega
 unfold mX at d ⊢
 unfold Lib.decodeN;by_cases m:a<128
 ·simp only[if_pos m];refine⟨trivial,by omega,?_⟩
  rw[zB _ (by omega),if_pos m];rfl
 simp only[if_neg m] at d ⊢
 by_cases t:194<=a/\a<=223
 ·rw[if_pos t] at d ⊢
  by_cases l:1<n/\128<=b/\b<=191
  ·rw[if_pos l] at d ⊢
   rw[if_pos ⟨s.2 (by omega),l.1,by omega⟩,if_pos (by omega)]
   refine⟨rfl,by omega,?_⟩
   rw[zB _ (by omega),if_neg (by omega),if_pos (by omega)]
   simp only[v8,List.take_zero,b9,m7];rw[show 192+(a%32*64+b%64)/64=a by omega,show 128+(a%32*64+b%64)%64=b by omega]
  ·rw[if_neg l] at d;exact absurd rfl d
 rw[if_neg t] at d ⊢
 by_cases j:224<=a/\a<=239
 ·rw[if_pos j] at d ⊢
  by_cases i:(1<n/\(if a=224 then 160 else 128)<=b/\b<=(if a=237 then 159 else 191))/\(2<n/\128<=c/\c<=191)
  ·rw[if_pos i] at d ⊢
   have w:128<=b:=by have:=i.1.2.1;split at this<;>omega
   have x:b<=191:=by have:=i.1.2.2;split at this<;>omega
   have o:a=224->160<=b:=fun e=>by have:=i.1.2.1;rw[if_pos e] at this;exact this
   have p:a=237->b<=159:=fun e=>by have:=i.1.2.2;rw[if_pos e] at this;exact this
   rw[if_neg (fun h=>by have:=s.1 h.1;omega),if_pos ⟨u.2 j,⟨i.1.1,by omega⟩,i.2.1,by omega⟩]
   have q:2048<=a%16*4096+b%64*64+c%64:=by
    rcases p9 j.1 with e|e
    ·have:=o e.symm;omega
    ·omega
   have r:a%16*4096+b%64*64+c%64<55296\/(57344<=a%16*4096+b%64*64+c%64/\a%16*4096+b%64*64+c%64<=1114111):=by
    by_cases e:a=237
    ·have:=p e;omega
    ·omega
   rw[if_pos ⟨q,by omega⟩]
   refine⟨rfl,by omega,?_⟩
   rw[zB _ r,if_neg (by omega),if_neg (by omega),if_pos (by omega)]
   simp only[v8,List.take_zero,b9,m7];rw[show 224+(a%16*4096+b%64*64+c%64)/4096=a by omega,show 128+(a%16*4096+b%64*64+c%64)/64%64=b by omega,show 128+(a%16*4096+b%64*64+c%64)%64=c by omega]
  ·rw[if_neg i] at d;exact absurd rfl d
 rw[if_neg j] at d ⊢
 by_cases k:240<=a/\a<=244
 ·rw[if_pos k] at d ⊢
  by_cases g:((1<n/\(if a=240 then 144 else 128)<=b/\b<=(if a=244 then 143 else 191))/\(2<n/\128<=c/\c<=191))/\(3<n/\128<=f/\f<=191)
  ·rw[if_pos g] at d ⊢
   have w:128<=b:=by have:=g.1.1.2.1;split at this<;>omega
   have x:b<=191:=by have:=g.1.1.2.2;split at this<;>omega
   have o:a=240->144<=b:=fun e=>by have:=g.1.1.2.1;rw[if_pos e] at this;exact this
   have p:a=244->b<=143:=fun e=>by have:=g.1.1.2.2;rw[if_pos e] at this;exact this
   rw[if_neg (fun h=>by have:=s.1 h.1;omega),if_neg (fun h=>by have:=u.1 h.1;omega),if_pos ⟨v.2 (by omega),⟨g.1.1.1,by omega⟩,⟨g.1.2.1,by omega⟩,g.2.1,by omega⟩]
   have q:65536<=a%8*262144+b%64*4096+c%64*64+f%64:=by
    rcases p9 k.1 with e|e
    ·have:=o e.symm;omega
    ·omega
   have r:a%8*262144+b%64*4096+c%64*64+f%64<=1114111:=by
    rcases p9 k.2 with e|e
    ·have:=p e;omega
    ·omega
   rw[if_pos ⟨q,by omega⟩]
   refine⟨rfl,r,?_⟩;rw[zB _ (by omega),if_neg (by omega),if_neg (by omega),if_neg (by omega)]
   simp only[v8,List.take_zero,b9,m7];rw[show 240+(a%8*262144+b%64*4096+c%64*64+f%64)/262144=a by omega,show 128+(a%8*262144+b%64*4096+c%64*64+f%64)/4096%64=b by omega,show 128+(a%8*262144+b%64*4096+c%64*64+f%64)/64%64=c by omega,show 128+(a%8*262144+b%64*4096+c%64*64+f%64)%64=f by omega]
  ·rw[if_neg g] at d;exact absurd rfl d
 ·rw[if_neg k] at d;exact absurd rfl d
def OP(s:ByteArray)(k:Nat)(h:k<s.size)(f:bG (s.data.toList.drop k)≠0):
 (Utf8.decode s k).2=bG (s.data.toList.drop k)/\(Utf8.decode s k).1<=1114111/\BX (Utf8.decode s k).1=(s.data.toList.drop k).take (bG (s.data.toList.drop k)):=by
 have d:= @kB (s.data.toList.drop k);rw[YS s k h] at f d ⊢
 obtain⟨l,n,m⟩:=O4 (s.size-k) (s.get! k).toNat (s.get! (k+1)).toNat (s.get! (k+2)).toNat (s.get! (k+3)).toNat (ah_ _) f;rw[Lib.decode_at];refine⟨l,n,m.trans ?_⟩;generalize g:mX (s.size-k) (s.get! k).toNat (s.get! (k+1)).toNat (s.get! (k+2)).toNat (s.get! (k+3)).toNat=c at*
 have p:c<=4:=by rw[<-g];unfold mX;repeat' split
                 all_goals omega
 have o:(s.data.toList.drop k).length=s.size-k:=by simp
 refine List.ext_getElem? fun i=>?_
 rw[aa_,i8,i8];by_cases a:i<c
 ·rw[if_pos a,if_pos a,ak_];have b:k+i<s.size:=by omega
  have e:s.data.toList[k+i]?=some (s.get! (k+i)):=by rw[nX s (k+i) b];simp[b];rfl
  rw[e];match i,a with
  |0,_=>simp
  |1,_=>simp
  |2,_=>simp
  |3,_=>simp
  |j+4,a=>omega
 ·rw[if_neg a,if_neg a];rfl
def xD(s:ByteArray):∀(f k:Nat),s.size-k<=f->cV (s.data.toList.drop k)->Lib.runeCountFrom s f k=(dZ (s.data.toList.drop k)).length
 |0,k,d,_=>by
  rw[dW (Y4 (o8 (by simp;omega)))];rfl
 |f+1,k,d,i=>by
  unfold Lib.runeCountFrom;by_cases h:k<s.size
  ·have a:s.data.toList.drop k≠[]:=fun e=>by have:=congrArg List.length e;simp at this;omega
   obtain⟨c,b⟩:=i.ne a;obtain⟨g,_,_⟩:=OP s k h c;rw[if_pos h,g,iD a c,Y9];rw[ab_] at b ⊢
   rw[xD s f (k+bG (s.data.toList.drop k)) (by omega) b]
   omega
  ·rw[if_neg h,dW (Y4 (o8 (by simp;omega)))];rfl
def wR(s:ByteArray):∀(f k:Nat) (acc:Array Value),s.size-k<=f->cV (s.data.toList.drop k)->
 ∃b:List Nat,Conv.runesFrom s f k acc=acc++(b.map fun r=>Value.int .i32 (Int.ofNat r)).toArray/\b.length=(dZ (s.data.toList.drop k)).length/\(∀r∈b,r<=1114111)/\b.map BX=dZ (s.data.toList.drop k)
 |0,k,acc,n,_=>⟨[],by simp[Conv.runesFrom],by
    rw[dW (Y4 (o8 (by simp;omega)))];rfl,by simp,by
    rw[dW (Y4 (o8 (by simp;omega)))];rfl⟩
 |f+1,k,acc,n,i=>by
  by_cases h:k<s.size
  ·have a:s.data.toList.drop k≠[]:=fun e=>by have:=congrArg List.length e;simp at this;omega
   obtain⟨c,g⟩:=i.ne a;obtain⟨p,m,q⟩:=OP s k h c;rw[ab_] at g;obtain⟨b,j,t,l,o⟩:=wR s f (k+bG (s.data.toList.drop k)) (acc.push (.int .i32 (Int.ofNat (Utf8.decode s k).1))) (by omega) g
   refine⟨(Utf8.decode s k).1::b,?_,?_,?_,?_⟩
   ·unfold Conv.runesFrom;rw[if_pos h];simp only[p];rw[j];simp
   ·rw[iD a c,Y9,Y9,ab_,t]
   ·intro r d;rcases Z6.1 d with rfl|d
    ·exact m
    ·exact l r d
   ·rw[iD a c,b9,ab_,o,q]
  ·refine⟨[],?_,?_,by simp,?_⟩
   ·unfold Conv.runesFrom;rw[if_neg h];simp
   all_goals rw[dW (Y4 (o8 (by simp;omega)))];rfl
open Go.RowKit
def sQ(v:aQ)(w:aH):(typeAssert (.iface 210 v) 74 210 true).run prog w=.ok (.tuple #[v,.bool true]) w:=by kernel_rfl
def tT(v:aQ)(w:aH):(typeAssert (.iface 213 v) 74 210 true).run prog w=.ok (.tuple #[.agg #[Iv0 0,Iv0 0,.string ⟨#[]⟩,.nilIface],.bool false]) w:=by kernel_rfl
def vG(v:aQ)(w:aH):(typeAssert (.iface 213 v) 74 213 true).run prog w=.ok (.tuple #[v,.bool true]) w:=by kernel_rfl
def rQ(v:aQ)(w:aH):(typeAssert (.iface 217 v) 74 210 true).run prog w=.ok (.tuple #[.agg #[Iv0 0,Iv0 0,.string ⟨#[]⟩,.nilIface],.bool false]) w:=by kernel_rfl
def tR(v:aQ)(w:aH):(typeAssert (.iface 217 v) 74 213 true).run prog w=.ok (.tuple #[.agg #[Iv0 0,.string ⟨#[]⟩,bV,.nilIface],.bool false]) w:=by kernel_rfl
def LH(v:aQ)(w:aH):(typeAssert (.iface 217 v) 74 217 true).run prog w=.ok (.tuple #[v,.bool true]) w:=by kernel_rfl
def uQ(v:aQ)(w:aH):(typeAssert (.iface 219 v) 74 210 true).run prog w=.ok (.tuple #[.agg #[Iv0 0,Iv0 0,.string ⟨#[]⟩,.nilIface],.bool false]) w:=by kernel_rfl
def xJ(v:aQ)(w:aH):(typeAssert (.iface 219 v) 74 213 true).run prog w=.ok (.tuple #[.agg #[Iv0 0,.string ⟨#[]⟩,bV,.nilIface],.bool false]) w:=by kernel_rfl
def LD(v:aQ)(w:aH):(typeAssert (.iface 219 v) 74 217 true).run prog w=.ok (.tuple #[.agg #[Iv0 0,.nilIface,bV,bV],.bool false]) w:=by kernel_rfl
def zM(v:aQ)(w:aH):(typeAssert (.iface 219 v) 74 219 true).run prog w=.ok (.tuple #[v,.bool true]) w:=by kernel_rfl
def nD(v:aQ)(w:aH):(typeAssert (.iface 221 v) 74 210 true).run prog w=.ok (.tuple #[.agg #[Iv0 0,Iv0 0,.string ⟨#[]⟩,.nilIface],.bool false]) w:=by kernel_rfl
def nS(v:aQ)(w:aH):(typeAssert (.iface 221 v) 74 213 true).run prog w=.ok (.tuple #[.agg #[Iv0 0,.string ⟨#[]⟩,bV,.nilIface],.bool false]) w:=by kernel_rfl
def tO(v:aQ)(w:aH):(typeAssert (.iface 221 v) 74 217 true).run prog w=.ok (.tuple #[.agg #[Iv0 0,.nilIface,bV,bV],.bool false]) w:=by kernel_rfl
def oW(v:aQ)(w:aH):(typeAssert (.iface 221 v) 74 219 true).run prog w=.ok (.tuple #[.agg #[Iv0 0,.nilIface,bV],.bool false]) w:=by kernel_rfl
def nR(v:aQ)(w:aH):(typeAssert (.iface 221 v) 74 221 true).run prog w=.ok (.tuple #[v,.bool true]) w:=by kernel_rfl
def uW(v:aQ)(w:aH):(typeAssert (.iface 222 v) 74 210 true).run prog w=.ok (.tuple #[.agg #[Iv0 0,Iv0 0,.string ⟨#[]⟩,.nilIface],.bool false]) w:=by kernel_rfl
def xR(v:aQ)(w:aH):(typeAssert (.iface 222 v) 74 213 true).run prog w=.ok (.tuple #[.agg #[Iv0 0,.string ⟨#[]⟩,bV,.nilIface],.bool false]) w:=by kernel_rfl
def LF(v:aQ)(w:aH):(typeAssert (.iface 222 v) 74 217 true).run prog w=.ok (.tuple #[.agg #[Iv0 0,.nilIface,bV,bV],.bool false]) w:=by kernel_rfl
def zU(v:aQ)(w:aH):(typeAssert (.iface 222 v) 74 219 true).run prog w=.ok (.tuple #[.agg #[Iv0 0,.nilIface,bV],.bool false]) w:=by kernel_rfl
def xQ(v:aQ)(w:aH):(typeAssert (.iface 222 v) 74 221 true).run prog w=.ok (.tuple #[.agg #[Iv0 0,.nilIface],.bool false]) w:=by kernel_rfl
def zV(v:aQ)(w:aH):(typeAssert (.iface 222 v) 74 222 true).run prog w=.ok (.tuple #[v,.bool true]) w:=by kernel_rfl
def xZ(v:aQ)(w:aH):(typeAssert (.iface 224 v) 74 210 true).run prog w=.ok (.tuple #[.agg #[Iv0 0,Iv0 0,.string ⟨#[]⟩,.nilIface],.bool false]) w:=by kernel_rfl
def AE(v:aQ)(w:aH):(typeAssert (.iface 224 v) 74 213 true).run prog w=.ok (.tuple #[.agg #[Iv0 0,.string ⟨#[]⟩,bV,.nilIface],.bool false]) w:=by kernel_rfl
def PZ(v:aQ)(w:aH):(typeAssert (.iface 224 v) 74 217 true).run prog w=.ok (.tuple #[.agg #[Iv0 0,.nilIface,bV,bV],.bool false]) w:=by kernel_rfl
def DK(v:aQ)(w:aH):(typeAssert (.iface 224 v) 74 219 true).run prog w=.ok (.tuple #[.agg #[Iv0 0,.nilIface,bV],.bool false]) w:=by kernel_rfl
def AD(v:aQ)(w:aH):(typeAssert (.iface 224 v) 74 221 true).run prog w=.ok (.tuple #[.agg #[Iv0 0,.nilIface],.bool false]) w:=by kernel_rfl
def DL(v:aQ)(w:aH):(typeAssert (.iface 224 v) 74 222 true).run prog w=.ok (.tuple #[.agg #[Iv0 0,.nilIface],.bool false]) w:=by kernel_rfl
def IB(v:aQ)(w:aH):(typeAssert (.iface 224 v) 74 224 true).run prog w=.ok (.tuple #[v,.bool true]) w:=by kernel_rfl
def rL(v:aQ)(w:aH):(typeAssert (.iface 227 v) 74 210 true).run prog w=.ok (.tuple #[.agg #[Iv0 0,Iv0 0,.string ⟨#[]⟩,.nilIface],.bool false]) w:=by kernel_rfl
def sN(v:aQ)(w:aH):(typeAssert (.iface 227 v) 74 213 true).run prog w=.ok (.tuple #[.agg #[Iv0 0,.string ⟨#[]⟩,bV,.nilIface],.bool false]) w:=by kernel_rfl
def zN(v:aQ)(w:aH):(typeAssert (.iface 227 v) 74 217 true).run prog w=.ok (.tuple #[.agg #[Iv0 0,.nilIface,bV,bV],.bool false]) w:=by kernel_rfl
def tK(v:aQ)(w:aH):(typeAssert (.iface 227 v) 74 219 true).run prog w=.ok (.tuple #[.agg #[Iv0 0,.nilIface,bV],.bool false]) w:=by kernel_rfl
def sM(v:aQ)(w:aH):(typeAssert (.iface 227 v) 74 221 true).run prog w=.ok (.tuple #[.agg #[Iv0 0,.nilIface],.bool false]) w:=by kernel_rfl
def tL(v:aQ)(w:aH):(typeAssert (.iface 227 v) 74 222 true).run prog w=.ok (.tuple #[.agg #[Iv0 0,.nilIface],.bool false]) w:=by kernel_rfl
def uR(v:aQ)(w:aH):(typeAssert (.iface 227 v) 74 224 true).run prog w=.ok (.tuple #[.agg #[Iv0 0,.string ⟨#[]⟩,bV],.bool false]) w:=by kernel_rfl
def pJ(v:aQ)(w:aH):(typeAssert (.iface 227 v) 74 227 true).run prog w=.ok (.tuple #[v,.bool true]) w:=by kernel_rfl
def xW(v:aQ)(w:aH):(typeAssert (.iface 229 v) 74 210 true).run prog w=.ok (.tuple #[.agg #[Iv0 0,Iv0 0,.string ⟨#[]⟩,.nilIface],.bool false]) w:=by kernel_rfl
def zZ(v:aQ)(w:aH):(typeAssert (.iface 229 v) 74 213 true).run prog w=.ok (.tuple #[.agg #[Iv0 0,.string ⟨#[]⟩,bV,.nilIface],.bool false]) w:=by kernel_rfl
def PY(v:aQ)(w:aH):(typeAssert (.iface 229 v) 74 217 true).run prog w=.ok (.tuple #[.agg #[Iv0 0,.nilIface,bV,bV],.bool false]) w:=by kernel_rfl
def DG(v:aQ)(w:aH):(typeAssert (.iface 229 v) 74 219 true).run prog w=.ok (.tuple #[.agg #[Iv0 0,.nilIface,bV],.bool false]) w:=by kernel_rfl
def zY(v:aQ)(w:aH):(typeAssert (.iface 229 v) 74 221 true).run prog w=.ok (.tuple #[.agg #[Iv0 0,.nilIface],.bool false]) w:=by kernel_rfl
def DH(v:aQ)(w:aH):(typeAssert (.iface 229 v) 74 222 true).run prog w=.ok (.tuple #[.agg #[Iv0 0,.nilIface],.bool false]) w:=by kernel_rfl
def IA(v:aQ)(w:aH):(typeAssert (.iface 229 v) 74 224 true).run prog w=.ok (.tuple #[.agg #[Iv0 0,.string ⟨#[]⟩,bV],.bool false]) w:=by kernel_rfl
def vA(v:aQ)(w:aH):(typeAssert (.iface 229 v) 74 227 true).run prog w=.ok (.tuple #[.agg #[Iv0 0,.string ⟨#[]⟩],.bool false]) w:=by kernel_rfl
def GZ(v:aQ)(w:aH):(typeAssert (.iface 229 v) 74 229 true).run prog w=.ok (.tuple #[v,.bool true]) w:=by kernel_rfl
def vB(v:aQ)(w:aH):(typeAssert (.iface 231 v) 74 210 true).run prog w=.ok (.tuple #[.agg #[Iv0 0,Iv0 0,.string ⟨#[]⟩,.nilIface],.bool false]) w:=by kernel_rfl
def xY(v:aQ)(w:aH):(typeAssert (.iface 231 v) 74 213 true).run prog w=.ok (.tuple #[.agg #[Iv0 0,.string ⟨#[]⟩,bV,.nilIface],.bool false]) w:=by kernel_rfl
def LG(v:aQ)(w:aH):(typeAssert (.iface 231 v) 74 217 true).run prog w=.ok (.tuple #[.agg #[Iv0 0,.nilIface,bV,bV],.bool false]) w:=by kernel_rfl
def AA(v:aQ)(w:aH):(typeAssert (.iface 231 v) 74 219 true).run prog w=.ok (.tuple #[.agg #[Iv0 0,.nilIface,bV],.bool false]) w:=by kernel_rfl
def xX(v:aQ)(w:aH):(typeAssert (.iface 231 v) 74 221 true).run prog w=.ok (.tuple #[.agg #[Iv0 0,.nilIface],.bool false]) w:=by kernel_rfl
def AB(v:aQ)(w:aH):(typeAssert (.iface 231 v) 74 222 true).run prog w=.ok (.tuple #[.agg #[Iv0 0,.nilIface],.bool false]) w:=by kernel_rfl
def DJ(v:aQ)(w:aH):(typeAssert (.iface 231 v) 74 224 true).run prog w=.ok (.tuple #[.agg #[Iv0 0,.string ⟨#[]⟩,bV],.bool false]) w:=by kernel_rfl
def tQ(v:aQ)(w:aH):(typeAssert (.iface 231 v) 74 227 true).run prog w=.ok (.tuple #[.agg #[Iv0 0,.string ⟨#[]⟩],.bool false]) w:=by kernel_rfl
def DI(v:aQ)(w:aH):(typeAssert (.iface 231 v) 74 229 true).run prog w=.ok (.tuple #[.agg #[Iv0 0,bV],.bool false]) w:=by kernel_rfl
def AC(v:aQ)(w:aH):(typeAssert (.iface 231 v) 74 231 true).run prog w=.ok (.tuple #[v,.bool true]) w:=by kernel_rfl
def uS(v:aQ)(w:aH):(typeAssert (.iface 233 v) 74 210 true).run prog w=.ok (.tuple #[.agg #[Iv0 0,Iv0 0,.string ⟨#[]⟩,.nilIface],.bool false]) w:=by kernel_rfl
def xL(v:aQ)(w:aH):(typeAssert (.iface 233 v) 74 213 true).run prog w=.ok (.tuple #[.agg #[Iv0 0,.string ⟨#[]⟩,bV,.nilIface],.bool false]) w:=by kernel_rfl
def LE(v:aQ)(w:aH):(typeAssert (.iface 233 v) 74 217 true).run prog w=.ok (.tuple #[.agg #[Iv0 0,.nilIface,bV,bV],.bool false]) w:=by kernel_rfl
def zO(v:aQ)(w:aH):(typeAssert (.iface 233 v) 74 219 true).run prog w=.ok (.tuple #[.agg #[Iv0 0,.nilIface,bV],.bool false]) w:=by kernel_rfl
def xK(v:aQ)(w:aH):(typeAssert (.iface 233 v) 74 221 true).run prog w=.ok (.tuple #[.agg #[Iv0 0,.nilIface],.bool false]) w:=by kernel_rfl
def zQ(v:aQ)(w:aH):(typeAssert (.iface 233 v) 74 222 true).run prog w=.ok (.tuple #[.agg #[Iv0 0,.nilIface],.bool false]) w:=by kernel_rfl
def DF(v:aQ)(w:aH):(typeAssert (.iface 233 v) 74 224 true).run prog w=.ok (.tuple #[.agg #[Iv0 0,.string ⟨#[]⟩,bV],.bool false]) w:=by kernel_rfl
def tM(v:aQ)(w:aH):(typeAssert (.iface 233 v) 74 227 true).run prog w=.ok (.tuple #[.agg #[Iv0 0,.string ⟨#[]⟩],.bool false]) w:=by kernel_rfl
def DE(v:aQ)(w:aH):(typeAssert (.iface 233 v) 74 229 true).run prog w=.ok (.tuple #[.agg #[Iv0 0,bV],.bool false]) w:=by kernel_rfl
def zR(v:aQ)(w:aH):(typeAssert (.iface 233 v) 74 231 true).run prog w=.ok (.tuple #[.agg #[Iv0 0,.nilIface,.nilIface],.bool false]) w:=by kernel_rfl
def zP(v:aQ)(w:aH):(typeAssert (.iface 233 v) 74 233 true).run prog w=.ok (.tuple #[v,.bool true]) w:=by kernel_rfl
def tS(v:aQ)(w:aH):(typeAssert (.iface 235 v) 74 210 true).run prog w=.ok (.tuple #[.agg #[Iv0 0,Iv0 0,.string ⟨#[]⟩,.nilIface],.bool false]) w:=by kernel_rfl
def vF(v:aQ)(w:aH):(typeAssert (.iface 235 v) 74 213 true).run prog w=.ok (.tuple #[.agg #[Iv0 0,.string ⟨#[]⟩,bV,.nilIface],.bool false]) w:=by kernel_rfl
def IE(v:aQ)(w:aH):(typeAssert (.iface 235 v) 74 217 true).run prog w=.ok (.tuple #[.agg #[Iv0 0,.nilIface,bV,bV],.bool false]) w:=by kernel_rfl
def yB(v:aQ)(w:aH):(typeAssert (.iface 235 v) 74 219 true).run prog w=.ok (.tuple #[.agg #[Iv0 0,.nilIface,bV],.bool false]) w:=by kernel_rfl
def vD(v:aQ)(w:aH):(typeAssert (.iface 235 v) 74 221 true).run prog w=.ok (.tuple #[.agg #[Iv0 0,.nilIface],.bool false]) w:=by kernel_rfl
def yD(v:aQ)(w:aH):(typeAssert (.iface 235 v) 74 222 true).run prog w=.ok (.tuple #[.agg #[Iv0 0,.nilIface],.bool false]) w:=by kernel_rfl
def AJ(v:aQ)(w:aH):(typeAssert (.iface 235 v) 74 224 true).run prog w=.ok (.tuple #[.agg #[Iv0 0,.string ⟨#[]⟩,bV],.bool false]) w:=by kernel_rfl
def sR(v:aQ)(w:aH):(typeAssert (.iface 235 v) 74 227 true).run prog w=.ok (.tuple #[.agg #[Iv0 0,.string ⟨#[]⟩],.bool false]) w:=by kernel_rfl
def AI(v:aQ)(w:aH):(typeAssert (.iface 235 v) 74 229 true).run prog w=.ok (.tuple #[.agg #[Iv0 0,bV],.bool false]) w:=by kernel_rfl
def yE(v:aQ)(w:aH):(typeAssert (.iface 235 v) 74 231 true).run prog w=.ok (.tuple #[.agg #[Iv0 0,.nilIface,.nilIface],.bool false]) w:=by kernel_rfl
def yC(v:aQ)(w:aH):(typeAssert (.iface 235 v) 74 233 true).run prog w=.ok (.tuple #[.agg #[Iv0 0,.string ⟨#[]⟩,.nilIface],.bool false]) w:=by kernel_rfl
def vE(v:aQ)(w:aH):(typeAssert (.iface 235 v) 74 235 true).run prog w=.ok (.tuple #[v,.bool true]) w:=by kernel_rfl
def tP(v:aQ)(w:aH):(typeAssert (.iface 279 v) 74 210 true).run prog w=.ok (.tuple #[.agg #[Iv0 0,Iv0 0,.string ⟨#[]⟩,.nilIface],.bool false]) w:=by kernel_rfl
def uZ(v:aQ)(w:aH):(typeAssert (.iface 279 v) 74 213 true).run prog w=.ok (.tuple #[.agg #[Iv0 0,.string ⟨#[]⟩,bV,.nilIface],.bool false]) w:=by kernel_rfl
def GY(v:aQ)(w:aH):(typeAssert (.iface 279 v) 74 217 true).run prog w=.ok (.tuple #[.agg #[Iv0 0,.nilIface,bV,bV],.bool false]) w:=by kernel_rfl
def xS(v:aQ)(w:aH):(typeAssert (.iface 279 v) 74 219 true).run prog w=.ok (.tuple #[.agg #[Iv0 0,.nilIface,bV],.bool false]) w:=by kernel_rfl
def uX(v:aQ)(w:aH):(typeAssert (.iface 279 v) 74 221 true).run prog w=.ok (.tuple #[.agg #[Iv0 0,.nilIface],.bool false]) w:=by kernel_rfl
def xU(v:aQ)(w:aH):(typeAssert (.iface 279 v) 74 222 true).run prog w=.ok (.tuple #[.agg #[Iv0 0,.nilIface],.bool false]) w:=by kernel_rfl
def zX(v:aQ)(w:aH):(typeAssert (.iface 279 v) 74 224 true).run prog w=.ok (.tuple #[.agg #[Iv0 0,.string ⟨#[]⟩,bV],.bool false]) w:=by kernel_rfl
def sP(v:aQ)(w:aH):(typeAssert (.iface 279 v) 74 227 true).run prog w=.ok (.tuple #[.agg #[Iv0 0,.string ⟨#[]⟩],.bool false]) w:=by kernel_rfl
def zW(v:aQ)(w:aH):(typeAssert (.iface 279 v) 74 229 true).run prog w=.ok (.tuple #[.agg #[Iv0 0,bV],.bool false]) w:=by kernel_rfl
def xV(v:aQ)(w:aH):(typeAssert (.iface 279 v) 74 231 true).run prog w=.ok (.tuple #[.agg #[Iv0 0,.nilIface,.nilIface],.bool false]) w:=by kernel_rfl
def xT(v:aQ)(w:aH):(typeAssert (.iface 279 v) 74 233 true).run prog w=.ok (.tuple #[.agg #[Iv0 0,.string ⟨#[]⟩,.nilIface],.bool false]) w:=by kernel_rfl
def uY(v:aQ)(w:aH):(typeAssert (.iface 279 v) 74 235 true).run prog w=.ok (.tuple #[.agg #[Iv0 0,.string ⟨#[]⟩,.nilIface,.nilIface],.bool false]) w:=by kernel_rfl
def tN(v:aQ)(w:aH):(typeAssert (.iface 280 v) 74 210 true).run prog w=.ok (.tuple #[.agg #[Iv0 0,Iv0 0,.string ⟨#[]⟩,.nilIface],.bool false]) w:=by kernel_rfl
def uV(v:aQ)(w:aH):(typeAssert (.iface 280 v) 74 213 true).run prog w=.ok (.tuple #[.agg #[Iv0 0,.string ⟨#[]⟩,bV,.nilIface],.bool false]) w:=by kernel_rfl
def GX(v:aQ)(w:aH):(typeAssert (.iface 280 v) 74 217 true).run prog w=.ok (.tuple #[.agg #[Iv0 0,.nilIface,bV,bV],.bool false]) w:=by kernel_rfl
def xM(v:aQ)(w:aH):(typeAssert (.iface 280 v) 74 219 true).run prog w=.ok (.tuple #[.agg #[Iv0 0,.nilIface,bV],.bool false]) w:=by kernel_rfl
def uT(v:aQ)(w:aH):(typeAssert (.iface 280 v) 74 221 true).run prog w=.ok (.tuple #[.agg #[Iv0 0,.nilIface],.bool false]) w:=by kernel_rfl
def xO(v:aQ)(w:aH):(typeAssert (.iface 280 v) 74 222 true).run prog w=.ok (.tuple #[.agg #[Iv0 0,.nilIface],.bool false]) w:=by kernel_rfl
def zT(v:aQ)(w:aH):(typeAssert (.iface 280 v) 74 224 true).run prog w=.ok (.tuple #[.agg #[Iv0 0,.string ⟨#[]⟩,bV],.bool false]) w:=by kernel_rfl
def sO(v:aQ)(w:aH):(typeAssert (.iface 280 v) 74 227 true).run prog w=.ok (.tuple #[.agg #[Iv0 0,.string ⟨#[]⟩],.bool false]) w:=by kernel_rfl
def zS(v:aQ)(w:aH):(typeAssert (.iface 280 v) 74 229 true).run prog w=.ok (.tuple #[.agg #[Iv0 0,bV],.bool false]) w:=by kernel_rfl
def xP(v:aQ)(w:aH):(typeAssert (.iface 280 v) 74 231 true).run prog w=.ok (.tuple #[.agg #[Iv0 0,.nilIface,.nilIface],.bool false]) w:=by kernel_rfl
def xN(v:aQ)(w:aH):(typeAssert (.iface 280 v) 74 233 true).run prog w=.ok (.tuple #[.agg #[Iv0 0,.string ⟨#[]⟩,.nilIface],.bool false]) w:=by kernel_rfl
def uU(v:aQ)(w:aH):(typeAssert (.iface 280 v) 74 235 true).run prog w=.ok (.tuple #[.agg #[Iv0 0,.string ⟨#[]⟩,.nilIface,.nilIface],.bool false]) w:=by kernel_rfl
def yA(v:aQ)(w:aH):(typeAssert (.iface 282 v) 74 210 true).run prog w=.ok (.tuple #[.agg #[Iv0 0,Iv0 0,.string ⟨#[]⟩,.nilIface],.bool false]) w:=by kernel_rfl
def AH(v:aQ)(w:aH):(typeAssert (.iface 282 v) 74 213 true).run prog w=.ok (.tuple #[.agg #[Iv0 0,.string ⟨#[]⟩,bV,.nilIface],.bool false]) w:=by kernel_rfl
def QA(v:aQ)(w:aH):(typeAssert (.iface 282 v) 74 217 true).run prog w=.ok (.tuple #[.agg #[Iv0 0,.nilIface,bV,bV],.bool false]) w:=by kernel_rfl
def DM(v:aQ)(w:aH):(typeAssert (.iface 282 v) 74 219 true).run prog w=.ok (.tuple #[.agg #[Iv0 0,.nilIface,bV],.bool false]) w:=by kernel_rfl
def AF(v:aQ)(w:aH):(typeAssert (.iface 282 v) 74 221 true).run prog w=.ok (.tuple #[.agg #[Iv0 0,.nilIface],.bool false]) w:=by kernel_rfl
def DO(v:aQ)(w:aH):(typeAssert (.iface 282 v) 74 222 true).run prog w=.ok (.tuple #[.agg #[Iv0 0,.nilIface],.bool false]) w:=by kernel_rfl
def ID(v:aQ)(w:aH):(typeAssert (.iface 282 v) 74 224 true).run prog w=.ok (.tuple #[.agg #[Iv0 0,.string ⟨#[]⟩,bV],.bool false]) w:=by kernel_rfl
def vC(v:aQ)(w:aH):(typeAssert (.iface 282 v) 74 227 true).run prog w=.ok (.tuple #[.agg #[Iv0 0,.string ⟨#[]⟩],.bool false]) w:=by kernel_rfl
def IC(v:aQ)(w:aH):(typeAssert (.iface 282 v) 74 229 true).run prog w=.ok (.tuple #[.agg #[Iv0 0,bV],.bool false]) w:=by kernel_rfl
def DP(v:aQ)(w:aH):(typeAssert (.iface 282 v) 74 231 true).run prog w=.ok (.tuple #[.agg #[Iv0 0,.nilIface,.nilIface],.bool false]) w:=by kernel_rfl
def DN(v:aQ)(w:aH):(typeAssert (.iface 282 v) 74 233 true).run prog w=.ok (.tuple #[.agg #[Iv0 0,.string ⟨#[]⟩,.nilIface],.bool false]) w:=by kernel_rfl
def AG(v:aQ)(w:aH):(typeAssert (.iface 282 v) 74 235 true).run prog w=.ok (.tuple #[.agg #[Iv0 0,.string ⟨#[]⟩,.nilIface,.nilIface],.bool false]) w:=by kernel_rfl
def CN{c:UInt8}(h:eI c=true):48<=c.toNat/\c.toNat<=57:=by
 unfold eI at h;simpa using h
def PM(n:Nat)(c:UInt8)(r:cE)(h:48<=c.toNat/\c.toNat<=57):dK n (c::r)=if 9223372036854775807<n*10+(c.toNat-48) then none else dK (n*10+(c.toNat-48)) r:=by
 rw[dK];unfold JE;have e:((9223372036854775807-(c.toNat-48))/10<n)↔(9223372036854775807<n*10+(c.toNat-48)):=by omega
 rw[Nat.mul_comm 10 n];by_cases a:9223372036854775807<n*10+(c.toNat-48)
 ·rw[if_pos (e.2 a),if_pos a]
 ·rw[if_neg (fun x=>a (e.1 x)),if_neg a]
def ZO:∀(l:cE) (acc:Nat),(∀c∈l,eI c=true)->9223372036854775807<acc->Lib.parseUintM (2 ^ 64-1) acc l=.range\/∃u,Lib.parseUintM (2 ^ 64-1) acc l=.ok u/\9223372036854775808<=u
 |[],acc,_,h=>Y3 ⟨acc,rfl,by omega⟩
 |c::r,acc,a,h=>by
  have d:=CN (a c (j0 ..));rw[Lib.parseUintM,if_pos d];by_cases b:1844674407370955162<=acc
  ·rw[if_pos b];exact Y4 rfl
  ·omega
def zJ:∀(l:cE) (acc:Nat),(∀c∈l,eI c=true)->acc<=9223372036854775807->
 (∃v,dK acc l=some v/\Lib.parseUintM (2 ^ 64-1) acc l=.ok v/\v<=9223372036854775807)\/(dK acc l=none/\(Lib.parseUintM (2 ^ 64-1) acc l=.range\/∃u,Lib.parseUintM (2 ^ 64-1) acc l=.ok u/\9223372036854775808<=u))
 |[],acc,_,h=>Y4 ⟨acc,rfl,rfl,h⟩
 |c::r,acc,b,h=>by
  have g:=CN (b c (j0 ..));have e:∀x∈r,eI x=true:=fun x i=>b x (b8 _ i)
  rw[PM acc c r g,Lib.parseUintM,if_pos g];by_cases a:9223372036854775807<acc*10+(c.toNat-48)
  ·refine Y3 ⟨if_pos a,?_⟩;by_cases d:1844674407370955162<=acc
   ·rw[if_pos d];exact Y4 rfl
   ·rw[if_neg d];by_cases f:2 ^ 64-1<acc*10+(c.toNat-48)
    ·rw[if_pos f];exact Y4 rfl
    ·rw[if_neg f];exact ZO r _ e a
  ·rw[if_neg a,if_neg (by omega),if_neg (by omega)]
   exact zJ r _ e (by omega)
def XQ(l:cE)(e:∀c∈l,eI c=true)(d:l≠[]):(∃v,dK 0 l=some v/\Lib.parseIntB 64 l=.ok (v:Int))\/(dK 0 l=none/\Lib.parseIntB 64 l=.range):=by
 cases l with
 |nil=>exact absurd rfl d
 |cons c r=>
  have i:=CN (e c (j0 ..));have h:¬(c.toNat=43\/c.toNat=45):=by omega
  have f:¬c.toNat=45:=by omega
  unfold Lib.parseIntB;simp only[if_neg h];unfold Lib.parseUintB;rw[if_neg (by simp)]
  rcases zJ (c::r) 0 e (by omega) with ⟨v,b,a,g⟩|⟨b,a|⟨u,a,g⟩⟩
  ·refine Y4 ⟨v,b,?_⟩;rw[a];simp only[f];rw[if_neg (by omega)]
   simp
  ·exact Y3 ⟨b,by rw[a]⟩
  ·refine Y3 ⟨b,?_⟩;rw[a];simp only[f];rw[if_pos ⟨by simp,by omega⟩]
end Go.Proofs.YtddnpoiiimjpcaaGreatDoor
