/- Plain facts: a text's characters, as the library decodes and encodes them. -/
import Derived.Test.YtddnpoiiimjpcaaGreatDoorP04
set_option linter.defProp false
set_option maxRecDepth 100000
set_option maxHeartbeats 4000000
namespace Go.Proofs.YtddnpoiiimjpcaaGreatDoor
open Hs
open _root_.Go.Proofs.Tryz
open Instr(typeAssert)
def N5(s:ByteArray)(k i lo b:Nat):dN (s.data.toList.drop k) i lo b=decide (i<s.size-k/\lo<=(s.get! (k+i)).toNat/\(s.get! (k+i)).toNat<=b):=by
 unfold dN;rw[js];by_cases h:k+i<s.size
 ·have e:s.data.toList[k+i]?=some s[k+i]:=by simp[h];rfl
  rw[e,pS s (k+i) h];have a:i<s.size-k:=o_
  simp[a]
 ·have e:s.data.toList[k+i]?=none:=gi (by simpa using (by omega:s.size<=k+i))
  rw[e];have a:¬i<s.size-k:=o_
  simp[a]
def R5(s:ByteArray)(k:Nat)(h:k<s.size):bL (s.data.toList.drop k)=oF (s.size-k) (s.get! k).toNat (s.get! (k+1)).toNat (s.get! (k+2)).toNat (s.get! (k+3)).toNat:=by
 unfold bL oF;have e:(s.data.toList.drop k)[0]?=some s[k]:=by rw[js];simp[h];rfl
 rw[e,<-pS s k h];simp only[N5,fw,decide_eq_true_eq]
def FJ(r:Nat):cE:=(Utf8.encode (Int.ofNat r)).data.toList
def CG(r:Nat)(h:r<55296\/(57344<=r/\r<=1114111)):FJ r=if r<128 then [UInt8.ofNat r] else if r<2048 then [UInt8.ofNat (192+r/64),UInt8.ofNat (128+r%64)] else if r<65536 then [UInt8.ofNat (224+r/4096),UInt8.ofNat (128+r/64%64),UInt8.ofNat (128+r%64)]
 else [UInt8.ofNat (240+r/262144),UInt8.ofNat (128+r/4096%64),UInt8.ofNat (128+r/64%64),UInt8.ofNat (128+r%64)]:=by
 have a:Utf8.valid (Int.ofNat r)=true:=by
  unfold Utf8.valid;simp only[jg,fw,decide_eq_true_eq,Int.ofNat_eq_natCast];omega
 have b:(if Utf8.valid (Int.ofNat r) then (Int.ofNat r).toNat else Utf8.runeError)=r:=by rw[if_pos a];rfl
 unfold FJ Utf8.encode;simp only[b];repeat' split
 all_goals rfl
def bi_(n a b c f:Nat)(y:a<256)(d:oF n a b c f≠0):
 (Lib.decodeN n a b c f).2=oF n a b c f/\(Lib.decodeN n a b c f).1<=1114111/\FJ (Lib.decodeN n a b c f).1=([a,b,c,f].take (oF n a b c f)).map UInt8.ofNat:=by
 have s:a/32=6↔192<=a/\a<=223:=o_
 have u:a/16=14↔224<=a/\a<=239:=o_
 have v:a/8=30↔240<=a/\a<=247:=o_
 unfold oF at d ⊢
 unfold Lib.decodeN;by_cases m:a<128
 ·simp only[if_pos m];refine⟨trivial,o_,?_⟩
  rw[CG _ o_,if_pos m];rfl
 simp only[if_neg m] at d ⊢
 by_cases t:194<=a/\a<=223
 ·rw[if_pos t] at d ⊢
  by_cases l:1<n/\128<=b/\b<=191
  ·rw[if_pos l] at d ⊢
   rw[if_pos ⟨s.2 o_,l.1,o_⟩,if_pos o_]
   refine⟨rfl,o_,?_⟩
   rw[CG _ o_,if_neg o_,if_pos o_]
   simp only[iu,List.take_zero,e7,fy];rw[show 192+(a%32*64+b%64)/64=a by omega,show 128+(a%32*64+b%64)%64=b by omega]
  ·rw[if_neg l] at d;exact absurd rfl d
 rw[if_neg t] at d ⊢
 by_cases j:224<=a/\a<=239
 ·rw[if_pos j] at d ⊢
  by_cases i:(1<n/\(if a=224 then 160 else 128)<=b/\b<=(if a=237 then 159 else 191))/\(2<n/\128<=c/\c<=191)
  ·rw[if_pos i] at d ⊢
   have w:128<=b:=by have:=i.1.2.1;split at this<;>omega
   have x:b<=191:=by have:=i.1.2.2;split at this<;>omega
   have o:a=224->160<=b:=λe=>by have:=i.1.2.1;rw[if_pos e] at this;exact this
   have p:a=237->b<=159:=λe=>by have:=i.1.2.2;rw[if_pos e] at this;exact this
   rw[if_neg (λh=>by have:=s.1 h.1;omega),if_pos ⟨u.2 j,⟨i.1.1,o_⟩,i.2.1,o_⟩]
   have q:2048<=a%16*4096+b%64*64+c%64:=by
    rcases ic j.1 with e|e
    ·have:=o e.symm;omega
    ·omega
   have r:a%16*4096+b%64*64+c%64<55296\/(57344<=a%16*4096+b%64*64+c%64/\a%16*4096+b%64*64+c%64<=1114111):=by
    by_cases e:a=237
    ·have:=p e;omega
    ·omega
   rw[if_pos ⟨q,o_⟩]
   refine⟨rfl,o_,?_⟩
   rw[CG _ r,if_neg o_,if_neg o_,if_pos o_]
   simp only[iu,List.take_zero,e7,fy];rw[show 224+(a%16*4096+b%64*64+c%64)/4096=a by omega,show 128+(a%16*4096+b%64*64+c%64)/64%64=b by omega,show 128+(a%16*4096+b%64*64+c%64)%64=c by omega]
  ·rw[if_neg i] at d;exact absurd rfl d
 rw[if_neg j] at d ⊢
 by_cases k:240<=a/\a<=244
 ·rw[if_pos k] at d ⊢
  by_cases g:((1<n/\(if a=240 then 144 else 128)<=b/\b<=(if a=244 then 143 else 191))/\(2<n/\128<=c/\c<=191))/\(3<n/\128<=f/\f<=191)
  ·rw[if_pos g] at d ⊢
   have w:128<=b:=by have:=g.1.1.2.1;split at this<;>omega
   have x:b<=191:=by have:=g.1.1.2.2;split at this<;>omega
   have o:a=240->144<=b:=λe=>by have:=g.1.1.2.1;rw[if_pos e] at this;exact this
   have p:a=244->b<=143:=λe=>by have:=g.1.1.2.2;rw[if_pos e] at this;exact this
   rw[if_neg (λh=>by have:=s.1 h.1;omega),if_neg (λh=>by have:=u.1 h.1;omega),if_pos ⟨v.2 o_,⟨g.1.1.1,o_⟩,⟨g.1.2.1,o_⟩,g.2.1,o_⟩]
   have q:65536<=a%8*262144+b%64*4096+c%64*64+f%64:=by
    rcases ic k.1 with e|e
    ·have:=o e.symm;omega
    ·omega
   have r:a%8*262144+b%64*4096+c%64*64+f%64<=1114111:=by
    rcases ic k.2 with e|e
    ·have:=p e;omega
    ·omega
   rw[if_pos ⟨q,o_⟩]
   refine⟨rfl,r,?_⟩;rw[CG _ o_,if_neg o_,if_neg o_,if_neg o_]
   simp only[iu,List.take_zero,e7,fy];rw[show 240+(a%8*262144+b%64*4096+c%64*64+f%64)/262144=a by omega,show 128+(a%8*262144+b%64*4096+c%64*64+f%64)/4096%64=b by omega,show 128+(a%8*262144+b%64*4096+c%64*64+f%64)/64%64=c by omega,show 128+(a%8*262144+b%64*4096+c%64*64+f%64)%64=f by omega]
  ·rw[if_neg g] at d;exact absurd rfl d
 ·rw[if_neg k] at d;exact absurd rfl d
def TZ(s:ByteArray)(k:Nat)(h:k<s.size)(f:bL (s.data.toList.drop k)≠0):
 (Utf8.decode s k).2=bL (s.data.toList.drop k)/\(Utf8.decode s k).1<=1114111/\FJ (Utf8.decode s k).1=(s.data.toList.drop k).take (bL (s.data.toList.drop k)):=by
 have d:= @kX (s.data.toList.drop k);rw[R5 s k h] at f d ⊢
 obtain⟨l,n,m⟩:=bi_ (s.size-k) (s.get! k).toNat (s.get! (k+1)).toNat (s.get! (k+2)).toNat (s.get! (k+3)).toNat (jh _) f;rw[Lib.decode_at];refine⟨l,n,m.trans ?_⟩;generalize g:oF (s.size-k) (s.get! k).toNat (s.get! (k+1)).toNat (s.get! (k+2)).toNat (s.get! (k+3)).toNat=c at*
 have p:c<=4:=by rw[<-g];unfold oF;repeat' split
                 all_goals omega
 have o:(s.data.toList.drop k).length=s.size-k:=s_
 refine List.ext_getElem? λi=>?_
 rw[ji,fu,fu];by_cases a:i<c
 ·rw[if_pos a,if_pos a,js];have b:k+i<s.size:=o_
  have e:s.data.toList[k+i]?=some (s.get! (k+i)):=by rw[pS s (k+i) b];simp[b];rfl
  rw[e];match i,a with
  |0,_=>simp
  |1,_=>simp
  |2,_=>simp
  |3,_=>simp
  |j+4,a=>omega
 ·rw[if_neg a,if_neg a];rfl
def AE(s:ByteArray):∀(f k:Nat),s.size-k<=f->dB (s.data.toList.drop k)->Lib.runeCountFrom s f k=(eG (s.data.toList.drop k)).length
 |0,k,d,_=>by
  rw[eC (d7 (ia t_))];rfl
 |f+1,k,d,i=>by
  unfold Lib.runeCountFrom;by_cases h:k<s.size
  ·have a:s.data.toList.drop k≠[]:=λe=>by have:=congrArg List.length e;simp at this;omega
   obtain⟨c,b⟩:=i.ne a;obtain⟨g,_,_⟩:=TZ s k h c;rw[if_pos h,g,iQ a c,ep];rw[iw] at b ⊢
   rw[AE s f (k+bL (s.data.toList.drop k)) o_ b]
   omega
  ·rw[if_neg h,eC (d7 (ia t_))];rfl
def zQ(s:ByteArray):∀(f k:Nat) (acc:Array Value),s.size-k<=f->dB (s.data.toList.drop k)->
 ∃b:List Nat,Conv.runesFrom s f k acc=acc++(b.map λr=>Value.int .i32 (Int.ofNat r)).toArray/\b.length=(eG (s.data.toList.drop k)).length/\(∀r∈b,r<=1114111)/\b.map FJ=eG (s.data.toList.drop k)
 |0,k,acc,n,_=>⟨[],by simp[Conv.runesFrom],by
    rw[eC (d7 (ia t_))];rfl,s_,by
    rw[eC (d7 (ia t_))];rfl⟩
 |f+1,k,acc,n,i=>by
  by_cases h:k<s.size
  ·have a:s.data.toList.drop k≠[]:=λe=>by have:=congrArg List.length e;simp at this;omega
   obtain⟨c,g⟩:=i.ne a;obtain⟨p,m,q⟩:=TZ s k h c;rw[iw] at g;obtain⟨b,j,t,l,o⟩:=zQ s f (k+bL (s.data.toList.drop k)) (acc.push (.int .i32 (Int.ofNat (Utf8.decode s k).1))) o_ g
   refine⟨(Utf8.decode s k).1::b,?_,?_,?_,?_⟩
   ·unfold Conv.runesFrom;rw[if_pos h];simp only[p];rw[j];simp
   ·rw[iQ a c,ep,ep,iw,t]
   ·intro r d;rcases eo.1 d with rfl|d
    ·exact m
    ·exact l r d
   ·rw[iQ a c,e7,iw,o,q]
  ·refine⟨[],?_,?_,s_,?_⟩
   ·unfold Conv.runesFrom;rw[if_neg h];simp
   all_goals rw[eC (d7 (ia t_))];rfl
open Go.RowKit
section
variable(v:aQ)(w:aG)
def uU:(typeAssert (.iface 210 v) 74 210 true).run prog w=.ok (.tuple #[v,.bool true]) w:=k_
def wD:(typeAssert (.iface 213 v) 74 210 true).run prog w=.ok (.tuple #[.agg #[I_ 0,I_ 0,.string ⟨#[]⟩,.nilIface],.bool false]) w:=k_
def xX:(typeAssert (.iface 213 v) 74 213 true).run prog w=.ok (.tuple #[v,.bool true]) w:=k_
def tV:(typeAssert (.iface 217 v) 74 210 true).run prog w=.ok (.tuple #[.agg #[I_ 0,I_ 0,.string ⟨#[]⟩,.nilIface],.bool false]) w:=k_
def wB:(typeAssert (.iface 217 v) 74 213 true).run prog w=.ok (.tuple #[.agg #[I_ 0,.string ⟨#[]⟩,bG,.nilIface],.bool false]) w:=k_
def PZ:(typeAssert (.iface 217 v) 74 217 true).run prog w=.ok (.tuple #[v,.bool true]) w:=k_
def xH:(typeAssert (.iface 219 v) 74 210 true).run prog w=.ok (.tuple #[.agg #[I_ 0,I_ 0,.string ⟨#[]⟩,.nilIface],.bool false]) w:=k_
def AM:(typeAssert (.iface 219 v) 74 213 true).run prog w=.ok (.tuple #[.agg #[I_ 0,.string ⟨#[]⟩,bG,.nilIface],.bool false]) w:=k_
def PU:(typeAssert (.iface 219 v) 74 217 true).run prog w=.ok (.tuple #[.agg #[I_ 0,.nilIface,bG,bG],.bool false]) w:=k_
def CS:(typeAssert (.iface 219 v) 74 219 true).run prog w=.ok (.tuple #[v,.bool true]) w:=k_
def oN:(typeAssert (.iface 221 v) 74 210 true).run prog w=.ok (.tuple #[.agg #[I_ 0,I_ 0,.string ⟨#[]⟩,.nilIface],.bool false]) w:=k_
def pM:(typeAssert (.iface 221 v) 74 213 true).run prog w=.ok (.tuple #[.agg #[I_ 0,.string ⟨#[]⟩,bG,.nilIface],.bool false]) w:=k_
def vY:(typeAssert (.iface 221 v) 74 217 true).run prog w=.ok (.tuple #[.agg #[I_ 0,.nilIface,bG,bG],.bool false]) w:=k_
def qP:(typeAssert (.iface 221 v) 74 219 true).run prog w=.ok (.tuple #[.agg #[I_ 0,.nilIface,bG],.bool false]) w:=k_
def pL:(typeAssert (.iface 221 v) 74 221 true).run prog w=.ok (.tuple #[v,.bool true]) w:=k_
def xN:(typeAssert (.iface 222 v) 74 210 true).run prog w=.ok (.tuple #[.agg #[I_ 0,I_ 0,.string ⟨#[]⟩,.nilIface],.bool false]) w:=k_
def AU:(typeAssert (.iface 222 v) 74 213 true).run prog w=.ok (.tuple #[.agg #[I_ 0,.string ⟨#[]⟩,bG,.nilIface],.bool false]) w:=k_
def PX:(typeAssert (.iface 222 v) 74 217 true).run prog w=.ok (.tuple #[.agg #[I_ 0,.nilIface,bG,bG],.bool false]) w:=k_
def DA:(typeAssert (.iface 222 v) 74 219 true).run prog w=.ok (.tuple #[.agg #[I_ 0,.nilIface,bG],.bool false]) w:=k_
def AT:(typeAssert (.iface 222 v) 74 221 true).run prog w=.ok (.tuple #[.agg #[I_ 0,.nilIface],.bool false]) w:=k_
def DB:(typeAssert (.iface 222 v) 74 222 true).run prog w=.ok (.tuple #[v,.bool true]) w:=k_
def BC:(typeAssert (.iface 224 v) 74 210 true).run prog w=.ok (.tuple #[.agg #[I_ 0,I_ 0,.string ⟨#[]⟩,.nilIface],.bool false]) w:=k_
def DK:(typeAssert (.iface 224 v) 74 213 true).run prog w=.ok (.tuple #[.agg #[I_ 0,.string ⟨#[]⟩,bG,.nilIface],.bool false]) w:=k_
def VJ:(typeAssert (.iface 224 v) 74 217 true).run prog w=.ok (.tuple #[.agg #[I_ 0,.nilIface,bG,bG],.bool false]) w:=k_
def GY:(typeAssert (.iface 224 v) 74 219 true).run prog w=.ok (.tuple #[.agg #[I_ 0,.nilIface,bG],.bool false]) w:=k_
def DJ:(typeAssert (.iface 224 v) 74 221 true).run prog w=.ok (.tuple #[.agg #[I_ 0,.nilIface],.bool false]) w:=k_
def GZ:(typeAssert (.iface 224 v) 74 222 true).run prog w=.ok (.tuple #[.agg #[I_ 0,.nilIface],.bool false]) w:=k_
def ML:(typeAssert (.iface 224 v) 74 224 true).run prog w=.ok (.tuple #[v,.bool true]) w:=k_
def tR:(typeAssert (.iface 227 v) 74 210 true).run prog w=.ok (.tuple #[.agg #[I_ 0,I_ 0,.string ⟨#[]⟩,.nilIface],.bool false]) w:=k_
def uR:(typeAssert (.iface 227 v) 74 213 true).run prog w=.ok (.tuple #[.agg #[I_ 0,.string ⟨#[]⟩,bG,.nilIface],.bool false]) w:=k_
def CT:(typeAssert (.iface 227 v) 74 217 true).run prog w=.ok (.tuple #[.agg #[I_ 0,.nilIface,bG,bG],.bool false]) w:=k_
def vU:(typeAssert (.iface 227 v) 74 219 true).run prog w=.ok (.tuple #[.agg #[I_ 0,.nilIface,bG],.bool false]) w:=k_
def uQ:(typeAssert (.iface 227 v) 74 221 true).run prog w=.ok (.tuple #[.agg #[I_ 0,.nilIface],.bool false]) w:=k_
def vV:(typeAssert (.iface 227 v) 74 222 true).run prog w=.ok (.tuple #[.agg #[I_ 0,.nilIface],.bool false]) w:=k_
def xI:(typeAssert (.iface 227 v) 74 224 true).run prog w=.ok (.tuple #[.agg #[I_ 0,.string ⟨#[]⟩,bG],.bool false]) w:=k_
def rI:(typeAssert (.iface 227 v) 74 227 true).run prog w=.ok (.tuple #[v,.bool true]) w:=k_
def AZ:(typeAssert (.iface 229 v) 74 210 true).run prog w=.ok (.tuple #[.agg #[I_ 0,I_ 0,.string ⟨#[]⟩,.nilIface],.bool false]) w:=k_
def DF:(typeAssert (.iface 229 v) 74 213 true).run prog w=.ok (.tuple #[.agg #[I_ 0,.string ⟨#[]⟩,bG,.nilIface],.bool false]) w:=k_
def VI:(typeAssert (.iface 229 v) 74 217 true).run prog w=.ok (.tuple #[.agg #[I_ 0,.nilIface,bG,bG],.bool false]) w:=k_
def GU:(typeAssert (.iface 229 v) 74 219 true).run prog w=.ok (.tuple #[.agg #[I_ 0,.nilIface,bG],.bool false]) w:=k_
def DE:(typeAssert (.iface 229 v) 74 221 true).run prog w=.ok (.tuple #[.agg #[I_ 0,.nilIface],.bool false]) w:=k_
def GV:(typeAssert (.iface 229 v) 74 222 true).run prog w=.ok (.tuple #[.agg #[I_ 0,.nilIface],.bool false]) w:=k_
def MK:(typeAssert (.iface 229 v) 74 224 true).run prog w=.ok (.tuple #[.agg #[I_ 0,.string ⟨#[]⟩,bG],.bool false]) w:=k_
def xR:(typeAssert (.iface 229 v) 74 227 true).run prog w=.ok (.tuple #[.agg #[I_ 0,.string ⟨#[]⟩],.bool false]) w:=k_
def MJ:(typeAssert (.iface 229 v) 74 229 true).run prog w=.ok (.tuple #[v,.bool true]) w:=k_
def xS:(typeAssert (.iface 231 v) 74 210 true).run prog w=.ok (.tuple #[.agg #[I_ 0,I_ 0,.string ⟨#[]⟩,.nilIface],.bool false]) w:=k_
def BB:(typeAssert (.iface 231 v) 74 213 true).run prog w=.ok (.tuple #[.agg #[I_ 0,.string ⟨#[]⟩,bG,.nilIface],.bool false]) w:=k_
def PY:(typeAssert (.iface 231 v) 74 217 true).run prog w=.ok (.tuple #[.agg #[I_ 0,.nilIface,bG,bG],.bool false]) w:=k_
def DG:(typeAssert (.iface 231 v) 74 219 true).run prog w=.ok (.tuple #[.agg #[I_ 0,.nilIface,bG],.bool false]) w:=k_
def BA:(typeAssert (.iface 231 v) 74 221 true).run prog w=.ok (.tuple #[.agg #[I_ 0,.nilIface],.bool false]) w:=k_
def DH:(typeAssert (.iface 231 v) 74 222 true).run prog w=.ok (.tuple #[.agg #[I_ 0,.nilIface],.bool false]) w:=k_
def GX:(typeAssert (.iface 231 v) 74 224 true).run prog w=.ok (.tuple #[.agg #[I_ 0,.string ⟨#[]⟩,bG],.bool false]) w:=k_
def wA:(typeAssert (.iface 231 v) 74 227 true).run prog w=.ok (.tuple #[.agg #[I_ 0,.string ⟨#[]⟩],.bool false]) w:=k_
def GW:(typeAssert (.iface 231 v) 74 229 true).run prog w=.ok (.tuple #[.agg #[I_ 0,bG],.bool false]) w:=k_
def DI:(typeAssert (.iface 231 v) 74 231 true).run prog w=.ok (.tuple #[v,.bool true]) w:=k_
def xJ:(typeAssert (.iface 233 v) 74 210 true).run prog w=.ok (.tuple #[.agg #[I_ 0,I_ 0,.string ⟨#[]⟩,.nilIface],.bool false]) w:=k_
def AO:(typeAssert (.iface 233 v) 74 213 true).run prog w=.ok (.tuple #[.agg #[I_ 0,.string ⟨#[]⟩,bG,.nilIface],.bool false]) w:=k_
def PW:(typeAssert (.iface 233 v) 74 217 true).run prog w=.ok (.tuple #[.agg #[I_ 0,.nilIface,bG,bG],.bool false]) w:=k_
def CU:(typeAssert (.iface 233 v) 74 219 true).run prog w=.ok (.tuple #[.agg #[I_ 0,.nilIface,bG],.bool false]) w:=k_
def AN:(typeAssert (.iface 233 v) 74 221 true).run prog w=.ok (.tuple #[.agg #[I_ 0,.nilIface],.bool false]) w:=k_
def CW:(typeAssert (.iface 233 v) 74 222 true).run prog w=.ok (.tuple #[.agg #[I_ 0,.nilIface],.bool false]) w:=k_
def GT:(typeAssert (.iface 233 v) 74 224 true).run prog w=.ok (.tuple #[.agg #[I_ 0,.string ⟨#[]⟩,bG],.bool false]) w:=k_
def vW:(typeAssert (.iface 233 v) 74 227 true).run prog w=.ok (.tuple #[.agg #[I_ 0,.string ⟨#[]⟩],.bool false]) w:=k_
def GS:(typeAssert (.iface 233 v) 74 229 true).run prog w=.ok (.tuple #[.agg #[I_ 0,bG],.bool false]) w:=k_
def CX:(typeAssert (.iface 233 v) 74 231 true).run prog w=.ok (.tuple #[.agg #[I_ 0,.nilIface,.nilIface],.bool false]) w:=k_
def CV:(typeAssert (.iface 233 v) 74 233 true).run prog w=.ok (.tuple #[v,.bool true]) w:=k_
def wC:(typeAssert (.iface 235 v) 74 210 true).run prog w=.ok (.tuple #[.agg #[I_ 0,I_ 0,.string ⟨#[]⟩,.nilIface],.bool false]) w:=k_
def xW:(typeAssert (.iface 235 v) 74 213 true).run prog w=.ok (.tuple #[.agg #[I_ 0,.string ⟨#[]⟩,bG,.nilIface],.bool false]) w:=k_
def MO:(typeAssert (.iface 235 v) 74 217 true).run prog w=.ok (.tuple #[.agg #[I_ 0,.nilIface,bG,bG],.bool false]) w:=k_
def BE:(typeAssert (.iface 235 v) 74 219 true).run prog w=.ok (.tuple #[.agg #[I_ 0,.nilIface,bG],.bool false]) w:=k_
def xU:(typeAssert (.iface 235 v) 74 221 true).run prog w=.ok (.tuple #[.agg #[I_ 0,.nilIface],.bool false]) w:=k_
def BG:(typeAssert (.iface 235 v) 74 222 true).run prog w=.ok (.tuple #[.agg #[I_ 0,.nilIface],.bool false]) w:=k_
def DP:(typeAssert (.iface 235 v) 74 224 true).run prog w=.ok (.tuple #[.agg #[I_ 0,.string ⟨#[]⟩,bG],.bool false]) w:=k_
def uV:(typeAssert (.iface 235 v) 74 227 true).run prog w=.ok (.tuple #[.agg #[I_ 0,.string ⟨#[]⟩],.bool false]) w:=k_
def DO:(typeAssert (.iface 235 v) 74 229 true).run prog w=.ok (.tuple #[.agg #[I_ 0,bG],.bool false]) w:=k_
def BH:(typeAssert (.iface 235 v) 74 231 true).run prog w=.ok (.tuple #[.agg #[I_ 0,.nilIface,.nilIface],.bool false]) w:=k_
def BF:(typeAssert (.iface 235 v) 74 233 true).run prog w=.ok (.tuple #[.agg #[I_ 0,.string ⟨#[]⟩,.nilIface],.bool false]) w:=k_
def xV:(typeAssert (.iface 235 v) 74 235 true).run prog w=.ok (.tuple #[v,.bool true]) w:=k_
def vZ:(typeAssert (.iface 279 v) 74 210 true).run prog w=.ok (.tuple #[.agg #[I_ 0,I_ 0,.string ⟨#[]⟩,.nilIface],.bool false]) w:=k_
def xQ:(typeAssert (.iface 279 v) 74 213 true).run prog w=.ok (.tuple #[.agg #[I_ 0,.string ⟨#[]⟩,bG,.nilIface],.bool false]) w:=k_
def MI:(typeAssert (.iface 279 v) 74 217 true).run prog w=.ok (.tuple #[.agg #[I_ 0,.nilIface,bG,bG],.bool false]) w:=k_
def AV:(typeAssert (.iface 279 v) 74 219 true).run prog w=.ok (.tuple #[.agg #[I_ 0,.nilIface,bG],.bool false]) w:=k_
def xO:(typeAssert (.iface 279 v) 74 221 true).run prog w=.ok (.tuple #[.agg #[I_ 0,.nilIface],.bool false]) w:=k_
def AX:(typeAssert (.iface 279 v) 74 222 true).run prog w=.ok (.tuple #[.agg #[I_ 0,.nilIface],.bool false]) w:=k_
def DD:(typeAssert (.iface 279 v) 74 224 true).run prog w=.ok (.tuple #[.agg #[I_ 0,.string ⟨#[]⟩,bG],.bool false]) w:=k_
def uT:(typeAssert (.iface 279 v) 74 227 true).run prog w=.ok (.tuple #[.agg #[I_ 0,.string ⟨#[]⟩],.bool false]) w:=k_
def DC:(typeAssert (.iface 279 v) 74 229 true).run prog w=.ok (.tuple #[.agg #[I_ 0,bG],.bool false]) w:=k_
def AY:(typeAssert (.iface 279 v) 74 231 true).run prog w=.ok (.tuple #[.agg #[I_ 0,.nilIface,.nilIface],.bool false]) w:=k_
def AW:(typeAssert (.iface 279 v) 74 233 true).run prog w=.ok (.tuple #[.agg #[I_ 0,.string ⟨#[]⟩,.nilIface],.bool false]) w:=k_
def xP:(typeAssert (.iface 279 v) 74 235 true).run prog w=.ok (.tuple #[.agg #[I_ 0,.string ⟨#[]⟩,.nilIface,.nilIface],.bool false]) w:=k_
def vX:(typeAssert (.iface 280 v) 74 210 true).run prog w=.ok (.tuple #[.agg #[I_ 0,I_ 0,.string ⟨#[]⟩,.nilIface],.bool false]) w:=k_
def xM:(typeAssert (.iface 280 v) 74 213 true).run prog w=.ok (.tuple #[.agg #[I_ 0,.string ⟨#[]⟩,bG,.nilIface],.bool false]) w:=k_
def MH:(typeAssert (.iface 280 v) 74 217 true).run prog w=.ok (.tuple #[.agg #[I_ 0,.nilIface,bG,bG],.bool false]) w:=k_
def AP:(typeAssert (.iface 280 v) 74 219 true).run prog w=.ok (.tuple #[.agg #[I_ 0,.nilIface,bG],.bool false]) w:=k_
def xK:(typeAssert (.iface 280 v) 74 221 true).run prog w=.ok (.tuple #[.agg #[I_ 0,.nilIface],.bool false]) w:=k_
def AR:(typeAssert (.iface 280 v) 74 222 true).run prog w=.ok (.tuple #[.agg #[I_ 0,.nilIface],.bool false]) w:=k_
def CZ:(typeAssert (.iface 280 v) 74 224 true).run prog w=.ok (.tuple #[.agg #[I_ 0,.string ⟨#[]⟩,bG],.bool false]) w:=k_
def uS:(typeAssert (.iface 280 v) 74 227 true).run prog w=.ok (.tuple #[.agg #[I_ 0,.string ⟨#[]⟩],.bool false]) w:=k_
def CY:(typeAssert (.iface 280 v) 74 229 true).run prog w=.ok (.tuple #[.agg #[I_ 0,bG],.bool false]) w:=k_
def AS:(typeAssert (.iface 280 v) 74 231 true).run prog w=.ok (.tuple #[.agg #[I_ 0,.nilIface,.nilIface],.bool false]) w:=k_
def AQ:(typeAssert (.iface 280 v) 74 233 true).run prog w=.ok (.tuple #[.agg #[I_ 0,.string ⟨#[]⟩,.nilIface],.bool false]) w:=k_
def xL:(typeAssert (.iface 280 v) 74 235 true).run prog w=.ok (.tuple #[.agg #[I_ 0,.string ⟨#[]⟩,.nilIface,.nilIface],.bool false]) w:=k_
def BD:(typeAssert (.iface 282 v) 74 210 true).run prog w=.ok (.tuple #[.agg #[I_ 0,I_ 0,.string ⟨#[]⟩,.nilIface],.bool false]) w:=k_
def DN:(typeAssert (.iface 282 v) 74 213 true).run prog w=.ok (.tuple #[.agg #[I_ 0,.string ⟨#[]⟩,bG,.nilIface],.bool false]) w:=k_
def VK:(typeAssert (.iface 282 v) 74 217 true).run prog w=.ok (.tuple #[.agg #[I_ 0,.nilIface,bG,bG],.bool false]) w:=k_
def IA:(typeAssert (.iface 282 v) 74 219 true).run prog w=.ok (.tuple #[.agg #[I_ 0,.nilIface,bG],.bool false]) w:=k_
def DL:(typeAssert (.iface 282 v) 74 221 true).run prog w=.ok (.tuple #[.agg #[I_ 0,.nilIface],.bool false]) w:=k_
def IC:(typeAssert (.iface 282 v) 74 222 true).run prog w=.ok (.tuple #[.agg #[I_ 0,.nilIface],.bool false]) w:=k_
def MN:(typeAssert (.iface 282 v) 74 224 true).run prog w=.ok (.tuple #[.agg #[I_ 0,.string ⟨#[]⟩,bG],.bool false]) w:=k_
def xT:(typeAssert (.iface 282 v) 74 227 true).run prog w=.ok (.tuple #[.agg #[I_ 0,.string ⟨#[]⟩],.bool false]) w:=k_
def MM:(typeAssert (.iface 282 v) 74 229 true).run prog w=.ok (.tuple #[.agg #[I_ 0,bG],.bool false]) w:=k_
def ID:(typeAssert (.iface 282 v) 74 231 true).run prog w=.ok (.tuple #[.agg #[I_ 0,.nilIface,.nilIface],.bool false]) w:=k_
def IB:(typeAssert (.iface 282 v) 74 233 true).run prog w=.ok (.tuple #[.agg #[I_ 0,.string ⟨#[]⟩,.nilIface],.bool false]) w:=k_
def DM:(typeAssert (.iface 282 v) 74 235 true).run prog w=.ok (.tuple #[.agg #[I_ 0,.string ⟨#[]⟩,.nilIface,.nilIface],.bool false]) w:=k_
end
def FZ{c:UInt8}(h:eO c=true):48<=c.toNat/\c.toNat<=57:=by
 unfold eO at h;simpa using h
def UW(n:Nat)(c:UInt8)(r:cE)(h:48<=c.toNat/\c.toNat<=57):dQ n (c::r)=if 9223372036854775807<n*10+(c.toNat-48) then none else dQ (n*10+(c.toNat-48)) r:=by
 rw[dQ];unfold NN;have e:((9223372036854775807-(c.toNat-48))/10<n)↔(9223372036854775807<n*10+(c.toNat-48)):=o_
 rw[Nat.mul_comm 10 n];by_cases a:9223372036854775807<n*10+(c.toNat-48)
 ·rw[if_pos (e.2 a),if_pos a]
 ·rw[if_neg (λx=>a (e.1 x)),if_neg a]
def U5:∀(l:cE) (acc:Nat),(∀c∈l,eO c=true)->9223372036854775807<acc->Lib.parseUintM (2 ^ 64-1) acc l=.range\/∃u,Lib.parseUintM (2 ^ 64-1) acc l=.ok u/\9223372036854775808<=u
 |[],acc,_,h=>d6 ⟨acc,rfl,o_⟩
 |c::r,acc,a,h=>by
  have d:=FZ (a c (fk ..));rw[Lib.parseUintM,if_pos d];by_cases b:1844674407370955162<=acc
  ·rw[if_pos b];exact d7 rfl
  ·omega
def CO:∀(l:cE) (acc:Nat),(∀c∈l,eO c=true)->acc<=9223372036854775807->
 (∃v,dQ acc l=some v/\Lib.parseUintM (2 ^ 64-1) acc l=.ok v/\v<=9223372036854775807)\/(dQ acc l=none/\(Lib.parseUintM (2 ^ 64-1) acc l=.range\/∃u,Lib.parseUintM (2 ^ 64-1) acc l=.ok u/\9223372036854775808<=u))
 |[],acc,_,h=>d7 ⟨acc,rfl,rfl,h⟩
 |c::r,acc,b,h=>by
  have g:=FZ (b c (fk ..));have e:∀x∈r,eO x=true:=λx i=>b x (ey _ i)
  rw[UW acc c r g,Lib.parseUintM,if_pos g];by_cases a:9223372036854775807<acc*10+(c.toNat-48)
  ·refine d6 ⟨if_pos a,?_⟩;by_cases d:1844674407370955162<=acc
   ·rw[if_pos d];exact d7 rfl
   ·rw[if_neg d];by_cases f:2 ^ 64-1<acc*10+(c.toNat-48)
    ·rw[if_pos f];exact d7 rfl
    ·rw[if_neg f];exact U5 r _ e a
  ·rw[if_neg a,if_neg o_,if_neg o_]
   exact CO r _ e o_
def N4(l:cE)(e:∀c∈l,eO c=true)(d:l≠[]):(∃v,dQ 0 l=some v/\Lib.parseIntB 64 l=.ok (v:Int))\/(dQ 0 l=none/\Lib.parseIntB 64 l=.range):=by
 cases l with
 |nil=>exact absurd rfl d
 |cons c r=>
  have i:=FZ (e c (fk ..));have h:¬(c.toNat=43\/c.toNat=45):=o_
  have f:¬c.toNat=45:=o_
  unfold Lib.parseIntB;simp only[if_neg h];unfold Lib.parseUintB;rw[if_neg s_]
  rcases CO (c::r) 0 e o_ with ⟨v,b,a,g⟩|⟨b,a|⟨u,a,g⟩⟩
  ·refine d7 ⟨v,b,?_⟩;rw[a];simp only[f];rw[if_neg o_]
   simp
  ·exact d6 ⟨b,by rw[a]⟩
  ·refine d6 ⟨b,?_⟩;rw[a];simp only[f];rw[if_pos ⟨s_,o_⟩]
end Go.Proofs.YtddnpoiiimjpcaaGreatDoor
