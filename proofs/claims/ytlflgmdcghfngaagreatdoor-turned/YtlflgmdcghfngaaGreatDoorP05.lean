/- Plain facts: a text's characters, as the library decodes and encodes them. -/
import Derived.Test.YtlflgmdcghfngaaGreatDoorP04
set_option linter.defProp false
set_option maxRecDepth 100000
set_option maxHeartbeats 4000000
namespace Go.Proofs.YtlflgmdcghfngaaGreatDoor
open Hs
open _root_.Go.Proofs.Tryz
open Instr(typeAssert)
def S6(s:ByteArray)(k i lo hi:Nat):dN (s.data.toList.drop k) i lo hi=decide (i<s.size-k/\lo<=(s.get! (k+i)).toNat/\(s.get! (k+i)).toNat<=hi):=by
 unfold dN;rw[jx];by_cases h:k+i<s.size
 ·have e:s.data.toList[k+i]?=some s[k+i]:=by simp[h];rfl
  rw[e,qB s (k+i) h];have a:i<s.size-k:=o_
  simp[a]
 ·have e:s.data.toList[k+i]?=none:=gp (by simpa using (by omega:s.size<=k+i))
  rw[e];have a:¬i<s.size-k:=o_
  simp[a]
def X5(s:ByteArray)(k:Nat)(h:k<s.size):bK (s.data.toList.drop k)=oM (s.size-k) (s.get! k).toNat (s.get! (k+1)).toNat (s.get! (k+2)).toNat (s.get! (k+3)).toNat:=by
 unfold bK oM;have e:(s.data.toList.drop k)[0]?=some s[k]:=by rw[jx];simp[h];rfl
 rw[e,<-qB s k h];simp only[S6,fy,decide_eq_true_eq]
def GJ(r:Nat):cC:=(Utf8.encode (Int.ofNat r)).data.toList
def DG(r:Nat)(h:r<55296\/(57344<=r/\r<=1114111)):GJ r=if r<128 then [UInt8.ofNat r] else if r<2048 then [UInt8.ofNat (192+r/64),UInt8.ofNat (128+r%64)] else if r<65536 then [UInt8.ofNat (224+r/4096),UInt8.ofNat (128+r/64%64),UInt8.ofNat (128+r%64)]
 else [UInt8.ofNat (240+r/262144),UInt8.ofNat (128+r/4096%64),UInt8.ofNat (128+r/64%64),UInt8.ofNat (128+r%64)]:=by
 have a:Utf8.valid (Int.ofNat r)=true:=by
  unfold Utf8.valid;simp only[jg,fy,decide_eq_true_eq,Int.ofNat_eq_natCast];omega
 have b:(if Utf8.valid (Int.ofNat r) then (Int.ofNat r).toNat else Utf8.runeError)=r:=by rw[if_pos a];rfl
 unfold GJ Utf8.encode;simp only[b];repeat' split
 all_goals rfl
def b9_(n a b c f:Nat)(y:a<256)(d:oM n a b c f≠0):
 (Lib.decodeN n a b c f).2=oM n a b c f/\(Lib.decodeN n a b c f).1<=1114111/\GJ (Lib.decodeN n a b c f).1=([a,b,c,f].take (oM n a b c f)).map UInt8.ofNat:=by
 have s:a/32=6↔192<=a/\a<=223:=o_
 have u:a/16=14↔224<=a/\a<=239:=o_
 have v:a/8=30↔240<=a/\a<=247:=o_
 unfold oM at d ⊢
 unfold Lib.decodeN;by_cases m:a<128
 ·simp only[if_pos m];refine⟨trivial,o_,?_⟩
  rw[DG _ o_,if_pos m];rfl
 simp only[if_neg m] at d ⊢
 by_cases t:194<=a/\a<=223
 ·rw[if_pos t] at d ⊢
  by_cases l:1<n/\128<=b/\b<=191
  ·rw[if_pos l] at d ⊢
   rw[if_pos ⟨s.2 o_,l.1,o_⟩,if_pos o_]
   refine⟨rfl,o_,?_⟩
   rw[DG _ o_,if_neg o_,if_pos o_]
   simp only[iu,List.take_zero,fg,gd];rw[show 192+(a%32*64+b%64)/64=a by omega,show 128+(a%32*64+b%64)%64=b by omega]
  ·rw[if_neg l] at d;exact absurd rfl d
 rw[if_neg t] at d ⊢
 by_cases j:224<=a/\a<=239
 ·rw[if_pos j] at d ⊢
  by_cases i:(1<n/\(if a=224 then 160 else 128)<=b/\b<=(if a=237 then 159 else 191))/\(2<n/\128<=c/\c<=191)
  ·rw[if_pos i] at d ⊢
   have w:128<=b:=by have:=i.1.2.1;split at this<;>omega
   have x:b<=191:=by have:=i.1.2.2;split at this<;>omega
   have o:a=224->160<=b:=λe=>by have:=i.1.2.1;rw[if_pos e] at this;exact this
   have p:a=237->b<=159:=λe=>by have:=i.1.2.2;rw[if_pos e] at this;exact this
   rw[if_neg (λh=>by have:=s.1 h.1;omega),if_pos ⟨u.2 j,⟨i.1.1,o_⟩,i.2.1,o_⟩]
   have q:2048<=a%16*4096+b%64*64+c%64:=by
    rcases ii j.1 with e|e
    ·have:=o e.symm;omega
    ·omega
   have r:a%16*4096+b%64*64+c%64<55296\/(57344<=a%16*4096+b%64*64+c%64/\a%16*4096+b%64*64+c%64<=1114111):=by
    by_cases e:a=237
    ·have:=p e;omega
    ·omega
   rw[if_pos ⟨q,o_⟩]
   refine⟨rfl,o_,?_⟩
   rw[DG _ r,if_neg o_,if_neg o_,if_pos o_]
   simp only[iu,List.take_zero,fg,gd];rw[show 224+(a%16*4096+b%64*64+c%64)/4096=a by omega,show 128+(a%16*4096+b%64*64+c%64)/64%64=b by omega,show 128+(a%16*4096+b%64*64+c%64)%64=c by omega]
  ·rw[if_neg i] at d;exact absurd rfl d
 rw[if_neg j] at d ⊢
 by_cases k:240<=a/\a<=244
 ·rw[if_pos k] at d ⊢
  by_cases g:((1<n/\(if a=240 then 144 else 128)<=b/\b<=(if a=244 then 143 else 191))/\(2<n/\128<=c/\c<=191))/\(3<n/\128<=f/\f<=191)
  ·rw[if_pos g] at d ⊢
   have w:128<=b:=by have:=g.1.1.2.1;split at this<;>omega
   have x:b<=191:=by have:=g.1.1.2.2;split at this<;>omega
   have o:a=240->144<=b:=λe=>by have:=g.1.1.2.1;rw[if_pos e] at this;exact this
   have p:a=244->b<=143:=λe=>by have:=g.1.1.2.2;rw[if_pos e] at this;exact this
   rw[if_neg (λh=>by have:=s.1 h.1;omega),if_neg (λh=>by have:=u.1 h.1;omega),if_pos ⟨v.2 o_,⟨g.1.1.1,o_⟩,⟨g.1.2.1,o_⟩,g.2.1,o_⟩]
   have q:65536<=a%8*262144+b%64*4096+c%64*64+f%64:=by
    rcases ii k.1 with e|e
    ·have:=o e.symm;omega
    ·omega
   have r:a%8*262144+b%64*4096+c%64*64+f%64<=1114111:=by
    rcases ii k.2 with e|e
    ·have:=p e;omega
    ·omega
   rw[if_pos ⟨q,o_⟩]
   refine⟨rfl,r,?_⟩;rw[DG _ o_,if_neg o_,if_neg o_,if_neg o_]
   simp only[iu,List.take_zero,fg,gd];rw[show 240+(a%8*262144+b%64*4096+c%64*64+f%64)/262144=a by omega,show 128+(a%8*262144+b%64*4096+c%64*64+f%64)/4096%64=b by omega,show 128+(a%8*262144+b%64*4096+c%64*64+f%64)/64%64=c by omega,show 128+(a%8*262144+b%64*4096+c%64*64+f%64)%64=f by omega]
  ·rw[if_neg g] at d;exact absurd rfl d
 ·rw[if_neg k] at d;exact absurd rfl d
def VA(s:ByteArray)(k:Nat)(h:k<s.size)(f:bK (s.data.toList.drop k)≠0):
 (Utf8.decode s k).2=bK (s.data.toList.drop k)/\(Utf8.decode s k).1<=1114111/\GJ (Utf8.decode s k).1=(s.data.toList.drop k).take (bK (s.data.toList.drop k)):=by
 have d:= @kW (s.data.toList.drop k);rw[X5 s k h] at f d ⊢
 obtain⟨l,n,m⟩:=b9_ (s.size-k) (s.get! k).toNat (s.get! (k+1)).toNat (s.get! (k+2)).toNat (s.get! (k+3)).toNat (jh _) f;rw[Lib.decode_at];refine⟨l,n,m.trans ?_⟩;generalize g:oM (s.size-k) (s.get! k).toNat (s.get! (k+1)).toNat (s.get! (k+2)).toNat (s.get! (k+3)).toNat=c at*
 have p:c<=4:=by rw[<-g];unfold oM;repeat' split
                 all_goals omega
 have o:(s.data.toList.drop k).length=s.size-k:=s_
 refine List.ext_getElem? λi=>?_
 rw[ji,ga,ga];by_cases a:i<c
 ·rw[if_pos a,if_pos a,jx];have b:k+i<s.size:=o_
  have e:s.data.toList[k+i]?=some (s.get! (k+i)):=by rw[qB s (k+i) b];simp[b];rfl
  rw[e];match i,a with
  |0,_=>simp
  |1,_=>simp
  |2,_=>simp
  |3,_=>simp
  |j+4,a=>omega
 ·rw[if_neg a,if_neg a];rfl
def AY(s:ByteArray):∀(f k:Nat),s.size-k<=f->dB (s.data.toList.drop k)->Lib.runeCountFrom s f k=(eG (s.data.toList.drop k)).length
 |0,k,d,_=>by
  rw[eC (d7 (ic t_))];rfl
 |f+1,k,d,i=>by
  unfold Lib.runeCountFrom;by_cases h:k<s.size
  ·have a:s.data.toList.drop k≠[]:=λe=>by have:=congrArg List.length e;simp at this;omega
   obtain⟨c,b⟩:=i.ne a;obtain⟨g,_,_⟩:=VA s k h c;rw[if_pos h,g,iT a c,ep];rw[ix] at b ⊢
   rw[AY s f (k+bK (s.data.toList.drop k)) o_ b]
   omega
  ·rw[if_neg h,eC (d7 (ic t_))];rfl
def AK(s:ByteArray):∀(f k:Nat) (acc:Array Value),s.size-k<=f->dB (s.data.toList.drop k)->
 ∃b:List Nat,Conv.runesFrom s f k acc=acc++(b.map λr=>Value.int .i32 (Int.ofNat r)).toArray/\b.length=(eG (s.data.toList.drop k)).length/\(∀r∈b,r<=1114111)/\b.map GJ=eG (s.data.toList.drop k)
 |0,k,acc,n,_=>⟨[],by simp[Conv.runesFrom],by
    rw[eC (d7 (ic t_))];rfl,s_,by
    rw[eC (d7 (ic t_))];rfl⟩
 |f+1,k,acc,n,i=>by
  by_cases h:k<s.size
  ·have a:s.data.toList.drop k≠[]:=λe=>by have:=congrArg List.length e;simp at this;omega
   obtain⟨c,g⟩:=i.ne a;obtain⟨p,m,q⟩:=VA s k h c;rw[ix] at g;obtain⟨b,j,t,l,o⟩:=AK s f (k+bK (s.data.toList.drop k)) (acc.push (.int .i32 (Int.ofNat (Utf8.decode s k).1))) o_ g
   refine⟨(Utf8.decode s k).1::b,?_,?_,?_,?_⟩
   ·unfold Conv.runesFrom;rw[if_pos h];simp only[p];rw[j];simp
   ·rw[iT a c,ep,ep,ix,t]
   ·intro r d;rcases eo.1 d with rfl|d
    ·exact m
    ·exact l r d
   ·rw[iT a c,fg,ix,o,q]
  ·refine⟨[],?_,?_,s_,?_⟩
   ·unfold Conv.runesFrom;rw[if_neg h];simp
   all_goals rw[eC (d7 (ic t_))];rfl
open Go.RowKit
section
variable(v:aQ)(w:aG)
def vM:(typeAssert (.iface 200 v) 67 200 true).run prog w=.ok (.tuple #[v,.bool true]) w:=k_
def wV:(typeAssert (.iface 203 v) 67 200 true).run prog w=.ok (.tuple #[.agg #[I_ 0,I_ 0,.string ⟨#[]⟩,.nilIface],.bool false]) w:=k_
def yO:(typeAssert (.iface 203 v) 67 203 true).run prog w=.ok (.tuple #[v,.bool true]) w:=k_
def uM:(typeAssert (.iface 207 v) 67 200 true).run prog w=.ok (.tuple #[.agg #[I_ 0,I_ 0,.string ⟨#[]⟩,.nilIface],.bool false]) w:=k_
def wT:(typeAssert (.iface 207 v) 67 203 true).run prog w=.ok (.tuple #[.agg #[I_ 0,.string ⟨#[]⟩,bG,.nilIface],.bool false]) w:=k_
def RA:(typeAssert (.iface 207 v) 67 207 true).run prog w=.ok (.tuple #[v,.bool true]) w:=k_
def xY:(typeAssert (.iface 209 v) 67 200 true).run prog w=.ok (.tuple #[.agg #[I_ 0,I_ 0,.string ⟨#[]⟩,.nilIface],.bool false]) w:=k_
def BG:(typeAssert (.iface 209 v) 67 203 true).run prog w=.ok (.tuple #[.agg #[I_ 0,.string ⟨#[]⟩,bG,.nilIface],.bool false]) w:=k_
def QW:(typeAssert (.iface 209 v) 67 207 true).run prog w=.ok (.tuple #[.agg #[I_ 0,.nilIface,bG,bG],.bool false]) w:=k_
def DO:(typeAssert (.iface 209 v) 67 209 true).run prog w=.ok (.tuple #[v,.bool true]) w:=k_
def oT:(typeAssert (.iface 211 v) 67 200 true).run prog w=.ok (.tuple #[.agg #[I_ 0,I_ 0,.string ⟨#[]⟩,.nilIface],.bool false]) w:=k_
def pV:(typeAssert (.iface 211 v) 67 203 true).run prog w=.ok (.tuple #[.agg #[I_ 0,.string ⟨#[]⟩,bG,.nilIface],.bool false]) w:=k_
def wQ:(typeAssert (.iface 211 v) 67 207 true).run prog w=.ok (.tuple #[.agg #[I_ 0,.nilIface,bG,bG],.bool false]) w:=k_
def rD:(typeAssert (.iface 211 v) 67 209 true).run prog w=.ok (.tuple #[.agg #[I_ 0,.nilIface,bG],.bool false]) w:=k_
def pU:(typeAssert (.iface 211 v) 67 211 true).run prog w=.ok (.tuple #[v,.bool true]) w:=k_
def yE:(typeAssert (.iface 212 v) 67 200 true).run prog w=.ok (.tuple #[.agg #[I_ 0,I_ 0,.string ⟨#[]⟩,.nilIface],.bool false]) w:=k_
def BO:(typeAssert (.iface 212 v) 67 203 true).run prog w=.ok (.tuple #[.agg #[I_ 0,.string ⟨#[]⟩,bG,.nilIface],.bool false]) w:=k_
def QY:(typeAssert (.iface 212 v) 67 207 true).run prog w=.ok (.tuple #[.agg #[I_ 0,.nilIface,bG,bG],.bool false]) w:=k_
def DW:(typeAssert (.iface 212 v) 67 209 true).run prog w=.ok (.tuple #[.agg #[I_ 0,.nilIface,bG],.bool false]) w:=k_
def BN:(typeAssert (.iface 212 v) 67 211 true).run prog w=.ok (.tuple #[.agg #[I_ 0,.nilIface],.bool false]) w:=k_
def DX:(typeAssert (.iface 212 v) 67 212 true).run prog w=.ok (.tuple #[v,.bool true]) w:=k_
def BW:(typeAssert (.iface 214 v) 67 200 true).run prog w=.ok (.tuple #[.agg #[I_ 0,I_ 0,.string ⟨#[]⟩,.nilIface],.bool false]) w:=k_
def EG:(typeAssert (.iface 214 v) 67 203 true).run prog w=.ok (.tuple #[.agg #[I_ 0,.string ⟨#[]⟩,bG,.nilIface],.bool false]) w:=k_
def WM:(typeAssert (.iface 214 v) 67 207 true).run prog w=.ok (.tuple #[.agg #[I_ 0,.nilIface,bG,bG],.bool false]) w:=k_
def IY:(typeAssert (.iface 214 v) 67 209 true).run prog w=.ok (.tuple #[.agg #[I_ 0,.nilIface,bG],.bool false]) w:=k_
def EF:(typeAssert (.iface 214 v) 67 211 true).run prog w=.ok (.tuple #[.agg #[I_ 0,.nilIface],.bool false]) w:=k_
def IZ:(typeAssert (.iface 214 v) 67 212 true).run prog w=.ok (.tuple #[.agg #[I_ 0,.nilIface],.bool false]) w:=k_
def NH:(typeAssert (.iface 214 v) 67 214 true).run prog w=.ok (.tuple #[v,.bool true]) w:=k_
def uK:(typeAssert (.iface 217 v) 67 200 true).run prog w=.ok (.tuple #[.agg #[I_ 0,I_ 0,.string ⟨#[]⟩,.nilIface],.bool false]) w:=k_
def vJ:(typeAssert (.iface 217 v) 67 203 true).run prog w=.ok (.tuple #[.agg #[I_ 0,.string ⟨#[]⟩,bG,.nilIface],.bool false]) w:=k_
def DP:(typeAssert (.iface 217 v) 67 207 true).run prog w=.ok (.tuple #[.agg #[I_ 0,.nilIface,bG,bG],.bool false]) w:=k_
def wM:(typeAssert (.iface 217 v) 67 209 true).run prog w=.ok (.tuple #[.agg #[I_ 0,.nilIface,bG],.bool false]) w:=k_
def vI:(typeAssert (.iface 217 v) 67 211 true).run prog w=.ok (.tuple #[.agg #[I_ 0,.nilIface],.bool false]) w:=k_
def wN:(typeAssert (.iface 217 v) 67 212 true).run prog w=.ok (.tuple #[.agg #[I_ 0,.nilIface],.bool false]) w:=k_
def xZ:(typeAssert (.iface 217 v) 67 214 true).run prog w=.ok (.tuple #[.agg #[I_ 0,.string ⟨#[]⟩,bG],.bool false]) w:=k_
def rX:(typeAssert (.iface 217 v) 67 217 true).run prog w=.ok (.tuple #[v,.bool true]) w:=k_
def BT:(typeAssert (.iface 219 v) 67 200 true).run prog w=.ok (.tuple #[.agg #[I_ 0,I_ 0,.string ⟨#[]⟩,.nilIface],.bool false]) w:=k_
def EB:(typeAssert (.iface 219 v) 67 203 true).run prog w=.ok (.tuple #[.agg #[I_ 0,.string ⟨#[]⟩,bG,.nilIface],.bool false]) w:=k_
def WL:(typeAssert (.iface 219 v) 67 207 true).run prog w=.ok (.tuple #[.agg #[I_ 0,.nilIface,bG,bG],.bool false]) w:=k_
def IU:(typeAssert (.iface 219 v) 67 209 true).run prog w=.ok (.tuple #[.agg #[I_ 0,.nilIface,bG],.bool false]) w:=k_
def EA:(typeAssert (.iface 219 v) 67 211 true).run prog w=.ok (.tuple #[.agg #[I_ 0,.nilIface],.bool false]) w:=k_
def IV:(typeAssert (.iface 219 v) 67 212 true).run prog w=.ok (.tuple #[.agg #[I_ 0,.nilIface],.bool false]) w:=k_
def NG:(typeAssert (.iface 219 v) 67 214 true).run prog w=.ok (.tuple #[.agg #[I_ 0,.string ⟨#[]⟩,bG],.bool false]) w:=k_
def yI:(typeAssert (.iface 219 v) 67 217 true).run prog w=.ok (.tuple #[.agg #[I_ 0,.string ⟨#[]⟩],.bool false]) w:=k_
def NF:(typeAssert (.iface 219 v) 67 219 true).run prog w=.ok (.tuple #[v,.bool true]) w:=k_
def yJ:(typeAssert (.iface 221 v) 67 200 true).run prog w=.ok (.tuple #[.agg #[I_ 0,I_ 0,.string ⟨#[]⟩,.nilIface],.bool false]) w:=k_
def BV:(typeAssert (.iface 221 v) 67 203 true).run prog w=.ok (.tuple #[.agg #[I_ 0,.string ⟨#[]⟩,bG,.nilIface],.bool false]) w:=k_
def QZ:(typeAssert (.iface 221 v) 67 207 true).run prog w=.ok (.tuple #[.agg #[I_ 0,.nilIface,bG,bG],.bool false]) w:=k_
def EC:(typeAssert (.iface 221 v) 67 209 true).run prog w=.ok (.tuple #[.agg #[I_ 0,.nilIface,bG],.bool false]) w:=k_
def BU:(typeAssert (.iface 221 v) 67 211 true).run prog w=.ok (.tuple #[.agg #[I_ 0,.nilIface],.bool false]) w:=k_
def ED:(typeAssert (.iface 221 v) 67 212 true).run prog w=.ok (.tuple #[.agg #[I_ 0,.nilIface],.bool false]) w:=k_
def IX:(typeAssert (.iface 221 v) 67 214 true).run prog w=.ok (.tuple #[.agg #[I_ 0,.string ⟨#[]⟩,bG],.bool false]) w:=k_
def wS:(typeAssert (.iface 221 v) 67 217 true).run prog w=.ok (.tuple #[.agg #[I_ 0,.string ⟨#[]⟩],.bool false]) w:=k_
def IW:(typeAssert (.iface 221 v) 67 219 true).run prog w=.ok (.tuple #[.agg #[I_ 0,bG],.bool false]) w:=k_
def EE:(typeAssert (.iface 221 v) 67 221 true).run prog w=.ok (.tuple #[v,.bool true]) w:=k_
def yA:(typeAssert (.iface 223 v) 67 200 true).run prog w=.ok (.tuple #[.agg #[I_ 0,I_ 0,.string ⟨#[]⟩,.nilIface],.bool false]) w:=k_
def BI:(typeAssert (.iface 223 v) 67 203 true).run prog w=.ok (.tuple #[.agg #[I_ 0,.string ⟨#[]⟩,bG,.nilIface],.bool false]) w:=k_
def QX:(typeAssert (.iface 223 v) 67 207 true).run prog w=.ok (.tuple #[.agg #[I_ 0,.nilIface,bG,bG],.bool false]) w:=k_
def DQ:(typeAssert (.iface 223 v) 67 209 true).run prog w=.ok (.tuple #[.agg #[I_ 0,.nilIface,bG],.bool false]) w:=k_
def BH:(typeAssert (.iface 223 v) 67 211 true).run prog w=.ok (.tuple #[.agg #[I_ 0,.nilIface],.bool false]) w:=k_
def DS:(typeAssert (.iface 223 v) 67 212 true).run prog w=.ok (.tuple #[.agg #[I_ 0,.nilIface],.bool false]) w:=k_
def IT:(typeAssert (.iface 223 v) 67 214 true).run prog w=.ok (.tuple #[.agg #[I_ 0,.string ⟨#[]⟩,bG],.bool false]) w:=k_
def wO:(typeAssert (.iface 223 v) 67 217 true).run prog w=.ok (.tuple #[.agg #[I_ 0,.string ⟨#[]⟩],.bool false]) w:=k_
def IS:(typeAssert (.iface 223 v) 67 219 true).run prog w=.ok (.tuple #[.agg #[I_ 0,bG],.bool false]) w:=k_
def DT:(typeAssert (.iface 223 v) 67 221 true).run prog w=.ok (.tuple #[.agg #[I_ 0,.nilIface,.nilIface],.bool false]) w:=k_
def DR:(typeAssert (.iface 223 v) 67 223 true).run prog w=.ok (.tuple #[v,.bool true]) w:=k_
def wU:(typeAssert (.iface 225 v) 67 200 true).run prog w=.ok (.tuple #[.agg #[I_ 0,I_ 0,.string ⟨#[]⟩,.nilIface],.bool false]) w:=k_
def yN:(typeAssert (.iface 225 v) 67 203 true).run prog w=.ok (.tuple #[.agg #[I_ 0,.string ⟨#[]⟩,bG,.nilIface],.bool false]) w:=k_
def NK:(typeAssert (.iface 225 v) 67 207 true).run prog w=.ok (.tuple #[.agg #[I_ 0,.nilIface,bG,bG],.bool false]) w:=k_
def BY:(typeAssert (.iface 225 v) 67 209 true).run prog w=.ok (.tuple #[.agg #[I_ 0,.nilIface,bG],.bool false]) w:=k_
def yL:(typeAssert (.iface 225 v) 67 211 true).run prog w=.ok (.tuple #[.agg #[I_ 0,.nilIface],.bool false]) w:=k_
def CC:(typeAssert (.iface 225 v) 67 212 true).run prog w=.ok (.tuple #[.agg #[I_ 0,.nilIface],.bool false]) w:=k_
def EL:(typeAssert (.iface 225 v) 67 214 true).run prog w=.ok (.tuple #[.agg #[I_ 0,.string ⟨#[]⟩,bG],.bool false]) w:=k_
def vN:(typeAssert (.iface 225 v) 67 217 true).run prog w=.ok (.tuple #[.agg #[I_ 0,.string ⟨#[]⟩],.bool false]) w:=k_
def EK:(typeAssert (.iface 225 v) 67 219 true).run prog w=.ok (.tuple #[.agg #[I_ 0,bG],.bool false]) w:=k_
def CD:(typeAssert (.iface 225 v) 67 221 true).run prog w=.ok (.tuple #[.agg #[I_ 0,.nilIface,.nilIface],.bool false]) w:=k_
def BZ:(typeAssert (.iface 225 v) 67 223 true).run prog w=.ok (.tuple #[.agg #[I_ 0,.string ⟨#[]⟩,.nilIface],.bool false]) w:=k_
def yM:(typeAssert (.iface 225 v) 67 225 true).run prog w=.ok (.tuple #[v,.bool true]) w:=k_
def wR:(typeAssert (.iface 267 v) 67 200 true).run prog w=.ok (.tuple #[.agg #[I_ 0,I_ 0,.string ⟨#[]⟩,.nilIface],.bool false]) w:=k_
def yH:(typeAssert (.iface 267 v) 67 203 true).run prog w=.ok (.tuple #[.agg #[I_ 0,.string ⟨#[]⟩,bG,.nilIface],.bool false]) w:=k_
def NE:(typeAssert (.iface 267 v) 67 207 true).run prog w=.ok (.tuple #[.agg #[I_ 0,.nilIface,bG,bG],.bool false]) w:=k_
def BP:(typeAssert (.iface 267 v) 67 209 true).run prog w=.ok (.tuple #[.agg #[I_ 0,.nilIface,bG],.bool false]) w:=k_
def yF:(typeAssert (.iface 267 v) 67 211 true).run prog w=.ok (.tuple #[.agg #[I_ 0,.nilIface],.bool false]) w:=k_
def BR:(typeAssert (.iface 267 v) 67 212 true).run prog w=.ok (.tuple #[.agg #[I_ 0,.nilIface],.bool false]) w:=k_
def DZ:(typeAssert (.iface 267 v) 67 214 true).run prog w=.ok (.tuple #[.agg #[I_ 0,.string ⟨#[]⟩,bG],.bool false]) w:=k_
def vL:(typeAssert (.iface 267 v) 67 217 true).run prog w=.ok (.tuple #[.agg #[I_ 0,.string ⟨#[]⟩],.bool false]) w:=k_
def DY:(typeAssert (.iface 267 v) 67 219 true).run prog w=.ok (.tuple #[.agg #[I_ 0,bG],.bool false]) w:=k_
def BS:(typeAssert (.iface 267 v) 67 221 true).run prog w=.ok (.tuple #[.agg #[I_ 0,.nilIface,.nilIface],.bool false]) w:=k_
def BQ:(typeAssert (.iface 267 v) 67 223 true).run prog w=.ok (.tuple #[.agg #[I_ 0,.string ⟨#[]⟩,.nilIface],.bool false]) w:=k_
def yG:(typeAssert (.iface 267 v) 67 225 true).run prog w=.ok (.tuple #[.agg #[I_ 0,.string ⟨#[]⟩,.nilIface,.nilIface],.bool false]) w:=k_
def wP:(typeAssert (.iface 268 v) 67 200 true).run prog w=.ok (.tuple #[.agg #[I_ 0,I_ 0,.string ⟨#[]⟩,.nilIface],.bool false]) w:=k_
def yD:(typeAssert (.iface 268 v) 67 203 true).run prog w=.ok (.tuple #[.agg #[I_ 0,.string ⟨#[]⟩,bG,.nilIface],.bool false]) w:=k_
def ND:(typeAssert (.iface 268 v) 67 207 true).run prog w=.ok (.tuple #[.agg #[I_ 0,.nilIface,bG,bG],.bool false]) w:=k_
def BJ:(typeAssert (.iface 268 v) 67 209 true).run prog w=.ok (.tuple #[.agg #[I_ 0,.nilIface,bG],.bool false]) w:=k_
def yB:(typeAssert (.iface 268 v) 67 211 true).run prog w=.ok (.tuple #[.agg #[I_ 0,.nilIface],.bool false]) w:=k_
def BL:(typeAssert (.iface 268 v) 67 212 true).run prog w=.ok (.tuple #[.agg #[I_ 0,.nilIface],.bool false]) w:=k_
def DV:(typeAssert (.iface 268 v) 67 214 true).run prog w=.ok (.tuple #[.agg #[I_ 0,.string ⟨#[]⟩,bG],.bool false]) w:=k_
def vK:(typeAssert (.iface 268 v) 67 217 true).run prog w=.ok (.tuple #[.agg #[I_ 0,.string ⟨#[]⟩],.bool false]) w:=k_
def DU:(typeAssert (.iface 268 v) 67 219 true).run prog w=.ok (.tuple #[.agg #[I_ 0,bG],.bool false]) w:=k_
def BM:(typeAssert (.iface 268 v) 67 221 true).run prog w=.ok (.tuple #[.agg #[I_ 0,.nilIface,.nilIface],.bool false]) w:=k_
def BK:(typeAssert (.iface 268 v) 67 223 true).run prog w=.ok (.tuple #[.agg #[I_ 0,.string ⟨#[]⟩,.nilIface],.bool false]) w:=k_
def yC:(typeAssert (.iface 268 v) 67 225 true).run prog w=.ok (.tuple #[.agg #[I_ 0,.string ⟨#[]⟩,.nilIface,.nilIface],.bool false]) w:=k_
def BX:(typeAssert (.iface 270 v) 67 200 true).run prog w=.ok (.tuple #[.agg #[I_ 0,I_ 0,.string ⟨#[]⟩,.nilIface],.bool false]) w:=k_
def EJ:(typeAssert (.iface 270 v) 67 203 true).run prog w=.ok (.tuple #[.agg #[I_ 0,.string ⟨#[]⟩,bG,.nilIface],.bool false]) w:=k_
def WN:(typeAssert (.iface 270 v) 67 207 true).run prog w=.ok (.tuple #[.agg #[I_ 0,.nilIface,bG,bG],.bool false]) w:=k_
def JA:(typeAssert (.iface 270 v) 67 209 true).run prog w=.ok (.tuple #[.agg #[I_ 0,.nilIface,bG],.bool false]) w:=k_
def EH:(typeAssert (.iface 270 v) 67 211 true).run prog w=.ok (.tuple #[.agg #[I_ 0,.nilIface],.bool false]) w:=k_
def JC:(typeAssert (.iface 270 v) 67 212 true).run prog w=.ok (.tuple #[.agg #[I_ 0,.nilIface],.bool false]) w:=k_
def NJ:(typeAssert (.iface 270 v) 67 214 true).run prog w=.ok (.tuple #[.agg #[I_ 0,.string ⟨#[]⟩,bG],.bool false]) w:=k_
def yK:(typeAssert (.iface 270 v) 67 217 true).run prog w=.ok (.tuple #[.agg #[I_ 0,.string ⟨#[]⟩],.bool false]) w:=k_
def NI:(typeAssert (.iface 270 v) 67 219 true).run prog w=.ok (.tuple #[.agg #[I_ 0,bG],.bool false]) w:=k_
def JD:(typeAssert (.iface 270 v) 67 221 true).run prog w=.ok (.tuple #[.agg #[I_ 0,.nilIface,.nilIface],.bool false]) w:=k_
def JB:(typeAssert (.iface 270 v) 67 223 true).run prog w=.ok (.tuple #[.agg #[I_ 0,.string ⟨#[]⟩,.nilIface],.bool false]) w:=k_
def EI:(typeAssert (.iface 270 v) 67 225 true).run prog w=.ok (.tuple #[.agg #[I_ 0,.string ⟨#[]⟩,.nilIface,.nilIface],.bool false]) w:=k_
end
def GX{c:UInt8}(h:eO c=true):48<=c.toNat/\c.toNat<=57:=by
 unfold eO at h;simpa using h
def VY(n:Nat)(c:UInt8)(r:cC)(h:48<=c.toNat/\c.toNat<=57):dQ n (c::r)=if 9223372036854775807<n*10+(c.toNat-48) then none else dQ (n*10+(c.toNat-48)) r:=by
 rw[dQ];unfold OM;have e:((9223372036854775807-(c.toNat-48))/10<n)↔(9223372036854775807<n*10+(c.toNat-48)):=o_
 rw[Nat.mul_comm 10 n];by_cases a:9223372036854775807<n*10+(c.toNat-48)
 ·rw[if_pos (e.2 a),if_pos a]
 ·rw[if_neg (λx=>a (e.1 x)),if_neg a]
def i6:∀(l:cC) (acc:Nat),(∀c∈l,eO c=true)->9223372036854775807<acc->Lib.parseUintM (2 ^ 64-1) acc l=.range\/∃u,Lib.parseUintM (2 ^ 64-1) acc l=.ok u/\9223372036854775808<=u
 |[],acc,_,h=>d6 ⟨acc,rfl,o_⟩
 |c::r,acc,a,h=>by
  have d:=GX (a c (fw ..));rw[Lib.parseUintM,if_pos d];by_cases b:1844674407370955162<=acc
  ·rw[if_pos b];exact d7 rfl
  ·omega
def DM:∀(l:cC) (acc:Nat),(∀c∈l,eO c=true)->acc<=9223372036854775807->
 (∃v,dQ acc l=some v/\Lib.parseUintM (2 ^ 64-1) acc l=.ok v/\v<=9223372036854775807)\/(dQ acc l=none/\(Lib.parseUintM (2 ^ 64-1) acc l=.range\/∃u,Lib.parseUintM (2 ^ 64-1) acc l=.ok u/\9223372036854775808<=u))
 |[],acc,_,h=>d7 ⟨acc,rfl,rfl,h⟩
 |c::r,acc,b,h=>by
  have g:=GX (b c (fw ..));have e:∀x∈r,eO x=true:=λx i=>b x (fe _ i)
  rw[VY acc c r g,Lib.parseUintM,if_pos g];by_cases a:9223372036854775807<acc*10+(c.toNat-48)
  ·refine d6 ⟨if_pos a,?_⟩;by_cases d:1844674407370955162<=acc
   ·rw[if_pos d];exact d7 rfl
   ·rw[if_neg d];by_cases f:2 ^ 64-1<acc*10+(c.toNat-48)
    ·rw[if_pos f];exact d7 rfl
    ·rw[if_neg f];exact i6 r _ e a
  ·rw[if_neg a,if_neg o_,if_neg o_]
   exact DM r _ e o_
def S5(l:cC)(e:∀c∈l,eO c=true)(d:l≠[]):(∃v,dQ 0 l=some v/\Lib.parseIntB 64 l=.ok (v:Int))\/(dQ 0 l=none/\Lib.parseIntB 64 l=.range):=by
 cases l with
 |nil=>exact absurd rfl d
 |cons c r=>
  have i:=GX (e c (fw ..));have h:¬(c.toNat=43\/c.toNat=45):=o_
  have f:¬c.toNat=45:=o_
  unfold Lib.parseIntB;simp only[if_neg h];unfold Lib.parseUintB;rw[if_neg s_]
  rcases DM (c::r) 0 e o_ with ⟨v,b,a,g⟩|⟨b,a|⟨u,a,g⟩⟩
  ·refine d7 ⟨v,b,?_⟩;rw[a];simp only[f];rw[if_neg o_]
   simp
  ·exact d6 ⟨b,by rw[a]⟩
  ·refine d6 ⟨b,?_⟩;rw[a];simp only[f];rw[if_pos ⟨s_,o_⟩]
end Go.Proofs.YtlflgmdcghfngaaGreatDoor
