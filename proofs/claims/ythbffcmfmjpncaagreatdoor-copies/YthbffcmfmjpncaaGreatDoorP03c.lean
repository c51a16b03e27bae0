/- Contracts of the program: which sort a value is of. -/
import Derived.Test.YthbffcmfmjpncaaGreatDoorB00c
import Derived.Test.YthbffcmfmjpncaaGreatDoorP00c
set_option linter.defProp false
set_option maxRecDepth 100000
set_option maxHeartbeats 4000000
namespace Go.Proofs.YthbffcmfmjpncaaGreatDoor
open Hs
open _root_.Go.Proofs.Tryz
open Instr(typeAssert)
open Go.RowKit
section
variable(v:Value)(w:World)
def lK:(typeAssert (.iface 229 v) 180 229 true).run prog w=.ok (.tuple #[v,.bool true]) w:=k_
def NV:(typeAssert (.iface 229 v) 180 230 true).run prog w=.ok (.tuple #[.bool false,.bool false]) w:=k_
def mR:(typeAssert (.iface 229 v) 180 232 true).run prog w=.ok (.tuple #[.string ⟨#[]⟩,.bool false]) w:=k_
def jC:(typeAssert (.iface 229 v) 180 233 true).run prog w=.ok (.tuple #[.slice none 0 0,.bool false]) w:=k_
def kN:(typeAssert (.iface 230 v) 180 229 true).run prog w=.ok (.tuple #[.int .i64 0,.bool false]) w:=k_
def uH:(typeAssert (.iface 230 v) 180 230 true).run prog w=.ok (.tuple #[v,.bool true]) w:=k_
def kM:(typeAssert (.iface 230 v) 180 232 true).run prog w=.ok (.tuple #[.string ⟨#[]⟩,.bool false]) w:=k_
def gQ:(typeAssert (.iface 230 v) 180 233 true).run prog w=.ok (.tuple #[.slice none 0 0,.bool false]) w:=k_
def lJ:(typeAssert (.iface 232 v) 180 229 true).run prog w=.ok (.tuple #[.int .i64 0,.bool false]) w:=k_
def xS:(typeAssert (.iface 232 v) 180 230 true).run prog w=.ok (.tuple #[.bool false,.bool false]) w:=k_
def kG:(typeAssert (.iface 232 v) 180 232 true).run prog w=.ok (.tuple #[v,.bool true]) w:=k_
def kK:(typeAssert (.iface 232 v) 180 233 true).run prog w=.ok (.tuple #[.slice none 0 0,.bool false]) w:=k_
def kL:(typeAssert (.iface 233 v) 180 229 true).run prog w=.ok (.tuple #[.int .i64 0,.bool false]) w:=k_
def uG:(typeAssert (.iface 233 v) 180 230 true).run prog w=.ok (.tuple #[.bool false,.bool false]) w:=k_
def lX:(typeAssert (.iface 233 v) 180 232 true).run prog w=.ok (.tuple #[.string ⟨#[]⟩,.bool false]) w:=k_
def gP:(typeAssert (.iface 233 v) 180 233 true).run prog w=.ok (.tuple #[v,.bool true]) w:=k_
end
def nF(n b0 b1 b2 b3:Nat):Nat:=
 if b0<128 then 1
 else if 194<=b0/\b0<=223 then (if 1<n/\128<=b1/\b1<=191 then 2 else 0)
 else if 224<=b0/\b0<=239 then
  (if (1<n/\(if b0=224 then 160 else 128)<=b1/\b1<=(if b0=237 then 159 else 191))/\(2<n/\128<=b2/\b2<=191) then 3 else 0)
 else if 240<=b0/\b0<=244 then
  (if ((1<n/\(if b0=240 then 144 else 128)<=b1/\b1<=(if b0=244 then 143 else 191))/\(2<n/\128<=b2/\b2<=191))/\(3<n/\128<=b3/\b3<=191) then 4 else 0)
 else 0
def Q0(n a b d c:Nat)(o:a<256)(p:b<256)(m:d<256)(q:c<256):
 (nF n a b d c=0->Lib.decodeN n a b d c=(65533,1))/\(nF n a b d c≠0->(Lib.decodeN n a b d c).2=nF n a b d c/\¬((Lib.decodeN n a b d c).1=65533/\nF n a b d c=1)/\((Lib.decodeN n a b d c).1=10↔a=10)):=by
 have i:b/64=2↔128<=b/\b<=191:=o_
 have f:d/64=2↔128<=d/\d<=191:=o_
 have g:c/64=2↔128<=c/\c<=191:=o_
 have k:a/32=6↔192<=a/\a<=223:=o_
 have l:a/16=14↔224<=a/\a<=239:=o_
 have j:a/8=30↔240<=a/\a<=247:=o_
 unfold nF Lib.decodeN;simp only[i,f,g,k,l,j];by_cases e:a<128
 ·simp only[if_pos e];exact⟨λh=>absurd h o_,λ_=>⟨trivial,o_,trivial⟩⟩
 ·simp only[if_neg e];repeat' split
  all_goals first
   |(refine⟨λ_=>rfl,λh=>absurd rfl h⟩)
   |(refine⟨λh=>absurd h o_,λ_=>⟨rfl,?_,?_⟩⟩<;>(simp only;omega))
   |(exfalso;omega)
def oL(s:ByteArray)(i:Nat)(h:i<s.size):s.get! i=s[i]:=by
 show s.data[i]! =s.data[i]
 rw[getElem!_pos s.data i (by simpa using h)]
def Y9(s:ByteArray)(i lo a:Nat):dF s.data.toList i lo a=decide (i<s.size/\lo<=(s.get! i).toNat/\(s.get! i).toNat<=a):=by
 unfold dF;by_cases h:i<s.size
 ·have e:s.data.toList[i]?=some s[i]:=by simp[h];rfl
  rw[e,oL s i h];simp[h]
 ·have e:s.data.toList[i]?=none:=gg (by simpa using (by omega:s.size<=i))
  rw[e];simp[h]
def b9(s:ByteArray)(h:0<s.size):bC s.data.toList=nF s.size (s.get! 0).toNat (s.get! 1).toNat (s.get! 2).toNat (s.get! 3).toNat:=by
 unfold bC nF;have e:s.data.toList[0]?=some s[0]:=by simp[h];rfl
 rw[e,<-oL s 0 h];simp only[Y9,fq,decide_eq_true_eq]
def C4(s:ByteArray)(k i lo b:Nat):dF (s.data.toList.drop k) i lo b=decide (i<s.size-k/\lo<=(s.get! (k+i)).toNat/\(s.get! (k+i)).toNat<=b):=by
 unfold dF;rw[jj];by_cases h:k+i<s.size
 ·have e:s.data.toList[k+i]?=some s[k+i]:=by simp[h];rfl
  rw[e,oL s (k+i) h];have a:i<s.size-k:=o_
  simp[a]
 ·have e:s.data.toList[k+i]?=none:=gg (by simpa using (by omega:s.size<=k+i))
  rw[e];have a:¬i<s.size-k:=o_
  simp[a]
def F4(s:ByteArray)(k:Nat)(h:k<s.size):bC (s.data.toList.drop k)=nF (s.size-k) (s.get! k).toNat (s.get! (k+1)).toNat (s.get! (k+2)).toNat (s.get! (k+3)).toNat:=by
 unfold bC nF;have e:(s.data.toList.drop k)[0]?=some s[k]:=by rw[jj];simp[h];rfl
 rw[e,<-oL s k h];simp only[C4,fq,decide_eq_true_eq]
def DW(r:Nat):List UInt8:=(Utf8.encode (Int.ofNat r)).data.toList
def AQ(r:Nat)(h:r<55296\/(57344<=r/\r<=1114111)):DW r=if r<128 then [UInt8.ofNat r] else if r<2048 then [UInt8.ofNat (192+r/64),UInt8.ofNat (128+r%64)] else if r<65536 then [UInt8.ofNat (224+r/4096),UInt8.ofNat (128+r/64%64),UInt8.ofNat (128+r%64)]
 else [UInt8.ofNat (240+r/262144),UInt8.ofNat (128+r/4096%64),UInt8.ofNat (128+r/64%64),UInt8.ofNat (128+r%64)]:=by
 have a:Utf8.valid (Int.ofNat r)=true:=by
  unfold Utf8.valid;simp only[iu,fq,decide_eq_true_eq,Int.ofNat_eq_natCast];omega
 have b:(if Utf8.valid (Int.ofNat r) then (Int.ofNat r).toNat else Utf8.runeError)=r:=by rw[if_pos a];rfl
 unfold DW Utf8.encode;simp only[b];repeat' split
 all_goals rfl
def Z4(n a b c f:Nat)(y:a<256)(d:nF n a b c f≠0):
 (Lib.decodeN n a b c f).2=nF n a b c f/\(Lib.decodeN n a b c f).1<=1114111/\DW (Lib.decodeN n a b c f).1=([a,b,c,f].take (nF n a b c f)).map UInt8.ofNat:=by
 have s:a/32=6↔192<=a/\a<=223:=o_
 have u:a/16=14↔224<=a/\a<=239:=o_
 have v:a/8=30↔240<=a/\a<=247:=o_
 unfold nF at d ⊢
 unfold Lib.decodeN;by_cases m:a<128
 ·simp only[if_pos m];refine⟨trivial,o_,?_⟩
  rw[AQ _ o_,if_pos m];rfl
 simp only[if_neg m] at d ⊢
 by_cases t:194<=a/\a<=223
 ·rw[if_pos t] at d ⊢
  by_cases l:1<n/\128<=b/\b<=191
  ·rw[if_pos l] at d ⊢
   rw[if_pos ⟨s.2 o_,l.1,o_⟩,if_pos o_]
   refine⟨rfl,o_,?_⟩
   rw[AQ _ o_,if_neg o_,if_pos o_]
   simp only[ib,jl,ew,fw];rw[show 192+(a%32*64+b%64)/64=a by omega,show 128+(a%32*64+b%64)%64=b by omega]
  ·rw[if_neg l] at d;exact absurd rfl d
 rw[if_neg t] at d ⊢
 by_cases j:224<=a/\a<=239
 ·rw[if_pos j] at d ⊢
  by_cases i:(1<n/\(if a=224 then 160 else 128)<=b/\b<=(if a=237 then 159 else 191))/\(2<n/\128<=c/\c<=191)
  ·rw[if_pos i] at d ⊢
   have w:128<=b:=by have:=i.1.2.1;split at this<;>omega
   have x:b<=191:=by have:=i.1.2.2;split at this<;>omega
   have o:a=224->160<=b:=λe=>by have:=i.1.2.1;rw[if_pos e] at this;exact this
   have p:a=237->b<=159:=λe=>by have:=i.1.2.2;rw[if_pos e] at this;exact this
   rw[if_neg (λh=>by have:=s.1 h.1;omega),if_pos ⟨u.2 j,⟨i.1.1,o_⟩,i.2.1,o_⟩]
   have q:2048<=a%16*4096+b%64*64+c%64:=by
    rcases g8 j.1 with e|e
    ·have:=o e.symm;omega
    ·omega
   have r:a%16*4096+b%64*64+c%64<55296\/(57344<=a%16*4096+b%64*64+c%64/\a%16*4096+b%64*64+c%64<=1114111):=by
    by_cases e:a=237
    ·have:=p e;omega
    ·omega
   rw[if_pos ⟨q,o_⟩]
   refine⟨rfl,o_,?_⟩
   rw[AQ _ r,if_neg o_,if_neg o_,if_pos o_]
   simp only[ib,jl,ew,fw];rw[show 224+(a%16*4096+b%64*64+c%64)/4096=a by omega,show 128+(a%16*4096+b%64*64+c%64)/64%64=b by omega,show 128+(a%16*4096+b%64*64+c%64)%64=c by omega]
  ·rw[if_neg i] at d;exact absurd rfl d
 rw[if_neg j] at d ⊢
 by_cases k:240<=a/\a<=244
 ·rw[if_pos k] at d ⊢
  by_cases g:((1<n/\(if a=240 then 144 else 128)<=b/\b<=(if a=244 then 143 else 191))/\(2<n/\128<=c/\c<=191))/\(3<n/\128<=f/\f<=191)
  ·rw[if_pos g] at d ⊢
   have w:128<=b:=by have:=g.1.1.2.1;split at this<;>omega
   have x:b<=191:=by have:=g.1.1.2.2;split at this<;>omega
   have o:a=240->144<=b:=λe=>by have:=g.1.1.2.1;rw[if_pos e] at this;exact this
   have p:a=244->b<=143:=λe=>by have:=g.1.1.2.2;rw[if_pos e] at this;exact this
   rw[if_neg (λh=>by have:=s.1 h.1;omega),if_neg (λh=>by have:=u.1 h.1;omega),if_pos ⟨v.2 o_,⟨g.1.1.1,o_⟩,⟨g.1.2.1,o_⟩,g.2.1,o_⟩]
   have q:65536<=a%8*262144+b%64*4096+c%64*64+f%64:=by
    rcases g8 k.1 with e|e
    ·have:=o e.symm;omega
    ·omega
   have r:a%8*262144+b%64*4096+c%64*64+f%64<=1114111:=by
    rcases g8 k.2 with e|e
    ·have:=p e;omega
    ·omega
   rw[if_pos ⟨q,o_⟩]
   refine⟨rfl,r,?_⟩;rw[AQ _ o_,if_neg o_,if_neg o_,if_neg o_]
   simp only[ib,jl,ew,fw];rw[show 240+(a%8*262144+b%64*4096+c%64*64+f%64)/262144=a by omega,show 128+(a%8*262144+b%64*4096+c%64*64+f%64)/4096%64=b by omega,show 128+(a%8*262144+b%64*4096+c%64*64+f%64)/64%64=c by omega,show 128+(a%8*262144+b%64*4096+c%64*64+f%64)%64=f by omega]
  ·rw[if_neg g] at d;exact absurd rfl d
 ·rw[if_neg k] at d;exact absurd rfl d
def RR(s:ByteArray)(k:Nat)(h:k<s.size)(f:bC (s.data.toList.drop k)≠0):
 (Utf8.decode s k).2=bC (s.data.toList.drop k)/\(Utf8.decode s k).1<=1114111/\DW (Utf8.decode s k).1=(s.data.toList.drop k).take (bC (s.data.toList.drop k)):=by
 have d:= @kD (s.data.toList.drop k);rw[F4 s k h] at f d ⊢
 obtain⟨l,n,m⟩:=Z4 (s.size-k) (s.get! k).toNat (s.get! (k+1)).toNat (s.get! (k+2)).toNat (s.get! (k+3)).toNat (iw _) f;rw[Lib.decode_at];refine⟨l,n,m.trans ?_⟩;generalize g:nF (s.size-k) (s.get! k).toNat (s.get! (k+1)).toNat (s.get! (k+2)).toNat (s.get! (k+3)).toNat=c at*
 have p:c<=4:=by rw[<-g];unfold nF;repeat' split
                 all_goals omega
 have o:(s.data.toList.drop k).length=s.size-k:=s_
 refine List.ext_getElem? λi=>?_
 rw[ix,fm,fm];by_cases a:i<c
 ·rw[if_pos a,if_pos a,jj];have b:k+i<s.size:=o_
  have e:s.data.toList[k+i]?=some (s.get! (k+i)):=by rw[oL s (k+i) b];simp[b];rfl
  rw[e];match i,a with
  |0,_=>simp
  |1,_=>simp
  |2,_=>simp
  |3,_=>simp
  |j+4,a=>omega
 ·rw[if_neg a,if_neg a];rfl
def yQ(s:ByteArray):∀(f k:Nat),s.size-k<=f->cP (s.data.toList.drop k)->Lib.runeCountFrom s f k=(dW (s.data.toList.drop k)).length
 |0,k,d,_=>by
  rw[dR (d6 (hC t_))];rfl
 |f+1,k,d,i=>by
  unfold Lib.runeCountFrom;by_cases h:k<s.size
  ·have a:s.data.toList.drop k≠[]:=λe=>by have:=congrArg List.length e;simp at this;omega
   obtain⟨c,b⟩:=i.ne a;obtain⟨g,_,_⟩:=RR s k h c;rw[if_pos h,g,iI a c,ek];rw[ij] at b ⊢
   rw[yQ s f (k+bC (s.data.toList.drop k)) o_ b]
   omega
  ·rw[if_neg h,dR (d6 (hC t_))];rfl
def yC(s:ByteArray):∀(f k:Nat) (acc:Array Value),s.size-k<=f->cP (s.data.toList.drop k)->
 ∃b:List Nat,Conv.runesFrom s f k acc=acc++(b.map λr=>Value.int .i32 (Int.ofNat r)).toArray/\b.length=(dW (s.data.toList.drop k)).length/\(∀r∈b,r<=1114111)/\b.map DW=dW (s.data.toList.drop k)
 |0,k,acc,n,_=>⟨[],by simp[Conv.runesFrom],by
    rw[dR (d6 (hC t_))];rfl,s_,by
    rw[dR (d6 (hC t_))];rfl⟩
 |f+1,k,acc,n,i=>by
  by_cases h:k<s.size
  ·have a:s.data.toList.drop k≠[]:=λe=>by have:=congrArg List.length e;simp at this;omega
   obtain⟨c,g⟩:=i.ne a;obtain⟨p,m,q⟩:=RR s k h c;rw[ij] at g;obtain⟨b,j,t,l,o⟩:=yC s f (k+bC (s.data.toList.drop k)) (acc.push (.int .i32 (Int.ofNat (Utf8.decode s k).1))) o_ g
   refine⟨(Utf8.decode s k).1::b,?_,?_,?_,?_⟩
   ·unfold Conv.runesFrom;rw[if_pos h];simp only[p];rw[j];simp
   ·rw[iI a c,ek,ek,ij,t]
   ·intro r d;rcases en.1 d with rfl|d
    ·exact m
    ·exact l r d
   ·rw[iI a c,ew,ij,o,q]
  ·refine⟨[],?_,?_,s_,?_⟩
   ·unfold Conv.runesFrom;rw[if_neg h];simp
   all_goals rw[dR (d6 (hC t_))];rfl
end Go.Proofs.YthbffcmfmjpncaaGreatDoor
