/- Contracts of the document's answer, the first part: lines, characters. -/
import Derived.Test.YthbffcmfmjpncaaGreatDoorB00k
import Derived.Test.YthbffcmfmjpncaaGreatDoorP00k
set_option linter.defProp false
set_option maxRecDepth 100000
set_option maxHeartbeats 4000000
namespace Go.Proofs.YthbffcmfmjpncaaGreatDoor
open Hs
open _root_.Go.Proofs.Tryz
open Go.RowKit
variable{S:Except Nat Nat}{x:List UInt8}{acc ks:List aC}{b b_ i l n p pb q:Nat}{F G:Nat->Prop}{e:TypeId}{kv v:Value}{R:Value->aC->Prop}{a c w w' w1 w2:World}
def sH(s:ByteArray)(k:Nat)(h:k<s.size):s.data.toList.take (k+1)=s.data.toList.take k++[s[k]]:=by
 rw[KA (by simpa using h)];rfl
def hQ{k:IntKind}{a b:Int}(h:a=b):Ending.returned (.int k a)=.returned (.int k b):=by rw[h]
def cK{a b:Bool}(h:a=b):Ending.returned (.bool a)=.returned (.bool b):=by rw[h]
def zM(c d:UInt8):(c=d)↔((c.toNat:Int)=(d.toNat:Int)):=by
 rw[<-LR];omega
def yL(s:ByteArray)(n:Nat)(w:World)(j:s.size<=2000000000)(l:n<=s.size):
 Calls prog 47 #[.string s,.int .i64 n] w λe d=>e=.returned (.int .i64 (aL (s.data.toList.take n)))/\d=w:=by
 go_enter func47,ntmps47;go_wp2
 go_loop [5,6] (λt i=>∃k:Nat,k<=n/\i=.int .i64 k/\t=.int .i64 (aL (s.data.toList.take k))) (λ_ i=>n-(intOf i).toNat)
 case atStart=>exact⟨0,LC _,rfl,rfl⟩
 case round=>
  obtain⟨k,f,rfl,rfl⟩:=hrel
  have g:aL (s.data.toList.take k)<=k+1:=by
   have:=gJ (s.data.toList.take k);have:=LQ k s.data.toList;omega
  by_cases c:k<n
  ·have a:k<s.size:=o_
   have b:Hid (aL (s.data.toList.take (k+1))=aL (s.data.toList.take k)+if s[k]=10 then 1 else 0):=by
    rw[sH s k a,kA];rfl
   go_wp2
   ·go_round
    case rel=>exact⟨k+1,o_,by go_num,by rw[b.out,if_pos (by rw[zM];simpa using ‹(_==(10:Int))=true›)];go_num⟩
    case measure=>simp[intOf];omega
   ·go_round
    case rel=>exact⟨k+1,o_,by go_num,by rw[b.out,if_neg (by rw[zM];simpa using ‹(_==(10:Int))=false›)];go_num⟩
    case measure=>simp[intOf];omega
  ·go_wp2
   go_ret;exact⟨hQ (by rw[show k=n by omega]),rfl⟩
def dC(c:UInt8):(c.toNat:Int)<=255:=by have:=c.toNat_lt;omega
def jI(s:ByteArray)(k:Nat)(h:k<s.size):s.data.toList[k]?=some s[k]:=by
 simp[h];rfl
def iB(s:ByteArray)(n i:Nat)(h:n+i<s.size):(s.data.toList.drop n)[i]?=some s[n+i]:=by
 rw[List.getElem?_drop];exact jI s _ h
def lG(s:ByteArray)(n i:Nat)(h:s.size<=n+i):(s.data.toList.drop n)[i]?=none:=by
 rw[List.getElem?_drop,KI];simpa using h
def GG(s:ByteArray)(k lo a:Nat)(h:k<s.size):bK s.data.toList k lo a=(decide (lo<=s[k].toNat) && decide (s[k].toNat<=a)):=by
 unfold bK;rw[jI s k h]
def wB(s:ByteArray)(k lo a:Nat)(h:s.size<=k):bK s.data.toList k lo a=false:=by
 unfold bK;rw[KI (by simpa using h)]
def AB(s:ByteArray)(n lo a:Nat)(w:World)(_hs:s.size<=2000000000)(d:n<s.size):
 Calls prog 129 #[.string s,.int .i64 n,.int .i64 lo,.int .i64 a] w λe b=>e=.returned (.bool (bK s.data.toList n lo a))/\b=w:=by
 have f:(s[n].toNat:Int)<=255:=dC s[n];have c:Hid (bK s.data.toList n lo a=(decide (lo<=s[n].toNat) && decide (s[n].toNat<=a))):=GG s n lo a d;go_enter func129,ntmps129;go_wp2
 all_goals
  go_ret;exact⟨cK (by rw[c.out];simp[*]),rfl⟩
def wN(s:ByteArray)(n lo a:Nat)(w:World)(_hs:s.size<=2000000000)(d:s.size<=n):
 Calls prog 129 #[.string s,.int .i64 n,.int .i64 lo,.int .i64 a] w λe b=>e=.returned (.bool (bK s.data.toList n lo a))/\b=w:=by
 have c:Hid (bK s.data.toList n lo a=false):=wB s n lo a d;go_enter func129,ntmps129;go_wp2
 all_goals
  go_ret;exact⟨cK (by rw[c.out]),rfl⟩
def cN(s:ByteArray)(a lo b:Int)(w:World)(c:s.size<=2000000000)(i:0<=a)(g:0<=lo)(f:0<=b):
 Calls prog 129 #[.string s,.int .i64 a,.int .i64 lo,.int .i64 b] w λe d=>e=.returned (.bool (bK s.data.toList a.toNat lo.toNat b.toNat))/\d=w:=by
 obtain⟨n,rfl⟩:=LU i;obtain⟨l,rfl⟩:=LU g;obtain⟨h,rfl⟩:=LU f;rw[Int.toNat_natCast,Int.toNat_natCast,Int.toNat_natCast];by_cases j:n<s.size
 ·exact AB s n l h w c j
 ·exact wN s n l h w c o_
def dG(l:List UInt8)(n lo hi k:Nat):Bool:=bK l (n+1) lo hi && (List.range (k-2)).all λj=>bK l (n+(j+2)) 128 191
def eU(l:List UInt8)(n lo a:Nat):dG l n lo a 2=bK l (n+1) lo a:=by simp[dG]
def eL(l:List UInt8)(n lo a k:Nat)(h:2<=k):dG l n lo a (k+1)=(dG l n lo a k && bK l (n+k) 128 191):=by
 obtain⟨j,rfl⟩:∃j,k=j+2:=⟨k-2,o_⟩
 unfold dG;rw[show j+2+1-2=j+1 by omega,show j+2-2=j by omega,List.range_succ]
 simp[Bool.and_assoc]
def IZ(s:ByteArray)(n:Nat)(w:World)(b:s.size<=2000000000)(o:n<s.size)(p:194<=s[n].toNat)(l:s[n].toNat<=223):
 Calls prog 85 #[.string s,.int .i64 n] w λe a=>e=.returned (.int .i64 (if dG s.data.toList n 128 191 2 then 2 else 0))/\a=w:=by
 have m:(s[n].toNat:Int)<=255:=dC s[n];go_enter func85,ntmps85;go_wp2_with (go_at_call 129;refine(cN _ _ _ _ _ b o_ d_ d_).mono ?_;rintro e a ⟨rfl,rfl⟩)
 go_loop [9,10] (λok i=>∃k:Nat,2<=k/\k<=2/\i=.int .i64 k/\ok=.bool (dG s.data.toList n 128 191 k)) (λ_ i=>5-(intOf i).toNat)
 case atStart=>exact⟨2,o_,o_,rfl,by rw[eU]⟩
 case round=>
  obtain⟨k,f,d,rfl,rfl⟩:=hrel;by_cases c:k<2
  ·have g:Hid (dG s.data.toList n 128 191 (k+1)=(dG s.data.toList n 128 191 k && bK s.data.toList (n+k) 128 191)):=eL _ _ _ _ _ f;go_wp2_with (go_at_call 129;refine(cN _ _ _ _ _ b o_ d_ d_).mono ?_;rintro e a ⟨rfl,rfl⟩)
   all_goals
    go_round
    case rel=>exact⟨k+1,o_,o_,by go_num,by rw[g.out];simp[*]⟩
    case measure=>simp[intOf];omega
  ·obtain rfl:k=2:=o_
   cases j:dG s.data.toList n 128 191 2
   all_goals
    go_wp2_with fail;go_ret;exact⟨s_,rfl⟩
def IY(s:ByteArray)(n:Nat)(w:World)(b:s.size<=2000000000)(p:n<s.size)(l:s[n].toNat=224):
 Calls prog 85 #[.string s,.int .i64 n] w λe a=>e=.returned (.int .i64 (if dG s.data.toList n 160 191 3 then 3 else 0))/\a=w:=by
 have m:(s[n].toNat:Int)<=255:=dC s[n];have o:(s[n].toNat:Int)=224:=o_
 clear l;go_enter func85,ntmps85;go_wp2_with (go_at_call 129;refine(cN _ _ _ _ _ b o_ d_ d_).mono ?_;rintro e a ⟨rfl,rfl⟩)
 go_loop [9,10] (λok i=>∃k:Nat,2<=k/\k<=3/\i=.int .i64 k/\ok=.bool (dG s.data.toList n 160 191 k)) (λ_ i=>5-(intOf i).toNat)
 case atStart=>exact⟨2,o_,o_,rfl,by rw[eU]⟩
 case round=>
  obtain⟨k,f,d,rfl,rfl⟩:=hrel;by_cases c:k<3
  ·have g:Hid (dG s.data.toList n 160 191 (k+1)=(dG s.data.toList n 160 191 k && bK s.data.toList (n+k) 128 191)):=eL _ _ _ _ _ f;go_wp2_with (go_at_call 129;refine(cN _ _ _ _ _ b o_ d_ d_).mono ?_;rintro e a ⟨rfl,rfl⟩)
   all_goals
    go_round
    case rel=>exact⟨k+1,o_,o_,by go_num,by rw[g.out];simp[*]⟩
    case measure=>simp[intOf];omega
  ·obtain rfl:k=3:=o_
   cases j:dG s.data.toList n 160 191 3
   all_goals
    go_wp2_with fail;go_ret;exact⟨s_,rfl⟩
def IX(s:ByteArray)(n:Nat)(w:World)(b:s.size<=2000000000)(p:n<s.size)(l:s[n].toNat=237):
 Calls prog 85 #[.string s,.int .i64 n] w λe a=>e=.returned (.int .i64 (if dG s.data.toList n 128 159 3 then 3 else 0))/\a=w:=by
 have m:(s[n].toNat:Int)<=255:=dC s[n];have o:(s[n].toNat:Int)=237:=o_
 clear l;go_enter func85,ntmps85;go_wp2_with (go_at_call 129;refine(cN _ _ _ _ _ b o_ d_ d_).mono ?_;rintro e a ⟨rfl,rfl⟩)
 go_loop [9,10] (λok i=>∃k:Nat,2<=k/\k<=3/\i=.int .i64 k/\ok=.bool (dG s.data.toList n 128 159 k)) (λ_ i=>5-(intOf i).toNat)
 case atStart=>exact⟨2,o_,o_,rfl,by rw[eU]⟩
 case round=>
  obtain⟨k,f,d,rfl,rfl⟩:=hrel;by_cases c:k<3
  ·have g:Hid (dG s.data.toList n 128 159 (k+1)=(dG s.data.toList n 128 159 k && bK s.data.toList (n+k) 128 191)):=eL _ _ _ _ _ f;go_wp2_with (go_at_call 129;refine(cN _ _ _ _ _ b o_ d_ d_).mono ?_;rintro e a ⟨rfl,rfl⟩)
   all_goals
    go_round
    case rel=>exact⟨k+1,o_,o_,by go_num,by rw[g.out];simp[*]⟩
    case measure=>simp[intOf];omega
  ·obtain rfl:k=3:=o_
   cases j:dG s.data.toList n 128 159 3
   all_goals
    go_wp2_with fail;go_ret;exact⟨s_,rfl⟩
def IW(s:ByteArray)(n:Nat)(w:World)(b:s.size<=2000000000)(o:n<s.size)(q:224<s[n].toNat)(l:s[n].toNat<=239)(p:s[n].toNat≠237):
 Calls prog 85 #[.string s,.int .i64 n] w λe a=>e=.returned (.int .i64 (if dG s.data.toList n 128 191 3 then 3 else 0))/\a=w:=by
 have m:(s[n].toNat:Int)<=255:=dC s[n];go_enter func85,ntmps85;go_wp2_with (go_at_call 129;refine(cN _ _ _ _ _ b o_ d_ d_).mono ?_;rintro e a ⟨rfl,rfl⟩)
 go_loop [9,10] (λok i=>∃k:Nat,2<=k/\k<=3/\i=.int .i64 k/\ok=.bool (dG s.data.toList n 128 191 k)) (λ_ i=>5-(intOf i).toNat)
 case atStart=>exact⟨2,o_,o_,rfl,by rw[eU]⟩
 case round=>
  obtain⟨k,f,d,rfl,rfl⟩:=hrel;by_cases c:k<3
  ·have g:Hid (dG s.data.toList n 128 191 (k+1)=(dG s.data.toList n 128 191 k && bK s.data.toList (n+k) 128 191)):=eL _ _ _ _ _ f;go_wp2_with (go_at_call 129;refine(cN _ _ _ _ _ b o_ d_ d_).mono ?_;rintro e a ⟨rfl,rfl⟩)
   all_goals
    go_round
    case rel=>exact⟨k+1,o_,o_,by go_num,by rw[g.out];simp[*]⟩
    case measure=>simp[intOf];omega
  ·obtain rfl:k=3:=o_
   cases j:dG s.data.toList n 128 191 3
   all_goals
    go_wp2_with fail;go_ret;exact⟨s_,rfl⟩
def IV(s:ByteArray)(n:Nat)(w:World)(b:s.size<=2000000000)(p:n<s.size)(l:s[n].toNat=240):
 Calls prog 85 #[.string s,.int .i64 n] w λe a=>e=.returned (.int .i64 (if dG s.data.toList n 144 191 4 then 4 else 0))/\a=w:=by
 have m:(s[n].toNat:Int)<=255:=dC s[n];have o:(s[n].toNat:Int)=240:=o_
 clear l;go_enter func85,ntmps85;go_wp2_with (go_at_call 129;refine(cN _ _ _ _ _ b o_ d_ d_).mono ?_;rintro e a ⟨rfl,rfl⟩)
 go_loop [9,10] (λok i=>∃k:Nat,2<=k/\k<=4/\i=.int .i64 k/\ok=.bool (dG s.data.toList n 144 191 k)) (λ_ i=>5-(intOf i).toNat)
 case atStart=>exact⟨2,o_,o_,rfl,by rw[eU]⟩
 case round=>
  obtain⟨k,f,d,rfl,rfl⟩:=hrel;by_cases c:k<4
  ·have g:Hid (dG s.data.toList n 144 191 (k+1)=(dG s.data.toList n 144 191 k && bK s.data.toList (n+k) 128 191)):=eL _ _ _ _ _ f;go_wp2_with (go_at_call 129;refine(cN _ _ _ _ _ b o_ d_ d_).mono ?_;rintro e a ⟨rfl,rfl⟩)
   all_goals
    go_round
    case rel=>exact⟨k+1,o_,o_,by go_num,by rw[g.out];simp[*]⟩
    case measure=>simp[intOf];omega
  ·obtain rfl:k=4:=o_
   cases j:dG s.data.toList n 144 191 4
   all_goals
    go_wp2_with fail;go_ret;exact⟨s_,rfl⟩
def IU(s:ByteArray)(n:Nat)(w:World)(b:s.size<=2000000000)(p:n<s.size)(l:s[n].toNat=244):
 Calls prog 85 #[.string s,.int .i64 n] w λe a=>e=.returned (.int .i64 (if dG s.data.toList n 128 143 4 then 4 else 0))/\a=w:=by
 have m:(s[n].toNat:Int)<=255:=dC s[n];have o:(s[n].toNat:Int)=244:=o_
 clear l;go_enter func85,ntmps85;go_wp2_with (go_at_call 129;refine(cN _ _ _ _ _ b o_ d_ d_).mono ?_;rintro e a ⟨rfl,rfl⟩)
 go_loop [9,10] (λok i=>∃k:Nat,2<=k/\k<=4/\i=.int .i64 k/\ok=.bool (dG s.data.toList n 128 143 k)) (λ_ i=>5-(intOf i).toNat)
 case atStart=>exact⟨2,o_,o_,rfl,by rw[eU]⟩
 case round=>
  obtain⟨k,f,d,rfl,rfl⟩:=hrel;by_cases c:k<4
  ·have g:Hid (dG s.data.toList n 128 143 (k+1)=(dG s.data.toList n 128 143 k && bK s.data.toList (n+k) 128 191)):=eL _ _ _ _ _ f;go_wp2_with (go_at_call 129;refine(cN _ _ _ _ _ b o_ d_ d_).mono ?_;rintro e a ⟨rfl,rfl⟩)
   all_goals
    go_round
    case rel=>exact⟨k+1,o_,o_,by go_num,by rw[g.out];simp[*]⟩
    case measure=>simp[intOf];omega
  ·obtain rfl:k=4:=o_
   cases j:dG s.data.toList n 128 143 4
   all_goals
    go_wp2_with fail;go_ret;exact⟨s_,rfl⟩
def IT(s:ByteArray)(n:Nat)(w:World)(b:s.size<=2000000000)(o:n<s.size)(p:240<s[n].toNat)(l:s[n].toNat<244):
 Calls prog 85 #[.string s,.int .i64 n] w λe a=>e=.returned (.int .i64 (if dG s.data.toList n 128 191 4 then 4 else 0))/\a=w:=by
 have m:(s[n].toNat:Int)<=255:=dC s[n];go_enter func85,ntmps85;go_wp2_with (go_at_call 129;refine(cN _ _ _ _ _ b o_ d_ d_).mono ?_;rintro e a ⟨rfl,rfl⟩)
 go_loop [9,10] (λok i=>∃k:Nat,2<=k/\k<=4/\i=.int .i64 k/\ok=.bool (dG s.data.toList n 128 191 k)) (λ_ i=>5-(intOf i).toNat)
 case atStart=>exact⟨2,o_,o_,rfl,by rw[eU]⟩
 case round=>
  obtain⟨k,f,d,rfl,rfl⟩:=hrel;by_cases c:k<4
  ·have g:Hid (dG s.data.toList n 128 191 (k+1)=(dG s.data.toList n 128 191 k && bK s.data.toList (n+k) 128 191)):=eL _ _ _ _ _ f;go_wp2_with (go_at_call 129;refine(cN _ _ _ _ _ b o_ d_ d_).mono ?_;rintro e a ⟨rfl,rfl⟩)
   all_goals
    go_round
    case rel=>exact⟨k+1,o_,o_,by go_num,by rw[g.out];simp[*]⟩
    case measure=>simp[intOf];omega
  ·obtain rfl:k=4:=o_
   cases j:dG s.data.toList n 128 191 4
   all_goals
    go_wp2_with fail;go_ret;exact⟨s_,rfl⟩
def IS(s:ByteArray)(n:Nat)(w:World)(b:s.size<=2000000000)(o:n<s.size)(p:128<=s[n].toNat)(l:s[n].toNat<194):
 Calls prog 85 #[.string s,.int .i64 n] w λe a=>e=.returned (.int .i64 (if dG s.data.toList n 128 191 2 then 0 else 0))/\a=w:=by
 have m:(s[n].toNat:Int)<=255:=dC s[n];go_enter func85,ntmps85;go_wp2_with (go_at_call 129;refine(cN _ _ _ _ _ b o_ d_ d_).mono ?_;rintro e a ⟨rfl,rfl⟩)
 go_loop [9,10] (λok i=>∃k:Nat,2<=k/\k<=2/\i=.int .i64 k/\ok=.bool (dG s.data.toList n 128 191 k)) (λ_ i=>5-(intOf i).toNat)
 case atStart=>exact⟨2,o_,o_,rfl,by rw[eU]⟩
 case round=>
  obtain⟨k,f,d,rfl,rfl⟩:=hrel;by_cases c:k<0
  ·have g:Hid (dG s.data.toList n 128 191 (k+1)=(dG s.data.toList n 128 191 k && bK s.data.toList (n+k) 128 191)):=eL _ _ _ _ _ f;go_wp2_with (go_at_call 129;refine(cN _ _ _ _ _ b o_ d_ d_).mono ?_;rintro e a ⟨rfl,rfl⟩)
   all_goals
    go_round
    case rel=>exact⟨k+1,o_,o_,by go_num,by rw[g.out];simp[*]⟩
    case measure=>simp[intOf];omega
  ·obtain rfl:k=2:=o_
   cases j:dG s.data.toList n 128 191 2
   all_goals
    go_wp2_with fail;go_ret;exact⟨s_,rfl⟩
def IR(s:ByteArray)(n:Nat)(w:World)(b:s.size<=2000000000)(o:n<s.size)(m:244<s[n].toNat):
 Calls prog 85 #[.string s,.int .i64 n] w λe a=>e=.returned (.int .i64 (if dG s.data.toList n 128 191 2 then 0 else 0))/\a=w:=by
 have l:(s[n].toNat:Int)<=255:=dC s[n];go_enter func85,ntmps85;go_wp2_with (go_at_call 129;refine(cN _ _ _ _ _ b o_ d_ d_).mono ?_;rintro e a ⟨rfl,rfl⟩)
 go_loop [9,10] (λok i=>∃k:Nat,2<=k/\k<=2/\i=.int .i64 k/\ok=.bool (dG s.data.toList n 128 191 k)) (λ_ i=>5-(intOf i).toNat)
 case atStart=>exact⟨2,o_,o_,rfl,by rw[eU]⟩
 case round=>
  obtain⟨k,d,f,rfl,rfl⟩:=hrel;by_cases g:k<0
  ·have j:Hid (dG s.data.toList n 128 191 (k+1)=(dG s.data.toList n 128 191 k && bK s.data.toList (n+k) 128 191)):=eL _ _ _ _ _ d;go_wp2_with (go_at_call 129;refine(cN _ _ _ _ _ b o_ d_ d_).mono ?_;rintro e a ⟨rfl,rfl⟩)
   all_goals
    go_round
    case rel=>exact⟨k+1,o_,o_,by go_num,by rw[j.out];simp[*]⟩
    case measure=>simp[intOf];omega
  ·obtain rfl:k=2:=o_
   cases c:dG s.data.toList n 128 191 2
   all_goals
    go_wp2_with fail;go_ret;exact⟨s_,rfl⟩
def JA(s:ByteArray)(n:Nat)(w:World)(_hs:s.size<=2000000000)(d:n<s.size)(c:s[n].toNat<128):
 Calls prog 85 #[.string s,.int .i64 n] w λe a=>e=.returned (.int .i64 1)/\a=w:=by
 have b:(s[n].toNat:Int)<=255:=dC s[n];go_enter func85,ntmps85;go_wp2_with fail;go_ret;exact⟨rfl,rfl⟩
def EC(l:List UInt8)(n i lo a:Nat):bK (l.drop n) i lo a=bK l (n+i) lo a:=by
 unfold bK;rw[List.getElem?_drop]
def iV(l:List UInt8)(n lo a:Nat):dG l n lo a 3=(bK l (n+1) lo a && bK l (n+2) 128 191):=by
 rw[eL _ _ _ _ _ (JS 2),eU]
def nA(l:List UInt8)(n lo a:Nat):dG l n lo a 4=(bK l (n+1) lo a && bK l (n+2) 128 191 && bK l (n+3) 128 191):=by
 rw[eL _ _ _ _ _ (by omega:2<=3),iV]
def fR(s:ByteArray)(n:Nat)(a:n<s.size)(r:Nat)
 (h:(if s[n].toNat<128 then 1
 else if 194<=s[n].toNat/\s[n].toNat<=223 then if bK s.data.toList (n+1) 128 191 then 2 else 0
 else if 224<=s[n].toNat/\s[n].toNat<=239 then
  if bK s.data.toList (n+1) (if s[n].toNat=224 then 160 else 128) (if s[n].toNat=237 then 159 else 191) && bK s.data.toList (n+2) 128 191 then 3 else 0
 else if 240<=s[n].toNat/\s[n].toNat<=244 then
  if bK s.data.toList (n+1) (if s[n].toNat=240 then 144 else 128) (if s[n].toNat=244 then 143 else 191) && bK s.data.toList (n+2) 128 191 && bK s.data.toList (n+3) 128 191 then 4 else 0
 else 0)=r):cJ (s.data.toList.drop n)=r:=by
 unfold cJ;rw[iB s n 0 a];simp only[EC,Nat.add_zero];exact h
def wI(s:ByteArray)(n:Nat)(w:World)(d:s.size<=2000000000)(a:n<s.size):
 Calls prog 85 #[.string s,.int .i64 n] w λe m=>e=.returned (.int .i64 (cJ (s.data.toList.drop n)))/\m=w:=by
 by_cases c:s[n].toNat<128
 ·rw[fR s n a 1 (by rw[if_pos c])];exact JA s n w d a c
 by_cases b:194<=s[n].toNat/\s[n].toNat<=223
 ·rw[fR s n a (if dG s.data.toList n 128 191 2 then 2 else 0) (by rw[if_neg c,if_pos b,eU])]
  have:=IZ s n w d a b.1 b.2;split at this<;>simp_all
 by_cases f:224<=s[n].toNat/\s[n].toNat<=239
 ·by_cases h:s[n].toNat=224
  ·rw[fR s n a (if dG s.data.toList n 160 191 3 then 3 else 0) (by rw[if_neg c,if_neg b,if_pos f,if_pos h,if_neg (show ¬s[n].toNat=237 by omega),iV])]
   have:=IY s n w d a h;split at this<;>simp_all
  by_cases j:s[n].toNat=237
  ·rw[fR s n a (if dG s.data.toList n 128 159 3 then 3 else 0) (by rw[if_neg c,if_neg b,if_pos f,if_neg h,if_pos j,iV])]
   have:=IX s n w d a j;split at this<;>simp_all
  rw[fR s n a (if dG s.data.toList n 128 191 3 then 3 else 0) (by rw[if_neg c,if_neg b,if_pos f,if_neg h,if_neg j,iV])]
  have:=IW s n w d a o_ f.2 j
  split at this<;>simp_all
 by_cases g:240<=s[n].toNat/\s[n].toNat<=244
 ·by_cases i:s[n].toNat=240
  ·rw[fR s n a (if dG s.data.toList n 144 191 4 then 4 else 0) (by rw[if_neg c,if_neg b,if_neg f,if_pos g,if_pos i,if_neg (show ¬s[n].toNat=244 by omega),nA])]
   have:=IV s n w d a i;split at this<;>simp_all
  by_cases k:s[n].toNat=244
  ·rw[fR s n a (if dG s.data.toList n 128 143 4 then 4 else 0) (by rw[if_neg c,if_neg b,if_neg f,if_pos g,if_neg i,if_pos k,nA])]
   have:=IU s n w d a k;split at this<;>simp_all
  rw[fR s n a (if dG s.data.toList n 128 191 4 then 4 else 0) (by rw[if_neg c,if_neg b,if_neg f,if_pos g,if_neg i,if_neg k,nA])]
  have:=IT s n w d a o_ o_
  split at this<;>simp_all
 rw[fR s n a 0 (by rw[if_neg c,if_neg b,if_neg f,if_neg g])]
 by_cases l:s[n].toNat<194
 ·have:=IS s n w d a o_ l
  split at this<;>simp_all
 ·have:=IR s n w d a o_
  split at this<;>simp_all
def yR{l:List UInt8}{lo:Nat}(h:bK l i lo b=true):i<l.length:=by
 unfold bK at h;by_cases a:i<l.length
 ·exact a
 ·rw[KI o_] at h;cases h
def nD(l:List UInt8):cJ l<=l.length:=by
 unfold cJ;split
 ·omega
 ·rename_i b a
  have c:0<l.length:=by
   by_cases h:0<l.length
   ·exact h
   ·rw[KI o_] at a;cases a
  repeat' split
  all_goals first
   |omega
   |(have:=yR ‹bK l 1 _ _=true›;omega)
   |(have h:=‹(bK l 1 _ _ && bK l 2 _ _)=true›
     simp only[KQ] at h;have:=yR h.2;omega)
   |(have h:=‹(bK l 1 _ _ && bK l 2 _ _ && bK l 3 _ _)=true›
     simp only[KQ] at h;have:=yR h.2;omega)
def uC:Option Nat->Int
 |some k=>k
 |none=> -1
def lU(l:List UInt8)(p f:Nat)(h:0<l.length)(a:cJ l≠0):bH (f+1) l p=bH f (l.drop (cJ l)) (p+cJ l):=by
 rw[bH,if_neg o_,if_neg a]
def nL(l:List UInt8)(p f:Nat)(h:0<l.length)(a:cJ l=0):bH (f+1) l p=some p:=by
 rw[bH,if_neg o_,if_pos a]
def nK(l:List UInt8)(p f:Nat)(h:l.length=0):bH f l p=none:=by
 cases f with
 |zero=>rfl
 |succ f=>rw[bH,if_pos h]
def lD(s:ByteArray)(w:World)(p:s.size<=2000000000):
 Calls prog 46 #[.string s] w λe g=>e=.returned (.int .i64 (uC (bH s.size s.data.toList 0)))/\g=w:=by
 have o:s.data.toList.length=s.size:=s_
 go_enter func46,ntmps46;go_wp2
 go_loop [3] (λi=>∃k f:Nat,k<=s.size/\s.size<=k+f/\i=.int .i64 k/\Hid (bH s.size s.data.toList 0=bH f (s.data.toList.drop k) k)) (λi=>s.size-(intOf i).toNat)
 case atStart=>exact⟨0,s.size,LC _,o_,rfl,rfl⟩
 case round=>
  obtain⟨k,f,v,x,rfl,b⟩:=hrel;by_cases a:k<s.size
  ·have m:(s.data.toList.drop k).length=s.size-k:=s_
   have j:=nD (s.data.toList.drop k);obtain⟨f,rfl⟩:∃u,f=u+1:=⟨f-1,o_⟩
   by_cases q:cJ (s.data.toList.drop k)=0
   ·have d:=nL _ k f o_ q
    have l:Hid (bH s.size s.data.toList 0=some k):=by rw[b.out,d];rfl
    clear d b;go_wp2_with (go_at_call 85;refine(wI s k _ p a).mono ?_;rintro e g ⟨rfl,rfl⟩)
    go_ret;exact⟨hQ (by rw[l.out];rfl),rfl⟩
   ·have d:=lU _ k f o_ q
    have l:Hid (bH s.size s.data.toList 0=bH f (s.data.toList.drop (k+cJ (s.data.toList.drop k))) (k+cJ (s.data.toList.drop k))):=by
     rw[b.out,d,LM];rfl
    clear d b;rw[m] at j;clear m;generalize n:cJ (s.data.toList.drop k)=c at*;have t:Hid (cJ (s.data.toList.drop k)=c):=n;clear n;have r:((c:Int)==0)=false:=t_
    go_wp2_with (go_at_call 85;refine(wI s k _ p a).mono ?_;rw[t.out];rintro e g ⟨rfl,rfl⟩)
    go_round
    case rel=>exact⟨k+c,f,o_,o_,by go_num,l⟩
    case measure=>simp[intOf];omega
  ·go_wp2_with fail;go_ret;exact⟨hQ (by rw[b.out,nK _ _ _ t_];rfl),rfl⟩
def fH(c:UInt8)(w:World):
 Calls prog 131 #[.int .u8 c.toNat] w λe a=>e=.returned (.bool (bF c))/\a=w:=by
 have d:(c.toNat:Int)<=255:=dC c;have b:Hid (bF c=(decide (48<=c.toNat) && decide (c.toNat<=57))):=rfl;go_enter func131,ntmps131;go_wp2
 all_goals
  go_ret;exact⟨cK (by rw[b.out,LG];constructor<;>intro h<;>(try simp at h)<;>(try simp)<;>omega),rfl⟩
def fF(c:UInt8)(w:World):
 Calls prog 132 #[.int .u8 c.toNat] w λe a=>e=.returned (.bool (bJ c))/\a=w:=by
 have d:(c.toNat:Int)<=255:=dC c;have b:Hid (bJ c=(c.toNat==95 || (decide (97<=c.toNat) && decide (c.toNat<=122) || decide (65<=c.toNat) && decide (c.toNat<=90)))):=rfl
 go_enter func132,ntmps132;go_wp2
 all_goals
  go_ret;exact⟨cK (by rw[b.out,LG];constructor<;>intro h<;>(try simp at h)<;>(try simp)<;>omega),rfl⟩
def fE(x l:List UInt8)(h:x.length<=l.length):x.isPrefixOf l=(l.take x.length==x):=by
 induction x generalizing l with
 |nil=>simp
 |cons a x c=>
  cases l with
  |nil=>simp at h
  |cons b l=>
   simp only[List.isPrefixOf,KV,LJ,List.cons_beq_cons];rw[c l (by simpa using h),show (a==b)=(b==a) from Bool.beq_comm]
def jH(x l:List UInt8)(h:l.length<x.length):x.isPrefixOf l=false:=by
 rw[Bool.eq_false_iff];intro a;have:=(LO.1 a).length_le;omega
def iR(s x:ByteArray)(n:Nat)(w:World)(c:s.size<=2000000000)(d:x.size<=100)(f:n<=s.size):
 Calls prog 130 #[.string s,.int .i64 n,.string x] w λe b=>e=.returned (.bool (bD (s.data.toList.drop n) x.data.toList))/\b=w:=by
 by_cases h:x.size<=s.size-n
 ·have a:Hid (bD (s.data.toList.drop n) x.data.toList=((s.extract n (n+x.size)).toList==x.toList)):=by
   unfold bD Hid;rw[fE _ _ (by simpa using h),Lib.extract_toList,Lib.toList_data]
   congr 3;simp
  go_enter func130,ntmps130;go_wp2
  go_ret;exact⟨cK (by rw[a.out]),rfl⟩
 ·have a:Hid (bD (s.data.toList.drop n) x.data.toList=false):=by
   unfold bD Hid;exact jH _ _ t_
  go_enter func130,ntmps130;go_wp2
  go_ret;exact⟨cK (by rw[a.out]),rfl⟩
def cM(s:ByteArray)(k:Nat)(h:k<s.size):s.data.toList.drop k=s[k]::s.data.toList.drop (k+1):=by
 rw[List.drop_eq_getElem_cons (by simpa using h)];rfl
def qV(f:Nat):Hs.blankL f []=0:=by cases f<;>rfl
def mF(f:Nat)(c:UInt8)(r:List UInt8)(h:c.toNat=32\/c.toNat=9\/c.toNat=10):Hs.blankL (f+1) (c::r)=Hs.blankL f r+1:=by
 rw[Hs.blankL,if_pos h]
def kR(f:Nat)(c:UInt8)(r:List UInt8)(h:¬(c.toNat=32\/c.toNat=9\/c.toNat=10))(a:bD (c::r) [47,47]=true):
 Hs.blankL (f+1) (c::r)=aP bU (c::r)+Hs.blankL f ((c::r).drop (aP bU (c::r))):=by
 rw[Hs.blankL,if_neg h,if_pos a]
def nX(f:Nat)(c:UInt8)(r:List UInt8)(h:¬(c.toNat=32\/c.toNat=9\/c.toNat=10))(a:bD (c::r) [47,47]=false):
 Hs.blankL (f+1) (c::r)=0:=by
 rw[Hs.blankL,if_neg h,if_neg (by rw[a];simp)]
def eX(p:UInt8->Bool)(c:UInt8)(r:List UInt8)(h:p c=true):aP p (c::r)=aP p r+1:=by rw[aP,if_pos h]
def iG(p:UInt8->Bool)(c:UInt8)(r:List UInt8)(h:p c=false):aP p (c::r)=0:=by rw[aP,if_neg (by rw[h];simp)]
def sM(b:UInt8):bU b=((b.toNat:Int) != 10):=by
 unfold bU;rw[LG];simp;omega
def tA(s:ByteArray)(n:Nat)(w:World)(z:s.size<=2000000000)(C:n<=s.size):
 Calls prog 86 #[.string s,.int .i64 n] w λe q=>e=.returned (.int .i64 ((n+Hs.blankL s.size (s.data.toList.drop n):Nat)))/\q=w:=by
 go_enter func86,ntmps86;go_wp2_with fail;go_loop [1] (λi=>∃k f:Nat,k<=s.size/\s.size<=k+f/\i=.int .i64 k/\Hid (n+Hs.blankL s.size (s.data.toList.drop n)=k+Hs.blankL f (s.data.toList.drop k))) (λi=>s.size-(intOf i).toNat)
 case atStart=>exact⟨n,s.size,C,o_,rfl,rfl⟩
 case round=>
  obtain⟨k,f,r,J,rfl,a⟩:=hrel;by_cases g:k<s.size
  ·have H:(s[k].toNat:Int)<=255:=dC s[k];obtain⟨f,rfl⟩:∃B,f=B+1:=⟨f-1,o_⟩
   rw[cM s k g] at a;by_cases l:s[k].toNat=32\/s[k].toNat=9\/s[k].toNat=10
   ·rw[mF _ _ _ l] at a
    have m:Hid (n+Hs.blankL s.size (s.data.toList.drop n)=k+1+Hs.blankL f (s.data.toList.drop (k+1))):=by
     rw[a.out];show _=_;omega
    clear a;rcases l with l|l|l
    all_goals
     have y:((s[k].toNat:Int))=_:=congrArg _ l;clear l;go_wp2_with fail;go_round
     case rel=>exact⟨k+1,f,o_,o_,by go_num,m⟩
     case measure=>simp[intOf];omega
   ·have I:((s[k].toNat:Int)==32)=false:=t_
    have G:((s[k].toNat:Int)==9)=false:=t_
    have K:((s[k].toNat:Int)==10)=false:=t_
    cases b:bD (s[k]::s.data.toList.drop (k+1)) [47,47]
    ·rw[nX _ _ _ l b] at a;rw[<-cM s k g] at b;go_wp2_with (go_at_call 130;refine(iR s _ k _ z d_ r).mono ?_;rw[b];rintro e q ⟨rfl,rfl⟩)
     go_ret;exact⟨hQ (by have:=a.out;omega),rfl⟩
    ·rw[kR _ _ _ l b] at a
     have x:Hid (1<=aP bU (s.data.toList.drop k)):=by
      rw[cM s k g,eX _ _ _ (by unfold bU;simp;omega)];show _<=_;omega
     rw[<-cM s k g] at b a;rw[LM] at a;go_wp2_with (go_at_call 130;refine(iR s _ k _ z d_ r).mono ?_;rw[b];rintro e q ⟨rfl,rfl⟩)
     go_loop [1] (λi=>∃j:Nat,k<=j/\j<=s.size/\i=.int .i64 j/\Hid (k+aP bU (s.data.toList.drop k)=j+aP bU (s.data.toList.drop j))) (λi=>s.size-(intOf i).toNat)
     case atStart=>exact⟨k,JS _,r,rfl,rfl⟩
     case round=>
      obtain⟨j,A,F,rfl,d⟩:=hrel;by_cases D:j<s.size
      ·have E:(s[j].toNat:Int)<=255:=dC s[j];rw[cM s j D] at d;have c:=sM s[j];cases o:bU s[j]
       ·rw[iG _ _ _ o] at d;rw[o] at c;have y:((s[j].toNat:Int) != 10)=false:=c.symm;clear c o;have u:k<j:=by have:=x.out;have:=d.out;omega
        have m:Hid (n+Hs.blankL s.size (s.data.toList.drop n)=j+Hs.blankL f (s.data.toList.drop j)):=by
         have v:=d.out;have t:=a.out;rw[show k+aP bU (s.data.toList.drop k)=j by omega] at t
         show _=_;omega
        clear d a x;go_wp2_with fail;go_round
        case rel=>exact⟨j,f,o_,o_,rfl,m⟩
        case measure=>simp[intOf];omega
       ·rw[eX _ _ _ o] at d;rw[o] at c;have y:((s[j].toNat:Int) != 10)=true:=c.symm;clear c o
        have m:Hid (k+aP bU (s.data.toList.drop k)=j+1+aP bU (s.data.toList.drop (j+1))):=by
         rw[d.out];show _=_;omega
        clear d;go_wp2_with fail;go_round
        case rel=>exact⟨j+1,o_,o_,by go_num,m⟩
        case measure=>simp[intOf];omega
      ·have p:s.data.toList.drop j=[]:=KJ t_
       rw[p] at d;have u:k<j:=o_
       have m:Hid (n+Hs.blankL s.size (s.data.toList.drop n)=j+Hs.blankL f (s.data.toList.drop j)):=by
        have v:=d.out;have t:=a.out;rw[show k+aP bU (s.data.toList.drop k)=j by rw[v];rfl] at t
        have L:k+aP bU (s.data.toList.drop k)=j:=by rw[v];rfl
        show _=_;omega
       clear d a x p;go_wp2_with fail;go_round
       case rel=>exact⟨j,f,o_,o_,rfl,m⟩
       case measure=>simp[intOf];omega
  ·have p:s.data.toList.drop k=[]:=KJ t_
   rw[p,qV] at a;go_wp2_with fail;go_ret;exact⟨hQ (by have:=a.out;omega),rfl⟩
def wP:Option Nat->Value
 |some n=>.tuple #[.int .i64 n,.bool true]
 |none=>.tuple #[.int .i64 0,.bool false]
def sG(s:ByteArray)(w:World)(q:s.size<=2000000000)(c:∀k (h:k<s.size),bF s[k]=true):
 Calls prog 183 #[.string s] w λe d=>e=.returned (wP (bY 0 s.data.toList))/\d=w:=by
 have o:Hid (∀k (h:k<s.size),bF s[k]=true):=c;clear c;go_enter func183,ntmps183;go_wp2_with fail;go_loop [4,5] (λx i=>∃k n:Nat,k<=s.size/\n<=9223372036854775807/\i=.int .i64 k/\x=.int .i64 n/\Hid (bY 0 s.data.toList=bY n (s.data.toList.drop k))) (λ_ i=>s.size-(intOf i).toNat)
 case atStart=>exact⟨0,0,LC _,LC _,rfl,rfl,rfl⟩
 case round=>
  obtain⟨k,n,p,r,rfl,rfl,b⟩:=hrel;by_cases a:k<s.size
  ·have f:48<=(s[k].toNat:Int)/\(s[k].toNat:Int)<=57:=by
    have:=o.out k a;unfold bF at this;simp at this;omega
   obtain⟨l,j⟩:=f;rw[cM s k a,bY] at b;go_wp2_with fail
   ·have g:(9223372036854775807-((s[k].toNat:Int)-48))/10<(n:Int):=by assumption
    go_ret2
    refine⟨?_,rfl⟩;rw[b.out,if_pos (by unfold oU;omega)];rfl
   ·have m:(n:Int)<=(9223372036854775807-((s[k].toNat:Int)-48))/10:=by assumption
    go_round
    case rel=>exact⟨k+1,10*n+(s[k].toNat-48),o_,o_,by go_num,by go_num,by rw[b.out,if_neg (by unfold oU;omega)];rfl⟩
    case measure=>simp[intOf];omega
  ·have c:s.data.toList.drop k=[]:=KJ t_
   rw[c,bY] at b;go_wp2_with fail;go_ret2
   exact⟨by rw[b.out];rfl,rfl⟩
def bs(l:List UInt8):ByteArray:=⟨l.toArray⟩
def gK(l:List UInt8):(bs l).data.toList=l:=by simp[bs]
def eS(l:List UInt8):(bs l).size=l.length:=by simp[bs,ByteArray.size]
def JC{a b:ByteArray}(h:a.data.toList=b.data.toList):a=b:=by
 cases a;cases b;simp only at h;congr 1;exact Array.toList_inj.1 h
def gX(s:ByteArray)(a b:Nat):s.extract a b=bs ((s.data.toList.drop a).take (b-a)):=
 JC (by rw[Lib.extract_data,gK])
def bM(l:List UInt8):(bs l).toList=l:=by rw[Lib.toList_data,gK]
structure cS(w:World):Prop where
 kw:∀i (h:i<9),w.cell? ⟨2,i,none⟩=some (.string (bs (cF[i]'(by simpa [cF] using h))))
 ot:∀i (h:i<21),w.cell? ⟨0,i,none⟩=some (.string (bs (bC[i]'(by simpa [bC] using h))))
 big:11<=w.heap.size
def cS.below(h:cS w)(b:Below w.heap.size w w'):cS w':=
 ⟨λi a=>by rw[b.cell (by have:=h.big;show 2<_;omega)];exact h.kw i a,λi a=>by rw[b.cell (by have:=h.big;show 0<_;omega)];exact h.ot i a,by have:=b.size;have:=h.big;omega⟩
def iH(p:UInt8->Bool)(l:List UInt8):∀c∈l.take (aP p l),p c=true:=by
 induction l with
 |nil=>simp
 |cons a r d=>
  intro c b;by_cases h:p a=true
  ·rw[eX _ _ _ h,LJ] at b;rcases KE.1 b with rfl|b
   ·exact h
   ·exact d c b
  ·rw[iG _ _ _ (by simpa using h)] at b;simp at b
def zJ(l:List UInt8)(h:∀c∈l,bE false c=true):∀k (a:k<(bs l).size),bF (bs l)[k]=true:=by
 intro k a;have e:(bs l)[k]=l[k]'(by rw[<-eS];exact a):=by simp[bs];rfl
 rw[e];have:=h _ (KG (by rw[<-eS];exact a):l[k]'(by rw[<-eS];exact a)∈l)
 simpa [bE] using this
def CG(s:ByteArray)(n:Nat)(w:World)(G:s.size<=2000000000)(H:n<s.size)(C:bJ s[n]=false)(t:List UInt8)(z:Nat)(o:Option Nat)
 (m:Hid (t=(s.data.toList.drop n).take z)) (q:Hid (z=aP (bE false) (s.data.toList.drop n))) (u:Hid (bY 0 t=o)):
 Calls prog 133 #[.string s,.int .i64 n] w λe b=>
  e=.returned (.tuple #[.agg #[.int .u8 48,.string (bs t),.int .i64 0],.int .i64 ((n+z:Nat)),.bool o.isSome])/\Below w.heap.size w b:=by
 go_enter func133,ntmps133;go_wp2_with (first|(go_at_call 132;refine(fF _ _).mono ?_;rw[C];rintro e b ⟨rfl,rfl⟩))
 go_loop [7] (λi=>∃j:Nat,n<=j/\j<=s.size/\i=.int .i64 j/\Hid (n+aP (bE false) (s.data.toList.drop n)=j+aP (bE false) (s.data.toList.drop j))) (λi=>s.size-(intOf i).toNat)
 case atStart=>exact⟨n,JS _,o_,rfl,rfl⟩
 case round=>
  obtain⟨j,D,F,rfl,c⟩:=hrel
  have a:aP (bE false) (s.data.toList.drop j)=0->Hid (n+z=j):=λh=>by
   have:=c.out;rw[h] at this;rw[q.out];exact this
  by_cases g:∃h:j<s.size,bF s[j]=true
  ·obtain⟨d,p⟩:=g;rw[cM s j d] at c a;have f:bE false s[j]=true:=by simp[bE,p]
   rw[eX _ _ _ f] at c
   have E:Hid (n+aP (bE false) (s.data.toList.drop n)=j+1+aP (bE false) (s.data.toList.drop (j+1))):=by
    rw[c.out];show _=_;omega
   clear c a f;go_wp2_with (first|(go_at_call 131;refine(fH _ _).mono ?_;rw[p];rintro e b ⟨rfl,rfl⟩))
   go_round
   case rel=>exact⟨j+1,o_,o_,by go_num,E⟩
   case measure=>simp[intOf];omega
  ·have r:n+z=j:=by
    refine(a ?_).out;by_cases d:j<s.size
    ·rw[cM s j d];exact iG _ _ _ (by simp only[bE,Bool.false_and,Bool.or_false];simpa using λh=>g ⟨d,h⟩)
    ·rw[KJ t_];rfl
   have B:Hid (s.extract n j=bs t):=by
    show _=_
    rw[gX,m.out,show j-n=z by omega]
   have y:Hid (∀k (h:k<(bs t).size),bF (bs t)[k]=true):=by
    refine zJ t ?_;rw[m.out,q.out];exact iH _ _
   have l:(bs t).size<=2000000000:=by
    rw[eS,m.out,KH,KS];simp;omega
   have x:Hid (bY 0 (bs t).data.toList=o):=by rw[gK];exact u
   have A:Hid (((n+z:Nat):Int)=j):=by show _=_;omega
   clear c a m q u r;by_cases d:j<s.size
   ·have p:bF s[j]=false:=by simpa using λh=>g ⟨d,h⟩
    clear g;cases o
    all_goals
     go_wp2_with (first|(go_at_call 131;refine(fH _ _).mono ?_;rw[p];rintro e b ⟨rfl,rfl⟩)|(go_at_call 183;rw[B.out];refine(sG _ _ l y.out).mono ?_;rw[x.out,wP];rintro e b ⟨rfl,rfl⟩))
     rw[A.out];refine bodyPost_ret (v:=.tuple #[.agg #[.int .u8 48,.string (bs t),.int .i64 0],.int .i64 j,.bool _]) (by simp[results,results133,go_sem]) rfl ⟨rfl,?_⟩
     exact(((JU _ _).alloc (JS _) _).alloc s_ _)
   ·clear g;cases o
    all_goals
     go_wp2_with (first|(go_at_call 183;rw[B.out];refine(sG _ _ l y.out).mono ?_;rw[x.out,wP];rintro e b ⟨rfl,rfl⟩))
     rw[A.out];refine bodyPost_ret (v:=.tuple #[.agg #[.int .u8 48,.string (bs t),.int .i64 0],.int .i64 j,.bool _]) (by simp[results,results133,go_sem]) rfl ⟨rfl,?_⟩
     exact(((JU _ _).alloc (JS _) _).alloc s_ _)
def fM(t:List UInt8)(k:Nat):Nat:=if (cF.take k).contains t then 107 else 110
def nM(t:List UInt8):fM t 0=110:=rfl
def sC(l:List (List UInt8))(q t:List UInt8):(l++[q]).contains t=(l.contains t || (t==q)):=by
 induction l with
 |nil=>rw[List.nil_append,List.contains_cons];simp
 |cons a l b=>rw[List.cons_append,List.contains_cons,List.contains_cons,b,Bool.or_assoc]
def nN(t:List UInt8)(k:Nat)(h:k<9)(q:List UInt8)(a:q=cF[k]'(by simpa [cF] using h)):fM t (k+1)=if q==t then 107 else fM t k:=by
 unfold fM;rw[KA (by simpa [cF] using h),<-a,sC]
 by_cases e:q=t
 ·subst e;simp
 ·have b:(q==t)=false:=by simpa using e
  have c:(t==q)=false:=by simpa using λx=>e x.symm
  rw[b,c];simp
def vD(t:List UInt8):fM t 9=if cF.contains t then 107 else 110:=rfl
def AA(s:ByteArray)(n:Nat)(w:World)(E:cS w)(hs:s.size<=2000000000)(hn:n<s.size)(Z:bJ s[n]=true)(t:List UInt8)(z:Nat)
 (D:Hid (t=(s.data.toList.drop n).take z)) (V:Hid (z=aP (bE true) (s.data.toList.drop n))):
 Calls prog 133 #[.string s,.int .i64 n] w λe p=>
  e=.returned (.tuple #[.agg #[.int .u8 (fM t 9),.string (bs t),.int .i64 0],.int .i64 ((n+z:Nat)),.bool (decide (z<=16))])/\Below w.heap.size w p:=by
 go_enter func133,ntmps133;go_wp2_with (first|(go_at_call 132;refine(fF _ _).mono ?_;rw[Z];rintro e p ⟨rfl,rfl⟩))
 go_loop [7] (λi=>∃j:Nat,n<=j/\j<=s.size/\i=.int .i64 j/\Hid (n+aP (bE true) (s.data.toList.drop n)=j+aP (bE true) (s.data.toList.drop j))) (λi=>s.size-(intOf i).toNat)
 case atStart=>exact⟨n,JS _,o_,rfl,rfl⟩
 case round=>
  obtain⟨j,aa,ac,rfl,y⟩:=hrel
  have d:aP (bE true) (s.data.toList.drop j)=0->Hid (n+z=j):=λh=>by
   have:=y.out;rw[h] at this;rw[V.out];exact this
  by_cases B:∃h:j<s.size,bE true s[j]=true
  ·obtain⟨l,x⟩:=B;rw[cM s j l] at y d;rw[eX _ _ _ x] at y
   have T:Hid (n+aP (bE true) (s.data.toList.drop n)=j+1+aP (bE true) (s.data.toList.drop (j+1))):=by
    rw[y.out];show _=_;omega
   clear y d;cases f:bF s[j]
   ·have u:bJ s[j]=true:=by simpa [bE,f] using x
    clear x;go_wp2_with (first|(go_at_call 131;refine(fH _ _).mono ?_;rw[f];rintro e p ⟨rfl,rfl⟩)|(go_at_call 132;refine(fF _ _).mono ?_;rw[u];rintro e p ⟨rfl,rfl⟩))
    go_round
    case rel=>exact⟨j+1,o_,o_,by go_num,T⟩
    case measure=>simp[intOf];omega
   ·clear x;go_wp2_with (first|(go_at_call 131;refine(fH _ _).mono ?_;rw[f];rintro e p ⟨rfl,rfl⟩))
    go_round
    case rel=>exact⟨j+1,o_,o_,by go_num,T⟩
    case measure=>simp[intOf];omega
  ·have N:n+z=j:=by
    refine(d ?_).out;by_cases l:j<s.size
    ·rw[cM s j l];exact iG _ _ _ (by simpa using λh=>B ⟨l,h⟩)
    ·rw[KJ t_];rfl
   have Y:Hid (s.extract n j=bs t):=by
    show _=_
    rw[gX,D.out,show j-n=z by omega]
   have W:Hid ((bs t).size=z):=by
    show _=_
    rw[eS,D.out,KH,KS];simp;omega
   have X:Hid (((n+z:Nat):Int)=j):=by show _=_;omega
   clear y d D V N
   have o:(∃h:j<s.size,bF s[j]=false/\bJ s[j]=false)\/¬j<s.size:=by
    by_cases l:j<s.size
    ·have x:bE true s[j]=false:=by simpa using λh=>B ⟨l,h⟩
     exact JX ⟨l,by revert x;unfold bE;cases bF s[j]<;>simp,by revert x;unfold bE;cases bJ s[j]<;>simp⟩
    ·exact JR l
   clear B;have ab:=E.big;have U:Hid (cS w):=E;clear E;rcases o with ⟨l,f,u⟩|l
   ·go_wp2_with (first|(go_at_call 131;refine(fH _ _).mono ?_;rw[f];rintro e p ⟨rfl,rfl⟩)|(go_at_call 132;refine(fF _ _).mono ?_;rw[u];rintro e p ⟨rfl,rfl⟩))
    rw[Y.out];go_loopw [12] (λi wr=>∃k:Nat,k<=9/\i=.int .i64 k/\Below w.heap.size w wr/\w.heap.size+1<wr.heap.size/\wr.cell? ⟨w.heap.size,0,none⟩=some (.int .u8 0)/\wr.cell? ⟨w.heap.size,1,none⟩=some (.string { data:= #[] })/\wr.cell? ⟨w.heap.size,2,none⟩=some (.int .i64 0)/\wr.frozen? ⟨w.heap.size,0,none⟩=false/\wr.frozen? ⟨w.heap.size,1,none⟩=false/\wr.frozen? ⟨w.heap.size,2,none⟩=false/\wr.cell? ⟨w.heap.size+1,0,none⟩=some (.int .u8 (fM t k))/\wr.cell? ⟨w.heap.size+1,1,none⟩=some (.string (bs t))/\wr.cell? ⟨w.heap.size+1,2,none⟩=some (.int .i64 0)/\wr.frozen? ⟨w.heap.size+1,0,none⟩=false/\wr.frozen? ⟨w.heap.size+1,1,none⟩=false/\wr.frozen? ⟨w.heap.size+1,2,none⟩=false) (λi _=>9-(intOf i).toNat)
    case atStart=>exact⟨0,o_,rfl,((JU _ _).alloc (JS _) _).alloc s_ _,s_,by simp[go_sem],by simp[go_sem],by simp[go_sem],by simp[go_sem],by simp[go_sem],by simp[go_sem],by simp[go_sem,nM],by simp[go_sem],by simp[go_sem],by simp[go_sem],by simp[go_sem],by simp[go_sem]⟩
    case round=>
     obtain⟨k,hk,rfl,b,g,K,C,Q,F,H,S,A,L,M,J,P,G⟩:=hrel;by_cases c:k<9
     ·obtain⟨q,r⟩:=E_ (cF[k]'(by simpa [cF] using c))
      have I:wr.cell? ⟨2,k,none⟩=some (.string (bs q)):=by rw[r,b.cell (by show 2<_;omega)];exact U.out.kw k c
      have m:Hid (fM t (k+1)=if q==t then 107 else fM t k):=nN t k c q r
      clear r;cases a:(q==t)
      ·have O:((bs q).toList==(bs t).toList)=false:=by rw[bM,bM];exact a
       rw[a] at m;clear a;go_wp2_with fail;go_quiet (fail)
       go_wp2_with fail;go_roundw
       case rel=>exact⟨k+1,o_,by go_num,below_drewN b _,g,K,C,Q,F,H,S,by rw[m.out];exact A,L,M,J,P,G⟩
       case measure=>simp[intOf];omega
      ·have O:((bs q).toList==(bs t).toList)=true:=by rw[bM,bM];exact a
       rw[a] at m;clear a;go_wp2_with fail;go_quiet (fail)
       go_wp2_with fail;go_roundw
       case rel=>
        refine⟨k+1,o_,by go_num,(below_drewN b _).setCell s_ _,by simpa using g,?_,?_,?_,?_,?_,?_,?_,?_,?_,?_,?_,?_⟩
        all_goals first|(rw[m.out];simp[go_sem,A];done)|(simp[go_sem, *];done)
       case measure=>simp[intOf];omega
     ·obtain rfl:k=9:=o_
      go_wp2_with fail;go_region
      go_wp2_with fail;rw[X.out,show decide (z<=16)=decide (((bs t).size:Int)<=16) by rw[W.out];simp;omega]
      refine bodyPost_ret (v:=.tuple #[.agg #[.int .u8 (fM t 9),.string (bs t),.int .i64 0],.int .i64 j,.bool _]) (by simp[results,results133,go_sem, *]) rfl ⟨rfl,?_⟩
      exact(((b.setCell s_ _).setCell s_ _).setCell s_ _).drew
   ·go_wp2_with fail;rw[Y.out];go_loopw [12] (λi wr=>∃k:Nat,k<=9/\i=.int .i64 k/\Below w.heap.size w wr/\w.heap.size+1<wr.heap.size/\wr.cell? ⟨w.heap.size,0,none⟩=some (.int .u8 0)/\wr.cell? ⟨w.heap.size,1,none⟩=some (.string { data:= #[] })/\wr.cell? ⟨w.heap.size,2,none⟩=some (.int .i64 0)/\wr.frozen? ⟨w.heap.size,0,none⟩=false/\wr.frozen? ⟨w.heap.size,1,none⟩=false/\wr.frozen? ⟨w.heap.size,2,none⟩=false/\wr.cell? ⟨w.heap.size+1,0,none⟩=some (.int .u8 (fM t k))/\wr.cell? ⟨w.heap.size+1,1,none⟩=some (.string (bs t))/\wr.cell? ⟨w.heap.size+1,2,none⟩=some (.int .i64 0)/\wr.frozen? ⟨w.heap.size+1,0,none⟩=false/\wr.frozen? ⟨w.heap.size+1,1,none⟩=false/\wr.frozen? ⟨w.heap.size+1,2,none⟩=false) (λi _=>9-(intOf i).toNat)
    case atStart=>exact⟨0,o_,rfl,((JU _ _).alloc (JS _) _).alloc s_ _,s_,by simp[go_sem],by simp[go_sem],by simp[go_sem],by simp[go_sem],by simp[go_sem],by simp[go_sem],by simp[go_sem,nM],by simp[go_sem],by simp[go_sem],by simp[go_sem],by simp[go_sem],by simp[go_sem]⟩
    case round=>
     obtain⟨k,hk,rfl,b,g,K,C,Q,F,H,S,A,L,M,J,P,G⟩:=hrel;by_cases c:k<9
     ·obtain⟨q,r⟩:=E_ (cF[k]'(by simpa [cF] using c))
      have I:wr.cell? ⟨2,k,none⟩=some (.string (bs q)):=by rw[r,b.cell (by show 2<_;omega)];exact U.out.kw k c
      have m:Hid (fM t (k+1)=if q==t then 107 else fM t k):=nN t k c q r
      clear r;cases a:(q==t)
      ·have O:((bs q).toList==(bs t).toList)=false:=by rw[bM,bM];exact a
       rw[a] at m;clear a;go_wp2_with fail;go_quiet (fail)
       go_wp2_with fail;go_roundw
       case rel=>exact⟨k+1,o_,by go_num,below_drewN b _,g,K,C,Q,F,H,S,by rw[m.out];exact A,L,M,J,P,G⟩
       case measure=>simp[intOf];omega
      ·have O:((bs q).toList==(bs t).toList)=true:=by rw[bM,bM];exact a
       rw[a] at m;clear a;go_wp2_with fail;go_quiet (fail)
       go_wp2_with fail;go_roundw
       case rel=>
        refine⟨k+1,o_,by go_num,(below_drewN b _).setCell s_ _,by simpa using g,?_,?_,?_,?_,?_,?_,?_,?_,?_,?_,?_,?_⟩
        all_goals first|(rw[m.out];simp[go_sem,A];done)|(simp[go_sem, *];done)
       case measure=>simp[intOf];omega
     ·obtain rfl:k=9:=o_
      go_wp2_with fail;go_region
      go_wp2_with fail;rw[X.out,show decide (z<=16)=decide (((bs t).size:Int)<=16) by rw[W.out];simp;omega]
      refine bodyPost_ret (v:=.tuple #[.agg #[.int .u8 (fM t 9),.string (bs t),.int .i64 0],.int .i64 j,.bool _]) (by simp[results,results133,go_sem, *]) rfl ⟨rfl,?_⟩
      exact(((b.setCell s_ _).setCell s_ _).setCell s_ _).drew
def rT(r:gF)(n:Nat):Value:=
 .tuple #[.agg #[.int .u8 r.sort,.string (bs r.x_),.int .i64 0],.int .i64 ((n+r.size:Nat)),.bool r.ok]
def CH(s:ByteArray)(n:Nat)(w:World)(f:cS w)(c:s.size<=2000000000)(d:n<s.size):
 Calls prog 133 #[.string s,.int .i64 n] w λe a=>
  e=.returned (rT (dT (s.data.toList.drop n) (bJ s[n])) n)/\Below w.heap.size w a:=by
 cases b:bJ s[n]
 ·exact CG s n w c d b _ _ _ rfl rfl rfl
 ·refine(AA s n w f c d b _ _ rfl rfl).mono ?_;intro e a h;simpa [rT,dT,vD] using h
def bcell{W:World}(a:Below W.heap.size W w1):(∀b o,b<W.heap.size->w1.cell? ⟨b,o,none⟩=W.cell? ⟨b,o,none⟩)/\(∀b o,b<W.heap.size->w1.frozen? ⟨b,o,none⟩=W.frozen? ⟨b,o,none⟩):=
 ⟨λb o h=>a.cell (p:=⟨b,o,none⟩) h,λb o h=>a.frozen (p:=⟨b,o,none⟩) h⟩
def cS.alloc(h:cS w)(o:Obj):cS (w.alloc o):=h.below ((JU _ _).alloc (JS _) _)
def BB(s:ByteArray)(n:Nat)(w:World)(f:cS w)(m:s.size<=2000000000)(p:n<s.size)(d:(bF s[n] || bJ s[n])=true)(r:gF)
 (l:Hid (dT (s.data.toList.drop n) (bJ s[n])=r)):
 Calls prog 87 #[.string s,.int .i64 n] w λe b=>e=.returned (rT r n)/\Below w.heap.size w b:=by
 have k:Hid (∀o,cS (w.alloc o)):=λo=>f.alloc o
 clear f
 have a:bF s[n]=true\/(bF s[n]=false/\bJ s[n]=true):=by
  revert d;cases bF s[n]<;>simp
 clear d;rcases a with g|⟨g,j⟩
 all_goals
  go_enter func87,ntmps87;go_wp2_with (first|(go_at_call 131;refine(fH _ _).mono ?_;rw[g];rintro e b ⟨rfl,rfl⟩)|(go_at_call 132;refine(fF _ _).mono ?_;rw[j];rintro e b ⟨rfl,rfl⟩))
  refine(CH s n _ (k.out _) m p).mono ?_;rw[l.out,rT];rintro e i ⟨rfl,c⟩;obtain⟨q,u⟩:=bcell c;have t:w.heap.size<i.heap.size:=by have:=c.size;simp at this;omega
  go_wp2_with fail;refine bodyPost_ret (v:=.tuple #[.agg #[.int .u8 r.sort,.string (bs r.x_),.int .i64 0],.int .i64 ((n+r.size:Nat)),.bool r.ok]) (by simp[results,results87,go_sem,q]) rfl ⟨rfl,?_⟩
  exact((((((JU _ _).alloc (JS _) _).trans (c.mono s_)).setCell s_ _).setCell s_ _).setCell s_ _)
def vC(b:UInt8):cL b=(((b.toNat:Int) != 34) && ((b.toNat:Int) != 10)):=by
 unfold cL;rw[LG];simp;omega
def DK(s:ByteArray)(n:Nat)(w:World)(M:s.size<=2000000000)(N:n<s.size)(F:bF s[n]=false)(C:bJ s[n]=false)(I:s[n].toNat=34)(t:List UInt8)(z:Nat)(ok:Bool)
 (m:Hid (t=(s.data.toList.drop (n+1)).take z)) (r:Hid (z=aP cL (s.data.toList.drop (n+1)))) (d:Hid (ok=(decide ((s.data.toList.drop (n+1))[z]?=some 34) && decide (z<=100)))):
 Calls prog 87 #[.string s,.int .i64 n] w λe q=>e=.returned (.tuple #[.agg #[.int .u8 115,.string (bs t),.int .i64 0],.int .i64 ((n+(z+2):Nat)),.bool ok])/\Below w.heap.size w q:=by
 have K:((s[n].toNat:Int)==34)=true:=t_
 clear I;go_enter func87,ntmps87;go_wp2_with (first|(go_at_call 131;refine(fH _ _).mono ?_;rw[F];rintro e q ⟨rfl,rfl⟩)|(go_at_call 132;refine(fF _ _).mono ?_;rw[C];rintro e q ⟨rfl,rfl⟩))
 go_loop [8] (λi=>∃j:Nat,n+1<=j/\j<=s.size/\i=.int .i64 j/\Hid (n+1+aP cL (s.data.toList.drop (n+1))=j+aP cL (s.data.toList.drop j))) (λi=>s.size-(intOf i).toNat)
 case atStart=>exact⟨n+1,JS _,o_,by go_num,rfl⟩
 case round=>
  obtain⟨j,D,L,rfl,f⟩:=hrel
  have a:aP cL (s.data.toList.drop j)=0->Hid (n+1+z=j):=λh=>by
   have:=f.out;rw[h] at this;rw[r.out];exact this
  by_cases l:∃h:j<s.size,cL s[j]=true
  ·obtain⟨k,c⟩:=l;have x:(s[j].toNat:Int)<=255:=dC s[j];rw[cM s j k] at f a;rw[eX _ _ _ c] at f
   have E:Hid (n+1+aP cL (s.data.toList.drop (n+1))=j+1+aP cL (s.data.toList.drop (j+1))):=by
    rw[f.out];show _=_;omega
   clear f a;rw[vC,KQ] at c;obtain⟨B,H⟩:=c;go_wp2_with fail;go_round
   case rel=>exact⟨j+1,o_,o_,by go_num,E⟩
   case measure=>simp[intOf];omega
  ·have g:n+1+z=j:=by
    refine(a ?_).out;by_cases k:j<s.size
    ·rw[cM s j k];exact iG _ _ _ (by simpa using λh=>l ⟨k,h⟩)
    ·rw[KJ t_];rfl
   have y:Hid (s.extract (n+1) j=bs t):=by
    show _=_
    rw[gX,m.out,show j-(n+1)=z by omega]
   have J:Hid ((bs t).size=z):=by
    show _=_
    rw[eS,m.out,KH,KS];simp;omega
   have u:Hid (((n+(z+2):Nat):Int)=(j:Int)+1):=by show _=_;omega
   by_cases k:j<s.size
   ·have x:(s[j].toNat:Int)<=255:=dC s[j]
    have p:Hid (ok=(decide (s[j]=34) && decide (z<=100))):=by
     show _=_
     rw[d.out,iB s (n+1) z o_]
     simp only[Option.some.injEq,g]
    have c:cL s[j]=false:=by simpa using λh=>l ⟨k,h⟩
    rw[vC] at c;clear f a m r g l d;by_cases o:s[j].toNat=34
    ·have A:((s[j].toNat:Int) != 34)=false:=t_
     have G:((s[j].toNat:Int)==34)=true:=t_
     have b:Hid (ok=decide (((bs t).size:Int)<=100)):=by
      show _=_
      rw[p.out,J.out,show s[j]=34 from LR.1 (by rw[o];rfl)];simp;omega
     clear o p c;go_wp2_with fail;rw[y.out];go_region
     go_wp2_with fail;rw[u.out,b.out];refine bodyPost_ret (v:=.tuple #[.agg #[.int .u8 115,.string (bs t),.int .i64 0],.int .i64 ((j:Int)+1),.bool _]) (by simp[results,results87,go_sem]) rfl ⟨rfl,?_⟩
     exact(((JU _ _).alloc (JS _) _).alloc s_ _).drew
    ·have A:((s[j].toNat:Int) != 34)=true:=t_
     have G:((s[j].toNat:Int)==34)=false:=t_
     have O:((s[j].toNat:Int) != 10)=false:=by rw[A] at c;simpa using c
     have b:Hid (ok=false):=by
      show _=_
      rw[p.out,show decide (s[j]=34)=false from decide_eq_false (λe=>o (by rw[e];rfl))];rfl
     clear o p c;go_wp2_with fail;rw[y.out];go_region
     go_wp2_with fail;rw[u.out,b.out];refine bodyPost_ret (v:=.tuple #[.agg #[.int .u8 115,.string (bs t),.int .i64 0],.int .i64 ((j:Int)+1),.bool _]) (by simp[results,results87,go_sem]) rfl ⟨rfl,?_⟩
     exact(((JU _ _).alloc (JS _) _).alloc s_ _).drew
   ·have b:Hid (ok=false):=by
     show _=_
     rw[d.out,lG s (n+1) z o_];rfl
    clear f a m r g l d;go_wp2_with fail;rw[y.out];go_region
    go_wp2_with fail;rw[u.out,b.out];refine bodyPost_ret (v:=.tuple #[.agg #[.int .u8 115,.string (bs t),.int .i64 0],.int .i64 ((j:Int)+1),.bool _]) (by simp[results,results87,go_sem]) rfl ⟨rfl,?_⟩
    exact(((JU _ _).alloc (JS _) _).alloc s_ _).drew
def lX:∀k (h:k<21),(bC[k]'(by simpa [bC] using h)).length<=2:=d_
def jU(l:List UInt8)(k:Nat):Prop:=∀o∈bC.take k,bD l o=false
def nS{l:List UInt8}{k:Nat}(h:k<21)(c:jU l k)(b:bD l (bC[k]'(by simpa [bC] using h))=false):jU l (k+1):=by
 intro o a;rw[KA (by simpa [bC] using h)] at a
 rcases LB.1 a with a|a
 ·exact c o a
 ·rw[KB.1 a];exact b
def qJ{l:List UInt8}{k:Nat}(h:k<21)(c:jU l k)(q:List UInt8)(b:q=bC[k]'(by simpa [bC] using h))(a:bD l q=true):
 dZ l={ sort:=112,x_:=q,size:=q.length,ok:=true }:=by
 have e:bC.find? (λo=>bD l o)=some q:=by
  rw[List.find?_eq_some_iff_getElem];refine⟨a,k,by simpa [bC] using h,b.symm,λj d=>?_⟩
  have:=c (bC[j]'(by have:bC.length=21:=rfl;omega)) (by
   rw[List.mem_take_iff_getElem];exact⟨j,by have:bC.length=21:=rfl;omega,rfl⟩)
  simp[this]
 unfold dZ;rw[e]
def nQ{l:List UInt8}(b:jU l 21):dZ l={ sort:=0,x_:=[],size:=0,ok:=false }:=by
 have e:bC.find? (λo=>bD l o)=none:=by
  rw[KX];intro o a;rw[b o (by rw[KT d_];exact a)];simp
 unfold dZ;rw[e]
def xU(s:ByteArray)(n:Nat)(w:World)(m:cS w)(t:s.size<=2000000000)(F:n<s.size)(z:bF s[n]=false)(u:bJ s[n]=false)(B:¬s[n].toNat=34)(r:gF)
 (p:Hid (dZ (s.data.toList.drop n)=r)):
 Calls prog 87 #[.string s,.int .i64 n] w λe d=>e=.returned (rT r n)/\Below w.heap.size w d:=by
 have C:((s[n].toNat:Int)==34)=false:=t_
 clear B;have x:Hid (∀o,cS (w.alloc o)):=λo=>m.alloc o
 clear m;go_enter func87,ntmps87;go_wp2_with (first|(go_at_call 131;refine(fH _ _).mono ?_;rw[z];rintro e d ⟨rfl,rfl⟩)|(go_at_call 132;refine(fF _ _).mono ?_;rw[u];rintro e d ⟨rfl,rfl⟩))
 go_loop [10] (λi=>∃k:Nat,k<=21/\i=.int .i64 k/\Hid (jU (s.data.toList.drop n) k)) (λi=>21-(intOf i).toNat)
 case atStart=>exact⟨0,o_,rfl,λo A=>by simp at A⟩
 case round=>
  obtain⟨k,E,rfl,c⟩:=hrel;by_cases a:k<21
  ·obtain⟨q,l⟩:=E_ (bC[k]'(by simpa [bC] using a))
   have y:∀o,(w.alloc o).cell? ⟨0,k,none⟩=some (.string (bs q)):=λo=>by rw[l];exact(x.out o).ot k a
   have D:q.length<=2:=by rw[l];exact lX k a
   have g:(bs q).size<=100:=by rw[eS];omega
   have j:Hid (q=bC[k]'(by simpa [bC] using a)):=l
   clear l;cases b:bD (s.data.toList.drop n) q
   ·have f:Hid (jU (s.data.toList.drop n) (k+1)):=nS a c.out (by rw[<-j.out];exact b)
    clear c j;go_wp2_with (first|(go_at_call 130;refine(iR s _ n _ t g o_).mono ?_;rw[gK,b];rintro e d ⟨rfl,rfl⟩))
    go_round
    case rel=>exact⟨k+1,o_,by go_num,f⟩
    case measure=>simp[intOf];omega
   ·have f:Hid (r={ sort:=112,x_:=q,size:=q.length,ok:=true }):=by rw[<-p.out];exact qJ a c.out q j.out b
    clear c j;go_wp2_with (first|(go_at_call 130;refine(iR s _ n _ t g o_).mono ?_;rw[gK,b];rintro e d ⟨rfl,rfl⟩))
    go_region
    go_wp2_with fail;rw[f.out,rT];refine bodyPost_ret (v:=.tuple #[.agg #[.int .u8 112,.string (bs q),.int .i64 0],.int .i64 ((n+q.length:Nat)),.bool true]) (by simp[results,results87,go_sem,eS]) rfl ⟨rfl,?_⟩
    exact((JU _ _).alloc (JS _) _).drew
  ·obtain rfl:k=21:=o_
   have f:Hid (r={ sort:=0,x_:=[],size:=0,ok:=false }):=by rw[<-p.out];exact nQ c.out
   clear c;go_wp2_with fail;rw[f.out,rT];refine bodyPost_ret (v:=.tuple #[.agg #[.int .u8 0,.string (bs []),.int .i64 0],.int .i64 ((n:Nat)),.bool false]) (by simp[results,results87,go_sem,bs]) rfl ⟨rfl,?_⟩
   exact((JU _ _).alloc (JS _) _)
def vU(s:ByteArray)(n:Nat)(w:World)(h:cS w)(g:s.size<=2000000000)(f:n<s.size):
 Calls prog 87 #[.string s,.int .i64 n] w λe i=>e=.returned (rT (aT (s.data.toList.drop n)) n)/\Below w.heap.size w i:=by
 have e:s.data.toList.drop n=s[n]::s.data.toList.drop (n+1):=cM s n f;cases a:(bF s[n] || bJ s[n])
 ·have b:=a;rw[Bool.or_eq_false_iff] at a;by_cases d:s[n].toNat=34
  ·have c:aT (s.data.toList.drop n)=iQ (s.data.toList.drop (n+1)):=by rw[e,aT,b,if_neg s_,if_pos d]
   rw[c];exact DK s n w g f a.1 a.2 d _ _ _ rfl rfl rfl
  ·have c:aT (s.data.toList.drop n)=dZ (s.data.toList.drop n):=by rw[e,aT,b,if_neg s_,if_neg d]
   rw[c];exact xU s n w h g f a.1 a.2 d _ rfl
 ·have c:aT (s.data.toList.drop n)=dT (s.data.toList.drop n) (bJ s[n]):=by rw[e,aT,if_pos a]
  rw[c];exact BB s n w h g f a _ rfl
def GF:(prog.info? 115).map (λi=>(i.zero,i.size,i.bytes))=some (some (.agg #[.int .u8 0,.string (bs []),.int .i64 0]),3,32):=k_
def jK(t:aM):List Value:=[.int .u8 t.sort,.string (bs t.x_),.int .i64 t.l_]
def eT:List aM->List Value
 |[]=>[]
 |t::ts=>jK t++eT ts
def lI(a b:List aM):eT (a++b)=eT a++eT b:=by
 induction a with
 |nil=>rfl
 |cons t a c=>simp[eT,c]
def tH(a:List aM):(eT a).length=a.length*3:=by
 induction a with
 |nil=>rfl
 |cons t a b=>simp[eT,jK,b];omega
def zG(s:ByteArray)(w:World)(d:s.size<=2000000000)(b:Nat)(c:Hid (Hs.blankL s.size s.data.toList=b)):
 Calls prog 86 #[.string s,.int .i64 0] w λe a=>e=.returned (.int .i64 b)/\a=w:=by
 have h:=tA s 0 w d (LC _);rw[List.drop_zero,c.out,Nat.zero_add] at h;exact h
def EX(s:ByteArray)(x:Int)(n:Nat)(d:x=n)(w:World)(c:s.size<=2000000000)(f:n<=s.size)(m:Nat)(a:Hid (n+Hs.blankL s.size (s.data.toList.drop n)=m)):
 Calls prog 86 #[.string s,.int .i64 x] w λe b=>e=.returned (.int .i64 m)/\b=w:=by
 subst d;have h:=tA s n w c f;rw[a.out] at h;exact h
def kG(s:ByteArray)(x:Int)(n:Nat)(c:x=n)(w:World)(b:s.size<=2000000000)(d:n<=s.size):
 Calls prog 47 #[.string s,.int .i64 x] w λe a=>e=.returned (.int .i64 (aL (s.data.toList.take n)))/\a=w:=by
 subst c;exact yL s n w b d
def uT(s:ByteArray)(k f:Nat)(e:k<s.size)(a:(aT (s.data.toList.drop k)).ok=true)(m:Nat)
 (b:m=k+(aT (s.data.toList.drop k)).size+Hs.blankL s.size (s.data.toList.drop (k+(aT (s.data.toList.drop k)).size))):
 cP (f+1) (s.data.toList.take k) (s.data.toList.drop k)=
  eC [{ sort:=(aT (s.data.toList.drop k)).sort,x_:=(aT (s.data.toList.drop k)).x_,l_:=aL (s.data.toList.take k) }] (cP f (s.data.toList.take m) (s.data.toList.drop m)):=by
 have c:(s.data.toList.drop k).length=s.size-k:=s_
 have d:=gI _ a
 rw[fZ f _ _ o_ a (m-k) (by
  rw[c,LM,b,qW s.size (s.size-k) _ s_ t_];omega)]
 rw[LM,show k+(m-k)=m by omega,<-List.take_add,show k+(m-k)=m by omega]
def rZ{a:Nat}{j:List Value}(h:w.ownsRow b e a v n j)(m:Below w.heap.size w w1):w1.ownsRow b e a v n j:=by
 refine⟨h.1,?_⟩;rcases h.2 with d|⟨g,f,c,l,d,i,k⟩
 ·exact JX d
 ·refine JR ⟨g,f,c,l,d,?_,k⟩;rw[m.block g ?_];exact i;by_cases o:g<w.heap.size
  ·exact o
  ·rw[LD o_] at i;cases i
def bA{a:Nat}{f:List Value}(h:w.ownsRow b e a v n f):∀k,v.ownBlock=some k->b<=k:=by
 intro k c;rcases h.2 with ⟨rfl,_⟩|⟨g,i,d,rfl,j,_⟩
 ·cases c
 ·have:g=k:=Option.some.inj c;omega
def wV(x:Except Nat (List aM))(w:World)(e:Ending)(w':World):Prop:=
 Below w.heap.size w w'/\
  match x with
  |.error n=>e=.returned (.tuple #[.slice none 0 0,.int .i64 n])
  |.ok ts=>∃v,e=.returned (.tuple #[v,.int .i64 0])/\w'.ownsRow w.heap.size 115 3 v ts.length (eT ts)
def oX(s:ByteArray)(w:World)(hg:cS w)(hs:s.size<=2000):
 Calls prog 48 #[.string s] w (wV (cR s.data.toList) w):=by
 have n:s.size<=2000000000:=o_
 obtain⟨i0,hi,C,E,F⟩:=info_parts GF;have HG:Hid (cS w):=hg;clear hg;have G:Hs.blankL s.size s.data.toList<=s.size:=by have:=gL s.size s.data.toList;simpa using this
 have HB:Hid (cR s.data.toList=cP (s.size+1) (s.data.toList.take (Hs.blankL s.size s.data.toList)) (s.data.toList.drop (Hs.blankL s.size s.data.toList))):=by
  show _=_
  unfold cR;rw[show s.data.toList.length=s.size by simp]
 generalize K:Hs.blankL s.size s.data.toList=Q at*;have J:Hid (Hs.blankL s.size s.data.toList=Q):=K;clear K;generalize cR s.data.toList=N at*;go_enter func48,ntmps48;go_wp2_with (go_at_call 86;refine(zG s _ n Q J).mono ?_;rintro e M ⟨rfl,z⟩;obtain rfl:=z.symm)
 go_loopw [4,5] (λv i wr=>∃(k f:Nat) (q:List aM),k<=s.size/\s.size+1<=k+f/\q.length<=k/\i=.int .i64 k/\wr.ownsRow w.heap.size 115 3 v q.length (eT q)/\Below w.heap.size w wr/\Hid (N=eC q (cP f (s.data.toList.take k) (s.data.toList.drop k)))) (λ_ i _=>s.size-(intOf i).toNat)
 case atStart=>exact⟨Q,s.size+1,[],G,o_,s_,rfl,World.ownsRow_nil _ _ _ _,JU _ _,by rw[HB.out,jT];rfl⟩
 case round=>
  obtain⟨k,f,q,hk,hf,ab,rfl,p,b,B⟩:=hrel;clear HB J G;by_cases x:k<s.size
  ·obtain⟨f,rfl⟩:∃W,f=W+1:=⟨f-1,o_⟩
   have t:cS wr:=HG.out.below b;have V:(s.data.toList.drop k).length=s.size-k:=s_
   cases o:(aT (s.data.toList.drop k)).ok
   ·have D:Hid (N=.error (aL (s.data.toList.take k))):=by
     rw[B.out,fJ _ _ _ o_ o];rfl
    have O:Hid ((aT (s.data.toList.drop k)).ok=false):=o;have T:Hid (cS wr):=t;clear B o V t;go_wp2_with fail;refine(vU s k _ T.out n x).mono ?_;rw[rT,O.out];generalize aT (s.data.toList.drop k)=r;rintro e L ⟨rfl,A⟩;go_wp2_with (go_at_call 47;refine(kG s _ k rfl _ n hk).mono ?_;rintro e M ⟨rfl,rfl⟩)
    go_ret2
    refine⟨(b.trans (A.mono (by have:=b.size;omega))).alloc (by have:=b.size;have:=A.size;omega) _,?_⟩
    rw[D.out];exact rfl
   ·have U:=gI _ o;rw[V] at U;obtain⟨m,Y⟩:=E_ (k+(aT (s.data.toList.drop k)).size+Hs.blankL s.size (s.data.toList.drop (k+(aT (s.data.toList.drop k)).size)))
    have X:m<=s.size:=by
     have:=gL s.size (s.data.toList.drop (k+(aT (s.data.toList.drop k)).size));rw[KS,show s.data.toList.length=s.size by simp] at this
     omega
    have HT:=uT s k f x o m Y
    have D:Hid (N=eC (q++[{ sort:=(aT (s.data.toList.drop k)).sort,x_:=(aT (s.data.toList.drop k)).x_,l_:=aL (s.data.toList.take k) }]) (cP f (s.data.toList.take m) (s.data.toList.drop m))):=by
     rw[B.out,HT,jG];rfl
    have O:Hid ((aT (s.data.toList.drop k)).ok=true):=o;have T:Hid (cS wr):=t;have HM:Hid (k+(aT (s.data.toList.drop k)).size+Hs.blankL s.size (s.data.toList.drop (k+(aT (s.data.toList.drop k)).size))=m):=Y.symm;have aa:k<m:=o_
    clear B o V t HT Y;go_wp2_with fail;refine(vU s k _ T.out n x).mono ?_;rw[rT,O.out];clear O;generalize aT (s.data.toList.drop k)=r at*;rintro e L ⟨rfl,A⟩;have l:L.ownsRow w.heap.size 115 3 _ q.length (eT q):=rZ p A;have c:Below w.heap.size w L:=b.trans (A.mono b.size);clear A b p;go_wp2_with (first|(go_at_call 47;refine(kG s _ k rfl _ n hk).mono ?_;rintro e M ⟨rfl,z⟩;obtain rfl:=z.symm)|(at_builtin;refine wpList_append_own _ rfl _ _ 107 rfl w.heap.size 115 i0 _ 3 32 underlying107 hi C E F rfl d_ _ _ _ rfl ((l.alloc _).alloc _) ⟨L.heap.size+1,0,none⟩ 1 1 (jK { sort:=r.sort,x_:=r.x_,l_:=aL (s.data.toList.take k) }) rfl rfl ?c1 ?c2 ?c3 ?c4 ?c5 ?_))
    case c1=>
     intro j u a;match j,a with
     |0,a=>simp[jK] at a;subst a;simp[Addr.add,go_sem]
     |1,a=>simp[jK] at a;subst a;simp[Addr.add,go_sem]
     |2,a=>simp[jK] at a;subst a;simp[Addr.add,go_sem]
     |j+3,a=>simp[jK] at a
    case c2=>
     intro u I;simp only[jK,KE,KF,or_false] at I;rcases I with rfl|rfl|rfl<;>rfl
    case c3=>unfold maxLen;omega
    case c4=>omega
    case c5=>have:=c.size;simp;omega
    intro P Z d g _;have H:Below w.heap.size w Z:=((c.alloc c.size _).alloc (by have:=c.size;simp;omega) _).grown g (by have:=c.size;simp;omega) (bA l)
    have y:Z.ownsRow w.heap.size 115 3 P (q++[({ sort:=r.sort,x_:=r.x_,l_:=aL (s.data.toList.take k) }:aM)]).length (eT (q++[{ sort:=r.sort,x_:=r.x_,l_:=aL (s.data.toList.take k) }])):=by
     rw[lI,KN];exact d
    clear l d g c;have S:k+r.size<=s.size:=o_
    go_wp2_with (first|(go_at_call 86;refine(EX s _ (k+r.size) s_ _ n S m HM).mono ?_;rintro e M ⟨rfl,z⟩;obtain rfl:=z.symm))
    go_roundw
    case rel=>exact⟨m,f,_,X,o_,t_,rfl,y,H,D⟩
    case measure=>simp[intOf];omega
  ·obtain rfl:k=s.size:=o_
   obtain⟨f,rfl⟩:∃W,f=W+1:=⟨f-1,o_⟩
   have D:Hid (N=.ok (q++[{ sort:=101,x_:=[],l_:=aL (s.data.toList.take s.size) }])):=by
    rw[B.out,fI _ _ _ s_];rfl
   clear B;go_wp2_with (first|(go_at_call 47;refine(kG s _ s.size rfl _ n (JS _)).mono ?_;rintro e M ⟨rfl,z⟩;obtain rfl:=z.symm)|(at_builtin;refine wpList_append_own _ rfl _ _ 107 rfl w.heap.size 115 i0 _ 3 32 underlying107 hi C E F rfl d_ _ _ _ rfl (p.alloc _) ⟨wr.heap.size,0,none⟩ 1 1 (jK { sort:=101,x_:=[],l_:=aL (s.data.toList.take s.size) }) rfl rfl ?c1 ?c2 ?c3 ?c4 ?c5 ?_))
   case c1=>
    intro j u a;match j,a with
    |0,a=>simp[jK] at a;subst a;simp[Addr.add,go_sem]
    |1,a=>simp[jK,bs] at a;subst a;simp[Addr.add,go_sem]
    |2,a=>simp[jK] at a;subst a;simp[Addr.add,go_sem]
    |j+3,a=>simp[jK] at a
   case c2=>
    intro u I;simp only[jK,KE,KF,or_false] at I;rcases I with rfl|rfl|rfl<;>rfl
   case c3=>unfold maxLen;omega
   case c4=>omega
   case c5=>have:=b.size;simp;omega
   intro P Z d g _;go_wp2_with fail;go_ret2
   refine⟨(b.alloc b.size _).grown g (by have:=b.size;simp;omega) (bA p),?_⟩
   rw[D.out];refine⟨P,rfl,?_⟩;rw[lI,KN];exact d
def aA{p:Prop}(h:p):Hid p:=h
structure Ctx where
 pb:Nat
 g:Nat
 cap:Nat
 ts:List aM
structure At(C:Ctx)(w:World)(p bad:Nat):Prop where
 blk:w.heap[C.pb]?=some (.cells #[.slice (some ⟨C.g,0,none⟩) C.ts.length C.cap,.int .i64 p,.int .i64 bad] 112 (0,0))
 row:∃cur,w.heap[C.g]?=some (.cells cur 115 (0,0))/\cur.toList.take (C.ts.length*3)=eT C.ts
 ne:C.g≠C.pb
 lt:p<C.ts.length
 len:C.ts.length<=3000
 cap:C.ts.length<=C.cap
 last:(aE C.ts (C.ts.length-1)).sort=101
 pos:∀q,q<C.ts.length->(aE C.ts q).l_≠0
structure Fr(pb:Nat)(w w':World):Prop where
 os:w'.os=w.os
 tape:w'.tape=w.tape
 output:w'.output=w.output
 size:w.heap.size<=w'.heap.size
 block:∀k,k<w.heap.size->k≠pb->w'.heap[k]?=w.heap[k]?
def Fr.refl(pb:Nat)(w:World):Fr pb w w:=⟨rfl,rfl,rfl,JS _,λ_ _ _=>rfl⟩
def Fr.trans{b:World}(h:Fr pb a b)(k:Fr pb b c):Fr pb a c:=
 ⟨k.os.trans h.os,k.tape.trans h.tape,k.output.trans h.output,KM h.size k.size,λi d e=>(k.block i (JY d h.size) e).trans (h.block i d e)⟩
def Fr.below(h:Below w.heap.size w w'):Fr pb w w':=⟨h.os,h.tape,h.output,h.size,λk a _=>h.block k a⟩
def Fr.drew(h:Fr pb a w):Fr pb a w.drew:=⟨h.os,h.tape,h.output,h.size,h.block⟩
def Fr.drewN(h:Fr pb a w)(n:Nat):Fr pb a (w.drewN n):=⟨h.os,h.tape,h.output,h.size,h.block⟩
def Fr.alloc(h:Fr pb a w)(o:Obj):Fr pb a (w.alloc o):=h.trans (Fr.below ((JU _ _).alloc (JS _) _))
def Fr.setCell(h:Fr pb a w){p:Addr}(d:p.block=pb\/a.heap.size<=p.block)(u:Value):Fr pb a (w.setCell p u):=
 ⟨h.os,h.tape,h.output,by have:=h.size;simpa [World.setCell] using this,λk b c=>by rw[JW _ _ _ _ o_];exact h.block k b c⟩
def aD{o:Obj}(h:w.heap[b]?=some o):b<w.heap.size:=by
 by_cases a:b<w.heap.size
 ·exact a
 ·rw[LD o_] at h;cases h
def aB{c:Array Value}(h:w.heap[b]?=some (.cells c e (0,0)))(a:c[i]?=some v):w.cell? ⟨b,i,none⟩=some v:=by
 simp[World.cell?,h,a]
def aI{c:Array Value}(h:w.heap[b]?=some (.cells c e (0,0))):w.frozen? ⟨b,i,none⟩=false:=by
 simp[World.frozen?,h]
def aO{c:Array Value}{f:Nat × Nat}(h:w.heap[b]?=some (.cells c e f)){u:Value}:(w.setCell ⟨b,i,none⟩ u).heap[b]?=some (.cells (c.setIfInBounds i u) e f):=by
 simp[World.setCell,Array.getElem?_modify,h]
def AJ(ts:List aM)(p:Nat)(h:p<ts.length):(eT ts)[p*3]?=some (.int .u8 (aE ts p).sort)/\(eT ts)[p*3+1]?=some (.string (bs (aE ts p).x_))/\(eT ts)[p*3+1+1]?=some (.int .i64 (aE ts p).l_):=by
 induction ts generalizing p with
 |nil=>simp at h
 |cons t ts a=>
  cases p with
  |zero=>simp[eT,jK,aE]
  |succ p=>
   have:=a p (by simpa using h)
   have e:∀j,(eT (t::ts))[(p+1)*3+j]?=(eT ts)[p*3+j]?:=λj=>by
    rw[eT,LP (by simp[jK];omega)]
    congr 1;simp[jK];omega
   have b:aE (t::ts) (p+1)=aE ts p:=by simp[aE]
   rw[b];exact⟨(e 0).trans this.1,(e 1).trans this.2.1,(e 2).trans this.2.2⟩
def At.tok{C:Ctx}{bad:Nat}(h:At C w p bad):w.cell? ⟨C.g,p*3,none⟩=some (.int .u8 (aE C.ts p).sort)/\w.cell? ⟨C.g,p*3+1,none⟩=some (.string (bs (aE C.ts p).x_))/\w.cell? ⟨C.g,p*3+1+1,none⟩=some (.int .i64 (aE C.ts p).l_):=by
 obtain⟨c,i,g⟩:=h.row;obtain⟨l,f,d⟩:=AJ C.ts p h.lt;have m:=tH C.ts
 have e:∀j v,(eT C.ts)[j]?=some v->w.cell? ⟨C.g,j,none⟩=some v:=λj v a=>by
  have b:j<C.ts.length*3:=by
   by_cases k:j<C.ts.length*3
   ·exact k
   ·rw[KI o_] at a;cases a
  refine aB i ?_;rw[<-g,KY,if_pos b] at a;simpa using a
 exact⟨e _ _ l,e _ _ f,e _ _ d⟩
def At.below{C:Ctx}{bad:Nat}(h:At C w p bad)(c:Below w.heap.size w w'):At C w' p bad:=by
 obtain⟨a,b,d⟩:=h.row;exact⟨by rw[c.block _ (aD h.blk)];exact h.blk,⟨a,by rw[c.block _ (aD b)];exact b,d⟩,h.ne,h.lt,h.len,h.cap,h.last,h.pos⟩
def fK(t:aM):Value:=.agg #[.int .u8 t.sort,.string (bs t.x_),.int .i64 t.l_]
def xN(pb g d p n:Nat)(w:World)(a c:Int)(b:ByteArray)(u:p<n)(_hn:n<=3000)(_hnc:n<=d)(i:pb<w.heap.size)(f:g<w.heap.size)
 (m:w.cell? ⟨pb,0,none⟩=some (.slice (some ⟨g,0,none⟩) n d)) (c1:w.cell? ⟨pb,1,none⟩=some (.int .i64 p))
 (k:w.cell? ⟨g,p*3,none⟩=some (.int .u8 a)) (l:w.cell? ⟨g,p*3+1,none⟩=some (.string b)) (j:w.cell? ⟨g,p*3+1+1,none⟩=some (.int .i64 c)):
  Calls prog 89 #[.pointer (some ⟨pb,0,none⟩)] w λe q=>e=.returned (.agg #[.int .u8 a,.string b,.int .i64 c])/\Below w.heap.size w q:=by
 have x:∀o,(w.alloc o).cell? ⟨pb,0,none⟩=some (.slice (some ⟨g,0,none⟩) n d):=λo=>by rw[World.cell?_alloc_past _ _ _ i];exact m
 have s:∀o,(w.alloc o).cell? ⟨pb,1,none⟩=some (.int .i64 p):=λo=>by rw[World.cell?_alloc_past _ _ _ i];exact c1
 have r:∀o,(w.alloc o).cell? ⟨g,p*3,none⟩=some (.int .u8 a):=λo=>by rw[World.cell?_alloc_past _ _ _ f];exact k
 have y:∀o,(w.alloc o).cell? ⟨g,p*3+1,none⟩=some (.string b):=λo=>by rw[World.cell?_alloc_past _ _ _ f];exact l
 have t:∀o,(w.alloc o).cell? ⟨g,p*3+1+1,none⟩=some (.int .i64 c):=λo=>by rw[World.cell?_alloc_past _ _ _ f];exact j
 clear m c1 k l j;go_enter func89,ntmps89;go_wp2_with fail;go_region
 go_wp2_with fail;refine bodyPost_ret (v:=.agg #[.int .u8 a,.string b,.int .i64 c]) (by simp[results,results89,go_sem]) rfl ⟨rfl,?_⟩
 exact((JU _ _).alloc (JS _) _).drew
def cI(C:Ctx)(w:World)(p bad:Nat)(h:At C w p bad):
 Calls prog 89 #[.pointer (some ⟨C.pb,0,none⟩)] w λe a=>e=.returned (fK (aE C.ts p))/\Below w.heap.size w a:=
 xN C.pb C.g C.cap p C.ts.length w _ _ _ h.lt h.len h.cap (aD h.blk) (by obtain⟨_,b,_⟩:=h.row;exact aD b) (aB h.blk rfl) (aB h.blk rfl) h.tok.1 h.tok.2.1 h.tok.2.2
def At.cells{C:Ctx}{bad:Nat}(h:At C w p bad)(d:Below w.heap.size w w1):
 C.pb<w1.heap.size/\(∀o,(w1.alloc o).cell? ⟨C.pb,1,none⟩=some (.int .i64 p))/\(∀o,(w1.alloc o).cell? ⟨C.pb,2,none⟩=some (.int .i64 bad))/\w1.cell? ⟨C.pb,1,none⟩=some (.int .i64 p)/\w1.cell? ⟨C.pb,2,none⟩=some (.int .i64 bad)/\(∀i,(∀o,(w1.alloc o).frozen? ⟨C.pb,i,none⟩=false)/\w1.frozen? ⟨C.pb,i,none⟩=false):=by
 have a:=h.below d;have b:=aD a.blk;refine⟨b,λo=>?_,λo=>?_,aB a.blk rfl,aB a.blk rfl,λi=>⟨λo=>?_,aI a.blk⟩⟩
 ·rw[World.cell?_alloc_past _ _ _ b];exact aB a.blk rfl
 ·rw[World.cell?_alloc_past _ _ _ b];exact aB a.blk rfl
 ·have c:=a.below ((JU _ _).alloc (JS _) o);exact aI c.blk
def fB(C:Ctx)(w:World)(p bad:Nat)(x:ByteArray)(h:At C w p bad):
 Calls prog 138 #[.pointer (some ⟨C.pb,0,none⟩),.string x] w λe f=>e=.returned (.bool (decide (bad=0) && aF C.ts p x.data.toList))/\Below w.heap.size w f:=by
 have d:Hid (aF C.ts p x.data.toList=(((aE C.ts p).sort==112 || (aE C.ts p).sort==107) && (aE C.ts p).x_==x.data.toList)):=rfl
 have i:Hid (((bs (aE C.ts p).x_).toList==x.toList)=((aE C.ts p).x_==x.data.toList)):=by show _=_;rw[bM,Lib.toList_data]
 have j:=cI C w p bad h;rw[fK] at j;have b:Hid (Calls prog 89 #[.pointer (some ⟨C.pb,0,none⟩)] w λe f=>e=.returned (.agg #[.int .u8 (aE C.ts p).sort,.string (bs (aE C.ts p).x_),.int .i64 (aE C.ts p).l_])/\Below w.heap.size w f):=j
 clear j;have o:Hid (At C w p bad):=h;clear h;generalize aE C.ts p=t at*;obtain⟨c,r,q⟩:=t;simp only at d i b;go_enter func138,ntmps138;go_wp2_with fail;refine b.out.mono ?_;rintro e n ⟨rfl,g⟩;obtain⟨v, -,z, -, -, -⟩:=o.out.cells g;clear b;have a:Below w.heap.size w (n.alloc (.cells #[.int .u8 c,.string (bs r),.int .i64 q] 115)):=g.alloc g.size _;by_cases l:bad=0
 ·subst l;by_cases m:c=112
  ·subst m;go_wp2_with fail;go_ret;exact⟨cK (by rw[d.out,<-i.out];simp),a⟩
  ·have y:((c:Int)==112)=false:=t_
   by_cases k:c=107
   ·subst k;go_wp2_with fail;go_ret;exact⟨cK (by rw[d.out,<-i.out];simp),a⟩
   ·have u:((c:Int)==107)=false:=t_
    go_wp2_with fail;go_ret;exact⟨cK (by rw[d.out];simp[m,k]),a⟩
 ·have s:((bad:Int)==0)=false:=t_
  go_wp2_with fail;go_ret;exact⟨cK (by simp[l]),a⟩
def At.move{C:Ctx}{bad:Nat}(h:At C w p bad)(c:Below w.heap.size w w1)(q:Nat)(e:q<C.ts.length):
 At C (w1.setCell ⟨C.pb,1,none⟩ (.int .i64 q)) q bad/\Fr C.pb w (w1.setCell ⟨C.pb,1,none⟩ (.int .i64 q)):=by
 have b:=h.below c;obtain⟨a,f,d⟩:=b.row;refine⟨⟨?_,⟨a,?_,d⟩,h.ne,e,h.len,h.cap,h.last,h.pos⟩,Fr.setCell (p:=⟨C.pb,1,none⟩) (Fr.below c) (JX rfl) _⟩
 ·rw[aO b.blk];rfl
 ·rw[JW _ _ _ _ h.ne];exact f
def At.spoil{C:Ctx}{bad:Nat}(h:At C w p bad)(c:Below w.heap.size w w1)(q:Nat):
 At C (w1.setCell ⟨C.pb,2,none⟩ (.int .i64 q)) p q/\Fr C.pb w (w1.setCell ⟨C.pb,2,none⟩ (.int .i64 q)):=by
 have b:=h.below c;obtain⟨a,e,d⟩:=b.row;refine⟨⟨?_,⟨a,?_,d⟩,h.ne,h.lt,h.len,h.cap,h.last,h.pos⟩,Fr.setCell (p:=⟨C.pb,2,none⟩) (Fr.below c) (JX rfl) _⟩
 ·rw[aO b.blk];rfl
 ·rw[JW _ _ _ _ h.ne];exact e
def eD(a:Int)(b:ByteArray)(c:Int)(w:World):(Instr.field 115 (.agg #[.int .u8 a,.string b,.int .i64 c]) 2).run prog w=.ok (.int .i64 c) w:=k_
def nC(C:Ctx)(w:World)(p:Nat)(h:At C w p 0):
 Calls prog 50 #[.pointer (some ⟨C.pb,0,none⟩)] w λe d=>e=.returned (.tuple #[])/\At C d p (aE C.ts p).l_/\Fr C.pb w d:=by
 obtain⟨n, -, -, -,q,i⟩:=h.cells (JU _ w);have c:=cI C w p 0 h;rw[fK] at c;have g:Hid (At C w p 0):=h;clear h;have a:=aA c;clear c;go_enter func50,ntmps50;go_wp2_with fail;refine a.out.mono ?_;rintro e m ⟨rfl,f⟩;obtain⟨l, -, -, -,o,b⟩:=g.out.cells f;clear a i;have k:=(b 2).2;clear b;have j:=eD;go_wp2_with fail;go_end0;exact⟨rfl,g.out.spoil f _⟩
def wD(C:Ctx)(w:World)(p bad:Nat)(h:At C w p bad)(f:bad≠0):
 Calls prog 50 #[.pointer (some ⟨C.pb,0,none⟩)] w λe a=>e=.returned (.tuple #[])/\a=w:=by
 obtain⟨d, -, -, -,g,b⟩:=h.cells (JU _ w);have c:((bad:Int)==0)=false:=t_
 clear h;go_enter func50,ntmps50;go_wp2_with fail;go_end0;exact⟨rfl,rfl⟩
def At.next{C:Ctx}{bad:Nat}(h:At C w p bad)(c:(aE C.ts p).sort≠101):p+1<C.ts.length:=by
 have d:=h.lt;have b:=h.last;by_cases a:p=C.ts.length-1
 ·subst a;exact absurd b c
 ·omega
def qM{ts:List aM}(h:aF ts p x=true):(aE ts p).sort≠101:=by
 intro e;unfold aF at h;rw[e] at h;simp at h
def Fr.below_trans{b:World}(h:Below a.heap.size a b)(k:Fr pb b c):Fr pb a c:=(Fr.below h).trans k
def Fr.trans_below{b:World}(h:Fr pb a b)(k:Below b.heap.size b c):Fr pb a c:=h.trans (Fr.below k)
def zO(C:Ctx)(w:World)(p:Nat)(x:ByteArray)(h:At C w p 0)(b:aF C.ts p x.data.toList=true):
 Calls prog 136 #[.pointer (some ⟨C.pb,0,none⟩),.string x] w λe d=>e=.returned (.tuple #[])/\At C d (p+1) 0/\Fr C.pb w d:=by
 have k:p+1<C.ts.length:=h.next (qM b)
 have j:=h.len;have c:=fB C w p 0 x h;rw[b] at c;have a:=aA c;have i:=aA h;clear h c b;go_enter func136,ntmps136;go_wp2_with fail;refine a.out.mono ?_;rintro e m ⟨rfl,f⟩;obtain⟨o, -, -,n,q,g⟩:=i.out.cells f;have l:=(g 1).2;clear g a;go_wp2_with fail;go_end0;refine⟨rfl,?_⟩;have:=i.out.move f (p+1) k;simpa using this
def FP(C:Ctx)(w:World)(p:Nat)(x:ByteArray)(h:At C w p 0)(g:aF C.ts p x.data.toList=false):
 Calls prog 136 #[.pointer (some ⟨C.pb,0,none⟩),.string x] w λe f=>e=.returned (.tuple #[])/\At C f p (aE C.ts p).l_/\Fr C.pb w f:=by
 have b:=fB C w p 0 x h;rw[g] at b;have a:=aA b;have k:=aA h;clear h b g;go_enter func136,ntmps136;go_wp2_with fail;refine a.out.mono ?_;rintro e j ⟨rfl,i⟩;have l:=aA (nC C j p (k.out.below i));clear a;go_wp2_with fail;refine l.out.mono ?_;rintro e m ⟨rfl,d,c⟩;go_wp2_with fail;refine bodyPost_ret (results_none rfl _ _ _) rfl ?_;exact⟨rfl,d,Fr.below_trans i c⟩
def CO(C:Ctx)(w:World)(p bad:Nat)(x:ByteArray)(h:At C w p bad)(f:bad≠0):
 Calls prog 136 #[.pointer (some ⟨C.pb,0,none⟩),.string x] w λe d=>e=.returned (.tuple #[])/\At C d p bad/\Fr C.pb w d:=by
 have b:=fB C w p bad x h;rw[decide_eq_false f] at b;have a:=aA b;have g:=aA h;clear h b;go_enter func136,ntmps136;go_wp2_with fail;refine a.out.mono ?_;rintro e j ⟨rfl,c⟩;have k:=aA (wD C j p bad (g.out.below c) f);clear a;go_wp2_with fail;refine k.out.mono ?_;rintro e l ⟨rfl,i⟩;obtain rfl:=i.symm;go_wp2_with fail;refine bodyPost_ret (results_none rfl _ _ _) rfl ?_;exact⟨rfl,g.out.below c,Fr.below c⟩
def fP(C:Ctx)(w:World)(p:Nat)(x:ByteArray)(h:At C w p 0)(b:aF C.ts p x.data.toList=true):
 Calls prog 139 #[.pointer (some ⟨C.pb,0,none⟩),.string x] w λe d=>e=.returned (.bool true)/\At C d (p+1) 0/\Fr C.pb w d:=by
 have k:p+1<C.ts.length:=h.next (qM b)
 have j:=h.len;have c:=fB C w p 0 x h;rw[b] at c;have a:=aA c;have i:=aA h;clear h c b;go_enter func139,ntmps139;go_wp2_with fail;refine a.out.mono ?_;rintro e m ⟨rfl,f⟩;obtain⟨o, -, -,n,q,g⟩:=i.out.cells f;have l:=(g 1).2;clear g a;go_wp2_with fail;go_ret;refine⟨rfl,?_⟩;have:=i.out.move f (p+1) k;simpa using this
def cV(C:Ctx)(w:World)(p bad:Nat)(x:ByteArray)(h:At C w p bad)(c:(decide (bad=0) && aF C.ts p x.data.toList)=false):
 Calls prog 139 #[.pointer (some ⟨C.pb,0,none⟩),.string x] w λe d=>e=.returned (.bool false)/\Below w.heap.size w d:=by
 have a:=fB C w p bad x h;rw[c] at a;have b:=aA a;have i:=aA h;clear h a c;go_enter func139,ntmps139;go_wp2_with fail;refine b.out.mono ?_;rintro e g ⟨rfl,f⟩;go_wp2_with fail;go_ret;exact⟨rfl,f⟩
def zS(C:Ctx)(w:World)(p:Nat)(h:At C w p 0)(l:(aE C.ts p).sort=110):
 Calls prog 137 #[.pointer (some ⟨C.pb,0,none⟩)] w λe f=>e=.returned (.tuple #[.string (bs (aE C.ts p).x_),.int .i64 (aE C.ts p).l_])/\At C f (p+1) 0/\Fr C.pb w f:=by
 have n:p+1<C.ts.length:=h.next o_
 have k:=h.len;have d:=cI C w p 0 h;rw[fK,l] at d;have b:=aA d;have j:=aA h;clear h d l;go_enter func137,ntmps137;go_wp2_with fail;refine b.out.mono ?_;rintro e m ⟨rfl,g⟩;obtain⟨s,r,t, -, -,i⟩:=j.out.cells g;have q:=(i 1).1;clear i b;go_wp2_with fail;go_quiet (fail)
 go_wp2_with fail;go_ret2
 refine⟨rfl,?_⟩;have c:=j.out.move g (p+1) n;rw[show (((p+1:Nat):Int))=(p:Int)+1 by simp] at c
 have a:=λ(o:Obj)=>(below_drewN ((JU (m.setCell ⟨C.pb,1,none⟩ (.int .i64 ((p:Int)+1))).heap.size _).alloc (JS _) o) nq)
 exact⟨c.1.below (a _),c.2.trans_below (a _)⟩
def GA(C:Ctx)(w:World)(p:Nat)(h:At C w p 0)(m:(aE C.ts p).sort≠110):
 Calls prog 137 #[.pointer (some ⟨C.pb,0,none⟩)] w λe g=>e=.returned (.tuple #[.string (bs []),.int .i64 0])/\At C g p (aE C.ts p).l_/\Fr C.pb w g:=by
 have f:=cI C w p 0 h;rw[fK] at f;have a:=aA f;have i:=aA h;have r:(((aE C.ts p).sort:Int) != 110)=true:=t_
 clear h f m;go_enter func137,ntmps137;go_wp2_with fail;refine a.out.mono ?_;rintro e j ⟨rfl,b⟩;obtain⟨q,n,t, -, -,l⟩:=i.out.cells b;clear l a;have k:=aA (λo=>nC C (j.alloc o) p ((i.out.below b).below ((JU _ _).alloc (JS _) o)))
 go_wp2_with fail;refine(k.out _).mono ?_;rintro e s ⟨rfl,d,c⟩;go_wp2_with fail;go_ret2
 exact⟨rfl,d,Fr.below_trans (b.alloc b.size _) c⟩
def DU(C:Ctx)(w:World)(p bad:Nat)(h:At C w p bad)(k:bad≠0):
 Calls prog 137 #[.pointer (some ⟨C.pb,0,none⟩)] w λe g=>e=.returned (.tuple #[.string (bs []),.int .i64 0])/\At C g p bad/\Fr C.pb w g:=by
 have f:=cI C w p bad h;rw[fK] at f;have b:=aA f;have i:=aA h;have s:((bad:Int) != 0)=true:=t_
 clear h f;go_enter func137,ntmps137;go_wp2_with fail;refine b.out.mono ?_;rintro e j ⟨rfl,c⟩;obtain⟨r,q,u, -, -,m⟩:=i.out.cells c;clear m b;have a:=λo=>(i.out.below c).below ((JU _ _).alloc (JS _) o)
 have l:=aA (λo=>wD C (j.alloc o) p bad (a o) k)
 have d:=aA a;clear a;go_wp2_with fail;refine(l.out _).mono ?_;rintro e t ⟨rfl,n⟩;obtain rfl:=n.symm;go_wp2_with fail;go_ret2
 exact⟨rfl,d.out _,Fr.below (c.alloc c.size _)⟩
def eE(R:Value->aC->Prop):List Value->List aC->Prop
 |[],[]=>True
 |v::vs,a::ks=>R v a/\eE R vs ks
 |_,_=>False
def eE.mono{S:Value->aC->Prop}(h:∀v a,R v a->S v a):∀{vs ks},eE R vs ks->eE S vs ks
 |[],[],_=>trivial
 |_::_,_::_,⟨c,b⟩=>⟨h _ _ c,eE.mono h b⟩
 |[],_::_,h=>h.elim
 |_::_,[],h=>h.elim
def eE.length:∀{vs ks},eE R vs ks->vs.length=ks.length
 |[],[],_=>rfl
 |_::vs,_::ks,⟨_,a⟩=>by simp[eE.length a]
 |[],_::_,h=>h.elim
 |_::_,[],h=>h.elim
def eE.snoc:∀{vs ks} {v a},eE R vs ks->R v a->eE R (vs++[v]) (ks++[a])
 |[],[],_,_,_,h=>⟨h,trivial⟩
 |_::_,_::_,_,_,⟨c,b⟩,h=>⟨c,eE.snoc b h⟩
 |[],_::_,_,_,h,_=>h.elim
 |_::_,[],_,_,h,_=>h.elim
def kB(R:Value->aC->Prop)(F:Nat->Prop)(w:World)(kv:Value)(ks:List aC):Prop:=
 (kv=.slice none 0 0/\ks=[])\/
 ∃g cap cur vs,kv=.slice (some ⟨g,0,none⟩) ks.length cap/\F g/\w.heap[g]?=some (.cells cur 25 (0,0))/\ks.length<=cap/\cur.toList.take ks.length=vs/\eE R vs ks
def eJ:Nat->(Nat->Prop)->World->Value->aC->Prop
 |0,_,_,_,_=>False
 |d+1,F,w,v,a=>∃b kv,v=.pointer (some ⟨b,0,none⟩)/\F b/\w.heap[b]?=some (.cells #[.string (bs a.op),.int .i64 a.l_,.string (bs a.x_),kv] 65 (0,0))/\kB (eJ d F w) F w kv a.y_
def Rep(F:Nat->Prop)(w:World)(v:Value)(a:aC):Prop:=∃d,eJ d F w v a
def kB.mono{S:Value->aC->Prop}(h:kB R F w kv ks)(o:∀v a,R v a->S v a)(l:∀b,F b->G b):kB S G w kv ks:=by
 rcases h with h|⟨g,c,d,f,j,e,m,i,k,n⟩
 ·exact JX h
 ·exact JR ⟨g,c,d,f,j,l _ e,m,i,k,n.mono o⟩
def eJ.mono(c:∀b,F b->G b):∀{d e:Nat} {v a},eJ d F w v a->d<=e->eJ e G w v a
 |d+1,e+1,v,a,⟨b,f,k,i,l,j⟩,g=>⟨b,f,k,c _ i,l,j.mono (λ_ _ h=>eJ.mono c h o_) c⟩
 |0,_,_,_,h,_=>h.elim
def eJ.keep(c:∀b,F b->w'.heap[b]?=w.heap[b]?):∀{d:Nat} {v a},eJ d F w v a->eJ d F w' v a
 |d+1,v,a,⟨b,s,o,j,r,e⟩=>by
  refine⟨b,s,o,j,by rw[c b j];exact r,?_⟩
  rcases e with e|⟨g,f,i,m,l,k,n,t,p,q⟩
  ·exact JX e
  ·exact JR ⟨g,f,i,m,l,k,by rw[c g k];exact n,t,p,q.mono λ_ _ h=>eJ.keep c h⟩
def Rep.mono{a:aC}(h:Rep F w v a)(c:∀b,F b->G b):Rep G w v a:=by
 obtain⟨d,h⟩:=h;exact⟨d,h.mono c (JS _)⟩
def Rep.keep{a:aC}(h:Rep F w v a)(c:∀b,F b->w'.heap[b]?=w.heap[b]?):Rep F w' v a:=by
 obtain⟨d,h⟩:=h;exact⟨d,h.keep c⟩
def eE.depth:∀{vs ks},eE (Rep F w) vs ks->∃d,eE (eJ d F w) vs ks
 |[],[],_=>⟨0,trivial⟩
 |_::_,_::_,⟨⟨d,b⟩,a⟩=>by
  obtain⟨e,c⟩:=eE.depth a;exact⟨max d e,b.mono (λ_ h=>h) (Nat.le_max_left _ _),c.mono λ_ _ h=>h.mono (λ_ h=>h) (Nat.le_max_right _ _)⟩
 |[],_::_,h=>h.elim
 |_::_,[],h=>h.elim
def Kid(F:Nat->Prop)(w:World)(kv:Value)(ks:List aC):Prop:=kB (Rep F w) F w kv ks
def Kid.depth(h:Kid F w kv ks):∃d,kB (eJ d F w) F w kv ks:=by
 rcases h with h|⟨g,b,a,e,k,f,m,i,l,c⟩
 ·exact⟨0,JX h⟩
 ·obtain⟨d,j⟩:=c.depth;exact⟨d,JR ⟨g,b,a,e,k,f,m,i,l,j⟩⟩
def Rep.mk{a:aC}(f:F b)(h:w.heap[b]?=some (.cells #[.string (bs a.op),.int .i64 a.l_,.string (bs a.x_),kv] 65 (0,0)))(e:Kid F w kv a.y_):Rep F w (.pointer (some ⟨b,0,none⟩)) a:=by
 obtain⟨d,c⟩:=e.depth;exact⟨d+1,b,kv,rfl,f,h,c⟩
def Kid.mono(h:Kid F w kv ks)(a:∀b,F b->G b):Kid G w kv ks:=kB.mono h (λ_ _ h=>h.mono a) a
def Kid.keep(h:Kid F w kv ks)(d:∀b,F b->w'.heap[b]?=w.heap[b]?):Kid F w' kv ks:=by
 rcases h with h|⟨g,c,a,i,f,e,j,l,m,k⟩
 ·exact JX h
 ·exact JR ⟨g,c,a,i,f,e,by rw[d g e];exact j,l,m,k.mono λ_ _ h=>h.keep d⟩
def Btw(lo hi:Nat)(b:Nat):Prop:=lo<=b/\b<hi
def dX(C:Ctx)(w:World):Except Nat Nat->Prop
 |.ok q=>At C w q 0
 |.error l=>l≠0/\∃q,At C w q l
def dM{α:Type}:aR α->Except Nat Nat
 |.ok (_,q)=>.ok q
 |.error l=>.error l
def dS{α:Type}(S:Except Nat Nat)(X:Nat->aR α):aR α:=
 match S with
 |.ok q=>X q
 |.error l=>.error l
def kM(C:Ctx)(S:Except Nat Nat)(x:List UInt8):Bool:=
 match S with
 |.ok q=>aF C.ts q x
 |.error _=>false
def gB(C:Ctx)(S:Except Nat Nat)(x:List UInt8):Except Nat Nat:=
 match S with
 |.ok q=>if aF C.ts q x then .ok (q+1) else .ok q
 |.error l=>.error l
def cW(C:Ctx)(S:Except Nat Nat)(x:List UInt8):Except Nat Nat:=
 match S with
 |.ok q=>if aF C.ts q x then .ok (q+1) else .error (aE C.ts q).l_
 |.error l=>.error l
def eO(C:Ctx)(S:Except Nat Nat):Except Nat Nat:=
 match S with
 |.ok q=>if (aE C.ts q).sort==110 then .ok (q+1) else .error (aE C.ts q).l_
 |.error l=>.error l
def fT(C:Ctx)(S:Except Nat Nat):List UInt8:=
 match S with
 |.ok q=>if (aE C.ts q).sort==110 then (aE C.ts q).x_ else []
 |.error _=>[]
def gG(C:Ctx)(S:Except Nat Nat):Nat:=
 match S with
 |.ok q=>if (aE C.ts q).sort==110 then (aE C.ts q).l_ else 0
 |.error _=>0
def dX.below{C:Ctx}(h:dX C w S)(a:Below w.heap.size w w'):dX C w' S:=by
 cases S with
 |ok q=>exact At.below h a
 |error l=>obtain⟨c,q,b⟩:=h;exact⟨c,q,b.below a⟩
def uJ(C:Ctx)(q:Nat)(x:List UInt8):kM C (.ok q) x=aF C.ts q x:=rfl
def qN(C:Ctx)(l:Nat)(x:List UInt8):kM C (.error l) x=false:=rfl
def fU{C:Ctx}(h:aF C.ts q x=true):cW C (.ok q) x=.ok (q+1):=by unfold cW;simp only[h,if_true]
def gT{C:Ctx}(h:aF C.ts q x=false):cW C (.ok q) x=.error (aE C.ts q).l_:=by unfold cW;simp[h]
def uW{C:Ctx}:cW C (.error l) x=.error l:=rfl
def mD{C:Ctx}(h:aF C.ts q x=true):gB C (.ok q) x=.ok (q+1):=by unfold gB;simp only[h,if_true]
def kI{C:Ctx}(h:aF C.ts q x=false):gB C (.ok q) x=.ok q:=by unfold gB;simp[h]
def uL{C:Ctx}:gB C (.error l) x=.error l:=rfl
def iK{C:Ctx}(h:(aE C.ts q).sort=110):eO C (.ok q)=.ok (q+1)/\fT C (.ok q)=(aE C.ts q).x_/\gG C (.ok q)=(aE C.ts q).l_:=by
 unfold eO fT gG;simp[h]
def jV{C:Ctx}(h:(aE C.ts q).sort≠110):eO C (.ok q)=.error (aE C.ts q).l_/\fT C (.ok q)=[]/\gG C (.ok q)=0:=by
 have e:((aE C.ts q).sort==110)=false:=by simpa using h
 unfold eO fT gG;simp[e]
def is_S(C:Ctx)(w:World)(S:Except Nat Nat)(x:ByteArray)(h:dX C w S):
 Calls prog 138 #[.pointer (some ⟨C.pb,0,none⟩),.string x] w λe a=>e=.returned (.bool (kM C S x.data.toList))/\Below w.heap.size w a:=by
 cases S with
 |ok q=>
  have:=fB C w q 0 x h;rw[decide_eq_true rfl,Bool.true_and] at this;exact this
 |error l=>
  obtain⟨c,q,b⟩:=h;have:=fB C w q l x b;rw[decide_eq_false c] at this;exact this
def dW(C:Ctx)(w:World)(S:Except Nat Nat)(x:ByteArray)(h:dX C w S):
 Calls prog 136 #[.pointer (some ⟨C.pb,0,none⟩),.string x] w λe b=>e=.returned (.tuple #[])/\dX C b (cW C S x.data.toList)/\Fr C.pb w b:=by
 cases S with
 |ok q=>
  have a:At C w q 0:=h;cases c:aF C.ts q x.data.toList
  ·rw[gT c];exact(FP C w q x a c).mono λe b ⟨d,k,m⟩=>⟨d,⟨a.pos q a.lt,q,k⟩,m⟩
  ·rw[fU c];exact zO C w q x a c
 |error l=>
  obtain⟨f,q,d⟩:=h;exact(CO C w q l x d f).mono λe b ⟨g,i,j⟩=>⟨g,⟨f,q,i⟩,j⟩
def hY(C:Ctx)(w:World)(S:Except Nat Nat)(x:ByteArray)(h:dX C w S):
 Calls prog 139 #[.pointer (some ⟨C.pb,0,none⟩),.string x] w λe a=>e=.returned (.bool (kM C S x.data.toList))/\dX C a (gB C S x.data.toList)/\Fr C.pb w a:=by
 cases S with
 |ok q=>
  have d:At C w q 0:=h;rw[uJ];cases c:aF C.ts q x.data.toList
  ·rw[kI c];exact(cV C w q 0 x d (by rw[c];rfl)).mono λe a ⟨b,g⟩=>⟨b,d.below g,Fr.below g⟩
  ·rw[mD c];exact fP C w q x d c
 |error l=>
  obtain⟨i,q,b⟩:=h;exact(cV C w q l x b (by rw[decide_eq_false i];rfl)).mono λe a ⟨j,f⟩=>⟨j,⟨i,q,b.below f⟩,Fr.below f⟩
def uG(C:Ctx)(w:World)(S:Except Nat Nat)(h:dX C w S):
 Calls prog 137 #[.pointer (some ⟨C.pb,0,none⟩)] w λe a=>e=.returned (.tuple #[.string (bs (fT C S)),.int .i64 (gG C S)])/\dX C a (eO C S)/\Fr C.pb w a:=by
 cases S with
 |ok q=>
  have b:At C w q 0:=h;by_cases c:(aE C.ts q).sort=110
  ·obtain⟨g,f,i⟩:=iK c;rw[g,f,i];exact zS C w q b c
  ·obtain⟨g,f,i⟩:=jV c;rw[g,f,i];exact(GA C w q b c).mono λe a ⟨d,m,o⟩=>⟨d,⟨b.pos q b.lt,q,m⟩,o⟩
 |error l=>
  obtain⟨j,q,d⟩:=h;exact(DU C w q l d j).mono λe a ⟨k,p,n⟩=>⟨k,⟨j,q,p⟩,n⟩
def mY(C:Ctx)(w:World)(S:Except Nat Nat)(h:dX C w S):
 Calls prog 89 #[.pointer (some ⟨C.pb,0,none⟩)] w λe a=>(∃t,e=.returned (.agg #[.int .u8 (aM.sort t),.string (bs t.x_),.int .i64 t.l_])/\∀q,S=.ok q->t=aE C.ts q)/\Below w.heap.size w a:=by
 cases S with
 |ok q=>exact(cI C w q 0 h).mono λe a ⟨b,f⟩=>⟨⟨_,b,λg e=>by cases e;rfl⟩,f⟩
 |error l=>
  obtain⟨i,q,b⟩:=h;exact(cI C w q l b).mono λe a ⟨c,d⟩=>⟨⟨_,c,λg e=>by cases e⟩,d⟩
def cG(C:Ctx)(w:World)(r:aR aC)(e:Ending)(w':World):Prop:=
 Fr C.pb w w'/\dX C w' (dM r)/\∃b,e=.returned (.pointer (some ⟨b,0,none⟩))/\∀a q,r=.ok (a,q)->Rep (Btw w.heap.size w'.heap.size) w' (.pointer (some ⟨b,0,none⟩)) a
def zY(C:Ctx)(w:World)(r:aR (List aC))(e:Ending)(w':World):Prop:=
 Fr C.pb w w'/\dX C w' (dM r)/\∃x n c,e=.returned (.slice x n c)/\∀ks q,r=.ok (ks,q)->Kid (Btw w.heap.size w'.heap.size) w' (.slice x n c) ks
def Reads(C:Ctx)(f:Nat)(X:Nat->aR aC):Prop:=
 ∀(w:World) (S:Except Nat Nat),dX C w S->dS S X≠.error 0->Calls prog f #[.pointer (some ⟨C.pb,0,none⟩)] w (cG C w (dS S X))
def eZ:(prog.info? 25).map (λi=>(i.zero,i.size,i.bytes))=some (some (.pointer none),1,8):=k_
def Lst(b_:Nat)(w:World)(v:Value)(acc:List aC):Prop:=
 ∃vs F,w.ownsRow b_ 25 1 v acc.length vs/\eE (Rep F w) vs acc/\∀b,F b->b_<=b/\b<w.heap.size/\v.ownBlock≠some b
def Lst.nil(b_:Nat)(w:World):Lst b_ w (.slice none 0 0) []:=⟨[],λ_=>False,World.ownsRow_nil _ _ _ _,trivial,λ_ h=>h.elim⟩
def bX{a:Nat}{j:List Value}(h:w.ownsRow b e a v n j)(m:∀k,v.ownBlock=some k->w1.heap[k]?=w.heap[k]?):w1.ownsRow b e a v n j:=by
 refine⟨h.1,?_⟩;rcases h.2 with d|⟨g,f,c,i,d,o,l⟩
 ·exact JX d
 ·refine JR ⟨g,f,c,i,d,?_,l⟩;rw[m g (by rw[i];rfl)];exact o
def cH{a:Nat}{f:List Value}(h:w.ownsRow b e a v n f):∀k,v.ownBlock=some k->k<w.heap.size:=by
 intro k c;rcases h.2 with ⟨rfl,_⟩|⟨g,i,d,rfl,l,j,_⟩
 ·cases c
 ·have:g=k:=Option.some.inj c;subst this;exact aD j
def Lst.keep(h:Lst b_ w v acc)(c:Fr pb w w1)(j:pb<b_):Lst b_ w1 v acc:=by
 obtain⟨g,F,d,i,e⟩:=h;refine⟨g,F,bX d λk f=>?_,i.mono λ_ _ h=>h.keep λb a=>?_,λb a=>?_⟩
 ·have:=bA d k f;exact c.block k (cH d k f) o_
 ·have:=e b a;have:=c.size;exact⟨o_,o_,(e b a).2.2⟩
 ·have:=e b a;exact c.block b this.2.1 o_
def Lst.snoc{lo:Nat}{q:World}{o:Value}{a:aC}{g m:Nat}{vs:List Value}(s:eE (Rep F w) vs acc)(y:∀b,F b->b_<=b/\b<w.heap.size/\v.ownBlock≠some b)
 (x:Rep (Btw lo w.heap.size) w o a) (z:b_<=lo) (n:∀k,v.ownBlock=some k->k<lo) (p:∀k,k<w.heap.size->q.heap[k]?=w.heap[k]?) (u:w.heap.size<=q.heap.size)
 (l:w2.ownsRow b_ 25 1 (.slice (some ⟨g,0,none⟩) (acc.length+1) m) (acc.length+1) (vs++[o]))
 (f:q.grownBy w2 v.ownBlock) (j:v.ownBlock=some g\/w.heap.size<=g):Lst b_ w2 (.slice (some ⟨g,0,none⟩) (acc.length+1) m) (acc++[a]):=by
 have r:∀b,(F b\/Btw lo w.heap.size b)->b_<=b/\b<w.heap.size/\v.ownBlock≠some b:=by
  rintro b (i|i)
  ·exact y b i
  ·exact⟨by have:=i.1;omega,i.2,λe=>by have:=n b e;have:=i.1;omega⟩
 have c:∀b,(F b\/Btw lo w.heap.size b)->w2.heap[b]?=w.heap[b]?:=λb i=>by
  have d:=r b i;rw[f.block b o_ (λe=>d.2.2 e.symm),p b d.2.1]
 refine⟨vs++[o],λb=>F b\/Btw lo w.heap.size b,?_,?_,?_⟩
 ·rw[KN];exact l
 ·exact eE.snoc (s.mono λ_ _ h=>(h.mono (λ_=>JX)).keep c) ((x.mono (λ_=>JR)).keep c)
 ·intro b i;have d:=r b i;have:=f.size;refine⟨d.1,o_,λe=>?_⟩
  have t:g=b:=Option.some.inj e;rcases j with j|j
  ·exact d.2.2 (by rw[j,t])
  ·omega
def Lst.kid(h:Lst b_ w v acc):Kid (Btw b_ w.heap.size) w v acc:=by
 obtain⟨m,F,o,k,j⟩:=h;rcases o.2 with ⟨a,e⟩|⟨g,c,d,a,e,f,l,q,p,n⟩
 ·exact JX ⟨a,KO e⟩
 ·exact JR ⟨g,c,d,m,a,⟨e,aD f⟩,f,l,by rw[<-n,Nat.mul_one],k.mono λ_ _ h=>h.mono λb i=>⟨(j b i).1,(j b i).2.1⟩⟩
def Fr.grown{b:Option Nat}(h:Fr pb a w)(c:w.grownBy w' b)(f:∀k,b=some k->a.heap.size<=k):Fr pb a w':=
 ⟨c.os.trans h.os,c.tape.trans h.tape,c.output.trans h.output,KM h.size c.size,λk d g=>by
   rw[c.block k (JY d h.size) (λe=>by have:=f k e.symm;omega)];exact h.block k d g⟩
def At.grown{C:Ctx}{a:Option Nat}(h:At C w p l)(i:w.grownBy w' a)(n:∀k,a=some k->b_<=k)(m:C.pb<b_)(d:C.g<b_):At C w' p l:=by
 obtain⟨c,f,g⟩:=h.row;have b:∀k,k<w.heap.size->k<b_->w'.heap[k]?=w.heap[k]?:=λk j b=>i.block k j λe=>by have:=n k e.symm;omega
 exact⟨by rw[b _ (aD h.blk) m];exact h.blk,⟨c,by rw[b _ (aD f) d];exact f,g⟩,h.ne,h.lt,h.len,h.cap,h.last,h.pos⟩
def dX.grown{C:Ctx}{b:Option Nat}(h:dX C w S)(e:w.grownBy w' b)(d:∀k,b=some k->b_<=k)(c:C.pb<b_)(a:C.g<b_):dX C w' S:=by
 cases S with
 |ok q=>exact At.grown h e d c a
 |error l=>obtain⟨g,q,f⟩:=h;exact⟨g,q,f.grown e d c a⟩
def dX.facts{C:Ctx}(h:dX C w S):C.pb<w.heap.size/\C.g<w.heap.size/\C.ts.length<=3000:=by
 have a:∀q l,At C w q l->C.pb<w.heap.size/\C.g<w.heap.size/\C.ts.length<=3000:=λq l h=>by
  obtain⟨c,b,_⟩:=h.row;exact⟨aD h.blk,aD b,h.len⟩
 cases S with
 |ok q=>exact a q 0 h
 |error l=>obtain⟨_,q,b⟩:=h;exact a q l b
def dX.alloc{C:Ctx}(h:dX C w S)(o:Obj):dX C (w.alloc o) S:=h.below ((JU _ _).alloc (JS _) _)
def dX.bad{C:Ctx}(h:dX C w (.error l)):C.pb<w.heap.size/\∃c:Int,(c==0)=false/\w.cell? ⟨C.pb,2,none⟩=some (.int .i64 c):=by
 obtain⟨b,q,a⟩:=h;exact⟨aD a.blk,(l:Int),t_,aB a.blk rfl⟩
def At.good{C:Ctx}(h:At C w q 0):C.pb<w.heap.size/\w.cell? ⟨C.pb,2,none⟩=some (.int .i64 0):=⟨aD h.blk,aB h.blk rfl⟩
def ID(C:Ctx)(E:Nat->aR aC)(w:World)(r:aR (List aC))(k:Nat)(v more:Value)(wr:World):Prop:=
 Fr C.pb w wr/\
 ((∃q acc,more=.bool true/\At C wr q 0/\r=bZ E C.ts k q acc/\acc.length+k<=4000/\Lst w.heap.size wr v acc)\/
  (∃b x n c,more=.bool b/\v=.slice x n c/\(b=true->∃l,r=.error l)/\dX C wr (dM r)/\∀acc q,r=.ok (acc,q)->Lst w.heap.size wr v acc))
def Lst.slice(h:Lst b_ w v acc):∃x n c,v=.slice x n c:=by
 obtain⟨e,F,b,_⟩:=h;rcases b.2 with ⟨rfl,_⟩|⟨g,d,a,rfl,_⟩
 ·exact⟨_,_,_,rfl⟩
 ·exact⟨_,_,_,rfl⟩
def eA{c:Type}(C:Ctx)(x:List UInt8)(r:aR c):cW C (dM r) x=dM (aG C.ts x r):=by
 cases r with
 |error l=>rfl
 |ok b=>
  obtain⟨a,q⟩:=b;show cW C (.ok q) x=dM (if aF C.ts q x then .ok (a,q+1) else Hs.bad C.ts q)
  cases h:aF C.ts q x
  ·rw[gT h];rfl
  ·rw[fU h];rfl
def dY{c:Type}{C:Ctx}{r:aR c}{a:c}(h:aG C.ts x r=.ok (a,q)):∃b,r=.ok (a,b):=by
 cases r with
 |error l=>cases h
 |ok d=>
  obtain⟨e,b⟩:=d;unfold aG at h;simp only at h;split at h
  ·cases h;exact⟨b,rfl⟩
  ·cases h
def qK{C:Ctx}{w3:World}{f r:aR (List aC)}{y:List UInt8}{i:Option Addr}{g c1:Nat}(m:r=aG C.ts y f)(l:Fr C.pb w w2)(e:dX C w3 (cW C (dM f) y))(a:Fr C.pb w2 w3)
 (c:∀b q,f=.ok (b,q)->Lst w.heap.size w2 (.slice i g c1) b) (d:C.pb<w.heap.size):zY C w r (.returned (.slice i g c1)) w3:=by
 subst m;refine⟨l.trans a,by rw[<-eA];exact e,i,g,c1,rfl,λj q h=>?_⟩
 obtain⟨n,k⟩:=dY h;exact((c j n k).keep a d).kid
def IM(C:Ctx)(E:Nat->aR aC)(HE:Reads C 49 E)(w:World)(S:Except Nat Nat)(x y:ByteArray)(h:dX C w S)(U r:aR (List aC))
 (h0:Hid (U=dS (cW C S x.data.toList) λq=>dL E C.ts q y.data.toList)) (h1:Hid (r=aG C.ts y.data.toList U)) (hr:U≠.error 0):
 Calls prog 224 #[.pointer (some ⟨C.pb,0,none⟩),.string x,.string y] w (zY C w r):=by
 obtain⟨i0,hi,ap,ba,ax⟩:=info_parts eZ;obtain⟨p,bb,bc⟩:=h.facts;have HT:=aA (dW C w S x h);have ay:=aA HE;have ad:=aA hr;clear h HE hr;generalize cW C S x.data.toList=S1 at*;go_enter func224,ntmps224;go_wp2_with fail;refine HT.out.mono ?_;rintro e w1 ⟨rfl,Y,ak⟩;have HI:=aA (is_S C w1 S1 y Y);have HA:=aA Y;have HF:=aA ak;clear Y ak HT;go_wp2_with fail;refine HI.out.mono ?_;rintro e w2 ⟨rfl,hb⟩;have H:=aA (HA.out.below hb);have ab:=aA (HF.out.trans_below hb);clear HA HF hb HI;cases B:kM C S1 y.data.toList
 ·have HB:=aA B;clear B;go_wp2_with fail;go_loopg [7,8] (C.ts.length+1) (λk v N wr=>ID C E w U k v N wr)
  case atStart=>
   refine⟨ab.out,?_⟩;cases S1 with
   |ok q=>
    refine JX ⟨q,[],rfl,H.out,?_,t_,Lst.nil _ _⟩
    rw[h0.out];show dL E C.ts q y.data.toList=_
    unfold dL;have:=HB.out;rw[uJ] at this;rw[this];rfl
   |error l=>
    have e:U=.error l:=h0.out;exact JR ⟨true,none,0,0,rfl,rfl,λ_=>⟨l,e⟩,by rw[e];exact H.out,λs q o=>by rw[e] at o;cases o⟩
  case round=>
   obtain⟨Z,hrel⟩:=hrel;have I:=aA Z;have ah:=Z.size;clear Z H ab HB h0;rcases hrel with ⟨q,s,rfl,o,G,bg,W⟩|⟨b,x1,n1,c1,rfl,rfl,V,hS,Q⟩
   ·-- one expression N
    obtain⟨k,rfl⟩:∃k,gk=k+1:=by
     cases gk with
     |zero=>exact absurd G ad.out
     |succ k=>exact⟨k,rfl⟩
    obtain⟨an,au⟩:=o.good
    have ae:dS (.ok q) E≠.error 0:=λe=>ad.out (by
     rw[G,bZ];rw[show E q=.error 0 from e])
    have HC:=aA (ay.out wr (.ok q) o ae);have ar:=aA G;have HL:=aA W;clear G o ae;obtain⟨x1,n1,c1,rfl⟩:=W.slice;clear W;go_wp2_with fail;refine HC.out.mono ?_;rintro e w3 ⟨f,i,b3,rfl,M⟩;obtain⟨vs,F,A,L,hF⟩:=HL.out.keep f p;have bd:=f.size;have T:=aA f;have K:=aA i;have HREP:=aA M;have HALL:=aA (JV L hF)
    have al:∀g,(Value.slice x1 n1 c1).ownBlock=some g->g<wr.heap.size:=by
     obtain⟨bf,F',ac,_⟩:=HL.out;exact cH ac
    have af:=aA al;clear f i M L hF al HC;go_wp2_with (at_builtin;refine wpList_append_lies _ r_ _ _ 63 r_ w.heap.size 25 i0 _ 1 8 underlying63 hi ap ba ax rfl d_ _ _ _ r_ (A.alloc _) ⟨w3.heap.size,0,none⟩ 1 1 [.pointer (some ⟨b3,0,none⟩)] r_ r_ ?c1 ?c2 d_ ?c3 ?c4 ?c5 (w3.heap.size+1) s_ ?_)
    case c1=>
     intro j u hj;match j,hj with
     |0,hj=>simp at hj;subst hj;simp[Addr.add,go_sem]
     |j+1,hj=>simp at hj
    case c2=>intro u hu;simp at hu;subst hu;rfl
    case c3=>unfold maxLen;omega
    case c4=>omega
    case c5=>simp;omega
    intro g az w4 z n J bi;have X:∀k,(Value.slice x1 n1 c1).ownBlock=some k->w.heap.size<=k:=bA A;have av:=aA ((K.out.alloc _).grown n X p bb);have aw:=aA (((I.out.trans T.out).alloc _).grown n X)
    have ao:Hid (∀a t,E q=.ok (a,t)->Lst w.heap.size w4 (.slice (some ⟨g,0,none⟩) (s.length+1) az) (s++[a])):=λa t ha=>
     Lst.snoc (lo:=wr.heap.size) HALL.out.1 HALL.out.2 (HREP.out a t ha) ah af.out (λk hk=>JZ _ _ _ hk) s_ z n (J.imp_right (λe=>by omega))
    clear A z n J X HALL HREP af K T HL I;have HX:=aA (hY C w4 _ ⟨#[44]⟩ av.out);go_wp2_with fail;refine HX.out.mono ?_;rintro e w5 ⟨rfl,ai,O⟩;go_wp2_with fail;go_roundg k
    case measure=>omega
    case rel=>
     have am:Fr C.pb w w5:=aw.out.trans O;refine⟨am,?_⟩;have m:=ar.out;rw[bZ] at m;have d:=ai;rw[show dS (.ok q) E=E q from rfl] at d ⊢
     cases hE:E q with
     |error l=>
      rw[hE] at m d;exact JR ⟨_,_,_,_,rfl,rfl,λ_=>⟨l,m⟩,by rw[m];exact d,λs q o=>by rw[m] at o;cases o⟩
     |ok aq=>
      obtain⟨a,t⟩:=aq;have P:=(ao.out a t hE).keep O p;rw[hE] at m d;simp only at m;show _\/_
      have e1:dM (Except.ok (a,t):aR aC)=.ok t:=rfl;rw[e1] at d ⊢
      rw[uJ];cases hc:aF C.ts t [44]
      ·have e2:gB C (.ok t) (⟨#[44]⟩:ByteArray).data.toList=.ok t:=kI hc;rw[e2] at d;rw[hc] at m;exact JR ⟨false,_,_,_,rfl,rfl,(λh=>by cases h),by rw[m];exact d,λbe q' o=>by rw[m] at o;cases o;exact P⟩
      ·have e2:gB C (.ok t) (⟨#[44]⟩:ByteArray).data.toList=.ok (t+1):=mD hc;rw[e2] at d;rw[hc] at m;exact JX ⟨t+1,s++[a],rfl,d,m,t_,P⟩
   ·-- the loop is left
    have bj:=aA hS;have HROW:=aA Q;have D:=aA (dW C wr (dM U) y hS);clear Q;cases b
    ·clear V hS;go_wp2_with fail;refine D.out.mono ?_;rintro e w3 ⟨rfl,i,f⟩;go_wp2_with fail;go_ret;exact qK h1.out I.out i f HROW.out p
    ·obtain⟨l,hl⟩:=V rfl;have aa:=hS;rw[hl] at aa;obtain⟨an,c,bh,au⟩:=dX.bad aa;clear V hS aa hl;go_wp2_with fail;refine D.out.mono ?_;rintro e w3 ⟨rfl,i,f⟩;go_wp2_with fail;go_ret;exact qK h1.out I.out i f HROW.out p
 ·obtain⟨q,rfl,o⟩:∃q,S1=.ok q/\aF C.ts q y.data.toList=true:=by
   cases S1 with
   |ok q=>exact⟨q,rfl,B⟩
   |error l=>cases B
  have D:=aA (dW C w2 (.ok q) y H.out)
  have e0:U=.ok ([],q):=by
   rw[h0.out];show dL E C.ts q y.data.toList=_
   unfold dL;rw[o];rfl
  have ag:=aA e0;clear B o e0;go_wp2_with fail;refine D.out.mono ?_;rintro e w3 ⟨rfl,i,f⟩;go_wp2_with fail;go_ret;refine qK (w2:=w2) h1.out ab.out (by rw[ag.out];exact i) f (λs q' aj=>?_) p
  rw[ag.out] at aj;cases aj;exact Lst.nil _ _
def yK(C:Ctx)(E:Nat->aR aC)(d:Reads C 49 E)(w:World)(S:Except Nat Nat)(x y:ByteArray)(h:dX C w S)(b:dS S (λq=>bP E C.ts q x.data.toList y.data.toList)≠.error 0):
 Calls prog 224 #[.pointer (some ⟨C.pb,0,none⟩),.string x,.string y] w (zY C w (dS S λq=>bP E C.ts q x.data.toList y.data.toList)):=by
 have e:dS S (λq=>bP E C.ts q x.data.toList y.data.toList)=aG C.ts y.data.toList (dS (cW C S x.data.toList) λq=>dL E C.ts q y.data.toList):=by
  cases S with
  |ok q=>
   show bP E C.ts q x.data.toList y.data.toList=_
   unfold bP;cases a:aF C.ts q x.data.toList
   ·rw[gT a];rfl
   ·rw[fU a];rfl
  |error l=>rfl
 refine IM C E d w S x y h _ _ rfl e λc=>b ?_
 rw[e,c];rfl
def Fr.cells(h:Fr pb w w')(c:b<w.heap.size)(d:b≠pb):(∀i,w'.cell? ⟨b,i,none⟩=w.cell? ⟨b,i,none⟩)/\(∀i,w'.frozen? ⟨b,i,none⟩=w.frozen? ⟨b,i,none⟩):=
 ⟨λi=>World.cell?_of_block (a:=⟨b,i,none⟩) (h.block b c d),λi=>World.frozen?_of_block (a:=⟨b,i,none⟩) (h.block b c d)⟩
def aJ{e d c a:Value}(h:w.heap[b]?=some (.cells #[e,d,c,a] 65 (0,0))):
 b<w.heap.size/\w.cell? ⟨b,0,none⟩=some e/\w.cell? ⟨b,1,none⟩=some d/\w.cell? ⟨b,2,none⟩=some c/\w.cell? ⟨b,3,none⟩=some a/\w.frozen? ⟨b,0,none⟩=false/\w.frozen? ⟨b,2,none⟩=false/\w.frozen? ⟨b,3,none⟩=false:=
 ⟨aD h,aB h rfl,aB h rfl,aB h rfl,aB h rfl,aI h,aI h,aI h⟩
def At.two{C:Ctx}(h:At C w p l):C.pb<w.heap.size/\(∀b a,((w.alloc b).alloc a).cell? ⟨C.pb,1,none⟩=some (.int .i64 p))/\(∀b a,((w.alloc b).alloc a).cell? ⟨C.pb,2,none⟩=some (.int .i64 l))/\(∀b a,((w.alloc b).alloc a).frozen? ⟨C.pb,1,none⟩=false):=by
 have c:∀b a,At C ((w.alloc b).alloc a) p l:=λb a=>(h.below ((JU _ _).alloc (JS _) b)).below ((JU _ _).alloc (JS _) a)
 exact⟨aD h.blk,λb a=>aB (c b a).blk rfl,λb a=>aB (c b a).blk rfl,λb a=>aI (c b a).blk⟩
def Below.two(b a:Obj):Below w.heap.size w ((w.alloc b).alloc a):=((JU _ _).alloc (JS _) b).alloc s_ a
def qC(C:Ctx)(w:World)(l:Nat)(h:dX C w (.error l)):
 Calls prog 184 #[.pointer (some ⟨C.pb,0,none⟩)] w (cG C w (.error l)):=by
 have d:=aA (mY C w (.error l) h);have f:=aA h;clear h;go_enter func184,ntmps184;go_wp2_with fail;refine d.out.mono ?_;rintro e i ⟨⟨t,rfl, -⟩,b⟩;obtain⟨m,q,c⟩:=f.out;obtain⟨k, -,g, -⟩:=(c.below b).two;have j:((l:Int) != 0)=true:=t_
 clear c d;go_wp2_with fail;go_ret;exact⟨Fr.below ((b.alloc b.size _).alloc (by have:=b.size;simp;omega) _),(f.out.below b).below (Below.two _ _),_,rfl,λa q h=>by cases h⟩
def aW(X:World)(n:Nat)(b:n=X.heap.size)(a:Obj):(X.alloc a).heap[n]?=some a:=by
 subst b;show (X.heap.push a)[X.heap.size]?=_
 rw[Array.getElem?_push,if_pos rfl]
def eM(X:World)(n:Nat)(c:n=X.heap.size+1)(b a:Obj):((X.alloc b).alloc a).heap[n]?=some a:=
 aW (X.alloc b) n (by rw[c];simp) a
def dO(X:World)(n:Nat)(a:n<X.heap.size)(o:Obj){b:Option Obj}(h:X.heap[n]?=b):(X.alloc o).heap[n]?=b:=by
 rw[JZ _ _ _ a];exact h
def Below.three(c b a:Obj):Below w.heap.size w (((w.alloc c).alloc b).alloc a):=(Below.two c b).alloc t_ a
def At.step{C:Ctx}{bad:Nat}(h:At C w p bad)(c:Below w.heap.size w w1)(b:p+1<C.ts.length):
 At C (w1.setCell ⟨C.pb,1,none⟩ (.int .i64 ((p:Int)+1))) (p+1) bad/\Fr C.pb w (w1.setCell ⟨C.pb,1,none⟩ (.int .i64 ((p:Int)+1))):=by
 have a:=h.move c (p+1) b;rw[show (((p+1:Nat):Int))=(p:Int)+1 by simp] at a
 exact a
def fN(w:World)(a:Addr)(v:Value):(w.setCell a v).heap.size=w.heap.size:=by simp[World.setCell]
def BY(w1:World)(c a:Obj)(b:UInt8):
 (convert 189 9 (.slice (some ⟨w1.heap.size+1+1,0,none⟩) 1 1)).run prog (((w1.alloc c).alloc a).alloc (.cells #[.int .u8 b.toNat] 5))=.ok (.string (bs [b])) (((w1.alloc c).alloc a).alloc (.cells #[.int .u8 b.toNat] 5)):=by
 refine run_convert_bytes_back (P:=prog) _ 189 9 5 ⟨w1.heap.size+1+1,0,none⟩ 1 [b] underlying189 underlying5 underlying9 λj d=>?_
 obtain rfl:j=0:=by simp at d;omega
 simp[Addr.add,go_sem]
def lZ{C:Ctx}{a:aC}(f:Fr C.pb w w')(d:At C w' q 0)(h:w.heap.size<=b)(g:a.y_=[])
 (c:w'.heap[b]?=some (.cells #[.string (bs a.op),.int .i64 a.l_,.string (bs a.x_),.slice none 0 0] 65 (0,0))):cG C w (.ok (a,q)) (.returned (.pointer (some ⟨b,0,none⟩))) w':=
 ⟨f,d,b,rfl,λi j e=>by
   cases e;exact Rep.mk ⟨h,aD c⟩ c (JX ⟨rfl,g⟩)⟩
def nO(C:Ctx)(w:World)(p:Nat)(h:At C w p 0)(b:UInt8)(i:(aE C.ts p).sort=b.toNat)(a:b=48\/b=115):
 Calls prog 184 #[.pointer (some ⟨C.pb,0,none⟩)] w (cG C w (.ok (aH [b] (aE C.ts p).l_ (aE C.ts p).x_ [],p+1))):=by
 have s:p+1<C.ts.length:=h.next (by rcases a with rfl|rfl<;>(rw[i];decide))
 have l:=h.len;have m:=aA (cI C w p 0 h);have k:=aA h;clear h;generalize aE C.ts p=t at*;obtain⟨A,G,F⟩:=t;simp only[fK] at m i ⊢
 subst i
 have c:(((b.toNat:Int)==48)=true)\/(((b.toNat:Int)==48)=false/\((b.toNat:Int)==115)=true):=by
  rcases a with rfl|rfl
  ·exact JX d_
  ·exact JR ⟨d_,d_⟩
 clear a;rcases c with x|⟨x,B⟩
 all_goals
  go_enter func184,ntmps184;go_wp2_with fail;refine m.out.mono ?_;rintro e f ⟨rfl,g⟩;obtain⟨H, -, -,D,E,j⟩:=k.out.cells g;have z:=(j 1).2;clear j;have y:=λu o=>BY f u o b
  have n:C.pb<f.heap.size+1:=o_
  have v:C.pb<f.heap.size+1+1:=o_
  go_wp2_with fail;go_ret;have d:=k.out.step g s;have r:=g.size;refine lZ (q:=p+1) (b:=f.heap.size+1) (d.2.trans_below (Below.three _ _ _)) (d.1.below (Below.three _ _ _)) o_ rfl ?_
  exact dO _ _ s_ _ (eM _ _ s_ _ _)
def bV(h:w'.heap[b]?=w.heap[b]?):w'.cell? ⟨b,i,none⟩=w.cell? ⟨b,i,none⟩:=by simp[World.cell?,h]
def At.other{C:Ctx}(h:At C w p l)(e:b≠C.pb)(d:b≠C.g)(v:Value):At C (w.setCell ⟨b,i,none⟩ v) p l:=by
 obtain⟨a,f,c⟩:=h.row;exact⟨by rw[JW _ _ _ _ (Ne.symm e)];exact h.blk,⟨a,by rw[JW _ _ _ _ (Ne.symm d)];exact f,c⟩,h.ne,h.lt,h.len,h.cap,h.last,h.pos⟩
def dX.other{C:Ctx}(h:dX C w S)(c:b≠C.pb)(a:b≠C.g)(v:Value):dX C (w.setCell ⟨b,i,none⟩ v) S:=by
 cases S with
 |ok q=>exact At.other h c a v
 |error l=>obtain⟨e,q,d⟩:=h;exact⟨e,q,d.other c a v⟩
def dX.far{C:Ctx}(h:dX C w S)(a:w.heap.size<=b):b≠C.pb/\b≠C.g:=by
 have:=h.facts;omega
def tX(C:Ctx)(w:World)(p:Nat)(h:At C w p 0)(x:(aE C.ts p).sort≠48)(o:(aE C.ts p).sort≠115)(m:aF C.ts p [116,114,117,101]=true):
 Calls prog 184 #[.pointer (some ⟨C.pb,0,none⟩)] w (cG C w (.ok (aH [98,111,111,108] (aE C.ts p).l_ (aE C.ts p).x_ [],p+1))):=by
 have n:=aA (cI C w p 0 h);have j:=aA h;have u:=aA m;have L:(((aE C.ts p).sort:Int)==48)=false:=t_
 have J:(((aE C.ts p).sort:Int)==115)=false:=t_
 clear h x o m;go_enter func184,ntmps184;go_wp2_with fail;refine n.out.mono ?_;rw[fK];rintro e d ⟨rfl,f⟩;obtain⟨K, -, -,y,z,s⟩:=j.out.cells f;have t:C.pb<d.heap.size+1:=o_
 have B:C.pb<d.heap.size+1+1:=o_
 clear s n;go_wp2_with fail;refine(fP C _ p _ ((j.out.below f).below (Below.two _ _)) u.out).mono ?_;rintro e r ⟨rfl,c,a⟩
 have l:r.heap[d.heap.size+1]?=some (.cells #[.string (bs []),.int .i64 (aE C.ts p).l_,.string (bs (aE C.ts p).x_),.slice none 0 0] 65 (0,0)):=by
  rw[a.block _ s_ o_]
  exact eM _ _ s_ _ _
 obtain⟨E,I,M,N,F,H,G,O⟩:=aJ l;have A:=aA l;have g:=aA c;have i:=aA a;clear l c a y z;go_wp2_with fail;go_ret;have k:=f.size;obtain⟨v,D⟩:=dX.far (S:=.ok p) j.out (show w.heap.size<=d.heap.size+1 by omega)
 refine lZ (q:=p+1) (b:=d.heap.size+1) ((Fr.below_trans (f.trans ((Below.two _ _).mono k)) i.out).setCell (JR (by show _<=d.heap.size+1;omega)) _) (g.out.other v D _) o_ rfl ?_
 rw[aO A.out];rfl
def rX(C:Ctx)(w:World)(p:Nat)(h:At C w p 0)(B:(aE C.ts p).sort≠48)(u:(aE C.ts p).sort≠115)(s:aF C.ts p [116,114,117,101]=false)(r:aF C.ts p [102,97,108,115,101]=true):
 Calls prog 184 #[.pointer (some ⟨C.pb,0,none⟩)] w (cG C w (.ok (aH [98,111,111,108] (aE C.ts p).l_ (aE C.ts p).x_ [],p+1))):=by
 have t:=aA (cI C w p 0 h);have j:=aA h;have n:=aA s;have z:=aA r;have P:(((aE C.ts p).sort:Int)==48)=false:=t_
 have N:(((aE C.ts p).sort:Int)==115)=false:=t_
 clear h B u s r;go_enter func184,ntmps184;go_wp2_with fail;refine t.out.mono ?_;rw[fK];rintro e g ⟨rfl,i⟩;obtain⟨O, -, -,D,E,x⟩:=j.out.cells i;have y:C.pb<g.heap.size+1:=o_
 have G:C.pb<g.heap.size+1+1:=o_
 clear x t;go_wp2_with fail;refine(cV C _ p 0 _ ((j.out.below i).below (Below.two _ _)) (by simpa using n.out)).mono ?_
 rintro e T ⟨rfl,f⟩;go_wp2_with fail;refine(fP C _ p _ (((j.out.below i).below (Below.two _ _)).below f) z.out).mono ?_;rintro e v ⟨rfl,a,c⟩;have d:=Fr.below_trans f c
 have o:v.heap[g.heap.size+1]?=some (.cells #[.string (bs []),.int .i64 (aE C.ts p).l_,.string (bs (aE C.ts p).x_),.slice none 0 0] 65 (0,0)):=by
  rw[d.block _ s_ o_]
  exact eM _ _ s_ _ _
 obtain⟨I,M,Q,U,J,L,K,V⟩:=aJ o;have F:=aA o;have k:=aA a;have l:=aA d;clear o a c d D E f;go_wp2_with fail;go_ret;have m:=i.size;obtain⟨A,H⟩:=dX.far (S:=.ok p) j.out (show w.heap.size<=g.heap.size+1 by omega)
 refine lZ (q:=p+1) (b:=g.heap.size+1) ((Fr.below_trans (i.trans ((Below.two _ _).mono m)) l.out).setCell (JR (by show _<=g.heap.size+1;omega)) _) (k.out.other A H _) o_ rfl ?_
 rw[aO F.out];rfl
def cG.take{C:Ctx}{r:aR aC}{e:Ending}(h:cG C w r e w1)(f:Fr C.pb w1 w2)(d:dX C w2 (cW C (dM r) x))(i:C.pb<w.heap.size):cG C w (aG C.ts x r) e w2:=by
 obtain⟨l,p,b,m,j⟩:=h;refine⟨l.trans f,by rw[<-eA];exact d,b,m,λa q n=>?_⟩
 obtain⟨o,g⟩:=dY n;exact((j a o g).keep λk c=>f.block k c.2 (by have:=c.1;omega)).mono λk c=>⟨c.1,by have:=c.2;have:=f.size;omega⟩
def cG.later{C:Ctx}{r:aR aC}{e:Ending}(c:Fr C.pb w w1)(h:cG C w1 r e w2):cG C w r e w2:=by
 obtain⟨j,g,b,l,i⟩:=h;exact⟨c.trans j,g,b,l,λa q f=>(i a q f).mono λk d=>⟨by have:=d.1;have:=c.size;omega,d.2⟩⟩
def rW(C:Ctx)(E:Nat->aR aC)(y:Reads C 49 E)(w:World)(p:Nat)(h:At C w p 0)(G:(aE C.ts p).sort≠48)(B:(aE C.ts p).sort≠115)(x:aF C.ts p [116,114,117,101]=false)(s:aF C.ts p [102,97,108,115,101]=false)
 (t:aF C.ts p [40]=true) (v:E (p+1)≠.error 0):
 Calls prog 184 #[.pointer (some ⟨C.pb,0,none⟩)] w (cG C w (aG C.ts [41] (E (p+1)))):=by
 have z:=aA (cI C w p 0 h);have n:=aA h;have o:=aA (JV x (JV s t));have j:=aA (JV y v);have T:(((aE C.ts p).sort:Int)==48)=false:=t_
 have P:(((aE C.ts p).sort:Int)==115)=false:=t_
 clear h G B x s t y v;go_enter func184,ntmps184;go_wp2_with fail;refine z.out.mono ?_;rw[fK];rintro e r ⟨rfl,i⟩;obtain⟨Q, -, -,I,J,D⟩:=n.out.cells i;have F:C.pb<r.heap.size+1:=o_
 have K:C.pb<r.heap.size+1+1:=o_
 clear D z;go_wp2_with fail;refine(cV C _ p 0 _ ((n.out.below i).below (Below.two _ _)) (by simpa using o.out.1)).mono ?_
 rintro e U ⟨rfl,c⟩;go_wp2_with fail;refine(cV C _ p 0 _ (((n.out.below i).below (Below.two _ _)).below c) (by simpa using o.out.2.1)).mono ?_
 rintro e N ⟨rfl,g⟩;go_wp2_with fail;refine(fP C _ p _ ((((n.out.below i).below (Below.two _ _)).below c).below g) o.out.2.2).mono ?_;rintro e A ⟨rfl,d,f⟩;have m:=aA (Fr.below_trans (i.trans ((Below.two _ _).mono i.size)) (Fr.below_trans c (Fr.below_trans g f)));have u:=aA (j.out.1 A (.ok (p+1)) d j.out.2);clear c g f I J d;go_wp2_with fail;refine u.out.mono ?_;rintro e H a;obtain⟨M,rfl⟩:∃b,e=.returned (.pointer (some ⟨b,0,none⟩)):=by obtain⟨_,_,b,h,_⟩:=a;exact⟨b,h⟩
 have L:=aA (dW C H _ ⟨#[41]⟩ a.2.1);have q:=aA a;clear a u;go_wp2_with fail;refine L.out.mono ?_;rintro e O ⟨rfl,l,k⟩;go_wp2_with fail;go_ret;exact cG.later m.out (cG.take q.out k l (by have:=m.out.size;have:=(dX.facts (S:=.ok p) n.out).1;omega))
def tY(C:Ctx)(w:World)(p:Nat)(h:At C w p 0)(F:(aE C.ts p).sort≠48)(A:(aE C.ts p).sort≠115)(v:aF C.ts p [116,114,117,101]=false)(t:aF C.ts p [102,97,108,115,101]=false)
 (u:aF C.ts p [40]=false) (x:aF C.ts p [91]=false) (G:(aE C.ts p).sort≠110):
 Calls prog 184 #[.pointer (some ⟨C.pb,0,none⟩)] w (cG C w (Hs.bad C.ts p)):=by
 have z:=aA (cI C w p 0 h);have j:=aA h;have r:=aA (JV v (JV t (JV u x)));have S:(((aE C.ts p).sort:Int)==48)=false:=t_
 have L:(((aE C.ts p).sort:Int)==115)=false:=t_
 have T:(((aE C.ts p).sort:Int)==110)=false:=t_
 have m:=h.pos p h.lt;clear h F A v t u x G;go_enter func184,ntmps184;go_wp2_with fail;refine z.out.mono ?_;rw[fK];rintro e s ⟨rfl,f⟩;obtain⟨Q, -, -,M,O,D⟩:=j.out.cells f;have E:C.pb<s.heap.size+1:=o_
 have H:C.pb<s.heap.size+1+1:=o_
 clear D z;go_wp2_with fail;refine(cV C _ p 0 _ ((j.out.below f).below (Below.two _ _)) (by simpa using r.out.1)).mono ?_
 rintro e U ⟨rfl,b⟩;go_wp2_with fail;refine(cV C _ p 0 _ (((j.out.below f).below (Below.two _ _)).below b) (by simpa using r.out.2.1)).mono ?_
 rintro e J ⟨rfl,d⟩;go_wp2_with fail;refine(cV C _ p 0 _ ((((j.out.below f).below (Below.two _ _)).below b).below d) (by simpa using r.out.2.2.1)).mono ?_
 rintro e I ⟨rfl,o⟩;have c:=(b.trans (d.mono b.size)).trans (o.mono (KM b.size d.size));clear b d o;go_wp2_with fail;refine(fB C _ p 0 _ (((j.out.below f).below (Below.two _ _)).below c)).mono ?_;rw[show aF C.ts p (⟨#[91]⟩:ByteArray).data.toList=false from r.out.2.2.2]
 rintro e y ⟨rfl,n⟩;have i:=c.trans (n.mono c.size);obtain⟨V,P⟩:=bcell i;have g:=aA i;clear c n i;have N:s.heap.size+1<y.heap.size:=by have:=g.out.size;simp at this;omega
 have B:=aA (nC C y p (((j.out.below f).below (Below.two _ _)).below g.out));go_wp2_with fail;refine B.out.mono ?_;rintro e K ⟨rfl,l,k⟩;go_wp2_with fail;go_ret;exact⟨Fr.below_trans (f.trans ((Below.two _ _).mono f.size)) (Fr.below_trans g.out k),⟨m,p,l⟩,_,rfl,λa q h=>by cases h⟩
def sN{C:Ctx}{h w4:World}{r:aR (List aC)}{op te:List UInt8}{o:Nat}{x:Option Addr}{c:Nat}{B:Value}(t:Fr C.pb w h)(D:zY C h r (.returned (.slice x n c)) w4)
 (i:w.heap.size<=b) (p:b<h.heap.size) (f:b≠C.pb/\b≠C.g) (j:h.heap[b]?=some (.cells #[.string (bs op),.int .i64 o,.string (bs te),B] 65 (0,0))):
 cG C w (aN (aH op o te) r) (.returned (.pointer (some ⟨b,0,none⟩))) (w4.setCell ⟨b,3,none⟩ (.slice x n c)):=by
 obtain⟨s,v,H,F,G,E,A⟩:=D;cases E;have d:w4.heap[b]?=_:=(s.block b p f.1).trans j;refine⟨(t.trans s).setCell (JR i) _,?_,b,rfl,λa q u=>?_⟩
 ·have e:dM (aN (aH op o te) r)=dM r:=by cases r<;>rfl
  rw[e];exact v.other f.1 f.2 _
 ·cases r with
  |error l=>cases u
  |ok z=>
   obtain⟨y,I⟩:=z;cases u;have g:=A _ _ rfl;refine Rep.mk (kv:=.slice x n c) ⟨i,by rw[fN];exact aD d⟩ (by rw[aO d];rfl) ?_
   have m:Kid (Btw h.heap.size w4.heap.size) (w4.setCell ⟨b,3,none⟩ (.slice x n c)) (.slice x n c) y:=g.keep λk g=>JW _ _ _ _ (by have:=g.1;show k≠b;omega)
   exact m.mono λk g=>⟨by have:=g.1;have:=t.size;omega,by rw[fN];exact g.2⟩
def uA(C:Ctx)(E:Nat->aR aC)(H:Reads C 49 E)(w:World)(p:Nat)(h:At C w p 0)(Q:(aE C.ts p).sort≠48)(J:(aE C.ts p).sort≠115)(F:aF C.ts p [116,114,117,101]=false)(z:aF C.ts p [102,97,108,115,101]=false)
 (A:aF C.ts p [40]=false) (G:aF C.ts p [91]=true) (B:bP E C.ts p [91] [93]≠.error 0):
 Calls prog 184 #[.pointer (some ⟨C.pb,0,none⟩)] w (cG C w (aN (aH [108,105,115,116] (aE C.ts p).l_ (aE C.ts p).x_) (bP E C.ts p [91] [93]))):=by
 have I:=aA (cI C w p 0 h);have j:=aA h;have u:=aA (JV F (JV z (JV A G)));have m:=aA (JV H B);have e1:(((aE C.ts p).sort:Int)==48)=false:=t_
 have e2:(((aE C.ts p).sort:Int)==115)=false:=t_
 clear h Q J F z A G H B;go_enter func184,ntmps184;go_wp2_with fail;refine I.out.mono ?_;rw[fK];rintro e l ⟨rfl,d⟩;obtain⟨hl, -, -,W,Y,L⟩:=j.out.cells d;have N:C.pb<l.heap.size+1:=o_
 have Z:C.pb<l.heap.size+1+1:=o_
 clear L I;go_wp2_with fail;refine(cV C _ p 0 _ ((j.out.below d).below (Below.two _ _)) (by simpa using u.out.1)).mono ?_
 rintro e w2 ⟨rfl,a⟩;go_wp2_with fail;refine(cV C _ p 0 _ (((j.out.below d).below (Below.two _ _)).below a) (by simpa using u.out.2.1)).mono ?_
 rintro e w3 ⟨rfl,g⟩;go_wp2_with fail;refine(cV C _ p 0 _ ((((j.out.below d).below (Below.two _ _)).below a).below g) (by simpa using u.out.2.2.1)).mono ?_
 rintro e w4 ⟨rfl,t⟩;have f:=(a.trans (g.mono a.size)).trans (t.mono (KM a.size g.size));clear a g t;go_wp2_with fail;refine(fB C _ p 0 _ (((j.out.below d).below (Below.two _ _)).below f)).mono ?_;rw[show aF C.ts p (⟨#[91]⟩:ByteArray).data.toList=true from u.out.2.2.2]
 rintro e T ⟨rfl,s⟩;have k:=f.trans (s.mono f.size)
 have y:T.heap[l.heap.size+1]?=some (.cells #[.string (bs []),.int .i64 (aE C.ts p).l_,.string (bs (aE C.ts p).x_),.slice none 0 0] 65 (0,0)):=by
  rw[k.block _ s_]
  exact eM _ _ s_ _ _
 obtain⟨aa,V,n1,O,K,P,M,g3⟩:=aJ y;have D:=aA y;have q:=aA k;have X:=d.size;have HFAR:=aA (dX.far (S:=.ok p) j.out (show w.heap.size<=l.heap.size+1 by omega))
 clear f s k y W Y;go_wp2_with fail;have o:=aA ((((j.out.below d).below (Below.two _ _)).below q.out).other (i:=0) HFAR.out.1 HFAR.out.2 (.string ⟨#[108,105,115,116]⟩));refine(yK C E m.out.1 _ (.ok p) ⟨#[91]⟩ ⟨#[93]⟩ o.out m.out.2).mono ?_;rintro e w6 b;obtain⟨x6,n6,c6,rfl⟩:∃x n c,e=.returned (.slice x n c):=by obtain⟨_,_,x,n,c,h,_⟩:=b;exact⟨x,n,c,h⟩
 have r:=(b.1.block (l.heap.size+1) (by rw[fN];omega) HFAR.out.1).trans (aO D.out)
 obtain⟨U,m0,m1,m2,m3,k0,k2,k3⟩:=aJ r;have v:=aA b;clear b r V n1 O K P M g3;go_wp2_with fail;go_ret;exact sN (Fr.setCell (Fr.below_trans (d.trans ((Below.two _ _).mono d.size)) (Fr.below q.out)) (JR (by show _<=l.heap.size+1;omega)) _) v.out o_ (by rw[fN];omega) HFAR.out (aO D.out)
def tZ(C:Ctx)(w:World)(p:Nat)(h:At C w p 0)(H:aF C.ts p [116,114,117,101]=false)(D:aF C.ts p [102,97,108,115,101]=false)
 (E:aF C.ts p [40]=false) (I:aF C.ts p [91]=false) (x:(aE C.ts p).sort=110) (G:aF C.ts (p+1) [40]=false):
 Calls prog 184 #[.pointer (some ⟨C.pb,0,none⟩)] w (cG C w (.ok (aH [110,97,109,101] (aE C.ts p).l_ (aE C.ts p).x_ [],p+1))):=by
 have J:=aA (cI C w p 0 h);have k:=aA h;have v:=aA (JV H (JV D (JV E I)));have M:=aA G;have e1:(((aE C.ts p).sort:Int)==48)=false:=by rw[x];rfl
 have e2:(((aE C.ts p).sort:Int)==115)=false:=by rw[x];rfl
 have e3:(((aE C.ts p).sort:Int)==110)=true:=by rw[x];rfl
 have T:p+1<C.ts.length:=h.next o_
 have F:=h.len;clear h H D E I x G;go_enter func184,ntmps184;go_wp2_with fail;refine J.out.mono ?_;rw[fK];rintro e c ⟨rfl,f⟩;obtain⟨hl, -, -,O,Q,u⟩:=k.out.cells f;have L:C.pb<c.heap.size+1:=o_
 have V:C.pb<c.heap.size+1+1:=o_
 clear u J;go_wp2_with fail;refine(cV C _ p 0 _ ((k.out.below f).below (Below.two _ _)) (by simpa using v.out.1)).mono ?_
 rintro e w2 ⟨rfl,a⟩;go_wp2_with fail;refine(cV C _ p 0 _ (((k.out.below f).below (Below.two _ _)).below a) (by simpa using v.out.2.1)).mono ?_
 rintro e w3 ⟨rfl,j⟩;go_wp2_with fail;refine(cV C _ p 0 _ ((((k.out.below f).below (Below.two _ _)).below a).below j) (by simpa using v.out.2.2.1)).mono ?_
 rintro e Y ⟨rfl,t⟩;have g:=(a.trans (j.mono a.size)).trans (t.mono (KM a.size j.size));clear a j t;go_wp2_with fail;refine(fB C _ p 0 _ (((k.out.below f).below (Below.two _ _)).below g)).mono ?_;rw[show aF C.ts p (⟨#[91]⟩:ByteArray).data.toList=false from v.out.2.2.2]
 rintro e B ⟨rfl,r⟩;have d:=g.trans (r.mono g.size)
 have A:B.heap[c.heap.size+1]?=some (.cells #[.string (bs []),.int .i64 (aE C.ts p).l_,.string (bs (aE C.ts p).x_),.slice none 0 0] 65 (0,0)):=by
  rw[d.block _ s_]
  exact eM _ _ s_ _ _
 have N:B.cell? ⟨c.heap.size,0,none⟩=some (.int .u8 (aE C.ts p).sort):=by
  rw[d.cell (p:=⟨c.heap.size,0,none⟩) t_]
  simp[go_sem]
 obtain⟨X,n0,n1,n2,n3,g0,g2,g3⟩:=aJ A;obtain⟨K, -, -,d1,Z,u⟩:=(((k.out.below f).below (Below.two _ _)).cells d);have W:=(u 1).2;have U:=aA A;have o:=aA d;have P:=f.size;have HFAR:=aA (dX.far (S:=.ok p) k.out (show w.heap.size<=c.heap.size+1 by omega))
 have l:=HFAR.out.1;have y:¬C.pb=c.heap.size+1:=λe=>HFAR.out.1 e.symm
 clear g r d A O Q u;go_wp2_with fail;have n:=aA (((((k.out.below f).below (Below.two _ _)).below o.out).other (i:=0) HFAR.out.1 HFAR.out.2 (.string ⟨#[110,97,109,101]⟩)).step (JU _ _) T)
 have s:Hid (((B.setCell ⟨c.heap.size+1,0,none⟩ (.string ⟨#[110,97,109,101]⟩)).setCell ⟨C.pb,1,none⟩ (.int .i64 ((p:Int)+1))).heap[c.heap.size+1]?=some (.cells #[.string ⟨#[110,97,109,101]⟩,.int .i64 (aE C.ts p).l_,.string (bs (aE C.ts p).x_),.slice none 0 0] 65 (0,0))):=by
  show _=_
  rw[JW _ _ _ _ l,aO U.out];rfl
 have z:=aA ((Fr.setCell (p:=⟨c.heap.size+1,0,none⟩) (Fr.below_trans (f.trans ((Below.two _ _).mono f.size)) (Fr.below o.out)) (JR (by show _<=c.heap.size+1;omega)) (.string ⟨#[110,97,109,101]⟩)).trans n.out.2)
 refine(fB C _ (p+1) 0 _ n.out.1).mono ?_;rw[show aF C.ts (p+1) (⟨#[40]⟩:ByteArray).data.toList=false from M.out]
 rintro e w7 ⟨rfl,m⟩;go_wp2_with fail;go_ret;exact lZ (q:=p+1) (b:=c.heap.size+1) (z.out.trans_below m) (n.out.1.below m) o_ rfl (by rw[m.block _ (aD s.out)];exact s.out)
def uB(C:Ctx)(E:Nat->aR aC)(W:Reads C 49 E)(w:World)(p:Nat)(h:At C w p 0)(U:aF C.ts p [116,114,117,101]=false)(X:aF C.ts p [102,97,108,115,101]=false)
 (V:aF C.ts p [40]=false) (h6:aF C.ts p [91]=false) (H:(aE C.ts p).sort=110) (Y:aF C.ts (p+1) [40]=true) (Z:bP E C.ts (p+1) [40] [41]≠.error 0):
 Calls prog 184 #[.pointer (some ⟨C.pb,0,none⟩)] w (cG C w (aN (aH [99,97,108,108] (aE C.ts p).l_ (aE C.ts p).x_) (bP E C.ts (p+1) [40] [41]))):=by
 have HP:=aA (cI C w p 0 h);have m:=aA h;have G:=aA (JV U (JV X (JV V h6)));have H8:=aA Y;have z:=aA (JV W Z);have e1:(((aE C.ts p).sort:Int)==48)=false:=by rw[H];rfl
 have e2:(((aE C.ts p).sort:Int)==115)=false:=by rw[H];rfl
 have e3:(((aE C.ts p).sort:Int)==110)=true:=by rw[H];rfl
 have hp:p+1<C.ts.length:=h.next o_
 have T:=h.len;clear h U X V h6 H Y W Z;go_enter func184,ntmps184;go_wp2_with fail;refine HP.out.mono ?_;rw[fK];rintro e a ⟨rfl,f⟩;obtain⟨hl, -, -,c1,c2,F⟩:=m.out.cells f;have af:C.pb<a.heap.size+1:=o_
 have ad:C.pb<a.heap.size+1+1:=o_
 clear F HP;go_wp2_with fail;refine(cV C _ p 0 _ ((m.out.below f).below (Below.two _ _)) (by simpa using G.out.1)).mono ?_
 rintro e w2 ⟨rfl,b⟩;go_wp2_with fail;refine(cV C _ p 0 _ (((m.out.below f).below (Below.two _ _)).below b) (by simpa using G.out.2.1)).mono ?_
 rintro e w3 ⟨rfl,j⟩;go_wp2_with fail;refine(cV C _ p 0 _ ((((m.out.below f).below (Below.two _ _)).below b).below j) (by simpa using G.out.2.2.1)).mono ?_
 rintro e w4 ⟨rfl,D⟩;have g:=(b.trans (j.mono b.size)).trans (D.mono (KM b.size j.size));clear b j D;go_wp2_with fail;refine(fB C _ p 0 _ (((m.out.below f).below (Below.two _ _)).below g)).mono ?_;rw[show aF C.ts p (⟨#[91]⟩:ByteArray).data.toList=false from G.out.2.2.2]
 rintro e Q ⟨rfl,B⟩;have d:=g.trans (B.mono g.size)
 have O:Q.heap[a.heap.size+1]?=some (.cells #[.string (bs []),.int .i64 (aE C.ts p).l_,.string (bs (aE C.ts p).x_),.slice none 0 0] 65 (0,0)):=by
  rw[d.block _ s_]
  exact eM _ _ s_ _ _
 have I:Q.cell? ⟨a.heap.size,0,none⟩=some (.int .u8 (aE C.ts p).sort):=by
  rw[d.cell (p:=⟨a.heap.size,0,none⟩) t_]
  simp[go_sem]
 obtain⟨ae,n0,n1,n2,n3,g0,g2,g3⟩:=aJ O;obtain⟨ag, -, -,d1,d2,F⟩:=(((m.out.below f).below (Below.two _ _)).cells d);have P:=(F 1).2;have HN:=aA O;have A:=aA d;have aa:=f.size;have HFAR:=aA (dX.far (S:=.ok p) m.out (show w.heap.size<=a.heap.size+1 by omega))
 have o:=HFAR.out.1;have J:¬C.pb=a.heap.size+1:=λe=>HFAR.out.1 e.symm
 clear g B d O c1 c2 F;go_wp2_with fail;have r:=aA (((((m.out.below f).below (Below.two _ _)).below A.out).other (i:=0) HFAR.out.1 HFAR.out.2 (.string ⟨#[110,97,109,101]⟩)).step (JU _ _) hp)
 have t:Hid (((Q.setCell ⟨a.heap.size+1,0,none⟩ (.string ⟨#[110,97,109,101]⟩)).setCell ⟨C.pb,1,none⟩ (.int .i64 ((p:Int)+1))).heap[a.heap.size+1]?=some (.cells #[.string ⟨#[110,97,109,101]⟩,.int .i64 (aE C.ts p).l_,.string (bs (aE C.ts p).x_),.slice none 0 0] 65 (0,0))):=by
  show _=_
  rw[JW _ _ _ _ o,aO HN.out];rfl
 have M:=aA ((Fr.setCell (p:=⟨a.heap.size+1,0,none⟩) (Fr.below_trans (f.trans ((Below.two _ _).mono f.size)) (Fr.below A.out)) (JR (by show _<=a.heap.size+1;omega)) (.string ⟨#[110,97,109,101]⟩)).trans r.out.2)
 refine(fB C _ (p+1) 0 _ r.out.1).mono ?_;rw[show aF C.ts (p+1) (⟨#[40]⟩:ByteArray).data.toList=true from H8.out]
 rintro e w7 ⟨rfl,l⟩;have q:w7.heap[a.heap.size+1]?=_:=(l.block _ (aD t.out)).trans t.out;have u:=r.out.1.below l;have s:=M.out.trans_below l;obtain⟨ab,m0,m1,m2,m3,k0,k2,k3⟩:=aJ q;have v:=aA q;have N:=aA u;have K:=aA s;clear q u s l n0 n1 n2 n3 g0 g2 g3 d1 d2 P I;go_wp2_with fail;refine(yK C E z.out.1 _ (.ok (p+1)) ⟨#[40]⟩ ⟨#[41]⟩ (N.out.other HFAR.out.1 HFAR.out.2 _) z.out.2).mono ?_;rintro e w8 k;obtain⟨x6,n6,c6,rfl⟩:∃x n c,e=.returned (.slice x n c):=by obtain⟨_,_,x,n,c,h,_⟩:=k;exact⟨x,n,c,h⟩
 have y:=(k.1.block (a.heap.size+1) (by rw[fN];omega) HFAR.out.1).trans (aO v.out)
 obtain⟨ac,q0,q1,q2,q3,r0,r2,r3⟩:=aJ y;have L:=aA k;clear k y m0 m1 m2 m3 k0 k2 k3;go_wp2_with fail;go_ret;exact sN (Fr.setCell K.out (JR (by show _<=a.heap.size+1;omega)) _) L.out o_ (by rw[fN];omega) HFAR.out (aO v.out)
def rV(C:Ctx)(E:Nat->aR aC)(n:Reads C 49 E):Reads C 184 (bT E C.ts):=by
 intro w S h r;cases S with
 |error l=>exact qC C w l h
 |ok p=>
  have d:At C w p 0:=h;have a:bT E C.ts p≠.error 0:=r;show Calls _ _ _ _ (cG C w (bT E C.ts p))
  unfold bT at a ⊢
  by_cases c:(aE C.ts p).sort=48
  ·rw[if_pos (by rw[c];rfl),c]
   exact nO C w p d 48 c (JX rfl)
  by_cases b:(aE C.ts p).sort=115
  ·rw[if_pos (by rw[b];rfl),b]
   exact nO C w p d 115 b (JR rfl)
  have q:((aE C.ts p).sort==48 || (aE C.ts p).sort==115)=false:=by simp[c,b]
  rw[if_neg (by rw[q];simp)] at a ⊢
  cases g:aF C.ts p [116,114,117,101]
  ·cases j:aF C.ts p [102,97,108,115,101]
   ·rw[g,j] at a;rw[if_neg s_] at a ⊢
    cases i:aF C.ts p [40]
    ·rw[i] at a;rw[if_neg s_] at a ⊢
     cases k:aF C.ts p [91]
     ·rw[k] at a;rw[if_neg s_] at a ⊢
      by_cases f:(aE C.ts p).sort=110
      ·have m:((aE C.ts p).sort==110)=true:=by simp[f]
       rw[if_pos m] at a ⊢
       cases o:aF C.ts (p+1) [40]
       ·exact tZ C w p d g j i k f o
       ·rw[o,if_pos rfl] at a;exact uB C E n w p d g j i k f o (λe=>a (by rw[e];rfl))
      ·have m:((aE C.ts p).sort==110)=false:=by simp[f]
       rw[if_neg (by rw[m];simp)]
       exact tY C w p d c b g j i k f
     ·rw[k,if_pos rfl] at a;exact uA C E n w p d c b g j i k (λe=>a (by rw[e];rfl))
    ·rw[i,if_pos rfl] at a;exact rW C E n w p d c b g j i (λe=>a (by rw[e];rfl))
   ·exact rX C w p d c b g j
  ·exact tX C w p d c b g
end Go.Proofs.YthbffcmfmjpncaaGreatDoor
