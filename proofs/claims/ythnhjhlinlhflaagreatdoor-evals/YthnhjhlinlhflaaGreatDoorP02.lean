import Derived.Test.YthnhjhlinlhflaaGreatDoorP00
set_option linter.all false
set_option maxRecDepth 100000
set_option maxHeartbeats 0
open List renaming length->aA
open Go.World renaming setCell->c9,cell?->i9
open Go renaming bodyPost_ret->Wi,Calls->Wn,Value->Wo,Ending->Wq
open Option renaming some->Wj
open Bool renaming false->Wl,true->Wm
open Go.RowKit renaming Hid->Wu
open Go.Proofs.Tryz renaming prog->Ww
open Go.Value renaming slice->Wz,string->WD,agg->W1,tuple->Xa,bool->Xc,int->Xd
open Go.Obj renaming cells->Xe
namespace Go.Proofs.YthnhjhlinlhflaaGreatDoor
open Hs _root_.Go.Proofs.Tryz Go.RowKit
variable{c:Array Wo}{F:Except Nat Nat}{P:List Wo}{R:List aC}{G K U X:Nat}{x:Option Addr}{j:Option Nat}{a:Prop}{g:Type}{e:TypeId}{D:aC}{L T V:aL}{N S:aU}{Q:bI}{r:bN aC}{M W:bS}
def O{p:Prop}(h:p):Wu p:=h
def oD{k:IntKind}{a b:Int}(h:a=b):Ending.returned (Xd k a)=bP (Xd k b):=by rw[h]
def gP{a b:Bool}(h:a=b):Ending.returned (Xc a)=bP (Xc b):=by rw[h]
theorem OS(s:ByteArray)(k:Nat)(h:k<s.size):(dL s).take (k+1)=(dL s).take k++[s[k]]:=by rw[gw qg];rfl
def Em(c d:UInt8):(c=d)↔((c.toNat:Int)=(d.toNat:Int)):=by grind[UInt8.toNat_inj]
def mQ(c:UInt8):(c.toNat:Int)<=255:=by have:=c.toNat_lt;exact Z
theorem mB(s:ByteArray)(k:Nat)(h:k<s.size):s.data.toList[k]?=Wj s[k]:=by simp[h];rfl
theorem gH(s:ByteArray)(k:Nat)(h:k<s.size):s.data.toList.drop k=s[k]::s.data.toList.drop (k+1):=jq qg
def P4(s:ByteArray)(n:Nat)(w:aL)(f:s.size<=2000000000)(g:n<=s.size):Wn Ww 97 #[Q_ s,Y n] w λe w'=>e=bP (Y (bD (s.data.toList.take n)))/\w'=w:=by
 go_in;go_wp2;go_loop [5,6] (λt i=>∃k:Nat,k<=n/\i=Y k/\t=Y (bD (s.data.toList.take k))) (λ_ i=>n-(intOf i).toNat);case atStart=>exact⟨0,Z,rfl,rfl⟩
 case round=>
  obtain⟨k,c,rfl,rfl⟩:=hrel;have d:=BX (s.data.toList.take k);have:=List.length_take_le k s.data.toList;by_cases a:k<n
  .have b:Wu (bD (s.data.toList.take (k+1))=bD (s.data.toList.take k)+if s[k]=10 then 1 else 0):=by rw[OS s k Z,KO];rfl
   go_wp2;all_goals
    go_round;case rel=>exact⟨k+1,Z,lj,by rw[b];simp_all [Em]⟩
    grind[intOf]
  go_wp2;go_ret;exact⟨oD G_,rfl⟩
def D7(s:ByteArray)(n a b:Nat)(w:aL)(_hs:s.size<=2000000000):Wn Ww 206 #[Q_ s,Y n,Y a,Y b] w λe w'=>e=bP (Xc (jB (dL s) n a b))/\w'=w:=by
 by_cases f:n<s.size;.have d:=mQ s[n];have c:=O (show jB (dL s) n a b=(decide (a<=s[n].toNat)&&decide (s[n].toNat<=b)) by grind[jB,mB]);go_in;go_wp2;all_goals go_ret;exact⟨gP (by rw[c];simp[*]),rfl⟩
 have c:=O (show jB (dL s) n a b=Wl by unfold jB;rw[ix ku]);go_in;go_wp2;go_ret;exact⟨gP (by rw[c]),rfl⟩
def NE(l:bS)(n lo hi k:Nat):Bool:=jB l (n+1) lo hi&&(List.range (k-2)).all λj=>jB l (n+(j+2)) 128 191
def Io(l:bS)(n a b k:Nat)(h:2<=k):NE l n a b (k+1)=(NE l n a b k&&jB l (n+k) 128 191):=by obtain⟨j,rfl⟩:∃j,k=j+2:=⟨k-2,Z⟩;grind[NE]
def Bf(c:Nat):Nat×Nat×Nat:=(if 194<=c/\c<=223 then 2 else if 224<=c/\c<=239 then 3 else if 240<=c/\c<=244 then 4 else 0,if c=224 then 160 else if c=240 then 144 else 128,if c=237 then 159 else if c=244 then 143 else 191)
def Qu(l:bS)(n i a b:Nat):jB (l.drop n) i a b=jB l (n+i) a b:=by grind[jB]
def Mb(s:ByteArray)(n:Nat)(e:n<s.size)(h:¬s[n].toNat<128):bW ((dL s).drop n)=if NE (dL s) n (Bf s[n].toNat).2.1 (Bf s[n].toNat).2.2 (Bf s[n].toNat).1 then (Bf s[n].toNat).1 else 0:=by unfold bW;rw[List.getElem?_drop,hQ,mB s n e];simp only[h,Qu];generalize s[n].toNat=c at h⊢;unfold NE Bf;by_cases b:194<=c/\c<=223;grind;by_cases a:224<=c/\c<=239;grind;by_cases d:240<=c/\c<=244;have:c≠224/\c≠237:=Z;simp[b,a,d,this,List.range_succ,Bool.and_assoc];simp[b,a,d]
def LK(s:ByteArray)(n:Nat)(w:aL)(A:s.size<=2000000000)(B:n<s.size):Wn Ww 159 #[WD s,Y n] w λe w'=>e=bP (Y (bW (s.data.toList.drop n)))/\w'=w:=by
 have t:=mQ s[n];by_cases j:s[n].toNat<128;.have o:(s[n].toNat:Int)<128:=Z;go_in;go_wp2;go_ret;exact⟨oD (by grind[bW,mB]),rfl⟩
 have y:=O (Mb s n B j);have o:¬(s[n].toNat:Int)<128:=Z;have ⟨N,hN⟩:∃N,N=(Bf s[n].toNat).1:=(by simp);have ⟨f,hlo⟩:∃N,N=(Bf s[n].toNat).2.1:=(by simp);have ⟨c,hhi⟩:∃N,N=(Bf s[n].toNat).2.2:=(by simp);have l:=O (du hN (du hlo hhi));have C:N<=4/\N≠1:=by grind[Bf]
 rw[<-hN,<-hlo,<-hhi]at y;clear hN hlo hhi j;go_in;go_upto_block 0 with fail;go_cut [6,7,8] (λa b d v=>v=w/\a=Y N/\b=Y f/\d=Y c);case first=>go_wp2;all_goals go_meet;case rel=>have ⟨r1,r2,r3⟩:=l.out;subst r1 r2 r3;refine⟨i_,?_,?_,?_⟩<;>simp[Bf,beq_iff_eq,beq_eq_false_iff_ne]at*<;>(repeat' split)<;>first|rfl|exact Z
 case rest=>
  obtain⟨rfl,rfl,rfl,rfl⟩:=hcut;have m:∀i f c:Nat,Wn Ww 206 #[WD s,Y ((n:Int)+i),Y f,Y c] wc _:=λi f c=>D7 s (n+i) f c wc A;clear l o t;go_wp2_with (apply (m 1 _ _).mono;rintro e w' ⟨rfl,rfl⟩);go_loopg [9,10] 3 (λgk ok i wr=>∃k:Nat,2<=k/\k+gk=5/\(k<=N\/k=2)/\i=Y k/\ok=Xc (NE s.data.toList n f c k)/\wr=w');case atStart=>exact⟨2,Z,Z,Z,rfl,by simp[NE],rfl⟩
  case round=>
   obtain⟨k,u,r,q,rfl,rfl,rfl⟩:=hrel;by_cases p:k<N;.have z:=O (Io s.data.toList n f c k u);have x:(k:Int)<(N:Int):=Z;go_wp2_with (apply (m k 128 191).mono;rintro e w' ⟨rfl,rfl⟩);all_goals
     go_roundg (4-k);case measure=>exact Z
     case rel=>exact⟨k+1,Z,Z,Z,lj,by rw[z];simp[*],rfl⟩
   have x:¬(k:Int)<(N:Int):=Z;have D:Wu (bW (s.data.toList.drop n)=if NE s.data.toList n f c k then N else 0):=by grind[NE]
   cases g:NE s.data.toList n f c k;all_goals go_wp2;go_ret;exact⟨oD (by rw[D,g];rfl),rfl⟩
theorem zC(s:ByteArray)(n i:Nat)(h:n+i<s.size):((dL s).drop n)[i]?=Wj s[n+i]:=by grind[mB]
theorem AU(s:ByteArray)(n i:Nat)(h:s.size<=n+i):((dL s).drop n)[i]?=none:=by simpa using h
theorem yM(l:bS):bW l<=aA l:=by grind[bW,jB]
def JV:Option Nat->Int|some k=>k|none=>-1
def BK(l:bS)(p f:Nat)(h:0<aA l)(a:bW l≠0):dS (f+1) l p=dS f (l.drop (bW l)) (p+bW l):=by grind[dS]
def WB(l:bS)(p f:Nat)(h:0<aA l)(a:bW l=0):dS (f+1) l p=Wj p:=by grind[dS]
theorem FA(l:bS)(p f:Nat)(h:aA l=0):dS f l p=none:=by cases f with|zero=>rfl|succ f=>rw[dS,ec h]
def AJ(s:ByteArray)(w:aL)(n:s.size<=2000000000):Wn Ww 96 #[WD s] w λe w'=>e=bP (Y (JV (dS s.size s.data.toList 0)))/\w'=w:=by
 have l:aA s.data.toList=s.size:=s_;go_in;go_wp2;go_loop [3] (λi=>∃k f:Nat,k<=s.size/\s.size<=k+f/\i=Y k/\Wu (dS s.size s.data.toList 0=dS f (s.data.toList.drop k) k)) (λi=>s.size-(intOf i).toNat);case atStart=>exact⟨0,s.size,Z,Z,rfl,rfl⟩
 case round=>
  obtain⟨k,f,u,v,rfl,m⟩:=hrel;by_cases a:k<s.size
  .have g:aA (s.data.toList.drop k)=s.size-k:=s_;have d:=yM (s.data.toList.drop k);obtain⟨f,rfl⟩:∃t,f=t+1:=⟨f-1,Z⟩;by_cases o:bW (s.data.toList.drop k)=0;.have b:=WB _ k f Z o;have p:Wu (dS s.size s.data.toList 0=Wj k):=G_;clear b m;go_wp2_with (go_at_call 159;apply (LK s k _ n a).mono;rintro e w' ⟨rfl,rfl⟩);go_ret;exact⟨oD (by rw[p];rfl),rfl⟩
   have b:=BK _ k f Z o;have p:Wu (dS s.size s.data.toList 0=dS f (s.data.toList.drop (k+bW (s.data.toList.drop k))) (k+bW (s.data.toList.drop k))):=by grind[List.drop_drop]
   clear b m;rw[g]at d;clear g;generalize j:bW (s.data.toList.drop k)=c at*;have r:=j;clear j;have q:((c:Int)==0)=Wl:=G_;go_wp2_with (go_at_call 159;apply (LK s k _ n a).mono;rw[r];rintro e w' ⟨rfl,rfl⟩);grind[intOf]
  go_wp2;go_ret;exact⟨oD (by grind[dz,FA,JV]),rfl⟩
def oU(c:UInt8)(w:aL):Wn Ww 208 #[Xd .u8 c.toNat] w λe w'=>e=bP (Xc (dM c))/\w'=w:=by go_wp2;all_goals go_ret;exact⟨gP (by grind[dM]),rfl⟩
def oI(c:UInt8)(w:aL):Wn Ww 209 #[Xd .u8 c.toNat] w λe w'=>e=bP (Xc (eG c))/\w'=w:=by have b:=mQ c;have a:Wu (eG c=(c.toNat==95||(decide (97<=c.toNat)&&decide (c.toNat<=122)||decide (65<=c.toNat)&&decide (c.toNat<=90)))):=rfl;go_in;go_wp2;all_goals go_ret;exact⟨gP (by rw[a,jh];constructor<;>intro h<;>(try simp at h)<;>(try simp)<;>exact Z),rfl⟩
theorem oF(x l:bS)(h:aA x<=aA l):x.isPrefixOf l=(l.take (aA x)==x):=by induction x generalizing l with|nil=>simp|cons a x c=>cases l with|nil=>simp at h|cons b l=>grind
def vR(x l:bS)(h:aA l<aA x):x.isPrefixOf l=Wl:=by grind
def uM(s x:ByteArray)(n:Nat)(w:aL)(b:s.size<=2000000000)(c:x.size<=100)(d:n<=s.size):Wn Ww 207 #[WD s,Y n,WD x] w λe w'=>e=bP (Xc (eF (s.data.toList.drop n) x.data.toList))/\w'=w:=by
 by_cases h:x.size<=s.size-n
 .have a:Wu (eF (s.data.toList.drop n) x.data.toList=((s.extract n (n+x.size)).toList==x.toList)):=by unfold eF Wu;rw[oF _ _ qg,Lib.extract_toList,Lib.toList_data];simp
  go_wp2;go_ret;exact⟨gP (by rw[a]),rfl⟩
 have a:Wu (eF (s.data.toList.drop n) x.data.toList=Wl):=by exact vR _ _ ku
 go_wp2;go_ret;exact⟨gP (by rw[a]),rfl⟩
def LP(f:Nat):cJ f []=0:=by cases f<;>rfl
def CX(f:Nat)(c:UInt8)(r:bS)(h:c.toNat=32\/c.toNat=9\/c.toNat=10):cJ (f+1) (c::r)=cJ f r+1:=by rw[cJ,ec h]
def zU(f:Nat)(c:UInt8)(r:bS)(h:¬(c.toNat=32\/c.toNat=9\/c.toNat=10))(a:eF (c::r) [47,47]=Wm):cJ (f+1) (c::r)=bO fT (c::r)+cJ f ((c::r).drop (bO fT (c::r))):=by grind[cJ]
def GE(f:Nat)(c:UInt8)(r:bS)(h:¬(c.toNat=32\/c.toNat=9\/c.toNat=10))(a:eF (c::r) [47,47]=Wl):cJ (f+1) (c::r)=0:=by grind[cJ]
def pV(p:UInt8->Bool)(c:UInt8)(r:bS)(h:p c=Wm):bO p (c::r)=bO p r+1:=by rw[bO,ec h]
def JH(p:UInt8->Bool)(c:UInt8)(r:bS)(h:p c=Wl):bO p (c::r)=0:=by grind[bO]
def PT(b:UInt8):fT b=((b.toNat:Int) !=10):=by grind[fT]
def QU(s:ByteArray)(n:Nat)(w:aL)(x:s.size<=2000000000)(B:n<=s.size):Wn Ww 160 #[WD s,Y n] w λe w'=>e=bP (Y ((n+cJ s.size (s.data.toList.drop n):Nat)))/\w'=w:=by
 go_in;go_wp2;go_loop [1] (λi=>∃k f:Nat,k<=s.size/\s.size<=k+f/\i=Y k/\Wu (n+cJ s.size (s.data.toList.drop n)=k+cJ f (s.data.toList.drop k))) (λi=>s.size-(intOf i).toNat);case atStart=>exact⟨n,s.size,B,Z,rfl,rfl⟩
 case round=>
  obtain⟨k,f,q,I,rfl,a⟩:=hrel;by_cases d:k<s.size
  .have G:=mQ s[k];obtain⟨f,rfl⟩:∃A,f=A+1:=⟨f-1,Z⟩;rw[gH s k d]at a;by_cases l:s[k].toNat=32\/s[k].toNat=9\/s[k].toNat=10
   .rw[CX _ _ _ l]at a;have o:Wu (n+cJ s.size (s.data.toList.drop n)=k+1+cJ f (s.data.toList.drop (k+1))):=by grind
    clear a;rcases l with l|l|l;all_goals have v:((s[k].toNat:Int))=_:=ey _ l;clear l;go_wp;grind[intOf]
   have H:((s[k].toNat:Int)==32)=Wl:=G_;have F:((s[k].toNat:Int)==9)=Wl:=G_;have J:((s[k].toNat:Int)==10)=Wl:=G_;cases b:eF (s[k]::s.data.toList.drop (k+1)) [47,47];.rw[GE _ _ _ l b]at a;rw[<-gH s k d]at b;go_wp2_with (go_at_call 207;apply (uM s _ k _ x d_ q).mono;rw[b];rintro e w' ⟨rfl,rfl⟩);go_ret;exact⟨oD (by have:=a.out;exact Z),rfl⟩
   rw[zU _ _ _ l b]at a;have y:Wu (1<=bO fT (s.data.toList.drop k)):=by rw[gH s k d,pV _ _ _ (by unfold fT;grind)];show _<=_;exact Z
   rw[<-gH s k d]at b a;rw[jr]at a;go_wp2_with (go_at_call 207;apply (uM s _ k _ x d_ q).mono;rw[b];rintro e w' ⟨rfl,rfl⟩);go_loop [1] (λi=>∃j:Nat,k<=j/\j<=s.size/\i=Y j/\Wu (k+bO fT (s.data.toList.drop k)=j+bO fT (s.data.toList.drop j))) (λi=>s.size-(intOf i).toNat);case atStart=>exact⟨k,Z,q,rfl,rfl⟩
   case round=>
    obtain⟨j,z,E,rfl,g⟩:=hrel;by_cases C:j<s.size
    .have D:=mQ s[j];rw[gH s j C]at g;have c:=PT s[j];cases m:fT s[j]
     .rw[JH _ _ _ m]at g;rw[m]at c;have v:=c.symm;clear c m;have t:k<j:=G_;have o:Wu (n+cJ s.size (s.data.toList.drop n)=j+cJ f (s.data.toList.drop j)):=by have u:=g.out;have r:=a.out;rw[show k+bO fT (s.data.toList.drop k)=j by omega]at r;show _=_;exact Z
      clear g a y;go_wp;go_round;case rel=>exact⟨j,f,Z,Z,rfl,o⟩
      case measure=>simp[intOf];exact Z
     rw[pV _ _ _ m]at g;rw[m]at c;have v:=c.symm;clear c m;have o:Wu (k+bO fT (s.data.toList.drop k)=j+1+bO fT (s.data.toList.drop (j+1))):=by grind
     clear g;go_wp;grind[intOf]
    have p:s.data.toList.drop j=[]:=gr ku;rw[p]at g;have t:k<j:=Z;have o:Wu (n+cJ s.size (s.data.toList.drop n)=j+cJ f (s.data.toList.drop j)):=by
     have u:=g.out;have r:=a.out;rw[show k+bO fT (s.data.toList.drop k)=j by rw[u];rfl]at r;have K:k+bO fT (s.data.toList.drop k)=j:=by rw[u];rfl
     show _=_;exact Z
    clear g a y p;go_wp;go_round;case rel=>exact⟨j,f,Z,Z,rfl,o⟩
    case measure=>simp[intOf];exact Z
  have p:s.data.toList.drop k=[]:=gr ku;rw[p,LP]at a;go_wp2;go_ret;exact⟨oD (by have:=a.out;exact Z),rfl⟩
def IQ:Option Nat->Wo|some n=>Xa #[Y n,Xc Wm]|none=>Xa #[Y 0,Xc Wl]
def DU(s:ByteArray)(w:aL)(j:s.size<=2000000000)(a:∀k (h:k<s.size),dM s[k]=Wm):Wn Ww 130 #[WD s] w λe w'=>e=bP (IQ (dQ 0 s.data.toList))/\w'=w:=by
 have m:=a;clear a;go_in;go_wp2;go_loop [4,5] (λx i=>∃k n:Nat,k<=s.size/\n<=9223372036854775807/\i=Y k/\x=Y n/\Wu (dQ 0 s.data.toList=dQ n (s.data.toList.drop k))) (λ_ i=>s.size-(intOf i).toNat);case atStart=>exact⟨0,0,Z,Z,rfl,rfl,rfl⟩
 case round=>
  obtain⟨k,n,g,l,rfl,rfl,b⟩:=hrel;by_cases c:k<s.size
  .have d:48<=(s[k].toNat:Int)/\(s[k].toNat:Int)<=57:=by grind[dz,dM]
   have ⟨hb1,hb2⟩:=d;rw[gH s k c,dQ]at b;go_wp
   .have f:(9223372036854775807-((s[k].toNat:Int)-48))/10<(n:Int):=by assumption
    go_ret2;refine⟨?_,i_⟩;rw[b,ec (by unfold rO;exact Z)];rfl
   grind[rO,intOf]
  have a:s.data.toList.drop k=[]:=gr ku;rw[a,dQ]at b;go_wp2;go_ret2;exact⟨by rw[b];rfl,rfl⟩
theorem kH(l:bS):(bs l).data.toList=l:=by simp[bs]
theorem iU(l:bS):(bs l).size=aA l:=by simp[bs,ByteArray.size]
theorem UA{a b:ByteArray}(h:a.data.toList=b.data.toList):a=b:=by cases a;cases b;grind[Array.toList_inj]
theorem sG(s:ByteArray)(a b:Nat):s.extract a b=bs (((dL s).drop a).take (b-a)):=UA (by rw[Lib.extract_data,kH])
theorem bA(l:bS):(bs l).toList=l:=by rw[Lib.toList_data,kH]
structure fH(w:aL):Prop where
 kw:∀i (h:i<9),i9 w (aJ 4 i)=Wj (WD (bs (fK[i]'(by simpa [fK]using h))))
 ot:∀i (h:i<21),i9 w (aJ 0 i)=Wj (WD (bs (eM[i]'(by simpa [eM]using h))))
 yh:11<=w.heap.size
theorem fH.below{c:aL}(h:fH L)(b:cB L c):fH c:=⟨λi a=>by rw[b.cell (by grind[fH.yh])];exact h.kw i a,λi a=>by rw[b.cell (by grind[fH.yh])];exact h.ot i a,by have:=b.size;have:=h.yh;exact Z⟩
def Y1(l:bS)(h:∀c∈l,dI Wl c=Wm):∀k (a:k<(bs l).size),dM (bs l)[k]=Wm:=by intro k a;have e:(bs l)[k]=l[k]'(by exact a):=r_;grind[List.getElem_mem,dI]
def Mc(s:ByteArray)(n:Nat)(w:aL)(F:s.size<=2000000000)(G:n<s.size)(A:eG s[n]=Wl)(t:bS)(z:Nat)(o:Option Nat) (C:Wu (t=((dL s).drop n).take z)) (p:Wu (z=bO (dI Wl) ((dL s).drop n))) (q:Wu (dQ 0 t=o)):Wn Ww 210 #[Q_ s,Y n] w λe w'=>e=bP (Xa #[W1 #[Xd .u8 48,Q_ (bs t),Y 0],Y ((n+z:Nat)),Xc o.isSome])/\cB w w':=by
 go_in;go_wp2_with (first|(go_at_call 209;apply (oI _ _).mono;rw[A];rintro e w' ⟨rfl,rfl⟩));go_loop [7] (λi=>∃j:Nat,n<=j/\j<=s.size/\i=Y j/\Wu (n+bO (dI Wl) ((dL s).drop n)=j+bO (dI Wl) ((dL s).drop j))) (λi=>s.size-(intOf i).toNat);case atStart=>exact⟨n,Z,Z,rfl,rfl⟩
 case round=>
  obtain⟨j,B,D,rfl,b⟩:=hrel;have a:bO (dI Wl) ((dL s).drop j)=0->Wu (n+z=j):=λh=>by have:=b.out;rw[h]at this;rw[p.out];exact this
  by_cases l:∃h:j<s.size,dM s[j]=Wm
  .have ⟨m,f⟩:=l;rw[gH s j m]at b a;have c:dI Wl s[j]=Wm:=by simp[dI,f]
   rw[pV _ _ _ c]at b;have E:Wu (n+bO (dI Wl) ((dL s).drop n)=j+1+bO (dI Wl) ((dL s).drop (j+1))):=by grind
   clear b a c;go_wp2_with (first|(go_at_call 208;apply (oU _ _).mono;rw[f];rintro e w' ⟨rfl,rfl⟩));grind[intOf]
  have g:n+z=j:=by refine(a ?_).out;by_cases m:j<s.size;grind[gH,dI,bO];rw[gr ku];rfl
  have y:Wu (s.extract n j=bs t):=by grind[sG,dz]
  have u:Wu (∀k (h:k<(bs t).size),dM (bs t)[k]=Wm):=by apply Y1 t;grind[dz,lR]
  have d:(bs t).size<=2000000000:=by grind[iU,dz]
  have r:Wu (dQ 0 (bs t).data.toList=o):=by rw[kH];exact q
  have x:Wu (((n+z:Nat):Int)=j):=by show _=_;exact Z
  clear b a C p q g;by_cases m:j<s.size;.have f:dM s[j]=Wl:=G_;clear l;cases o;all_goals go_wp2_with (first|(go_at_call 208;apply (oU _ _).mono;rw[f];rintro e w' ⟨rfl,rfl⟩)|(go_at_call 130;rw[y];apply (DU _ _ d u).mono;rw[r,IQ];rintro e w' ⟨rfl,rfl⟩));rw[x];refine Wi (v:=Xa #[W1 #[Xd .u8 48,Q_ (bs t),Y 0],Y j,Xc _]) (by simp[results,results210,go_sem]) rfl ⟨rfl,?_⟩;exact(((dw _ _).alloc (Z) _).alloc s_ _)
  clear l;cases o;all_goals go_wp2_with (first|(go_at_call 130;rw[y];apply (DU _ _ d u).mono;rw[r,IQ];rintro e w' ⟨rfl,rfl⟩));rw[x];refine Wi (v:=Xa #[W1 #[Xd .u8 48,Q_ (bs t),Y 0],Y j,Xc _]) (by simp[results,results210,go_sem]) rfl ⟨rfl,?_⟩;exact(((dw _ _).alloc (Z) _).alloc s_ _)
def tK(t:bS)(k:Nat):Nat:=if (fK.take k).contains t then 107 else 110
def FC(t:bS):tK t 0=110:=rfl
def NZ(l:cU)(q t:bS):(l++[q]).contains t=(l.contains t||(t==q)):=by induction l with|nil=>rw[ik,List.contains_cons];simp|cons a l b=>rw[il,List.contains_cons,List.contains_cons,b,Bool.or_assoc]
def FD(t:bS)(k:Nat)(h:k<9)(q:bS)(a:q=fK[k]'(by simpa [fK]using h)):tK t (k+1)=if q==t then 107 else tK t k:=by
 unfold tK;rw[gw (by simpa [fK]using h),<-a,NZ];by_cases e:q=t;subst e;simp;have b:(q==t)=Wl:=by simpa using e
 have c:(t==q)=Wl:=by simpa using λx=>e x.symm
 rw[b,c];simp
theorem WE(t:bS):tK t 9=if fK.contains t then 107 else 110:=rfl
def s8(s:ByteArray)(n:Nat)(w:aL)(C:fH w)(hs:s.size<=2000000000)(hn:n<s.size)(h2:eG s[n]=Wm)(t:bS)(z:Nat) (B:Wu (t=(s.data.toList.drop n).take z)) (U:Wu (z=bO (dI Wm) (s.data.toList.drop n))):Wn Ww 210 #[Q_ s,Y n] w λe w'=>e=bP (Xa #[W1 #[Xd .u8 (tK t 9),Q_ (bs t),Y 0],Y ((n+z:Nat)),Xc (decide (z<=16))])/\cB w w':=by
 go_in;go_wp2_with (first|(go_at_call 209;apply (oI _ _).mono;rw[h2];rintro e w' ⟨rfl,rfl⟩));go_loop [7] (λi=>∃j:Nat,n<=j/\j<=s.size/\i=Y j/\Wu (n+bO (dI Wm) (s.data.toList.drop n)=j+bO (dI Wm) (s.data.toList.drop j))) (λi=>s.size-(intOf i).toNat);case atStart=>exact⟨n,kB,Z,rfl,rfl⟩
 case round=>
  obtain⟨j,aa,ac,rfl,u⟩:=hrel;have d:bO (dI Wm) (s.data.toList.drop j)=0->Wu (n+z=j):=λh=>by have:=u.out;rw[h]at this;rw[U.out];exact this
  by_cases y:∃h:j<s.size,dI Wm s[j]=Wm
  .have ⟨l,r⟩:=y;rw[gH s j l]at u d;rw[pV _ _ _ r]at u;have S:Wu (n+bO (dI Wm) (s.data.toList.drop n)=j+1+bO (dI Wm) (s.data.toList.drop (j+1))):=by rw[u];show _=_;exact Z
   clear u d;cases f:dM s[j]
   .have p:eG s[j]=Wm:=by simpa [dI,f]using r
    clear r;go_wp2_with (first|(go_at_call 208;apply (oU _ _).mono;rw[f];rintro e w' ⟨rfl,rfl⟩)|(go_at_call 209;apply (oI _ _).mono;rw[p];rintro e w' ⟨rfl,rfl⟩));go_round;case rel=>exact⟨j+1,Z,Z,lj,S⟩
    case measure=>simp[intOf];exact Z
   clear r;go_wp2_with (first|(go_at_call 208;apply (oU _ _).mono;rw[f];rintro e w' ⟨rfl,rfl⟩));go_round;case rel=>exact⟨j+1,Z,Z,lj,S⟩
   case measure=>simp[intOf];exact Z
  have L:n+z=j:=by refine(d ?_).out;by_cases l:j<s.size;rw[gH s j l];exact JH _ _ _ (by simpa using λh=>y ⟨l,h⟩);rw[gr ku];rfl
  have X:Wu (s.extract n j=bs t):=by show _=_;rw[sG,B.out,show j-n=z by omega]
  have V:Wu ((bs t).size=z):=by show _=_;rw[iU,B.out,ia,List.length_drop];simp;exact Z
  have W:Wu (((n+z:Nat):Int)=j):=by show _=_;exact Z
  clear u d B U L;have o:(∃h:j<s.size,dM s[j]=Wl/\eG s[j]=Wl)\/¬j<s.size:=by
   by_cases l:j<s.size;have r:dI Wm s[j]=Wl:=by simpa using λh=>y ⟨l,h⟩
   exact ea ⟨l,by revert r;unfold dI;cases dM s[j]<;>simp,by revert r;unfold dI;cases eG s[j]<;>simp⟩;exact dv l
  clear y;have ab:=C.yh;have T:=C;clear C;rcases o with ⟨l,f,p⟩|l
  .go_wp2_with (first|(go_at_call 208;apply (oU _ _).mono;rw[f];rintro e w' ⟨rfl,rfl⟩)|(go_at_call 209;apply (oI _ _).mono;rw[p];rintro e w' ⟨rfl,rfl⟩));rw[X];go_loopw [12] (λi wr=>∃k:Nat,k<=9/\i=Y k/\cB w wr/\w.heap.size+1<wr.heap.size/\i9 wr (aJ w.heap.size 0)=Wj (Xd .u8 0)/\i9 wr (aJ w.heap.size 1)=Wj (WD {data:=#[]})/\i9 wr (aJ w.heap.size 2)=Wj (Y 0)/\wr.frozen? (aJ w.heap.size 0)=Wl/\wr.frozen? (aJ w.heap.size 1)=Wl/\wr.frozen? (aJ w.heap.size 2)=Wl/\i9 wr (aJ (w.heap.size+1) 0)=Wj (Xd .u8 (tK t k))/\i9 wr (aJ (w.heap.size+1) 1)=Wj (Q_ (bs t))/\i9 wr (aJ (w.heap.size+1) 2)=Wj (Y 0)/\wr.frozen? (aJ (w.heap.size+1) 0)=Wl/\wr.frozen? (aJ (w.heap.size+1) 1)=Wl/\wr.frozen? (aJ (w.heap.size+1) 2)=Wl) (λi _=>9-(intOf i).toNat);case atStart=>exact⟨0,Z,rfl,((dw _ _).alloc kB _).alloc s_ _,s_,lg,lg,lg,lg,lg,lg,by simp[go_sem,FC],lg,lg,lg,lg,lg⟩
   case round=>
    obtain⟨k,hk,rfl,b,g,I,A,P,D,G,Q,x,J,K,H,N,E⟩:=hrel;by_cases c:k<9
    .have ⟨q,hq⟩:∃q,q=fK[k]'(by simpa [fK]using c):=⟨_,rfl⟩;have F:i9 wr (aJ 4 k)=Wj (Q_ (bs q)):=by rw[hq,b.cell (by show 4<_;exact Z)];exact T.kw k c
     have m:=FD t k c q hq;clear hq;cases a:(q==t)
     .have M:((bs q).toList==(bs t).toList)=Wl:=by rw[bA,bA];exact a
      rw[a]at m;clear a;go_wp;go_quiet (fail);go_wp;go_roundw;case rel=>exact⟨k+1,Z,lj,below_drewN b _,g,I,A,P,D,G,Q,by rw[m];exact x,J,K,H,N,E⟩
      case measure=>simp[intOf];exact Z
     have M:((bs q).toList==(bs t).toList)=Wm:=by rw[bA,bA];exact a
     rw[a]at m;clear a;go_wp;go_quiet (fail);go_wp;go_roundw;case rel=>refine⟨k+1,Z,lj,(below_drewN b _).setCell s_ _,by simpa using g,?_,?_,?_,?_,?_,?_,?_,?_,?_,?_,?_,?_⟩;all_goals first|(rw[m];simp[go_sem,x];done)|(simp[go_sem, *];done)
     case measure=>simp[intOf];exact Z
    obtain rfl:k=9:=Z;go_wp2;go_region;go_wp;rw[W,show decide (z<=16)=decide (((bs t).size:Int)<=16) by rw[V];simp;exact Z];refine Wi (v:=Xa #[W1 #[Xd .u8 (tK t 9),Q_ (bs t),Y 0],Y j,Xc _]) (by simp[results,results210,go_sem, *]) rfl ⟨rfl,?_⟩;exact(((b.setCell s_ _).setCell s_ _).setCell s_ _).drew
  go_wp21;rw[X];go_loopw [12] (λi wr=>∃k:Nat,k<=9/\i=Y k/\cB w wr/\w.heap.size+1<wr.heap.size/\i9 wr (aJ w.heap.size 0)=Wj (Xd .u8 0)/\i9 wr (aJ w.heap.size 1)=Wj (WD {data:=#[]})/\i9 wr (aJ w.heap.size 2)=Wj (Y 0)/\wr.frozen? (aJ w.heap.size 0)=Wl/\wr.frozen? (aJ w.heap.size 1)=Wl/\wr.frozen? (aJ w.heap.size 2)=Wl/\i9 wr (aJ (w.heap.size+1) 0)=Wj (Xd .u8 (tK t k))/\i9 wr (aJ (w.heap.size+1) 1)=Wj (Q_ (bs t))/\i9 wr (aJ (w.heap.size+1) 2)=Wj (Y 0)/\wr.frozen? (aJ (w.heap.size+1) 0)=Wl/\wr.frozen? (aJ (w.heap.size+1) 1)=Wl/\wr.frozen? (aJ (w.heap.size+1) 2)=Wl) (λi _=>9-(intOf i).toNat);case atStart=>exact⟨0,Z,rfl,((dw _ _).alloc kB _).alloc s_ _,s_,lg,lg,lg,lg,lg,lg,by simp[go_sem,FC],lg,lg,lg,lg,lg⟩
  case round=>
   obtain⟨k,hk,rfl,b,g,I,A,P,D,G,Q,x,J,K,H,N,E⟩:=hrel;by_cases c:k<9
   .have ⟨q,hq⟩:∃q,q=fK[k]'(by simpa [fK]using c):=⟨_,rfl⟩;have F:i9 wr (aJ 4 k)=Wj (Q_ (bs q)):=by rw[hq,b.cell (by show 4<_;exact Z)];exact T.kw k c
    have m:=FD t k c q hq;clear hq;cases a:(q==t)
    .have M:((bs q).toList==(bs t).toList)=Wl:=by rw[bA,bA];exact a
     rw[a]at m;clear a;go_wp;go_quiet (fail);go_wp;go_roundw;case rel=>exact⟨k+1,Z,lj,below_drewN b _,g,I,A,P,D,G,Q,by rw[m];exact x,J,K,H,N,E⟩
     case measure=>simp[intOf];exact Z
    have M:((bs q).toList==(bs t).toList)=Wm:=by rw[bA,bA];exact a
    rw[a]at m;clear a;go_wp;go_quiet (fail);go_wp;go_roundw;case rel=>refine⟨k+1,Z,lj,(below_drewN b _).setCell s_ _,by simpa using g,?_,?_,?_,?_,?_,?_,?_,?_,?_,?_,?_,?_⟩;all_goals first|(rw[m];simp[go_sem,x];done)|(simp[go_sem, *];done)
    case measure=>simp[intOf];exact Z
   obtain rfl:k=9:=Z;go_wp2;go_region;go_wp;rw[W,show decide (z<=16)=decide (((bs t).size:Int)<=16) by rw[V];simp;exact Z];refine Wi (v:=Xa #[W1 #[Xd .u8 (tK t 9),Q_ (bs t),Y 0],Y j,Xc _]) (by simp[results,results210,go_sem, *]) rfl ⟨rfl,?_⟩;exact(((b.setCell s_ _).setCell s_ _).setCell s_ _).drew
def MZ(r:rG)(n:Nat):Wo:=Xa #[W1 #[Xd .u8 r.c_,WD (bs r.x_),Y 0],Y ((n+r.size:Nat)),Xc r.ok]
def Rd(s:ByteArray)(n:Nat)(w:aL)(d:fH w)(b:s.size<=2000000000)(c:n<s.size):Wn Ww 210 #[Q_ s,Y n] w λe w'=>e=bP (MZ (iX ((dL s).drop n) (eG s[n])) n)/\cB w w':=by cases a:eG s[n];exact Mc s n w b c a _ _ _ i_ i_ i_;apply (s8 s n w d b c a _ _ i_ i_).mono;grind[MZ,iX,WE]
def wk(c:cB L T):(∀b o,b<H_ L->i9 T (aJ b o)=i9 L (aJ b o))/\(∀b o,b<H_ L->T.frozen? (aJ b o)=L.frozen? (aJ b o)):=(by grind[Below.cell,Below.frozen])
def fH.alloc{w:aL}(h:fH w)(o:Obj):fH (w.alloc o):=(by grind[fH.below,eo,dw])
def O_(s:ByteArray)(n:Nat)(w:aL)(c:fH w)(l:s.size<=2000000000)(m:n<s.size)(f:(dM s[n]||eG s[n])=Wm)(r:rG) (k:Wu (iX ((dL s).drop n) (eG s[n])=r)):Wn Ww 161 #[Q_ s,Y n] w λe w'=>e=bP (MZ r n)/\cB w w':=by
 have j:Wu (∀o,fH (w.alloc o)):=λo=>c.alloc o;clear c;have a:dM s[n]=Wm\/(dM s[n]=Wl/\eG s[n]=Wm):=by grind
 clear f;rcases a with d|⟨d,i⟩;all_goals
  go_in;go_wp2_with (first|(go_at_call 208;apply (oU _ _).mono;rw[d];rintro e w' ⟨rfl,rfl⟩)|(go_at_call 209;apply (oI _ _).mono;rw[i];rintro e w' ⟨rfl,rfl⟩));apply (Rd s n _ (j _) l m).mono;rw[k.out,MZ];rintro e g ⟨rfl,b⟩;have ⟨hc,hf⟩:=wk b;have p:H_ w<H_ g:=by have:=b.size;simp at this;exact Z
  go_wp2;refine Wi (v:=Xa #[W1 #[Xd .u8 r.c_,Q_ (bs r.x_),Y 0],Y ((n+r.size:Nat)),Xc r.ok]) (by simp[results,results161,go_sem,hc]) rfl ⟨rfl,?_⟩;exact((((((dw _ _).alloc (Z) _).trans (b.mono s_)).setCell s_ _).setCell s_ _).setCell s_ _)
def VV(b:UInt8):iI b=(((b.toNat:Int) !=34)&&((b.toNat:Int) !=10)):=by grind[iI]
def IN(Y_:a:=by go_wp2_with fail;rw[HE];go_region;go_wp2_with fail;rw[HZ,HK2];refine Wi (v:=Xa #[W1 #[Xd .u8 115,Q_ (bs t),Y 0],Y ((j:Int)+1),Xc _]) (by simp[results,results161,go_sem]) rfl ⟨rfl,?_⟩;exact(((dw _ _).alloc (Z) _).alloc s_ _).drew):a:=Y_
def Qm(s:ByteArray)(n:Nat)(w:aL)(F:s.size<=2000000000)(G:n<s.size)(v:dM s[n]=Wl)(r:eG s[n]=Wl)(y:s[n].toNat=34)(t:bS)(z:Nat)(ok:Bool) (k:Wu (t=((dL s).drop (n+1)).take z)) (m:Wu (z=bO iI ((dL s).drop (n+1)))) (c:Wu (ok=(decide (((dL s).drop (n+1))[z]?=Wj 34)&&decide (z<=100)))):Wn Ww 161 #[Q_ s,Y n] w λe w'=>e=bP (Xa #[W1 #[Xd .u8 115,Q_ (bs t),Y 0],Y ((n+(z+2):Nat)),Xc ok])/\cB w w':=by
 have B:((s[n].toNat:Int)==34)=Wm:=G_;clear y;go_in;go_wp2_with (first|(go_at_call 208;apply (oU _ _).mono;rw[v];rintro e w' ⟨rfl,rfl⟩)|(go_at_call 209;apply (oI _ _).mono;rw[r];rintro e w' ⟨rfl,rfl⟩));go_loop [8] (λi=>∃j:Nat,n+1<=j/\j<=s.size/\i=Y j/\Wu (n+1+bO iI ((dL s).drop (n+1))=j+bO iI ((dL s).drop j))) (λi=>s.size-(intOf i).toNat);case atStart=>exact⟨n+1,Z,Z,lj,rfl⟩
 case round=>
  obtain⟨j,u,D,rfl,d⟩:=hrel;have a:bO iI ((dL s).drop j)=0->Wu (n+1+z=j):=λh=>by have:=d.out;rw[h]at this;rw[m.out];exact this
  by_cases o:∃h:j<s.size,iI s[j]=Wm
  .have ⟨p,b⟩:=o;have q:=mQ s[j];rw[gH s j p]at d a;rw[pV _ _ _ b]at d;have E:Wu (n+1+bO iI ((dL s).drop (n+1))=j+1+bO iI ((dL s).drop (j+1))):=by grind
   clear d a;rw[VV,Bool.and_eq_true]at b;have ⟨hp1,hp2⟩:=b;go_wp;grind[intOf]
  have f:n+1+z=j:=by refine(a ?_).out;by_cases p:j<s.size;grind[gH,bO];rw[gr ku];rfl
  have HE:Wu (s.extract (n+1) j=bs t):=by grind[sG,dz]
  have A:Wu ((bs t).size=z):=by show _=_;rw[iU,k.out,ia,List.length_drop];simp;exact Z
  have HZ:Wu (((n+(z+2):Nat):Int)=(j:Int)+1):=by show _=_;exact Z
  by_cases p:j<s.size;have q:=mQ s[j];have g:Wu (ok=(decide (s[j]=34)&&decide (z<=100))):=by show _=_;rw[c.out,zC s (n+1) z Z];grind
  have b:iI s[j]=Wl:=G_;rw[VV]at b;clear d a k m f o c;by_cases l:s[j].toNat=34;have C:((s[j].toNat:Int) !=34)=Wl:=G_;have x:((s[j].toNat:Int)==34)=Wm:=G_;have HK2:Wu (ok=decide (((bs t).size:Int)<=100)):=by show _=_;rw[g,A,show s[j]=34 from js.1 G_];grind
  clear l g b;exact IN;have C:((s[j].toNat:Int) !=34)=Wm:=G_;have x:((s[j].toNat:Int)==34)=Wl:=G_;have H:((s[j].toNat:Int) !=10)=Wl:=G_;have HK2:Wu (ok=Wl):=by rw[g,show decide (s[j]=34)=Wl from gi λe=>l rp];rfl
  clear l g b;exact IN;have HK2:Wu (ok=Wl):=by grind[AU]
  clear d a k m f o c;exact IN
theorem BU:∀k (h:k<21),aA (eM[k]'(by simpa [eM]using h))<=2:=d_
def tM(l:bS)(k:Nat):Prop:=∀o∈eM.take k,eF l o=Wl
theorem FO(h:K<21)(b:tM M K)(a:eF M (eM[K]'(by simpa [eM]using h))=Wl):tM M (K+1):=by grind[List.take_succ_eq_append_getElem,tM]
theorem KD(h:K<21)(c:tM M K)(q:bS)(b:q=eM[K]'(by simpa [eM]using h))(a:eF M q=Wm):kC M={c_:=112,x_:=q,size:=aA q,ok:=Wm}:=by
 have e:eM.find? (λo=>eF M o)=Wj q:=by grind[List.find?_eq_some_iff_getElem,List.mem_take_iff_getElem,tM]
 unfold kC;rw[e]
theorem FN(b:tM M 21):kC M={c_:=0,x_:=[],size:=0,ok:=Wl}:=by
 have e:eM.find? (λo=>eF M o)=none:=by rw[List.find?_eq_none];intro o a;rw[b o (by exact a)];simp
 unfold kC;rw[e]
def M6(s:ByteArray)(n:Nat)(w:aL)(g:fH w)(l:s.size<=2000000000)(D:n<s.size)(t:dM s[n]=Wl)(m:eG s[n]=Wl)(x:¬s[n].toNat=34)(r:rG) (C:Wu (kC ((dL s).drop n)=r)):Wn Ww 161 #[Q_ s,Y n] w λe w'=>e=bP (MZ r n)/\cB w w':=by
 have y:((s[n].toNat:Int)==34)=Wl:=G_;clear x;have B:Wu (∀o,fH (w.alloc o)):=λo=>g.alloc o;clear g;go_in;go_wp2_with (first|(go_at_call 208;apply (oU _ _).mono;rw[t];rintro e w' ⟨rfl,rfl⟩)|(go_at_call 209;apply (oI _ _).mono;rw[m];rintro e w' ⟨rfl,rfl⟩));go_loop [10] (λi=>∃k:Nat,k<=21/\i=Y k/\Wu (tM ((dL s).drop n) k)) (λi=>21-(intOf i).toNat);case atStart=>exact⟨0,Z,rfl,λo u=>by simp at u⟩
 case round=>
  obtain⟨k,A,rfl,f⟩:=hrel;by_cases d:k<21
  .have ⟨q,hq⟩:∃q,q=eM[k]'(by simpa [eM]using d):=(by simp);have p:∀o,eJ (w.alloc o) 0 k (Q_ (bs q)):=(by grind[fH.ot,dz]);have z:aA q<=2:=by grind[BU]
   have b:(bs q).size<=100:=by rw[iU];exact Z
   have j:=hq;clear hq;cases a:eF ((dL s).drop n) q;.have c:Wu (tM ((dL s).drop n) (k+1)):=(by grind[FO,dz]);clear f j;go_wp2_with (first|(go_at_call 207;apply (uM s _ n _ l b Z).mono;rw[kH,a];rintro e w' ⟨rfl,rfl⟩));grind[intOf]
   have c:Wu (r={c_:=112,x_:=q,size:=aA q,ok:=Wm}):=by grind[dz,KD]
   clear f j;go_wp2_with (first|(go_at_call 207;apply (uM s _ n _ l b Z).mono;rw[kH,a];rintro e w' ⟨rfl,rfl⟩));go_region;go_wp;rw[c,MZ];refine Wi (v:=Xa #[W1 #[Xd .u8 112,Q_ (bs q),Y 0],Y ((n+aA q:Nat)),Xc Wm]) (by simp[results,results161,go_sem,iU]) rfl ⟨rfl,?_⟩;grind[Below.drew,eo,dw]
  obtain rfl:k=21:=Z;have c:Wu (r={c_:=0,x_:=[],size:=0,ok:=Wl}):=by grind[dz,FN]
  clear f;go_wp;rw[c,MZ];refine Wi (v:=Xa #[W1 #[Xd .u8 0,Q_ (bs []),Y 0],Y ((n:Nat)),Xc Wl]) (by simp[results,results161,go_sem,bs]) rfl ⟨rfl,?_⟩;grind[eo,dw]
def XN(s:ByteArray)(n:Nat)(w:aL)(g:fH w)(d:s.size<=2000000000)(c:n<s.size):Wn Ww 161 #[Q_ s,Y n] w λe w'=>e=bP (MZ (cV ((dL s).drop n)) n)/\cB w w':=by
 have e:=gH s n c;cases a:(dM s[n]||eG s[n]);rw[Bool.or_eq_false_iff]at a;by_cases f:s[n].toNat=34;have b:cV ((dL s).drop n)=pC ((dL s).drop (n+1)):=by grind[cV]
 rw[b];exact Qm s n w d c a.1 a.2 f _ _ _ i_ i_ i_;have b:cV ((dL s).drop n)=kC ((dL s).drop n):=by grind[cV]
 rw[b];exact M6 s n w g d c a.1 a.2 f _ i_;have b:cV ((dL s).drop n)=iX ((dL s).drop n) (eG s[n]):=by rw[e,cV,ec a]
 rw[b];exact O_ s n w g d c a _ i_
def Ue:(prog.info? 219).map (λi=>(i.zero,i.size,i.bytes))=Wj (Wj (W1 #[Xd .u8 0,Q_ (bs []),Y 0]),3,32):=k_
def AC(t:bE):List Wo:=[Xd .u8 t.c_,WD (bs t.x_),Y t.l_]
def qN:List bE->List Wo|[]=>[]|t::ts=>AC t++qN ts
def BF(a b:List bE):qN (a++b)=qN a++qN b:=by induction a with|nil=>rfl|cons t a c=>simp[qN,c]
def X5(s:ByteArray)(w:aL)(c:s.size<=2000000000)(b:Nat)(a:Wu (cJ s.size (dL s)=b)):Wn Ww 160 #[Q_ s,Y 0] w λe w'=>e=bP (Y b)/\w'=w:=by have h:=QU s 0 w c (Z);rw[List.drop_zero,a.out,gp]at h;exact h
def Mt(s:ByteArray)(x:Int)(n:Nat)(c:x=n)(w:aL)(b:s.size<=2000000000)(d:n<=s.size)(m:Nat)(a:Wu (n+cJ s.size ((dL s).drop n)=m)):Wn Ww 160 #[Q_ s,Y x] w λe w'=>e=bP (Y m)/\w'=w:=by subst c;have h:=QU s n w b d;rw[a.out]at h;exact h
def yF(s:ByteArray)(x:Int)(n:Nat)(b:x=n)(w:aL)(a:s.size<=2000000000)(c:n<=s.size):Wn Ww 97 #[Q_ s,Y x] w λe w'=>e=bP (Y (bD ((dL s).take n)))/\w'=w:=by subst b;exact P4 s n w a c
def VP(s:ByteArray)(k f:Nat)(b:k<s.size)(a:(cV ((dL s).drop k)).ok=Wm)(m:Nat) (c:m=k+(cV ((dL s).drop k)).size+cJ s.size ((dL s).drop (k+(cV ((dL s).drop k)).size))):fC (f+1) ((dL s).take k) ((dL s).drop k)=jN [{c_:=(cV ((dL s).drop k)).c_,x_:=(cV ((dL s).drop k)).x_,l_:=bD ((dL s).take k)}] (fC f ((dL s).take m) ((dL s).drop m)):=by have d:aA ((dL s).drop k)=s.size-k:=s_;grind[List.drop_drop,LQ,fC,jN]
def lD(h:L.ownsRow K e X N U P)(m:cB L T):T.ownsRow K e X N U P:=by refine⟨h.1,?_⟩;rcases h.2 with i|⟨g,d,c,l,i,o,k⟩;grind;refine dv ⟨g,d,c,l,i,?_,k⟩;grind[ej]
theorem cA(h:L.ownsRow K e X N U P):∀k,N.ownBlock=Wj k->K<=k:=by intro k c;rcases h.2 with ⟨rfl,_⟩|⟨g,i,d,rfl,j,_⟩;cases c;have:g=k:=fm c;exact Z
def F4(x:Except Nat (List bE))(w:aL)(e:Wq)(w':aL):Prop:=cB w w'/\match x with|.error n=>e=bP (Xa #[bR,Y n])|.ok ts=>∃v,e=bP (Xa #[v,Y 0])/\w'.ownsRow w.heap.size 219 3 v (aA ts) (qN ts)
def IY(s:ByteArray)(w:aL)(T:fH w)(hs:s.size<=2000):Wn Ww 98 #[Q_ s] w (F4 (gS (dL s)) w):=by
 have d:s.size<=2000000000:=Z;have ⟨i0,hi,hz0,hz1,hz2⟩:=info_parts Ue;have V:=T;have H:cJ s.size (dL s)<=s.size:=by have:=rS s.size (dL s);simpa using this
 have W:Wu (gS (dL s)=fC (s.size+1) ((dL s).take (cJ s.size (dL s))) ((dL s).drop (cJ s.size (dL s)))):=by show _=_;unfold gS;simp
 generalize K:cJ s.size (dL s)=N at*;have HB1:=K;generalize gS (dL s)=y at*;go_in;go_wp2_with (go_at_call 160;refine rB (X5 s _ d N HB1) λB q=>?_;obtain rfl:=q.symm);go_loopw [4,5] (λv i wr=>∃(k f:Nat) (o:List bE),k<=s.size/\s.size+1<=k+f/\aA o<=k/\i=Y k/\wr.ownsRow (H_ w) 219 3 v (aA o) (qN o)/\cB w wr/\Wu (y=jN o (fC f ((dL s).take k) ((dL s).drop k)))) (λ_ i _=>s.size-(intOf i).toNat);case atStart=>exact⟨N,s.size+1,[],H,Z,s_,rfl,World.ownsRow_nil _ _ _ _,dw _ _,by rw[W,wZ];rfl⟩
 case round=>
  obtain⟨k,f,o,M,hf,U,rfl,n,b,A⟩:=hrel;by_cases p:k<s.size
  .obtain⟨f,rfl⟩:∃I,f=I+1:=⟨f-1,Z⟩;have hgr:=V.below b;have P:aA ((dL s).drop k)=s.size-k:=s_;cases l:(cV ((dL s).drop k)).ok
   .have z:Wu (y=.error (bD ((dL s).take k))):=by rw[A,BE _ _ _ Z l];rfl
    have J:=l;have F:=hgr;go_wp;apply (XN s k _ F d p).mono;rw[MZ,J];generalize cV ((dL s).drop k)=r;rintro e L ⟨rfl,t⟩;go_wp2_with (go_at_call 97;apply pN (yF s _ k i_ _ d M));go_ret2;refine⟨(b.trans (t.mono (by have:=b.size;exact Z))).alloc (by have:=b.size;have:=t.size;exact Z) _,?_⟩;rw[z];exact i_
   have G:=uL _ l;rw[P]at G;have ⟨m,hm⟩:∃m,m=k+(cV ((dL s).drop k)).size+cJ s.size ((dL s).drop (k+(cV ((dL s).drop k)).size)):=(by simp);have X:m<=s.size:=by grind[rS]
   have S:=VP s k f p l m hm;have z:Wu (y=jN (o++[{c_:=(cV ((dL s).drop k)).c_,x_:=(cV ((dL s).drop k)).x_,l_:=bD ((dL s).take k)}]) (fC f ((dL s).take m) ((dL s).drop m))):=by rw[A,S,vQ];rfl
   have J:=l;have F:=hgr;have HM:=hm.symm;clear A l P hgr S hm;go_wp;apply (XN s k _ F d p).mono;rw[MZ,J];generalize cV ((dL s).drop k)=r at*;rintro e L ⟨rfl,t⟩;have hown1:=lD n t;have hbw1:=b.trans (t.mono b.size);go_wp2_with (first|(go_at_call 97;refine rB (yF s _ k i_ _ d M) λB q=>?_;obtain rfl:=q.symm)|(at_builtin;refine wpList_append_own _ i_ _ _ 211 i_ (H_ w) 219 i0 _ 3 32 underlying211 hi hz0 hz1 hz2 i_ d_ _ _ _ rfl ((hown1.alloc _).alloc _) (aJ (H_ L+1) 0) 1 1 (AC {c_:=r.c_,x_:=r.x_,l_:=bD ((dL s).take k)}) rfl rfl ?c1 ?c2 ?c3 ?c4 ?c5 ?_));case c1=>intro j u a;match j,a with|0,a=>simp[AC]at a;subst a;simp[Addr.add,go_sem]|1,a=>simp[AC]at a;subst a;simp[Addr.add,go_sem]|2,a=>simp[AC]at a;subst a;simp[Addr.add,go_sem]|j+3,a=>simp[AC]at a
   case c2=>intro u x;simp[AC,fe,jo,or_false]at x;rcases x with rfl|rfl|rfl<;>rfl
   case c3=>unfold maxLen;exact Z
   case c4=>exact Z
   case c5=>have:=hbw1.size;simp;exact Z
   intro C Q c g _;have hbw2:=((hbw1.alloc hbw1.size _).alloc (by have:=hbw1.size;simp;exact Z) _).grown g (by have:=hbw1.size;simp;exact Z) (cA hown1);have D:Q.ownsRow (H_ w) 219 3 C (aA (o++[({c_:=r.c_,x_:=r.x_,l_:=bD ((dL s).take k)}:bE)])) (qN (o++[{c_:=r.c_,x_:=r.x_,l_:=bD ((dL s).take k)}])):=by rw[BF,et];exact c
   have E:k+r.size<=s.size:=Z;go_wp2_with (first|(go_at_call 160;refine rB (Mt s _ (k+r.size) s_ _ d E m HM) λB q=>?_;obtain rfl:=q.symm));grind[intOf]
  obtain rfl:k=s.size:=Z;obtain⟨f,rfl⟩:∃I,f=I+1:=⟨f-1,Z⟩;have z:Wu (y=.ok (o++[{c_:=101,x_:=[],l_:=bD ((dL s).take s.size)}])):=by rw[A,rL _ _ _ s_];rfl
  go_wp2_with (first|(go_at_call 97;refine rB (yF s _ s.size i_ _ d (Z)) λB q=>?_;obtain rfl:=q.symm)|(at_builtin;refine wpList_append_own _ i_ _ _ 211 i_ (H_ w) 219 i0 _ 3 32 underlying211 hi hz0 hz1 hz2 i_ d_ _ _ _ rfl (n.alloc _) (aJ (H_ wr) 0) 1 1 (AC {c_:=101,x_:=[],l_:=bD ((dL s).take s.size)}) rfl rfl ?c1 ?c2 ?c3 ?c4 ?c5 ?_));case c1=>intro j u a;match j,a with|0,a=>simp[AC]at a;subst a;simp[Addr.add,go_sem]|1,a=>simp[AC,bs]at a;subst a;simp[Addr.add,go_sem]|2,a=>simp[AC]at a;subst a;simp[Addr.add,go_sem]|j+3,a=>simp[AC]at a
  case c2=>intro u x;simp[AC,fe,jo,or_false]at x;rcases x with rfl|rfl|rfl<;>rfl
  case c3=>unfold maxLen;exact Z
  case c4=>exact Z
  case c5=>have:=b.size;simp;exact Z
  intro C Q c g _;go_wp2;go_ret2;refine⟨(b.alloc b.size _).grown g (by have:=b.size;simp;exact Z) (cA n),?_⟩;rw[z];refine⟨C,i_,?_⟩;rw[BF,et];exact c
structure Ctx where
 pb:Nat
 g:Nat
 cap:Nat
 ts:List bE
structure At(C:Ctx)(w:aL)(p bad:Nat):Prop where
 n_:w.heap[C.pb]?=Wj (Xe #[Wz (Wj (aJ C.g 0)) (aA C.ts) C.cap,Y p,Y bad] 216)
 row:∃cur,w.heap[C.g]?=Wj (Xe cur 219)/\cur.toList.take (aA C.ts*3)=qN C.ts
 ne:C.g≠C.pb
 lt:p<aA C.ts
 len:aA C.ts<=3000
 cap:aA C.ts<=C.cap
 last:(aP C.ts (aA C.ts-1)).c_=101
 pos:∀q,q<aA C.ts->(aP C.ts q).l_≠0
structure Fr(pb:Nat)(w w':aL):Prop where
 os:w'.os=w.os
 tape:w'.tape=w.tape
 output:w'.output=w.output
 size:w.heap.size<=w'.heap.size
 block:∀k,k<w.heap.size->k≠pb->w'.heap[k]?=w.heap[k]?
theorem Fr.refl(pb:Nat)(w:aL):Fr pb w w:=⟨rfl,rfl,rfl,Z,s_⟩
theorem Fr.trans{d:Nat}{a b c:aL}(h:Fr d a b)(k:Fr d b c):Fr d a c:=⟨k.os.trans h.os,k.tape.trans h.tape,k.output.trans h.output,em h.size k.size,λi e f=>(k.block i (ef e h.size) f).trans (h.block i e f)⟩
theorem Fr.below{pb:Nat}{a:aL}(h:cB L a):Fr pb L a:=⟨h.os,h.tape,h.output,h.size,λk b _=>h.block k b⟩
theorem Fr.drew{b:Nat}{a:aL}(h:Fr b a L):Fr b a L.drew:=⟨h.os,h.tape,h.output,h.size,h.block⟩
theorem Fr.drewN(h:Fr K L T)(n:Nat):Fr K L (T.drewN n):=⟨h.os,h.tape,h.output,h.size,h.block⟩
theorem Fr.alloc{pb:Nat}{a w:aL}(h:Fr pb a w)(o:Obj):Fr pb a (w.alloc o):=(by grind[Fr.trans,Fr.below,eo,dw])
theorem Fr.setCell{b:Nat}(h:Fr b L T){p:Addr}(c:p.block=b\/L.heap.size<=p.block)(u:aU):Fr b L (T.setCell p u):=⟨h.os,h.tape,h.output,by have:=h.size;grind[World.setCell],(by grind[eh,Fr.block])⟩
def aH{b:Nat}{o:Obj}(h:L.heap[b]?=Wj o):b<L.heap.size:=by grind
theorem aB{w:aL}{b i:Nat}(h:w.heap[b]?=Wj (Xe c e)){v:aU}(a:c[i]?=Wj v):i9 w (aJ b i)=Wj v:=by simp[World.cell?,h,a]
theorem aE{i:Nat}(h:L.heap[K]?=Wj (Xe c e)):L.frozen? (aJ K i)=Wl:=by simp[World.frozen?,h]
theorem aN{i:Nat}{f:Nat×Nat}(h:L.heap[K]?=Wj (Xe c e f)){u:aU}:(c9 L (aJ K i) u).heap[K]?=Wj (Xe (c.setIfInBounds i u) e f):=by grind[World.setCell]
def SW(a:List bE)(p:Nat)(h:p<aA a):(qN a)[p*3]?=Wj (Xd .u8 (aP a p).c_)/\(qN a)[p*3+1]?=Wj (Q_ (bs (aP a p).x_))/\(qN a)[p*3+1+1]?=Wj (Y (aP a p).l_):=by induction a generalizing p with|nil=>simp at h|cons t a b=>cases p with|zero=>simp[qN,AC,aP]|succ p=>grind[qN,AC,aP]
def At.tok{C:Ctx}(h:At C L K X):eJ L C.g (K*3) (Xd .u8 (aP C.ts K).c_)/\eJ L C.g (K*3+1) (Q_ (bs (aP C.ts K).x_))/\eJ L C.g (K*3+1+1) (Y (aP C.ts K).l_):=by have ⟨cur,h1,h2⟩:=h.row;have ⟨t0,t1,t2⟩:=SW C.ts K h.lt;grind[aB]
theorem At.below{C:Ctx}{a:aL}{p:Nat}(h:At C L p K)(b:cB L a):At C a p K:=by have ⟨cur,h1,h2⟩:=h.row;exact⟨by grind[ej,At.n_],lm,h.ne,h.lt,h.len,h.cap,h.last,h.pos⟩
def AB(t:bE):Wo:=W1 #[Xd .u8 t.c_,WD (bs t.x_),Y t.l_]
def K6(f g d p n:Nat)(w:aL)(a c:Int)(b:ByteArray)(x:p<n)(_hn:n<=3000)(_hnc:n<=d)(j:f<H_ w)(q:g<H_ w) (r:eJ w f 0 (P_ (Wj (aJ g 0)) n d)) (k:eJ w f 1 (Y p)) (l:eJ w g (p*3) (Xd .u8 a)) (m:eJ w g (p*3+1) (Q_ b)) (i:eJ w g (p*3+1+1) (Y c)):Wn Ww 163 #[aW f] w λe w'=>e=bP (W1 #[Xd .u8 a,Q_ b,Y c])/\cB w w':=by
 have y:∀o,eJ (w.alloc o) f 0 (P_ (Wj (aJ g 0)) n d):=λo=>by grind[World.cell?_alloc_past]
 have t:∀o,eJ (w.alloc o) f 1 (Y p):=λo=>by grind[World.cell?_alloc_past]
 have s:∀o,eJ (w.alloc o) g (p*3) (Xd .u8 a):=λo=>by grind[World.cell?_alloc_past]
 have z:∀o,eJ (w.alloc o) g (p*3+1) (Q_ b):=λo=>by grind[World.cell?_alloc_past]
 have u:∀o,eJ (w.alloc o) g (p*3+1+1) (Y c):=λo=>by grind[World.cell?_alloc_past]
 clear r k l m i;go_in;go_wp2;go_region;go_wp2;refine Wi (v:=W1 #[Xd .u8 a,Q_ b,Y c]) (by simp[results,results163,go_sem]) rfl ⟨rfl,?_⟩;grind[Below.drew,eo,dw]
def mA(C:Ctx)(w:aL)(p bad:Nat)(h:At C w p bad):Wn Ww 163 #[aW C.pb] w λe w'=>e=bP (AB (aP C.ts p))/\cB w w':=K6 C.pb C.g C.cap p (aA C.ts) w _ _ _ h.lt h.len h.cap (aH h.n_) (by grind[At.row]) (aB h.n_ rfl) (aB h.n_ rfl) h.tok.1 h.tok.2.1 h.tok.2.2
def At.cells{C:Ctx}{w a:aL}(h:At C w K X)(e:cB w a):C.pb<a.heap.size/\(∀o,i9 (a.alloc o) (aJ C.pb 1)=Wj (Y K))/\(∀o,i9 (a.alloc o) (aJ C.pb 2)=Wj (Y X))/\i9 a (aJ C.pb 1)=Wj (Y K)/\i9 a (aJ C.pb 2)=Wj (Y X)/\(∀i,(∀o,(a.alloc o).frozen? (aJ C.pb i)=Wl)/\a.frozen? (aJ C.pb i)=Wl):=by have b:=h.below e;have c:=aH b.n_;refine⟨c,λo=>?_,λo=>?_,aB b.n_ i_,aB b.n_ i_,λi=>⟨λo=>?_,aE b.n_⟩⟩;rw[World.cell?_alloc_past _ _ _ c];exact aB b.n_ i_;rw[World.cell?_alloc_past _ _ _ c];exact aB b.n_ i_;have d:=b.below ((dw _ _).alloc kB o);exact aE d.n_
def AS(C:Ctx)(w:aL)(p bad:Nat)(x:ByteArray)(h:At C w p bad):Wn Ww 215 #[aW C.pb,Q_ x] w λe w'=>e=bP (Xc (decide (bad=0)&&bX C.ts p (dL x)))/\cB w w':=by
 have i:Wu (bX C.ts p (dL x)=(((aP C.ts p).c_==112||(aP C.ts p).c_==107)&&(aP C.ts p).x_==dL x)):=rfl;have n:Wu (((bs (aP C.ts p).x_).toList==x.toList)=((aP C.ts p).x_==dL x)):=by show _=_;rw[bA,Lib.toList_data]
 have f:=mA C w p bad h;rw[AB]at f;have b:Wu (Wn Ww 163 #[aW C.pb] w λe w'=>e=bP (W1 #[Xd .u8 (aP C.ts p).c_,Q_ (bs (aP C.ts p).x_),Y (aP C.ts p).l_])/\cB w w'):=f;clear f;have m:=h;clear h;generalize aP C.ts p=t at*;have ⟨c,te,li⟩:=t;simp only at i n b;go_in;go_wp;refine rB b λj d=>?_;obtain⟨r,-,u,-,-,-⟩:=m.cells d;clear b;have a:cB w (dZ j #[Xd .u8 c,Q_ (bs te),Y li] 219):=d.alloc d.size _;by_cases g:bad=0
 .subst g;by_cases l:c=112;.subst l;go_wp2;go_ret;exact⟨gP mz,a⟩
  have s:((c:Int)==112)=Wl:=G_;by_cases k:c=107;.subst k;go_wp2;go_ret;exact⟨gP mz,a⟩
  have q:((c:Int)==107)=Wl:=G_;go_wp2;go_ret;exact⟨gP (by rw[i];grind),a⟩
 have o:((bad:Int)==0)=Wl:=G_;go_wp2;go_ret;exact⟨gP (by simp[g]),a⟩
def At.move{C:Ctx}(h:At C L K X)(d:cB L T)(q:Nat)(c:q<aA C.ts):At C (c9 T (aJ C.pb 1) (Y q)) q X/\Fr C.pb L (c9 T (aJ C.pb 1) (Y q)):=by have b:=h.below d;have ⟨cur,r1,r2⟩:=b.row;refine⟨⟨?_,⟨cur,?_,r2⟩,h.ne,c,h.len,h.cap,h.last,h.pos⟩,qc⟩;rw[aN b.n_];rfl;grind[eh,At.ne]
theorem At.Da{C:Ctx}(h:At C L K X)(c:cB L T)(q:Nat):At C (c9 T (aJ C.pb 2) (Y q)) K q/\Fr C.pb L (c9 T (aJ C.pb 2) (Y q)):=by have b:=h.below c;have ⟨cur,r1,r2⟩:=b.row;refine⟨⟨?_,⟨cur,?_,r2⟩,h.ne,h.lt,h.len,h.cap,h.last,h.pos⟩,qc⟩;rw[aN b.n_];rfl;grind[eh,At.ne]
def CH(a:Int)(b:ByteArray)(c:Int)(w:aL):(Instr.field 219 (W1 #[Xd .u8 a,Q_ b,Y c]) 2).run Ww w=.ok (Y c) w:=k_
def yH(C:Ctx)(w:aL)(p:Nat)(h:At C w p 0):Wn Ww 100 #[aW C.pb] w λe w'=>e=eV/\At C w' p (aP C.ts p).l_/\Fr C.pb w w':=by obtain⟨m,-,-,-,n,j⟩:=h.cells (dw _ w);have b:=mA C w p 0 h;rw[AB]at b;have g:=h;have a:=O b;go_in;go_wp;refine rB a λl i=>?_;obtain⟨c,-,-,-,k,d⟩:=g.cells i;have f:=CH;go_wp2;go_end0;grind[At.Da,dz]
def KX(C:Ctx)(w:aL)(p bad:Nat)(h:At C w p bad)(c:bad≠0):Wn Ww 100 #[aW C.pb] w λe w'=>e=eV/\w'=w:=by obtain⟨b,-,-,-,d,a⟩:=h.cells (dw _ w);go_in;go_wp2;go_end0;simp
def At.next{C:Ctx}{p:Nat}(h:At C L p K)(a:(aP C.ts p).c_≠101):p+1<aA C.ts:=by grind[At.last,aP]
def KT{a:List bE}(h:bX a K M=Wm):(aP a K).c_≠101:=by grind[bX]
theorem Fr.wy(h:cB L T)(k:Fr K T V):Fr K L V:=(Fr.below h).trans k
theorem Fr.tw(h:Fr K L T)(k:cB T V):Fr K L V:=h.trans (Fr.below k)
def Re(C:Ctx)(w:aL)(p:Nat)(x:ByteArray)(h:At C w p 0)(f:bX C.ts p (dL x)=Wm):Wn Ww 213 #[aW C.pb,Q_ x] w λe w'=>e=eV/\At C w' (p+1) 0/\Fr C.pb w w':=by have hp:=h.next (KT f);have b:=h.len;have g:=AS C w p 0 x h;have a:=O g;have c:=O h;go_in;go_wp;refine rB a λj d=>?_;obtain⟨k,-,-,l,m,i⟩:=c.cells d;go_wp2;go_end0;have:=c.move d (p+1) hp;grind
def Je(C:Ctx)(w:aL)(p:Nat)(x:ByteArray)(h:At C w p 0)(k:bX C.ts p (dL x)=Wl):Wn Ww 213 #[aW C.pb,Q_ x] w λe w'=>e=eV/\At C w' p (aP C.ts p).l_/\Fr C.pb w w':=by have g:=AS C w p 0 x h;have a:=O g;have d:=O h;go_in;go_wp;refine rB a λb f=>?_;have j:=O (yH C b p (d.below f));go_wp2_with fail;refine rB j λl ⟨i,c⟩=>?_;go_wp2;apply Wi (results_none i_ _ _ _) i_;grind[Fr.wy]
def Ts(C:Ctx)(w:aL)(p bad:Nat)(x:ByteArray)(h:At C w p bad)(c:bad≠0):Wn Ww 213 #[aW C.pb,Q_ x] w λe w'=>e=eV/\At C w' p bad/\Fr C.pb w w':=by have g:=AS C w p bad x h;have a:=O g;have d:=O h;go_in;go_wp;refine rB a λb f=>?_;have i:=O (KX C b p bad (d.below f) c);go_wp2_with fail;refine rB i λk j=>?_;go_wp2;apply Wi (results_none i_ _ _ _) i_;grind[At.below,Fr.below]
def Ru(C:Ctx)(w:aL)(p:Nat)(x:ByteArray)(h:At C w p 0)(c:bX C.ts p (dL x)=Wm):Wn Ww 216 #[aW C.pb,Q_ x] w λe w'=>e=bP (Xc Wm)/\At C w' (p+1) 0/\Fr C.pb w w':=by have j:=h.next (KT c);have i:=h.len;have b:=AS C w p 0 x h;rw[c]at b;have a:=O b;have g:=O h;clear h b c;go_in;go_wp;refine rB a λl d=>?_;obtain⟨n,-,-,m,o,f⟩:=g.cells d;have k:=(f 1).2;clear f a;go_wp2;go_ret;refine⟨i_,?_⟩;have:=g.move d (p+1) j;grind
def Gg(C:Ctx)(w:aL)(p bad:Nat)(x:ByteArray)(h:At C w p bad)(f:(decide (bad=0)&&bX C.ts p (dL x))=Wl):Wn Ww 216 #[aW C.pb,Q_ x] w λe w'=>e=bP (Xc Wl)/\cB w w':=by have c:=AS C w p bad x h;have a:=O c;go_in;go_wp;refine rB a λd b=>?_;go_wp2;go_ret;exact⟨i_,b⟩
def Sq(C:Ctx)(w:aL)(p:Nat)(h:At C w p 0)(i:(aP C.ts p).c_=110):Wn Ww 214 #[aW C.pb] w λe w'=>e=bP (Xa #[Q_ (bs (aP C.ts p).x_),Y (aP C.ts p).l_])/\At C w' (p+1) 0/\Fr C.pb w w':=by have j:=h.next Z;have g:=h.len;have b:=mA C w p 0 h;rw[AB,i]at b;have a:=O b;have f:=O h;clear h b i;go_in;go_wp;refine rB a λl c=>?_;obtain⟨n,m,q,-,-,d⟩:=f.cells c;have k:=(d 1).1;clear d a;go_wp21;go_quiet (fail);go_wp2;go_ret2;refine⟨i_,?_⟩;have o:=f.move c (p+1) j;grind[below_drewN,eo,dw,At.below,Fr.tw]
def Pp(C:Ctx)(w:aL)(p:Nat)(h:At C w p 0)(l:(aP C.ts p).c_≠110):Wn Ww 214 #[aW C.pb] w λe w'=>e=bP (Xa #[Q_ (bs []),Y 0])/\At C w' p (aP C.ts p).l_/\Fr C.pb w w':=by have f:=mA C w p 0 h;rw[AB]at f;have a:=O f;have g:=O h;have q:(((aP C.ts p).c_:Int) !=110)=Wm:=G_;clear h f l;go_in;go_wp;refine rB a λi b=>?_;obtain⟨n,m,s,-,-,k⟩:=g.cells b;clear k a;have j:=O (λo=>yH C (i.alloc o) p ((g.below b).below (mq)));go_wp21;refine rB (j _) λr ⟨d,c⟩=>?_;go_wp2;go_ret2;exact⟨i_,d,Fr.wy (b.alloc b.size _) c⟩
def Sv(C:Ctx)(w:aL)(p bad:Nat)(h:At C w p bad)(j:bad≠0):Wn Ww 214 #[aW C.pb] w λe w'=>e=bP (Xa #[Q_ (bs []),Y 0])/\At C w' p bad/\Fr C.pb w w':=by have g:=mA C w p bad h;rw[AB]at g;have d:=O g;have f:=O h;go_in;go_wp;refine rB d λi b=>?_;obtain⟨q,m,s,-,-,l⟩:=f.cells b;have a:=λo=>(f.below b).below ((dw _ _).alloc kB o);have k:=O (λo=>KX C (i.alloc o) p bad (a o) j);have c:=O a;go_wp21;refine rB (k _) λr n=>?_;go_wp2;go_ret2;exact⟨i_,c _,Fr.below (b.alloc b.size _)⟩
def jW(R:Wo->aC->Prop):List Wo->List aC->Prop|[],[]=>True|v::vs,a::ks=>R v a/\jW R vs ks|_,_=>False
theorem jW.mono{R S:Wo->aC->Prop}(h:∀v a,R v a->S v a):∀{vs b},jW R vs b->jW S vs b|[],[],_=>trivial|_::_,_::_,⟨d,c⟩=>⟨h _ _ d,jW.mono h c⟩|[],_::_,h=>h.elim|_::_,[],h=>h.elim
def jW.length{R:Wo->aC->Prop}:∀{vs ks},jW R vs ks->aA vs=aA ks|[],[],_=>rfl|_::vs,_::ks,⟨_,a⟩=>by simp[jW.length a]|[],_::_,h=>h.elim|_::_,[],h=>h.elim
def jW.snoc{R:Wo->aC->Prop}:∀{b c}{v a},jW R b c->R v a->jW R (b++[v]) (c++[a])|[],[],_,_,_,h=>⟨h,trivial⟩|_::_,_::_,_,_,⟨e,d⟩,h=>⟨e,jW.snoc d h⟩|[],_::_,_,_,h,_=>h.elim|_::_,[],_,_,h,_=>h.elim
def nQ(R:Wo->aC->Prop)(F:bI)(w:aL)(kv:aU)(ks:List aC):Prop:=(kv=bR/\ks=[])\/∃g cap cur vs,kv=Wz (Wj (aJ g 0)) (aA ks) cap/\F g/\w.heap[g]?=Wj (Xe cur 63)/\aA ks<=cap/\cur.toList.take (aA ks)=vs/\jW R vs ks
def eW:Nat->(Nat->Prop)->World->Wo->aC->Prop|0,_,_,_,_=>False|d+1,F,w,v,a=>∃b kv,v=aW b/\F b/\w.heap[b]?=Wj (Xe #[WD (bs a.op),Y a.l_,WD (bs a.x_),kv] 120)/\nQ (eW d F w) F w kv a.y_
def vb(F:bI)(w:aL)(v:aU)(a:aC):Prop:=∃d,eW d F w v a
def VA(Y_:a:=by rcases h with h|⟨g,cap,cur,vs,h1,h2,h3,h4,h5,h6⟩;exact ea h;exact dv ⟨g,cap,cur,vs,h1,hF _ h2,h3,h4,h5,h6.mono hR⟩):a:=Y_
def nQ.mono{R S:Wo->aC->Prop}{F G:bI}{w:aL}{d:aU}{c:List aC}(h:nQ R F w d c)(hR:∀v a,R v a->S v a)(hF:∀b,F b->G b):nQ S G w d c:=by exact VA
theorem eW.mono{F G:bI}{w:aL}(c:∀b,F b->G b):∀{d e:Nat}{v a},eW d F w v a->d<=e->eW e G w v a|d+1,e+1,v,a,⟨b,f,k,i,l,j⟩,g=>⟨b,f,k,c _ i,l,j.mono (λ_ _ h=>eW.mono c h Z) c⟩|0,_,_,_,h,_=>h.elim
theorem eW.j_{F:bI}{w w':aL}(k:∀b,F b->w'.heap[b]?=w.heap[b]?):∀{d:Nat}{v a},eW d F w v a->eW d F w' v a|d+1,v,a,⟨b,p,m,j,t,c⟩=>by refine⟨b,p,m,j,G_,?_⟩;rcases c with c|⟨g,e,f,l,i,q,s,r,n,o⟩;exact ea c;exact dv ⟨g,e,f,l,i,q,G_,r,n,o.mono λ_ _ h=>eW.j_ k h⟩
theorem vb.mono{F G:bI}{w:aL}{v:aU}{a:aC}(h:vb F w v a)(c:∀b,F b->G b):vb G w v a:=by have ⟨d,h⟩:=h;exact⟨d,h.mono c (Z)⟩
theorem vb.j_{F:bI}{w w':aL}{v:aU}{a:aC}(h:vb F w v a)(c:∀b,F b->w'.heap[b]?=w.heap[b]?):vb F w' v a:=by have ⟨d,h⟩:=h;exact⟨d,h.j_ c⟩
def vb.ptr(h:vb Q L N D):∃b,N=aW b:=by have ⟨d,h⟩:=h;cases d with|zero=>exact h.elim|succ d=>grind[eW]
def jW.depth:∀{a b},jW (vb Q L) a b->∃d,jW (eW d Q L) a b|[],[],_=>⟨0,trivial⟩|_::_,_::_,⟨⟨d,f⟩,c⟩=>by obtain⟨e,g⟩:=jW.depth c;exact⟨max d e,(by grind[eW.mono]),(by grind[jW.mono,eW.mono])⟩|[],_::_,h=>h.elim|_::_,[],h=>h.elim
def ye(F:bI)(w:aL)(kv:aU)(ks:List aC):Prop:=nQ (vb F w) F w kv ks
def ye.depth(h:ye Q L N R):∃d,nQ (eW d Q L) Q L N R:=by rcases h with h|⟨g,b,a,i,l,j,n,k,m,f⟩;exact⟨0,ea h⟩;have ⟨d,h7⟩:=f.depth;exact⟨d,dv ⟨g,b,a,i,l,j,n,k,m,h7⟩⟩
def vb.mk{kv:aU}(e:Q K)(h:L.heap[K]?=Wj (bM #[Q_ (bs D.op),Y D.l_,Q_ (bs D.x_),kv] 120))(c:ye Q L kv D.y_):vb Q L (aW K) D:=by have ⟨d,hd⟩:=c.depth;exact⟨d+1,K,kv,i_,e,h,hd⟩
theorem ye.mono{F G:bI}{w:aL}{c:aU}{a:List aC}(h:ye F w c a)(d:∀b,F b->G b):ye G w c a:=nQ.mono h (λ_ _ h=>h.mono d) d
theorem ye.j_{F:bI}{w w':aL}{d:List aC}(h:ye F w N d)(i:∀b,F b->w'.heap[b]?=w.heap[b]?):ye F w' N d:=by rcases h with h|⟨g,c,a,k,f,j,o,m,n,l⟩;exact ea h;exact dv ⟨g,c,a,k,f,j,G_,m,n,l.mono λ_ _ h=>h.j_ i⟩
def si(lo hi:Nat)(b:Nat):Prop:=lo<=b/\b<hi
def lH(C:Ctx)(w:aL):Except Nat Nat->Prop|.ok q=>At C w q 0|.error l=>l≠0/\∃q,At C w q l
def nJ{α:Type}:bN α->Except Nat Nat|.ok (_,q)=>.ok q|.error l=>.error l
def fE{α:Type}(S:Except Nat Nat)(X:Nat->bN α):bN α:=match S with|.ok q=>X q|.error l=>.error l
def sQ(C:Ctx)(S:Except Nat Nat)(x:bS):Bool:=match S with|.ok q=>bX C.ts q x|.error _=>Wl
def uX(C:Ctx)(S:Except Nat Nat)(x:bS):Except Nat Nat:=match S with|.ok q=>if bX C.ts q x then .ok (q+1)else .ok q|.error l=>.error l
def fQ(C:Ctx)(S:Except Nat Nat)(x:bS):Except Nat Nat:=match S with|.ok q=>if bX C.ts q x then .ok (q+1)else .error (aP C.ts q).l_|.error l=>.error l
def nT(C:Ctx)(S:Except Nat Nat):Except Nat Nat:=match S with|.ok q=>if (aP C.ts q).c_==110 then .ok (q+1)else .error (aP C.ts q).l_|.error l=>.error l
def nK(C:Ctx)(S:Except Nat Nat):bS:=match S with|.ok q=>if (aP C.ts q).c_==110 then (aP C.ts q).x_ else []|.error _=>[]
def pE(C:Ctx)(S:Except Nat Nat):Nat:=match S with|.ok q=>if (aP C.ts q).c_==110 then (aP C.ts q).l_ else 0|.error _=>0
theorem lH.below{C:Ctx}{a:aL}{S:Except Nat Nat}(h:lH C L S)(b:cB L a):lH C a S:=by cases S with|ok q=>exact At.below h b|error l=>have ⟨h0,q,h1⟩:=h;exact⟨h0,q,h1.below b⟩
def Uu(C:Ctx)(q:Nat)(x:bS):sQ C (.ok q) x=bX C.ts q x:=rfl
theorem nB{C:Ctx}{x:bS}(h:bX C.ts K x=Wm):fQ C (.ok K) x=.ok (K+1):=by grind[fQ]
theorem wF{C:Ctx}(h:bX C.ts K M=Wl):fQ C (.ok K) M=.error (aP C.ts K).l_:=by unfold fQ;simp[h]
def CN{C:Ctx}(h:bX C.ts K M=Wm):uX C (.ok K) M=.ok (K+1):=by grind[uX]
def CO{C:Ctx}(h:bX C.ts K M=Wl):uX C (.ok K) M=.ok K:=by unfold uX;simp[h]
def PY{C:Ctx}(h:(aP C.ts K).c_=110):nT C (.ok K)=.ok (K+1)/\nK C (.ok K)=(aP C.ts K).x_/\pE C (.ok K)=(aP C.ts K).l_:=by unfold nT nK pE;simp[h]
def KH{C:Ctx}(h:(aP C.ts K).c_≠110):nT C (.ok K)=.error (aP C.ts K).l_/\nK C (.ok K)=[]/\pE C (.ok K)=0:=by grind[nT,nK,pE]
def Cn(C:Ctx)(w:aL)(S:Except Nat Nat)(x:ByteArray)(h:lH C w S):Wn Ww 215 #[aW C.pb,Q_ x] w λe w'=>e=bP (Xc (sQ C S (dL x)))/\cB w w':=by cases S with|ok q=>have:=AS C w q 0 x h;exact this|error l=>have ⟨h0,q,h1⟩:=h;have:=AS C w q l x h1;rw[gi h0]at this;exact this
def AD(C:Ctx)(w:aL)(S:Except Nat Nat)(x:ByteArray)(h:lH C w S):Wn Ww 213 #[aW C.pb,WD x] w λe w'=>e=eV/\lH C w' (fQ C S x.data.toList)/\Fr C.pb w w':=by cases S with|ok q=>have h':=h;cases a:bX C.ts q x.data.toList;rw[wF a];exact(Je C w q x h' a).mono (by grind[At.pos,At.lt,lH]);rw[nB a];exact Re C w q x h' a|error l=>have ⟨h0,q,h1⟩:=h;exact(Ts C w q l x h1 h0).mono (by grind[lH,fQ])
def Er(C:Ctx)(w:aL)(S:Except Nat Nat)(x:ByteArray)(h:lH C w S):Wn Ww 216 #[aW C.pb,Q_ x] w λe w'=>e=bP (Xc (sQ C S (dL x)))/\lH C w' (uX C S (dL x))/\Fr C.pb w w':=by cases S with|ok q=>have h':=h;rw[Uu];cases a:bX C.ts q (dL x);rw[CO a];exact(Gg C w q 0 x h' G_).mono (by grind[lH.below,Fr.below]);rw[CN a];exact Ru C w q x h' a|error l=>have ⟨h0,q,h1⟩:=h;exact(Gg C w q l x h1 G_).mono λe w' ⟨c,b⟩=>⟨c,⟨h0,q,h1.below b⟩,Fr.below b⟩
def Ft(C:Ctx)(w:aL)(S:Except Nat Nat)(h:lH C w S):Wn Ww 214 #[aW C.pb] w λe w'=>e=bP (Xa #[Q_ (bs (nK C S)),Y (pE C S)])/\lH C w' (nT C S)/\Fr C.pb w w':=by cases S with|ok q=>have h':=h;by_cases a:(aP C.ts q).c_=110;have ⟨e1,e2,e3⟩:=PY a;rw[e1,e2,e3];exact Sq C w q h' a;have ⟨e1,e2,e3⟩:=KH a;exact(Pp C w q h' a).mono (by grind[At.pos,At.lt,lH])|error l=>have ⟨h0,q,h1⟩:=h;exact(Sv C w q l h1 h0).mono (by grind[nK,pE,lH,nT])
def K7(C:Ctx)(w:aL)(S:Except Nat Nat)(h:lH C w S):Wn Ww 163 #[aW C.pb] w λe w'=>(∃t,e=bP (W1 #[Xd .u8 (bE.c_ t),Q_ (bs t.x_),Y t.l_])/\∀q,S=.ok q->t=aP C.ts q)/\cB w w':=by cases S with|ok q=>exact(mA C w q 0 h).mono (by grind[AB])|error l=>have ⟨h0,q,h1⟩:=h;exact(mA C w q l h1).mono (by grind[AB])
def eH(C:Ctx)(w:aL)(r:bN aC)(e:Wq)(w':aL):Prop:=Fr C.pb w w'/\lH C w' (nJ r)/\∃b,e=bP (aW b)/\∀a q,r=.ok (a,q)->vb (si w.heap.size w'.heap.size) w' (aW b) a
def xU(C:Ctx)(w:aL)(r:bN (List aC))(e:Wq)(w':aL):Prop:=Fr C.pb w w'/\lH C w' (nJ r)/\∃x n c,e=bP (Wz x n c)/\∀ks q,r=.ok (ks,q)->ye (si w.heap.size w'.heap.size) w' (Wz x n c) ks
def Reads(C:Ctx)(f:Nat)(X:Nat->bN aC):Prop:=∀(w:aL) (S:Except Nat Nat),lH C w S->fE S X≠.error 0->Wn Ww f #[aW C.pb] w (eH C w (fE S X))
def i8:(prog.info? 63).map (λi=>(i.zero,i.size,i.bytes))=Wj (Wj (.pointer none),1,8):=k_
def xd(b_:Nat)(w:aL)(v:aU)(acc:List aC):Prop:=∃vs F,w.ownsRow b_ 63 1 v (aA acc) vs/\jW (vb F w) vs acc/\∀b,F b->b_<=b/\b<w.heap.size/\v.ownBlock≠Wj b
theorem xd.nil(a:Nat)(w:aL):xd a w (bR) []:=⟨[],λ_=>False,World.ownsRow_nil _ _ _ _,trivial,s_⟩
theorem aX{w1:aL}{j:List Wo}(h:L.ownsRow K e X N U j)(m:∀k,N.ownBlock=Wj k->w1.heap[k]?=L.heap[k]?):w1.ownsRow K e X N U j:=by refine⟨h.1,?_⟩;rcases h.2 with f|⟨g,d,c,i,f,o,l⟩;grind;refine dv ⟨g,d,c,i,f,?_,l⟩;rw[m g (by rw[i];rfl)];exact o
theorem dT(h:L.ownsRow K e X N U P):∀k,N.ownBlock=Wj k->k<H_ L:=by intro k c;rcases h.2 with ⟨rfl,_⟩|⟨g,i,d,rfl,j,l,_⟩;cases c;have :=fm c;grind
def Y8(Y_:a:=by obtain⟨vs,F,h1,h2,h3⟩:=h;refine⟨vs,F,aX h1 λk hk=>?_,h2.mono λ_ _ h=>h.j_ λb hb=>?_,λb hb=>?_⟩;grind[cA,Fr.block,dT];have:=hf.size;grind;grind[Fr.block]):a:=Y_
theorem xd.j_{a d:Nat}{w:aL}{v:aU}{b:List aC}(h:xd a w v b)(hf:Fr d w L)(e:d<a):xd a L v b:=by exact Y8
def xd.snoc{b_ lo:Nat}{m:List Wo}(r:jW (vb Q L) m R)(B:∀b,Q b->b_<=b/\b<L.heap.size/\N.ownBlock≠Wj b) (z:vb (si lo L.heap.size) L S D) (A:b_<=lo) (q:∀k,N.ownBlock=Wj k->k<lo) (y:∀k,k<L.heap.size->T.heap[k]?=L.heap[k]?) (x:L.heap.size<=T.heap.size) (p:V.ownsRow b_ 63 1 (Wz (Wj (aJ K 0)) (aA R+1) X) (aA R+1) (m++[S])) (f:T.grownBy V N.ownBlock) (t:N.ownBlock=Wj K\/L.heap.size<=K):xd b_ V (Wz (Wj (aJ K 0)) (aA R+1) X) (R++[D]):=by
 have u:∀b,(Q b\/si lo L.heap.size b)->b_<=b/\b<L.heap.size/\N.ownBlock≠Wj b:=by grind[si]
 have d:∀b,(Q b\/si lo L.heap.size b)->V.heap[b]?=L.heap[b]?:=(by grind[World.grownBy.block]);refine⟨m++[S],λb=>Q b\/si lo L.heap.size b,?_,?_,?_⟩;grind;exact jW.snoc (r.mono λ_ _ h=>(h.mono (G_)).j_ d) ((z.mono (G_)).j_ d);intro b s;have n:=u b s;have:=f.size;refine⟨n.1,Z,λe=>?_⟩;have e':=fm e;grind
theorem xd.uu(h:xd K L N R):ye (si K L.heap.size) L N R:=by have ⟨vs,F,h1,h2,h3⟩:=h;rcases h1.2 with ⟨f,e⟩|⟨g,d,c,f,e,j,i,m,k,l⟩;exact ea G_;exact dv ⟨g,d,c,vs,f,⟨e,G_⟩,j,i,G_,(by grind[jW.mono,vb.mono,si])⟩
def Fr.grown(h:Fr K L T)(c:T.grownBy V j)(i:∀k,j=Wj k->H_ L<=k):Fr K L V:=⟨c.os.trans h.os,c.tape.trans h.tape,c.output.trans h.output,em h.size c.size,λk d g=>by rw[c.block k (ef d h.size) (G_)];exact h.block k d g⟩
theorem At.grown{C:Ctx}{b_:Nat}(h:At C L K X)(g:L.grownBy T j)(e:∀k,j=Wj k->b_<=k)(d:C.pb<b_)(c:C.g<b_):At C T K X:=by have ⟨cur,h1,h2⟩:=h.row;have f:∀k,k<H_ L->k<b_->T.heap[k]?=L.heap[k]?:=(by grind[World.grownBy.block]);exact⟨by grind[At.n_],G_,h.ne,h.lt,h.len,h.cap,h.last,h.pos⟩
def lH.grown{C:Ctx}{b_:Nat}(h:lH C L F)(f:L.grownBy T j)(e:∀k,j=Wj k->b_<=k)(d:C.pb<b_)(b:C.g<b_):lH C T F:=by cases F with|ok q=>grind[At.grown,lH]|error l=>have ⟨h0,q,h1⟩:=h;exact⟨h0,q,h1.grown f e d b⟩
theorem lH.facts{C:Ctx}{S:Except Nat Nat}(h:lH C L S):C.pb<L.heap.size/\C.g<L.heap.size/\aA C.ts<=3000:=by
 have a:∀q l,At C L q l->C.pb<L.heap.size/\C.g<L.heap.size/\aA C.ts<=3000:=λq l h=>by have ⟨cur,h1,_⟩:=h.row;exact⟨aH h.n_,G_,h.len⟩
 cases S with|ok q=>exact a q 0 h|error l=>grind[lH]
theorem lH.alloc{C:Ctx}{w:aL}{S:Except Nat Nat}(h:lH C w S)(o:Obj):lH C (w.alloc o) S:=(by grind[lH.below,eo,dw])
def lH.bad{C:Ctx}(h:lH C L (.error K)):C.pb<L.heap.size/\∃c:Int,(c==0)=Wl/\i9 L (aJ C.pb 2)=Wj (Y c):=by have ⟨h0,q,h1⟩:=h;exact⟨aH h1.n_,(K:Int),G_,aB h1.n_ rfl⟩
def At.wm{C:Ctx}(h:At C L K 0):C.pb<L.heap.size/\i9 L (aJ C.pb 2)=Wj (Y 0):=⟨aH h.n_,aB h.n_ rfl⟩
def I2(C:Ctx)(E:Nat->bN aC)(w:aL)(r:bN (List aC))(k:Nat)(v more:aU)(wr:aL):Prop:=Fr C.pb w wr/\((∃q acc,more=Xc Wm/\At C wr q 0/\r=fG E C.ts k q acc/\aA acc+k<=4000/\xd w.heap.size wr v acc)\/(∃b x n c,more=Xc b/\v=Wz x n c/\(b=Wm->∃l,r=.error l)/\lH C wr (nJ r)/\∀acc q,r=.ok (acc,q)->xd w.heap.size wr v acc))
def xd.slice{w:aL}{v:aU}{b:List aC}(h:xd K w v b):∃x n c,v=Wz x n c:=by have ⟨vs,F,h1,_⟩:=h;rcases h1.2 with ⟨rfl,_⟩|⟨g,e,d,rfl,_⟩;simp;simp
theorem IZ(C:Ctx)(x:bS)(r:bN g):fQ C (nJ r) x=nJ (aQ C.ts x r):=by cases r with|error l=>rfl|ok b=>grind[nJ,Hs.bad,wF,nB,aQ]
theorem EU{C:Ctx}{r:bN g}{a:g}(h:aQ C.ts M r=.ok (a,K)):∃c,r=.ok (a,c):=by cases r with|error l=>cases h|ok d=>grind[aQ,Hs.bad]
def KN{C:Ctx}{w2:aL}{a r:bN (List aC)}(k:r=aQ C.ts M a)(j:Fr C.pb L w2)(i:lH C T (fQ C (nJ a) M))(h:Fr C.pb w2 T) (d:∀acc q,a=.ok (acc,q)->xd (H_ L) w2 (P_ x K X) acc) (g:C.pb<H_ L):xU C L r (bP (P_ x K X)) T:=by grind[Fr.trans,IZ,EU,xd.uu,xd.j_,xU]
def Rk(C:Ctx)(E:Nat->bN aC)(HE:Reads C 99 E)(w:aL)(S:Except Nat Nat)(x y:ByteArray)(h:lH C w S)(A r:bN (List aC))
 (h0:Wu (A=fE (fQ C S (dL x)) λq=>gL E C.ts q (dL y))) (h1:Wu (r=aQ C.ts (dL y) A)) (hr:A≠.error 0):
 Wn Ww 284 #[aW C.pb,Q_ x,Q_ y] w (xU C w r):=by
 have ⟨i0,hi,hz0,hz1,hz2⟩:=info_parts i8;have ⟨hpb,hgb,hlen⟩:=h.facts;have HT:=O (AD C w S x h);have ad:=O HE;have D:=O hr;generalize fQ C S (dL x)=M at*;go_in
 go_wp
 refine rB HT λw1 ⟨T,ae⟩=>?_
 have HI:=O (Cn C w1 M y T);have HA:=O T;have HF:=O ae;go_wp2_with fail;refine rB HI λw2 hb=>?_
 have J:=O (HA.below hb);have V:=O (HF.tw hb);cases z:sQ C M (dL y)
 .have HB:=O z;go_wp2
  go_loopg [7,8] (aA C.ts+1) (λk v n wr=>I2 C E w A k v n wr)
  case atStart=>
   refine⟨V,?_⟩;cases M with
   |ok q=>
    grind [dz,xd.nil,gL,lH,fE,sQ]
   |error l=>
    have e :=h0.out;exact dv ⟨Wm,none,0,0,i_,i_,λ_=>⟨l,e⟩,by rw[e];exact J,(by grind [fE])⟩
  case round=>
   have ⟨hf0,hrel⟩:=hrel;have s:=O hf0;have L:=hf0.size;rcases hrel with ⟨q,t,rfl,hq,o,ak,P⟩|⟨b,x1,n1,c1,rfl,rfl,W,hS,N⟩
   ·-- one expression n
    obtain⟨k,rfl⟩:∃k,gk=k+1:=by
     cases gk with
     |zero=>exact ep o D
     |succ k=>simp
    have ⟨hl1,hc2⟩:=hq.wm
    have hEq :=λe=>D (by rw[o,fG];rw[show E q=.error 0 from e])
    have HC:=O (ad wr (.ok q) hq hEq);have am:=O o;have HL:=O P;obtain⟨x1,n1,c1,rfl⟩:=P.slice;go_wp
    apply HC.mono
    rintro e G ⟨d,f,b3,rfl,I⟩;have ⟨vs,F,hown,hall,hF⟩:=HL.j_ d hpb;have ai:=d.size;have Q:=O d;have H:=O f;have HREP:=O I;have HALL:=O (du hall hF)
    have ag:∀g,(Value.slice x1 n1 c1).ownBlock=Wj g->g<H_ wr:=by grind [dT,xd]
    have X:=O ag;go_wp2_with (at_builtin;refine wpList_append_lies _ r_ _ _ 118 r_ (H_ w) 63 i0 _ 1 8 underlying118 hi hz0 hz1 hz2 rfl d_ _ _ _ r_ (hown.alloc _) (aJ (H_ G) 0) 1 1 [aW b3] r_ r_ ?c1 ?c2 d_ ?c3 ?c4 ?c5 (H_ G+1) s_ ?_)
    case c1=>
     intro j u B;match j,B with
     |0,B=>simp at B;subst B;simp[Addr.add,go_sem]
     |j+1,B=>simp at B
    case c2=>intro u hu;simp at hu;subst hu;rfl
    case c3=>unfold maxLen;exact Z
    case c4=>exact Z
    case c5=>simp;exact Z
    intro g af w4 p i ah ao;have hge :=cA hown;have ab:=O ((H.alloc _).grown i hge hpb hgb);have ac:=O (((s.trans Q).alloc _).grown i hge)
    have al:Wu (∀a q1,E q=.ok (a,q1)->xd (H_ w) w4 (P_ (Wj (aJ g 0)) (aA t+1) af) (t++[a])):=λa q1 ha=>
     xd.snoc (lo:=H_ wr) HALL.1 HALL.2 (HREP a q1 ha) L X (λk hk=>ed _ _ _ hk) s_ p i (G_)
    have HX:=O (Er C w4 _ ⟨#[44]⟩ ab);go_wp
    refine rB HX λw5 ⟨aj,K⟩=>?_
    go_wp2
    go_roundg k
    case measure=>exact Z
    case rel=>
     have hbig :=ac.trans K;refine⟨hbig,?_⟩;grind [dz,fG,fE,xd.j_,nJ,sQ,lH,uX]
   have HROW:=O N;have m:=O (AD C wr (nJ A) y hS);cases b
   .go_wp
    refine rB m λG ⟨f,d⟩=>?_
    go_wp2
    go_ret;exact KN h1 s f d HROW hpb
   have ⟨l,hl⟩:=W rfl;have U:=hS;rw[hl]at U;have ⟨hl1,c,hc0,hc2⟩:=lH.bad U;go_wp
   refine rB m λG ⟨f,d⟩=>?_
   go_wp2
   go_ret;exact KN h1 s f d HROW hpb
 obtain⟨q,rfl,hq⟩:∃q,M=.ok q/\bX C.ts q (dL y)=Wm:=by
  cases M with
  |ok q=>exact⟨q,i_,z⟩
  |error l=>cases z
 have m:=O (AD C w2 (.ok q) y J)
 have e0:A=.ok ([],q):=by grind [dz,gL,fE]
 have aa:=O e0;go_wp21
 refine rB m λG ⟨f,d⟩=>?_
 go_wp2
 go_ret;refine KN (w2:=w2) h1 V (by rw[aa];exact f) d (λt q' an=>?_) hpb
 grind [xd.nil]
def P3(C:Ctx)(E:Nat->bN aC)(c:Reads C 99 E)(w:aL)(S:Except Nat Nat)(x y:ByteArray)(h:lH C w S)(a:fE S (λq=>fU E C.ts q x.data.toList y.data.toList)≠.error 0):Wn Ww 284 #[aW C.pb,WD x,WD y] w (xU C w (fE S λq=>fU E C.ts q x.data.toList y.data.toList)):=by
 have e:fE S (λq=>fU E C.ts q x.data.toList y.data.toList)=aQ C.ts y.data.toList (fE (fQ C S x.data.toList) λq=>gL E C.ts q y.data.toList):=by cases S with|ok q=>grind[fU,aQ,Hs.bad,fE,fQ]|error l=>rfl
 refine Rk C E c w S x y h _ _ i_ e λb=>a ?_;rw[e,b];rfl
theorem Fr.cells{w:aL}(h:Fr K w L){b:Nat}(d:b<w.heap.size)(f:b≠K):(∀i,i9 L (aJ b i)=i9 w (aJ b i))/\(∀i,L.frozen? (aJ b i)=w.frozen? (aJ b i)):=⟨λi=>World.cell?_of_block (a:=(aJ b i)) (h.block b d f),λi=>World.frozen?_of_block (a:=(aJ b i)) (h.block b d f)⟩
def uR{c a:aU}(h:L.heap[K]?=Wj (bM #[N,S,c,a] 120)):K<H_ L/\eJ L K 0 N/\eJ L K 1 S/\eJ L K 2 c/\eJ L K 3 a/\L.frozen? (aJ K 0)=Wl/\L.frozen? (aJ K 2)=Wl/\L.frozen? (aJ K 3)=Wl:=(by grind[aB,aE])
def At.two{C:Ctx}{w:aL}(h:At C w K X):C.pb<H_ w/\(∀b a,eJ ((w.alloc b).alloc a) C.pb 1 (Y K))/\(∀b a,eJ ((w.alloc b).alloc a) C.pb 2 (Y X))/\(∀b a,((w.alloc b).alloc a).frozen? (aJ C.pb 1)=Wl):=by have c:∀b a,At C ((w.alloc b).alloc a) K X:=λb a=>(h.below (mq)).below ((dw _ _).alloc kB a);exact⟨aH h.n_,λb a=>aB (c b a).n_ i_,λb a=>aB (c b a).n_ i_,λb a=>aE (c b a).n_⟩
theorem Below.two{w:aL}(b a:Obj):cB w ((w.alloc b).alloc a):=((dw _ _).alloc (Z) b).alloc s_ a
theorem aS(X:aL)(n:Nat)(b:n=X.heap.size)(a:Obj):(X.alloc a).heap[n]?=Wj a:=by subst b;show (X.heap.push a)[X.heap.size]?=_;simp
def xJ(X:aL)(n:Nat)(c:n=H_ X+1)(b a:Obj):((X.alloc b).alloc a).heap[n]?=Wj a:=(by grind[World.alloc])
def iA(X:aL)(n:Nat)(a:n<H_ X)(o:Obj){b:Option Obj}(h:X.heap[n]?=b):(X.alloc o).heap[n]?=b:=by grind[ed]
def Below.three(c b a:Obj):cB L (((L.alloc c).alloc b).alloc a):=(Below.two c b).alloc ku a
def At.step{C:Ctx}(h:At C L K X)(c:cB L T)(b:K+1<aA C.ts):At C (c9 T (aJ C.pb 1) (Y ((K:Int)+1))) (K+1) X/\Fr C.pb L (c9 T (aJ C.pb 1) (Y ((K:Int)+1))):=by have d:=h.move c (K+1) b;grind
theorem WH(w:aL)(a:Addr)(v:aU):(w.setCell a v).heap.size=H_ w:=s_
def Ld(a:aL)(d c:Obj)(b:UInt8):(convert 192 9 (P_ (Wj (aJ (H_ a+1+1) 0)) 1 1)).run Ww (dZ ((a.alloc d).alloc c) #[Xd .u8 b.toNat] 5)=.ok (Q_ (bs [b])) (dZ ((a.alloc d).alloc c) #[Xd .u8 b.toNat] 5):=by refine run_convert_bytes_back (P:=Ww) _ 192 9 5 (aJ (H_ a+1+1) 0) 1 [b] underlying192 underlying5 underlying9 λj e=>?_;obtain rfl:j=0:=G_;simp[go_sem]
def Uq{C:Ctx}{b q:Nat}(g:Fr C.pb L T)(f:At C T q 0)(h:H_ L<=b)(i:D.y_=[]) (c:T.heap[b]?=Wj (bM #[Q_ (bs D.op),Y D.l_,Q_ (bs D.x_),bR] 120)):eH C L (.ok (D,q)) (bP (aW b)) T:=⟨g,f,b,rfl,λj k e=>by cases e;exact vb.mk ⟨h,G_⟩ c (ea G_)⟩
theorem iO{w w':aL}{i:Nat}(h:w'.heap[K]?=w.heap[K]?):i9 w' (aJ K i)=i9 w ⟨K,i,none⟩:=by simp[World.cell?,h]
def At.other{C:Ctx}(h:At C L K X){b:Nat}(c:b≠C.pb)(a:b≠C.g)(v:aU):At C (c9 L (aJ b U) v) K X:=by have ⟨cur,r1,r2⟩:=h.row;exact⟨by grind[eh,At.n_],np,h.ne,h.lt,h.len,h.cap,h.last,h.pos⟩
theorem lH.other{C:Ctx}(h:lH C L F){b:Nat}(c:b≠C.pb)(a:b≠C.g)(v:aU):lH C (c9 L (aJ b K) v) F:=by cases F with|ok q=>exact At.other h c a v|error l=>have ⟨h0,q,hq⟩:=h;exact⟨h0,q,hq.other c a v⟩
def lH.Be{C:Ctx}(h:lH C L F)(a:H_ L<=K):K≠C.pb/\K≠C.g:=by have:=h.facts;exact Z
theorem eH.take{C:Ctx}{x:bS}{e:Wq}(h:eH C L r e T)(f:Fr C.pb T V)(l:lH C V (fQ C (nJ r) x))(i:C.pb<L.heap.size):eH C L (aQ C.ts x r) e V:=by have ⟨h1,h2,b,h3,h4⟩:=h;refine⟨h1.trans f,by grind[IZ],b,h3,λa q j=>?_⟩;have ⟨q',hq'⟩:=EU j;exact((h4 a q' hq').j_ (by grind[Fr.block,si])).mono λk g=>⟨g.1,by have:=g.2;have:=f.size;exact Z⟩
def eH.later{C:Ctx}{e:Wq}(d:Fr C.pb L T)(h:eH C T r e V):eH C L r e V:=by have ⟨h1,h2,b,h3,h4⟩:=h;exact⟨d.trans h1,h2,b,h3,λa q i=>(h4 a q i).mono λk f=>⟨by have:=f.1;have:=d.size;exact Z,f.2⟩⟩
structure Made(nb:Nat)(w:aL)(op te:bS)(li:Nat)(v:aU)(acc:List aC):Prop where
 n_:w.heap[nb]?=Wj (Xe #[WD (bs op),Y li,WD (bs te),v] 120)
 vw:xd (nb+1) w v acc
theorem Made.j_{b i:Nat}{w d:aL}{v:aU}{a:List aC}(h:Made b w M W K v a)(g:Fr i w d)(j:i<b):Made b d M W K v a:=⟨by rw[g.block b (aH h.n_) Z];exact h.n_,h.vw.j_ g Z⟩
def Made.Ls(h:Made K L M W U N R)(b:X<=K):vb (si X (H_ L)) L (aW K) (aV M U W R):=vb.mk ⟨b,aH h.n_⟩ h.n_ (h.vw.uu.mono qi)
def Made.snoc{l:aL}{g f:Nat}(h:Made K L M W U N R)(J:Fr X L T)(I:X<K) (C:jW (vb Q T) P R) (E:∀b,Q b->K+1<=b/\b<T.heap.size/\N.ownBlock≠Wj b) (s:∀k,k<T.heap.size->V.heap[k]?=T.heap[k]?) (p:T.heap.size<=V.heap.size) (m:l.ownsRow (K+1) 63 1 (Wz (Wj (aJ g 0)) (aA R+1) f) (aA R+1) (P++[S])) (j:V.grownBy l N.ownBlock) (o:N.ownBlock=Wj g\/T.heap.size<=g) (a:aC) (D:vb (si L.heap.size T.heap.size) T S a):Made K (c9 l (aJ K 3) (Wz (Wj (aJ g 0)) (aA R+1) f)) M W U (Wz (Wj (aJ g 0)) (aA R+1) f) (R++[a]):=by
 have H:=aH h.n_;have ⟨vs0,F0,ho0,_,_⟩:=h.vw;have B:=cA ho0;have n:=dT ho0;have i:l.heap[K]?=Wj (Xe #[WD (bs M),Y U,WD (bs W),N] 120):=by grind[World.grownBy.block,Fr.block,Made.n_]
 have u:=xd.snoc (lo:=L.heap.size) C E D Z n s p m j o;refine⟨by rw[aN i];rfl,?_⟩;have ⟨us,G,k1,k2,k3⟩:=u;have A:∀k,K+1<=k->(c9 l (aJ K 3) (Wz (Wj (aJ g 0)) (aA R+1) f)).heap[k]?=l.heap[k]?:=(by grind[eh]);exact⟨us,G,(by grind[aX,cA]),(by grind[jW.mono,vb.j_]),G_⟩
def IF(Y_:a:=by intro j u hj;match j,hj with|0,hj=>simp at hj;subst hj;simp[Addr.add]|j+1,hj=>simp at hj):a:=Y_
def Tm(w:aL)(b:Nat):∀j u,([aW b]:List Wo)[j]?=Wj u->i9 (dZ w #[aW b] 63) ((⟨H_ w,0,none⟩:Addr).add j)=Wj u:=by exact IF
def Il(b:Nat):∀u∈([aW b]:List Wo),u.oneCell'=Wm:=by intro u a;simp at a;subst a;rfl
def M5{o:Obj}{g v f:aU}(k:L.heap[K]?=Wj (bM #[N,S,g,v] 120))(a:L.ownsRow (K+1) 63 1 f X P)(m:(L.alloc o).grownBy T f.ownBlock):T.heap[K]?=Wj (bM #[N,S,g,v] 120):=by have d:=aH k;rw[m.block K ku λe=>by have:=cA a K e.symm;exact Z];exact iA _ _ d _ k
def XF{o:List Wo}(h:L.ownsRow K e X N U P)(k:L.ownsRow K e X N G o):U=G/\P=o:=by rcases h.2 with ⟨rfl,rfl⟩|⟨g,f,i,rfl,q,B,t,x,C,u⟩;rcases k.2 with ⟨_,rfl⟩|⟨g,f,i,d,_⟩;exact⟨i_,by have a:=h.1;have K:=k.1;grind⟩;grind;rcases k.2 with ⟨d,_⟩|⟨z,j,p,d,D,s,E,y,A,r⟩;cases d;grind
structure Part(nb:Nat)(w:aL)(op te:bS)(li:Nat)(v:aU)(len:Nat):Prop where
 n_:w.heap[nb]?=Wj (Xe #[WD (bs op),Y li,WD (bs te),v] 120)
 own:∃vs,w.ownsRow (nb+1) 63 1 v len vs
def Part.j_{b j:Nat}{w d:aL}{v:aU}{a:Nat}(h:Part b w M W K v a)(g:Fr j w d)(l:j<b):Part b d M W K v a:=by have ⟨vs,ho⟩:=h.own;exact⟨by rw[g.block b (aH h.n_) Z];exact h.n_,vs,aX ho λk i=>g.block k (dT ho k i) (by have:=cA ho k i;exact Z)⟩
def Made.part(h:Made K L M W X N R):Part K L M W X N (aA R):=by have ⟨vs,F,h1,_⟩:=h.vw;exact⟨h.n_,vs,h1⟩
structure AY(C:Ctx)(w0:aL)(nb:Nat)(op te:bS)(li m:Nat)(acc:List aC)(S:Except Nat Nat)(x:Option Addr)(n c:Nat)(w:aL):Prop where
 fr:Fr C.pb w0 w
 at_:lH C w S
 lo:w0.heap.size<=nb/\C.pb<nb/\C.g<nb
 n_:∃k l,k<=m/\Part nb w op te l (Wz x n c) k
 made:∀q,S=.ok q->Made nb w op te li (Wz x n c) acc
def Nd(C:Ctx)(w0:aL)(nb:Nat)(op te:bS)(li m:Nat)(acc:List aC)(S:Except Nat Nat)(w:aL):Prop:=∃x n c,AY C w0 nb op te li m acc S x n c w
section
variable {C:Ctx} {w0 w w':aL} {nb li m n c b4:Nat} {op te:bS} {acc:List aC} {S S':Except Nat Nat} {x:Option Addr} {r:bN aC}
theorem Nd.new{l:Nat}(d:Fr C.pb w0 w)(c:lH C w S)(a b:bS)(e:Nat)(g:∀q,S=.ok q->l=e)(i:C.pb<w0.heap.size)(h:C.g<w0.heap.size):Nd C w0 w.heap.size a b e 0 [] S (w.alloc (Xe #[WD (bs a),Y l,WD (bs b),bR] 120)):=by have:=d.size;have f:Made w.heap.size (w.alloc (Xe #[WD (bs a),Y l,WD (bs b),bR] 120)) a b l (bR) []:=⟨aS w _ i_ _,xd.nil _ _⟩;exact⟨_,_,_,d.alloc _,c.alloc _,Z,⟨0,l,Z,f.part⟩,G_⟩
theorem AY.go(h:AY C w0 nb op te li m acc S x n c w)(b:Fr C.pb w w')(a:lH C w' S')(e:∀q,S'=.ok q->∃d,S=.ok d):AY C w0 nb op te li m acc S' x n c w':=by have ⟨h1,h2,h3,⟨k,l,h4,h5⟩,h6⟩:=h;exact⟨h1.trans b,a,h3,⟨k,l,h4,h5.j_ b h3.2.1⟩,(by grind[Made.j_])⟩
theorem Nd.go(h:Nd C w0 nb op te li m acc S w)(b:Fr C.pb w w')(a:lH C w' S')(d:∀q,S'=.ok q->∃e,S=.ok e):Nd C w0 nb op te li m acc S' w':=by have ⟨x,n,c,h⟩:=h;exact⟨x,n,c,h.go b a d⟩
def mh{P:Program}{f:Nat}{a:Array Wo}{v:Wq}{R:lF}{Q:Wq->World->Prop}(h:Wn P f a w λe w'=>e=v/\R w')(k:∀w',Wu (R w')->Q v w'):Wn P f a w Q:=h.mono λ_ w' ⟨c,b⟩=>c▸k w' b
def m6(h:Nd C w0 nb op te li m acc S w)(x:ByteArray):Wn Ww 216 #[aW C.pb,Q_ x] w λe w'=>e=bP (Xc (sQ C S (dL x)))/\Nd C w0 nb op te li m acc (uX C S (dL x)) w':=(Er C w S x (qr)).mono λ_ _ ⟨b,a,c⟩=>⟨b,h.go c a λq e=>by cases S with|ok p=>simp|error l=>cases e⟩
def pS(h:Nd C w0 nb op te li m acc S w)(x:ByteArray):Wn Ww 213 #[aW C.pb,Q_ x] w λe w'=>e=eV/\Nd C w0 nb op te li m acc (fQ C S (dL x)) w':=(AD C w S x (qr)).mono λ_ _ ⟨b,a,c⟩=>⟨b,h.go c a λq e=>by cases S with|ok p=>simp|error l=>cases e⟩
def Ae(h:Nd C w0 nb op te li m acc S w)(x:ByteArray):Wn Ww 215 #[aW C.pb,WD x] w λe w'=>e=bP (Xc (sQ C S x.data.toList))/\Nd C w0 nb op te li m acc S w':=(Cn C w S x (qr)).mono (by grind[Nd.go,Fr.below,lH.below,AY.at_,Nd])
def N8(h:Nd C w0 nb op te li m acc S w):Wn Ww 214 #[aW C.pb] w λe w'=>e=bP (Xa #[Q_ (bs (nK C S)),Y (pE C S)])/\Nd C w0 nb op te li m acc (nT C S) w':=(Ft C w S (qr)).mono λ_ _ ⟨b,a,c⟩=>⟨b,h.go c a λq e=>by cases S with|ok p=>simp|error l=>cases e⟩
def AY.drew(h:AY C w0 nb op te li m acc S x n c w):AY C w0 nb op te li m acc S x n c w.drew:=(by grind[AY.go,Fr.drew,Fr.refl,lH.below,AY.at_,Below.drew,dw])
def AY.cells(h:AY C w0 nb op te li m acc S x n c w):nb<w.heap.size/\i9 w (aJ nb 3)=Wj (Wz x n c)/\w.frozen? (aJ nb 3)=Wl:=by have ⟨k,l,_,h⟩:=h.n_;obtain⟨d,-,-,-,a,-,-,b⟩:=uR h.n_;grind
def Nd.As(h:Nd C w0 nb op te li m acc S w):nb<w.heap.size/\(∃v,i9 w (aJ nb 0)=Wj (WD v))/\w.frozen? (aJ nb 0)=Wl/\(∃v,i9 w (aJ nb 2)=Wj (WD v))/\w.frozen? (aJ nb 2)=Wl:=by have ⟨x,n,c,h⟩:=h;have ⟨k,l,_,h⟩:=h.n_;obtain⟨e,d,-,a,-,f,b,-⟩:=uR h.n_;grind
theorem Made.set{i:Nat}{u:aU}{a b:bS}{v:aU}(h:Made nb w op te li v acc)(d:(c9 w (aJ nb i) u).heap[nb]?=Wj (Xe #[WD (bs a),Y li,WD (bs b),v] 120)):Made nb (c9 w (aJ nb i) u) a b li v acc:=by have ⟨us,G,k1,k2,k3⟩:=h.vw;have c:∀k,nb+1<=k->(c9 w (aJ nb i) u).heap[k]?=w.heap[k]?:=(by grind[eh]);exact⟨d,us,G,(by grind[aX,cA]),(by grind[jW.mono,vb.j_]),G_⟩
def AY.set{i:Nat}{u:aU}{b d:bS}(h:AY C w0 nb op te e m acc S x n c w)(g:∀a (e:Nat),w.heap[nb]?=Wj (Xe #[WD (bs op),Y e,WD (bs te),a] 120)->(c9 w (aJ nb i) u).heap[nb]?=Wj (Xe #[WD (bs b),Y e,WD (bs d),a] 120)):AY C w0 nb b d e m acc S x n c (c9 w (aJ nb i) u):=by have ⟨h1,h2,h3,⟨k,l,h4,h5,vs,h7⟩,h6⟩:=h;exact⟨h1.setCell (dv h3.1) _,(by grind[lH.other]),h3,⟨k,l,h4,g _ _ h5,vs,aX h7 λk f=>eh _ _ _ _ (by have:=cA h7 k f;grind)⟩,(by grind[Made.set,Made.n_])⟩
def Nd.Cr(h:Nd C w0 nb op te li m acc S w)(o:ByteArray):Nd C w0 nb o.data.toList te li m acc S (c9 w (aJ nb 0) (WD o)):=by have ⟨x,n,c,h⟩:=h;exact⟨x,n,c,h.set λ_ _ e=>by rw[aN e];rfl⟩
def Nd.Pd(h:Nd C w0 nb op te li m acc S w)(o:bS):Nd C w0 nb op o li m acc S (c9 w (aJ nb 2) (Q_ (bs o))):=by have ⟨x,n,c,h⟩:=h;exact⟨x,n,c,h.set λ_ _ e=>by rw[aN e];rfl⟩
def Nd.post(h:Nd C w0 nb op te li m acc S w)(b:r=fE S λq=>.ok (aV op li te acc,q)):eH C w0 r (bP (aW nb)) w:=by have ⟨x,n,c,h⟩:=h;subst b;cases S with|error l=>exact⟨h.fr,h.at_,nb,i_,λa q e=>by cases e⟩|ok p=>exact⟨h.fr,h.at_,nb,i_,λa q e=>by cases e;exact(h.made _ i_).Ls h.lo.1⟩
def eH.ptr{e:Wq}(h:eH C w r e w'):∃b,e=bP (aW b):=(by grind[eH])
def AY.after{E:Nat->bN aC}{e:Wq}(h:AY C w0 nb op te li m acc S x n c w)(a:eH C w (fE S E) e w'):AY C w0 nb op te li m acc (nJ (fE S E)) x n c w':=h.go a.1 a.2.1 λq e=>by cases S with|ok q=>simp|error l=>cases e
def iV(r:bN aC):List aC:=match r with|.ok (a,_)=>[a]|.error _=>[]
def AY.uu{i j:aL}{g p k:Nat}{A:List Wo}(h:AY C w0 nb op te li m acc S x n c w)(N:∀a q,r=.ok (a,q)->∃u,S=.ok u)(d:Fr C.pb w i)(o:lH C i (nJ r))(t:∀a q,r=.ok (a,q)->vb (si w.heap.size i.heap.size) i (aW b4) a)(G:k<=m) (e:i.ownsRow (nb+1) 63 1 (Wz x n c) k A) (f:j.ownsRow (nb+1) 63 1 (Wz (Wj (aJ g 0)) (k+1) p) (k+1) (A++[aW b4])) (b:(i.alloc (Xe #[aW b4] 63)).grownBy j (Value.slice x n c).ownBlock) (B:(Value.slice x n c).ownBlock=Wj g\/g=i.heap.size+1):Nd C w0 nb op te li (m+1) (acc++iV r) (nJ r) (c9 j (aJ nb 3) (Wz (Wj (aJ g 0)) (k+1) p))/\nb<j.heap.size/\i9 j (aJ nb 3)=Wj (Wz x n c)/\j.frozen? (aJ nb 3)=Wl:=by obtain⟨J,-,⟨K,v,P⟩,⟨_,l,-,y⟩,z⟩:=h;have hge:=cA e;have s:=M5 (y.j_ d v).n_ e b;obtain⟨L,-,-,-,I,-,-,H⟩:=uR s;refine⟨⟨_,_,_,?_,?_,Z,⟨k+1,l,Z,by rw[aN s];rfl,_,aX f λk G=>eh _ _ _ _ ?_⟩,λq M=>?_⟩,L,I,H⟩;exact Fr.setCell (((J.trans d).alloc _).grown b (G_)) (dv K) _;exact((o.alloc _).grown (b_:=nb+1) b hge Z Z).other Z Z _;grind[cA];cases r with|error l=>cases M|ok E=>have ⟨a,q⟩:=E;have ⟨u,e'⟩:=N a q rfl;have D:=z u e';have ⟨vs',F,ho,hall,hFF⟩:=(D.j_ d v).vw;obtain⟨rfl,rfl⟩:=XF ho e;exact Made.snoc D d v hall hFF (qw) s_ f b (G_) a (G_)
variable {w4:aL} {ops:Array Oper} {rest:List Oper} {o:Oper} {a:Act} {K:Act->World->Prop} {Q:Exit->Act->World->Prop} {F:Prop} {s y:Operand} {E:Nat->bN aC} {k4:Nat}
def Ga(h:AY C w0 nb op te li m acc S x n c w)(F:m<4000)(v:eH C w (fE S E) (bP (aW b4)) w4)(t:H_ w4=k4) (z:o.op=.call {callee:=.builtin .append,args:=#[s,y],argTypes:=#[118,118]}) (B:a.eval s=P_ x n c) (A:a.eval y=P_ (Wj (aJ k4 0)) 1 1) (u:∀j g k f,Wu (Nd C w0 nb op te li (m+1) (acc++iV (fE S E)) (nJ (fE S E)) (c9 j (aJ nb 3) (P_ (Wj (aJ g 0)) k f)))->nb<H_ j->eJ j nb 3 (P_ x n c)->j.frozen? (aJ nb 3)=Wl->K (a.put o.dst (P_ (Wj (aJ g 0)) k f)) j):Oper.wp Ww o a (dZ w4 #[aW b4] 63) K Q:=by subst t;have ⟨i0,hi,hz0,hz1,hz2⟩:=info_parts i8;have ⟨k,l,hk,hP⟩:=h.n_;have ⟨hfr4,hat4,b,e,hrep4⟩:=v;cases e;have p:=hP.j_ hfr4 h.lo.2.1;have ⟨vs,hown⟩:=p.own;have D:=aH p.n_;refine wp_append_lies _ _ _ _ z (nb+1) 63 i0 _ 1 8 underlying118 hi hz0 hz1 hz2 i_ d_ (P_ x n c) k vs B (hown.alloc _) (aJ (H_ w4) 0) 1 1 [aW b4] A rfl (Tm _ _) (Il _) d_ ky Z ku (H_ w4+1) s_ ?_;intro g f j i d r _;have ⟨q0,q1,q2,q3⟩:=h.uu (λa q e=>by cases S with|ok q=>simp|error l=>cases e) hfr4 hat4 hrep4 hk hown i d r;exact u _ _ _ _ q0 q1 q2 q3
def EG(h:AY C w0 nb op te li m acc S x n c w)(i:Wu (eH C w (fE S E) (bP (aW b4)) w4)) (q:∀d g k b,Wu (Nd C w0 nb op te li (m+1) (acc++iV (fE S E)) (nJ (fE S E)) (c9 d (aJ nb 3) (P_ (Wj (aJ g 0)) k b)))->nb<H_ d->eJ d nb 3 (P_ x n c)->d.frozen? (aJ nb 3)=Wl->K (a.put o.dst (P_ (Wj (aJ g 0)) k b)) d) (j:m<4000:=by omega) (l:o.op=.call {callee:=.builtin .append,args:=#[s,y],argTypes:=#[118,118]}:=by rfl) (r:a.eval s=P_ x n c:=by rfl) (p:a.eval y=P_ (Wj (aJ k4 0)) 1 1:=by rfl) (e:o.guard=none:=by rfl) (f:H_ w4=k4:=by simp):if Region.wanted o (yielded ops a.tmps)=Wm then Oper.wp Ww o a (dZ w4 #[aW b4] 63) K Q else F:=by rw[ec (by simp[Region.wanted,e])];exact Ga h j i f l r p q
def Gs(h:AY C w0 nb op te li m acc S x n c w)(i:Wu (eH C w (fE S E) (bP (aW b4)) w4)) (t:∀d g k b,Wu (Nd C w0 nb op te li (m+1) (acc++iV (fE S E)) (nJ (fE S E)) (c9 d (aJ nb 3) (P_ (Wj (aJ g 0)) k b)))->nb<H_ d->eJ d nb 3 (P_ x n c)->d.frozen? (aJ nb 3)=Wl->wpList Ww ops Q rest (a.put o.dst (P_ (Wj (aJ g 0)) k b)) d) (j:m<4000:=by omega) (l:o.op=.call {callee:=.builtin .append,args:=#[s,y],argTypes:=#[118,118]}:=by rfl) (q:a.eval s=P_ x n c:=by rfl) (p:a.eval y=P_ (Wj (aJ k4 0)) 1 1:=by rfl) (e:o.guard=none:=by rfl) (f:H_ w4=k4:=by simp):wpList Ww ops Q (o::rest) a (dZ w4 #[aW b4] 63):=wpList_plain e λ_ r=>Ga h j i f l q p G_
def GO{f:Nat}{Q:Wq->World->Prop}(h:AY C w0 nb op te li m acc S x n c w)(l:Reads C f E)(g:fE S E≠.error 0)(k:∀w' b,Wu (eH C w (fE S E) (bP (aW b)) w')->nb<H_ w'->eJ w' nb 3 (P_ x n c)->w'.frozen? (aJ nb 3)=Wl->Q (bP (aW b)) w'):Wn Ww f #[aW C.pb] w Q:=(l w S h.at_ g).mono λe w' a=>by obtain⟨b,rfl⟩:=a.ptr;obtain⟨j,i,d⟩:=(h.after a).cells;exact k w' b a j i d
def Nd.pre(h:Nd C w0 nb op te li m acc S w):∃x n c,Wu (AY C w0 nb op te li m acc S x n c w.drew)/\nb<H_ w/\eJ w nb 3 (P_ x n c)/\w.frozen? (aJ nb 3)=Wl:=by have ⟨x,n,c,h⟩:=h;exact⟨x,n,c,h.drew,h.cells⟩
end
def tD(C:Ctx)(S:Except Nat Nat):Nat:=match S with|.ok q=>(aP C.ts q).l_|.error _=>0
def Tv{c:Type}(C:Ctx)(x:bS)(a:g)(q:Nat)(f:g->c):bQ f (aQ C.ts x (.ok (a,q)))=fE (fQ C (.ok q) x) λq=>.ok (f a,q):=by grind[aQ,bQ,Hs.bad,fE,fQ]
def Ff(C:Ctx)(w:aL)(S:Except Nat Nat)(h:lH C w S):Wn Ww 163 #[aW C.pb] w λe w'=>∃t,e=bP (W1 #[Xd .u8 (bE.c_ t),Q_ (bs t.x_),Y t.l_])/\Wu (∀op te,Nd C w (H_ w') op te (tD C S) 0 [] S (dZ w' #[Q_ (bs op),Y t.l_,Q_ (bs te),bR] 120)):=(K7 C w S h).mono λ_ _ ⟨⟨t,a,b⟩,c⟩=>⟨t,a,λop te=>(by grind[Nd.new,Fr.below,lH.below,lH.facts,tD])⟩
def FX{C:Ctx}{A B:bN aC}{Q:Wq->World->Prop}(h:Nd C L K M W X U R F T)(x:ByteArray)(t:Wu (r=if sQ C F x.data.toList then A else B))(E:∀w',Wu (Nd C L K M W X U R F w')->Wu (r=B)->Q (bP (Xc Wl)) w') (k:∀p,F=.ok p->∀w' z,K<w'.heap.size->i9 w' (aJ K 0)=Wj (WD z)->w'.frozen? (aJ K 0)=Wl->Wu (∀o:ByteArray,Nd C L K o.data.toList W X U R (.ok (p+1)) (c9 w' (aJ K 0) (WD o)))->Wu (r=A)->Wu (Nd C L K M W X U R (.ok (p+1)) w')->Q (bP (Xc Wm)) w'):Wn Ww 216 #[aW C.pb,WD x] T Q:=by refine mh (m6 h x) λD u=>?_;have j:=t.out;have c:=u.out;cases g:sQ C F x.data.toList<;>rw[g]at j;rw[show uX C F x.data.toList=F by cases F with|ok q=>exact CO g|error l=>rfl]at c;grind;cases F with|error l=>cases g|ok p=>rw[CN g]at c;obtain⟨s,⟨v,y⟩,n,-⟩:=c.As;exact k p i_ _ v s y n (λo=>c.Cr o) j c
def Od{C:Ctx}{r:bN (List aC)}(y:Fr C.pb L T)(u:xU C T r (bP (P_ x U G)) V) (v:H_ L<=K) (k:K<H_ T) (d:K≠C.pb/\K≠C.g) (g:T.heap[K]?=Wj (bM #[Q_ (bs M),Y X,Q_ (bs W),N] 120)):eH C L (bQ (aV M X W) r) (bP (aW K)) (c9 V (aJ K 3) (P_ x U G)):=by
 have ⟨h1,h2,x',n',c',he,h4⟩:=u;have hblk4:=(h1.block K k d.1).trans g;refine⟨(by grind[Fr.setCell,Fr.trans]),?_,K,rfl,λa q o=>?_⟩;have e:nJ (bQ (aV M X W) r)=nJ r:=by cases r<;>rfl
 grind[lH.other];cases r with|error l=>cases o|ok s=>have ⟨ks,q'⟩:=s;cases o;refine vb.mk (kv:=P_ x U G) (by grind[WH,si]) (by rw[aN hblk4];rfl) ?_;have p:ye (si (H_ T) (H_ V)) (c9 V (aJ K 3) (P_ x U G)) (P_ x U G) ks:=(by grind[ye.j_,eh,si]);grind[ye.mono,WH,si,aV]
def Nd.list{C:Ctx}{l:aL}{n:Nat}{f:List aC}{r:bN (List aC)}(h:Nd C l K M W X U f F L)(u:∃q,F=.ok q)(i:xU C L r (bP (Wz x n G)) T):Wu (eH C l (bQ (aV M X W) r) (bP (aW K)) (c9 T (aJ K 3) (Wz x n G)))/\K<T.heap.size/\(∃v,i9 T (aJ K 3)=Wj v)/\T.frozen? (aJ K 3)=Wl:=by have ⟨x',n',c',h⟩:=h;have ⟨q,e⟩:=u;have d:=(h.made q e).n_;have g:=aH d;obtain⟨t,-,-,-,s,-,-,p⟩:=uR ((i.1.block K g (by have:=h.lo;exact Z)).trans d);exact⟨Od h.fr i h.lo.1 g (by have:=h.lo;exact Z) d,t,⟨_,s⟩,p⟩
def sL:∀l m:bS,Op.bytesLess l m=jA l m|[],[]=>rfl|[],_::_=>rfl|_::_,[]=>rfl|a::l,b::m=>by rw[Op.bytesLess,jA,sL l m];grind[UInt8.lt_iff_toNat_lt,UInt8.toNat_inj]
def EL:∀l m:bS,(jA l m||l==m)=!jA m l|[],[]=>rfl|[],_::_=>rfl|_::_,[]=>rfl|a::l,b::m=>by rw[jA,jA];by_cases d:a.toNat<b.toNat;grind;by_cases c:b.toNat<a.toNat;grind;rw[dy d,dy c,dy c,dy d,<-EL l m,show a=b from js.1 Z];simp
def bk{b:Nat}(h:L.heap[b]?=Wj (Xe c e)):(∀i,i9 L (aJ b i)=c[i]?)/\(∀i,L.frozen? (aJ b i)=Wl)/\b<L.heap.size:=⟨λi=>by simp[World.cell?,h],λi=>aE h,aH h⟩
