import Derived.Test.YthlhecfcnfjecaaGreatDoorP00
set_option linter.all false
set_option maxRecDepth 100000
set_option maxHeartbeats 0
open List renaming length->aA
open Go.World renaming setCell->c9,cell?->I_
open Go renaming bodyPost_ret->Wx,Calls->W_,Value->Xa,Ending->Xc
open Option renaming some->Wy
open Bool renaming false->WD,true->W1
open Go.RowKit renaming Hid->Xg
open Go.Proofs.Tryz renaming prog->Xi
open Go.Value renaming slice->Xl,string->Xm,agg->Xn,tuple->Xp,bool->Xr,int->Xs
open Go.Obj renaming cells->Xt
namespace Go.Proofs.YthlhecfcnfjecaaGreatDoor
open Hs _root_.Go.Proofs.Tryz Go.RowKit
variable{c:Array Xa}{F:Except Nat Nat}{P:List Xa}{M:List aC}{H K T W:Nat}{x:Option Addr}{j:Option Nat}{a:Prop}{g:Type}{e:TypeId}{D:aC}{N V X:aN}{Q S:aX}{R:bL}{G L:bQ}{r:bU aC}
theorem O{p:Prop}(h:p):Xg p:=h
def nU{k:IntKind}{a b:Int}(h:a=b):Ending.returned (Xs k a)=bR (Xs k b):=by rw[h]
def gO{a b:Bool}(h:a=b):Ending.returned (Xr a)=bR (Xr b):=by rw[h]
theorem NX(s:ByteArray)(k:Nat)(h:k<s.size):(eA s).take (k+1)=(eA s).take k++[s[k]]:=by rw[hQ qn];rfl
def Ej(c d:UInt8):(c=d)↔((c.toNat:Int)=(d.toNat:Int)):=by grind[UInt8.toNat_inj]
def mH(c:UInt8):(c.toNat:Int)<=255:=by have:=c.toNat_lt;exact Z
theorem lV(s:ByteArray)(k:Nat)(h:k<s.size):s.data.toList[k]?=Wy s[k]:=by simp[h];rfl
theorem gE(s:ByteArray)(k:Nat)(h:k<s.size):s.data.toList.drop k=s[k]::s.data.toList.drop (k+1):=jg qn
def O9(s:ByteArray)(n:Nat)(w:aN)(f:s.size<=2000000000)(g:n<=s.size):W_ Xi 98 #[Q_ s,Y n] w λe w'=>e=bR (Y (bD (s.data.toList.take n)))/\w'=w:=by
 go_in;go_wp2;go_loop [5,6] (λt i=>∃k:Nat,k<=n/\i=Y k/\t=Y (bD (s.data.toList.take k))) (λ_ i=>n-(intOf i).toNat);case atStart=>exact⟨0,Z,rfl,rfl⟩
 case round=>
  obtain⟨k,c,rfl,rfl⟩:=hrel;have d:=BM (s.data.toList.take k);have:=List.length_take_le k s.data.toList;by_cases a:k<n
  .have b:Xg (bD (s.data.toList.take (k+1))=bD (s.data.toList.take k)+if s[k]=10 then 1 else 0):=by rw[NX s k Z,KE];rfl
   go_wp2;all_goals
    go_round;case rel=>exact⟨k+1,Z,ll,by rw[b];simp_all [Ej]⟩
    grind[intOf]
  go_wp2;go_ret;exact⟨nU G_,rfl⟩
def B8(s:ByteArray)(n a b:Nat)(w:aN)(_hs:s.size<=2000000000):W_ Xi 207 #[Q_ s,Y n,Y a,Y b] w λe w'=>e=bR (Xr (iW (eA s) n a b))/\w'=w:=by
 by_cases f:n<s.size;.have d:=mH s[n];have c:=O (show iW (eA s) n a b=(decide (a<=s[n].toNat)&&decide (s[n].toNat<=b)) by grind[iW,lV]);go_in;go_wp2;all_goals go_ret;exact⟨gO (by rw[c];simp[*]),rfl⟩
 have c:=O (show iW (eA s) n a b=WD by unfold iW;rw[jh la]);go_in;go_wp2;go_ret;exact⟨gO (by rw[c]),rfl⟩
def MP(l:bQ)(n lo hi k:Nat):Bool:=iW l (n+1) lo hi&&(List.range (k-2)).all λj=>iW l (n+(j+2)) 128 191
def Kg(l:bQ)(n a b k:Nat)(h:2<=k):MP l n a b (k+1)=(MP l n a b k&&iW l (n+k) 128 191):=by obtain⟨j,rfl⟩:∃j,k=j+2:=⟨k-2,Z⟩;grind[MP]
def Bg(c:Nat):Nat×Nat×Nat:=(if 194<=c/\c<=223 then 2 else if 224<=c/\c<=239 then 3 else if 240<=c/\c<=244 then 4 else 0,if c=224 then 160 else if c=240 then 144 else 128,if c=237 then 159 else if c=244 then 143 else 191)
def Mm(l:bQ)(n i a b:Nat):iW (l.drop n) i a b=iW l (n+i) a b:=by grind[iW]
def Pp(s:ByteArray)(n:Nat)(e:n<s.size)(h:¬s[n].toNat<128):bY ((eA s).drop n)=if MP (eA s) n (Bg s[n].toNat).2.1 (Bg s[n].toNat).2.2 (Bg s[n].toNat).1 then (Bg s[n].toNat).1 else 0:=by unfold bY;rw[List.getElem?_drop,gu,lV s n e];simp only[h,Mm];generalize s[n].toNat=c at h⊢;unfold MP Bg;by_cases b:194<=c/\c<=223;grind;by_cases a:224<=c/\c<=239;grind;by_cases d:240<=c/\c<=244;have:c≠224/\c≠237:=Z;simp[b,a,d,this,List.range_succ,Bool.and_assoc];simp[b,a,d]
def KX(s:ByteArray)(n:Nat)(w:aN)(A:s.size<=2000000000)(B:n<s.size):W_ Xi 160 #[Xm s,Y n] w λe w'=>e=bR (Y (bY (s.data.toList.drop n)))/\w'=w:=by
 have t:=mH s[n];by_cases j:s[n].toNat<128;.have o:(s[n].toNat:Int)<128:=Z;go_in;go_wp2;go_ret;exact⟨nU (by grind[bY,lV]),rfl⟩
 have y:=O (Pp s n B j);have o:¬(s[n].toNat:Int)<128:=Z;have ⟨N,hN⟩:∃N,N=(Bg s[n].toNat).1:=(by simp);have ⟨f,hlo⟩:∃N,N=(Bg s[n].toNat).2.1:=(by simp);have ⟨c,hhi⟩:∃N,N=(Bg s[n].toNat).2.2:=(by simp);have l:=O (du hN (du hlo hhi));have C:N<=4/\N≠1:=by grind[Bg]
 rw[<-hN,<-hlo,<-hhi]at y;clear hN hlo hhi j;go_in;go_upto_block 0 with fail;go_cut [6,7,8] (λa b d v=>v=w/\a=Y N/\b=Y f/\d=Y c);case first=>go_wp2;all_goals go_meet;case rel=>have ⟨r1,r2,r3⟩:=l.out;subst r1 r2 r3;refine⟨aJ,?_,?_,?_⟩<;>simp[Bg,beq_iff_eq,beq_eq_false_iff_ne]at*<;>(repeat' split)<;>first|rfl|exact Z
 case rest=>
  obtain⟨rfl,rfl,rfl,rfl⟩:=hcut;have m:∀i f c:Nat,W_ Xi 207 #[Xm s,Y ((n:Int)+i),Y f,Y c] wc _:=λi f c=>B8 s (n+i) f c wc A;clear l o t;go_wp2_with (apply (m 1 _ _).mono;rintro e w' ⟨rfl,rfl⟩);go_loopg [9,10] 3 (λgk ok i wr=>∃k:Nat,2<=k/\k+gk=5/\(k<=N\/k=2)/\i=Y k/\ok=Xr (MP s.data.toList n f c k)/\wr=w');case atStart=>exact⟨2,Z,Z,Z,rfl,by simp[MP],rfl⟩
  case round=>
   obtain⟨k,u,r,q,rfl,rfl,rfl⟩:=hrel;by_cases p:k<N;.have z:=O (Kg s.data.toList n f c k u);have x:(k:Int)<(N:Int):=Z;go_wp2_with (apply (m k 128 191).mono;rintro e w' ⟨rfl,rfl⟩);all_goals
     go_roundg (4-k);case measure=>exact Z
     case rel=>exact⟨k+1,Z,Z,Z,ll,by rw[z];simp[*],rfl⟩
   have x:¬(k:Int)<(N:Int):=Z;have D:Xg (bY (s.data.toList.drop n)=if MP s.data.toList n f c k then N else 0):=by grind[MP]
   cases g:MP s.data.toList n f c k;all_goals go_wp2;go_ret;exact⟨nU (by rw[D,g];rfl),rfl⟩
theorem yR(s:ByteArray)(n i:Nat)(h:n+i<s.size):((eA s).drop n)[i]?=Wy s[n+i]:=by grind[lV]
theorem AF(s:ByteArray)(n i:Nat)(h:s.size<=n+i):((eA s).drop n)[i]?=none:=by simpa using h
theorem xZ(l:bQ):bY l<=aA l:=by grind[bY,iW]
def JN:Option Nat->Int|some k=>k|none=>-1
def BA(l:bQ)(p f:Nat)(h:0<aA l)(a:bY l≠0):dU (f+1) l p=dU f (l.drop (bY l)) (p+bY l):=by grind[dU]
def VI(l:bQ)(p f:Nat)(h:0<aA l)(a:bY l=0):dU (f+1) l p=Wy p:=by grind[dU]
theorem ER(l:bQ)(p f:Nat)(h:aA l=0):dU f l p=none:=by cases f with|zero=>rfl|succ f=>rw[dU,ec h]
def zT(s:ByteArray)(w:aN)(n:s.size<=2000000000):W_ Xi 97 #[Xm s] w λe w'=>e=bR (Y (JN (dU s.size s.data.toList 0)))/\w'=w:=by
 have l:aA s.data.toList=s.size:=s_;go_in;go_wp2;go_loop [3] (λi=>∃k f:Nat,k<=s.size/\s.size<=k+f/\i=Y k/\Xg (dU s.size s.data.toList 0=dU f (s.data.toList.drop k) k)) (λi=>s.size-(intOf i).toNat);case atStart=>exact⟨0,s.size,Z,Z,rfl,rfl⟩
 case round=>
  obtain⟨k,f,u,v,rfl,m⟩:=hrel;by_cases a:k<s.size
  .have g:aA (s.data.toList.drop k)=s.size-k:=s_;have d:=xZ (s.data.toList.drop k);obtain⟨f,rfl⟩:∃t,f=t+1:=⟨f-1,Z⟩;by_cases o:bY (s.data.toList.drop k)=0;.have b:=VI _ k f Z o;have p:Xg (dU s.size s.data.toList 0=Wy k):=G_;clear b m;go_wp2_with (go_at_call 160;apply (KX s k _ n a).mono;rintro e w' ⟨rfl,rfl⟩);go_ret;exact⟨nU (by rw[p];rfl),rfl⟩
   have b:=BA _ k f Z o;have p:Xg (dU s.size s.data.toList 0=dU f (s.data.toList.drop (k+bY (s.data.toList.drop k))) (k+bY (s.data.toList.drop k))):=by grind[List.drop_drop]
   clear b m;rw[g]at d;clear g;generalize j:bY (s.data.toList.drop k)=c at*;have r:=j;clear j;have q:((c:Int)==0)=WD:=G_;go_wp2_with (go_at_call 160;apply (KX s k _ n a).mono;rw[r];rintro e w' ⟨rfl,rfl⟩);grind[intOf]
  go_wp2;go_ret;exact⟨nU (by grind[dw,ER,JN]),rfl⟩
def oH(c:UInt8)(w:aN):W_ Xi 209 #[Xs .u8 c.toNat] w λe w'=>e=bR (Xr (dM c))/\w'=w:=by go_wp2;all_goals go_ret;exact⟨gO (by grind[dM]),rfl⟩
def nZ(c:UInt8)(w:aN):W_ Xi 210 #[Xs .u8 c.toNat] w λe w'=>e=bR (Xr (eH c))/\w'=w:=by have b:=mH c;have a:Xg (eH c=(c.toNat==95||(decide (97<=c.toNat)&&decide (c.toNat<=122)||decide (65<=c.toNat)&&decide (c.toNat<=90)))):=rfl;go_in;go_wp2;all_goals go_ret;exact⟨gO (by rw[a,ji];constructor<;>intro h<;>(try simp at h)<;>(try simp)<;>exact Z),rfl⟩
theorem nW(x l:bQ)(h:aA x<=aA l):x.isPrefixOf l=(l.take (aA x)==x):=by induction x generalizing l with|nil=>simp|cons a x c=>cases l with|nil=>simp at h|cons b l=>grind
def vH(x l:bQ)(h:aA l<aA x):x.isPrefixOf l=WD:=by grind
def uB(s x:ByteArray)(n:Nat)(w:aN)(b:s.size<=2000000000)(c:x.size<=100)(d:n<=s.size):W_ Xi 208 #[Xm s,Y n,Xm x] w λe w'=>e=bR (Xr (eG (s.data.toList.drop n) x.data.toList))/\w'=w:=by
 by_cases h:x.size<=s.size-n
 .have a:Xg (eG (s.data.toList.drop n) x.data.toList=((s.extract n (n+x.size)).toList==x.toList)):=by unfold eG Xg;rw[nW _ _ qn,Lib.extract_toList,Lib.toList_data];simp
  go_wp2;go_ret;exact⟨gO (by rw[a]),rfl⟩
 have a:Xg (eG (s.data.toList.drop n) x.data.toList=WD):=by exact vH _ _ la
 go_wp2;go_ret;exact⟨gO (by rw[a]),rfl⟩
def LD(f:Nat):cK f []=0:=by cases f<;>rfl
def CJ(f:Nat)(c:UInt8)(r:bQ)(h:c.toNat=32\/c.toNat=9\/c.toNat=10):cK (f+1) (c::r)=cK f r+1:=by rw[cK,ec h]
def zH(f:Nat)(c:UInt8)(r:bQ)(h:¬(c.toNat=32\/c.toNat=9\/c.toNat=10))(a:eG (c::r) [47,47]=W1):cK (f+1) (c::r)=bT fT (c::r)+cK f ((c::r).drop (bT fT (c::r))):=by grind[cK]
def FX(f:Nat)(c:UInt8)(r:bQ)(h:¬(c.toNat=32\/c.toNat=9\/c.toNat=10))(a:eG (c::r) [47,47]=WD):cK (f+1) (c::r)=0:=by grind[cK]
def pK(p:UInt8->Bool)(c:UInt8)(r:bQ)(h:p c=W1):bT p (c::r)=bT p r+1:=by rw[bT,ec h]
def IY(p:UInt8->Bool)(c:UInt8)(r:bQ)(h:p c=WD):bT p (c::r)=0:=by grind[bT]
def OU(b:UInt8):fT b=((b.toNat:Int) !=10):=by grind[fT]
def QD(s:ByteArray)(n:Nat)(w:aN)(x:s.size<=2000000000)(B:n<=s.size):W_ Xi 161 #[Xm s,Y n] w λe w'=>e=bR (Y ((n+cK s.size (s.data.toList.drop n):Nat)))/\w'=w:=by
 go_in;go_wp2;go_loop [1] (λi=>∃k f:Nat,k<=s.size/\s.size<=k+f/\i=Y k/\Xg (n+cK s.size (s.data.toList.drop n)=k+cK f (s.data.toList.drop k))) (λi=>s.size-(intOf i).toNat);case atStart=>exact⟨n,s.size,B,Z,rfl,rfl⟩
 case round=>
  obtain⟨k,f,q,I,rfl,a⟩:=hrel;by_cases d:k<s.size
  .have G:=mH s[k];obtain⟨f,rfl⟩:∃A,f=A+1:=⟨f-1,Z⟩;rw[gE s k d]at a;by_cases l:s[k].toNat=32\/s[k].toNat=9\/s[k].toNat=10
   .rw[CJ _ _ _ l]at a;have o:Xg (n+cK s.size (s.data.toList.drop n)=k+1+cK f (s.data.toList.drop (k+1))):=by grind
    clear a;rcases l with l|l|l;all_goals have v:((s[k].toNat:Int))=_:=fe _ l;clear l;go_wp;grind[intOf]
   have H:((s[k].toNat:Int)==32)=WD:=G_;have F:((s[k].toNat:Int)==9)=WD:=G_;have J:((s[k].toNat:Int)==10)=WD:=G_;cases b:eG (s[k]::s.data.toList.drop (k+1)) [47,47];.rw[FX _ _ _ l b]at a;rw[<-gE s k d]at b;go_wp2_with (go_at_call 208;apply (uB s _ k _ x d_ q).mono;rw[b];rintro e w' ⟨rfl,rfl⟩);go_ret;exact⟨nU (by have:=a.out;exact Z),rfl⟩
   rw[zH _ _ _ l b]at a;have y:Xg (1<=bT fT (s.data.toList.drop k)):=by rw[gE s k d,pK _ _ _ (by unfold fT;grind)];show _<=_;exact Z
   rw[<-gE s k d]at b a;rw[jp]at a;go_wp2_with (go_at_call 208;apply (uB s _ k _ x d_ q).mono;rw[b];rintro e w' ⟨rfl,rfl⟩);go_loop [1] (λi=>∃j:Nat,k<=j/\j<=s.size/\i=Y j/\Xg (k+bT fT (s.data.toList.drop k)=j+bT fT (s.data.toList.drop j))) (λi=>s.size-(intOf i).toNat);case atStart=>exact⟨k,Z,q,rfl,rfl⟩
   case round=>
    obtain⟨j,z,E,rfl,g⟩:=hrel;by_cases C:j<s.size
    .have D:=mH s[j];rw[gE s j C]at g;have c:=OU s[j];cases m:fT s[j]
     .rw[IY _ _ _ m]at g;rw[m]at c;have v:=c.symm;clear c m;have t:k<j:=G_;have o:Xg (n+cK s.size (s.data.toList.drop n)=j+cK f (s.data.toList.drop j)):=by have u:=g.out;have r:=a.out;rw[show k+bT fT (s.data.toList.drop k)=j by omega]at r;show _=_;exact Z
      clear g a y;go_wp;go_round;case rel=>exact⟨j,f,Z,Z,rfl,o⟩
      case measure=>simp[intOf];exact Z
     rw[pK _ _ _ m]at g;rw[m]at c;have v:=c.symm;clear c m;have o:Xg (k+bT fT (s.data.toList.drop k)=j+1+bT fT (s.data.toList.drop (j+1))):=by grind
     clear g;go_wp;grind[intOf]
    have p:s.data.toList.drop j=[]:=gp la;rw[p]at g;have t:k<j:=Z;have o:Xg (n+cK s.size (s.data.toList.drop n)=j+cK f (s.data.toList.drop j)):=by
     have u:=g.out;have r:=a.out;rw[show k+bT fT (s.data.toList.drop k)=j by rw[u];rfl]at r;have K:k+bT fT (s.data.toList.drop k)=j:=by rw[u];rfl
     show _=_;exact Z
    clear g a y p;go_wp;go_round;case rel=>exact⟨j,f,Z,Z,rfl,o⟩
    case measure=>simp[intOf];exact Z
  have p:s.data.toList.drop k=[]:=gp la;rw[p,LD]at a;go_wp2;go_ret;exact⟨nU (by have:=a.out;exact Z),rfl⟩
def IF:Option Nat->Xa|some n=>Xp #[Y n,Xr W1]|none=>Xp #[Y 0,Xr WD]
def CY(s:ByteArray)(w:aN)(j:s.size<=2000000000)(a:∀k (h:k<s.size),dM s[k]=W1):W_ Xi 131 #[Xm s] w λe w'=>e=bR (IF (dS 0 s.data.toList))/\w'=w:=by
 have m:=a;clear a;go_in;go_wp2;go_loop [4,5] (λx i=>∃k n:Nat,k<=s.size/\n<=9223372036854775807/\i=Y k/\x=Y n/\Xg (dS 0 s.data.toList=dS n (s.data.toList.drop k))) (λ_ i=>s.size-(intOf i).toNat);case atStart=>exact⟨0,0,Z,Z,rfl,rfl,rfl⟩
 case round=>
  obtain⟨k,n,g,l,rfl,rfl,b⟩:=hrel;by_cases c:k<s.size
  .have d:48<=(s[k].toNat:Int)/\(s[k].toNat:Int)<=57:=by grind[dw,dM]
   have ⟨hb1,hb2⟩:=d;rw[gE s k c,dS]at b;go_wp
   .have f:(9223372036854775807-((s[k].toNat:Int)-48))/10<(n:Int):=by assumption
    go_ret2;refine⟨?_,aJ⟩;rw[b,ec (by unfold qZ;exact Z)];rfl
   grind[qZ,intOf]
  have a:s.data.toList.drop k=[]:=gp la;rw[a,dS]at b;go_wp2;go_ret2;exact⟨by rw[b];rfl,rfl⟩
theorem jT(l:bQ):(bs l).data.toList=l:=by simp[bs]
theorem iS(l:bQ):(bs l).size=aA l:=by simp[bs,ByteArray.size]
theorem TH{a b:ByteArray}(h:a.data.toList=b.data.toList):a=b:=by cases a;cases b;grind[Array.toList_inj]
theorem rV(s:ByteArray)(a b:Nat):s.extract a b=bs (((eA s).drop a).take (b-a)):=TH (by rw[Lib.extract_data,jT])
theorem bA(l:bQ):(bs l).toList=l:=by rw[Lib.toList_data,jT]
structure gK(w:aN):Prop where
 kw:∀i (h:i<9),I_ w (aL 4 i)=Wy (Xm (bs (fN[i]'(by simpa [fN]using h))))
 ot:∀i (h:i<21),I_ w (aL 0 i)=Wy (Xm (bs (eM[i]'(by simpa [eM]using h))))
 ym:11<=w.heap.size
theorem gK.below{c:aN}(h:gK N)(b:R_ N c):gK c:=⟨λi a=>by rw[b.cell (by grind[gK.ym])];exact h.kw i a,λi a=>by rw[b.cell (by grind[gK.ym])];exact h.ot i a,by have:=b.size;have:=h.ym;exact Z⟩
def X4(l:bQ)(h:∀c∈l,dK WD c=W1):∀k (a:k<(bs l).size),dM (bs l)[k]=W1:=by intro k a;have e:(bs l)[k]=l[k]'(by exact a):=r_;grind[List.getElem_mem,dK]
def Sx(s:ByteArray)(n:Nat)(w:aN)(F:s.size<=2000000000)(G:n<s.size)(A:eH s[n]=WD)(t:bQ)(z:Nat)(o:Option Nat) (C:Xg (t=((eA s).drop n).take z)) (p:Xg (z=bT (dK WD) ((eA s).drop n))) (q:Xg (dS 0 t=o)):W_ Xi 211 #[Q_ s,Y n] w λe w'=>e=bR (Xp #[Xn #[Xs .u8 48,Q_ (bs t),Y 0],Y ((n+z:Nat)),Xr o.isSome])/\R_ w w':=by
 go_in;go_wp2_with (first|(go_at_call 210;apply (nZ _ _).mono;rw[A];rintro e w' ⟨rfl,rfl⟩));go_loop [7] (λi=>∃j:Nat,n<=j/\j<=s.size/\i=Y j/\Xg (n+bT (dK WD) ((eA s).drop n)=j+bT (dK WD) ((eA s).drop j))) (λi=>s.size-(intOf i).toNat);case atStart=>exact⟨n,Z,Z,rfl,rfl⟩
 case round=>
  obtain⟨j,B,D,rfl,b⟩:=hrel;have a:bT (dK WD) ((eA s).drop j)=0->Xg (n+z=j):=λh=>by have:=b.out;rw[h]at this;rw[p.out];exact this
  by_cases l:∃h:j<s.size,dM s[j]=W1
  .have ⟨m,f⟩:=l;rw[gE s j m]at b a;have c:dK WD s[j]=W1:=by simp[dK,f]
   rw[pK _ _ _ c]at b;have E:Xg (n+bT (dK WD) ((eA s).drop n)=j+1+bT (dK WD) ((eA s).drop (j+1))):=by grind
   clear b a c;go_wp2_with (first|(go_at_call 209;apply (oH _ _).mono;rw[f];rintro e w' ⟨rfl,rfl⟩));grind[intOf]
  have g:n+z=j:=by refine(a ?_).out;by_cases m:j<s.size;grind[gE,dK,bT];rw[gp la];rfl
  have y:Xg (s.extract n j=bs t):=by grind[rV,dw]
  have u:Xg (∀k (h:k<(bs t).size),dM (bs t)[k]=W1):=by apply X4 t;grind[dw,lN]
  have d:(bs t).size<=2000000000:=by grind[iS,dw]
  have r:Xg (dS 0 (bs t).data.toList=o):=by rw[jT];exact q
  have x:Xg (((n+z:Nat):Int)=j):=by show _=_;exact Z
  clear b a C p q g;by_cases m:j<s.size;.have f:dM s[j]=WD:=G_;clear l;cases o;all_goals go_wp2_with (first|(go_at_call 209;apply (oH _ _).mono;rw[f];rintro e w' ⟨rfl,rfl⟩)|(go_at_call 131;rw[y];apply (CY _ _ d u).mono;rw[r,IF];rintro e w' ⟨rfl,rfl⟩));rw[x];refine Wx (v:=Xp #[Xn #[Xs .u8 48,Q_ (bs t),Y 0],Y j,Xr _]) (by simp[results,results211,go_sem]) rfl ⟨rfl,?_⟩;exact(((dv _ _).alloc (Z) _).alloc s_ _)
  clear l;cases o;all_goals go_wp2_with (first|(go_at_call 131;rw[y];apply (CY _ _ d u).mono;rw[r,IF];rintro e w' ⟨rfl,rfl⟩));rw[x];refine Wx (v:=Xp #[Xn #[Xs .u8 48,Q_ (bs t),Y 0],Y j,Xr _]) (by simp[results,results211,go_sem]) rfl ⟨rfl,?_⟩;exact(((dv _ _).alloc (Z) _).alloc s_ _)
def sZ(t:bQ)(k:Nat):Nat:=if (fN.take k).contains t then 107 else 110
def ES(t:bQ):sZ t 0=110:=rfl
def NK(l:cY)(q t:bQ):(l++[q]).contains t=(l.contains t||(t==q)):=by induction l with|nil=>rw[ig,List.contains_cons];simp|cons a l b=>rw[ip,List.contains_cons,List.contains_cons,b,Bool.or_assoc]
def ET(t:bQ)(k:Nat)(h:k<9)(q:bQ)(a:q=fN[k]'(by simpa [fN]using h)):sZ t (k+1)=if q==t then 107 else sZ t k:=by
 unfold sZ;rw[hQ (by simpa [fN]using h),<-a,NK];by_cases e:q=t;subst e;simp;have b:(q==t)=WD:=by simpa using e
 have c:(t==q)=WD:=by simpa using λx=>e x.symm
 rw[b,c];simp
theorem VK(t:bQ):sZ t 9=if fN.contains t then 107 else 110:=rfl
def s9(s:ByteArray)(n:Nat)(w:aN)(C:gK w)(hs:s.size<=2000000000)(hn:n<s.size)(h2:eH s[n]=W1)(t:bQ)(z:Nat) (B:Xg (t=(s.data.toList.drop n).take z)) (V:Xg (z=bT (dK W1) (s.data.toList.drop n))):W_ Xi 211 #[Q_ s,Y n] w λe w'=>e=bR (Xp #[Xn #[Xs .u8 (sZ t 9),Q_ (bs t),Y 0],Y ((n+z:Nat)),Xr (decide (z<=16))])/\R_ w w':=by
 go_in;go_wp2_with (first|(go_at_call 210;apply (nZ _ _).mono;rw[h2];rintro e w' ⟨rfl,rfl⟩));go_loop [7] (λi=>∃j:Nat,n<=j/\j<=s.size/\i=Y j/\Xg (n+bT (dK W1) (s.data.toList.drop n)=j+bT (dK W1) (s.data.toList.drop j))) (λi=>s.size-(intOf i).toNat);case atStart=>exact⟨n,lZ,Z,rfl,rfl⟩
 case round=>
  obtain⟨j,aa,ac,rfl,u⟩:=hrel;have d:bT (dK W1) (s.data.toList.drop j)=0->Xg (n+z=j):=λh=>by have:=u.out;rw[h]at this;rw[V.out];exact this
  by_cases y:∃h:j<s.size,dK W1 s[j]=W1
  .have ⟨l,r⟩:=y;rw[gE s j l]at u d;rw[pK _ _ _ r]at u;have S:Xg (n+bT (dK W1) (s.data.toList.drop n)=j+1+bT (dK W1) (s.data.toList.drop (j+1))):=by rw[u];show _=_;exact Z
   clear u d;cases f:dM s[j]
   .have p:eH s[j]=W1:=by simpa [dK,f]using r
    clear r;go_wp2_with (first|(go_at_call 209;apply (oH _ _).mono;rw[f];rintro e w' ⟨rfl,rfl⟩)|(go_at_call 210;apply (nZ _ _).mono;rw[p];rintro e w' ⟨rfl,rfl⟩));go_round;case rel=>exact⟨j+1,Z,Z,ll,S⟩
    case measure=>simp[intOf];exact Z
   clear r;go_wp2_with (first|(go_at_call 209;apply (oH _ _).mono;rw[f];rintro e w' ⟨rfl,rfl⟩));go_round;case rel=>exact⟨j+1,Z,Z,ll,S⟩
   case measure=>simp[intOf];exact Z
  have L:n+z=j:=by refine(d ?_).out;by_cases l:j<s.size;rw[gE s j l];exact IY _ _ _ (by simpa using λh=>y ⟨l,h⟩);rw[gp la];rfl
  have HE:Xg (s.extract n j=bs t):=by show _=_;rw[rV,B.out,show j-n=z by omega]
  have W:Xg ((bs t).size=z):=by show _=_;rw[iS,B.out,ia,jq];simp;exact Z
  have X:Xg (((n+z:Nat):Int)=j):=by show _=_;exact Z
  clear u d B V L;have o:(∃h:j<s.size,dM s[j]=WD/\eH s[j]=WD)\/¬j<s.size:=by
   by_cases l:j<s.size;have r:dK W1 s[j]=WD:=by simpa using λh=>y ⟨l,h⟩
   exact ea ⟨l,by revert r;unfold dK;cases dM s[j]<;>simp,by revert r;unfold dK;cases eH s[j]<;>simp⟩;exact dz l
  clear y;have ab:=C.ym;have T:=C;clear C;rcases o with ⟨l,f,p⟩|l
  .go_wp2_with (first|(go_at_call 209;apply (oH _ _).mono;rw[f];rintro e w' ⟨rfl,rfl⟩)|(go_at_call 210;apply (nZ _ _).mono;rw[p];rintro e w' ⟨rfl,rfl⟩));rw[HE];go_loopw [12] (λi wr=>∃k:Nat,k<=9/\i=Y k/\R_ w wr/\w.heap.size+1<wr.heap.size/\I_ wr (aL w.heap.size 0)=Wy (Xs .u8 0)/\I_ wr (aL w.heap.size 1)=Wy (Xm {data:=#[]})/\I_ wr (aL w.heap.size 2)=Wy (Y 0)/\wr.frozen? (aL w.heap.size 0)=WD/\wr.frozen? (aL w.heap.size 1)=WD/\wr.frozen? (aL w.heap.size 2)=WD/\I_ wr (aL (w.heap.size+1) 0)=Wy (Xs .u8 (sZ t k))/\I_ wr (aL (w.heap.size+1) 1)=Wy (Q_ (bs t))/\I_ wr (aL (w.heap.size+1) 2)=Wy (Y 0)/\wr.frozen? (aL (w.heap.size+1) 0)=WD/\wr.frozen? (aL (w.heap.size+1) 1)=WD/\wr.frozen? (aL (w.heap.size+1) 2)=WD) (λi _=>9-(intOf i).toNat);case atStart=>exact⟨0,Z,rfl,((dv _ _).alloc lZ _).alloc s_ _,s_,lw,lw,lw,lw,lw,lw,by simp[go_sem,ES],lw,lw,lw,lw,lw⟩
   case round=>
    obtain⟨k,hk,rfl,b,g,I,A,P,D,G,Q,x,J,K,H,N,E⟩:=hrel;by_cases c:k<9
    .have ⟨q,hq⟩:∃q,q=fN[k]'(by simpa [fN]using c):=⟨_,rfl⟩;have F:I_ wr (aL 4 k)=Wy (Q_ (bs q)):=by rw[hq,b.cell (by show 4<_;exact Z)];exact T.kw k c
     have m:=ET t k c q hq;clear hq;cases a:(q==t)
     .have M:((bs q).toList==(bs t).toList)=WD:=by rw[bA,bA];exact a
      rw[a]at m;clear a;go_wp;go_quiet (fail);go_wp;go_roundw;case rel=>exact⟨k+1,Z,ll,below_drewN b _,g,I,A,P,D,G,Q,by rw[m];exact x,J,K,H,N,E⟩
      case measure=>simp[intOf];exact Z
     have M:((bs q).toList==(bs t).toList)=W1:=by rw[bA,bA];exact a
     rw[a]at m;clear a;go_wp;go_quiet (fail);go_wp;go_roundw;case rel=>refine⟨k+1,Z,ll,(below_drewN b _).setCell s_ _,by simpa using g,?_,?_,?_,?_,?_,?_,?_,?_,?_,?_,?_,?_⟩;all_goals first|(rw[m];simp[go_sem,x];done)|(simp[go_sem, *];done)
     case measure=>simp[intOf];exact Z
    obtain rfl:k=9:=Z;go_wp2;go_region;go_wp;rw[X,show decide (z<=16)=decide (((bs t).size:Int)<=16) by rw[W];simp;exact Z];refine Wx (v:=Xp #[Xn #[Xs .u8 (sZ t 9),Q_ (bs t),Y 0],Y j,Xr _]) (by simp[results,results211,go_sem, *]) rfl ⟨rfl,?_⟩;exact(((b.setCell s_ _).setCell s_ _).setCell s_ _).drew
  go_wp21;rw[HE];go_loopw [12] (λi wr=>∃k:Nat,k<=9/\i=Y k/\R_ w wr/\w.heap.size+1<wr.heap.size/\I_ wr (aL w.heap.size 0)=Wy (Xs .u8 0)/\I_ wr (aL w.heap.size 1)=Wy (Xm {data:=#[]})/\I_ wr (aL w.heap.size 2)=Wy (Y 0)/\wr.frozen? (aL w.heap.size 0)=WD/\wr.frozen? (aL w.heap.size 1)=WD/\wr.frozen? (aL w.heap.size 2)=WD/\I_ wr (aL (w.heap.size+1) 0)=Wy (Xs .u8 (sZ t k))/\I_ wr (aL (w.heap.size+1) 1)=Wy (Q_ (bs t))/\I_ wr (aL (w.heap.size+1) 2)=Wy (Y 0)/\wr.frozen? (aL (w.heap.size+1) 0)=WD/\wr.frozen? (aL (w.heap.size+1) 1)=WD/\wr.frozen? (aL (w.heap.size+1) 2)=WD) (λi _=>9-(intOf i).toNat);case atStart=>exact⟨0,Z,rfl,((dv _ _).alloc lZ _).alloc s_ _,s_,lw,lw,lw,lw,lw,lw,by simp[go_sem,ES],lw,lw,lw,lw,lw⟩
  case round=>
   obtain⟨k,hk,rfl,b,g,I,A,P,D,G,Q,x,J,K,H,N,E⟩:=hrel;by_cases c:k<9
   .have ⟨q,hq⟩:∃q,q=fN[k]'(by simpa [fN]using c):=⟨_,rfl⟩;have F:I_ wr (aL 4 k)=Wy (Q_ (bs q)):=by rw[hq,b.cell (by show 4<_;exact Z)];exact T.kw k c
    have m:=ET t k c q hq;clear hq;cases a:(q==t)
    .have M:((bs q).toList==(bs t).toList)=WD:=by rw[bA,bA];exact a
     rw[a]at m;clear a;go_wp;go_quiet (fail);go_wp;go_roundw;case rel=>exact⟨k+1,Z,ll,below_drewN b _,g,I,A,P,D,G,Q,by rw[m];exact x,J,K,H,N,E⟩
     case measure=>simp[intOf];exact Z
    have M:((bs q).toList==(bs t).toList)=W1:=by rw[bA,bA];exact a
    rw[a]at m;clear a;go_wp;go_quiet (fail);go_wp;go_roundw;case rel=>refine⟨k+1,Z,ll,(below_drewN b _).setCell s_ _,by simpa using g,?_,?_,?_,?_,?_,?_,?_,?_,?_,?_,?_,?_⟩;all_goals first|(rw[m];simp[go_sem,x];done)|(simp[go_sem, *];done)
    case measure=>simp[intOf];exact Z
   obtain rfl:k=9:=Z;go_wp2;go_region;go_wp;rw[X,show decide (z<=16)=decide (((bs t).size:Int)<=16) by rw[W];simp;exact Z];refine Wx (v:=Xp #[Xn #[Xs .u8 (sZ t 9),Q_ (bs t),Y 0],Y j,Xr _]) (by simp[results,results211,go_sem, *]) rfl ⟨rfl,?_⟩;exact(((b.setCell s_ _).setCell s_ _).setCell s_ _).drew
def MK(r:qV)(n:Nat):Xa:=Xp #[Xn #[Xs .u8 r.c_,Xm (bs r.x_),Y 0],Y ((n+r.size:Nat)),Xr r.ok]
def Sq(s:ByteArray)(n:Nat)(w:aN)(d:gK w)(b:s.size<=2000000000)(c:n<s.size):W_ Xi 211 #[Q_ s,Y n] w λe w'=>e=bR (MK (iV ((eA s).drop n) (eH s[n])) n)/\R_ w w':=by cases a:eH s[n];exact Sx s n w b c a _ _ _ aJ aJ aJ;apply (s9 s n w d b c a _ _ aJ aJ).mono;grind[MK,iV,VK]
def wi(c:R_ N V):(∀b o,b<H_ N->I_ V (aL b o)=I_ N (aL b o))/\(∀b o,b<H_ N->V.frozen? (aL b o)=N.frozen? (aL b o)):=(by grind[Below.cell,Below.frozen])
def gK.alloc{w:aN}(h:gK w)(o:Obj):gK (w.alloc o):=(by grind[gK.below,eo,dv])
def Lt(s:ByteArray)(n:Nat)(w:aN)(c:gK w)(l:s.size<=2000000000)(m:n<s.size)(f:(dM s[n]||eH s[n])=W1)(r:qV) (k:Xg (iV ((eA s).drop n) (eH s[n])=r)):W_ Xi 162 #[Q_ s,Y n] w λe w'=>e=bR (MK r n)/\R_ w w':=by
 have j:Xg (∀o,gK (w.alloc o)):=λo=>c.alloc o;clear c;have a:dM s[n]=W1\/(dM s[n]=WD/\eH s[n]=W1):=by grind
 clear f;rcases a with d|⟨d,i⟩;all_goals
  go_in;go_wp2_with (first|(go_at_call 209;apply (oH _ _).mono;rw[d];rintro e w' ⟨rfl,rfl⟩)|(go_at_call 210;apply (nZ _ _).mono;rw[i];rintro e w' ⟨rfl,rfl⟩));apply (Sq s n _ (j _) l m).mono;rw[k.out,MK];rintro e g ⟨rfl,b⟩;have ⟨hc,hf⟩:=wi b;have p:H_ w<H_ g:=by have:=b.size;simp at this;exact Z
  go_wp2;refine Wx (v:=Xp #[Xn #[Xs .u8 r.c_,Q_ (bs r.x_),Y 0],Y ((n+r.size:Nat)),Xr r.ok]) (by simp[results,results162,go_sem,hc]) rfl ⟨rfl,?_⟩;exact((((((dv _ _).alloc (Z) _).trans (b.mono s_)).setCell s_ _).setCell s_ _).setCell s_ _)
def VB(b:UInt8):iG b=(((b.toNat:Int) !=34)&&((b.toNat:Int) !=10)):=by grind[iG]
def ID(Y_:a:=by go_wp2_with fail;rw[HE];go_region;go_wp2_with fail;rw[HZ,HK2];refine Wx (v:=Xp #[Xn #[Xs .u8 115,Q_ (bs t),Y 0],Y ((j:Int)+1),Xr _]) (by simp[results,results162,go_sem]) rfl ⟨rfl,?_⟩;exact(((dv _ _).alloc (Z) _).alloc s_ _).drew):a:=Y_
def Qf(s:ByteArray)(n:Nat)(w:aN)(F:s.size<=2000000000)(G:n<s.size)(v:dM s[n]=WD)(r:eH s[n]=WD)(y:s[n].toNat=34)(t:bQ)(z:Nat)(ok:Bool) (k:Xg (t=((eA s).drop (n+1)).take z)) (m:Xg (z=bT iG ((eA s).drop (n+1)))) (c:Xg (ok=(decide (((eA s).drop (n+1))[z]?=Wy 34)&&decide (z<=100)))):W_ Xi 162 #[Q_ s,Y n] w λe w'=>e=bR (Xp #[Xn #[Xs .u8 115,Q_ (bs t),Y 0],Y ((n+(z+2):Nat)),Xr ok])/\R_ w w':=by
 have B:((s[n].toNat:Int)==34)=W1:=G_;clear y;go_in;go_wp2_with (first|(go_at_call 209;apply (oH _ _).mono;rw[v];rintro e w' ⟨rfl,rfl⟩)|(go_at_call 210;apply (nZ _ _).mono;rw[r];rintro e w' ⟨rfl,rfl⟩));go_loop [8] (λi=>∃j:Nat,n+1<=j/\j<=s.size/\i=Y j/\Xg (n+1+bT iG ((eA s).drop (n+1))=j+bT iG ((eA s).drop j))) (λi=>s.size-(intOf i).toNat);case atStart=>exact⟨n+1,Z,Z,ll,rfl⟩
 case round=>
  obtain⟨j,u,D,rfl,d⟩:=hrel;have a:bT iG ((eA s).drop j)=0->Xg (n+1+z=j):=λh=>by have:=d.out;rw[h]at this;rw[m.out];exact this
  by_cases o:∃h:j<s.size,iG s[j]=W1
  .have ⟨p,b⟩:=o;have q:=mH s[j];rw[gE s j p]at d a;rw[pK _ _ _ b]at d;have E:Xg (n+1+bT iG ((eA s).drop (n+1))=j+1+bT iG ((eA s).drop (j+1))):=by grind
   clear d a;rw[VB,Bool.and_eq_true]at b;have ⟨hp1,hp2⟩:=b;go_wp;grind[intOf]
  have f:n+1+z=j:=by refine(a ?_).out;by_cases p:j<s.size;grind[gE,bT];rw[gp la];rfl
  have HE:Xg (s.extract (n+1) j=bs t):=by grind[rV,dw]
  have A:Xg ((bs t).size=z):=by show _=_;rw[iS,k.out,ia,jq];simp;exact Z
  have HZ:Xg (((n+(z+2):Nat):Int)=(j:Int)+1):=by show _=_;exact Z
  by_cases p:j<s.size;have q:=mH s[j];have g:Xg (ok=(decide (s[j]=34)&&decide (z<=100))):=by show _=_;rw[c.out,yR s (n+1) z Z];grind
  have b:iG s[j]=WD:=G_;rw[VB]at b;clear d a k m f o c;by_cases l:s[j].toNat=34;have C:((s[j].toNat:Int) !=34)=WD:=G_;have x:((s[j].toNat:Int)==34)=W1:=G_;have HK2:Xg (ok=decide (((bs t).size:Int)<=100)):=by show _=_;rw[g,A,show s[j]=34 from jr.1 G_];grind
  clear l g b;exact ID;have C:((s[j].toNat:Int) !=34)=W1:=G_;have x:((s[j].toNat:Int)==34)=WD:=G_;have H:((s[j].toNat:Int) !=10)=WD:=G_;have HK2:Xg (ok=WD):=by rw[g,show decide (s[j]=34)=WD from gh λe=>l (by rw[e];rfl)];rfl
  clear l g b;exact ID;have HK2:Xg (ok=WD):=by grind[AF]
  clear d a k m f o c;exact ID
theorem BJ:∀k (h:k<21),aA (eM[k]'(by simpa [eM]using h))<=2:=d_
def tB(l:bQ)(k:Nat):Prop:=∀o∈eM.take k,eG l o=WD
theorem FF(h:K<21)(b:tB L K)(a:eG L (eM[K]'(by simpa [eM]using h))=WD):tB L (K+1):=by grind[List.take_succ_eq_append_getElem,tB]
theorem JX(h:K<21)(c:tB L K)(q:bQ)(b:q=eM[K]'(by simpa [eM]using h))(a:eG L q=W1):jS L={c_:=112,x_:=q,size:=aA q,ok:=W1}:=by
 have e:eM.find? (λo=>eG L o)=Wy q:=by grind[List.find?_eq_some_iff_getElem,List.mem_take_iff_getElem,tB]
 unfold jS;rw[e]
theorem FE(b:tB L 21):jS L={c_:=0,x_:=[],size:=0,ok:=WD}:=by
 have e:eM.find? (λo=>eG L o)=none:=by rw[List.find?_eq_none];intro o a;rw[b o (by exact a)];simp
 unfold jS;rw[e]
def M1(s:ByteArray)(n:Nat)(w:aN)(g:gK w)(l:s.size<=2000000000)(D:n<s.size)(t:dM s[n]=WD)(m:eH s[n]=WD)(x:¬s[n].toNat=34)(r:qV) (C:Xg (jS ((eA s).drop n)=r)):W_ Xi 162 #[Q_ s,Y n] w λe w'=>e=bR (MK r n)/\R_ w w':=by
 have y:((s[n].toNat:Int)==34)=WD:=G_;clear x;have B:Xg (∀o,gK (w.alloc o)):=λo=>g.alloc o;clear g;go_in;go_wp2_with (first|(go_at_call 209;apply (oH _ _).mono;rw[t];rintro e w' ⟨rfl,rfl⟩)|(go_at_call 210;apply (nZ _ _).mono;rw[m];rintro e w' ⟨rfl,rfl⟩));go_loop [10] (λi=>∃k:Nat,k<=21/\i=Y k/\Xg (tB ((eA s).drop n) k)) (λi=>21-(intOf i).toNat);case atStart=>exact⟨0,Z,rfl,λo u=>by simp at u⟩
 case round=>
  obtain⟨k,A,rfl,f⟩:=hrel;by_cases d:k<21
  .have ⟨q,hq⟩:∃q,q=eM[k]'(by simpa [eM]using d):=(by simp);have p:∀o,dR (w.alloc o) 0 k (Q_ (bs q)):=(by grind[gK.ot,dw]);have z:aA q<=2:=by grind[BJ]
   have b:(bs q).size<=100:=by rw[iS];exact Z
   have j:=hq;clear hq;cases a:eG ((eA s).drop n) q;.have c:Xg (tB ((eA s).drop n) (k+1)):=(by grind[FF,dw]);clear f j;go_wp2_with (first|(go_at_call 208;apply (uB s _ n _ l b Z).mono;rw[jT,a];rintro e w' ⟨rfl,rfl⟩));grind[intOf]
   have c:Xg (r={c_:=112,x_:=q,size:=aA q,ok:=W1}):=by grind[dw,JX]
   clear f j;go_wp2_with (first|(go_at_call 208;apply (uB s _ n _ l b Z).mono;rw[jT,a];rintro e w' ⟨rfl,rfl⟩));go_region;go_wp;rw[c,MK];refine Wx (v:=Xp #[Xn #[Xs .u8 112,Q_ (bs q),Y 0],Y ((n+aA q:Nat)),Xr W1]) (by simp[results,results162,go_sem,iS]) rfl ⟨rfl,?_⟩;grind[Below.drew,eo,dv]
  obtain rfl:k=21:=Z;have c:Xg (r={c_:=0,x_:=[],size:=0,ok:=WD}):=by grind[dw,FE]
  clear f;go_wp;rw[c,MK];refine Wx (v:=Xp #[Xn #[Xs .u8 0,Q_ (bs []),Y 0],Y ((n:Nat)),Xr WD]) (by simp[results,results162,go_sem,bs]) rfl ⟨rfl,?_⟩;grind[eo,dv]
def WV(s:ByteArray)(n:Nat)(w:aN)(g:gK w)(d:s.size<=2000000000)(c:n<s.size):W_ Xi 162 #[Q_ s,Y n] w λe w'=>e=bR (MK (cW ((eA s).drop n)) n)/\R_ w w':=by
 have e:=gE s n c;cases a:(dM s[n]||eH s[n]);rw[Bool.or_eq_false_iff]at a;by_cases f:s[n].toNat=34;have b:cW ((eA s).drop n)=oN ((eA s).drop (n+1)):=by grind[cW]
 rw[b];exact Qf s n w d c a.1 a.2 f _ _ _ aJ aJ aJ;have b:cW ((eA s).drop n)=jS ((eA s).drop n):=by grind[cW]
 rw[b];exact M1 s n w g d c a.1 a.2 f _ aJ;have b:cW ((eA s).drop n)=iV ((eA s).drop n) (eH s[n]):=by rw[e,cW,ec a]
 rw[b];exact Lt s n w g d c a _ aJ
def Py:(prog.info? 220).map (λi=>(i.zero,i.size,i.bytes))=Wy (Wy (Xn #[Xs .u8 0,Q_ (bs []),Y 0]),3,32):=k_
def zN(t:bH):List Xa:=[Xs .u8 t.c_,Xm (bs t.x_),Y t.l_]
def qG:List bH->List Xa|[]=>[]|t::ts=>zN t++qG ts
def AU(a b:List bH):qG (a++b)=qG a++qG b:=by induction a with|nil=>rfl|cons t a c=>simp[qG,c]
def W8(s:ByteArray)(w:aN)(c:s.size<=2000000000)(b:Nat)(a:Xg (cK s.size (eA s)=b)):W_ Xi 161 #[Q_ s,Y 0] w λe w'=>e=bR (Y b)/\w'=w:=by have h:=QD s 0 w c (Z);rw[List.drop_zero,a.out,ic]at h;exact h
def Mc(s:ByteArray)(x:Int)(n:Nat)(c:x=n)(w:aN)(b:s.size<=2000000000)(d:n<=s.size)(m:Nat)(a:Xg (n+cK s.size ((eA s).drop n)=m)):W_ Xi 161 #[Q_ s,Y x] w λe w'=>e=bR (Y m)/\w'=w:=by subst c;have h:=QD s n w b d;rw[a.out]at h;exact h
def xV(s:ByteArray)(x:Int)(n:Nat)(b:x=n)(w:aN)(a:s.size<=2000000000)(c:n<=s.size):W_ Xi 98 #[Q_ s,Y x] w λe w'=>e=bR (Y (bD ((eA s).take n)))/\w'=w:=by subst b;exact O9 s n w a c
def UW(s:ByteArray)(k f:Nat)(b:k<s.size)(a:(cW ((eA s).drop k)).ok=W1)(m:Nat) (c:m=k+(cW ((eA s).drop k)).size+cK s.size ((eA s).drop (k+(cW ((eA s).drop k)).size))):fF (f+1) ((eA s).take k) ((eA s).drop k)=jG [{c_:=(cW ((eA s).drop k)).c_,x_:=(cW ((eA s).drop k)).x_,l_:=bD ((eA s).take k)}] (fF f ((eA s).take m) ((eA s).drop m)):=by have d:aA ((eA s).drop k)=s.size-k:=s_;grind[List.drop_drop,LE_,fF,jG]
def jZ(h:N.ownsRow K e T Q W P)(m:R_ N V):V.ownsRow K e T Q W P:=by refine⟨h.1,?_⟩;rcases h.2 with i|⟨g,d,c,l,i,o,k⟩;grind;refine dz ⟨g,d,c,l,i,?_,k⟩;grind[ef]
theorem bX(h:N.ownsRow K e T Q W P):∀k,Q.ownBlock=Wy k->K<=k:=by intro k c;rcases h.2 with ⟨rfl,_⟩|⟨g,i,d,rfl,j,_⟩;cases c;have:g=k:=fo c;exact Z
def E4(x:Except Nat (List bH))(w:aN)(e:Xc)(w':aN):Prop:=R_ w w'/\match x with|.error n=>e=bR (Xp #[bP,Y n])|.ok ts=>∃v,e=bR (Xp #[v,Y 0])/\w'.ownsRow w.heap.size 220 3 v (aA ts) (qG ts)
def IQ(s:ByteArray)(w:aN)(T:gK w)(hs:s.size<=2000):W_ Xi 99 #[Q_ s] w (E4 (gS (eA s)) w):=by
 have d:s.size<=2000000000:=Z;have ⟨i0,hi,hz0,hz1,hz2⟩:=info_parts Py;have W:=T;have H:cK s.size (eA s)<=s.size:=by have:=rC s.size (eA s);simpa using this
 have X:Xg (gS (eA s)=fF (s.size+1) ((eA s).take (cK s.size (eA s))) ((eA s).drop (cK s.size (eA s)))):=by show _=_;unfold gS;simp
 generalize K:cK s.size (eA s)=N at*;have HB1:=K;generalize gS (eA s)=y at*;go_in;go_wp2_with (go_at_call 161;refine sa (W8 s _ d N HB1) λB q=>?_;obtain rfl:=q.symm);go_loopw [4,5] (λv i wr=>∃(k f:Nat) (o:List bH),k<=s.size/\s.size+1<=k+f/\aA o<=k/\i=Y k/\wr.ownsRow (H_ w) 220 3 v (aA o) (qG o)/\R_ w wr/\Xg (y=jG o (fF f ((eA s).take k) ((eA s).drop k)))) (λ_ i _=>s.size-(intOf i).toNat);case atStart=>exact⟨N,s.size+1,[],H,Z,s_,rfl,World.ownsRow_nil _ _ _ _,dv _ _,by rw[X,wQ];rfl⟩
 case round=>
  obtain⟨k,f,o,M,hf,V,rfl,n,b,A⟩:=hrel;by_cases p:k<s.size
  .obtain⟨f,rfl⟩:∃I,f=I+1:=⟨f-1,Z⟩;have hgr:=W.below b;have P:aA ((eA s).drop k)=s.size-k:=s_;cases l:(cW ((eA s).drop k)).ok
   .have z:Xg (y=.error (bD ((eA s).take k))):=by rw[A,AT _ _ _ Z l];rfl
    have J:=l;have F:=hgr;go_wp;apply (WV s k _ F d p).mono;rw[MK,J];generalize cW ((eA s).drop k)=r;rintro e L ⟨rfl,t⟩;go_wp2_with (go_at_call 98;apply mJ (xV s _ k aJ _ d M));go_ret2;refine⟨(b.trans (t.mono (by have:=b.size;exact Z))).alloc (by have:=b.size;have:=t.size;exact Z) _,?_⟩;rw[z];exact aJ
   have G:=uA _ l;rw[P]at G;have ⟨m,hm⟩:∃m,m=k+(cW ((eA s).drop k)).size+cK s.size ((eA s).drop (k+(cW ((eA s).drop k)).size)):=(by simp);have aa:m<=s.size:=by grind[rC]
   have S:=UW s k f p l m hm;have z:Xg (y=jG (o++[{c_:=(cW ((eA s).drop k)).c_,x_:=(cW ((eA s).drop k)).x_,l_:=bD ((eA s).take k)}]) (fF f ((eA s).take m) ((eA s).drop m))):=by rw[A,S,vG];rfl
   have J:=l;have F:=hgr;have HM:=hm.symm;clear A l P hgr S hm;go_wp;apply (WV s k _ F d p).mono;rw[MK,J];generalize cW ((eA s).drop k)=r at*;rintro e L ⟨rfl,t⟩;have hown1:=jZ n t;have hbw1:=b.trans (t.mono b.size);go_wp2_with (first|(go_at_call 98;refine sa (xV s _ k aJ _ d M) λB q=>?_;obtain rfl:=q.symm)|(at_builtin;refine wpList_append_own _ aJ _ _ 212 aJ (H_ w) 220 i0 _ 3 32 underlying212 hi hz0 hz1 hz2 aJ d_ _ _ _ rfl ((hown1.alloc _).alloc _) (aL (H_ L+1) 0) 1 1 (zN {c_:=r.c_,x_:=r.x_,l_:=bD ((eA s).take k)}) rfl rfl ?c1 ?c2 ?c3 ?c4 ?c5 ?_));case c1=>intro j u a;match j,a with|0,a=>simp[zN]at a;subst a;simp[Addr.add,go_sem]|1,a=>simp[zN]at a;subst a;simp[Addr.add,go_sem]|2,a=>simp[zN]at a;subst a;simp[Addr.add,go_sem]|j+3,a=>simp[zN]at a
   case c2=>intro u x;simp[zN,ew,jo,or_false]at x;rcases x with rfl|rfl|rfl<;>rfl
   case c3=>unfold maxLen;exact Z
   case c4=>exact Z
   case c5=>have:=hbw1.size;simp;exact Z
   intro C Q c g _;have hbw2:=((hbw1.alloc hbw1.size _).alloc (by have:=hbw1.size;simp;exact Z) _).grown g (by have:=hbw1.size;simp;exact Z) (bX hown1);have D:Q.ownsRow (H_ w) 220 3 C (aA (o++[({c_:=r.c_,x_:=r.x_,l_:=bD ((eA s).take k)}:bH)])) (qG (o++[{c_:=r.c_,x_:=r.x_,l_:=bD ((eA s).take k)}])):=by rw[AU,et];exact c
   have E:k+r.size<=s.size:=Z;go_wp2_with (first|(go_at_call 161;refine sa (Mc s _ (k+r.size) s_ _ d E m HM) λB q=>?_;obtain rfl:=q.symm));grind[intOf]
  obtain rfl:k=s.size:=Z;obtain⟨f,rfl⟩:∃I,f=I+1:=⟨f-1,Z⟩;have z:Xg (y=.ok (o++[{c_:=101,x_:=[],l_:=bD ((eA s).take s.size)}])):=by rw[A,qW _ _ _ s_];rfl
  go_wp2_with (first|(go_at_call 98;refine sa (xV s _ s.size aJ _ d (Z)) λB q=>?_;obtain rfl:=q.symm)|(at_builtin;refine wpList_append_own _ aJ _ _ 212 aJ (H_ w) 220 i0 _ 3 32 underlying212 hi hz0 hz1 hz2 aJ d_ _ _ _ rfl (n.alloc _) (aL (H_ wr) 0) 1 1 (zN {c_:=101,x_:=[],l_:=bD ((eA s).take s.size)}) rfl rfl ?c1 ?c2 ?c3 ?c4 ?c5 ?_));case c1=>intro j u a;match j,a with|0,a=>simp[zN]at a;subst a;simp[Addr.add,go_sem]|1,a=>simp[zN,bs]at a;subst a;simp[Addr.add,go_sem]|2,a=>simp[zN]at a;subst a;simp[Addr.add,go_sem]|j+3,a=>simp[zN]at a
  case c2=>intro u x;simp[zN,ew,jo,or_false]at x;rcases x with rfl|rfl|rfl<;>rfl
  case c3=>unfold maxLen;exact Z
  case c4=>exact Z
  case c5=>have:=b.size;simp;exact Z
  intro C Q c g _;go_wp2;go_ret2;refine⟨(b.alloc b.size _).grown g (by have:=b.size;simp;exact Z) (bX n),?_⟩;rw[z];refine⟨C,aJ,?_⟩;rw[AU,et];exact c
structure Ctx where
 pb:Nat
 g:Nat
 cap:Nat
 ts:List bH
structure At(C:Ctx)(w:aN)(p bad:Nat):Prop where
 i_:w.heap[C.pb]?=Wy (Xt #[Xl (Wy (aL C.g 0)) (aA C.ts) C.cap,Y p,Y bad] 217)
 row:∃cur,w.heap[C.g]?=Wy (Xt cur 220)/\cur.toList.take (aA C.ts*3)=qG C.ts
 ne:C.g≠C.pb
 lt:p<aA C.ts
 len:aA C.ts<=3000
 cap:aA C.ts<=C.cap
 last:(aR C.ts (aA C.ts-1)).c_=101
 pos:∀q,q<aA C.ts->(aR C.ts q).l_≠0
structure Fr(pb:Nat)(w w':aN):Prop where
 os:w'.os=w.os
 tape:w'.tape=w.tape
 output:w'.output=w.output
 size:w.heap.size<=w'.heap.size
 block:∀k,k<w.heap.size->k≠pb->w'.heap[k]?=w.heap[k]?
theorem Fr.refl(pb:Nat)(w:aN):Fr pb w w:=⟨rfl,rfl,rfl,Z,s_⟩
theorem Fr.trans{pb:Nat}{a b c:aN}(h:Fr pb a b)(k:Fr pb b c):Fr pb a c:=⟨k.os.trans h.os,k.tape.trans h.tape,k.output.trans h.output,em h.size k.size,λi d e=>(k.block i (eh d h.size) e).trans (h.block i d e)⟩
theorem Fr.below{pb:Nat}{a:aN}(h:R_ N a):Fr pb N a:=⟨h.os,h.tape,h.output,h.size,λk b _=>h.block k b⟩
theorem Fr.drew{b:Nat}{a:aN}(h:Fr b a N):Fr b a N.drew:=⟨h.os,h.tape,h.output,h.size,h.block⟩
theorem Fr.drewN(h:Fr K N V)(n:Nat):Fr K N (V.drewN n):=⟨h.os,h.tape,h.output,h.size,h.block⟩
theorem Fr.alloc{pb:Nat}{a w:aN}(h:Fr pb a w)(o:Obj):Fr pb a (w.alloc o):=(by grind[Fr.trans,Fr.below,eo,dv])
theorem Fr.setCell{b:Nat}(h:Fr b N V){p:Addr}(c:p.block=b\/N.heap.size<=p.block)(u:aX):Fr b N (V.setCell p u):=⟨h.os,h.tape,h.output,by have:=h.size;grind[World.setCell],(by grind[ej,Fr.block])⟩
def aH{b:Nat}{o:Obj}(h:N.heap[b]?=Wy o):b<N.heap.size:=by grind
theorem aB{w:aN}{b i:Nat}(h:w.heap[b]?=Wy (Xt c e)){v:aX}(a:c[i]?=Wy v):I_ w (aL b i)=Wy v:=by simp[World.cell?,h,a]
theorem aF{b i:Nat}(h:N.heap[b]?=Wy (Xt c e)):N.frozen? (aL b i)=WD:=by simp[World.frozen?,h]
theorem aP{i:Nat}{f:Nat×Nat}(h:N.heap[K]?=Wy (Xt c e f)){u:aX}:(c9 N (aL K i) u).heap[K]?=Wy (Xt (c.setIfInBounds i u) e f):=by grind[World.setCell]
def Ls(a:List bH)(p:Nat)(h:p<aA a):(qG a)[p*3]?=Wy (Xs .u8 (aR a p).c_)/\(qG a)[p*3+1]?=Wy (Q_ (bs (aR a p).x_))/\(qG a)[p*3+1+1]?=Wy (Y (aR a p).l_):=by induction a generalizing p with|nil=>simp at h|cons t a b=>cases p with|zero=>simp[qG,zN,aR]|succ p=>grind[qG,zN,aR]
def At.tok{C:Ctx}(h:At C N K T):dR N C.g (K*3) (Xs .u8 (aR C.ts K).c_)/\dR N C.g (K*3+1) (Q_ (bs (aR C.ts K).x_))/\dR N C.g (K*3+1+1) (Y (aR C.ts K).l_):=by have ⟨cur,h1,h2⟩:=h.row;have ⟨t0,t1,t2⟩:=Ls C.ts K h.lt;grind[aB]
theorem At.below{C:Ctx}{a:aN}(h:At C N K T)(b:R_ N a):At C a K T:=by have ⟨cur,h1,h2⟩:=h.row;exact⟨by grind[ef,At.i_],lm,h.ne,h.lt,h.len,h.cap,h.last,h.pos⟩
def zM(t:bH):Xa:=Xn #[Xs .u8 t.c_,Xm (bs t.x_),Y t.l_]
def J8(f g d p n:Nat)(w:aN)(a c:Int)(b:ByteArray)(x:p<n)(_hn:n<=3000)(_hnc:n<=d)(j:f<H_ w)(q:g<H_ w) (r:dR w f 0 (P_ (Wy (aL g 0)) n d)) (k:dR w f 1 (Y p)) (l:dR w g (p*3) (Xs .u8 a)) (m:dR w g (p*3+1) (Q_ b)) (i:dR w g (p*3+1+1) (Y c)):W_ Xi 164 #[aY f] w λe w'=>e=bR (Xn #[Xs .u8 a,Q_ b,Y c])/\R_ w w':=by
 have y:∀o,dR (w.alloc o) f 0 (P_ (Wy (aL g 0)) n d):=λo=>by grind[World.cell?_alloc_past]
 have t:∀o,dR (w.alloc o) f 1 (Y p):=λo=>by grind[World.cell?_alloc_past]
 have s:∀o,dR (w.alloc o) g (p*3) (Xs .u8 a):=λo=>by grind[World.cell?_alloc_past]
 have z:∀o,dR (w.alloc o) g (p*3+1) (Q_ b):=λo=>by grind[World.cell?_alloc_past]
 have u:∀o,dR (w.alloc o) g (p*3+1+1) (Y c):=λo=>by grind[World.cell?_alloc_past]
 clear r k l m i;go_in;go_wp2;go_region;go_wp2;refine Wx (v:=Xn #[Xs .u8 a,Q_ b,Y c]) (by simp[results,results164,go_sem]) rfl ⟨rfl,?_⟩;grind[Below.drew,eo,dv]
def lU(C:Ctx)(w:aN)(p bad:Nat)(h:At C w p bad):W_ Xi 164 #[aY C.pb] w λe w'=>e=bR (zM (aR C.ts p))/\R_ w w':=J8 C.pb C.g C.cap p (aA C.ts) w _ _ _ h.lt h.len h.cap (aH h.i_) (by grind[At.row]) (aB h.i_ rfl) (aB h.i_ rfl) h.tok.1 h.tok.2.1 h.tok.2.2
def At.cells{C:Ctx}{w a:aN}(h:At C w K T)(e:R_ w a):C.pb<a.heap.size/\(∀o,I_ (a.alloc o) (aL C.pb 1)=Wy (Y K))/\(∀o,I_ (a.alloc o) (aL C.pb 2)=Wy (Y T))/\I_ a (aL C.pb 1)=Wy (Y K)/\I_ a (aL C.pb 2)=Wy (Y T)/\(∀i,(∀o,(a.alloc o).frozen? (aL C.pb i)=WD)/\a.frozen? (aL C.pb i)=WD):=by have b:=h.below e;have c:=aH b.i_;refine⟨c,λo=>?_,λo=>?_,aB b.i_ aJ,aB b.i_ aJ,λi=>⟨λo=>?_,aF b.i_⟩⟩;rw[World.cell?_alloc_past _ _ _ c];exact aB b.i_ aJ;rw[World.cell?_alloc_past _ _ _ c];exact aB b.i_ aJ;have d:=b.below ((dv _ _).alloc lZ o);exact aF d.i_
def AD(C:Ctx)(w:aN)(p bad:Nat)(x:ByteArray)(h:At C w p bad):W_ Xi 216 #[aY C.pb,Q_ x] w λe w'=>e=bR (Xr (decide (bad=0)&&cA C.ts p (eA x)))/\R_ w w':=by
 have i:Xg (cA C.ts p (eA x)=(((aR C.ts p).c_==112||(aR C.ts p).c_==107)&&(aR C.ts p).x_==eA x)):=rfl;have n:Xg (((bs (aR C.ts p).x_).toList==x.toList)=((aR C.ts p).x_==eA x)):=by show _=_;rw[bA,Lib.toList_data]
 have f:=lU C w p bad h;rw[zM]at f;have b:Xg (W_ Xi 164 #[aY C.pb] w λe w'=>e=bR (Xn #[Xs .u8 (aR C.ts p).c_,Q_ (bs (aR C.ts p).x_),Y (aR C.ts p).l_])/\R_ w w'):=f;clear f;have m:=h;clear h;generalize aR C.ts p=t at*;have ⟨c,te,li⟩:=t;simp only at i n b;go_in;go_wp;refine sa b λj d=>?_;obtain⟨r,-,u,-,-,-⟩:=m.cells d;clear b;have a:R_ w (eF j #[Xs .u8 c,Q_ (bs te),Y li] 220):=d.alloc d.size _;by_cases g:bad=0
 .subst g;by_cases l:c=112;.subst l;go_wp2;go_ret;exact⟨gO ng,a⟩
  have s:((c:Int)==112)=WD:=G_;by_cases k:c=107;.subst k;go_wp2;go_ret;exact⟨gO ng,a⟩
  have q:((c:Int)==107)=WD:=G_;go_wp2;go_ret;exact⟨gO (by rw[i];grind),a⟩
 have o:((bad:Int)==0)=WD:=G_;go_wp2;go_ret;exact⟨gO (by simp[g]),a⟩
def At.move{C:Ctx}(h:At C N K T)(d:R_ N V)(q:Nat)(c:q<aA C.ts):At C (c9 V (aL C.pb 1) (Y q)) q T/\Fr C.pb N (c9 V (aL C.pb 1) (Y q)):=by have b:=h.below d;have ⟨cur,r1,r2⟩:=b.row;refine⟨⟨?_,⟨cur,?_,r2⟩,h.ne,c,h.len,h.cap,h.last,h.pos⟩,qj⟩;rw[aP b.i_];rfl;grind[ej,At.ne]
theorem At.CT{C:Ctx}(h:At C N K T)(c:R_ N V)(q:Nat):At C (c9 V (aL C.pb 2) (Y q)) K q/\Fr C.pb N (c9 V (aL C.pb 2) (Y q)):=by have b:=h.below c;have ⟨cur,r1,r2⟩:=b.row;refine⟨⟨?_,⟨cur,?_,r2⟩,h.ne,h.lt,h.len,h.cap,h.last,h.pos⟩,qj⟩;rw[aP b.i_];rfl;grind[ej,At.ne]
def BU(a:Int)(b:ByteArray)(c:Int)(w:aN):(Instr.field 220 (Xn #[Xs .u8 a,Q_ b,Y c]) 2).run Xi w=.ok (Y c) w:=k_
def DX(C:Ctx)(w:aN)(p:Nat)(h:At C w p 0):W_ Xi 101 #[aY C.pb] w λe w'=>e=fA/\At C w' p (aR C.ts p).l_/\Fr C.pb w w':=by obtain⟨m,-,-,-,n,j⟩:=h.cells (dv _ w);have b:=lU C w p 0 h;rw[zM]at b;have g:=h;have a:=O b;go_in;go_wp;refine sa a λl i=>?_;obtain⟨c,-,-,-,k,d⟩:=g.cells i;have f:=BU;go_wp2;go_end0;grind[At.CT,dw]
def YK(C:Ctx)(w:aN)(p bad:Nat)(h:At C w p bad)(c:bad≠0):W_ Xi 101 #[aY C.pb] w λe w'=>e=fA/\w'=w:=by obtain⟨b,-,-,-,d,a⟩:=h.cells (dv _ w);go_in;go_wp2;go_end0;simp
def At.next{C:Ctx}{p:Nat}(h:At C N p K)(a:(aR C.ts p).c_≠101):p+1<aA C.ts:=by grind[At.last,aR]
def KJ{a:List bH}(h:cA a K L=W1):(aR a K).c_≠101:=by grind[cA]
theorem Fr.wz(h:R_ N V)(k:Fr K V X):Fr K N X:=(Fr.below h).trans k
theorem Fr.ud(h:Fr K N V)(k:R_ V X):Fr K N X:=h.trans (Fr.below k)
def Qy(C:Ctx)(w:aN)(p:Nat)(x:ByteArray)(h:At C w p 0)(f:cA C.ts p (eA x)=W1):W_ Xi 214 #[aY C.pb,Q_ x] w λe w'=>e=fA/\At C w' (p+1) 0/\Fr C.pb w w':=by have hp:=h.next (KJ f);have b:=h.len;have g:=AD C w p 0 x h;have a:=O g;have c:=O h;go_in;go_wp;refine sa a λj d=>?_;obtain⟨k,-,-,l,m,i⟩:=c.cells d;go_wp2;go_end0;have:=c.move d (p+1) hp;grind
def Om(C:Ctx)(w:aN)(p:Nat)(x:ByteArray)(h:At C w p 0)(k:cA C.ts p (eA x)=WD):W_ Xi 214 #[aY C.pb,Q_ x] w λe w'=>e=fA/\At C w' p (aR C.ts p).l_/\Fr C.pb w w':=by have g:=AD C w p 0 x h;have a:=O g;have d:=O h;go_in;go_wp;refine sa a λb f=>?_;have j:=O (DX C b p (d.below f));go_wp2_with fail;refine sa j λl ⟨i,c⟩=>?_;go_wp2;apply Wx (results_none aJ _ _ _) aJ;grind[Fr.wz]
def J_(C:Ctx)(w:aN)(p bad:Nat)(x:ByteArray)(h:At C w p bad)(c:bad≠0):W_ Xi 214 #[aY C.pb,Q_ x] w λe w'=>e=fA/\At C w' p bad/\Fr C.pb w w':=by have g:=AD C w p bad x h;have a:=O g;have d:=O h;go_in;go_wp;refine sa a λb f=>?_;have i:=O (YK C b p bad (d.below f) c);go_wp2_with fail;refine sa i λk j=>?_;go_wp2;apply Wx (results_none aJ _ _ _) aJ;grind[At.below,Fr.below]
def Jw(C:Ctx)(w:aN)(p:Nat)(x:ByteArray)(h:At C w p 0)(c:cA C.ts p (eA x)=W1):W_ Xi 217 #[aY C.pb,Q_ x] w λe w'=>e=bR (Xr W1)/\At C w' (p+1) 0/\Fr C.pb w w':=by have j:=h.next (KJ c);have i:=h.len;have b:=AD C w p 0 x h;rw[c]at b;have a:=O b;have g:=O h;clear h b c;go_in;go_wp;refine sa a λl d=>?_;obtain⟨n,-,-,m,o,f⟩:=g.cells d;have k:=(f 1).2;clear f a;go_wp2;go_ret;refine⟨aJ,?_⟩;have:=g.move d (p+1) j;grind
def Fy(C:Ctx)(w:aN)(p bad:Nat)(x:ByteArray)(h:At C w p bad)(f:(decide (bad=0)&&cA C.ts p (eA x))=WD):W_ Xi 217 #[aY C.pb,Q_ x] w λe w'=>e=bR (Xr WD)/\R_ w w':=by have c:=AD C w p bad x h;have a:=O c;go_in;go_wp;refine sa a λd b=>?_;go_wp2;go_ret;exact⟨aJ,b⟩
def Rj(C:Ctx)(w:aN)(p:Nat)(h:At C w p 0)(i:(aR C.ts p).c_=110):W_ Xi 215 #[aY C.pb] w λe w'=>e=bR (Xp #[Q_ (bs (aR C.ts p).x_),Y (aR C.ts p).l_])/\At C w' (p+1) 0/\Fr C.pb w w':=by have j:=h.next Z;have g:=h.len;have b:=lU C w p 0 h;rw[zM,i]at b;have a:=O b;have f:=O h;clear h b i;go_in;go_wp;refine sa a λl c=>?_;obtain⟨n,m,q,-,-,d⟩:=f.cells c;have k:=(d 1).1;clear d a;go_wp21;go_quiet (fail);go_wp2;go_ret2;refine⟨aJ,?_⟩;have o:=f.move c (p+1) j;grind[below_drewN,eo,dv,At.below,Fr.ud]
def Tc(C:Ctx)(w:aN)(p:Nat)(h:At C w p 0)(l:(aR C.ts p).c_≠110):W_ Xi 215 #[aY C.pb] w λe w'=>e=bR (Xp #[Q_ (bs []),Y 0])/\At C w' p (aR C.ts p).l_/\Fr C.pb w w':=by have f:=lU C w p 0 h;rw[zM]at f;have a:=O f;have g:=O h;have q:(((aR C.ts p).c_:Int) !=110)=W1:=G_;clear h f l;go_in;go_wp;refine sa a λi b=>?_;obtain⟨n,m,s,-,-,k⟩:=g.cells b;clear k a;have j:=O (λo=>DX C (i.alloc o) p ((g.below b).below (mn)));go_wp21;refine sa (j _) λr ⟨d,c⟩=>?_;go_wp2;go_ret2;exact⟨aJ,d,Fr.wz (b.alloc b.size _) c⟩
def Wl(C:Ctx)(w:aN)(p bad:Nat)(h:At C w p bad)(j:bad≠0):W_ Xi 215 #[aY C.pb] w λe w'=>e=bR (Xp #[Q_ (bs []),Y 0])/\At C w' p bad/\Fr C.pb w w':=by have g:=lU C w p bad h;rw[zM]at g;have d:=O g;have f:=O h;go_in;go_wp;refine sa d λi b=>?_;obtain⟨q,m,s,-,-,l⟩:=f.cells b;have a:=λo=>(f.below b).below ((dv _ _).alloc lZ o);have k:=O (λo=>YK C (i.alloc o) p bad (a o) j);have c:=O a;go_wp21;refine sa (k _) λr n=>?_;go_wp2;go_ret2;exact⟨aJ,c _,Fr.below (b.alloc b.size _)⟩
def jN(R:Xa->aC->Prop):List Xa->List aC->Prop|[],[]=>True|v::vs,a::ks=>R v a/\jN R vs ks|_,_=>False
theorem jN.mono{R S:Xa->aC->Prop}(h:∀v a,R v a->S v a):∀{vs b},jN R vs b->jN S vs b|[],[],_=>trivial|_::_,_::_,⟨d,c⟩=>⟨h _ _ d,jN.mono h c⟩|[],_::_,h=>h.elim|_::_,[],h=>h.elim
def jN.length{R:Xa->aC->Prop}:∀{vs ks},jN R vs ks->aA vs=aA ks|[],[],_=>rfl|_::vs,_::ks,⟨_,a⟩=>by simp[jN.length a]|[],_::_,h=>h.elim|_::_,[],h=>h.elim
def jN.snoc{R:Xa->aC->Prop}:∀{b c}{v a},jN R b c->R v a->jN R (b++[v]) (c++[a])|[],[],_,_,_,h=>⟨h,trivial⟩|_::_,_::_,_,_,⟨e,d⟩,h=>⟨e,jN.snoc d h⟩|[],_::_,_,_,h,_=>h.elim|_::_,[],_,_,h,_=>h.elim
def nK(R:Xa->aC->Prop)(F:bL)(w:aN)(kv:aX)(ks:List aC):Prop:=(kv=bP/\ks=[])\/∃g cap cur vs,kv=Xl (Wy (aL g 0)) (aA ks) cap/\F g/\w.heap[g]?=Wy (Xt cur 64)/\aA ks<=cap/\cur.toList.take (aA ks)=vs/\jN R vs ks
def eY:Nat->(Nat->Prop)->World->Xa->aC->Prop|0,_,_,_,_=>False|d+1,F,w,v,a=>∃b kv,v=aY b/\F b/\w.heap[b]?=Wy (Xt #[Xm (bs a.op),Y a.l_,Xm (bs a.x_),kv] 121)/\nK (eY d F w) F w kv a.y_
def ve(F:bL)(w:aN)(v:aX)(a:aC):Prop:=∃d,eY d F w v a
def UH(Y_:a:=by rcases h with h|⟨g,cap,cur,vs,h1,h2,h3,h4,h5,h6⟩;exact ea h;exact dz ⟨g,cap,cur,vs,h1,hF _ h2,h3,h4,h5,h6.mono hR⟩):a:=Y_
def nK.mono{R S:Xa->aC->Prop}{F G:bL}{w:aN}{d:aX}(h:nK R F w d M)(hR:∀v a,R v a->S v a)(hF:∀b,F b->G b):nK S G w d M:=by exact UH
theorem eY.mono{F G:bL}{w:aN}(c:∀b,F b->G b):∀{d e:Nat}{v a},eY d F w v a->d<=e->eY e G w v a|d+1,e+1,v,a,⟨b,f,k,i,l,j⟩,g=>⟨b,f,k,c _ i,l,j.mono (λ_ _ h=>eY.mono c h Z) c⟩|0,_,_,_,h,_=>h.elim
theorem eY.h_{w w':aN}(k:∀b,R b->w'.heap[b]?=w.heap[b]?):∀{d:Nat}{v a},eY d R w v a->eY d R w' v a|d+1,v,a,⟨b,p,m,j,t,c⟩=>by refine⟨b,p,m,j,G_,?_⟩;rcases c with c|⟨g,e,f,l,i,q,s,r,n,o⟩;exact ea c;exact dz ⟨g,e,f,l,i,q,G_,r,n,o.mono λ_ _ h=>eY.h_ k h⟩
theorem ve.mono{F G:bL}{w:aN}{v:aX}{a:aC}(h:ve F w v a)(c:∀b,F b->G b):ve G w v a:=by have ⟨d,h⟩:=h;exact⟨d,h.mono c (Z)⟩
theorem ve.h_{w w':aN}{v:aX}{a:aC}(h:ve R w v a)(c:∀b,R b->w'.heap[b]?=w.heap[b]?):ve R w' v a:=by have ⟨d,h⟩:=h;exact⟨d,h.h_ c⟩
def ve.ptr(h:ve R N Q D):∃b,Q=aY b:=by have ⟨d,h⟩:=h;cases d with|zero=>exact h.elim|succ d=>grind[eY]
def jN.depth:∀{a b},jN (ve R N) a b->∃d,jN (eY d R N) a b|[],[],_=>⟨0,trivial⟩|_::_,_::_,⟨⟨d,f⟩,c⟩=>by obtain⟨e,g⟩:=jN.depth c;exact⟨max d e,(by grind[eY.mono]),(by grind[jN.mono,eY.mono])⟩|[],_::_,h=>h.elim|_::_,[],h=>h.elim
def yh(F:bL)(w:aN)(kv:aX)(ks:List aC):Prop:=nK (ve F w) F w kv ks
def yh.depth(h:yh R N Q M):∃d,nK (eY d R N) R N Q M:=by rcases h with h|⟨g,b,a,i,l,j,n,k,m,f⟩;exact⟨0,ea h⟩;have ⟨d,h7⟩:=f.depth;exact⟨d,dz ⟨g,b,a,i,l,j,n,k,m,h7⟩⟩
def ve.mk{kv:aX}(e:R K)(h:N.heap[K]?=Wy (bO #[Q_ (bs D.op),Y D.l_,Q_ (bs D.x_),kv] 121))(c:yh R N kv D.y_):ve R N (aY K) D:=by have ⟨d,hd⟩:=c.depth;exact⟨d+1,K,kv,aJ,e,h,hd⟩
theorem yh.mono{F G:bL}{w:aN}{a:List aC}(h:yh F w Q a)(d:∀b,F b->G b):yh G w Q a:=nK.mono h (λ_ _ h=>h.mono d) d
theorem yh.h_{w w':aN}{d:List aC}(h:yh R w Q d)(i:∀b,R b->w'.heap[b]?=w.heap[b]?):yh R w' Q d:=by rcases h with h|⟨g,c,a,k,f,j,o,m,n,l⟩;exact ea h;exact dz ⟨g,c,a,k,f,j,G_,m,n,l.mono λ_ _ h=>h.h_ i⟩
def sm(lo hi:Nat)(b:Nat):Prop:=lo<=b/\b<hi
def lK(C:Ctx)(w:aN):Except Nat Nat->Prop|.ok q=>At C w q 0|.error l=>l≠0/\∃q,At C w q l
def nL{α:Type}:bU α->Except Nat Nat|.ok (_,q)=>.ok q|.error l=>.error l
def fI{α:Type}(S:Except Nat Nat)(X:Nat->bU α):bU α:=match S with|.ok q=>X q|.error l=>.error l
def sF(C:Ctx)(S:Except Nat Nat)(x:bQ):Bool:=match S with|.ok q=>cA C.ts q x|.error _=>WD
def uN(C:Ctx)(S:Except Nat Nat)(x:bQ):Except Nat Nat:=match S with|.ok q=>if cA C.ts q x then .ok (q+1)else .ok q|.error l=>.error l
def fR(C:Ctx)(S:Except Nat Nat)(x:bQ):Except Nat Nat:=match S with|.ok q=>if cA C.ts q x then .ok (q+1)else .error (aR C.ts q).l_|.error l=>.error l
def nM(C:Ctx)(S:Except Nat Nat):Except Nat Nat:=match S with|.ok q=>if (aR C.ts q).c_==110 then .ok (q+1)else .error (aR C.ts q).l_|.error l=>.error l
def nF(C:Ctx)(S:Except Nat Nat):bQ:=match S with|.ok q=>if (aR C.ts q).c_==110 then (aR C.ts q).x_ else []|.error _=>[]
def oQ(C:Ctx)(S:Except Nat Nat):Nat:=match S with|.ok q=>if (aR C.ts q).c_==110 then (aR C.ts q).l_ else 0|.error _=>0
theorem lK.below{C:Ctx}{a:aN}{S:Except Nat Nat}(h:lK C N S)(b:R_ N a):lK C a S:=by cases S with|ok q=>exact At.below h b|error l=>have ⟨h0,q,h1⟩:=h;exact⟨h0,q,h1.below b⟩
def Rn(C:Ctx)(q:Nat)(x:bQ):sF C (.ok q) x=cA C.ts q x:=rfl
theorem mW{C:Ctx}{x:bQ}(h:cA C.ts K x=W1):fR C (.ok K) x=.ok (K+1):=by grind[fR]
theorem vU{C:Ctx}(h:cA C.ts K L=WD):fR C (.ok K) L=.error (aR C.ts K).l_:=by unfold fR;simp[h]
def BX{C:Ctx}(h:cA C.ts K L=W1):uN C (.ok K) L=.ok (K+1):=by grind[uN]
def BY{C:Ctx}(h:cA C.ts K L=WD):uN C (.ok K) L=.ok K:=by unfold uN;simp[h]
def OZ{C:Ctx}(h:(aR C.ts K).c_=110):nM C (.ok K)=.ok (K+1)/\nF C (.ok K)=(aR C.ts K).x_/\oQ C (.ok K)=(aR C.ts K).l_:=by unfold nM nF oQ;simp[h]
def KA{C:Ctx}(h:(aR C.ts K).c_≠110):nM C (.ok K)=.error (aR C.ts K).l_/\nF C (.ok K)=[]/\oQ C (.ok K)=0:=by grind[nM,nF,oQ]
def Ch(C:Ctx)(w:aN)(S:Except Nat Nat)(x:ByteArray)(h:lK C w S):W_ Xi 216 #[aY C.pb,Q_ x] w λe w'=>e=bR (Xr (sF C S (eA x)))/\R_ w w':=by cases S with|ok q=>have:=AD C w q 0 x h;exact this|error l=>have ⟨h0,q,h1⟩:=h;have:=AD C w q l x h1;rw[gh h0]at this;exact this
def zO(C:Ctx)(w:aN)(S:Except Nat Nat)(x:ByteArray)(h:lK C w S):W_ Xi 214 #[aY C.pb,Xm x] w λe w'=>e=fA/\lK C w' (fR C S x.data.toList)/\Fr C.pb w w':=by cases S with|ok q=>have h':=h;cases a:cA C.ts q x.data.toList;rw[vU a];exact(Om C w q x h' a).mono (by grind[At.pos,At.lt,lK]);rw[mW a];exact Qy C w q x h' a|error l=>have ⟨h0,q,h1⟩:=h;exact(J_ C w q l x h1 h0).mono (by grind[lK,fR])
def Ed(C:Ctx)(w:aN)(S:Except Nat Nat)(x:ByteArray)(h:lK C w S):W_ Xi 217 #[aY C.pb,Q_ x] w λe w'=>e=bR (Xr (sF C S (eA x)))/\lK C w' (uN C S (eA x))/\Fr C.pb w w':=by cases S with|ok q=>have h':=h;rw[Rn];cases a:cA C.ts q (eA x);rw[BY a];exact(Fy C w q 0 x h' G_).mono (by grind[lK.below,Fr.below]);rw[BX a];exact Jw C w q x h' a|error l=>have ⟨h0,q,h1⟩:=h;exact(Fy C w q l x h1 G_).mono λe w' ⟨c,b⟩=>⟨c,⟨h0,q,h1.below b⟩,Fr.below b⟩
def Gn(C:Ctx)(w:aN)(S:Except Nat Nat)(h:lK C w S):W_ Xi 215 #[aY C.pb] w λe w'=>e=bR (Xp #[Q_ (bs (nF C S)),Y (oQ C S)])/\lK C w' (nM C S)/\Fr C.pb w w':=by cases S with|ok q=>have h':=h;by_cases a:(aR C.ts q).c_=110;have ⟨e1,e2,e3⟩:=OZ a;rw[e1,e2,e3];exact Rj C w q h' a;have ⟨e1,e2,e3⟩:=KA a;exact(Tc C w q h' a).mono (by grind[At.pos,At.lt,lK])|error l=>have ⟨h0,q,h1⟩:=h;exact(Wl C w q l h1 h0).mono (by grind[nF,oQ,lK,nM])
def J9(C:Ctx)(w:aN)(S:Except Nat Nat)(h:lK C w S):W_ Xi 164 #[aY C.pb] w λe w'=>(∃t,e=bR (Xn #[Xs .u8 (bH.c_ t),Q_ (bs t.x_),Y t.l_])/\∀q,S=.ok q->t=aR C.ts q)/\R_ w w':=by cases S with|ok q=>exact(lU C w q 0 h).mono (by grind[zM])|error l=>have ⟨h0,q,h1⟩:=h;exact(lU C w q l h1).mono (by grind[zM])
def eQ(C:Ctx)(w:aN)(r:bU aC)(e:Xc)(w':aN):Prop:=Fr C.pb w w'/\lK C w' (nL r)/\∃b,e=bR (aY b)/\∀a q,r=.ok (a,q)->ve (sm w.heap.size w'.heap.size) w' (aY b) a
def xI(C:Ctx)(w:aN)(r:bU (List aC))(e:Xc)(w':aN):Prop:=Fr C.pb w w'/\lK C w' (nL r)/\∃x n c,e=bR (Xl x n c)/\∀ks q,r=.ok (ks,q)->yh (sm w.heap.size w'.heap.size) w' (Xl x n c) ks
def Reads(C:Ctx)(f:Nat)(X:Nat->bU aC):Prop:=∀(w:aN) (S:Except Nat Nat),lK C w S->fI S X≠.error 0->W_ Xi f #[aY C.pb] w (eQ C w (fI S X))
def d9:(prog.info? 64).map (λi=>(i.zero,i.size,i.bytes))=Wy (Wy (.pointer none),1,8):=k_
def xd(b_:Nat)(w:aN)(v:aX)(acc:List aC):Prop:=∃vs F,w.ownsRow b_ 64 1 v (aA acc) vs/\jN (ve F w) vs acc/\∀b,F b->b_<=b/\b<w.heap.size/\v.ownBlock≠Wy b
theorem xd.nil(a:Nat)(w:aN):xd a w (bP) []:=⟨[],λ_=>False,World.ownsRow_nil _ _ _ _,trivial,s_⟩
theorem bE{w1:aN}{j:List Xa}(h:N.ownsRow K e T Q W j)(m:∀k,Q.ownBlock=Wy k->w1.heap[k]?=N.heap[k]?):w1.ownsRow K e T Q W j:=by refine⟨h.1,?_⟩;rcases h.2 with f|⟨g,d,c,i,f,o,l⟩;grind;refine dz ⟨g,d,c,i,f,?_,l⟩;rw[m g (by rw[i];rfl)];exact o
theorem eI(h:N.ownsRow K e T Q W P):∀k,Q.ownBlock=Wy k->k<H_ N:=by intro k c;rcases h.2 with ⟨rfl,_⟩|⟨g,i,d,rfl,j,l,_⟩;cases c;have :=fo c;grind
def Y5(Y_:a:=by obtain⟨vs,F,h1,h2,h3⟩:=h;refine⟨vs,F,bE h1 λk hk=>?_,h2.mono λ_ _ h=>h.h_ λb hb=>?_,λb hb=>?_⟩;grind[bX,Fr.block,eI];have:=hf.size;grind;grind[Fr.block]):a:=Y_
theorem xd.h_{a d:Nat}{w:aN}{v:aX}{b:List aC}(h:xd a w v b)(hf:Fr d w N)(e:d<a):xd a N v b:=by exact Y5
def xd.snoc{b_ lo:Nat}{m:List Xa}(r:jN (ve R N) m M)(B:∀b,R b->b_<=b/\b<N.heap.size/\Q.ownBlock≠Wy b) (z:ve (sm lo N.heap.size) N S D) (A:b_<=lo) (q:∀k,Q.ownBlock=Wy k->k<lo) (y:∀k,k<N.heap.size->V.heap[k]?=N.heap[k]?) (x:N.heap.size<=V.heap.size) (p:X.ownsRow b_ 64 1 (Xl (Wy (aL K 0)) (aA M+1) T) (aA M+1) (m++[S])) (f:V.grownBy X Q.ownBlock) (t:Q.ownBlock=Wy K\/N.heap.size<=K):xd b_ X (Xl (Wy (aL K 0)) (aA M+1) T) (M++[D]):=by
 have u:∀b,(R b\/sm lo N.heap.size b)->b_<=b/\b<N.heap.size/\Q.ownBlock≠Wy b:=by grind[sm]
 have d:∀b,(R b\/sm lo N.heap.size b)->X.heap[b]?=N.heap[b]?:=(by grind[World.grownBy.block]);refine⟨m++[S],λb=>R b\/sm lo N.heap.size b,?_,?_,?_⟩;grind;exact jN.snoc (r.mono λ_ _ h=>(h.mono (G_)).h_ d) ((z.mono (G_)).h_ d);intro b s;have n:=u b s;have:=f.size;refine⟨n.1,Z,λe=>?_⟩;have e':=fo e;grind
theorem xd.uz(h:xd K N Q M):yh (sm K N.heap.size) N Q M:=by have ⟨vs,F,h1,h2,h3⟩:=h;rcases h1.2 with ⟨f,e⟩|⟨g,d,c,f,e,j,i,m,k,l⟩;exact ea G_;exact dz ⟨g,d,c,vs,f,⟨e,G_⟩,j,i,G_,(by grind[jN.mono,ve.mono,sm])⟩
def Fr.grown(h:Fr K N V)(c:V.grownBy X j)(i:∀k,j=Wy k->H_ N<=k):Fr K N X:=⟨c.os.trans h.os,c.tape.trans h.tape,c.output.trans h.output,em h.size c.size,λk d g=>by rw[c.block k (eh d h.size) (G_)];exact h.block k d g⟩
theorem At.grown{C:Ctx}{b_:Nat}(h:At C N K T)(g:N.grownBy V j)(e:∀k,j=Wy k->b_<=k)(d:C.pb<b_)(c:C.g<b_):At C V K T:=by have ⟨cur,h1,h2⟩:=h.row;have f:∀k,k<H_ N->k<b_->V.heap[k]?=N.heap[k]?:=(by grind[World.grownBy.block]);exact⟨by grind[At.i_],G_,h.ne,h.lt,h.len,h.cap,h.last,h.pos⟩
def lK.grown{C:Ctx}{b_:Nat}(h:lK C N F)(f:N.grownBy V j)(e:∀k,j=Wy k->b_<=k)(d:C.pb<b_)(b:C.g<b_):lK C V F:=by cases F with|ok q=>grind[At.grown,lK]|error l=>have ⟨h0,q,h1⟩:=h;exact⟨h0,q,h1.grown f e d b⟩
theorem lK.facts{C:Ctx}{S:Except Nat Nat}(h:lK C N S):C.pb<N.heap.size/\C.g<N.heap.size/\aA C.ts<=3000:=by
 have a:∀q l,At C N q l->C.pb<N.heap.size/\C.g<N.heap.size/\aA C.ts<=3000:=λq l h=>by have ⟨cur,h1,_⟩:=h.row;exact⟨aH h.i_,G_,h.len⟩
 cases S with|ok q=>exact a q 0 h|error l=>grind[lK]
theorem lK.alloc{C:Ctx}{w:aN}{S:Except Nat Nat}(h:lK C w S)(o:Obj):lK C (w.alloc o) S:=(by grind[lK.below,eo,dv])
def lK.bad{C:Ctx}(h:lK C N (.error K)):C.pb<N.heap.size/\∃c:Int,(c==0)=WD/\I_ N (aL C.pb 2)=Wy (Y c):=by have ⟨h0,q,h1⟩:=h;exact⟨aH h1.i_,(K:Int),G_,aB h1.i_ rfl⟩
def At.vw{C:Ctx}(h:At C N K 0):C.pb<N.heap.size/\I_ N (aL C.pb 2)=Wy (Y 0):=⟨aH h.i_,aB h.i_ rfl⟩
def Ph(C:Ctx)(E:Nat->bU aC)(w:aN)(r:bU (List aC))(k:Nat)(v more:aX)(wr:aN):Prop:=Fr C.pb w wr/\((∃q acc,more=Xr W1/\At C wr q 0/\r=fJ E C.ts k q acc/\aA acc+k<=4000/\xd w.heap.size wr v acc)\/(∃b x n c,more=Xr b/\v=Xl x n c/\(b=W1->∃l,r=.error l)/\lK C wr (nL r)/\∀acc q,r=.ok (acc,q)->xd w.heap.size wr v acc))
def xd.slice{w:aN}{v:aX}{b:List aC}(h:xd K w v b):∃x n c,v=Xl x n c:=by have ⟨vs,F,h1,_⟩:=h;rcases h1.2 with ⟨rfl,_⟩|⟨g,e,d,rfl,_⟩;simp;simp
theorem IR(C:Ctx)(x:bQ)(r:bU g):fR C (nL r) x=nL (aQ C.ts x r):=by cases r with|error l=>rfl|ok b=>grind[nL,Hs.bad,vU,mW,aQ]
theorem EK{C:Ctx}{r:bU g}{a:g}(h:aQ C.ts L r=.ok (a,K)):∃c,r=.ok (a,c):=by cases r with|error l=>cases h|ok d=>grind[aQ,Hs.bad]
def KD{C:Ctx}{w2:aN}{a r:bU (List aC)}(k:r=aQ C.ts L a)(j:Fr C.pb N w2)(i:lK C V (fR C (nL a) L))(h:Fr C.pb w2 V) (d:∀acc q,a=.ok (acc,q)->xd (H_ N) w2 (P_ x K T) acc) (g:C.pb<H_ N):xI C N r (bR (P_ x K T)) V:=by grind[Fr.trans,IR,EK,xd.uz,xd.h_,xI]
def Mi(C:Ctx)(E:Nat->bU aC)(HE:Reads C 100 E)(w:aN)(S:Except Nat Nat)(x y:ByteArray)(h:lK C w S)(A r:bU (List aC))
 (h0:Xg (A=fI (fR C S (eA x)) λq=>gL E C.ts q (eA y))) (h1:Xg (r=aQ C.ts (eA y) A)) (hr:A≠.error 0):
 W_ Xi 285 #[aY C.pb,Q_ x,Q_ y] w (xI C w r):=by
 have ⟨i0,hi,hz0,hz1,hz2⟩:=info_parts d9;have ⟨hpb,hgb,hlen⟩:=h.facts;have HT:=O (zO C w S x h);have ae:=O HE;have D:=O hr;generalize fR C S (eA x)=M at*;go_in
 go_wp
 refine sa HT λw1 ⟨T,af⟩=>?_
 have HI:=O (Ch C w1 M y T);have HA:=O T;have HF:=O af;go_wp2_with fail;refine sa HI λw2 hb=>?_
 have J:=O (HA.below hb);have W:=O (HF.ud hb);cases z:sF C M (eA y)
 .have HB:=O z;go_wp2
  go_loopg [7,8] (aA C.ts+1) (λk v n wr=>Ph C E w A k v n wr)
  case atStart=>
   refine⟨W,?_⟩;cases M with
   |ok q=>
    grind [dw,xd.nil,gL,lK,fI,sF]
   |error l=>
    have e :=h0.out;exact dz ⟨W1,none,0,0,aJ,aJ,λ_=>⟨l,e⟩,by rw[e];exact J,(by grind [fI])⟩
  case round=>
   have ⟨hf0,hrel⟩:=hrel;have s:=O hf0;have L:=hf0.size;rcases hrel with ⟨q,t,rfl,hq,o,al,P⟩|⟨b,x1,n1,c1,rfl,rfl,X,hS,N⟩
   ·-- one expression n
    obtain⟨k,rfl⟩:∃k,gk=k+1:=by
     cases gk with
     |zero=>exact ep o D
     |succ k=>simp
    have ⟨hl1,hc2⟩:=hq.vw
    have hEq :=λe=>D (by rw[o,fJ];rw[show E q=.error 0 from e])
    have HC:=O (ae wr (.ok q) hq hEq);have an:=O o;have HL:=O P;obtain⟨x1,n1,c1,rfl⟩:=P.slice;go_wp
    apply HC.mono
    rintro e G ⟨d,f,b3,rfl,I⟩;have ⟨vs,F,hown,hall,hF⟩:=HL.h_ d hpb;have aj:=d.size;have Q:=O d;have H:=O f;have HREP:=O I;have HALL:=O (du hall hF)
    have ah:∀g,(Value.slice x1 n1 c1).ownBlock=Wy g->g<H_ wr:=by grind [eI,xd]
    have aa:=O ah;go_wp2_with (at_builtin;refine wpList_append_lies _ r_ _ _ 119 r_ (H_ w) 64 i0 _ 1 8 underlying119 hi hz0 hz1 hz2 rfl d_ _ _ _ r_ (hown.alloc _) (aL (H_ G) 0) 1 1 [aY b3] r_ r_ ?c1 ?c2 d_ ?c3 ?c4 ?c5 (H_ G+1) s_ ?_)
    case c1=>
     intro j u B;match j,B with
     |0,B=>simp at B;subst B;simp[Addr.add,go_sem]
     |j+1,B=>simp at B
    case c2=>intro u hu;simp at hu;subst hu;rfl
    case c3=>unfold maxLen;exact Z
    case c4=>exact Z
    case c5=>simp;exact Z
    intro g ag w4 p i ai ap;have hge :=bX hown;have ac:=O ((H.alloc _).grown i hge hpb hgb);have ad:=O (((s.trans Q).alloc _).grown i hge)
    have am:Xg (∀a q1,E q=.ok (a,q1)->xd (H_ w) w4 (P_ (Wy (aL g 0)) (aA t+1) ag) (t++[a])):=λa q1 ha=>
     xd.snoc (lo:=H_ wr) HALL.1 HALL.2 (HREP a q1 ha) L aa (λk hk=>ed _ _ _ hk) s_ p i (G_)
    have HX:=O (Ed C w4 _ ⟨#[44]⟩ ac);go_wp
    refine sa HX λw5 ⟨ak,K⟩=>?_
    go_wp2
    go_roundg k
    case measure=>exact Z
    case rel=>
     have hbig :=ad.trans K;refine⟨hbig,?_⟩;grind [dw,fJ,fI,xd.h_,nL,sF,lK,uN]
   have HROW:=O N;have m:=O (zO C wr (nL A) y hS);cases b
   .go_wp
    refine sa m λG ⟨f,d⟩=>?_
    go_wp2
    go_ret;exact KD h1 s f d HROW hpb
   have ⟨l,hl⟩:=X rfl;have V:=hS;rw[hl]at V;have ⟨hl1,c,hc0,hc2⟩:=lK.bad V;go_wp
   refine sa m λG ⟨f,d⟩=>?_
   go_wp2
   go_ret;exact KD h1 s f d HROW hpb
 obtain⟨q,rfl,hq⟩:∃q,M=.ok q/\cA C.ts q (eA y)=W1:=by
  cases M with
  |ok q=>exact⟨q,aJ,z⟩
  |error l=>cases z
 have m:=O (zO C w2 (.ok q) y J)
 have e0:A=.ok ([],q):=by grind [dw,gL,fI]
 have ab:=O e0;go_wp21
 refine sa m λG ⟨f,d⟩=>?_
 go_wp2
 go_ret;refine KD (w2:=w2) h1 W (by rw[ab];exact f) d (λt q' ao=>?_) hpb
 grind [xd.nil]
def O8(C:Ctx)(E:Nat->bU aC)(c:Reads C 100 E)(w:aN)(S:Except Nat Nat)(x y:ByteArray)(h:lK C w S)(a:fI S (λq=>fU E C.ts q x.data.toList y.data.toList)≠.error 0):W_ Xi 285 #[aY C.pb,Xm x,Xm y] w (xI C w (fI S λq=>fU E C.ts q x.data.toList y.data.toList)):=by
 have e:fI S (λq=>fU E C.ts q x.data.toList y.data.toList)=aQ C.ts y.data.toList (fI (fR C S x.data.toList) λq=>gL E C.ts q y.data.toList):=by cases S with|ok q=>grind[fU,aQ,Hs.bad,fI,fR]|error l=>rfl
 refine Mi C E c w S x y h _ _ aJ e λb=>a ?_;rw[e,b];rfl
theorem Fr.cells{w:aN}(h:Fr K w N){b:Nat}(d:b<w.heap.size)(f:b≠K):(∀i,I_ N (aL b i)=I_ w (aL b i))/\(∀i,N.frozen? (aL b i)=w.frozen? (aL b i)):=⟨λi=>World.cell?_of_block (a:=(aL b i)) (h.block b d f),λi=>World.frozen?_of_block (a:=(aL b i)) (h.block b d f)⟩
def uF{c a:aX}(h:N.heap[K]?=Wy (bO #[Q,S,c,a] 121)):K<H_ N/\dR N K 0 Q/\dR N K 1 S/\dR N K 2 c/\dR N K 3 a/\N.frozen? (aL K 0)=WD/\N.frozen? (aL K 2)=WD/\N.frozen? (aL K 3)=WD:=(by grind[aB,aF])
def At.two{C:Ctx}(h:At C N K T):C.pb<H_ N/\(∀b a,dR ((N.alloc b).alloc a) C.pb 1 (Y K))/\(∀b a,dR ((N.alloc b).alloc a) C.pb 2 (Y T))/\(∀b a,((N.alloc b).alloc a).frozen? (aL C.pb 1)=WD):=by have c:∀b a,At C ((N.alloc b).alloc a) K T:=λb a=>(h.below (mn)).below ((dv _ _).alloc lZ a);exact⟨aH h.i_,λb a=>aB (c b a).i_ aJ,λb a=>aB (c b a).i_ aJ,λb a=>aF (c b a).i_⟩
theorem Below.two(b a:Obj):R_ N ((N.alloc b).alloc a):=((dv _ _).alloc (Z) b).alloc s_ a
theorem aV(X:aN)(n:Nat)(b:n=X.heap.size)(a:Obj):(X.alloc a).heap[n]?=Wy a:=by subst b;show (X.heap.push a)[X.heap.size]?=_;simp
def wZ(X:aN)(n:Nat)(c:n=H_ X+1)(b a:Obj):((X.alloc b).alloc a).heap[n]?=Wy a:=(by grind[World.alloc])
def kX(X:aN)(n:Nat)(a:n<H_ X)(o:Obj){b:Option Obj}(h:X.heap[n]?=b):(X.alloc o).heap[n]?=b:=by grind[ed]
def Below.three(c b a:Obj):R_ N (((N.alloc c).alloc b).alloc a):=(Below.two c b).alloc la a
def At.step{C:Ctx}(h:At C N K T)(c:R_ N V)(b:K+1<aA C.ts):At C (c9 V (aL C.pb 1) (Y ((K:Int)+1))) (K+1) T/\Fr C.pb N (c9 V (aL C.pb 1) (Y ((K:Int)+1))):=by have d:=h.move c (K+1) b;grind
theorem VO(w:aN)(a:Addr)(v:aX):(w.setCell a v).heap.size=H_ w:=s_
def Ic(a:aN)(d c:Obj)(b:UInt8):(convert 193 9 (P_ (Wy (aL (H_ a+1+1) 0)) 1 1)).run Xi (eF ((a.alloc d).alloc c) #[Xs .u8 b.toNat] 5)=.ok (Q_ (bs [b])) (eF ((a.alloc d).alloc c) #[Xs .u8 b.toNat] 5):=by refine run_convert_bytes_back (P:=Xi) _ 193 9 5 (aL (H_ a+1+1) 0) 1 [b] underlying193 underlying5 underlying9 λj e=>?_;obtain rfl:j=0:=G_;simp[go_sem]
def Sf{C:Ctx}{b q:Nat}(g:Fr C.pb N V)(f:At C V q 0)(h:H_ N<=b)(i:D.y_=[]) (c:V.heap[b]?=Wy (bO #[Q_ (bs D.op),Y D.l_,Q_ (bs D.x_),bP] 121)):eQ C N (.ok (D,q)) (bR (aY b)) V:=⟨g,f,b,rfl,λj k e=>by cases e;exact ve.mk ⟨h,G_⟩ c (ea G_)⟩
theorem iN{w w':aN}{i:Nat}(h:w'.heap[K]?=w.heap[K]?):I_ w' (aL K i)=I_ w ⟨K,i,none⟩:=by simp[World.cell?,h]
def At.other{C:Ctx}(h:At C N K T){b:Nat}(c:b≠C.pb)(a:b≠C.g)(v:aX):At C (c9 N (aL b W) v) K T:=by have ⟨cur,r1,r2⟩:=h.row;exact⟨by grind[ej,At.i_],oa,h.ne,h.lt,h.len,h.cap,h.last,h.pos⟩
theorem lK.other{C:Ctx}(h:lK C N F){b:Nat}(c:b≠C.pb)(a:b≠C.g)(v:aX):lK C (c9 N (aL b K) v) F:=by cases F with|ok q=>exact At.other h c a v|error l=>have ⟨h0,q,hq⟩:=h;exact⟨h0,q,hq.other c a v⟩
def lK.Be{C:Ctx}(h:lK C N F)(a:H_ N<=K):K≠C.pb/\K≠C.g:=by have:=h.facts;exact Z
theorem eQ.take{C:Ctx}{x:bQ}{e:Xc}(h:eQ C N r e V)(f:Fr C.pb V X)(l:lK C X (fR C (nL r) x))(i:C.pb<N.heap.size):eQ C N (aQ C.ts x r) e X:=by have ⟨h1,h2,b,h3,h4⟩:=h;refine⟨h1.trans f,by grind[IR],b,h3,λa q j=>?_⟩;have ⟨q',hq'⟩:=EK j;exact((h4 a q' hq').h_ (by grind[Fr.block,sm])).mono λk g=>⟨g.1,by have:=g.2;have:=f.size;exact Z⟩
def eQ.later{C:Ctx}{e:Xc}(d:Fr C.pb N V)(h:eQ C V r e X):eQ C N r e X:=by have ⟨h1,h2,b,h3,h4⟩:=h;exact⟨d.trans h1,h2,b,h3,λa q i=>(h4 a q i).mono λk f=>⟨by have:=f.1;have:=d.size;exact Z,f.2⟩⟩
structure Made(nb:Nat)(w:aN)(op te:bQ)(li:Nat)(v:aX)(acc:List aC):Prop where
 i_:w.heap[nb]?=Wy (Xt #[Xm (bs op),Y li,Xm (bs te),v] 121)
 wa:xd (nb+1) w v acc
theorem Made.h_{b i:Nat}{w d:aN}{v:aX}{a:List aC}(h:Made b w L G K v a)(g:Fr i w d)(j:i<b):Made b d L G K v a:=⟨by rw[g.block b (aH h.i_) Z];exact h.i_,h.wa.h_ g Z⟩
def Made.Iv(h:Made K N L G W Q M)(b:T<=K):ve (sm T (H_ N)) N (aY K) (aW L W G M):=ve.mk ⟨b,aH h.i_⟩ h.i_ (h.wa.uz.mono qp)
def Made.snoc{l:aN}{r:bQ}{g f:Nat}(h:Made K N L r W Q M)(J:Fr T N V)(I:T<K) (C:jN (ve R V) P M) (E:∀b,R b->K+1<=b/\b<V.heap.size/\Q.ownBlock≠Wy b) (s:∀k,k<V.heap.size->X.heap[k]?=V.heap[k]?) (p:V.heap.size<=X.heap.size) (m:l.ownsRow (K+1) 64 1 (Xl (Wy (aL g 0)) (aA M+1) f) (aA M+1) (P++[S])) (j:X.grownBy l Q.ownBlock) (o:Q.ownBlock=Wy g\/V.heap.size<=g) (a:aC) (D:ve (sm N.heap.size V.heap.size) V S a):Made K (c9 l (aL K 3) (Xl (Wy (aL g 0)) (aA M+1) f)) L r W (Xl (Wy (aL g 0)) (aA M+1) f) (M++[a]):=by
 have H:=aH h.i_;have ⟨vs0,F0,ho0,_,_⟩:=h.wa;have B:=bX ho0;have n:=eI ho0;have i:l.heap[K]?=Wy (Xt #[Xm (bs L),Y W,Xm (bs r),Q] 121):=by grind[World.grownBy.block,Fr.block,Made.i_]
 have u:=xd.snoc (lo:=N.heap.size) C E D Z n s p m j o;refine⟨by rw[aP i];rfl,?_⟩;have ⟨us,G,k1,k2,k3⟩:=u;have A:∀k,K+1<=k->(c9 l (aL K 3) (Xl (Wy (aL g 0)) (aA M+1) f)).heap[k]?=l.heap[k]?:=(by grind[ej]);exact⟨us,G,(by grind[bE,bX]),(by grind[jN.mono,ve.h_]),G_⟩
def GR(Y_:a:=by intro j u hj;match j,hj with|0,hj=>simp at hj;subst hj;simp[Addr.add]|j+1,hj=>simp at hj):a:=Y_
def Tn(w:aN)(b:Nat):∀j u,([aY b]:List Xa)[j]?=Wy u->I_ (eF w #[aY b] 64) ((⟨H_ w,0,none⟩:Addr).add j)=Wy u:=by exact GR
def Ox(b:Nat):∀u∈([aY b]:List Xa),u.oneCell'=W1:=by intro u a;simp at a;subst a;rfl
def L9{o:Obj}{g v f:aX}(k:N.heap[K]?=Wy (bO #[Q,S,g,v] 121))(a:N.ownsRow (K+1) 64 1 f T P)(m:(N.alloc o).grownBy V f.ownBlock):V.heap[K]?=Wy (bO #[Q,S,g,v] 121):=by have d:=aH k;rw[m.block K la λe=>by have:=bX a K e.symm;exact Z];exact kX _ _ d _ k
def WO{o:List Xa}(h:N.ownsRow K e T Q W P)(k:N.ownsRow K e T Q H o):W=H/\P=o:=by rcases h.2 with ⟨rfl,rfl⟩|⟨g,f,i,rfl,q,B,t,x,C,u⟩;rcases k.2 with ⟨_,rfl⟩|⟨g,f,i,d,_⟩;exact⟨aJ,by have a:=h.1;have K:=k.1;grind⟩;grind;rcases k.2 with ⟨d,_⟩|⟨z,j,p,d,D,s,E,y,A,r⟩;cases d;grind
structure Part(nb:Nat)(w:aN)(op te:bQ)(li:Nat)(v:aX)(len:Nat):Prop where
 i_:w.heap[nb]?=Wy (Xt #[Xm (bs op),Y li,Xm (bs te),v] 121)
 own:∃vs,w.ownsRow (nb+1) 64 1 v len vs
def Part.h_{b j:Nat}{w d:aN}{v:aX}{a:Nat}(h:Part b w L G K v a)(g:Fr j w d)(l:j<b):Part b d L G K v a:=by have ⟨vs,ho⟩:=h.own;exact⟨by rw[g.block b (aH h.i_) Z];exact h.i_,vs,bE ho λk i=>g.block k (eI ho k i) (by have:=bX ho k i;exact Z)⟩
def Made.part(h:Made K N L G T Q M):Part K N L G T Q (aA M):=by have ⟨vs,F,h1,_⟩:=h.wa;exact⟨h.i_,vs,h1⟩
structure AL(C:Ctx)(w0:aN)(nb:Nat)(op te:bQ)(li m:Nat)(acc:List aC)(S:Except Nat Nat)(x:Option Addr)(n c:Nat)(w:aN):Prop where
 fr:Fr C.pb w0 w
 at_:lK C w S
 lo:w0.heap.size<=nb/\C.pb<nb/\C.g<nb
 i_:∃k l,k<=m/\Part nb w op te l (Xl x n c) k
 made:∀q,S=.ok q->Made nb w op te li (Xl x n c) acc
def Nd(C:Ctx)(w0:aN)(nb:Nat)(op te:bQ)(li m:Nat)(acc:List aC)(S:Except Nat Nat)(w:aN):Prop:=∃x n c,AL C w0 nb op te li m acc S x n c w
section
variable {C:Ctx} {w0 w w':aN} {nb li m n c b4:Nat} {op te:bQ} {acc:List aC} {S S':Except Nat Nat} {x:Option Addr} {r:bU aC}
theorem Nd.new{l:Nat}(d:Fr C.pb w0 w)(c:lK C w S)(a b:bQ)(e:Nat)(g:∀q,S=.ok q->l=e)(i:C.pb<w0.heap.size)(h:C.g<w0.heap.size):Nd C w0 w.heap.size a b e 0 [] S (w.alloc (Xt #[Xm (bs a),Y l,Xm (bs b),bP] 121)):=by have:=d.size;have f:Made w.heap.size (w.alloc (Xt #[Xm (bs a),Y l,Xm (bs b),bP] 121)) a b l (bP) []:=⟨aV w _ aJ _,xd.nil _ _⟩;exact⟨_,_,_,d.alloc _,c.alloc _,Z,⟨0,l,Z,f.part⟩,G_⟩
theorem AL.go(h:AL C w0 nb op te li m acc S x n c w)(b:Fr C.pb w w')(a:lK C w' S')(e:∀q,S'=.ok q->∃d,S=.ok d):AL C w0 nb op te li m acc S' x n c w':=by have ⟨h1,h2,h3,⟨k,l,h4,h5⟩,h6⟩:=h;exact⟨h1.trans b,a,h3,⟨k,l,h4,h5.h_ b h3.2.1⟩,(by grind[Made.h_])⟩
theorem Nd.go(h:Nd C w0 nb op te li m acc S w)(b:Fr C.pb w w')(a:lK C w' S')(d:∀q,S'=.ok q->∃e,S=.ok e):Nd C w0 nb op te li m acc S' w':=by have ⟨x,n,c,h⟩:=h;exact⟨x,n,c,h.go b a d⟩
def mh{P:Program}{f:Nat}{a:Array Xa}{v:Xc}{R:lA}{Q:Xc->World->Prop}(h:W_ P f a w λe w'=>e=v/\R w')(k:∀w',Xg (R w')->Q v w'):W_ P f a w Q:=h.mono λ_ w' ⟨c,b⟩=>c▸k w' b
def l8(h:Nd C w0 nb op te li m acc S w)(x:ByteArray):W_ Xi 217 #[aY C.pb,Q_ x] w λe w'=>e=bR (Xr (sF C S (eA x)))/\Nd C w0 nb op te li m acc (uN C S (eA x)) w':=(Ed C w S x (qz)).mono λ_ _ ⟨b,a,c⟩=>⟨b,h.go c a λq e=>by cases S with|ok p=>simp|error l=>cases e⟩
def pH(h:Nd C w0 nb op te li m acc S w)(x:ByteArray):W_ Xi 214 #[aY C.pb,Q_ x] w λe w'=>e=fA/\Nd C w0 nb op te li m acc (fR C S (eA x)) w':=(zO C w S x (qz)).mono λ_ _ ⟨b,a,c⟩=>⟨b,h.go c a λq e=>by cases S with|ok p=>simp|error l=>cases e⟩
def zw(h:Nd C w0 nb op te li m acc S w)(x:ByteArray):W_ Xi 216 #[aY C.pb,Xm x] w λe w'=>e=bR (Xr (sF C S x.data.toList))/\Nd C w0 nb op te li m acc S w':=(Ch C w S x (qz)).mono (by grind[Nd.go,Fr.below,lK.below,AL.at_,Nd])
def M9(h:Nd C w0 nb op te li m acc S w):W_ Xi 215 #[aY C.pb] w λe w'=>e=bR (Xp #[Q_ (bs (nF C S)),Y (oQ C S)])/\Nd C w0 nb op te li m acc (nM C S) w':=(Gn C w S (qz)).mono λ_ _ ⟨b,a,c⟩=>⟨b,h.go c a λq e=>by cases S with|ok p=>simp|error l=>cases e⟩
def AL.drew(h:AL C w0 nb op te li m acc S x n c w):AL C w0 nb op te li m acc S x n c w.drew:=(by grind[AL.go,Fr.drew,Fr.refl,lK.below,AL.at_,Below.drew,dv])
def AL.cells(h:AL C w0 nb op te li m acc S x n c w):nb<w.heap.size/\I_ w (aL nb 3)=Wy (Xl x n c)/\w.frozen? (aL nb 3)=WD:=by have ⟨k,l,_,h⟩:=h.i_;obtain⟨d,-,-,-,a,-,-,b⟩:=uF h.i_;grind
def Nd.Ap(h:Nd C w0 nb op te li m acc S w):nb<w.heap.size/\(∃v,I_ w (aL nb 0)=Wy (Xm v))/\w.frozen? (aL nb 0)=WD/\(∃v,I_ w (aL nb 2)=Wy (Xm v))/\w.frozen? (aL nb 2)=WD:=by have ⟨x,n,c,h⟩:=h;have ⟨k,l,_,h⟩:=h.i_;obtain⟨e,d,-,a,-,f,b,-⟩:=uF h.i_;grind
theorem Made.set{i:Nat}{u:aX}{a b:bQ}{v:aX}(h:Made nb w op te li v acc)(d:(c9 w (aL nb i) u).heap[nb]?=Wy (Xt #[Xm (bs a),Y li,Xm (bs b),v] 121)):Made nb (c9 w (aL nb i) u) a b li v acc:=by have ⟨us,G,k1,k2,k3⟩:=h.wa;have c:∀k,nb+1<=k->(c9 w (aL nb i) u).heap[k]?=w.heap[k]?:=(by grind[ej]);exact⟨d,us,G,(by grind[bE,bX]),(by grind[jN.mono,ve.h_]),G_⟩
def AL.set{i:Nat}{u:aX}{b d:bQ}(h:AL C w0 nb op te e m acc S x n c w)(g:∀a (e:Nat),w.heap[nb]?=Wy (Xt #[Xm (bs op),Y e,Xm (bs te),a] 121)->(c9 w (aL nb i) u).heap[nb]?=Wy (Xt #[Xm (bs b),Y e,Xm (bs d),a] 121)):AL C w0 nb b d e m acc S x n c (c9 w (aL nb i) u):=by have ⟨h1,h2,h3,⟨k,l,h4,h5,vs,h7⟩,h6⟩:=h;exact⟨h1.setCell (dz h3.1) _,(by grind[lK.other]),h3,⟨k,l,h4,g _ _ h5,vs,bE h7 λk f=>ej _ _ _ _ (by have:=bX h7 k f;grind)⟩,(by grind[Made.set,Made.i_])⟩
def Nd.Cv(h:Nd C w0 nb op te li m acc S w)(o:ByteArray):Nd C w0 nb o.data.toList te li m acc S (c9 w (aL nb 0) (Xm o)):=by have ⟨x,n,c,h⟩:=h;exact⟨x,n,c,h.set λ_ _ e=>by rw[aP e];rfl⟩
def Nd.Lx(h:Nd C w0 nb op te li m acc S w)(o:bQ):Nd C w0 nb op o li m acc S (c9 w (aL nb 2) (Q_ (bs o))):=by have ⟨x,n,c,h⟩:=h;exact⟨x,n,c,h.set λ_ _ e=>by rw[aP e];rfl⟩
def Nd.post(h:Nd C w0 nb op te li m acc S w)(b:r=fI S λq=>.ok (aW op li te acc,q)):eQ C w0 r (bR (aY nb)) w:=by have ⟨x,n,c,h⟩:=h;subst b;cases S with|error l=>exact⟨h.fr,h.at_,nb,aJ,λa q e=>by cases e⟩|ok p=>exact⟨h.fr,h.at_,nb,aJ,λa q e=>by cases e;exact(h.made _ aJ).Iv h.lo.1⟩
def eQ.ptr{e:Xc}(h:eQ C w r e w'):∃b,e=bR (aY b):=(by grind[eQ])
def AL.after{E:Nat->bU aC}{e:Xc}(h:AL C w0 nb op te li m acc S x n c w)(a:eQ C w (fI S E) e w'):AL C w0 nb op te li m acc (nL (fI S E)) x n c w':=h.go a.1 a.2.1 λq e=>by cases S with|ok q=>simp|error l=>cases e
def iT(r:bU aC):List aC:=match r with|.ok (a,_)=>[a]|.error _=>[]
def AL.uz{i j:aN}{g p k:Nat}{A:List Xa}(h:AL C w0 nb op te li m acc S x n c w)(N:∀a q,r=.ok (a,q)->∃u,S=.ok u)(d:Fr C.pb w i)(o:lK C i (nL r))(t:∀a q,r=.ok (a,q)->ve (sm w.heap.size i.heap.size) i (aY b4) a)(G:k<=m) (e:i.ownsRow (nb+1) 64 1 (Xl x n c) k A) (f:j.ownsRow (nb+1) 64 1 (Xl (Wy (aL g 0)) (k+1) p) (k+1) (A++[aY b4])) (b:(i.alloc (Xt #[aY b4] 64)).grownBy j (Value.slice x n c).ownBlock) (B:(Value.slice x n c).ownBlock=Wy g\/g=i.heap.size+1):Nd C w0 nb op te li (m+1) (acc++iT r) (nL r) (c9 j (aL nb 3) (Xl (Wy (aL g 0)) (k+1) p))/\nb<j.heap.size/\I_ j (aL nb 3)=Wy (Xl x n c)/\j.frozen? (aL nb 3)=WD:=by obtain⟨J,-,⟨K,v,P⟩,⟨_,l,-,y⟩,z⟩:=h;have hge:=bX e;have s:=L9 (y.h_ d v).i_ e b;obtain⟨L,-,-,-,I,-,-,H⟩:=uF s;refine⟨⟨_,_,_,?_,?_,Z,⟨k+1,l,Z,by rw[aP s];rfl,_,bE f λk G=>ej _ _ _ _ ?_⟩,λq M=>?_⟩,L,I,H⟩;exact Fr.setCell (((J.trans d).alloc _).grown b (G_)) (dz K) _;exact((o.alloc _).grown (b_:=nb+1) b hge Z Z).other Z Z _;grind[bX];cases r with|error l=>cases M|ok E=>have ⟨a,q⟩:=E;have ⟨u,e'⟩:=N a q rfl;have D:=z u e';have ⟨vs',F,ho,hall,hFF⟩:=(D.h_ d v).wa;obtain⟨rfl,rfl⟩:=WO ho e;exact Made.snoc D d v hall hFF (ri) s_ f b (G_) a (G_)
variable {w4:aN} {ops:Array Oper} {rest:List Oper} {o:Oper} {a:Act} {K:Act->World->Prop} {Q:Exit->Act->World->Prop} {F:Prop} {s y:Operand} {E:Nat->bU aC} {k4:Nat}
def Gf(h:AL C w0 nb op te li m acc S x n c w)(F:m<4000)(v:eQ C w (fI S E) (bR (aY b4)) w4)(t:H_ w4=k4) (z:o.op=.call {callee:=.builtin .append,args:=#[s,y],argTypes:=#[119,119]}) (B:a.eval s=P_ x n c) (A:a.eval y=P_ (Wy (aL k4 0)) 1 1) (u:∀j g k f,Xg (Nd C w0 nb op te li (m+1) (acc++iT (fI S E)) (nL (fI S E)) (c9 j (aL nb 3) (P_ (Wy (aL g 0)) k f)))->nb<H_ j->dR j nb 3 (P_ x n c)->j.frozen? (aL nb 3)=WD->K (a.put o.dst (P_ (Wy (aL g 0)) k f)) j):Oper.wp Xi o a (eF w4 #[aY b4] 64) K Q:=by subst t;have ⟨i0,hi,hz0,hz1,hz2⟩:=info_parts d9;have ⟨k,l,hk,hP⟩:=h.i_;have ⟨hfr4,hat4,b,e,hrep4⟩:=v;cases e;have p:=hP.h_ hfr4 h.lo.2.1;have ⟨vs,hown⟩:=p.own;have D:=aH p.i_;refine wp_append_lies _ _ _ _ z (nb+1) 64 i0 _ 1 8 underlying119 hi hz0 hz1 hz2 aJ d_ (P_ x n c) k vs B (hown.alloc _) (aL (H_ w4) 0) 1 1 [aY b4] A rfl (Tn _ _) (Ox _) d_ lg Z la (H_ w4+1) s_ ?_;intro g f j i d r _;have ⟨q0,q1,q2,q3⟩:=h.uz (λa q e=>by cases S with|ok q=>simp|error l=>cases e) hfr4 hat4 hrep4 hk hown i d r;exact u _ _ _ _ q0 q1 q2 q3
def DV(h:AL C w0 nb op te li m acc S x n c w)(i:Xg (eQ C w (fI S E) (bR (aY b4)) w4)) (q:∀d g k b,Xg (Nd C w0 nb op te li (m+1) (acc++iT (fI S E)) (nL (fI S E)) (c9 d (aL nb 3) (P_ (Wy (aL g 0)) k b)))->nb<H_ d->dR d nb 3 (P_ x n c)->d.frozen? (aL nb 3)=WD->K (a.put o.dst (P_ (Wy (aL g 0)) k b)) d) (j:m<4000:=by omega) (l:o.op=.call {callee:=.builtin .append,args:=#[s,y],argTypes:=#[119,119]}:=by rfl) (r:a.eval s=P_ x n c:=by rfl) (p:a.eval y=P_ (Wy (aL k4 0)) 1 1:=by rfl) (e:o.guard=none:=by rfl) (f:H_ w4=k4:=by simp):if Region.wanted o (yielded ops a.tmps)=W1 then Oper.wp Xi o a (eF w4 #[aY b4] 64) K Q else F:=by rw[ec (by simp[Region.wanted,e])];exact Gf h j i f l r p q
def Fm(h:AL C w0 nb op te li m acc S x n c w)(i:Xg (eQ C w (fI S E) (bR (aY b4)) w4)) (t:∀d g k b,Xg (Nd C w0 nb op te li (m+1) (acc++iT (fI S E)) (nL (fI S E)) (c9 d (aL nb 3) (P_ (Wy (aL g 0)) k b)))->nb<H_ d->dR d nb 3 (P_ x n c)->d.frozen? (aL nb 3)=WD->wpList Xi ops Q rest (a.put o.dst (P_ (Wy (aL g 0)) k b)) d) (j:m<4000:=by omega) (l:o.op=.call {callee:=.builtin .append,args:=#[s,y],argTypes:=#[119,119]}:=by rfl) (q:a.eval s=P_ x n c:=by rfl) (p:a.eval y=P_ (Wy (aL k4 0)) 1 1:=by rfl) (e:o.guard=none:=by rfl) (f:H_ w4=k4:=by simp):wpList Xi ops Q (o::rest) a (eF w4 #[aY b4] 64):=wpList_plain e λ_ r=>Gf h j i f l q p G_
def GF{f:Nat}{Q:Xc->World->Prop}(h:AL C w0 nb op te li m acc S x n c w)(l:Reads C f E)(g:fI S E≠.error 0)(k:∀w' b,Xg (eQ C w (fI S E) (bR (aY b)) w')->nb<H_ w'->dR w' nb 3 (P_ x n c)->w'.frozen? (aL nb 3)=WD->Q (bR (aY b)) w'):W_ Xi f #[aY C.pb] w Q:=(l w S h.at_ g).mono λe w' a=>by obtain⟨b,rfl⟩:=a.ptr;obtain⟨j,i,d⟩:=(h.after a).cells;exact k w' b a j i d
def Nd.pre(h:Nd C w0 nb op te li m acc S w):∃x n c,Xg (AL C w0 nb op te li m acc S x n c w.drew)/\nb<H_ w/\dR w nb 3 (P_ x n c)/\w.frozen? (aL nb 3)=WD:=by have ⟨x,n,c,h⟩:=h;exact⟨x,n,c,h.drew,h.cells⟩
end
def sQ(C:Ctx)(S:Except Nat Nat):Nat:=match S with|.ok q=>(aR C.ts q).l_|.error _=>0
def Qg{c:Type}(C:Ctx)(x:bQ)(a:g)(q:Nat)(f:g->c):bV f (aQ C.ts x (.ok (a,q)))=fI (fR C (.ok q) x) λq=>.ok (f a,q):=by grind[aQ,bV,Hs.bad,fI,fR]
def Fx(C:Ctx)(w:aN)(S:Except Nat Nat)(h:lK C w S):W_ Xi 164 #[aY C.pb] w λe w'=>∃t,e=bR (Xn #[Xs .u8 (bH.c_ t),Q_ (bs t.x_),Y t.l_])/\Xg (∀op te,Nd C w (H_ w') op te (sQ C S) 0 [] S (eF w' #[Q_ (bs op),Y t.l_,Q_ (bs te),bP] 121)):=(J9 C w S h).mono λ_ _ ⟨⟨t,a,b⟩,c⟩=>⟨t,a,λop te=>(by grind[Nd.new,Fr.below,lK.below,lK.facts,sQ])⟩
def FN{C:Ctx}{A B:bU aC}{Q:Xc->World->Prop}(h:Nd C N K L G T W M F V)(x:ByteArray)(t:Xg (r=if sF C F x.data.toList then A else B))(E:∀w',Xg (Nd C N K L G T W M F w')->Xg (r=B)->Q (bR (Xr WD)) w') (k:∀p,F=.ok p->∀w' z,K<w'.heap.size->I_ w' (aL K 0)=Wy (Xm z)->w'.frozen? (aL K 0)=WD->Xg (∀o:ByteArray,Nd C N K o.data.toList G T W M (.ok (p+1)) (c9 w' (aL K 0) (Xm o)))->Xg (r=A)->Xg (Nd C N K L G T W M (.ok (p+1)) w')->Q (bR (Xr W1)) w'):W_ Xi 217 #[aY C.pb,Xm x] V Q:=by refine mh (l8 h x) λD u=>?_;have j:=t.out;have c:=u.out;cases g:sF C F x.data.toList<;>rw[g]at j;rw[show uN C F x.data.toList=F by cases F with|ok q=>exact BY g|error l=>rfl]at c;grind;cases F with|error l=>cases g|ok p=>rw[BX g]at c;obtain⟨s,⟨v,y⟩,n,-⟩:=c.Ap;exact k p aJ _ v s y n (λo=>c.Cv o) j c
def I1{C:Ctx}{r:bU (List aC)}(y:Fr C.pb N V)(u:xI C V r (bR (P_ x W H)) X) (v:H_ N<=K) (k:K<H_ V) (d:K≠C.pb/\K≠C.g) (g:V.heap[K]?=Wy (bO #[Q_ (bs L),Y T,Q_ (bs G),Q] 121)):eQ C N (bV (aW L T G) r) (bR (aY K)) (c9 X (aL K 3) (P_ x W H)):=by
 have ⟨h1,h2,x',n',c',he,h4⟩:=u;have hblk4:=(h1.block K k d.1).trans g;refine⟨(by grind[Fr.setCell,Fr.trans]),?_,K,rfl,λa q o=>?_⟩;have e:nL (bV (aW L T G) r)=nL r:=by cases r<;>rfl
 grind[lK.other];cases r with|error l=>cases o|ok s=>have ⟨ks,q'⟩:=s;cases o;refine ve.mk (kv:=P_ x W H) (by grind[VO,sm]) (by rw[aP hblk4];rfl) ?_;have p:yh (sm (H_ V) (H_ X)) (c9 X (aL K 3) (P_ x W H)) (P_ x W H) ks:=(by grind[yh.h_,ej,sm]);grind[yh.mono,VO,sm,aW]
def Nd.list{C:Ctx}{l:aN}{n:Nat}{f:List aC}{r:bU (List aC)}(h:Nd C l K L G T W f F N)(u:∃q,F=.ok q)(i:xI C N r (bR (Xl x n H)) V):Xg (eQ C l (bV (aW L T G) r) (bR (aY K)) (c9 V (aL K 3) (Xl x n H)))/\K<V.heap.size/\(∃v,I_ V (aL K 3)=Wy v)/\V.frozen? (aL K 3)=WD:=by have ⟨x',n',c',h⟩:=h;have ⟨q,e⟩:=u;have d:=(h.made q e).i_;have g:=aH d;obtain⟨t,-,-,-,s,-,-,p⟩:=uF ((i.1.block K g (by have:=h.lo;exact Z)).trans d);exact⟨I1 h.fr i h.lo.1 g (by have:=h.lo;exact Z) d,t,⟨_,s⟩,p⟩
def pU:∀l m:bQ,Op.bytesLess l m=fC l m|[],[]=>rfl|[],_::_=>rfl|_::_,[]=>rfl|a::l,b::m=>by rw[Op.bytesLess,fC,pU l m];grind[UInt8.lt_iff_toNat_lt,UInt8.toNat_inj]
def EA:∀l m:bQ,(fC l m||l==m)=!fC m l|[],[]=>rfl|[],_::_=>rfl|_::_,[]=>rfl|a::l,b::m=>by rw[fC,fC];by_cases d:a.toNat<b.toNat;grind;by_cases c:b.toNat<a.toNat;grind;rw[dy d,dy c,dy c,dy d,<-EA l m,show a=b from jr.1 Z];simp
