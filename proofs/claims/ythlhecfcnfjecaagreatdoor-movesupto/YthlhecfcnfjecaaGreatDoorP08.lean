import Derived.Test.YthlhecfcnfjecaaGreatDoorP07
set_option linter.all false
set_option maxRecDepth 100000
set_option maxHeartbeats 0
open Go.Proofs.Tryz renaming prog->Xi
open Go.Value renaming string->Xm
namespace Go.Proofs.YthlhecfcnfjecaaGreatDoor
open Hs
open _root_.Go.Proofs.Tryz
def rZ(n b0 b1 b2 b3:Nat):Nat:=if b0<128 then 1 else if 194<=b0/\b0<=223 then (if 1<n/\128<=b1/\b1<=191 then 2 else 0) else if 224<=b0/\b0<=239 then (if (1<n/\(if b0=224 then 160 else 128)<=b1/\b1<=(if b0=237 then 159 else 191))/\(2<n/\128<=b2/\b2<=191)then 3 else 0) else if 240<=b0/\b0<=244 then (if ((1<n/\(if b0=240 then 144 else 128)<=b1/\b1<=(if b0=244 then 143 else 191))/\(2<n/\128<=b2/\b2<=191))/\(3<n/\128<=b3/\b3<=191)then 4 else 0) else 0
theorem Hc(n a b c d:Nat)(l:a<256)(j:b<256)(h:c<256)(m:d<256):(rZ n a b c d=0->Lib.decodeN n a b c d=(65533,1))/\(rZ n a b c d≠0->(Lib.decodeN n a b c d).2=rZ n a b c d/\¬((Lib.decodeN n a b c d).1=65533/\rZ n a b c d=1)/\((Lib.decodeN n a b c d).1=10↔a=10)):=by have k:b/64=2↔128<=b/\b<=191:=Z;have e:c/64=2↔128<=c/\c<=191:=Z;have f:d/64=2↔128<=d/\d<=191:=Z;have g:a/32=6↔192<=a/\a<=223:=Z;have i:a/16=14↔224<=a/\a<=239:=Z;have o:a/8=30↔240<=a/\a<=247:=Z;unfold rZ Lib.decodeN;grind
theorem tQ(s:ByteArray)(i:Nat)(h:i<s.size):s.get! i=s[i]:=by show s.data[i]! =s.data[i];rw[getElem!_pos s.data i qn]
theorem Ud(s:ByteArray)(i a b:Nat):iW (eA s) i a b=decide (i<s.size/\a<=(s.get! i).toNat/\(s.get! i).toNat<=b):=by
 unfold iW;by_cases h:i<s.size;have e:s.data.toList[i]?=some s[i]:=by simp[h];rfl
 grind[tQ];have e:s.data.toList[i]?=none:=jh (by simpa using (by omega:s.size<=i));grind
theorem Ps(s:ByteArray)(h:0<s.size):bY (eA s)=rZ s.size (s.get! 0).toNat (s.get! 1).toNat (s.get! 2).toNat (s.get! 3).toNat:=by
 unfold bY rZ;have e:s.data.toList[0]?=some s[0]:=by simp[h];rfl
 grind[tQ,Ud]
theorem Rv(s:ByteArray)(k i a b:Nat):iW ((eA s).drop k) i a b=decide (i<s.size-k/\a<=(s.get! (k+i)).toNat/\(s.get! (k+i)).toNat<=b):=by
 unfold iW;by_cases h:k+i<s.size;have e:s.data.toList[k+i]?=some s[k+i]:=by simp[h];rfl
 grind[tQ];have e:s.data.toList[k+i]?=none:=jh (by simpa using (by omega:s.size<=k+i));grind
def Vu(s:ByteArray)(k:Nat)(h:k<s.size):bY ((eA s).drop k)=rZ (s.size-k) (s.get! k).toNat (s.get! (k+1)).toNat (s.get! (k+2)).toNat (s.get! (k+3)).toNat:=by
 unfold bY rZ;have e:((eA s).drop k)[0]?=some s[k]:=by simp[h];rfl
 grind[tQ,Rv]
def ND(r:Nat):bQ:=(Utf8.encode (Int.ofNat r)).data.toList
theorem GL(r:Nat)(h:r<55296\/(57344<=r/\r<=1114111)):ND r=if r<128 then [UInt8.ofNat r]else if r<2048 then [UInt8.ofNat (192+r/64),UInt8.ofNat (128+r%64)]else if r<65536 then [UInt8.ofNat (224+r/4096),UInt8.ofNat (128+r/64%64),UInt8.ofNat (128+r%64)] else [UInt8.ofNat (240+r/262144),UInt8.ofNat (128+r/4096%64),UInt8.ofNat (128+r/64%64),UInt8.ofNat (128+r%64)]:=by grind[Utf8.valid,ND,Utf8.encode]
def Ob(n a b c d:Nat)(s:a<256)(f:rZ n a b c d≠0):(Lib.decodeN n a b c d).2=rZ n a b c d/\(Lib.decodeN n a b c d).1<=1114111/\ND (Lib.decodeN n a b c d).1=([a,b,c,d].take (rZ n a b c d)).map UInt8.ofNat:=by
 have u:a/32=6↔192<=a/\a<=223:=Z;have o:a/16=14↔224<=a/\a<=239:=Z;have t:a/8=30↔240<=a/\a<=247:=Z;unfold rZ at f⊢;unfold Lib.decodeN;by_cases l:a<128;grind[GL];simp[dy l]at f⊢;by_cases m:194<=a/\a<=223;grind[GL];rw[dy m]at f⊢;by_cases i:224<=a/\a<=239;rw[ec i]at f⊢;by_cases h:(1<n/\(if a=224 then 160 else 128)<=b/\b<=(if a=237 then 159 else 191))/\(2<n/\128<=c/\c<=191);rw[ec h]at f⊢;have p:128<=b:=G_;have q:b<=191:=G_;have l3:=λe=>by have:=h.1.2.1;rw[ec e]at this;exact this
 have l4:=λe=>by have:=h.1.2.2;rw[ec e]at this;exact this
 rw[dy (Z),ec ⟨o.2 i,Z,h.2.1,Z⟩];have j:2048<=a%16*4096+b%64*64+c%64:=by exact Z
 have k:a%16*4096+b%64*64+c%64<55296\/(57344<=a%16*4096+b%64*64+c%64/\a%16*4096+b%64*64+c%64<=1114111):=by exact Z
 rw[ec ⟨j,Z⟩];refine⟨aJ,Z,?_⟩;rw[GL _ k,dy Z,dy Z,ec Z];simp only[List.take_succ_cons,List.take_zero,fk,gg];grind;grind;rw[dy i]at f⊢;by_cases r:240<=a/\a<=244;rw[ec r]at f⊢;by_cases g:((1<n/\(if a=240 then 144 else 128)<=b/\b<=(if a=244 then 143 else 191))/\(2<n/\128<=c/\c<=191))/\(3<n/\128<=d/\d<=191);rw[ec g]at f⊢;have p:128<=b:=G_;have q:b<=191:=G_;have l3:=λe=>by have:=g.1.1.2.1;rw[ec e]at this;exact this
 have l4:=λe=>by have:=g.1.1.2.2;rw[ec e]at this;exact this
 rw[dy (Z),dy (Z),ec ⟨Z,Z,Z,g.2.1,Z⟩];have j:65536<=a%8*262144+b%64*4096+c%64*64+d%64:=by exact Z
 have k:a%8*262144+b%64*4096+c%64*64+d%64<=1114111:=by exact Z
 rw[ec ⟨j,Z⟩];refine⟨aJ,k,?_⟩;rw[GL _ Z,dy Z,dy Z,dy Z];simp only[List.take_succ_cons,List.take_zero,fk,gg];rw[show 240+(a%8*262144+b%64*4096+c%64*64+d%64)/262144=a by omega,show 128+(a%8*262144+b%64*4096+c%64*64+d%64)/4096%64=b by omega,show 128+(a%8*262144+b%64*4096+c%64*64+d%64)/64%64=c by omega,show 128+(a%8*262144+b%64*4096+c%64*64+d%64)%64=d by omega];rw[dy g]at f;exact Z;grind
def ZM(s:ByteArray)(k:Nat)(h:k<s.size)(f:bY ((eA s).drop k)≠0):(Utf8.decode s k).2=bY ((eA s).drop k)/\(Utf8.decode s k).1<=1114111/\ND (Utf8.decode s k).1=((eA s).drop k).take (bY ((eA s).drop k)):=by
 have d:=@qU ((eA s).drop k);rw[Vu s k h]at f d⊢;have ⟨e1,e2,e3⟩:=Ob (s.size-k) (s.get! k).toNat (s.get! (k+1)).toNat (s.get! (k+2)).toNat (s.get! (k+3)).toNat (UInt8.toNat_lt _) f;rw[Lib.decode_at];refine⟨e1,e2,e3.trans ?_⟩;generalize g:rZ (s.size-k) (s.get! k).toNat (s.get! (k+1)).toNat (s.get! (k+2)).toNat (s.get! (k+3)).toNat=c at*;have m:c<=4:=by grind[rZ]
 have l:((eA s).drop k).length=s.size-k:=s_;refine jt λi=>?_;rw[ix,ju,ju];by_cases b:i<c;rw[ec b,ec b,List.getElem?_drop];have a:k+i<s.size:=Z;have e:s.data.toList[k+i]?=some (s.get! (k+i)):=by rw[tQ s (k+i) a];simp[a];rfl
 rw[e];match i,b with|0,_=>simp|1,_=>simp|2,_=>simp|3,_=>simp|j+4,b=>exact Z
 grind
theorem FQ(s:ByteArray):∀(f k:Nat),s.size-k<=f->eU ((eA s).drop k)->Lib.runeCountFrom s f k=(eE ((eA s).drop k)).length
 |0,k,d,_=>by rw[gF (ea (gp la))];rfl|f+1,k,d,i=>by
  unfold Lib.runeCountFrom;by_cases h:k<s.size;have a:(eA s).drop k≠[]:=λe=>by have:=fe List.length e;simp at this;exact Z
  obtain⟨c,b⟩:=i.ne a;obtain⟨g,_,_⟩:=ZM s k h c;rw[ec h,g,kG a c,fg];rw[jp]at b⊢;rw[FQ s f (k+bY ((eA s).drop k)) Z b];exact Z;rw[dy h,gF (ea (gp la))];rfl
def EX(s:ByteArray):∀(f k:Nat) (a:Array Value),s.size-k<=f->eU (s.data.toList.drop k)->∃b:List Nat,Conv.runesFrom s f k a=a++(b.map λr=>Value.int .i32 (Int.ofNat r)).toArray/\b.length=(eE (s.data.toList.drop k)).length/\(∀r∈b,r<=1114111)/\b.map ND=eE (s.data.toList.drop k)
 |0,k,a,j,_=>⟨[],by simp[Conv.runesFrom],by rw[gF (ea (gp la))];rfl,s_,by rw[gF (ea (gp la))];rfl⟩|f+1,k,a,j,g=>by
  by_cases h:k<s.size;have c:s.data.toList.drop k≠[]:=λe=>by have:=fe List.length e;simp at this;exact Z
  obtain⟨i,d⟩:=g.ne c;obtain⟨p,n,q⟩:=ZM s k h i;rw[jp]at d;obtain⟨b,l,t,m,o⟩:=EX s f (k+bY (s.data.toList.drop k)) (a.push (.int .i32 (Int.ofNat (Utf8.decode s k).1))) Z d;refine⟨(Utf8.decode s k).1::b,?_,?_,?_,?_⟩;grind[Conv.runesFrom];grind[kG,List.drop_drop];grind;grind[kG,List.drop_drop];refine⟨[],?_,?_,s_,?_⟩;grind[Conv.runesFrom];all_goals rw[gF (ea (gp la))];rfl
open Go.RowKit
abbrev xy(w:aN)(b:Nat):Prop:=w.heap[b]?=some (.cells #[Y 0,Xm ⟨#[]⟩,Y 0,Y 0] 176)
def IA{Z_:Prop}(Y_:Z_:=by go_wp2_with fail;go_quiet (fail);go_wp2_with fail;refine sa (HFL _) λw3 hw=>?_;obtain rfl:=hw.symm;go_wp2_with fail;exact⟨aJ,HF2.drewN _,s_⟩):Z_:=Y_
def Oh(r:Nat)(a:ByteArray)(n L:Nat)(w:aN)(h:SC r a n L w)(hs:a.size<=2000000000)(hn:n<a.size):Calls Xi 197 #[aY r] w (Dg r a n L w (oN ((eA a).drop (n+1)))):=by
 obtain⟨m,W⟩:∃m,m=n+1:=(by simp);rw[<-W];obtain⟨j,G⟩:∃j,j=bT iG ((eA a).drop m):=(by simp);have aj:j<=a.size-m:=by have:=oD iG ((eA a).drop m);rw[G];simpa using this
 obtain⟨k,hk⟩:∃k,k=m+j:=(by simp);have ak:=(SC.cells h).1;have t:H_ w≠r:=Z;have h1:SC r a n L (eF w #[Y 0,Q_ ⟨#[]⟩,Y 0,Y 0] 176):=by grind[SC,ed]
 have HZ:Hid (xy (eF w #[Y 0,Q_ ⟨#[]⟩,Y 0,Y 0] 176) (H_ w)):=aV _ _ aJ _;have F:=O (tJ r a n L 1 (eF w #[Y 0,Q_ ⟨#[]⟩,Y 0,Y 0] 176) h1 hs Z);rw[<-W]at F;have z:=O (λw=>BB iG 245 (s_) SK (a.extract m a.size) w rk);rw[rW,<-G]at z;have ⟨x,htx⟩:∃x,x=((eA a).drop m).take j:=(by simp);have ad:(bs x).size=j:=by rw[iS,htx,ia];simp;exact Z
 have ⟨ok,b⟩:∃ok,ok=(decide (((eA a).drop m)[j]?=some 34)&&decide (j<=100)):=(by simp);have HW:Hid (oN ((eA a).drop m)={c_:=115,x_:=x,size:=j+2,ok:=ok}):=by show _=_;grind[oN]
 rw[HW];have aa:=O htx;have f:=O b;have J:Hid (Fr r w (eF w #[Y 0,Q_ ⟨#[]⟩,Y 0,Y 0] 176)):=(Fr.refl _ _).alloc _;have HM:=O W;have HK:=O hk;have af:m<=a.size:=Z;have ae:k<=a.size:=Z;clear h h1 G htx HW b W hk;generalize c:({c_:=115,x_:=x,size:=j+2,ok:=ok}:qV)=rr;have g:=O c;clear c;go_in;go_wp;refine sa F λw1 ⟨E,H⟩=>?_;have P:=O (H.xr HZ t);have HZ1d:Hid (xy w1.drew (H_ w)):=P.out;have s:=O (tJ r a m L j w1.drew E hs Z);rw[<-HK]at s;rw[<-aa]at s;have I:=O (J.trans H);have ⟨h0,c0,V,S,X,T⟩:=E.cells;clear E H F HZ J;go_wp2;go_cut [3] (λv wc=>v=Q_ (bs x)/\SC r a (k) L wc/\Fr r w wc/\xy wc (H_ w));case first=>go_region_law (first|(go_simp;go_at_call 191;refine sa (z _) λw2 hw=>?_;obtain rfl:=hw.symm)|(go_simp;go_at_call 240;refine sa s λw2 ⟨o,p⟩=>?_;have C:=O o;have HF2:=O (I.drew.trans p);have D:=O (p.xr HZ1d t);clear o p));all_goals go_wp;go_meet;grind[dw]
 case rest=>
  obtain⟨rfl,o,p,K⟩:=hcut;clear c0 V S X T h0;have ⟨h0,c0,V,S,X,T⟩:=o.cells;have C:=O o;have HF2:=O p;have D:=O K;clear o p K s z P HZ1d I;have HFL:=O (λq=>xP r a (k) L (wc.drewN q) C);by_cases u:j<=100;rotate_left;have e1:decide ((100:Int)<(j:Int))=true:=(by grind);have b:ok=false:=by rw[f,gh u,Bool.and_false]
  subst b;have c:=g.out;clear g f;subst c;exact IA;have e1:decide ((100:Int)<(j:Int))=false:=(by grind);by_cases ag:k=a.size;have e2:((k:Int)==(a.size:Int))=true:=G_;have b:ok=false:=by rw[f,jh (by have:=HK.out;simp;exact Z)];simp
  subst b;have c:=g.out;clear g f;subst c;exact IA;have ai:k<a.size:=Z;have e2:((k:Int)==(a.size:Int))=false:=G_;have hb:(a[k].toNat:Int)<=255:=mH _;have l:((eA a).drop m)[j]?=some a[k]:=by grind[yR,dw]
  by_cases A:a[k].toNat=34
  .have b:ok=true:=by rw[f,l,io u,Bool.and_true];exact io (fe some (jr.1 A))
   subst b;have c:=g.out;clear g f l;subst c;have N:((a[k].toNat:Int) !=34)=false:=G_;have ah:=aH D;have Q:=O (λq=>tJ r a (k) L 1 (wc.drewN q) C hs Z);clear A;go_wp;go_quiet (fail);go_wp;refine sa (Q _) λw3 ⟨y,B⟩=>?_;have d:=O ((((Fr.refl r wc).drewN _).trans B).xr D t);have ac:=O ((HF2.drewN _).trans B);have ab:=O y;have z0:=aB d (i:=0) aJ;have z1:=aB d (i:=1) aJ;have z2:=aB d (i:=2) aJ;have z3:=aB d (i:=3) aJ;have y0:=aF (i:=0) d;have y1:=aF (i:=1) d;have y2:=aF (i:=2) d;have y3:=aF (i:=3) d;have al:=aH d;clear c0 V S X T h0;obtain⟨h0,c0,V,S,X,T⟩:=y.cells;clear y B Q;go_wp2;apply bodyPost_ret (v:=.agg #[Y 3,Q_ (bs x),Y 0,Y L]) (by simp[results,results197,go_sem,z0,z1,z2,z3]) rfl;have M:=tZ ac ab lZ t (Y 3) (Q_ (bs x)) (Y 0) (Y L);exact⟨M.1,ea ⟨aJ,aJ,ng⟩⟩
  have b:ok=false:=by rw[f,l,gh λe=>A (by rw[fo e];rfl)];rfl
  subst b;have c:=g.out;clear g f l;subst c;have N:((a[k].toNat:Int) !=34)=true:=G_;exact IA
structure w_(w:aN):Prop where
 tz:∃t fr,w.heap[(3:Nat)]?=some (.cells #[Xm ⟨#[61,61]⟩,Xm ⟨#[33,61]⟩,Xm ⟨#[60,61]⟩,Xm ⟨#[38,38]⟩,Xm ⟨#[124,124]⟩,Xm ⟨#[40]⟩,Xm ⟨#[41]⟩,Xm ⟨#[123]⟩,Xm ⟨#[125]⟩,Xm ⟨#[91]⟩,Xm ⟨#[93]⟩,Xm ⟨#[44]⟩,Xm ⟨#[59]⟩,Xm ⟨#[61]⟩,Xm ⟨#[60]⟩,Xm ⟨#[43]⟩,Xm ⟨#[45]⟩,Xm ⟨#[42]⟩,Xm ⟨#[47]⟩,Xm ⟨#[37]⟩,Xm ⟨#[33]⟩] t fr)
 ym:11<=w.heap.size
def w_.fr{w a:aN}{sb:Nat}(h:w_ w)(b:Fr sb w a)(c:11<=sb):w_ a:=by have ⟨t,fr,h1⟩:=h.tz;have:=h.ym;have:=b.size;exact⟨(by grind[Fr.block]),Z⟩
abbrev kJ:Value:=.agg #[Xm ⟨#[61,61]⟩,Xm ⟨#[33,61]⟩,Xm ⟨#[60,61]⟩,Xm ⟨#[38,38]⟩,Xm ⟨#[124,124]⟩,Xm ⟨#[40]⟩,Xm ⟨#[41]⟩,Xm ⟨#[123]⟩,Xm ⟨#[125]⟩,Xm ⟨#[91]⟩,Xm ⟨#[93]⟩,Xm ⟨#[44]⟩,Xm ⟨#[59]⟩,Xm ⟨#[61]⟩,Xm ⟨#[60]⟩,Xm ⟨#[43]⟩,Xm ⟨#[45]⟩,Xm ⟨#[42]⟩,Xm ⟨#[47]⟩,Xm ⟨#[37]⟩,Xm ⟨#[33]⟩]
def Mx(w:aN):(Instr.index 316 kJ (Y 0)).run Xi w=.ok (Q_ ⟨#[61,61]⟩) w:=k_
def Qb(w:aN):(Instr.index 316 kJ (Y 1)).run Xi w=.ok (Q_ ⟨#[33,61]⟩) w:=k_
def Oy(w:aN):(Instr.index 316 kJ (Y 2)).run Xi w=.ok (Q_ ⟨#[60,61]⟩) w:=k_
def Mu(w:aN):(Instr.index 316 kJ (Y 3)).run Xi w=.ok (Q_ ⟨#[38,38]⟩) w:=k_
def Um(w:aN):(Instr.index 316 kJ (Y 4)).run Xi w=.ok (Q_ ⟨#[124,124]⟩) w:=k_
def Ju(w:aN):(Instr.index 316 kJ (Y 5)).run Xi w=.ok (Q_ ⟨#[40]⟩) w:=k_
def Sl(w:aN):(Instr.index 316 kJ (Y 6)).run Xi w=.ok (Q_ ⟨#[41]⟩) w:=k_
def Sh(w:aN):(Instr.index 316 kJ (Y 7)).run Xi w=.ok (Q_ ⟨#[123]⟩) w:=k_
def Ub(w:aN):(Instr.index 316 kJ (Y 8)).run Xi w=.ok (Q_ ⟨#[125]⟩) w:=k_
def Rr(w:aN):(Instr.index 316 kJ (Y 9)).run Xi w=.ok (Q_ ⟨#[91]⟩) w:=k_
def O6(w:aN):(Instr.index 316 kJ (Y 10)).run Xi w=.ok (Q_ ⟨#[93]⟩) w:=k_
def O5(w:aN):(Instr.index 316 kJ (Y 11)).run Xi w=.ok (Q_ ⟨#[44]⟩) w:=k_
def O4(w:aN):(Instr.index 316 kJ (Y 12)).run Xi w=.ok (Q_ ⟨#[59]⟩) w:=k_
def O3(w:aN):(Instr.index 316 kJ (Y 13)).run Xi w=.ok (Q_ ⟨#[61]⟩) w:=k_
def O2(w:aN):(Instr.index 316 kJ (Y 14)).run Xi w=.ok (Q_ ⟨#[60]⟩) w:=k_
def O1(w:aN):(Instr.index 316 kJ (Y 15)).run Xi w=.ok (Q_ ⟨#[43]⟩) w:=k_
def O0(w:aN):(Instr.index 316 kJ (Y 16)).run Xi w=.ok (Q_ ⟨#[45]⟩) w:=k_
def N9(w:aN):(Instr.index 316 kJ (Y 17)).run Xi w=.ok (Q_ ⟨#[42]⟩) w:=k_
def N8(w:aN):(Instr.index 316 kJ (Y 18)).run Xi w=.ok (Q_ ⟨#[47]⟩) w:=k_
def N7(w:aN):(Instr.index 316 kJ (Y 19)).run Xi w=.ok (Q_ ⟨#[37]⟩) w:=k_
def N6(w:aN):(Instr.index 316 kJ (Y 20)).run Xi w=.ok (Q_ ⟨#[33]⟩) w:=k_
def Mk(k:Nat)(a:k<21)(w:aN):(Instr.index 316 kJ (Y k)).run Xi w=.ok (Q_ (bs (eM[k]'(by simpa [eM]using a)))) w:=by match k,a with|0,_=>exact Mx w|1,_=>exact Qb w|2,_=>exact Oy w|3,_=>exact Mu w|4,_=>exact Um w|5,_=>exact Ju w|6,_=>exact Sl w|7,_=>exact Sh w|8,_=>exact Ub w|9,_=>exact Rr w|10,_=>exact O6 w|11,_=>exact O5 w|12,_=>exact O4 w|13,_=>exact O3 w|14,_=>exact O2 w|15,_=>exact O1 w|16,_=>exact O0 w|17,_=>exact N9 w|18,_=>exact N8 w|19,_=>exact N7 w|20,_=>exact N6 w|k+21,h=>exact Z
def Wj(g:Nat)(a:ByteArray)(n L:Nat)(w:aN)(h:SC g a n L w)(S:w_ w)(hs:a.size<=2000000000)(hn:n<a.size)(r:qV)(W:Hid (jS ((eA a).drop n)=r)):Calls Xi 198 #[aY g] w (Dg g a n L w r):=by
 have ad:=(SC.cells h).1;have C:H_ w≠g:=Z;have X:=S.ym;have h1:SC g a n L (eF w #[Y 0,Q_ ⟨#[]⟩,Y 0,Y 0] 176):=by grind[SC,ed]
 have HZ:Hid (xy (eF w #[Y 0,Q_ ⟨#[]⟩,Y 0,Y 0] 176) (H_ w)):=aV _ _ aJ _;have ac:Hid (Fr g w (eF w #[Y 0,Q_ ⟨#[]⟩,Y 0,Y 0] 176)):=(Fr.refl _ _).alloc _;obtain⟨tt,fr,l⟩:=S.tz;have c:(eF w #[Y 0,Q_ ⟨#[]⟩,Y 0,Y 0] 176).heap[(3:Nat)]?=_:=kX w 3 Z _ l;have o:(prog.info? 316).map (·.size)=some (#[Q_ ⟨#[61,61]⟩,Q_ ⟨#[33,61]⟩,Q_ ⟨#[60,61]⟩,Q_ ⟨#[38,38]⟩,Q_ ⟨#[124,124]⟩,Q_ ⟨#[40]⟩,Q_ ⟨#[41]⟩,Q_ ⟨#[123]⟩,Q_ ⟨#[125]⟩,Q_ ⟨#[91]⟩,Q_ ⟨#[93]⟩,Q_ ⟨#[44]⟩,Q_ ⟨#[59]⟩,Q_ ⟨#[61]⟩,Q_ ⟨#[60]⟩,Q_ ⟨#[43]⟩,Q_ ⟨#[45]⟩,Q_ ⟨#[42]⟩,Q_ ⟨#[47]⟩,Q_ ⟨#[37]⟩,Q_ ⟨#[33]⟩]:Array Value).size:=k_;have s:∀(k:Nat) (T:k<21) (w:aN),(Instr.index 316 (.agg #[Q_ ⟨#[61,61]⟩,Q_ ⟨#[33,61]⟩,Q_ ⟨#[60,61]⟩,Q_ ⟨#[38,38]⟩,Q_ ⟨#[124,124]⟩,Q_ ⟨#[40]⟩,Q_ ⟨#[41]⟩,Q_ ⟨#[123]⟩,Q_ ⟨#[125]⟩,Q_ ⟨#[91]⟩,Q_ ⟨#[93]⟩,Q_ ⟨#[44]⟩,Q_ ⟨#[59]⟩,Q_ ⟨#[61]⟩,Q_ ⟨#[60]⟩,Q_ ⟨#[43]⟩,Q_ ⟨#[45]⟩,Q_ ⟨#[42]⟩,Q_ ⟨#[47]⟩,Q_ ⟨#[37]⟩,Q_ ⟨#[33]⟩]) (Y k)).run Xi w=.ok (Q_ (bs (eM[k]'(by simpa [eM]using T)))) w:=Mk;generalize (#[Q_ ⟨#[61,61]⟩,Q_ ⟨#[33,61]⟩,Q_ ⟨#[60,61]⟩,Q_ ⟨#[38,38]⟩,Q_ ⟨#[124,124]⟩,Q_ ⟨#[40]⟩,Q_ ⟨#[41]⟩,Q_ ⟨#[123]⟩,Q_ ⟨#[125]⟩,Q_ ⟨#[91]⟩,Q_ ⟨#[93]⟩,Q_ ⟨#[44]⟩,Q_ ⟨#[59]⟩,Q_ ⟨#[61]⟩,Q_ ⟨#[60]⟩,Q_ ⟨#[43]⟩,Q_ ⟨#[45]⟩,Q_ ⟨#[42]⟩,Q_ ⟨#[47]⟩,Q_ ⟨#[37]⟩,Q_ ⟨#[33]⟩]:Array Value)=V at c o s;have HIXX:=O s;have HTAB:=O c;have M:=O o;clear l c o s;have H1:=O h1;go_in;go_wp2_with (refine wpList_load_row aJ 316 (.global 3) aJ 3 r_ tt V fr (.array 21 9) HTAB underlying316 rfl M ?_);go_loopg [4,6] 21 (λgk _ i wr=>∃k:Nat,k+gk=21/\i=Y k/\Hid (tB ((eA a).drop n) k)/\SC g a n L wr/\Fr g w wr/\xy wr (H_ w));case atStart=>grind[dw,tB]
 case round=>
  obtain⟨k,T,rfl,K,y,N,J⟩:=hrel;obtain⟨h0,c0,c1,c2,f1,f2⟩:=y.cells;have t:=O y;have p:=O N;have A:=O J;by_cases e:k<21
  .obtain⟨j,rfl⟩:∃j,gk=j+1:=⟨gk-1,Z⟩;obtain⟨q,D⟩:∃q,q=eM[k]'(by simpa [eM]using e):=(by simp);have aa:∀w,(Instr.index 316 (.agg V) (Y k)).run Xi w=.ok (Q_ (bs q)) w:=λw=>by rw[D];exact HIXX k e w
   have af:q.length<=2:=by rw[D];exact BJ k e
   have hqs:=iS q;have Q:Hid (q=eM[k]'(by grind)):=D;clear D;have d:=O (λw=>JM (a.extract n a.size) (bs q) w rk Z);rw[rW,jT]at d;cases f:eG ((eA a).drop n) q
   .rw[f]at d;have x:=FF e K (by rw[<-Q];exact f);go_wp2_with fail;go_quiet ((go_at_call 190;exact Calls.quiet_of_same (d _)));go_wp2;go_roundg j;case measure=>exact Z
    case rel=>exact⟨k+1,Z,ll,x,t,p.drewN _,A⟩
   rw[f]at d;have x:Hid (r={c_:=112,x_:=q,size:=q.length,ok:=true}):=by rw[<-W.out];exact JX e K q Q f
   have H:n+q.length<=a.size:=by have:=wE f;simp at this;exact Z
   have HTXT:Hid (((eA a).drop n).take q.length=q):=by grind[eG,nW]
   have u:=O (λF=>tJ g a n L q.length (wr.drewN F) t hs H);rw[HTXT]at u;have I:Hid (∀F,xy (wr.drewN F) (H_ w)):=λ_=>A;go_wp2_with fail;go_quiet ((go_at_call 190;exact Calls.quiet_of_same (d _)));go_wp2;go_region_law (go_simp;go_at_call 240;refine sa (u _) λw2 ⟨E,B⟩=>?_;have z:=O E;have P:=O ((p.drewN _).trans B);have b:=O (B.xr (I _) C);have ab:=(SC.cells z).2.2.2.1;have z0:=aB b (i:=0) aJ;have z1:=aB b (i:=1) aJ;have z2:=aB b (i:=2) aJ;have z3:=aB b (i:=3) aJ;have y0:=aF (i:=0) b;have y1:=aF (i:=1) b;have y2:=aF (i:=2) b;have y3:=aF (i:=3) b;have ae:=aH b);all_goals go_wp2_with fail;rw[x];refine bodyPost_ret (v:=.agg #[Y 0,Q_ (bs q),Y 0,Y L]) (by simp[results,results198,go_sem,z0,z1,z2,z3]) rfl ?_;have m:=tZ P z lZ C (Y 0) (Q_ (bs q)) (Y 0) (Y L);exact⟨m.1,ea ⟨aJ,aJ,m.2⟩⟩
  obtain rfl:k=21:=Z;have x:Hid (r={c_:=0,x_:=[],size:=0,ok:=false}):=by rw[<-W.out];exact FE K.out
  have G:=O (xP g a n L wr t);go_wp;refine sa G λw3 hw=>?_;obtain rfl:=hw.symm;go_wp;rw[x];exact⟨aJ,p,s_⟩
