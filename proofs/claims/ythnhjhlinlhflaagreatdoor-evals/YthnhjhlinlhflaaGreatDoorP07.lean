import Derived.Test.YthnhjhlinlhflaaGreatDoorB01
import Derived.Test.YthnhjhlinlhflaaGreatDoorP06
set_option linter.all false
set_option maxRecDepth 100000
set_option maxHeartbeats 0
open Go.Proofs.Tryz renaming prog->Ww
open Go.Value renaming string->WD
namespace Go.Proofs.YthnhjhlinlhflaaGreatDoor
open Hs
open _root_.Go.Proofs.Tryz
def sJ(n b0 b1 b2 b3:Nat):Nat:=if b0<128 then 1 else if 194<=b0/\b0<=223 then (if 1<n/\128<=b1/\b1<=191 then 2 else 0) else if 224<=b0/\b0<=239 then (if (1<n/\(if b0=224 then 160 else 128)<=b1/\b1<=(if b0=237 then 159 else 191))/\(2<n/\128<=b2/\b2<=191)then 3 else 0) else if 240<=b0/\b0<=244 then (if ((1<n/\(if b0=240 then 144 else 128)<=b1/\b1<=(if b0=244 then 143 else 191))/\(2<n/\128<=b2/\b2<=191))/\(3<n/\128<=b3/\b3<=191)then 4 else 0) else 0
theorem Sm(n a b c d:Nat)(l:a<256)(j:b<256)(h:c<256)(m:d<256):(sJ n a b c d=0->Lib.decodeN n a b c d=(65533,1))/\(sJ n a b c d≠0->(Lib.decodeN n a b c d).2=sJ n a b c d/\¬((Lib.decodeN n a b c d).1=65533/\sJ n a b c d=1)/\((Lib.decodeN n a b c d).1=10↔a=10)):=by have k:b/64=2↔128<=b/\b<=191:=Z;have e:c/64=2↔128<=c/\c<=191:=Z;have f:d/64=2↔128<=d/\d<=191:=Z;have g:a/32=6↔192<=a/\a<=223:=Z;have i:a/16=14↔224<=a/\a<=239:=Z;have o:a/8=30↔240<=a/\a<=247:=Z;unfold sJ Lib.decodeN;grind
theorem uA(s:ByteArray)(i:Nat)(h:i<s.size):s.get! i=s[i]:=by show s.data[i]! =s.data[i];rw[getElem!_pos s.data i qg]
theorem Ve(s:ByteArray)(i a b:Nat):jB (dL s) i a b=decide (i<s.size/\a<=(s.get! i).toNat/\(s.get! i).toNat<=b):=by
 unfold jB;by_cases h:i<s.size;have e:s.data.toList[i]?=some s[i]:=by simp[h];rfl
 grind[uA];have e:s.data.toList[i]?=none:=ix (by simpa using (by omega:s.size<=i));grind
theorem Vb(s:ByteArray)(h:0<s.size):bW (dL s)=sJ s.size (s.get! 0).toNat (s.get! 1).toNat (s.get! 2).toNat (s.get! 3).toNat:=by
 unfold bW sJ;have e:s.data.toList[0]?=some s[0]:=by simp[h];rfl
 grind[uA,Ve]
theorem Kh(s:ByteArray)(k i a b:Nat):jB ((dL s).drop k) i a b=decide (i<s.size-k/\a<=(s.get! (k+i)).toNat/\(s.get! (k+i)).toNat<=b):=by
 unfold jB;by_cases h:k+i<s.size;have e:s.data.toList[k+i]?=some s[k+i]:=by simp[h];rfl
 grind[uA];have e:s.data.toList[k+i]?=none:=ix (by simpa using (by omega:s.size<=k+i));grind
def Qa(s:ByteArray)(k:Nat)(h:k<s.size):bW ((dL s).drop k)=sJ (s.size-k) (s.get! k).toNat (s.get! (k+1)).toNat (s.get! (k+2)).toNat (s.get! (k+3)).toNat:=by
 unfold bW sJ;have e:((dL s).drop k)[0]?=some s[k]:=by simp[h];rfl
 grind[uA,Kh]
def NR(r:Nat):bS:=(Utf8.encode (Int.ofNat r)).data.toList
theorem IB(r:Nat)(h:r<55296\/(57344<=r/\r<=1114111)):NR r=if r<128 then [UInt8.ofNat r]else if r<2048 then [UInt8.ofNat (192+r/64),UInt8.ofNat (128+r%64)]else if r<65536 then [UInt8.ofNat (224+r/4096),UInt8.ofNat (128+r/64%64),UInt8.ofNat (128+r%64)] else [UInt8.ofNat (240+r/262144),UInt8.ofNat (128+r/4096%64),UInt8.ofNat (128+r/64%64),UInt8.ofNat (128+r%64)]:=by grind[Utf8.valid,NR,Utf8.encode]
def Nc(n a b c d:Nat)(s:a<256)(f:sJ n a b c d≠0):(Lib.decodeN n a b c d).2=sJ n a b c d/\(Lib.decodeN n a b c d).1<=1114111/\NR (Lib.decodeN n a b c d).1=([a,b,c,d].take (sJ n a b c d)).map UInt8.ofNat:=by
 have u:a/32=6↔192<=a/\a<=223:=Z;have o:a/16=14↔224<=a/\a<=239:=Z;have t:a/8=30↔240<=a/\a<=247:=Z;unfold sJ at f⊢;unfold Lib.decodeN;by_cases l:a<128;grind[IB];simp[dy l]at f⊢;by_cases m:194<=a/\a<=223;grind[IB];rw[dy m]at f⊢;by_cases i:224<=a/\a<=239;rw[ec i]at f⊢;by_cases h:(1<n/\(if a=224 then 160 else 128)<=b/\b<=(if a=237 then 159 else 191))/\(2<n/\128<=c/\c<=191);rw[ec h]at f⊢;have p:128<=b:=G_;have q:b<=191:=G_;have l3:=λe=>by have:=h.1.2.1;rw[ec e]at this;exact this
 have l4:=λe=>by have:=h.1.2.2;rw[ec e]at this;exact this
 rw[dy (Z),ec ⟨o.2 i,Z,h.2.1,Z⟩];have j:2048<=a%16*4096+b%64*64+c%64:=by exact Z
 have k:a%16*4096+b%64*64+c%64<55296\/(57344<=a%16*4096+b%64*64+c%64/\a%16*4096+b%64*64+c%64<=1114111):=by exact Z
 rw[ec ⟨j,Z⟩];refine⟨i_,Z,?_⟩;rw[IB _ k,dy Z,dy Z,ec Z];simp only[List.take_succ_cons,List.take_zero,fi,gg];grind;grind;rw[dy i]at f⊢;by_cases r:240<=a/\a<=244;rw[ec r]at f⊢;by_cases g:((1<n/\(if a=240 then 144 else 128)<=b/\b<=(if a=244 then 143 else 191))/\(2<n/\128<=c/\c<=191))/\(3<n/\128<=d/\d<=191);rw[ec g]at f⊢;have p:128<=b:=G_;have q:b<=191:=G_;have l3:=λe=>by have:=g.1.1.2.1;rw[ec e]at this;exact this
 have l4:=λe=>by have:=g.1.1.2.2;rw[ec e]at this;exact this
 rw[dy (Z),dy (Z),ec ⟨Z,Z,Z,g.2.1,Z⟩];have j:65536<=a%8*262144+b%64*4096+c%64*64+d%64:=by exact Z
 have k:a%8*262144+b%64*4096+c%64*64+d%64<=1114111:=by exact Z
 rw[ec ⟨j,Z⟩];refine⟨i_,k,?_⟩;rw[IB _ Z,dy Z,dy Z,dy Z];simp only[List.take_succ_cons,List.take_zero,fi,gg];rw[show 240+(a%8*262144+b%64*4096+c%64*64+d%64)/262144=a by omega,show 128+(a%8*262144+b%64*4096+c%64*64+d%64)/4096%64=b by omega,show 128+(a%8*262144+b%64*4096+c%64*64+d%64)/64%64=c by omega,show 128+(a%8*262144+b%64*4096+c%64*64+d%64)%64=d by omega];rw[dy g]at f;exact Z;grind
def A0(s:ByteArray)(k:Nat)(h:k<s.size)(f:bW ((dL s).drop k)≠0):(Utf8.decode s k).2=bW ((dL s).drop k)/\(Utf8.decode s k).1<=1114111/\NR (Utf8.decode s k).1=((dL s).drop k).take (bW ((dL s).drop k)):=by
 have d:=@rF ((dL s).drop k);rw[Qa s k h]at f d⊢;have ⟨e1,e2,e3⟩:=Nc (s.size-k) (s.get! k).toNat (s.get! (k+1)).toNat (s.get! (k+2)).toNat (s.get! (k+3)).toNat (UInt8.toNat_lt _) f;rw[Lib.decode_at];refine⟨e1,e2,e3.trans ?_⟩;generalize g:sJ (s.size-k) (s.get! k).toNat (s.get! (k+1)).toNat (s.get! (k+2)).toNat (s.get! (k+3)).toNat=c at*;have m:c<=4:=by grind[sJ]
 have l:((dL s).drop k).length=s.size-k:=s_;refine ji λi=>?_;rw[iz,jj,jj];by_cases b:i<c;rw[ec b,ec b,List.getElem?_drop];have a:k+i<s.size:=Z;have e:s.data.toList[k+i]?=some (s.get! (k+i)):=by rw[uA s (k+i) a];simp[a];rfl
 rw[e];match i,b with|0,_=>simp|1,_=>simp|2,_=>simp|3,_=>simp|j+4,b=>exact Z
 grind
theorem FZ(s:ByteArray):∀(f k:Nat),s.size-k<=f->eS ((dL s).drop k)->Lib.runeCountFrom s f k=(eD ((dL s).drop k)).length
 |0,k,d,_=>by rw[gI (ea (gr ku))];rfl|f+1,k,d,i=>by
  unfold Lib.runeCountFrom;by_cases h:k<s.size;have a:(dL s).drop k≠[]:=λe=>by have:=ey List.length e;simp at this;exact Z
  obtain⟨c,b⟩:=i.ne a;obtain⟨g,_,_⟩:=A0 s k h c;rw[ec h,g,kO a c,ff];rw[jr]at b⊢;rw[FZ s f (k+bW ((dL s).drop k)) Z b];exact Z;rw[dy h,gI (ea (gr ku))];rfl
def FH(s:ByteArray):∀(f k:Nat) (a:Array Value),s.size-k<=f->eS (s.data.toList.drop k)->∃b:List Nat,Conv.runesFrom s f k a=a++(b.map λr=>Value.int .i32 (Int.ofNat r)).toArray/\b.length=(eD (s.data.toList.drop k)).length/\(∀r∈b,r<=1114111)/\b.map NR=eD (s.data.toList.drop k)
 |0,k,a,j,_=>⟨[],by simp[Conv.runesFrom],by rw[gI (ea (gr ku))];rfl,s_,by rw[gI (ea (gr ku))];rfl⟩|f+1,k,a,j,g=>by
  by_cases h:k<s.size;have c:s.data.toList.drop k≠[]:=λe=>by have:=ey List.length e;simp at this;exact Z
  obtain⟨i,d⟩:=g.ne c;obtain⟨p,n,q⟩:=A0 s k h i;rw[jr]at d;obtain⟨b,l,t,m,o⟩:=FH s f (k+bW (s.data.toList.drop k)) (a.push (.int .i32 (Int.ofNat (Utf8.decode s k).1))) Z d;refine⟨(Utf8.decode s k).1::b,?_,?_,?_,?_⟩;grind[Conv.runesFrom];grind[kO,List.drop_drop];grind;grind[kO,List.drop_drop];refine⟨[],?_,?_,s_,?_⟩;grind[Conv.runesFrom];all_goals rw[gI (ea (gr ku))];rfl
open Go.RowKit
abbrev xu(w:aL)(b:Nat):Prop:=w.heap[b]?=some (.cells #[Y 0,WD ⟨#[]⟩,Y 0,Y 0] 175)
def IK{Z_:Prop}(Y_:Z_:=by go_wp2_with fail;go_quiet (fail);go_wp2_with fail;refine rB (HFL _) λw3 hw=>?_;obtain rfl:=hw.symm;go_wp2_with fail;exact⟨i_,HF2.drewN _,s_⟩):Z_:=Y_
def Pm(r:Nat)(a:ByteArray)(n L:Nat)(w:aL)(h:SC r a n L w)(hs:a.size<=2000000000)(hn:n<a.size):Calls Ww 196 #[aW r] w (Dg r a n L w (pC ((dL a).drop (n+1)))):=by
 obtain⟨m,V⟩:∃m,m=n+1:=(by simp);rw[<-V];obtain⟨j,G⟩:∃j,j=bO iI ((dL a).drop m):=(by simp);have aj:j<=a.size-m:=by have:=oO iI ((dL a).drop m);rw[G];simpa using this
 obtain⟨k,hk⟩:∃k,k=m+j:=(by simp);have ak:=(SC.cells h).1;have t:H_ w≠r:=Z;have h1:SC r a n L (dZ w #[Y 0,Q_ ⟨#[]⟩,Y 0,Y 0] 175):=by grind[SC,ed]
 have HZ:Hid (xu (dZ w #[Y 0,Q_ ⟨#[]⟩,Y 0,Y 0] 175) (H_ w)):=aS _ _ i_ _;have F:=O (tS r a n L 1 (dZ w #[Y 0,Q_ ⟨#[]⟩,Y 0,Y 0] 175) h1 hs Z);rw[<-V]at F;have z:=O (λw=>BL iI 244 (s_) TH (a.extract m a.size) w qu);rw[sH,<-G]at z;have ⟨x,htx⟩:∃x,x=((dL a).drop m).take j:=(by simp);have ad:(bs x).size=j:=by rw[iU,htx,ia];simp;exact Z
 have ⟨ok,b⟩:∃ok,ok=(decide (((dL a).drop m)[j]?=some 34)&&decide (j<=100)):=(by simp);have HW:Hid (pC ((dL a).drop m)={c_:=115,x_:=x,size:=j+2,ok:=ok}):=by show _=_;grind[pC]
 rw[HW];have aa:=O htx;have f:=O b;have J:Hid (Fr r w (dZ w #[Y 0,Q_ ⟨#[]⟩,Y 0,Y 0] 175)):=(Fr.refl _ _).alloc _;have HM:=O V;have HK:=O hk;have af:m<=a.size:=Z;have ae:k<=a.size:=Z;clear h h1 G htx HW b V hk;generalize c:({c_:=115,x_:=x,size:=j+2,ok:=ok}:rG)=rr;have g:=O c;clear c;go_in;go_wp;refine rB F λw1 ⟨E,H⟩=>?_;have P:=O (H.xp HZ t);have HZ1d:Hid (xu w1.drew (H_ w)):=P.out;have s:=O (tS r a m L j w1.drew E hs Z);rw[<-HK]at s;rw[<-aa]at s;have I:=O (J.trans H);have ⟨h0,X,U,S,W,T⟩:=E.cells;clear E H F HZ J;go_wp2;go_cut [3] (λv wc=>v=Q_ (bs x)/\SC r a (k) L wc/\Fr r w wc/\xu wc (H_ w));case first=>go_region_law (first|(go_simp;go_at_call 190;refine rB (z _) λw2 hw=>?_;obtain rfl:=hw.symm)|(go_simp;go_at_call 239;refine rB s λw2 ⟨o,p⟩=>?_;have C:=O o;have HF2:=O (I.drew.trans p);have D:=O (p.xp HZ1d t);clear o p));all_goals go_wp;go_meet;grind[dz]
 case rest=>
  obtain⟨rfl,o,p,K⟩:=hcut;clear X U S W T h0;have ⟨h0,X,U,S,W,T⟩:=o.cells;have C:=O o;have HF2:=O p;have D:=O K;clear o p K s z P HZ1d I;have HFL:=O (λq=>yA r a (k) L (wc.drewN q) C);by_cases u:j<=100;rotate_left;have e1:decide ((100:Int)<(j:Int))=true:=(by grind);have b:ok=false:=by rw[f,gi u,Bool.and_false]
  subst b;have c:=g.out;clear g f;subst c;exact IK;have e1:decide ((100:Int)<(j:Int))=false:=(by grind);by_cases ag:k=a.size;have e2:((k:Int)==(a.size:Int))=true:=G_;have b:ok=false:=by rw[f,ix (by have:=HK.out;simp;exact Z)];simp
  subst b;have c:=g.out;clear g f;subst c;exact IK;have ai:k<a.size:=Z;have e2:((k:Int)==(a.size:Int))=false:=G_;have hb:(a[k].toNat:Int)<=255:=mQ _;have l:((dL a).drop m)[j]?=some a[k]:=by grind[zC,dz]
  by_cases A:a[k].toNat=34
  .have b:ok=true:=by rw[f,l,im u,Bool.and_true];exact im (ey some (js.1 A))
   subst b;have c:=g.out;clear g f l;subst c;have N:((a[k].toNat:Int) !=34)=false:=G_;have ah:=aH D;have Q:=O (λq=>tS r a (k) L 1 (wc.drewN q) C hs Z);clear A;go_wp;go_quiet (fail);go_wp;refine rB (Q _) λw3 ⟨y,B⟩=>?_;have d:=O ((((Fr.refl r wc).drewN _).trans B).xp D t);have ac:=O ((HF2.drewN _).trans B);have ab:=O y;have z0:=aB d (i:=0) i_;have z1:=aB d (i:=1) i_;have z2:=aB d (i:=2) i_;have z3:=aB d (i:=3) i_;have y0:=aE (i:=0) d;have y1:=aE (i:=1) d;have y2:=aE (i:=2) d;have y3:=aE (i:=3) d;have al:=aH d;clear X U S W T h0;obtain⟨h0,X,U,S,W,T⟩:=y.cells;clear y B Q;go_wp2;apply bodyPost_ret (v:=.agg #[Y 3,Q_ (bs x),Y 0,Y L]) (by simp[results,results196,go_sem,z0,z1,z2,z3]) rfl;have M:=uK ac ab kB t (Y 3) (Q_ (bs x)) (Y 0) (Y L);exact⟨M.1,ea ⟨i_,i_,mz⟩⟩
  have b:ok=false:=by rw[f,l,gi λe=>A (by rw[fm e];rfl)];rfl
  subst b;have c:=g.out;clear g f l;subst c;have N:((a[k].toNat:Int) !=34)=true:=G_;exact IK
structure w_(w:aL):Prop where
 tg:∃t fr,w.heap[(3:Nat)]?=some (.cells #[WD ⟨#[61,61]⟩,WD ⟨#[33,61]⟩,WD ⟨#[60,61]⟩,WD ⟨#[38,38]⟩,WD ⟨#[124,124]⟩,WD ⟨#[40]⟩,WD ⟨#[41]⟩,WD ⟨#[123]⟩,WD ⟨#[125]⟩,WD ⟨#[91]⟩,WD ⟨#[93]⟩,WD ⟨#[44]⟩,WD ⟨#[59]⟩,WD ⟨#[61]⟩,WD ⟨#[60]⟩,WD ⟨#[43]⟩,WD ⟨#[45]⟩,WD ⟨#[42]⟩,WD ⟨#[47]⟩,WD ⟨#[37]⟩,WD ⟨#[33]⟩] t fr)
 yh:11<=w.heap.size
def w_.fr{w a:aL}{sb:Nat}(h:w_ w)(b:Fr sb w a)(c:11<=sb):w_ a:=by have ⟨t,fr,h1⟩:=h.tg;have:=h.yh;have:=b.size;exact⟨(by grind[Fr.block]),Z⟩
abbrev kR:Value:=.agg #[WD ⟨#[61,61]⟩,WD ⟨#[33,61]⟩,WD ⟨#[60,61]⟩,WD ⟨#[38,38]⟩,WD ⟨#[124,124]⟩,WD ⟨#[40]⟩,WD ⟨#[41]⟩,WD ⟨#[123]⟩,WD ⟨#[125]⟩,WD ⟨#[91]⟩,WD ⟨#[93]⟩,WD ⟨#[44]⟩,WD ⟨#[59]⟩,WD ⟨#[61]⟩,WD ⟨#[60]⟩,WD ⟨#[43]⟩,WD ⟨#[45]⟩,WD ⟨#[42]⟩,WD ⟨#[47]⟩,WD ⟨#[37]⟩,WD ⟨#[33]⟩]
def Jj(w:aL):(Instr.index 315 kR (Y 0)).run Ww w=.ok (Q_ ⟨#[61,61]⟩) w:=k_
def Q2(w:aL):(Instr.index 315 kR (Y 1)).run Ww w=.ok (Q_ ⟨#[33,61]⟩) w:=k_
def Sj(w:aL):(Instr.index 315 kR (Y 2)).run Ww w=.ok (Q_ ⟨#[60,61]⟩) w:=k_
def Gv(w:aL):(Instr.index 315 kR (Y 3)).run Ww w=.ok (Q_ ⟨#[38,38]⟩) w:=k_
def Hh(w:aL):(Instr.index 315 kR (Y 4)).run Ww w=.ok (Q_ ⟨#[124,124]⟩) w:=k_
def Oz(w:aL):(Instr.index 315 kR (Y 5)).run Ww w=.ok (Q_ ⟨#[40]⟩) w:=k_
def Tj(w:aL):(Instr.index 315 kR (Y 6)).run Ww w=.ok (Q_ ⟨#[41]⟩) w:=k_
def Sw(w:aL):(Instr.index 315 kR (Y 7)).run Ww w=.ok (Q_ ⟨#[123]⟩) w:=k_
def Nj(w:aL):(Instr.index 315 kR (Y 8)).run Ww w=.ok (Q_ ⟨#[125]⟩) w:=k_
def Rx(w:aL):(Instr.index 315 kR (Y 9)).run Ww w=.ok (Q_ ⟨#[91]⟩) w:=k_
def P2(w:aL):(Instr.index 315 kR (Y 10)).run Ww w=.ok (Q_ ⟨#[93]⟩) w:=k_
def P0(w:aL):(Instr.index 315 kR (Y 11)).run Ww w=.ok (Q_ ⟨#[44]⟩) w:=k_
def O9(w:aL):(Instr.index 315 kR (Y 12)).run Ww w=.ok (Q_ ⟨#[59]⟩) w:=k_
def O8(w:aL):(Instr.index 315 kR (Y 13)).run Ww w=.ok (Q_ ⟨#[61]⟩) w:=k_
def O7(w:aL):(Instr.index 315 kR (Y 14)).run Ww w=.ok (Q_ ⟨#[60]⟩) w:=k_
def O6(w:aL):(Instr.index 315 kR (Y 15)).run Ww w=.ok (Q_ ⟨#[43]⟩) w:=k_
def O5(w:aL):(Instr.index 315 kR (Y 16)).run Ww w=.ok (Q_ ⟨#[45]⟩) w:=k_
def O4(w:aL):(Instr.index 315 kR (Y 17)).run Ww w=.ok (Q_ ⟨#[42]⟩) w:=k_
def O3(w:aL):(Instr.index 315 kR (Y 18)).run Ww w=.ok (Q_ ⟨#[47]⟩) w:=k_
def O2(w:aL):(Instr.index 315 kR (Y 19)).run Ww w=.ok (Q_ ⟨#[37]⟩) w:=k_
def O1(w:aL):(Instr.index 315 kR (Y 20)).run Ww w=.ok (Q_ ⟨#[33]⟩) w:=k_
def Sa(k:Nat)(a:k<21)(w:aL):(Instr.index 315 kR (Y k)).run Ww w=.ok (Q_ (bs (eM[k]'(by simpa [eM]using a)))) w:=by match k,a with|0,_=>exact Jj w|1,_=>exact Q2 w|2,_=>exact Sj w|3,_=>exact Gv w|4,_=>exact Hh w|5,_=>exact Oz w|6,_=>exact Tj w|7,_=>exact Sw w|8,_=>exact Nj w|9,_=>exact Rx w|10,_=>exact P2 w|11,_=>exact P0 w|12,_=>exact O9 w|13,_=>exact O8 w|14,_=>exact O7 w|15,_=>exact O6 w|16,_=>exact O5 w|17,_=>exact O4 w|18,_=>exact O3 w|19,_=>exact O2 w|20,_=>exact O1 w|k+21,h=>exact Z
def Qp(g:Nat)(a:ByteArray)(n L:Nat)(w:aL)(h:SC g a n L w)(S:w_ w)(hs:a.size<=2000000000)(hn:n<a.size)(r:rG)(V:Hid (kC ((dL a).drop n)=r)):Calls Ww 197 #[aW g] w (Dg g a n L w r):=by
 have ac:=(SC.cells h).1;have C:H_ w≠g:=Z;have W:=S.yh;have h1:SC g a n L (dZ w #[Y 0,Q_ ⟨#[]⟩,Y 0,Y 0] 175):=by grind[SC,ed]
 have HZ:Hid (xu (dZ w #[Y 0,Q_ ⟨#[]⟩,Y 0,Y 0] 175) (H_ w)):=aS _ _ i_ _;have ab:Hid (Fr g w (dZ w #[Y 0,Q_ ⟨#[]⟩,Y 0,Y 0] 175)):=(Fr.refl _ _).alloc _;obtain⟨tt,fr,l⟩:=S.tg;have c:(dZ w #[Y 0,Q_ ⟨#[]⟩,Y 0,Y 0] 175).heap[(3:Nat)]?=_:=iA w 3 Z _ l;have o:(prog.info? 315).map (·.size)=some (#[Q_ ⟨#[61,61]⟩,Q_ ⟨#[33,61]⟩,Q_ ⟨#[60,61]⟩,Q_ ⟨#[38,38]⟩,Q_ ⟨#[124,124]⟩,Q_ ⟨#[40]⟩,Q_ ⟨#[41]⟩,Q_ ⟨#[123]⟩,Q_ ⟨#[125]⟩,Q_ ⟨#[91]⟩,Q_ ⟨#[93]⟩,Q_ ⟨#[44]⟩,Q_ ⟨#[59]⟩,Q_ ⟨#[61]⟩,Q_ ⟨#[60]⟩,Q_ ⟨#[43]⟩,Q_ ⟨#[45]⟩,Q_ ⟨#[42]⟩,Q_ ⟨#[47]⟩,Q_ ⟨#[37]⟩,Q_ ⟨#[33]⟩]:Array Value).size:=k_;have s:∀(k:Nat) (T:k<21) (w:aL),(Instr.index 315 (.agg #[Q_ ⟨#[61,61]⟩,Q_ ⟨#[33,61]⟩,Q_ ⟨#[60,61]⟩,Q_ ⟨#[38,38]⟩,Q_ ⟨#[124,124]⟩,Q_ ⟨#[40]⟩,Q_ ⟨#[41]⟩,Q_ ⟨#[123]⟩,Q_ ⟨#[125]⟩,Q_ ⟨#[91]⟩,Q_ ⟨#[93]⟩,Q_ ⟨#[44]⟩,Q_ ⟨#[59]⟩,Q_ ⟨#[61]⟩,Q_ ⟨#[60]⟩,Q_ ⟨#[43]⟩,Q_ ⟨#[45]⟩,Q_ ⟨#[42]⟩,Q_ ⟨#[47]⟩,Q_ ⟨#[37]⟩,Q_ ⟨#[33]⟩]) (Y k)).run Ww w=.ok (Q_ (bs (eM[k]'(by simpa [eM]using T)))) w:=Sa;generalize (#[Q_ ⟨#[61,61]⟩,Q_ ⟨#[33,61]⟩,Q_ ⟨#[60,61]⟩,Q_ ⟨#[38,38]⟩,Q_ ⟨#[124,124]⟩,Q_ ⟨#[40]⟩,Q_ ⟨#[41]⟩,Q_ ⟨#[123]⟩,Q_ ⟨#[125]⟩,Q_ ⟨#[91]⟩,Q_ ⟨#[93]⟩,Q_ ⟨#[44]⟩,Q_ ⟨#[59]⟩,Q_ ⟨#[61]⟩,Q_ ⟨#[60]⟩,Q_ ⟨#[43]⟩,Q_ ⟨#[45]⟩,Q_ ⟨#[42]⟩,Q_ ⟨#[47]⟩,Q_ ⟨#[37]⟩,Q_ ⟨#[33]⟩]:Array Value)=U at c o s;have HIXX:=O s;have HTAB:=O c;have M:=O o;clear l c o s;have H1:=O h1;go_in;go_wp2_with (refine wpList_load_row i_ 315 (.global 3) i_ 3 r_ tt U fr (.array 21 9) HTAB underlying315 rfl M ?_);go_loopg [4,6] 21 (λgk _ i wr=>∃k:Nat,k+gk=21/\i=Y k/\Hid (tM ((dL a).drop n) k)/\SC g a n L wr/\Fr g w wr/\xu wr (H_ w));case atStart=>grind[dz,tM]
 case round=>
  obtain⟨k,T,rfl,K,y,N,J⟩:=hrel;obtain⟨h0,c0,c1,c2,f1,f2⟩:=y.cells;have t:=O y;have p:=O N;have A:=O J;by_cases e:k<21
  .obtain⟨j,rfl⟩:∃j,gk=j+1:=⟨gk-1,Z⟩;obtain⟨q,D⟩:∃q,q=eM[k]'(by simpa [eM]using e):=(by simp);have X:∀w,(Instr.index 315 (.agg U) (Y k)).run Ww w=.ok (Q_ (bs q)) w:=λw=>by rw[D];exact HIXX k e w
   have ae:q.length<=2:=by rw[D];exact BU k e
   have hqs:=iU q;have Q:Hid (q=eM[k]'(by grind)):=D;clear D;have d:=O (λw=>JU (a.extract n a.size) (bs q) w qu Z);rw[sH,kH]at d;cases f:eF ((dL a).drop n) q
   .rw[f]at d;have x:=FO e K (by rw[<-Q];exact f);go_wp2_with fail;go_quiet ((go_at_call 189;exact Calls.quiet_of_same (d _)));go_wp2;go_roundg j;case measure=>exact Z
    case rel=>exact⟨k+1,Z,lj,x,t,p.drewN _,A⟩
   rw[f]at d;have x:Hid (r={c_:=112,x_:=q,size:=q.length,ok:=true}):=by rw[<-V.out];exact KD e K q Q f
   have H:n+q.length<=a.size:=by have:=wP f;simp at this;exact Z
   have HTXT:Hid (((dL a).drop n).take q.length=q):=by grind[eF,oF]
   have u:=O (λF=>tS g a n L q.length (wr.drewN F) t hs H);rw[HTXT]at u;have I:Hid (∀F,xu (wr.drewN F) (H_ w)):=λ_=>A;go_wp2_with fail;go_quiet ((go_at_call 189;exact Calls.quiet_of_same (d _)));go_wp2;go_region_law (go_simp;go_at_call 239;refine rB (u _) λw2 ⟨E,B⟩=>?_;have z:=O E;have P:=O ((p.drewN _).trans B);have b:=O (B.xp (I _) C);have aa:=(SC.cells z).2.2.2.1;have z0:=aB b (i:=0) i_;have z1:=aB b (i:=1) i_;have z2:=aB b (i:=2) i_;have z3:=aB b (i:=3) i_;have y0:=aE (i:=0) b;have y1:=aE (i:=1) b;have y2:=aE (i:=2) b;have y3:=aE (i:=3) b;have ad:=aH b);all_goals go_wp2_with fail;rw[x];refine bodyPost_ret (v:=.agg #[Y 0,Q_ (bs q),Y 0,Y L]) (by simp[results,results197,go_sem,z0,z1,z2,z3]) rfl ?_;have m:=uK P z kB C (Y 0) (Q_ (bs q)) (Y 0) (Y L);exact⟨m.1,ea ⟨i_,i_,m.2⟩⟩
  obtain rfl:k=21:=Z;have x:Hid (r={c_:=0,x_:=[],size:=0,ok:=false}):=by rw[<-V.out];exact FN K.out
  have G:=O (yA g a n L wr t);go_wp;refine rB G λw3 hw=>?_;obtain rfl:=hw.symm;go_wp;rw[x];exact⟨i_,p,s_⟩
