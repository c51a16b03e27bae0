/- Plain facts: a text's characters, as the library decodes and encodes them. -/
import Derived.Test.YtblbkfdhjfppkaaGreatDoorP09
import Derived.Test.YtblbkfdhjfppkaaGreatDoorP10N
set_option maxRecDepth 100000
set_option maxHeartbeats 4000000
namespace Go.Proofs.YtblbkfdhjfppkaaGreatDoor
open Hs
open Go.RowKit
theorem RI(src:ByteArray)(w:World)(_hs:src.size≤maxLen):
 Calls Tryz.prog 130 #[.string src] w fun e w'=>w'=w∧((src.size≤2000∧e=.returned (.tuple #[]))∨(2000<src.size∧e=cW 1 0)):=by
 by_cases h:src.size≤2000
 ·have h':decide ((2000:Int)<(src.size:Int))=false:=decide_eq_false (by omega)
  go_enter Tryz.func130,Tryz.ntmps130;go_wp2_with fail;go_end0;exact⟨rfl,Or.inl ⟨h,rfl⟩⟩
 ·have h':decide ((2000:Int)<(src.size:Int))=true:=decide_eq_true (by omega)
  go_enter Tryz.func130,Tryz.ntmps130;go_wp2_with (go_at_call 136;refine(fZ 1 0 _).mono ?_;rintro e w3 ⟨rfl,hw⟩;obtain rfl:=hw.symm)
  exact⟨rfl,rfl,Or.inr ⟨by omega,rfl⟩⟩
theorem IM{l:List UInt8}{c:Nat}{x:UInt8}(h:x∈l.take c):∃i,i<c∧l[i]?=some x:=by
 obtain⟨i,hi,e⟩:=List.mem_iff_getElem.1 h;have hi':=hi;rw[List.length_take] at hi';refine⟨i,by omega,?_⟩
 rw[List.getElem_take] at e;rw[List.getElem?_eq_getElem (by omega),e]
theorem vB{l:List UInt8}{i lo hi:Nat}(h:cY l i lo hi=true){x:UInt8}(hx:l[i]?=some x):lo≤x.toNat:=by
 unfold cY at h;rw[hx] at h;simp at h;exact h.1
theorem OI{l:List UInt8}(h:2≤bD l):(l.take (bD l)).count 10=0:=by
 refine sN fun x hx=>?_
 obtain⟨i,hi,e⟩:=IM hx;suffices 128≤x.toNat by intro e;rw[e] at this;exact absurd this (by decide)
 revert h hi
 unfold bD;cases h0:l[0]? with
 |none=>simp
 |some b=>
  simp only;have hb:i=0→x=b:=fun e0=>by subst e0;rw[h0] at e;exact(Option.some.inj e).symm
  split
  ·intro h;omega
  ·rename_i hb1;split
   ·rename_i hb2;split
    ·rename_i h1;intro _ hi;match i,hi with
     |0,_=>rw[hb rfl];omega
     |1,_=>exact vB h1 e
    ·intro h;omega
   ·split
    ·rename_i hb3;by_cases h1:(cY l 1 (if b.toNat=224 then 160 else 128) (if b.toNat=237 then 159 else 191) && cY l 2 128 191)=true
     ·rw[if_pos h1];rw[Bool.and_eq_true] at h1;intro _ hi;match i,hi with
      |0,_=>rw[hb rfl];omega
      |1,_=>have:=vB h1.1 e;split at this<;>omega
      |2,_=>exact vB h1.2 e
     ·rw[if_neg h1];intro h;omega
    ·split
     ·rename_i hb4;by_cases h1:(cY l 1 (if b.toNat=240 then 144 else 128) (if b.toNat=244 then 143 else 191) && cY l 2 128 191 && cY l 3 128 191)=true
      ·rw[if_pos h1];rw[Bool.and_eq_true,Bool.and_eq_true] at h1;intro _ hi;match i,hi with
       |0,_=>rw[hb rfl];omega
       |1,_=>have:=vB h1.1.1 e;split at this<;>omega
       |2,_=>exact vB h1.1.2 e
       |3,_=>exact vB h1.2 e
      ·rw[if_neg h1];intro h;omega
     ·intro h;omega
theorem M8(n b0 b1 b2 b3:Nat)(h0:b0<256):(Lib.decodeN n b0 b1 b2 b3).1≤1114111:=by
 unfold Lib.decodeN;repeat' split
 all_goals (simp only;omega)
theorem Q0(src:ByteArray)(k:Nat)(hk:k<src.size):∃r z,Lib.decodeGo (src.extract k src.size)=(r,z)∧r≤1114111∧
 ((bD (src.data.toList.drop k)=0∧r=65533∧z=1)∨(bD (src.data.toList.drop k)≠0∧z=bD (src.data.toList.drop k)∧¬(r=65533∧z=1)∧(r=10↔src[k].toNat=10))):=by
 have hsz:(src.extract k src.size).size=src.size-k:=by simp
 have hpos:0<(src.extract k src.size).size:=by omega
 have e0:((src.extract k src.size).get! 0).toNat=src[k].toNat:=by rw[nH _ 0 hpos];simp[ByteArray.getElem_extract]
 have hC:=N2 (src.extract k src.size) hpos;rw[mC] at hC
 have hD:Lib.decodeGo (src.extract k src.size)=Lib.decodeN (src.extract k src.size).size ((src.extract k src.size).get! 0).toNat ((src.extract k src.size).get! 1).toNat ((src.extract k src.size).get! 2).toNat ((src.extract k src.size).get! 3).toNat:=by
  unfold Lib.decodeGo;rw[if_neg (by omega),Lib.decode_at];rfl
 obtain⟨h1,h2⟩:=E3 (src.extract k src.size).size ((src.extract k src.size).get! 0).toNat ((src.extract k src.size).get! 1).toNat ((src.extract k src.size).get! 2).toNat ((src.extract k src.size).get! 3).toNat (UInt8.toNat_lt _) (UInt8.toNat_lt _) (UInt8.toNat_lt _) (UInt8.toNat_lt _);have hR:=M8 (src.extract k src.size).size ((src.extract k src.size).get! 0).toNat ((src.extract k src.size).get! 1).toNat ((src.extract k src.size).get! 2).toNat ((src.extract k src.size).get! 3).toNat (UInt8.toNat_lt _);rw[←hC] at h1 h2;rw[←hD] at h1 h2 hR;rw[e0] at h2;clear hD hC;generalize Lib.decodeGo (src.extract k src.size)=D at*;obtain⟨r,z⟩:=D;refine⟨r,z,rfl,hR,?_⟩;by_cases hz:bD (src.data.toList.drop k)=0
 ·have:=h1 hz;cases this;exact Or.inl ⟨hz,rfl,rfl⟩
 ·obtain⟨g1,g2,g3⟩:=h2 hz;have g1':z=bD (src.data.toList.drop k):=g1;exact Or.inr ⟨hz,g1',by rw[g1'];exact g2,g3⟩
theorem yU{w w':World}(h:Lib.Utf8Tabs 4 5 w)(hb:Below w.heap.size w w')(hz:11≤w.heap.size):Lib.Utf8Tabs 4 5 w':=
 ⟨fun c hc=>(hb.cell (p:=⟨4,c,none⟩) (by show 4<_;omega)).trans (h.1 c hc),fun i hi=>⟨(hb.cell (p:=⟨5,2*i,none⟩) (by show 5<_;omega)).trans (h.2 i hi).1,(hb.cell (p:=⟨5,2*i+1,none⟩) (by show 5<_;omega)).trans (h.2 i hi).2⟩⟩
def M5(x:Option Nat)(l:List UInt8)(w:World)(e:Ending)(w':World):Prop:=
 Below w.heap.size w w'∧
  match x with
  |none=>e=.returned (.tuple #[])
  |some k=>e=cW 2 (aZ (l.take k))
theorem M4(src:ByteArray)(w:World)(hT:Lib.Utf8Tabs 4 5 w)(hz:11≤w.heap.size)(hs:src.size≤2000):
 Calls Tryz.prog 131 #[.string src] w (M5 (dJ src.size src.data.toList 0) src.data.toList w):=by
 have HT:=aB hT;obtain⟨X,hX⟩:∃X,X=dJ src.size src.data.toList 0:=⟨_,rfl⟩;rw[←hX];have HX0:Hid (X=dJ src.size (src.data.toList.drop 0) 0):=hX;clear hT hX;go_enter Tryz.func131,Tryz.ntmps131;go_wp2_with fail;go_loopg [2,3,4,5] src.size (fun gk lv iv _ _ wr=>∃k f:Nat,k≤src.size∧src.size≤k+f∧src.size≤k+gk∧iv=.int .i64 k∧lv=.int .i64 (aZ (src.data.toList.take k))∧Below w.heap.size w wr∧Hid (X=dJ f (src.data.toList.drop k) k))
 case atStart=>exact⟨0,src.size,Nat.zero_le _,by omega,by omega,rfl,rfl,Below.refl _ _,HX0⟩
 case round=>
  obtain⟨k,f,hk,hf,hgk,rfl,rfl,hb,HX⟩:=hrel
  have hL:aZ (src.data.toList.take k)≤k+1:=by
   have:=nT (src.data.toList.take k);have:=List.length_take_le k src.data.toList;omega
  have HB:=aB hb;by_cases hlt:k<src.size
  ·obtain⟨f,rfl⟩:∃f',f=f'+1:=⟨f-1,by omega⟩
   obtain⟨j,rfl⟩:∃j,gk=j+1:=⟨gk-1,by omega⟩
   have hlen:0<(src.data.toList.drop k).length:=by simp;omega
   obtain⟨r,z,hD,hr,hc⟩:=Q0 src k hlt;have HD:=aB (Tryz.utf8_DecodeRuneInString (src.extract k src.size) wr (yU HT.out hb hz));rw[hD] at HD;clear hD hb;rcases hc with ⟨hc0,rfl,rfl⟩|⟨hc0,hcz,hrz,hr10⟩
   ·have HF:Hid (X=some k):=by show _=_;rw[HX.out,KY _ _ _ hlen hc0]
    generalize hLL:aZ (src.data.toList.take k)=L at*;have HLL:=aB hLL;clear HX hc0 hlen hLL;go_wp2_with fail;refine HD.out.mono ?_;rintro e w1 ⟨rfl,hb1⟩;have HB1:=aB (HB.out.trans (hb1.mono HB.out.size));clear hb1 HD;go_wp2_with (go_at_call 136;refine(fZ 2 L _).mono ?_;rintro e w3 ⟨rfl,hw⟩;obtain rfl:=hw.symm)
    rw[HF.out];exact⟨rfl,HB1.out,congrArg (cW 2) HLL.out.symm⟩
   ·have HF:Hid (X=dJ f (src.data.toList.drop (k+z)) (k+z)):=by
     show _=_
     rw[HX.out,GT _ _ _ hlen hc0,List.drop_drop,←hcz]
    have hzl:z≤src.size-k:=by rw[hcz];have:=YA (src.data.toList.drop k);simpa using this
    have hz1:1≤z:=by omega
    have hln:aZ (src.data.toList.take (k+z))=aZ (src.data.toList.take k)+if r=10 then 1 else 0:=by
     by_cases h2:2≤z
     ·have h3:=OI (l:=src.data.toList.drop k) (by omega)
      rw[←hcz] at h3;rw[List.take_add,iR,h3];rw[if_neg];intro e;have h4:=hr10.1 e
      have h5:src[k]∈(src.data.toList.drop k).take z:=by
       rw[jW src k hlt];obtain⟨y,rfl⟩:∃y,z=y+1:=⟨z-1,by omega⟩
       rw[List.take_succ_cons];exact List.mem_cons_self ..
      exact List.count_eq_zero.1 h3 (by have:src[k]=10:=UInt8.toNat_inj.1 h4;rw[this] at h5;exact h5)
     ·obtain rfl:z=1:=by omega
      rw[FG src k hlt];congr 1
      by_cases h6:r=10
      ·rw[if_pos h6,if_pos (UInt8.toNat_inj.1 (hr10.1 h6))]
      ·rw[if_neg h6,if_neg (fun e=>h6 (hr10.2 (by rw[e];rfl)))]
    have HLN:=aB hln;generalize aZ (src.data.toList.take k)=L at*
    have hrz':((r:Int)==65533)=false∨((r:Int)==65533)=true∧((z:Int)==1)=false:=by
     by_cases h7:r=65533
     ·refine Or.inr ⟨by simp;omega,?_⟩
      simp;intro e;exact hrz ⟨h7,by omega⟩
     ·exact Or.inl (by simp;omega)
    have hne:(src.data.toList.drop k).length=src.size-k:=by simp
    clear HX hc0 hlen hcz hr10 hln hrz hne;by_cases h10:r=10
    ·have e1:((r:Int)==10)=true:=by simp;omega
     have e2:((r:Int)==65533)=false:=by simp;omega
     have HL2:Hid (aZ (src.data.toList.take (k+z))=L+1):=by show _=_;rw[HLN.out,if_pos h10]
     clear hrz' h10 HLN;go_wp2_with fail;refine HD.out.mono ?_;rintro e w1 ⟨rfl,hb1⟩;have HB1:=aB (HB.out.trans (hb1.mono HB.out.size));clear hb1 HD;go_wp2_with fail;go_roundg j
     case measure=>omega
     case rel=>exact⟨k+z,f,by omega,by omega,by omega,by go_num,by rw[HL2.out];go_num,HB1.out,HF⟩
    ·have e1:((r:Int)==10)=false:=by simp;omega
     have HL2:Hid (aZ (src.data.toList.take (k+z))=L):=by show _=_;rw[HLN.out,if_neg h10];rfl
     clear h10 HLN;rcases hrz' with e2|⟨e2,e3⟩
     all_goals
      go_wp2_with fail;refine HD.out.mono ?_;rintro e w1 ⟨rfl,hb1⟩;have HB1:=aB (HB.out.trans (hb1.mono HB.out.size));clear hb1 HD;go_wp2_with fail;go_roundg j
      case measure=>omega
      case rel=>exact⟨k+z,f,by omega,by omega,by omega,by go_num,by rw[HL2.out],HB1.out,HF⟩
  ·have HF:Hid (X=none):=by show _=_;rw[HX.out,KX _ _ _ (by simp;omega)]
   have hlt':decide ((k:Int)<(src.size:Int))=false:=decide_eq_false (by omega)
   clear HX hb;generalize aZ (src.data.toList.take k)=L at*;go_wp2_with fail;go_end0;rw[HF.out];exact⟨HB.out,rfl⟩
structure kJ(w:World):Prop where
 n:NTabs w
 p:PTabs w
 u:Lib.Utf8Tabs 4 5 w
theorem kJ.below{w w':World}(h:kJ w)(hb:Below w.heap.size w w'):kJ w':=
 ⟨h.n.fr (sb:=w.heap.size) ⟨hb.os,hb.tape,hb.output,hb.size,fun k hk _=>hb.block k hk⟩ h.n.big,h.p.fr (sb:=w.heap.size) ⟨hb.os,hb.tape,hb.output,hb.size,fun k hk _=>hb.block k hk⟩ h.n.big,yU h.u hb h.n.big⟩
theorem FineA.kid{m:Nat}{f k:aC}(h:Hs.FineA m f)(hk:k∈f.kids):Hs.FineA m k:=fun d=>by
 have h1:=h (d+1);refine⟨?_,h1.2.2 k hk⟩;have h2:=h1.1;rw[bS] at h2;have:=sC (f:=bS d) hk;omega
theorem FineA.kids{m:Nat}{f:aC}(h:Hs.FineA m f)(d:Nat):f.kids.length≤m∧(f.kids.map (bS d)).sum≤m:=by
 have h1:=(h (d+1)).1;have h2:=(h 2).1;rw[bS] at h1 h2;have h3:f.kids.length≤(f.kids.map (bS 1)).sum:=nU 0 f.kids;exact⟨by omega,by omega⟩
def qS(l:List UInt8):Except (Nat × Nat) (List aV):=
 if 2000<l.length then .error (1,0)
 else match dJ l.length l 0 with
  |some k=>.error (2,aZ (l.take k))
  |none=>
   match fY l with
   |.error n=>.error (3,n)
   |.ok ts=>.ok ts
theorem AQ(l:List UInt8):cR l=match qS l with
 |.error f=>.error f
 |.ok ts=>match lB ts with
  |.error n=>.error (4,n)
  |.ok (ks,_)=>.ok ks:=by
 unfold cR qS;by_cases h:2000<l.length
 ·rw[if_pos h,if_pos h]
 ·rw[if_neg h,if_neg h];cases dJ l.length l 0 with
  |some k=>rfl
  |none=>
   cases fY l with
   |error n=>rfl
   |ok ts=>rfl
theorem SZ{l:List UInt8}{ts:List aV}(h:qS l=.ok ts):fY l=.ok ts∧l.length≤2000:=by
 unfold qS at h;split at h
 ·cases h
 ·split at h
  ·cases h
  ·split at h
   ·cases h
   ·cases h;exact⟨by assumption,by omega⟩
theorem UN{l:List UInt8}{f:Nat × Nat}(h:qS l=.error f):f.1≠0:=by
 unfold qS at h;split at h
 ·cases h;simp
 ·split at h
  ·cases h;simp
  ·split at h
   ·cases h;simp
   ·cases h
def QI(l:List UInt8)(w:World)(e:Ending)(w':World):Prop:=
 Below w.heap.size w w'∧
  match qS l with
  |.error f=>e=cW f.1 f.2
  |.ok ts=>∃v,e=.returned (.agg #[v,.int .i64 0])∧w'.ownsRow w.heap.size 206 4 v ts.length (ptoks ts)
def EU(l:List UInt8)(w:World)(e:Ending)(w':World):Prop:=
 Below w.heap.size w w'∧((dF l=(0,0)∧∃v ks,e=.returned v∧cR l=.ok ks∧FSl (Btw w.heap.size w'.heap.size) w' v ks)∨((dF l).1≠0∧e=cW (dF l).1 (dF l).2))
theorem QU{ks:List aC}(d:Nat)(h:pO ks=false)(hk:∀f∈ks,1≤f.kids.length):jU d ks=(5,0):=by
 unfold jU;unfold pO kF at h;cases hf:dG ks [109,97,105,110] with
 |none=>rfl
 |some m=>
  rw[hf] at h;have h1:=hk m (List.mem_of_find?_eq_some hf)
  have h2:¬m.kids.length-1=0:=by
   intro e;rw[show (([109,97,105,110]:List UInt8)==[108,101,110])=false by decide,show (([109,97,105,110]:List UInt8)==[114,101,97,100])=false by decide] at h
   simp[e] at h
  show (if 1<m.kids.length then _ else _)=_
  rw[if_pos (by omega)]
theorem B5{ks:List aC}(d:Nat)(h:pO ks=true):jU d ks=((eP ks d [] ks ⟨[],0,0⟩).kind,(eP ks d [] ks ⟨[],0,0⟩).line):=by
 unfold jU;unfold pO kF at h;rw[show (([109,97,105,110]:List UInt8)==[108,101,110])=false by decide,show (([109,97,105,110]:List UInt8)==[114,101,97,100])=false by decide] at h
 cases hf:dG ks [109,97,105,110] with
 |none=>rw[hf] at h;simp at h
 |some m=>
  rw[hf] at h;simp at h;show (if 1<m.kids.length then _ else _)=_
  rw[if_neg (by omega)]
theorem FSl.grow{F G:Nat→Prop}{w w':World}{v:Value}{fs:List aC}(h:FSl F w v fs)(hk:∀b,F b→w'.heap[b]?=w.heap[b]?)(hF:∀b,F b→G b):FSl G w' v fs:=by
 rcases h with h|⟨g,cap,cur,us,h1,h2,h3,h4,h5,h6⟩
 ·exact Or.inl h
 ·exact Or.inr ⟨g,cap,cur,us,h1,hF g h2,by rw[hk g h2];exact h3,h4,h5,h6.mono fun _ _ h=>h.keep hk hF⟩
theorem P3{w:World}{b:Nat}{v:Value}{ts:List aV}(h:w.ownsRow b 206 4 v ts.length (ptoks ts))(hp:0<ts.length):∃g cap cur,v=.slice (some ⟨g,0,none⟩) ts.length cap∧b≤g∧ts.length≤cap∧w.heap[g]?=some (.cells cur 206 (0,0))∧cur.toList.take (ts.length*4)=ptoks ts:=by
 rcases h.2 with ⟨r1,r2⟩|⟨g,cap,cur,r1,r2,r3,r4,r5,r6,r7⟩
 ·omega
 ·exact⟨g,cap,cur,r1,r2,r4,r3,r7⟩
theorem II(src:ByteArray)(w:World)(hT:kJ w)(hs:src.size≤maxLen):
 Calls Tryz.prog 76 #[.string src] w (QI src.data.toList w):=by
 have hln:src.data.toList.length=src.size:=by simp
 obtain⟨l,hl⟩:∃l,l=src.data.toList:=⟨_,rfl⟩;rw[←hl] at hln ⊢
 obtain⟨w0,hw0⟩:∃w0,w0=w.alloc (.cells #[.slice none 0 0,.int .i64 0] 144):=⟨_,rfl⟩;have hb0:Below w.heap.size w w0:=by rw[hw0];exact(Below.refl _ _).alloc (Nat.le_refl _) _
 have hblk0:w0.heap[w.heap.size]?=some (.cells #[.slice none 0 0,.int .i64 0] 144 (0,0)):=by rw[hw0];exact aR _ _ rfl _
 have hsz0:w0.heap.size=w.heap.size+1:=by rw[hw0];simp
 have HLE:=aB (RI src w0 hs);have HL:=aB hl;have HT:=aB (hT.below hb0);have HB0:=aB hb0;have HK0:=aB hblk0;have HW0:=aB hw0;clear hl hT hb0 hblk0 hw0;go_enter Tryz.func76,Tryz.ntmps76;go_wp2_with fail;rw[←HW0.out];refine HLE.out.mono ?_;rintro e w1 ⟨hw,⟨hsz,rfl⟩|⟨hsz,rfl⟩⟩
 rotate_left
 ·obtain rfl:=hw.symm
  have HF:Hid (qS l=.error (1,0)):=by
   show _=_
   unfold qS;rw[if_pos (by omega)]
  go_wp2_with fail;exact⟨rfl,HB0.out,by rw[HF.out];rfl⟩
 obtain rfl:=hw.symm;have HE:=aB (M4 src w0 HT.out.u HT.out.n.big hsz);rw[←HL.out,←hln] at HE;have hlen:¬2000<l.length:=by omega
 clear hw HLE;go_wp2_with fail;refine HE.out.mono ?_;rintro e w1 ⟨hb1,he1⟩;cases hsp:dJ l.length l 0 with
 |some k=>
  rw[hsp] at he1;obtain rfl:e=cW 2 (aZ (l.take k)):=he1;have HF:Hid (qS l=.error (2,aZ (l.take k))):=by show _=_;unfold qS;rw[if_neg hlen,hsp]
  have HB1:=aB (HB0.out.trans (hb1.mono HB0.out.size));clear hb1 HE hsp;go_wp2_with fail;exact⟨rfl,HB1.out,by rw[HF.out];rfl⟩
 |none=>
  rw[hsp] at he1;obtain rfl:e=.returned (.tuple #[]):=he1;have HSC:=aB (ZP src w1 (HT.out.below hb1).n (HT.out.below hb1).p hsz);rw[←HL.out] at HSC;have HB1:=aB hb1
  have hR1:qS l=match fY l with
   |.error n=>.error (3,n)
   |.ok ts=>.ok ts:=by unfold qS;rw[if_neg hlen,hsp]
  have HR1:=aB hR1;clear hb1 HE hsp hR1;go_wp2_with fail;refine HSC.out.mono ?_;rintro e w2 ⟨hb2,he2⟩;cases htk:fY l with
  |error n=>
   rw[htk] at he2;obtain rfl:e=cW 3 n:=he2;have HF:Hid (qS l=.error (3,n)):=by show _=_;rw[HR1.out,htk]
   have HB2:=aB (HB0.out.trans ((HB1.out.trans (hb2.mono HB1.out.size)).mono HB0.out.size));clear hb2 HSC htk HR1;go_wp2_with fail;exact⟨rfl,HB2.out,by rw[HF.out];rfl⟩
  |ok ts=>
   rw[htk] at he2;obtain⟨v,rfl,hown⟩:=he2
   obtain⟨x,c,rfl⟩:∃x c,v=.slice x ts.length c:=by
    rcases hown.2 with ⟨r1,r2⟩|⟨g,cap,cur,r1,_⟩
    ·exact⟨none,0,by rw[r1,r2]⟩
    ·exact⟨_,_,r1⟩
   have HF:Hid (qS l=.ok ts):=by show _=_;rw[HR1.out,htk]
   have hs12:=HB1.out.size
   have hblk2:w2.heap[w.heap.size]?=some (.cells #[.slice none 0 0,.int .i64 0] 144 (0,0)):=by
    rw[hb2.block _ (by omega),HB1.out.block _ (by omega)];exact HK0.out
   have hlt2:=aD hblk2;have m0:=aA hblk2 (i:=0) rfl;have m1:=aA hblk2 (i:=1) rfl;have fz:=aE hblk2 (i:=0);have fz1:=aE hblk2 (i:=1);have HB2:=aB (HB0.out.trans ((HB1.out.trans (hb2.mono HB1.out.size)).mono HB0.out.size));have HO2:=aB hown;clear hown hb2 HSC htk HR1 hblk2;go_wp2_with fail;refine bodyPost_ret (v:=.agg #[.slice x ts.length c,.int .i64 0]) (by simp[results,Tryz.results76,go_sem,m0,m1]) rfl ?_
   refine⟨(HB2.out.setCell (by simp) _).setCell (by simp) _,?_⟩
   rw[HF.out];refine⟨_,rfl,?_⟩;have ho:=HO2.out;rcases ho.2 with hn|⟨g,cap,cur,r1,r2,r3,r4⟩
   ·exact⟨ho.1,Or.inl hn⟩
   ·refine⟨ho.1,Or.inr ⟨g,cap,cur,r1,by omega,?_,r4⟩⟩
    rw[Below.heap_setCell _ _ _ _ (by show g≠w.heap.size;omega),Below.heap_setCell _ _ _ _ (by show g≠w.heap.size;omega)]
    exact r3
theorem VJ(src:ByteArray)(w:World)(hT:kJ w)(hs:src.size≤maxLen):
 Calls Tryz.prog 44 #[.string src] w (EU src.data.toList w):=by
 have HPO:=aB (II src w hT hs);obtain⟨l,hl⟩:∃l,l=src.data.toList:=⟨_,rfl⟩;rw[←hl] at HPO ⊢
 clear hl hT;go_enter Tryz.func44,Tryz.ntmps44;go_wp2_with fail;refine HPO.out.mono ?_;rintro e w2 ⟨hb2,he2⟩
 cases htr:qS l with
  |error f=>
   rw[htr] at he2;obtain rfl:e=cW f.1 f.2:=he2;have HF:Hid (dF l=f):=by show _=_;unfold dF;rw[AQ,htr]
   have HK:=aB (UN htr);have HB2:=aB hb2;clear hb2 HPO htr;go_wp2_with fail;exact⟨rfl,HB2.out,by rw[HF.out];exact Or.inr ⟨HK.out,rfl⟩⟩
  |ok ts=>
   rw[htr] at he2;obtain⟨v,rfl,hown⟩:=he2;have htk:=(SZ htr).1;have hlen:=(SZ htr).2;have hall:=qV htk
   have hR2:cR l=match lB ts with
    |.error n=>.error (4,n)
    |.ok (ks,_)=>.ok ks:=by rw[AQ,htr]
   have HR2:=aB hR2;obtain⟨g,cap,cur,rfl,hg,hcap,hrow,hcur⟩:=P3 hown hall.1.some_;have hgl:=aD hrow
   have hat:PAt ⟨w2.heap.size,g,cap,ts⟩ (w2.alloc (.cells #[.slice (some ⟨g,0,none⟩) ts.length cap,.int .i64 0] 144)) 0:=
    ⟨aR _ _ rfl _,⟨cur,nW _ _ hgl _ hrow,hcur⟩,by show g≠w2.heap.size;omega,hall.1.some_,by show ts.length≤3000;omega,hcap,hall.1,KL htk⟩
   have HP:=aB (LK ⟨w2.heap.size,g,cap,ts⟩ (w2.alloc (.cells #[.slice (some ⟨g,0,none⟩) ts.length cap,.int .i64 0] 144)) hat (bP.prog hall.1.ok hall.1.some_));have HB2:=aB hb2;clear hown hb2 HPO htr htk hR2 hat hrow hcur hall;go_wp2_with fail;refine HP.out.mono ?_;rintro e w3 ⟨hf3,ho3⟩;have hb3:Below w2.heap.size w2 w3:=⟨hf3.os.trans rfl,hf3.tape.trans rfl,hf3.output.trans rfl,Nat.le_trans (by simp) hf3.size,fun k hk=>by rw[hf3.block k (by simp;omega) (by show k≠w2.heap.size;omega)];exact Below.heap_alloc _ _ _ hk⟩
   have HB3:=aB (HB2.out.trans (hb3.mono HB2.out.size));cases hpr:lB ts with
   |error n=>
    rw[hpr] at ho3;obtain rfl:e=cW 4 n:=ho3;have HF:Hid (dF l=(4,n)):=by show _=_;unfold dF;rw[HR2.out,hpr]
    clear hf3 hb3 HP hpr HR2;go_wp2_with fail;exact⟨rfl,HB3.out,by rw[HF.out];exact Or.inr ⟨by simp,rfl⟩⟩
   |ok kq=>
    obtain⟨ks,q⟩:=kq;rw[hpr] at ho3;obtain⟨_,v3,rfl,hv3⟩:=ho3;have hpl:cR l=.ok ks:=by rw[HR2.out,hpr]
    have hfine:=kC hpl;have HF:Hid (dF l=jU 2001 ks):=by show _=_;unfold dF;rw[hpl]
    have hfl:=FineL.len hfine;have hfk:∀f∈ks,f.kids.length≤90000:=fun f hf=>by have:=(FineA.kids (FineL.mem hfine hf) 0).1;omega
    have hdd:∀f∈ks,∀k∈f.kids,eS 2001 k:=fun f hf k hk=>mW 2001 k (FineA.kid (FineL.mem hfine hf) hk)
    have hww:∀f∈ks,f.kids.length+(f.kids.map (bS 2001)).sum≤90000:=fun f hf=>by have:=FineA.kids (FineL.mem hfine hf) 2001;omega
    have hfs:FSl (Btw (w2.alloc (.cells #[.slice (some ⟨g,0,none⟩) ts.length cap,.int .i64 0] 144)).heap.size w3.heap.size) w3 v3 ks:=hv3
    obtain⟨fx,fc,rfl⟩:∃x c,v3=.slice x ks.length c:=by
     rcases hfs.cells with ⟨h1,h2⟩|⟨g,cap,h1,_⟩
     ·exact⟨none,0,by rw[h1,h2];rfl⟩
     ·exact⟨_,_,h1⟩
    have HKI:=aB hfs.kids;have HM:=aB (SJ ks _ _ w3 (by omega) hfk hfs)
    have HFS:=aB hfs;have HFK:=aB hfk;have HDD:=aB hdd;have HWW:=aB hww;have HPL:=aB hpl;clear hf3 hb3 HP hpr HR2 hv3 hpl hfine hfk hdd hww hfs;go_wp2_with fail;refine HM.out.mono ?_;rintro e w4 ⟨hb4,⟨hmo,rfl⟩|⟨hmo,rfl⟩⟩
    rotate_left
    ·have HB4:=aB (HB3.out.trans (hb4.mono HB3.out.size));have HF2:Hid (dF l=(5,0)):=by show _=_;rw[HF.out,QU 2001 hmo HKI.out]
     clear hb4 hmo HM;go_wp2_with fail;exact⟨rfl,HB4.out,by rw[HF2.out];exact Or.inr ⟨by decide,rfl⟩⟩
    have HB4:=aB (HB3.out.trans (hb4.mono HB3.out.size));have HF2:Hid (dF l=((eP ks 2001 [] ks ⟨[],0,0⟩).kind,(eP ks 2001 [] ks ⟨[],0,0⟩).line)):=by show _=_;rw[HF.out,B5 2001 hmo]
    have HN:=aB (OE (w2.alloc (.cells #[.slice (some ⟨g,0,none⟩) ts.length cap,.int .i64 0] 144)).heap.size ks (.slice fx ks.length fc) w4 2001 (by omega) HFK.out (HFS.out.grow (fun b hb=>hb4.block b hb.2) fun b hb=>⟨hb.1,Nat.lt_of_lt_of_le hb.2 hb4.size⟩) HDD.out HWW.out)
    have HF4:=aB (HFS.out.grow (G:=Btw w.heap.size w4.heap.size) (fun b hb=>hb4.block b hb.2) fun b hb=>⟨by have h1:=hb.1;have h2:=HB2.out.size;simp at h1;omega,Nat.lt_of_lt_of_le hb.2 hb4.size⟩)
    clear hb4 hmo HM HF HFK HDD HWW HKI HFS;generalize (eP ks 2001 [] ks ⟨[],0,0⟩).kind=kd at*;generalize (eP ks 2001 [] ks ⟨[],0,0⟩).line=ld at*;go_wp2_with fail;refine HN.out.mono ?_;rintro e w5 ⟨hb5,⟨hk5,hl5,rfl⟩|⟨hk5,rfl⟩⟩
    ·have HB5:=aB (HB4.out.trans (hb5.mono HB4.out.size));have HF3:Hid (dF l=(0,0)):=by show _=_;rw[HF2.out,hk5,hl5]
     have HF5:=aB (HF4.out.grow (G:=Btw w.heap.size w5.heap.size) (fun b hb=>hb5.block b hb.2) fun b hb=>⟨hb.1,Nat.lt_of_lt_of_le hb.2 hb5.size⟩)
     clear hb5 hk5 hl5 HN;go_wp2_with fail;go_ret;exact⟨HB5.out,Or.inl ⟨HF3.out,_,ks,rfl,HPL.out,HF5.out⟩⟩
    ·have HB5:=aB (HB4.out.trans (hb5.mono HB4.out.size));have HK5:=aB hk5;clear hb5 hk5 HN;go_wp2_with fail;exact⟨rfl,HB5.out,by rw[HF2.out];exact Or.inr ⟨HK5.out,rfl⟩⟩
theorem pP{w:World}{b:Nat}{o:Obj}(h:w.heap[b]?=some o):b<w.heap.size:=by
 rcases Nat.lt_or_ge b w.heap.size with h1|h1
 ·exact h1
 ·rw[Array.getElem?_eq_none h1] at h;cases h
theorem lC{w:World}{b i:Nat}{c:Array Value}{e:TypeId}(h:w.heap[b]?=some (.cells c e (0,0))){v:Value}(hv:c[i]?=some v):w.cell? ⟨b,i,none⟩=some v:=by
 simp[World.cell?,h,hv]
theorem nX{w:World}{b i:Nat}{c:Array Value}{e:TypeId}(h:w.heap[b]?=some (.cells c e (0,0))):w.frozen? ⟨b,i,none⟩=false:=by
 simp[World.frozen?,h]
theorem J0(p q k n:Nat)(w:World)(hp:w.heap[p]?=some (.cells #[.int .i64 0] 22 (0,0)))(hq:w.heap[q]?=some (.cells #[.int .i64 0] 3 (0,0)))(hpq:p<q):
 Below p w (((w.setCell ⟨p,0,none⟩ (.int .i64 k)).setCell ⟨q,0,none⟩ (.int .i64 n)).alloc (.cells #[.int .i64 k,.int .i64 n] 141)).drew
 ∧(((w.setCell ⟨p,0,none⟩ (.int .i64 k)).setCell ⟨q,0,none⟩ (.int .i64 n)).alloc (.cells #[.int .i64 k,.int .i64 n] 141)).drew.cell? ⟨p,0,none⟩=some (.int .i64 k)
 ∧(((w.setCell ⟨p,0,none⟩ (.int .i64 k)).setCell ⟨q,0,none⟩ (.int .i64 n)).alloc (.cells #[.int .i64 k,.int .i64 n] 141)).drew.cell? ⟨q,0,none⟩=some (.int .i64 n):=by
 have c0:w.cell? ⟨p,0,none⟩=some (.int .i64 0):=lC hp rfl;have c1:w.cell? ⟨q,0,none⟩=some (.int .i64 0):=lC hq rfl;have l0:=pP hp;have l1:=pP hq;have hn1:¬p=q:=by omega
 have hn2:¬q=p:=by omega
 have hn3:¬p=w.heap.size:=by omega
 have hn4:¬q=w.heap.size:=by omega
 refine⟨((((Below.refl p w).setCell (Nat.le_refl p) _).setCell (Nat.le_of_lt hpq) _).alloc (by simp;omega) _).drew,?_,?_⟩
 ·simp[go_sem,c0,l0]
 ·simp[go_sem,c1,l1]
theorem ZM(p q k n:Nat)(w:World)(hp:w.heap[p]?=some (.cells #[.int .i64 0] 22 (0,0)))(hq:w.heap[q]?=some (.cells #[.int .i64 0] 3 (0,0)))(hpq:p<q):
 Below p w (((w.setCell ⟨q,0,none⟩ (.int .i64 n)).setCell ⟨p,0,none⟩ (.int .i64 k)).alloc (.cells #[.int .i64 k,.int .i64 n] 141)).drew
 ∧(((w.setCell ⟨q,0,none⟩ (.int .i64 n)).setCell ⟨p,0,none⟩ (.int .i64 k)).alloc (.cells #[.int .i64 k,.int .i64 n] 141)).drew.cell? ⟨p,0,none⟩=some (.int .i64 k)
 ∧(((w.setCell ⟨q,0,none⟩ (.int .i64 n)).setCell ⟨p,0,none⟩ (.int .i64 k)).alloc (.cells #[.int .i64 k,.int .i64 n] 141)).drew.cell? ⟨q,0,none⟩=some (.int .i64 n):=by
 have c0:w.cell? ⟨p,0,none⟩=some (.int .i64 0):=lC hp rfl;have c1:w.cell? ⟨q,0,none⟩=some (.int .i64 0):=lC hq rfl;have l0:=pP hp;have l1:=pP hq;have hn1:¬p=q:=by omega
 have hn2:¬q=p:=by omega
 have hn3:¬p=w.heap.size:=by omega
 have hn4:¬q=w.heap.size:=by omega
 refine⟨((((Below.refl p w).setCell (Nat.le_of_lt hpq) _).setCell (Nat.le_refl p) _).alloc (by simp;omega) _).drew,?_,?_⟩
 ·simp[go_sem,c0,l0]
 ·simp[go_sem,c1,l1]
theorem L0(v:Value)(w:World):(Instr.typeAssert (.iface 141 v) 20 141 true).run Tryz.prog w=.ok (.tuple #[v,.bool true]) w:=by kernel_rfl
theorem OJ(p q k n:Nat)(older:List PanicEntry)(w:World)(hp:w.heap[p]?=some (.cells #[.int .i64 0] 22 (0,0)))(hq:w.heap[q]?=some (.cells #[.int .i64 0] 3 (0,0)))(hpq:p<q):
 CallsD Tryz.prog 75 #[.pointer (some ⟨p,0,none⟩),.pointer (some ⟨q,0,none⟩)] (.panicking ({ v:=.iface 141 (.agg #[.int .i64 k,.int .i64 n]),recovered:=false }::older)) w fun e u' w'=>
  e=.returned (.tuple #[])∧u'=.panicking ({ v:=.iface 141 (.agg #[.int .i64 k,.int .i64 n]),recovered:=true }::older)∧Below p w w'∧w'.cell? ⟨p,0,none⟩=some (.int .i64 k)∧w'.cell? ⟨q,0,none⟩=some (.int .i64 n):=by
 have c0:=lC hp (i:=0) rfl;have c1:=lC hq (i:=0) rfl;have f0:=nX (i:=0) hp;have f1:=nX (i:=0) hq;have l0:=pP hp;have l1:=pP hq;have hft:=L0;refine callsD_of_wpS Tryz.func75 rfl fun c₀ cs hu=>?_
 apply wpS_seq
 apply wpS_region
 simp[wpOpsS,go_sem,recoverD,hu,Tryz.ntmps75,Exit.thenS];refine wpS_of_wp ?_;have hn1:¬p=q:=by omega
 have hn2:¬q=p:=by omega
 have hn3:¬p=w.heap.size:=by omega
 have hn4:¬q=w.heap.size:=by omega
 obtain⟨b12,x12,y12⟩:=J0 p q k n w hp hq hpq;obtain⟨b21,x21,y21⟩:=ZM p q k n w hp hq hpq;clear hp hq;go_wp2_with fail;go_region
 all_goals
  go_wp2_with fail;first
  |exact⟨rfl,_,rfl,.tuple #[],by simp[results,Tryz.results75],rfl,rfl,b12,x12,y12⟩
  |exact⟨rfl,_,rfl,.tuple #[],by simp[results,Tryz.results75],rfl,rfl,b21,x21,y21⟩
theorem SP(p q:Addr)(w:World):
 CallsD Tryz.prog 75 #[.pointer (some p),.pointer (some q)] .returning w fun e u' w'=>e=.returned (.tuple #[])∧u'=.returning∧w'=w:=by
 refine callsD_of_wpS Tryz.func75 rfl fun c₀ cs hu=>?_
 apply wpS_seq
 apply wpS_region
 simp[wpOpsS,go_sem,recoverD,hu,Tryz.ntmps75,Exit.thenS];refine wpS_of_wp ?_;go_wp2_with fail;exact⟨rfl,c₀.mode,rfl,.tuple #[],by simp[results,Tryz.results75],rfl,hu,rfl⟩
theorem nI(w:World)(o o2:Obj):((w.alloc o).alloc o2).heap[w.heap.size]?=some o:=by
 rw[Below.heap_alloc _ _ _ (by simp)]
 show (w.heap.push o)[w.heap.size]?=_
 rw[Array.getElem?_push,if_pos rfl]
theorem kR(w:World)(o o2:Obj):((w.alloc o).alloc o2).heap[w.heap.size+1]?=some o2:=by
 show ((w.alloc o).heap.push o2)[w.heap.size+1]?=_
 rw[Array.getElem?_push,if_pos (by simp)]
theorem B8(fn:Fn)(first cap:Array Value)(w:World):(Instr.makeFunc fn first cap).run Tryz.prog w=.ok (.func fn first cap) w:=rfl
end Go.Proofs.YtblbkfdhjfppkaaGreatDoor
