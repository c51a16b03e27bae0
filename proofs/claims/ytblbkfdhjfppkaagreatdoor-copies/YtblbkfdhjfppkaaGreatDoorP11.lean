/- Contracts of the program: strings and marks. -/
import Derived.Test.YtblbkfdhjfppkaaGreatDoorP10
set_option maxRecDepth 100000
set_option maxHeartbeats 4000000
namespace Go.Proofs.YtblbkfdhjfppkaaGreatDoor
open Hs
open Tryz(prog)
open Go.RowKit
abbrev ZTok(w:World)(b:Nat):Prop:=w.heap[b]?=some (.cells #[.int .i64 0,.string ⟨#[]⟩,.int .i64 0,.int .i64 0] 206 (0,0))
theorem WW(sb:Nat)(src:ByteArray)(n L:Nat)(w:World)(h:SC sb src n L w)(hs:src.size<=2000000000)(hn:n<src.size):
 Calls prog 254 #[.pointer (some ⟨sb,0,none⟩)] w (M2 sb src n L w (nC (src.data.toList.drop (n+1)))):=by
 obtain⟨m,hm⟩:∃m,m=n+1:=⟨_,rfl⟩;rw[<-hm];obtain⟨sp,hsp⟩:∃sp,sp=bF fB (src.data.toList.drop m):=⟨_,rfl⟩
 have hle:sp<=src.size-m:=by
  have:=kH fB (src.data.toList.drop m);rw[hsp];simpa using this
 obtain⟨k,hk⟩:∃k,k=m+sp:=⟨_,rfl⟩;have hsb:=(SC.cells h).1;have hrb:w.heap.size≠sb:=by omega
 have h1:SC sb src n L (w.alloc (.cells #[.int .i64 0,.string ⟨#[]⟩,.int .i64 0,.int .i64 0] 206)):=by unfold SC;rw[o9 _ _ _ hsb];exact h
 have HZ:Hid (ZTok (w.alloc (.cells #[.int .i64 0,.string ⟨#[]⟩,.int .i64 0,.int .i64 0] 206)) w.heap.size):=aT _ _ rfl _;have HT1:=aB (nT sb src n L 1 (w.alloc (.cells #[.int .i64 0,.string ⟨#[]⟩,.int .i64 0,.int .i64 0] 206)) h1 hs (by omega))
 rw[<-hm] at HT1;have HSP:=aB (fun w=>uJ fB 301 (fun _ _=>rfl) LA (src.extract m src.size) w (by rw[rJ];omega))
 rw[mR,<-hsp] at HSP;obtain⟨tx,htx⟩:∃tx,tx=(src.data.toList.drop m).take sp:=⟨_,rfl⟩;have hlen:(bs tx).size=sp:=by rw[gI,htx,an_];simp;omega
 obtain⟨ok,hok⟩:∃ok,ok=(decide ((src.data.toList.drop m)[sp]?=some 34) && decide (sp<=100)):=⟨_,rfl⟩
 have HW:Hid (nC (src.data.toList.drop m)={ sort:=115,text:=tx,size:=sp+2,ok:=ok }):=by
  show _=_
  unfold nC;rw[<-hsp,<-htx,<-hok]
 rw[HW.out];have HTX:=aB htx;have HOK:=aB hok;have HF0:Hid (Fr sb w (w.alloc (.cells #[.int .i64 0,.string ⟨#[]⟩,.int .i64 0,.int .i64 0] 206))):=(Fr.refl _ _).alloc _;have HM:=aB hm;have HK:=aB hk;have hmle:m<=src.size:=by omega
 have hkle:k<=src.size:=by omega
 clear h h1 hsp htx HW hok hm hk;generalize hrr:({ sort:=115,text:=tx,size:=sp+2,ok:=ok }:oZ)=rr;have HRR:=aB hrr;clear hrr;go_enter Tryz.func254,Tryz.ntmps254;go_wp2_with fail;refine HT1.out.mono ?_;rintro e w1 ⟨rfl,hs1,hf1⟩;have HZ1:=aB (hf1.keepS HZ.out hrb);have HZ1d:Hid (ZTok w1.drew w.heap.size):=HZ1.out;have HTK:=aB (nT sb src m L sp w1.drew hs1 hs (by omega))
 rw[<-HK.out] at HTK;rw[<-HTX.out] at HTK;have HF1:=aB (HF0.out.trans hf1);obtain⟨h0,c0,c1,c2,f1,f2⟩:=hs1.cells;clear hs1 hf1 HT1 HZ HF0;go_wp2_with fail;go_cut [3] (fun v wc=>v=.string (bs tx)/\SC sb src (k) L wc/\Fr sb w wc/\ZTok wc w.heap.size)
 case first=>
  go_region_law (first|(go_simp;go_at_call 248;refine(HSP.out _).mono ?_;rintro e w2 ⟨rfl,hw⟩;obtain rfl:=hw.symm)|(go_simp;go_at_call 296;refine HTK.out.mono ?_;rintro e w2 ⟨rfl,hs2,hf2⟩;have HS2:=aB hs2;have HF2:=aB (HF1.out.drew.trans hf2);have HZ2:=aB (hf2.keepS HZ1d.out hrb);clear hs2 hf2))
  all_goals
   go_wp2_with fail;go_meet
   case rel=>exact⟨rfl,HS2.out,HF2.out,HZ2.out⟩
 case rest=>
  obtain⟨rfl,hs2,hf2,hz2⟩:=hcut;clear c0 c1 c2 f1 f2 h0;obtain⟨h0,c0,c1,c2,f1,f2⟩:=hs2.cells;have HS2:=aB hs2;have HF2:=aB hf2;have HZ2:=aB hz2;clear hs2 hf2 hz2 HTK HSP HZ1 HZ1d HF1;have HFL:=aB (fun q=>rI sb src (k) L (wc.drewN q) HS2.out)
  by_cases h100:sp<=100
  rotate_left
  ·have e1:decide ((100:Int)<(sp:Int))=true:=decide_eq_true (by omega)
   have hok:ok=false:=by rw[HOK.out,decide_eq_false h100,Bool.and_false]
   subst hok;have hrr:=HRR.out;clear HRR HOK;subst hrr;go_wp2_with fail;go_quiet (fail)
   go_wp2_with fail;refine(HFL.out _).mono ?_;rintro e w3 ⟨rfl,hw⟩;obtain rfl:=hw.symm;go_wp2_with fail;exact⟨rfl,HF2.out.drewN _,Or.inr ⟨rfl,rfl⟩⟩
  have e1:decide ((100:Int)<(sp:Int))=false:=decide_eq_false (by omega)
  by_cases hend:k=src.size
  ·have e2:((k:Int)==(src.size:Int))=true:=by simp;omega
   have hok:ok=false:=by
    rw[HOK.out,aa_ (by have:=HK.out;simp;omega)];simp
   subst hok;have hrr:=HRR.out;clear HRR HOK;subst hrr;go_wp2_with fail;go_quiet (fail)
   go_wp2_with fail;refine(HFL.out _).mono ?_;rintro e w3 ⟨rfl,hw⟩;obtain rfl:=hw.symm;go_wp2_with fail;exact⟨rfl,HF2.out.drewN _,Or.inr ⟨rfl,rfl⟩⟩
  have hlt:k<src.size:=by omega
  have e2:((k:Int)==(src.size:Int))=false:=by simp;omega
  have hb:(src[k].toNat:Int)<=255:=nK _
  have hget:(src.data.toList.drop m)[sp]?=some src[k]:=by
   have e:=FM src m sp (by rw[<-HK.out];exact hlt)
   rw[e];congr 1
   simp only[HK.out]
  by_cases h34:src[k].toNat=34
  ·have hok:ok=true:=by
    rw[HOK.out,hget,decide_eq_true h100,Bool.and_true];exact decide_eq_true (congrArg some (aU_.1 h34))
   subst hok;have hrr:=HRR.out;clear HRR HOK hget;subst hrr;have h34':((src[k].toNat:Int) != 34)=false:=by simp;omega
   have hsz:w.heap.size<wc.heap.size:=aD HZ2.out;have HT3:=aB (fun q=>nT sb src (k) L 1 (wc.drewN q) HS2.out hs (by omega))
   clear h34;go_wp2_with fail;go_quiet (fail)
   go_wp2_with fail;refine(HT3.out _).mono ?_;rintro e w3 ⟨rfl,hs3,hf3⟩;have HZ3:=aB ((((Fr.refl sb wc).drewN _).trans hf3).keepS HZ2.out hrb);have HF3:=aB ((HF2.out.drewN _).trans hf3);have HS3:=aB hs3;have z0:=aA HZ3.out (i:=0) rfl;have z1:=aA HZ3.out (i:=1) rfl;have z2:=aA HZ3.out (i:=2) rfl;have z3:=aA HZ3.out (i:=3) rfl;have y0:=aE (i:=0) HZ3.out;have y1:=aE (i:=1) HZ3.out;have y2:=aE (i:=2) HZ3.out;have y3:=aE (i:=3) HZ3.out;have hzz:=aD HZ3.out;clear c0 c1 c2 f1 f2 h0;obtain⟨h0,c0,c1,c2,f1,f2⟩:=hs3.cells;clear hs3 hf3 HT3;go_wp2_with fail;refine bodyPost_ret (v:=.agg #[.int .i64 3,.string (bs tx),.int .i64 0,.int .i64 L]) (by simp[results,Tryz.results254,go_sem,z0,z1,z2,z3]) rfl ?_
   have hfin:=lW HF3.out HS3.out (l9 _) hrb (.int .i64 3) (.string (bs tx)) (.int .i64 0) (.int .i64 L);exact⟨hfin.1,Or.inl ⟨rfl,rfl,by rw[show n+(sp+2)=k+1 by have:=HM.out;have:=HK.out;omega];exact hfin.2⟩⟩
  ·have hok:ok=false:=by
    rw[HOK.out,hget,decide_eq_false (fun e=>h34 (by rw[Option.some.inj e];rfl))];rfl
   subst hok;have hrr:=HRR.out;clear HRR HOK hget;subst hrr;have h34':((src[k].toNat:Int) != 34)=true:=by simp;omega
   go_wp2_with fail;go_quiet (fail)
   go_wp2_with fail;refine(HFL.out _).mono ?_;rintro e w3 ⟨rfl,hw⟩;obtain rfl:=hw.symm;go_wp2_with fail;exact⟨rfl,HF2.out.drewN _,Or.inr ⟨rfl,rfl⟩⟩
structure PTabs(w:World):Prop where
 tab:∃t fr,w.heap[(6:Nat)]?=some (.cells #[.string ⟨#[61,61]⟩,.string ⟨#[33,61]⟩,.string ⟨#[60,61]⟩,.string ⟨#[38,38]⟩,.string ⟨#[124,124]⟩,.string ⟨#[40]⟩,.string ⟨#[41]⟩,.string ⟨#[123]⟩,.string ⟨#[125]⟩,.string ⟨#[91]⟩,.string ⟨#[93]⟩,.string ⟨#[44]⟩,.string ⟨#[59]⟩,.string ⟨#[61]⟩,.string ⟨#[60]⟩,.string ⟨#[43]⟩,.string ⟨#[45]⟩,.string ⟨#[42]⟩,.string ⟨#[47]⟩,.string ⟨#[37]⟩,.string ⟨#[33]⟩] t fr)
 big:11<=w.heap.size
theorem PTabs.fr{w w':World}{sb:Nat}(h:PTabs w)(hf:Fr sb w w')(hs:11<=sb):PTabs w':=by
 obtain⟨t,fr,h1⟩:=h.tab;have:=h.big;have:=hf.size;exact⟨⟨t,fr,by rw[hf.block 6 (by omega) (by omega)];exact h1⟩,by omega⟩
abbrev gJ:Value:=.agg #[.string ⟨#[61,61]⟩,.string ⟨#[33,61]⟩,.string ⟨#[60,61]⟩,.string ⟨#[38,38]⟩,.string ⟨#[124,124]⟩,.string ⟨#[40]⟩,.string ⟨#[41]⟩,.string ⟨#[123]⟩,.string ⟨#[125]⟩,.string ⟨#[91]⟩,.string ⟨#[93]⟩,.string ⟨#[44]⟩,.string ⟨#[59]⟩,.string ⟨#[61]⟩,.string ⟨#[60]⟩,.string ⟨#[43]⟩,.string ⟨#[45]⟩,.string ⟨#[42]⟩,.string ⟨#[47]⟩,.string ⟨#[37]⟩,.string ⟨#[33]⟩]
theorem ZC(w:World):(Instr.index 300 gJ (.int .i64 0)).run prog w=.ok (.string ⟨#[61,61]⟩) w:=by kernel_rfl
theorem ZB(w:World):(Instr.index 300 gJ (.int .i64 1)).run prog w=.ok (.string ⟨#[33,61]⟩) w:=by kernel_rfl
theorem ZA(w:World):(Instr.index 300 gJ (.int .i64 2)).run prog w=.ok (.string ⟨#[60,61]⟩) w:=by kernel_rfl
theorem YZ(w:World):(Instr.index 300 gJ (.int .i64 3)).run prog w=.ok (.string ⟨#[38,38]⟩) w:=by kernel_rfl
theorem YY(w:World):(Instr.index 300 gJ (.int .i64 4)).run prog w=.ok (.string ⟨#[124,124]⟩) w:=by kernel_rfl
theorem YX(w:World):(Instr.index 300 gJ (.int .i64 5)).run prog w=.ok (.string ⟨#[40]⟩) w:=by kernel_rfl
theorem YW(w:World):(Instr.index 300 gJ (.int .i64 6)).run prog w=.ok (.string ⟨#[41]⟩) w:=by kernel_rfl
theorem YV(w:World):(Instr.index 300 gJ (.int .i64 7)).run prog w=.ok (.string ⟨#[123]⟩) w:=by kernel_rfl
theorem YU(w:World):(Instr.index 300 gJ (.int .i64 8)).run prog w=.ok (.string ⟨#[125]⟩) w:=by kernel_rfl
theorem YT(w:World):(Instr.index 300 gJ (.int .i64 9)).run prog w=.ok (.string ⟨#[91]⟩) w:=by kernel_rfl
theorem TX(w:World):(Instr.index 300 gJ (.int .i64 10)).run prog w=.ok (.string ⟨#[93]⟩) w:=by kernel_rfl
theorem TW(w:World):(Instr.index 300 gJ (.int .i64 11)).run prog w=.ok (.string ⟨#[44]⟩) w:=by kernel_rfl
theorem TV(w:World):(Instr.index 300 gJ (.int .i64 12)).run prog w=.ok (.string ⟨#[59]⟩) w:=by kernel_rfl
theorem TU(w:World):(Instr.index 300 gJ (.int .i64 13)).run prog w=.ok (.string ⟨#[61]⟩) w:=by kernel_rfl
theorem TT(w:World):(Instr.index 300 gJ (.int .i64 14)).run prog w=.ok (.string ⟨#[60]⟩) w:=by kernel_rfl
theorem TR(w:World):(Instr.index 300 gJ (.int .i64 15)).run prog w=.ok (.string ⟨#[43]⟩) w:=by kernel_rfl
theorem TQ(w:World):(Instr.index 300 gJ (.int .i64 16)).run prog w=.ok (.string ⟨#[45]⟩) w:=by kernel_rfl
theorem TP(w:World):(Instr.index 300 gJ (.int .i64 17)).run prog w=.ok (.string ⟨#[42]⟩) w:=by kernel_rfl
theorem TO(w:World):(Instr.index 300 gJ (.int .i64 18)).run prog w=.ok (.string ⟨#[47]⟩) w:=by kernel_rfl
theorem TN(w:World):(Instr.index 300 gJ (.int .i64 19)).run prog w=.ok (.string ⟨#[37]⟩) w:=by kernel_rfl
theorem TM(w:World):(Instr.index 300 gJ (.int .i64 20)).run prog w=.ok (.string ⟨#[33]⟩) w:=by kernel_rfl
theorem J6(k:Nat)(hk:k<21)(w:World):(Instr.index 300 gJ (.int .i64 k)).run prog w=.ok (.string (bs (cM[k]'(by simpa [cM] using hk)))) w:=by
 match k,hk with
 |0,_=>exact ZC w
 |1,_=>exact ZB w
 |2,_=>exact ZA w
 |3,_=>exact YZ w
 |4,_=>exact YY w
 |5,_=>exact YX w
 |6,_=>exact YW w
 |7,_=>exact YV w
 |8,_=>exact YU w
 |9,_=>exact YT w
 |10,_=>exact TX w
 |11,_=>exact TW w
 |12,_=>exact TV w
 |13,_=>exact TU w
 |14,_=>exact TT w
 |15,_=>exact TR w
 |16,_=>exact TQ w
 |17,_=>exact TP w
 |18,_=>exact TO w
 |19,_=>exact TN w
 |20,_=>exact TM w
 |k+21,h=>exact absurd h (by omega)
theorem XA(sb:Nat)(src:ByteArray)(n L:Nat)(w:World)(h:SC sb src n L w)(hg:PTabs w)(hs:src.size<=2000000000)(hn:n<src.size)(r:oZ)(hr:Hid (gL (src.data.toList.drop n)=r)):
 Calls prog 255 #[.pointer (some ⟨sb,0,none⟩)] w (M2 sb src n L w r):=by
 have hsb:=(SC.cells h).1;have hrb:w.heap.size≠sb:=by omega
 have hbig:=hg.big;have hn2:n<=src.size:=by omega
 have h1:SC sb src n L (w.alloc (.cells #[.int .i64 0,.string ⟨#[]⟩,.int .i64 0,.int .i64 0] 206)):=by unfold SC;rw[o9 _ _ _ hsb];exact h
 have HZ:Hid (ZTok (w.alloc (.cells #[.int .i64 0,.string ⟨#[]⟩,.int .i64 0,.int .i64 0] 206)) w.heap.size):=aT _ _ rfl _;have HF0:Hid (Fr sb w (w.alloc (.cells #[.int .i64 0,.string ⟨#[]⟩,.int .i64 0,.int .i64 0] 206))):=(Fr.refl _ _).alloc _;obtain⟨tt,fr,htab⟩:=hg.tab;have htab1:(w.alloc (.cells #[.int .i64 0,.string ⟨#[]⟩,.int .i64 0,.int .i64 0] 206)).heap[(6:Nat)]?=_:=oS w 6 (by omega) _ htab
 have hsz:(prog.info? 300).map (·.size)=some (#[.string ⟨#[61,61]⟩,.string ⟨#[33,61]⟩,.string ⟨#[60,61]⟩,.string ⟨#[38,38]⟩,.string ⟨#[124,124]⟩,.string ⟨#[40]⟩,.string ⟨#[41]⟩,.string ⟨#[123]⟩,.string ⟨#[125]⟩,.string ⟨#[91]⟩,.string ⟨#[93]⟩,.string ⟨#[44]⟩,.string ⟨#[59]⟩,.string ⟨#[61]⟩,.string ⟨#[60]⟩,.string ⟨#[43]⟩,.string ⟨#[45]⟩,.string ⟨#[42]⟩,.string ⟨#[47]⟩,.string ⟨#[37]⟩,.string ⟨#[33]⟩]:Array Value).size:=by kernel_rfl
 have HIX:∀(k:Nat) (hk:k<21) (w:World),(Instr.index 300 (.agg #[.string ⟨#[61,61]⟩,.string ⟨#[33,61]⟩,.string ⟨#[60,61]⟩,.string ⟨#[38,38]⟩,.string ⟨#[124,124]⟩,.string ⟨#[40]⟩,.string ⟨#[41]⟩,.string ⟨#[123]⟩,.string ⟨#[125]⟩,.string ⟨#[91]⟩,.string ⟨#[93]⟩,.string ⟨#[44]⟩,.string ⟨#[59]⟩,.string ⟨#[61]⟩,.string ⟨#[60]⟩,.string ⟨#[43]⟩,.string ⟨#[45]⟩,.string ⟨#[42]⟩,.string ⟨#[47]⟩,.string ⟨#[37]⟩,.string ⟨#[33]⟩]) (.int .i64 k)).run prog w=.ok (.string (bs (cM[k]'(by simpa [cM] using hk)))) w:=J6
 generalize (#[.string ⟨#[61,61]⟩,.string ⟨#[33,61]⟩,.string ⟨#[60,61]⟩,.string ⟨#[38,38]⟩,.string ⟨#[124,124]⟩,.string ⟨#[40]⟩,.string ⟨#[41]⟩,.string ⟨#[123]⟩,.string ⟨#[125]⟩,.string ⟨#[91]⟩,.string ⟨#[93]⟩,.string ⟨#[44]⟩,.string ⟨#[59]⟩,.string ⟨#[61]⟩,.string ⟨#[60]⟩,.string ⟨#[43]⟩,.string ⟨#[45]⟩,.string ⟨#[42]⟩,.string ⟨#[47]⟩,.string ⟨#[37]⟩,.string ⟨#[33]⟩]:Array Value)=cs at htab1 hsz HIX;have HIXX:=aB HIX;have HTAB:=aB htab1;have HSZ:=aB hsz;clear htab htab1 hsz HIX;have H1:=aB h1;clear h h1 hg;go_enter Tryz.func255,Tryz.ntmps255;go_wp2_with (refine wpList_load_row rfl 300 (.global 6) rfl 6 (by rfl) tt cs fr (.array 21 9) HTAB.out Tryz.underlying300 rfl HSZ.out ?_)
 go_loopg [4,6] 21 (fun gk _ i wr=>∃k:Nat,k+gk=21/\i=.int .i64 k/\Hid (wI (src.data.toList.drop n) k)/\SC sb src n L wr/\Fr sb w wr/\ZTok wr w.heap.size)
 case atStart=>exact⟨0,by omega,rfl,fun o ho=>(by simp at ho),H1.out,HF0.out,HZ.out⟩
 case round=>
  obtain⟨k,hk,rfl,HN,hsr,hfr,hzr⟩:=hrel;obtain⟨h0,c0,c1,c2,f1,f2⟩:=hsr.cells;have HSR:=aB hsr;have HFR:=aB hfr;have HZR:=aB hzr;clear hsr hfr hzr HZ HF0 H1;by_cases hk2:k<21
  ·obtain⟨j,rfl⟩:∃j,gk=j+1:=⟨gk-1,by omega⟩
   obtain⟨q,hq⟩:∃q,q=cM[k]'(by simpa [cM] using hk2):=⟨_,rfl⟩
   have hix:∀w,(Instr.index 300 (.agg cs) (.int .i64 k)).run prog w=.ok (.string (bs q)) w:=fun w=>by rw[hq];exact HIXX.out k hk2 w
   have hql:q.length<=2:=by rw[hq];exact KR k hk2
   have hqs:(bs q).size=q.length:=gI q;have HQ:Hid (q=cM[k]'(by simpa [cM] using hk2)):=hq
   clear hq;have HPX:=aB (fun w=>CF (src.extract n src.size) (bs q) w (by rw[rJ];omega) (by rw[gI];omega))
   rw[mR,jL] at HPX;cases hst:cJ (src.data.toList.drop n) q
   ·rw[hst] at HPX;have HF:Hid (wI (src.data.toList.drop n) (k+1)):=OK hk2 HN.out (by rw[<-HQ.out];exact hst)
    clear HN HQ hst;go_wp2_with fail;go_quiet ((go_at_call 247;exact Calls.quiet_of_same (HPX.out _)))
    go_wp2_with fail;go_roundg j
    case measure=>omega
    case rel=>exact⟨k+1,by omega,by go_num,HF,HSR.out,HFR.out.drewN _,HZR.out⟩
   ·rw[hst] at HPX;have HF:Hid (r={ sort:=112,text:=q,size:=q.length,ok:=true }):=by rw[<-hr.out];exact TB hk2 HN.out q HQ.out hst
    have hpl:n+q.length<=src.size:=by
     have:=kS hst;simp at this;omega
    have HTXT:Hid ((src.data.toList.drop n).take q.length=q):=by
     show _=_
     have h1:=hst;unfold cJ at h1;rw[lU _ _ (kS hst)] at h1;simpa using h1
    have HTK:=aB (fun q'=>nT sb src n L q.length (wr.drewN q') HSR.out hs hpl)
    rw[HTXT.out] at HTK;have HZQ:Hid (∀q',ZTok (wr.drewN q') w.heap.size):=fun _=>HZR.out
    have HZW:Hid (∀q',w.heap.size<(wr.drewN q').heap.size):=fun _=>aD HZR.out
    clear HN HQ hst;go_wp2_with fail;go_quiet ((go_at_call 247;exact Calls.quiet_of_same (HPX.out _)))
    go_wp2_with fail;go_region_law (go_simp;go_at_call 296;refine(HTK.out _).mono ?_;rintro e w2 ⟨rfl,hs2,hf2⟩;have HS2:=aB hs2;have HF2:=aB ((HFR.out.drewN _).trans hf2);have HZ2:=aB (hf2.keepS (HZQ.out _) hrb);have c2':=(SC.cells HS2.out).2.2.2.1;have z0:=aA HZ2.out (i:=0) rfl;have z1:=aA HZ2.out (i:=1) rfl;have z2:=aA HZ2.out (i:=2) rfl;have z3:=aA HZ2.out (i:=3) rfl;have y0:=aE (i:=0) HZ2.out;have y1:=aE (i:=1) HZ2.out;have y2:=aE (i:=2) HZ2.out;have y3:=aE (i:=3) HZ2.out;have hz2:=aD HZ2.out;clear hs2 hf2)
    all_goals
     go_wp2_with fail;rw[HF.out];refine bodyPost_ret (v:=.agg #[.int .i64 0,.string (bs q),.int .i64 0,.int .i64 L]) (by simp[results,Tryz.results255,go_sem,z0,z1,z2,z3]) rfl ?_
     have hfin:=lW HF2.out HS2.out (l9 _) hrb (.int .i64 0) (.string (bs q)) (.int .i64 0) (.int .i64 L);exact⟨hfin.1,Or.inl ⟨rfl,rfl,hfin.2⟩⟩
  ·obtain rfl:k=21:=by omega
   have HF:Hid (r={ sort:=0,text:=[],size:=0,ok:=false }):=by rw[<-hr.out];exact OE HN.out
   have HFL:=aB (rI sb src n L wr HSR.out);clear HN;go_wp2_with fail;refine HFL.out.mono ?_;rintro e w3 ⟨rfl,hw⟩;obtain rfl:=hw.symm;go_wp2_with fail;rw[HF.out];exact⟨rfl,HFR.out,Or.inr ⟨rfl,rfl⟩⟩
end Go.Proofs.YtblbkfdhjfppkaaGreatDoor
