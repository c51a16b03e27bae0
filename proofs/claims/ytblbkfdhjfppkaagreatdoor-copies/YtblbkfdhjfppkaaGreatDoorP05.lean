/- Contracts of the program: the parser's small steps. -/
import Derived.Test.YtblbkfdhjfppkaaGreatDoorP02
set_option maxRecDepth 100000
set_option maxHeartbeats 4000000
namespace Go.Proofs.YtblbkfdhjfppkaaGreatDoor
open Hs
open Tryz(prog)
open Go.RowKit
def psort(s:Nat):Nat:=if s=110 then 1 else if s=48 then 2 else if s=115 then 3 else if s=101 then 4 else 0
def pval(t:aP):Nat:=if t.sort=48 then (cA 0 t.text).getD 0 else 0
def ptok(t:aP):List Value:=[.int .i64 (psort t.sort),.string (bs t.text),.int .i64 (pval t),.int .i64 t.line]
def ptoks:List aP->List Value
 |[]=>[]
 |t::ts=>ptok t++ptoks ts
theorem KH(ts:List aP):(ptoks ts).length=ts.length*4:=by
 induction ts with
 |nil=>rfl
 |cons t ts ih=>simp[ptoks,ptok,ih];omega
theorem CD(ts:List aP)(t:aP):ptoks (ts++[t])=ptoks ts++ptok t:=by
 induction ts with
 |nil=>simp[ptoks]
 |cons x ts ih=>simp[ptoks,ih]
structure PAt(C:Ctx)(w:World)(p:Nat):Prop where
 blk:w.heap[C.pb]?=some (.cells #[.slice (some ⟨C.g,0,none⟩) C.ts.length C.cap,.int .i64 p] 144 (0,0))
 row:∃cur,w.heap[C.g]?=some (.cells cur 206 (0,0))/\cur.toList.take (C.ts.length*4)=ptoks C.ts
 ne:C.g≠C.pb
 lt:p<C.ts.length
 len:C.ts.length<=3000
 cap:C.ts.length<=C.cap
 all:qZ C.ts
 tsk:EA C.ts
theorem XO(ts:List aP)(p:Nat)(h:p<ts.length):(ptoks ts)[p*4]?=some (.int .i64 (psort (aO ts p).sort))/\(ptoks ts)[p*4+1]?=some (.string (bs (aO ts p).text))/\(ptoks ts)[p*4+1+1]?=some (.int .i64 (pval (aO ts p)))/\(ptoks ts)[p*4+1+1+1]?=some (.int .i64 (aO ts p).line):=by
 induction ts generalizing p with
 |nil=>simp at h
 |cons t ts ih=>
  cases p with
  |zero=>simp[ptoks,ptok,aO]
  |succ p=>
   have:=ih p (by simpa using h)
   have e:∀j,(ptoks (t::ts))[(p+1)*4+j]?=(ptoks ts)[p*4+j]?:=fun j=>by
    rw[ptoks,y8 (by simp[ptok];omega)]
    congr 1;simp[ptok];omega
   have et:aO (t::ts) (p+1)=aO ts p:=by simp[aO]
   rw[et];exact⟨(e 0).trans this.1,(e 1).trans this.2.1,(e 2).trans this.2.2.1,(e 3).trans this.2.2.2⟩
theorem PAt.tok{C:Ctx}{w:World}{p:Nat}(h:PAt C w p):w.cell? ⟨C.g,p*4,none⟩=some (.int .i64 (psort (aO C.ts p).sort))/\w.cell? ⟨C.g,p*4+1,none⟩=some (.string (bs (aO C.ts p).text))/\w.cell? ⟨C.g,p*4+1+1,none⟩=some (.int .i64 (pval (aO C.ts p)))/\w.cell? ⟨C.g,p*4+1+1+1,none⟩=some (.int .i64 (aO C.ts p).line):=by
 obtain⟨cur,h1,h2⟩:=h.row;obtain⟨t0,t1,t2,t3⟩:=XO C.ts p h.lt;have hl:=KH C.ts
 have e:∀j v,(ptoks C.ts)[j]?=some v->w.cell? ⟨C.g,j,none⟩=some v:=fun j v hj=>by
  have hjl:j<C.ts.length*4:=by
   by_cases hx:j<C.ts.length*4
   ·exact hx
   ·rw[aa_ (by omega)] at hj;cases hj
  refine aA h1 ?_;rw[<-h2,x6,if_pos hjl] at hj;simpa using hj
 exact⟨e _ _ t0,e _ _ t1,e _ _ t2,e _ _ t3⟩
theorem PAt.keep{C:Ctx}{w w':World}{p:Nat}(h:PAt C w p)(h1:w'.heap[C.pb]?=w.heap[C.pb]?)(h2:w'.heap[C.g]?=w.heap[C.g]?):PAt C w' p:=by
 obtain⟨cur,r1,r2⟩:=h.row;exact⟨by rw[h1];exact h.blk,⟨cur,by rw[h2];exact r1,r2⟩,h.ne,h.lt,h.len,h.cap,h.all,h.tsk⟩
theorem PAt.below{C:Ctx}{w w':World}{p:Nat}(h:PAt C w p)(hb:Below w.heap.size w w'):PAt C w' p:=by
 obtain⟨cur,r1,r2⟩:=h.row;exact h.keep (hb.block _ (aD h.blk)) (hb.block _ (aD r1))
theorem PAt.other{C:Ctx}{w:World}{p b i:Nat}{u:Value}(h:PAt C w p)(h1:b≠C.pb)(h2:b≠C.g):PAt C (w.setCell ⟨b,i,none⟩ u) p:=
 h.keep (m7 _ _ _ _ (fun e=>h1 e.symm)) (m7 _ _ _ _ (fun e=>h2 e.symm))
theorem PAt.g_lt{C:Ctx}{w:World}{p:Nat}(h:PAt C w p):C.g<w.heap.size:=by obtain⟨_,h1,_⟩:=h.row;exact aD h1
theorem PAt.pb_lt{C:Ctx}{w:World}{p:Nat}(h:PAt C w p):C.pb<w.heap.size:=aD h.blk
theorem PAt.alloc{C:Ctx}{w:World}{p:Nat}(h:PAt C w p)(o:Obj):PAt C (w.alloc o) p:=h.below ((m8 _ _).alloc (l9 _) _)
theorem PAt.drew{C:Ctx}{w:World}{p:Nat}(h:PAt C w p):PAt C w.drew p:=h.below (m8 _ _).drew
def nX(t:aP):Value:=.agg #[.int .i64 (psort t.sort),.string (bs t.text),.int .i64 (pval t),.int .i64 t.line]
theorem TF(pb g cap p n:Nat)(w:World)(a c d:Int)(b:ByteArray)(hp:p<n)(_hn:n<=3000)(_hnc:n<=cap)(hpb:pb<w.heap.size)(hgb:g<w.heap.size)
 (c0:w.cell? ⟨pb,0,none⟩=some (.slice (some ⟨g,0,none⟩) n cap)) (c1:w.cell? ⟨pb,1,none⟩=some (.int .i64 p))
 (t0:w.cell? ⟨g,p*4,none⟩=some (.int .i64 a)) (t1:w.cell? ⟨g,p*4+1,none⟩=some (.string b)) (t2:w.cell? ⟨g,p*4+1+1,none⟩=some (.int .i64 c)) (t3:w.cell? ⟨g,p*4+1+1+1,none⟩=some (.int .i64 d)):
  Calls prog 133 #[.pointer (some ⟨pb,0,none⟩)] w fun e w'=>e=.returned (.agg #[.int .i64 a,.string b,.int .i64 c,.int .i64 d])/\Below w.heap.size w w':=by
 have d0:∀o,(w.alloc o).cell? ⟨pb,0,none⟩=some (.slice (some ⟨g,0,none⟩) n cap):=fun o=>by rw[World.cell?_alloc_past _ _ _ hpb];exact c0
 have d1:∀o,(w.alloc o).cell? ⟨pb,1,none⟩=some (.int .i64 p):=fun o=>by rw[World.cell?_alloc_past _ _ _ hpb];exact c1
 have e0:∀o,(w.alloc o).cell? ⟨g,p*4,none⟩=some (.int .i64 a):=fun o=>by rw[World.cell?_alloc_past _ _ _ hgb];exact t0
 have e1:∀o,(w.alloc o).cell? ⟨g,p*4+1,none⟩=some (.string b):=fun o=>by rw[World.cell?_alloc_past _ _ _ hgb];exact t1
 have e2:∀o,(w.alloc o).cell? ⟨g,p*4+1+1,none⟩=some (.int .i64 c):=fun o=>by rw[World.cell?_alloc_past _ _ _ hgb];exact t2
 have e3:∀o,(w.alloc o).cell? ⟨g,p*4+1+1+1,none⟩=some (.int .i64 d):=fun o=>by rw[World.cell?_alloc_past _ _ _ hgb];exact t3
 clear c0 c1 t0 t1 t2 t3;go_enter Tryz.func133,Tryz.ntmps133;go_wp2_with fail;go_region
 go_wp2_with fail;refine bodyPost_ret (v:=.agg #[.int .i64 a,.string b,.int .i64 c,.int .i64 d]) (by simp[results,Tryz.results133,go_sem]) rfl ⟨rfl,?_⟩
 exact((m8 _ _).alloc (l9 _) _).drew
theorem mE(C:Ctx)(w:World)(p:Nat)(h:PAt C w p):
 Calls prog 133 #[.pointer (some ⟨C.pb,0,none⟩)] w fun e w'=>e=.returned (nX (aO C.ts p))/\Below w.heap.size w w':=
 TF C.pb C.g C.cap p C.ts.length w _ _ _ _ h.lt h.len h.cap (aD h.blk) (by obtain⟨_,h1,_⟩:=h.row;exact aD h1) (aA h.blk rfl) (aA h.blk rfl) h.tok.1 h.tok.2.1 h.tok.2.2.1 h.tok.2.2.2
abbrev dC(k n:Nat):Ending:=.panicked [{ v:=.iface 141 (.agg #[.int .i64 k,.int .i64 n]),recovered:=false }]
theorem gK(k n:Nat)(w:World):
 Calls prog 136 #[.int .i64 k,.int .i64 n] w fun e w'=>e=dC k n/\w'=w:=by
 go_enter Tryz.func136,Tryz.ntmps136;go_wp2_with fail;exact⟨rfl,rfl,rfl⟩
theorem GX(a c d:Int)(b:ByteArray)(w:World):(Instr.field 206 (.agg #[.int .i64 a,.string b,.int .i64 c,.int .i64 d]) 3).run prog w=.ok (.int .i64 d) w:=by kernel_rfl
theorem mG(C:Ctx)(w:World)(p:Nat)(h:PAt C w p):
 Calls prog 283 #[.pointer (some ⟨C.pb,0,none⟩)] w fun e w'=>e=.returned (.agg #[.int .i64 (aO C.ts p).line])/\Below w.heap.size w w':=by
 have HN:=aB (fun o=>mE C (w.alloc o) p (h.below ((m8 _ _).alloc (l9 _) _)))
 simp only[nX] at HN;clear h;go_enter Tryz.func283,Tryz.ntmps283;go_wp2_with fail;refine(HN.out _).mono ?_;rintro e w1 ⟨rfl,hb⟩;obtain⟨hc,hf⟩:=bcell hb;have hz:w.heap.size<w1.heap.size:=by have:=hb.size;simp at this;omega
 have HB:=aB hb;have hfl:=GX;clear hb HN;go_wp2_with fail;refine bodyPost_ret (v:=.agg #[.int .i64 (aO C.ts p).line]) (by simp[results,Tryz.results283,go_sem,hc]) rfl ⟨rfl,?_⟩
 exact(((m8 _ _).alloc (l9 _) _).trans (HB.out.mono (by simp))).setCell (by simp) _
theorem PAt.move{C:Ctx}{w w1:World}{p:Nat}(h:PAt C w p)(hb:Below w.heap.size w w1)(q:Nat)(hq:q<C.ts.length):
 PAt C (w1.setCell ⟨C.pb,1,none⟩ (.int .i64 q)) q/\Fr C.pb w (w1.setCell ⟨C.pb,1,none⟩ (.int .i64 q)):=by
 have h1:=h.below hb;obtain⟨cur,r1,r2⟩:=h1.row;refine⟨⟨?_,⟨cur,?_,r2⟩,h.ne,hq,h.len,h.cap,h.all,h.tsk⟩,Fr.setCell (p:=⟨C.pb,1,none⟩) (Fr.below hb) (Or.inl rfl) _⟩
 ·rw[aS h1.blk];rfl
 ·rw[m7 _ _ _ _ h.ne];exact r1
theorem PAt.cells{C:Ctx}{w w1:World}{p:Nat}(h:PAt C w p)(hb:Below w.heap.size w w1):
 C.pb<w1.heap.size/\w1.cell? ⟨C.pb,1,none⟩=some (.int .i64 p)/\w1.frozen? ⟨C.pb,1,none⟩=false:=by
 have h1:=h.below hb;exact⟨aD h1.blk,aA h1.blk rfl,aE h1.blk⟩
theorem e8{C:Ctx}{w:World}{p:Nat}(h:PAt C w p)(x:List UInt8):aX C.ts p x=(decide (psort (aO C.ts p).sort=0) && (aO C.ts p).text==x):=by
 unfold aX psort;have:=h.tsk.tk p h.lt;generalize aO C.ts p=t at*;rcases this with h|⟨h,_⟩|h|⟨h,_⟩|h|h<;>simp[h]
theorem dG(C:Ctx)(w:World)(p:Nat)(x:ByteArray)(h:PAt C w p):
 Calls prog 256 #[.pointer (some ⟨C.pb,0,none⟩),.string x] w fun e w'=>e=.returned (.bool (aX C.ts p x.data.toList))/\PAt C w' (if aX C.ts p x.data.toList then p+1 else p)/\Fr C.pb w w':=by
 have HI:=aB (e8 h x.data.toList);have HN:=aB (mE C w p h);simp only[nX] at HN;have HT:Hid (aX C.ts p x.data.toList=true->p+1<C.ts.length):=fun e=>h.all.ok.isT h.lt e
 have HE:Hid (((bs (aO C.ts p).text).toList==x.toList)=((aO C.ts p).text==x.data.toList)):=by show _=_;rw[cB,Lib.toList_data]
 have hp3:p<=3000:=by have:=h.lt;have:=h.len;omega
 have H:=aB h;clear h;generalize aX C.ts p x.data.toList=it at*;generalize aO C.ts p=t at*;obtain⟨so,te,li⟩:=t;simp only at HI HN HE;generalize pval ⟨so,te,li⟩=pv at*;go_enter Tryz.func256,Tryz.ntmps256;go_wp2_with fail;refine HN.out.mono ?_;rintro e w1 ⟨rfl,hb⟩;obtain⟨hl,q1,fz⟩:=H.out.cells hb;have HB:=aB hb;clear hb HN;by_cases h0:psort so=0
 ·have e0:((psort so:Int) != 0)=false:=by simp;omega
  cases ht:(te==x.data.toList)
  ·have e1:((bs te).toList==x.toList)=false:=by rw[HE.out,ht]
   have hit:it=false:=by have:=HI.out;rw[ht] at this;simpa using this
   subst hit;go_wp2_with fail;go_ret;exact⟨iZ rfl,H.out.below (HB.out.alloc HB.out.size _),Fr.below (HB.out.alloc HB.out.size _)⟩
  ·have e1:((bs te).toList==x.toList)=true:=by rw[HE.out,ht]
   have hit:it=true:=by have:=HI.out;rw[ht,h0] at this;simpa using this
   subst hit;go_wp2_with fail;go_ret;have hm:=H.out.move HB.out (p+1) (HT.out trivial);exact⟨iZ rfl,hm.1.below ((m8 _ _).alloc (l9 _) _),hm.2.alloc _⟩
 ·have e0:((psort so:Int) != 0)=true:=by simp;omega
  have hit:it=false:=by have:=HI.out;simp[h0] at this;exact this
  subst hit;go_wp2_with fail;go_ret;exact⟨iZ rfl,H.out.below (HB.out.alloc HB.out.size _),Fr.below (HB.out.alloc HB.out.size _)⟩
theorem fU(C:Ctx)(w:World)(p:Nat)(x:ByteArray)(h:PAt C w p):
 Calls prog 184 #[.pointer (some ⟨C.pb,0,none⟩),.string x] w fun e w'=>Fr C.pb w w'/\if aX C.ts p x.data.toList then e=.returned (.tuple #[])/\PAt C w' (p+1) else e=dC 4 (aO C.ts p).line:=by
 have HC:=aB (dG C w p x h);have H:=aB h;clear h;cases hit:aX C.ts p x.data.toList
 ·rw[hit] at HC;go_enter Tryz.func184,Tryz.ntmps184;go_wp2_with fail;refine HC.out.mono ?_;rintro e w1 ⟨rfl,hp1,hf1⟩;have HN:=aB (mE C w1 p hp1);simp only[nX] at HN;have HF1:=aB hf1;have hfl:=GX;clear hf1 hp1;go_wp2_with fail;refine HN.out.mono ?_;rintro e w2 ⟨rfl,hb2⟩;have HB:=aB hb2;clear hb2;go_wp2_with (go_at_call 136;refine(gK 4 (aO C.ts p).line _).mono ?_;rintro e w3 ⟨rfl,hw⟩;obtain rfl:=hw.symm)
  exact⟨rfl,HF1.out.trans (Fr.below HB.out),rfl⟩
 ·rw[hit] at HC;go_enter Tryz.func184,Tryz.ntmps184;go_wp2_with fail;refine HC.out.mono ?_;rintro e w1 ⟨rfl,hp1,hf1⟩;have HF1:=aB hf1;have HP1:=aB hp1;clear hf1 hp1;go_wp2_with fail;go_end0;exact⟨HF1.out,rfl,HP1.out⟩
theorem XR(t:aP):psort t.sort=1↔t.sort=110:=by
 unfold psort;split<;>(try split)<;>(try split)<;>(try split)<;>simp_all
theorem mF(C:Ctx)(w:World)(p:Nat)(h:PAt C w p):
 Calls prog 185 #[.pointer (some ⟨C.pb,0,none⟩)] w fun e w'=>Fr C.pb w w'/\if (aO C.ts p).sort==110 then e=.returned (.agg #[.int .i64 (aO C.ts p).line,.string (bs (aO C.ts p).text)])/\PAt C w' (p+1) else e=dC 4 (aO C.ts p).line:=by
 have HN:=aB (fun o=>mE C (w.alloc o) p (h.below ((m8 _ _).alloc (l9 _) _)))
 simp only[nX] at HN;have HT:Hid ((aO C.ts p).sort=110->p+1<C.ts.length):=fun e=>h.all.ok.next p h.lt (by rw[e];decide)
 have HS:=aB (XR (aO C.ts p));have hp3:p<=3000:=by have:=h.lt;have:=h.len;omega
 have H:=aB h;have hl0:C.pb<w.heap.size:=aD h.blk;have hgz:w.heap.size≠C.g:=by have:=h.g_lt;omega
 clear h;generalize aO C.ts p=t at*;obtain⟨so,te,li⟩:=t;simp only at HN HT HS;simp only;generalize pval ⟨so,te,li⟩=pv at*;generalize psort so=ps at*;by_cases h0:so=110
 ·obtain rfl:ps=1:=HS.out.2 h0;have hnx:=HT.out h0;rw[show (so==110)=true by simpa using h0]
  clear h0 HS HT;go_enter Tryz.func185,Tryz.ntmps185;go_wp2_with fail;refine(HN.out _).mono ?_;rintro e w1 ⟨rfl,hb⟩;have hb':=((m8 _ _).alloc (l9 _) _).trans (hb.mono (by simp))
  obtain⟨hl,q1,fz⟩:=H.out.cells hb';obtain⟨hc,hf⟩:=bcell hb;have hz:w.heap.size<w1.heap.size:=by have:=hb.size;simp at this;omega
  have HB:=aB hb';clear hb hb' HN;have hne:¬C.pb=w.heap.size:=by omega
  have hne2:¬w.heap.size=C.pb:=by omega
  go_wp2_with fail;have hm:=H.out.move HB.out (p+1) hnx;refine bodyPost_ret (v:=.agg #[.int .i64 li,.string (bs te)]) (by simp[results,Tryz.results185,go_sem,World.cell?_alloc_past,hz,hc]) rfl ?_
  refine⟨((hm.2.setCell (p:=⟨w.heap.size,0,none⟩) (Or.inr (l9 _)) _).setCell (p:=⟨w.heap.size,1,none⟩) (Or.inr (l9 _)) _).alloc _,rfl,?_⟩;exact((hm.1.other (by omega) hgz).other (by omega) hgz).below ((m8 _ _).alloc (l9 _) _)
 ·have e0:((ps:Int) != 1)=true:=by simp;intro e;exact h0 (HS.out.1 (by omega))
  rw[show (so==110)=false by simpa using h0]
  clear h0 HS HT;go_enter Tryz.func185,Tryz.ntmps185;go_wp2_with fail;refine(HN.out _).mono ?_;rintro e w1 ⟨rfl,hb⟩;have hb':=((m8 _ _).alloc (l9 _) _).trans (hb.mono (by simp))
  obtain⟨hl,q1,fz⟩:=H.out.cells hb';obtain⟨hc,hf⟩:=bcell hb;have hz:w.heap.size<w1.heap.size:=by have:=hb.size;simp at this;omega
  have HB:=aB hb';clear hb hb' HN;have hne:¬C.pb=w.heap.size:=by omega
  have hne2:¬w.heap.size=C.pb:=by omega
  go_wp2_with (go_at_call 136;refine(gK 4 li _).mono ?_;rintro e w3 ⟨rfl,hw⟩;obtain rfl:=hw.symm)
  exact⟨rfl,Fr.below (HB.out.alloc HB.out.size _),rfl⟩
def vE(R:Value->aC->Prop)(F:Nat->Prop)(w:World)(kv:Value)(ks:List aC):Prop:=
 (kv=.slice none 0 0/\ks=[])\/
 ∃g cap cur vs,kv=.slice (some ⟨g,0,none⟩) ks.length cap/\F g/\w.heap[g]?=some (.cells cur 122 (0,0))/\ks.length<=cap/\cur.toList.take ks.length=vs/\jW R vs ks
structure Prt where
 v:Value
 ks:List aC
 one:Bool
def sU(R:Value->aC->Prop)(F:Nat->Prop)(w:World)(p:Prt):Prop:=
 (p.one=true/\∃a,p.ks=[a]/\R p.v a)\/(p.one=false/\vE R F w p.v p.ks)
def Shape(T:TypeId)(cs:Array Value)(a:aC)(ps:List Prt):Prop:=
 (T=397/\∃k,cs= #[.int .i64 a.line,.int .i64 (k:Nat)]/\a.op=[48]/\cA 0 a.text=some k/\a.kids=[]/\ps=[])\/
 (T=398/\cs= #[.int .i64 a.line,.string (bs a.text)]/\a.op=[115]/\a.kids=[]/\ps=[])\/
 (T=400/\cs= #[.int .i64 a.line,.bool (a.text==[116,114,117,101])]/\a.op=[98,111,111,108]/\a.kids=[]/\ps=[])\/
 (T=346/\∃sv,cs= #[.int .i64 a.line,sv]/\a.op=[108,105,115,116]/\ps=[⟨sv,a.kids,false⟩])\/
 (T=341/\∃sv,cs= #[.int .i64 a.line,.string (bs a.text),sv]/\a.op=[99,97,108,108]/\ps=[⟨sv,a.kids,false⟩])\/
 (T=344/\cs= #[.int .i64 a.line,.string (bs a.text)]/\a.op=[110,97,109,101]/\a.kids=[]/\ps=[])\/
 (T=348/\∃l v1 v2 a1 a2,cs= #[.int .i64 (l:Nat),v1,v2]/\a.op=[105,110,100,101,120]/\a.kids=[a1,a2]/\ps=[⟨v1,[a1],true⟩,⟨v2,[a2],true⟩])\/
 (T=350/\∃o v1 a1,cs= #[.int .i64 a.line,.string (bs [o]),v1]/\(o=45\/o=33)/\a.op=[o,120]/\a.kids=[a1]/\ps=[⟨v1,[a1],true⟩])\/
 (T=352/\∃l v1 v2 a1 a2,cs= #[.int .i64 (l:Nat),.string (bs a.op),v1,v2]/\bV a.op≠9/\a.kids=[a1,a2]/\ps=[⟨v1,[a1],true⟩,⟨v2,[a2],true⟩])\/
 (T=329/\∃v1 t a1,cs= #[.int .i64 a.line,.int .i64 t.line,.string (bs t.text),v1]/\a.op=[118,97,114]/\a.kids=[t,a1]/\ps=[⟨v1,[a1],true⟩])\/
 (T=332/\∃sv v1 l a1,cs= #[.int .i64 a.line,.string (bs a.text),sv,v1]/\a.op=[115,101,116]/\a.kids=l++[a1]/\ps=[⟨sv,l,false⟩,⟨v1,[a1],true⟩])\/
 (T=334/\∃v1 s1 a1 b1,cs= #[.int .i64 a.line,v1,s1,.slice none 0 0]/\a.op=[105,102]/\b1.op=[98,108,111,99,107]/\a.kids=[a1,b1]/\ps=[⟨v1,[a1],true⟩,⟨s1,b1.kids,false⟩])\/
 (T=334/\∃v1 s1 s2 a1 b1 b2,cs= #[.int .i64 a.line,v1,s1,s2]/\a.op=[105,102]/\b1.op=[98,108,111,99,107]/\b2.op=[98,108,111,99,107]/\a.kids=[a1,b1,b2]/\ps=[⟨v1,[a1],true⟩,⟨s1,b1.kids,false⟩,⟨s2,b2.kids,false⟩])\/
 (T=336/\∃v1 s1 a1 b1,cs= #[.int .i64 a.line,v1,s1]/\a.op=[119,104,105,108,101]/\b1.op=[98,108,111,99,107]/\a.kids=[a1,b1]/\ps=[⟨v1,[a1],true⟩,⟨s1,b1.kids,false⟩])\/
 (T=338/\∃l,cs= #[.int .i64 a.line,.iface 397 (.agg #[.int .i64 (l:Nat),.int .i64 0])]/\a.op=[114,101,116,117,114,110]/\a.kids=[]/\ps=[])\/
 (T=338/\∃v1 a1,cs= #[.int .i64 a.line,v1]/\a.op=[114,101,116,117,114,110]/\a.kids=[a1]/\ps=[⟨v1,[a1],true⟩])\/
 (T=339/\∃v1 a1,cs= #[.int .i64 a.line,v1]/\a.op=[112,114,105,110,116]/\a.kids=[a1]/\ps=[⟨v1,[a1],true⟩])\/
 (T=341/\∃sv c,cs= #[.int .i64 c.line,.string (bs c.text),sv]/\a.op=[100,111]/\a.line=c.line/\a.text=c.text/\a.kids=[c]/\c.op=[99,97,108,108]/\ps=[⟨sv,c.kids,false⟩])
def PND:Nat->(Nat->Prop)->World->Value->aC->Prop
 |0,_,_,_,_=>False
 |d+1,F,w,v,a=>∃T cs ps,v=.iface T (.agg cs)/\Shape T cs a ps/\∀p∈ps,sU (PND d F w) F w p
def PN(F:Nat->Prop)(w:World)(v:Value)(a:aC):Prop:=∃d,PND d F w v a
theorem vE.mono{R S:Value->aC->Prop}{F G:Nat->Prop}{w:World}{kv:Value}{ks:List aC}(h:vE R F w kv ks)(hR:∀v a,R v a->S v a)(hF:∀b,F b->G b):vE S G w kv ks:=by
 rcases h with h|⟨g,cap,cur,vs,h1,h2,h3,h4,h5,h6⟩
 ·exact Or.inl h
 ·exact Or.inr ⟨g,cap,cur,vs,h1,hF _ h2,h3,h4,h5,h6.mono hR⟩
theorem vE.keep{R:Value->aC->Prop}{F:Nat->Prop}{w w':World}{kv:Value}{ks:List aC}(h:vE R F w kv ks)(hk:∀b,F b->w'.heap[b]?=w.heap[b]?):vE R F w' kv ks:=by
 rcases h with h|⟨g,cap,cur,vs,h1,h2,h3,h4,h5,h6⟩
 ·exact Or.inl h
 ·exact Or.inr ⟨g,cap,cur,vs,h1,h2,by rw[hk g h2];exact h3,h4,h5,h6⟩
theorem sU.mono{R S:Value->aC->Prop}{F G:Nat->Prop}{w:World}{p:Prt}(h:sU R F w p)(hR:∀v a,R v a->S v a)(hF:∀b,F b->G b):sU S G w p:=by
 rcases h with ⟨h1,a,h2,h3⟩|⟨h1,h2⟩
 ·exact Or.inl ⟨h1,a,h2,hR _ _ h3⟩
 ·exact Or.inr ⟨h1,h2.mono hR hF⟩
theorem sU.keep{R:Value->aC->Prop}{F:Nat->Prop}{w w':World}{p:Prt}(h:sU R F w p)(hk:∀b,F b->w'.heap[b]?=w.heap[b]?):sU R F w' p:=by
 rcases h with h|⟨h1,h2⟩
 ·exact Or.inl h
 ·exact Or.inr ⟨h1,h2.keep hk⟩
theorem PND.mono{F G:Nat->Prop}{w:World}(hF:∀b,F b->G b):∀{d e:Nat} {v a},PND d F w v a->d<=e->PND e G w v a
 |_+1,_+1,_,_,⟨T,cs,ps,h1,h2,h3⟩,hde=>⟨T,cs,ps,h1,h2,fun p hp=>(h3 p hp).mono (fun _ _ h=>PND.mono hF h (by omega)) hF⟩
 |0,_,_,_,h,_=>h.elim
theorem PND.keep{F:Nat->Prop}{w w':World}(hk:∀b,F b->w'.heap[b]?=w.heap[b]?):∀{d:Nat} {v a},PND d F w v a->PND d F w' v a
 |_+1,_,_,⟨T,cs,ps,h1,h2,h3⟩=>⟨T,cs,ps,h1,h2,fun p hp=>((h3 p hp).mono (fun _ _ h=>PND.keep hk h) (fun _ h=>h)).keep hk⟩
theorem PN.mono{F G:Nat->Prop}{w:World}{v:Value}{a:aC}(h:PN F w v a)(hF:∀b,F b->G b):PN G w v a:=by
 obtain⟨d,h⟩:=h;exact⟨d,h.mono hF (l9 _)⟩
theorem PN.keep{F:Nat->Prop}{w w':World}{v:Value}{a:aC}(h:PN F w v a)(hk:∀b,F b->w'.heap[b]?=w.heap[b]?):PN F w' v a:=by
 obtain⟨d,h⟩:=h;exact⟨d,h.keep hk⟩
theorem PN.form{F:Nat->Prop}{w:World}{v:Value}{a:aC}(h:PN F w v a):∃T cs,v=.iface T (.agg cs):=by
 obtain⟨d,h⟩:=h;cases d with
 |zero=>exact h.elim
 |succ d=>obtain⟨T,cs,_,h1,_⟩:=h;exact⟨T,cs,h1⟩
theorem jW.pdepth{F:Nat->Prop}{w:World}:∀{vs ks},jW (PN F w) vs ks->∃d,jW (PND d F w) vs ks
 |[],[],_=>⟨0,trivial⟩
 |_::_,_::_,⟨⟨d,h1⟩,h2⟩=>by
  obtain⟨e,h3⟩:=jW.pdepth h2;exact⟨max d e,h1.mono (fun _ h=>h) (Nat.le_max_left _ _),h3.mono fun _ _ h=>h.mono (fun _ h=>h) (Nat.le_max_right _ _)⟩
 |[],_::_,h=>h.elim
 |_::_,[],h=>h.elim
def Prt.ok(F:Nat->Prop)(w:World)(p:Prt):Prop:=sU (PN F w) F w p
theorem Prt.ok.depth{F:Nat->Prop}{w:World}{p:Prt}(h:p.ok F w):∃d,sU (PND d F w) F w p:=by
 rcases h with ⟨h1,a,h2,d,h3⟩|⟨h1,h|⟨g,cap,cur,vs,h1',h2,h3,h4,h5,h6⟩⟩
 ·exact⟨d,Or.inl ⟨h1,a,h2,h3⟩⟩
 ·exact⟨0,Or.inr ⟨h1,Or.inl h⟩⟩
 ·obtain⟨d,h7⟩:=h6.pdepth;exact⟨d,Or.inr ⟨h1,Or.inr ⟨g,cap,cur,vs,h1',h2,h3,h4,h5,h7⟩⟩⟩
theorem Prt.ok.all{F:Nat->Prop}{w:World}:∀{ps:List Prt},(∀p∈ps,p.ok F w)->∃d,∀p∈ps,sU (PND d F w) F w p
 |[],_=>⟨0,fun p hp=>by cases hp⟩
 |p::ps,h=>by
  obtain⟨d,h1⟩:=(h p (x9 ..)).depth;obtain⟨e,h2⟩:=Prt.ok.all (ps:=ps) fun q hq=>h q (r9 _ hq)
  refine⟨max d e,fun q hq=>?_⟩
  rcases p8.1 hq with rfl|hq
  ·exact h1.mono (fun _ _ h=>h.mono (fun _ h=>h) (Nat.le_max_left _ _)) (fun _ h=>h)
  ·exact(h2 q hq).mono (fun _ _ h=>h.mono (fun _ h=>h) (Nat.le_max_right _ _)) (fun _ h=>h)
theorem PN.mk{F:Nat->Prop}{w:World}{T:TypeId}{cs:Array Value}{a:aC}{ps:List Prt}(h:Shape T cs a ps)(hp:∀p∈ps,p.ok F w):PN F w (.iface T (.agg cs)) a:=by
 obtain⟨d,hd⟩:=Prt.ok.all hp;exact⟨d+1,T,cs,ps,rfl,h,hd⟩
theorem Prt.ok.node{F:Nat->Prop}{w:World}{v:Value}{a:aC}(h:PN F w v a):Prt.ok F w ⟨v,[a],true⟩:=Or.inl ⟨rfl,a,rfl,h⟩
def PKid(F:Nat->Prop)(w:World)(kv:Value)(ks:List aC):Prop:=vE (PN F w) F w kv ks
theorem Prt.ok.list{F:Nat->Prop}{w:World}{v:Value}{l:List aC}(h:PKid F w v l):Prt.ok F w ⟨v,l,false⟩:=Or.inr ⟨rfl,h⟩
theorem PKid.keep{F G:Nat->Prop}{w w':World}{kv:Value}{ks:List aC}(h:PKid F w kv ks)(hk:∀b,F b->w'.heap[b]?=w.heap[b]?)(hF:∀b,F b->G b):PKid G w' kv ks:=
 (vE.mono h (fun _ _ h=>(h.keep hk).mono hF) (fun _ h=>h)).keep hk |>.mono (fun _ _ h=>h) hF
theorem PN.grow{lo hi lo' hi':Nat}{w w':World}{v:Value}{a:aC}(h:PN (Btw lo hi) w v a)(hk:∀k,lo<=k->k<hi->w'.heap[k]?=w.heap[k]?)(h1:lo'<=lo)(h2:hi<=hi'):PN (Btw lo' hi') w' v a:=
 (h.keep fun b hb=>hk b hb.1 hb.2).mono fun _ hb=>⟨p7 h1 hb.1,m9 hb.2 h2⟩
theorem PKid.grow{lo hi lo' hi':Nat}{w w':World}{v:Value}{l:List aC}(h:PKid (Btw lo hi) w v l)(hk:∀k,lo<=k->k<hi->w'.heap[k]?=w.heap[k]?)(h1:lo'<=lo)(h2:hi<=hi'):PKid (Btw lo' hi') w' v l:=
 h.keep (fun b hb=>hk b hb.1 hb.2) fun _ hb=>⟨p7 h1 hb.1,m9 hb.2 h2⟩
theorem CV:(prog.info? 122).map (fun i=>(i.zero,i.size,i.bytes))=some (some .nilIface,1,16):=by kernel_rfl
def PLst(base:Nat)(w:World)(v:Value)(acc:List aC):Prop:=
 ∃vs F,w.ownsRow base 122 1 v acc.length vs/\jW (PN F w) vs acc/\∀b,F b->base<=b/\b<w.heap.size/\v.ownBlock≠some b
theorem PLst.nil(base:Nat)(w:World):PLst base w (.slice none 0 0) []:=⟨[],fun _=>False,World.ownsRow_nil _ _ _ _,trivial,fun _ h=>h.elim⟩
theorem PLst.slice{base:Nat}{w:World}{v:Value}{acc:List aC}(h:PLst base w v acc):∃x c,v=.slice x acc.length c:=by
 obtain⟨vs,F,h1,_⟩:=h;rcases h1.2 with ⟨r1,r2⟩|⟨g,cap,cur,r1,_⟩
 ·exact⟨none,0,by rw[r1,r2]⟩
 ·exact⟨_,cap,r1⟩
theorem PLst.keep{base pb:Nat}{w w1:World}{v:Value}{acc:List aC}(h:PLst base w v acc)(hf:Fr pb w w1)(hp:pb<base):PLst base w1 v acc:=by
 obtain⟨vs,F,h1,h2,h3⟩:=h;refine⟨vs,F,bA h1 fun k hk=>?_,h2.mono fun _ _ h=>h.keep fun b hb=>?_,fun b hb=>?_⟩
 ·have:=bX h1 k hk;exact hf.block k (cK h1 k hk) (by omega)
 ·have:=h3 b hb;have:=hf.size;exact⟨by omega,by omega,(h3 b hb).2.2⟩
 ·have:=h3 b hb;exact hf.block b this.2.1 (by omega)
theorem PLst.snoc{base lo:Nat}{w wa w2:World}{v:Value}{acc:List aC}{cv:Value}{a:aC}{g cap:Nat}{vs:List Value}{F:Nat->Prop}(h2:jW (PN F w) vs acc)(h3:∀b,F b->base<=b/\b<w.heap.size/\v.ownBlock≠some b)
 (hr:PN (Btw lo w.heap.size) w cv a) (hlo:base<=lo) (hrow:∀k,v.ownBlock=some k->k<lo) (hwa:∀k,k<w.heap.size->wa.heap[k]?=w.heap[k]?) (hsz:w.heap.size<=wa.heap.size)
 (hown:w2.ownsRow base 122 1 (.slice (some ⟨g,0,none⟩) (acc.length+1) cap) (acc.length+1) (vs++[cv]))
 (hgrow:wa.grownBy w2 v.ownBlock) (hat:v.ownBlock=some g\/w.heap.size<=g):PLst base w2 (.slice (some ⟨g,0,none⟩) (acc.length+1) cap) (acc++[a]):=by
 have hk:∀b,(F b\/Btw lo w.heap.size b)->base<=b/\b<w.heap.size/\v.ownBlock≠some b:=by
  rintro b (hb|hb)
  ·exact h3 b hb
  ·exact⟨by have:=hb.1;omega,hb.2,fun e=>by have:=hrow b e;have:=hb.1;omega⟩
 have hkeep:∀b,(F b\/Btw lo w.heap.size b)->w2.heap[b]?=w.heap[b]?:=fun b hb=>by
  have hb':=hk b hb;rw[hgrow.block b (by omega) (fun e=>hb'.2.2 e.symm),hwa b hb'.2.1]
 refine⟨vs++[cv],fun b=>F b\/Btw lo w.heap.size b,?_,?_,?_⟩
 ·rw[m6];exact hown
 ·exact jW.snoc (h2.mono fun _ _ h=>(h.mono (fun _=>Or.inl)).keep hkeep) ((hr.mono (fun _=>Or.inr)).keep hkeep)
 ·intro b hb;have hb':=hk b hb;have:=hgrow.size;refine⟨hb'.1,by omega,fun e=>?_⟩
  have e':g=b:=Option.some.inj e;rcases hat with hat|hat
  ·exact hb'.2.2 (by rw[hat,e'])
  ·omega
theorem PLst.kid{base:Nat}{w:World}{v:Value}{acc:List aC}(h:PLst base w v acc):PKid (Btw base w.heap.size) w v acc:=by
 obtain⟨vs,F,h1,h2,h3⟩:=h;rcases h1.2 with ⟨r1,r2⟩|⟨g,cap,cur,r1,r2,r3,r4,r5,r6,r7⟩
 ·exact Or.inl ⟨r1,v8 r2⟩
 ·exact Or.inr ⟨g,cap,cur,vs,r1,⟨r2,aD r3⟩,r3,r4,by rw[<-r7,Nat.mul_one],h2.mono fun _ _ h=>h.mono fun b hb=>⟨(h3 b hb).1,(h3 b hb).2.1⟩⟩
theorem PAt.grown{C:Ctx}{w w':World}{p:Nat}{row:Option Nat}{base:Nat}(h:PAt C w p)(hg:w.grownBy w' row)(hr:∀k,row=some k->base<=k)(hp:C.pb<base)(hgb:C.g<base):PAt C w' p:=
 h.keep (hg.block _ h.pb_lt fun e=>by have:=hr _ e.symm;omega) (hg.block _ h.g_lt fun e=>by have:=hr _ e.symm;omega)
def Out{α:Type}(C:Ctx)(w:World)(r:bS α)(P:World->Value->α->Prop)(e:Ending)(w':World):Prop:=
 Fr C.pb w w'/\match r with
  |.ok (a,q)=>PAt C w' q/\∃v,e=.returned v/\P w' v a
  |.error l=>e=dC 4 l
def GJ(C:Ctx)(w:World)(r:bS aC)(e:Ending)(w':World):Prop:=Out C w r (fun w' v a=>PN (Btw w.heap.size w'.heap.size) w' v a) e w'
def PReads(C:Ctx)(F:Nat)(X:Nat->bS aC):Prop:=∀w p,PAt C w p->X p≠.error 0->Calls prog F #[.pointer (some ⟨C.pb,0,none⟩)] w (GJ C w (X p))
def nF(ts:List aP)(p:Nat)(l:List (List UInt8)):List UInt8:=(l.find? fun x=>aX ts p x).getD []
theorem GY(C:Ctx)(w:World)(p:Nat)(l:List (List UInt8))(g cap:Nat)(hg:g<w.heap.size)(hgp:g≠C.pb)(hl:l.length<=100)(hne:∀x∈l,x≠[])(hc:∀i (hi:i<l.length),w.cell? ⟨g,i,none⟩=some (.string (bs l[i])))(h:PAt C w p):
 Calls prog 284 #[.pointer (some ⟨C.pb,0,none⟩),.slice (some ⟨g,0,none⟩) l.length cap] w fun e w'=>e=.returned (.string (bs (nF C.ts p l)))/\PAt C w' (if nF C.ts p l=[] then p else p+1)/\Fr C.pb w w':=by
 have HC:=aB hc;have H:=aB h;have HNE:=aB hne;clear hc h hne;generalize hqq:(if nF C.ts p l=[] then p else p+1)=qq
 generalize hoo:nF C.ts p l=oo at*;have HQ:=aB hqq;have HOO:=aB hoo;clear hqq hoo;go_enter Tryz.func284,Tryz.ntmps284;go_wp2_with fail;go_loopg [6,9] l.length (fun gk m i wr=>∃k:Nat,k+gk=l.length/\i=.int .i64 k/\Fr C.pb w wr/\PAt C wr p/\Hid (∀x∈l.take k,aX C.ts p x=false))
 case atStart=>exact⟨0,by omega,rfl,Fr.refl _ _,H.out,fun x hx=>by simp at hx⟩
 case round=>
  obtain⟨k,hkg,rfl,hfr,hat,HN⟩:=hrel;by_cases hlt:k<l.length
  ·obtain⟨j,rfl⟩:∃j,gk=j+1:=⟨gk-1,by omega⟩
   have hcell:wr.cell? ⟨g,k,none⟩=some (.string (bs l[k])):=(wZ (hfr.block g hg hgp)).trans (HC.out k hlt);have hgr:g<wr.heap.size:=m9 hg hfr.size;have HX:=aB (dG C wr p (bs l[k]) hat);have hd:(bs l[k]).data.toList=l[k]:=by simp[bs]
   rw[hd] at HX
   have HD:Hid (l=l.take k++l[k]::l.drop (k+1)):=by
    show _=_
    rw[aE_,ae_]
   have HT:Hid (∀y∈l.take (k+1),y∈l.take k\/y=l[k]):=fun y hy=>by
    rw[v7 hlt] at hy;rcases o7.1 hy with h|h
    ·exact Or.inl h
    ·exact Or.inr (o8.1 h)
   have hnk:l[k]≠[]:=HNE.out _ (u_9 hlt);have HNK:=aB hnk;have HF:=aB hfr;clear hat hfr hd hnk;generalize l[k]=y at*;cases hit:aX C.ts p y
   ·rw[hit] at HX
    have HF2:Hid (∀z∈l.take (k+1),aX C.ts p z=false):=fun z hz=>by
     rcases HT.out z hz with h|h
     ·exact HN.out z h
     ·rw[h];exact hit
    clear HN HT HD hit;go_wp2_with fail;refine HX.out.mono ?_;rintro e w1 ⟨rfl,hp1,hf1⟩;go_wp2_with fail;go_roundg j
    case measure=>omega
    case rel=>exact⟨k+1,by omega,by go_num,HF.out.trans hf1,hp1,HF2⟩
   ·rw[hit] at HX
    have HO:Hid (oo=y):=by
     show _=_
     rw[<-HOO.out];unfold nF;rw[HD.out,List.find?_append,aP_.2 (by intro z hz;simpa using HN.out z hz)]
     simp[hit]
    clear HN HT HD hit;go_wp2_with fail;refine HX.out.mono ?_;rintro e w1 ⟨rfl,hp1,hf1⟩;go_wp2_with fail;go_ret;have hqv:qq=p+1:=by rw[<-HQ.out,HO.out,if_neg HNK.out]
    rw[HO.out,hqv];exact⟨rfl,hp1,HF.out.trans hf1⟩
  ·have HO:Hid (oo=[]):=by
    show _=_
    rw[<-HOO.out];unfold nF;rw[aP_.2]
    ·rfl
    ·intro z hz;simpa using HN.out z (by rw[z8 (by omega)];exact hz)
   have HF:=aB hfr;have HA:=aB hat;clear HN hfr hat;go_wp2_with fail;go_ret;have hqv:qq=p:=by rw[<-HQ.out,HO.out,if_pos rfl]
   rw[HO.out,hqv];exact⟨rfl,HA.out,HF.out⟩
theorem Out.err{α:Type}{C:Ctx}{w w':World}{r:bS α}{P:World->Value->α->Prop}{l:Nat}(hr:r=.error l)(hf:Fr C.pb w w'):Out C w r P (dC 4 l) w':=by
 subst hr;exact⟨hf,rfl⟩
theorem Out.ok{α:Type}{C:Ctx}{w w':World}{r:bS α}{P:World->Value->α->Prop}{a:α}{q:Nat}{v:Value}(hr:r=.ok (a,q))(hf:Fr C.pb w w')(ha:PAt C w' q)(hp:P w' v a):Out C w r P (.returned v) w':=by
 subst hr;exact⟨hf,ha,v,rfl,hp⟩
theorem nM{α:Type}{ts:List aP}{x:List UInt8}{a:α}{q:Nat}(h:aX ts q x=true):aL ts x (.ok (a,q):bS α)=.ok (a,q+1):=by
 unfold aL;simp only;rw[if_pos h]
theorem xF{α:Type}{ts:List aP}{x:List UInt8}{a:α}{q:Nat}(h:aX ts q x=false):aL ts x (.ok (a,q):bS α)=.error (aO ts q).line:=by
 unfold aL;simp only;rw[if_neg (by rw[h];simp)];rfl
theorem rL(w:World)(v:Value):∀j u,([v]:List Value)[j]?=some u->(w.alloc (.cells #[v] 122)).cell? ((⟨w.heap.size,0,none⟩:Addr).add j)=some u:=by
 intro j u hj;match j,hj with
 |0,hj=>simp at hj;subst hj;simp[Addr.add,go_sem]
 |j+1,hj=>simp at hj
theorem uP(T:TypeId)(cs:Array Value):∀u∈([.iface T (.agg cs)]:List Value),u.oneCell'=true:=by
 intro u hu;simp at hu;subst hu;rfl
def j9(C:Ctx)(w:World)(r:bS (List aC))(e:Ending)(w':World):Prop:=Out C w r (fun w' v l=>PKid (Btw w.heap.size w'.heap.size) w' v l) e w'
def Z4(C:Ctx)(E:Nat->bS aC)(w:World)(r0:bS (List aC))(k:Nat)(v:Value)(wr:World):Prop:=
 Fr C.pb w wr/\∃q acc,PAt C wr q/\r0=(if aX C.ts q [44] then dI E C.ts k (q+1) acc else .ok (acc,q))/\acc.length+k<=4000/\PLst w.heap.size wr v acc
theorem sX(C:Ctx)(E:Nat->bS aC)(HE:PReads C 164 E)(w:World)(p:Nat)(y:ByteArray)(h:PAt C w p)(r0 r:bS (List aC))(hr0:Hid (r0=hP E C.ts p y.data.toList))(hr:Hid (r=aL C.ts y.data.toList r0))(hne:r0≠.error 0):
 Calls prog 329 #[.pointer (some ⟨C.pb,0,none⟩),.string y] w (j9 C w r):=by
 obtain⟨i0,hi,hz0,hz1,hz2⟩:=info_parts CV;have HA:=aB (dG C w p y h);have H:=aB h;have HEE:=aB HE;have HNE:=aB hne;have hlen:=h.len;have hpb:=h.pb_lt;have hgb:=h.g_lt;clear h HE hne;cases hit:aX C.ts p y.data.toList
 ·rw[hit] at HA;have HR0:Hid (r0=dI E C.ts (C.ts.length+1) p []):=by show _=_;rw[hr0.out];unfold hP;rw[hit];rfl
  clear hit hr0;go_enter Tryz.func329,Tryz.ntmps329;go_wp2_with fail;refine HA.out.mono ?_;rintro e w1 ⟨rfl,hp1,hf1⟩;have hE0:E p≠.error 0:=fun e=>HNE.out (by rw[HR0.out,dI,e])
  have HX:=aB (HEE.out w1 p hp1 hE0);have HF1:=aB hf1;clear hp1 hf1 hE0;go_wp2_with fail;refine HX.out.mono ?_;rintro e w2 hO;cases hEp:E p with
  |error l=>
   rw[hEp] at hO;obtain⟨hf2,rfl⟩:=hO;have HL:Hid (r=.error l):=by show _=_;rw[hr.out,HR0.out,dI,hEp];rfl
   have HF2:=aB (HF1.out.trans hf2);clear hf2 HX;go_wp2_with fail;exact⟨rfl,Out.err HL.out HF2.out⟩
  |ok aq=>
   obtain⟨a,q⟩:=aq;rw[hEp] at hO;obtain⟨hf2,hp2,v,rfl,hn⟩:=hO;obtain⟨T,cs,rfl⟩:=hn.form;have HR1:Hid (r0=(if aX C.ts q [44] then dI E C.ts C.ts.length (q+1) [a] else .ok ([a],q))):=by show _=_;rw[HR0.out,dI,hEp];rfl
   have HF2:=aB (HF1.out.trans hf2);have HP2:=aB hp2;have HN:=aB hn;have hs1:=HF1.out.size;have hs2:=hf2.size;clear hp2 hf2 hn HX HR0 HF1;go_wp2_with (at_builtin;refine wpList_append_lies _ (by rfl) _ _ 213 (by rfl) w.heap.size 122 i0 _ 1 16 Tryz.underlying213 hi hz0 hz1 hz2 rfl (by decide) (.slice none 0 0) 0 [] (by rfl) (World.ownsRow_nil _ _ _ _) ⟨w2.heap.size,0,none⟩ 1 1 [.iface T (.agg cs)] (by rfl) (by rfl) (rL _ _) (uP _ _) (by decide) (by unfold maxLen;omega) (by omega) (by simp;omega) (w2.heap.size+1) (by simp) ?_)
   intro g cap w3 hown3 hgrow3 hat3 hg3;have HL3:=aB (PLst.snoc (base:=w.heap.size) (lo:=w1.heap.size) (F:=fun _=>False) (vs:=[]) (acc:=[]) (v:=.slice none 0 0) trivial (fun _ h=>h.elim) HN.out (by omega) (fun k hk=>by cases hk) (fun k hk=>o9 _ _ _ hk) (by simp) hown3 hgrow3 (hat3.imp_right (fun e=>by omega)))
   have HP3:=aB ((HP2.out.alloc _).grown (base:=w.heap.size) hgrow3 (fun k hk=>by cases hk) hpb hgb)
   have HF3:=aB ((HF2.out.alloc _).grown hgrow3 (fun k hk=>by cases hk))
   clear hown3 hgrow3 hat3 HN HP2 HF2;go_wp2_with fail;go_loopg [5] C.ts.length (fun k v wr=>Z4 C E w r0 k v wr)
   case atStart=>exact⟨HF3.out,q,[a],HP3.out,HR1.out,by simp;omega,HL3.out⟩
   case round=>
    obtain⟨hf4,q4,acc,hp4,hr4,hal,hls⟩:=hrel;obtain⟨x4,c4,rfl⟩:=hls.slice;have HAC:=aB (dG C wr q4 ⟨#[44]⟩ hp4);have HF4:=aB hf4;have HLS:=aB hls;have hs4:=hf4.size;clear hf4 hp4 hls HL3 HP3 HF3 HR1;cases hit:aX C.ts q4 [44]
    ·have hit':aX C.ts q4 (⟨#[44]⟩:ByteArray).data.toList=false:=hit;rw[hit'] at HAC;have HR4:Hid (r0=.ok (acc,q4)):=by show _=_;rw[hr4,hit];rfl
     clear hit hit' hr4;go_wp2_with fail;refine HAC.out.mono ?_;rintro e w5 ⟨rfl,hp5,hf5⟩;have HXP:=aB (fU C w5 q4 y hp5);have HF5:=aB (HF4.out.trans hf5);have HL5:=aB (HLS.out.keep hf5 hpb);have hs5:=hf5.size;clear hp5 hf5 HAC HLS;go_wp2_with fail;refine HXP.out.mono ?_;rintro e w6 ⟨hf6,he6⟩;have HF6:=aB (HF5.out.trans hf6);have HL6:=aB (HL5.out.keep hf6 hpb);cases hit:aX C.ts q4 y.data.toList
     ·rw[hit] at he6;obtain rfl:e=dC 4 (aO C.ts q4).line:=he6;have HL:Hid (r=.error (aO C.ts q4).line):=by show _=_;rw[hr.out,HR4.out];exact xF hit
      clear hf6 HXP hit HL6 HL5;go_wp2_with fail;exact⟨rfl,Out.err HL.out HF6.out⟩
     ·rw[hit] at he6;obtain⟨rfl,hp6⟩:=he6;have HL:Hid (r=.ok (acc,q4+1)):=by show _=_;rw[hr.out,HR4.out];exact nM hit
      have HP6:=aB hp6;clear hf6 HXP hit hp6 HL5;go_wp2_with fail;go_ret;exact Out.ok HL.out HF6.out HP6.out HL6.out.kid
    ·have hit':aX C.ts q4 (⟨#[44]⟩:ByteArray).data.toList=true:=hit;rw[hit'] at HAC;have HR4:Hid (r0=dI E C.ts gk (q4+1) acc):=by show _=_;rw[hr4,hit];rfl
     clear hit hit' hr4
     obtain⟨k,rfl⟩:∃k,gk=k+1:=by
      cases gk with
      |zero=>exact absurd HR4.out HNE.out
      |succ k=>exact⟨k,rfl⟩
     go_wp2_with fail;refine HAC.out.mono ?_;rintro e w5 ⟨rfl,hp5,hf5⟩;have hE0:E (q4+1)≠.error 0:=fun e=>HNE.out (by rw[HR4.out,dI,e])
     have HX:=aB (HEE.out w5 (q4+1) hp5 hE0);have HF5:=aB (HF4.out.trans hf5);have HL5:=aB (HLS.out.keep hf5 hpb);have hs5:=hf5.size;clear hp5 hf5 HAC HLS hE0;go_wp2_with fail;refine HX.out.mono ?_;rintro e w6 hO;cases hEp:E (q4+1) with
     |error l=>
      rw[hEp] at hO;obtain⟨hf6,rfl⟩:=hO;have HL:Hid (r=.error l):=by show _=_;rw[hr.out,HR4.out,dI,hEp];rfl
      have HF6:=aB (HF5.out.trans hf6);clear hf6 HX;go_wp2_with fail;exact⟨rfl,Out.err HL.out HF6.out⟩
     |ok aq6=>
      obtain⟨a6,q6⟩:=aq6;rw[hEp] at hO;obtain⟨hf6,hp6,v6,rfl,hn6⟩:=hO;obtain⟨T6,cs6,rfl⟩:=hn6.form;have HR5:Hid (r0=(if aX C.ts q6 [44] then dI E C.ts k (q6+1) (acc++[a6]) else .ok (acc++[a6],q6))):=by show _=_;rw[HR4.out,dI,hEp]
      obtain⟨vs,F,hown,hall,hFF⟩:=HL5.out.keep hf6 hpb
      have hrb:∀g,(Value.slice x4 acc.length c4).ownBlock=some g->g<w5.heap.size:=by
       obtain⟨vs',F',hown',_⟩:=HL5.out;exact cK hown'
      have HRB:=aB hrb;have HF6:=aB (HF5.out.trans hf6);have HP6:=aB hp6;have HN6:=aB hn6;have HALL:=aB (And.intro hall hFF);have hs6:=hf6.size;have hge:∀k,(Value.slice x4 acc.length c4).ownBlock=some k->w.heap.size<=k:=bX hown;clear hp6 hf6 hn6 HX HR4 HL5 HF5 hall hFF hrb;go_wp2_with (at_builtin;refine wpList_append_lies _ (by rfl) _ _ 213 (by rfl) w.heap.size 122 i0 _ 1 16 Tryz.underlying213 hi hz0 hz1 hz2 rfl (by decide) _ _ _ (by rfl) (hown.alloc _) ⟨w6.heap.size,0,none⟩ 1 1 [.iface T6 (.agg cs6)] (by rfl) (by rfl) (rL _ _) (uP _ _) (by decide) (by unfold maxLen;omega) (by omega) (by simp;omega) (w6.heap.size+1) (by simp) ?_)
      intro g7 cap7 w7 hown7 hgrow7 hat7 hg7;have HL7:=aB (PLst.snoc (lo:=w5.heap.size) HALL.out.1 HALL.out.2 HN6.out (by omega) HRB.out (fun k hk=>o9 _ _ _ hk) (by simp) hown7 hgrow7 (hat7.imp_right (fun e=>by omega)))
      have HP7:=aB ((HP6.out.alloc _).grown (base:=w.heap.size) hgrow7 hge hpb hgb);have HF7:=aB ((HF6.out.alloc _).grown hgrow7 hge);clear hown hown7 hgrow7 hat7 HN6 HP6 HF6 HALL HRB hge;go_wp2_with fail;go_roundg k
      case measure=>omega
      case rel=>exact⟨HF7.out,q6,acc++[a6],HP7.out,HR5.out,by simp;omega,HL7.out⟩
 ·rw[hit] at HA;have HR0:Hid (r=.ok ([],p+1)):=by show _=_;rw[hr.out,hr0.out];unfold hP;rw[hit];unfold aL;simp[hit]
  clear hit hr0;go_enter Tryz.func329,Tryz.ntmps329;go_wp2_with fail;refine HA.out.mono ?_;rintro e w1 ⟨rfl,hp1,hf1⟩;go_wp2_with fail;go_ret;exact Out.ok HR0.out hf1 hp1 (Or.inl ⟨rfl,rfl⟩)
structure PS(C:Ctx)(w:World)(t:aP)(tb:Nat)(W:World)(p:Nat):Prop where
 fr:Fr C.pb w W
 at_:PAt C W p
 tk:W.heap[tb]?=some (.cells #[.int .i64 (psort t.sort),.string (bs t.text),.int .i64 (pval t),.int .i64 t.line] 206 (0,0))
 pl:W.heap[tb+1]?=some (.cells #[.int .i64 t.line] 209 (0,0))
 lo:w.heap.size<=tb
 np:C.pb<tb
 ng:C.g<tb
theorem PS.keep{C:Ctx}{w W W':World}{t:aP}{tb p q:Nat}(h:PS C w t tb W p)(hf:Fr C.pb W W')(hq:PAt C W' q):PS C w t tb W' q:=
 ⟨h.fr.trans hf,hq,by rw[hf.block tb (aD h.tk) (by have:=h.np;omega)];exact h.tk,by rw[hf.block (tb+1) (aD h.pl) (by have:=h.np;omega)];exact h.pl,h.lo,h.np,h.ng⟩
theorem PS.cells{C:Ctx}{w W:World}{t:aP}{tb p:Nat}(h:PS C w t tb W p):
 tb+1<W.heap.size/\W.cell? ⟨tb,0,none⟩=some (.int .i64 (psort t.sort))/\W.cell? ⟨tb,1,none⟩=some (.string (bs t.text))/\W.cell? ⟨tb,2,none⟩=some (.int .i64 (pval t))/\W.cell? ⟨tb,3,none⟩=some (.int .i64 t.line)/\W.cell? ⟨tb+1,0,none⟩=some (.int .i64 t.line)/\C.pb<W.heap.size/\W.cell? ⟨C.pb,1,none⟩=some (.int .i64 p)/\W.frozen? ⟨C.pb,1,none⟩=false:=
 ⟨aD h.pl,aA h.tk rfl,aA h.tk rfl,aA h.tk rfl,aA h.tk rfl,aA h.pl rfl,h.at_.pb_lt,aA h.at_.blk rfl,aE h.at_.blk⟩
theorem thrown{P:Program}{ops:Array Oper}{o:Oper}{a:Act}{w:World}{K:Act->World->Prop}{Q:Exit->Act->World->Prop}{E:Prop}(v0:Value)
 (h:if Region.wanted o (yielded ops a.tmps)=true then Oper.wp P o a w K Q else E) (_d:Hid False->K (a.put o.dst v0) w):
 if Region.wanted o (yielded ops a.tmps)=true then Oper.wp P o a w K Q else E:=h
theorem Fr.keepB{pb b:Nat}{w w':World}{o:Obj}(hf:Fr pb w w')(h:w.heap[b]?=some o)(hn:b≠pb):w'.heap[b]?=some o:=by
 have hl:b<w.heap.size:=by
  by_cases hx:b<w.heap.size
  ·exact hx
  ·rw[au_ (by omega)] at h;cases h
 rw[hf.block b hl hn];exact h
theorem PKid.slice{F:Nat->Prop}{w:World}{v:Value}{l:List aC}(h:PKid F w v l):∃x c,v=.slice x l.length c:=by
 rcases h with ⟨h1,h2⟩|⟨g,cap,cur,vs,h1,_⟩
 ·exact⟨none,0,by rw[h1,h2];rfl⟩
 ·exact⟨_,_,h1⟩
theorem O7{t:aP}(h:nY t):(psort t.sort=2↔t.sort=48)/\(psort t.sort=3↔t.sort=115):=by
 unfold psort;rcases h with h|⟨h,_⟩|h|⟨h,_⟩|h|h<;>simp[h]
theorem NX(C:Ctx)(E:Nat->bS aC)(HE:PReads C 164 E):PReads C 350 (dW E C.ts):=by
 intro w p h hne;have HN:=aB (mE C w p h);simp only[nX] at HN;have HPL:=aB (fun w1 (hb:Below w.heap.size w w1)=>mG C w1 p (h.below hb))
 have hok:=h.tsk.tk p h.lt;have HS:=aB (O7 hok);have HT:Hid ((aO C.ts p).sort≠101->p+1<C.ts.length):=fun e=>h.all.ok.next p h.lt e
 have hp3:p<=3000:=by have:=h.lt;have:=h.len;omega
 have H:=aB h;have HEE:=aB HE;have HOK:=aB hok;have hpb:=h.pb_lt;have hgb:=h.g_lt;obtain⟨r,hr⟩:∃r,r=dW E C.ts p:=⟨_,rfl⟩;rw[<-hr] at hne ⊢
 rw[dW] at hr;have HR:=aB hr;have HNE:=aB hne;clear h HE hne hok hr;generalize htk:aO C.ts p=t at*;have HTK:=aB htk;clear htk;go_enter Tryz.func350,Tryz.ntmps350;go_wp2_with fail;refine HN.out.mono ?_;rintro e w1 ⟨rfl,hb1⟩;have HB1:=aB hb1;clear hb1;go_wp2_with fail;refine(HPL.out w1 HB1.out).mono ?_;rintro e w2 ⟨rfl,hb2⟩
 have hps:PS C w t w2.heap.size ((w2.alloc (.cells #[.int .i64 (psort t.sort),.string (bs t.text),.int .i64 (pval t),.int .i64 t.line] 206)).alloc (.cells #[.int .i64 t.line] 209)) p:=by
  have hb:=HB1.out.trans (hb2.mono HB1.out.size);have hsz:=hb.size;refine⟨((Fr.below hb).alloc _).alloc _,((H.out.below hb).alloc _).alloc _,?_,?_,hsz,by omega,by omega⟩
  ·exact oS _ _ (by simp) _ (aT _ _ rfl _)
  ·exact aT _ _ (by simp) _
 have HPS:=aB hps;obtain⟨k0,k1,k2,k3,k4,k5,k6,k7,k8⟩:=hps.cells;clear hps hb2 HB1 HPL HN;go_upto_region 2 with fail
 generalize hWW:(w2.alloc (.cells #[.int .i64 (psort t.sort),.string (bs t.text),.int .i64 (pval t),.int .i64 t.line] 206)).alloc (.cells #[.int .i64 t.line] 209)=W at*;generalize hps0:psort t.sort=ps at*;have hnp:=HPS.out.np;have hq1:¬w2.heap.size=C.pb:=by omega
 have hq2:¬C.pb=w2.heap.size:=by omega
 by_cases h48:ps=2
 ·have hs:t.sort=48:=HS.out.1.1 h48;subst h48
  obtain⟨kk,hkk⟩:∃kk,cA 0 t.text=some kk:=by
   rcases HOK.out with h|⟨h,_⟩|h|⟨h,h2⟩|h|h
   ·omega
   ·omega
   ·omega
   ·exact Option.isSome_iff_exists.1 h2
   ·omega
   ·omega
  have HV:Hid (pval t=kk):=by show _=_;unfold pval;rw[if_pos hs,hkk];rfl
  have HL:Hid (r=.ok (aQ [UInt8.ofNat t.sort] t.line t.text [],p+1)):=by show _=_;rw[HR.out,hs];rfl
  have HSH:Hid (Shape 397 #[.int .i64 t.line,.int .i64 (pval t)] (aQ [UInt8.ofNat t.sort] t.line t.text []) []):=Or.inl ⟨rfl,kk,by rw[HV.out];rfl,by rw[hs];rfl,hkk,rfl,rfl⟩
  have hm:=HPS.out.at_.move (m8 _ _) (p+1) (HT.out (by omega))
  have HM:=aB (And.intro (HPS.out.fr.trans hm.2) hm.1);clear hs hkk HV HOK hm HR;go_wp2_with fail;go_ret;exact Out.ok HL.out HM.out.1 HM.out.2 (PN.mk HSH.out (fun p hp=>by cases hp))
 by_cases h115:ps=3
 ·have hs:t.sort=115:=HS.out.2.1 h115;subst h115;have HL:Hid (r=.ok (aQ [UInt8.ofNat t.sort] t.line t.text [],p+1)):=by show _=_;rw[HR.out,hs];rfl
  have HSH:Hid (Shape 398 #[.int .i64 t.line,.string (bs t.text)] (aQ [UInt8.ofNat t.sort] t.line t.text []) []):=Or.inr (Or.inl ⟨rfl,rfl,by rw[hs];rfl,rfl,rfl⟩)
  have hm:=HPS.out.at_.move (m8 _ _) (p+1) (HT.out (by omega))
  have HM:=aB (And.intro (HPS.out.fr.trans hm.2) hm.1);clear hs HOK hm HR h48;go_wp2_with fail;go_ret;exact Out.ok HL.out HM.out.1 HM.out.2 (PN.mk HSH.out (fun p hp=>by cases hp))
 have e48:((ps:Int)==2)=false:=by simp;omega
 have e115:((ps:Int)==3)=false:=by simp;omega
 have hs48:(t.sort==48 || t.sort==115)=false:=by
  have h1:t.sort≠48:=fun e=>h48 (HS.out.1.2 e)
  have h2:t.sort≠115:=fun e=>h115 (HS.out.2.2 e)
  simp[h1,h2]
 have HR1:Hid (r=if aX C.ts p [116,114,117,101] || aX C.ts p [102,97,108,115,101] then .ok (aQ [98,111,111,108] t.line t.text [],p+1)
  else if aX C.ts p [40] then aL C.ts [41] (E (p+1))
  else if aX C.ts p [91] then bU (aQ [108,105,115,116] t.line t.text) (eL E C.ts p [91] [93])
  else if t.sort==110 then
   if aX C.ts (p+1) [40] then bU (aQ [99,97,108,108] t.line t.text) (eL E C.ts (p+1) [40] [41])
   else .ok (aQ [110,97,109,101] t.line t.text [],p+1)
  else Hs.bad C.ts p):=by show _=_;rw[HR.out,hs48];rfl
 have HTX:Hid (∀x,aX C.ts p x=true->t.text=x):=fun x hx=>by
  unfold aX at hx;rw[HTK.out] at hx;simp only[y6,beq_iff_eq] at hx;exact hx.2
 clear HR hs48 h48 h115 HS HOK;have HA1:=aB (dG C W p ⟨#[116,114,117,101]⟩ HPS.out.at_);have ed1:(⟨#[116,114,117,101]⟩:ByteArray).data.toList=[116,114,117,101]:=rfl;rw[ed1] at HA1;clear ed1;cases i1:aX C.ts p [116,114,117,101];rotate_left
 ·have HL:Hid (r=.ok (aQ [98,111,111,108] t.line t.text [],p+1)):=by show _=_;rw[HR1.out,i1];rfl
  have HSH:Hid (Shape 400 #[.int .i64 t.line,.bool true] (aQ [98,111,111,108] t.line t.text []) []):=Or.inr (Or.inr (Or.inl ⟨rfl,by show _= #[_,Value.bool (t.text==_)];rw[HTX.out _ i1];rfl,rfl,rfl,rfl⟩))
  rw[i1] at HA1;clear i1 HR1 HTX;go_wp2_with fail;refine HA1.out.mono ?_;rintro e w3 ⟨rfl,hp3',hf3⟩;have hps3:=HPS.out.keep hf3 hp3';have HPS3:=aB hps3;clear k1 k2 k3 k4 k5 k6 k7 k8 hp3' hf3;obtain⟨k0,k1,k2,k3,k4,k5,k6,k7,k8⟩:=hps3.cells;clear hps3;go_wp2_with fail;go_ret;exact Out.ok HL.out HPS3.out.fr HPS3.out.at_ (PN.mk HSH.out (fun p hp=>by cases hp))
 rw[i1] at HA1;go_wp2_with fail;refine HA1.out.mono ?_;rintro e w3 ⟨rfl,hat3,hf3⟩;have hps3:=HPS.out.keep hf3 hat3;have HA2:=aB (dG C w3 p ⟨#[102,97,108,115,101]⟩ hat3);have ed2:(⟨#[102,97,108,115,101]⟩:ByteArray).data.toList=[102,97,108,115,101]:=rfl;rw[ed2] at HA2;have HPS3:=aB hps3;clear ed2 hat3 hf3 hps3 HPS HA1 k0 k1 k2 k3 k4 k5 k6 k7 k8;cases i2:aX C.ts p [102,97,108,115,101];rotate_left
 ·have HL:Hid (r=.ok (aQ [98,111,111,108] t.line t.text [],p+1)):=by show _=_;rw[HR1.out,i1,i2];rfl
  have HSH:Hid (Shape 400 #[.int .i64 t.line,.bool false] (aQ [98,111,111,108] t.line t.text []) []):=Or.inr (Or.inr (Or.inl ⟨rfl,by show _= #[_,Value.bool (t.text==_)];rw[HTX.out _ i2];rfl,rfl,rfl,rfl⟩))
  rw[i2] at HA2;clear i1 i2 HR1 HTX;go_wp2_with fail;refine HA2.out.mono ?_;rintro e w4 ⟨rfl,hat4,hf4⟩;have hps4:=HPS3.out.keep hf4 hat4;have HPS4:=aB hps4;clear hat4 hf4;obtain⟨k0,k1,k2,k3,k4,k5,k6,k7,k8⟩:=hps4.cells;clear hps4;go_wp2_with fail;go_ret;exact Out.ok HL.out HPS4.out.fr HPS4.out.at_ (PN.mk HSH.out (fun p hp=>by cases hp))
 rw[i2] at HA2
 have HR2:Hid (r=if aX C.ts p [40] then aL C.ts [41] (E (p+1))
  else if aX C.ts p [91] then bU (aQ [108,105,115,116] t.line t.text) (eL E C.ts p [91] [93])
  else if t.sort==110 then
   if aX C.ts (p+1) [40] then bU (aQ [99,97,108,108] t.line t.text) (eL E C.ts (p+1) [40] [41])
   else .ok (aQ [110,97,109,101] t.line t.text [],p+1)
  else Hs.bad C.ts p):=by show _=_;rw[HR1.out,i1,i2];rfl
 clear HR1 i1 i2 HTX;go_wp2_with fail;refine HA2.out.mono ?_;rintro e w4 ⟨rfl,hat4,hf4⟩;have hps4:=HPS3.out.keep hf4 hat4;have HA3:=aB (dG C w4 p ⟨#[40]⟩ hat4);have ed3:(⟨#[40]⟩:ByteArray).data.toList=[40]:=rfl;rw[ed3] at HA3;have HPS4:=aB hps4;clear ed3 hat4 hf4 hps4 HPS3 HA2;cases i3:aX C.ts p [40];rotate_left
 ·have HR3:Hid (r=aL C.ts [41] (E (p+1))):=by show _=_;rw[HR2.out,i3];rfl
  rw[i3] at HA3;clear i3 HR2;go_wp2_with fail;refine HA3.out.mono ?_;rintro e w5 ⟨rfl,hat5,hf5⟩;have hE0:E (p+1)≠.error 0:=fun e=>HNE.out (by rw[HR3.out,e];rfl)
  have HX:=aB (HEE.out w5 (p+1) hat5 hE0);have HF5:=aB (HPS4.out.fr.trans hf5);have hs5:=HF5.out.size;clear hat5 hf5 hE0 HA3 HPS4;go_wp2_with fail;refine HX.out.mono ?_;rintro e w6 hO;cases hEp:E (p+1) with
  |error l=>
   rw[hEp] at hO;obtain⟨hf6,rfl⟩:=hO;have HL:Hid (r=.error l):=by show _=_;rw[HR3.out,hEp];rfl
   have HF6:=aB (HF5.out.trans hf6);clear hf6 HX;go_wp2_with fail;exact⟨rfl,Out.err HL.out HF6.out⟩
  |ok aq=>
   obtain⟨a,q⟩:=aq;rw[hEp] at hO;obtain⟨hf6,hp6,v6,rfl,hn6⟩:=hO;have HXP:=aB (fU C w6 q ⟨#[41]⟩ hp6);have ed4:(⟨#[41]⟩:ByteArray).data.toList=[41]:=rfl;rw[ed4] at HXP;have HF6:=aB (HF5.out.trans hf6);have HN6:=aB hn6;have hs6:=hf6.size;clear hp6 hf6 hn6 HX ed4;go_wp2_with fail;refine HXP.out.mono ?_;rintro e w7 ⟨hf7,he7⟩;cases hit:aX C.ts q [41]
   ·rw[hit] at he7;obtain rfl:e=dC 4 (aO C.ts q).line:=he7;have HL:Hid (r=.error (aO C.ts q).line):=by show _=_;rw[HR3.out,hEp];exact xF hit
    have HF7:=aB (HF6.out.trans hf7);clear hf7 HXP hit;go_wp2_with fail;exact⟨rfl,Out.err HL.out HF7.out⟩
   ·rw[hit] at he7;obtain⟨rfl,hp7⟩:=he7;have HL:Hid (r=.ok (a,q+1)):=by show _=_;rw[HR3.out,hEp];exact nM hit
    have HF7:=aB (HF6.out.trans hf7);have HP7:=aB hp7;have HN7:=aB (HN6.out.grow (lo':=w.heap.size) (hi':=w7.heap.size) (fun k h1 h2=>hf7.block k h2 (by omega)) (by omega) hf7.size)
    clear hf7 HXP hit hp7;go_wp2_with fail;go_ret;exact Out.ok HL.out HF7.out HP7.out HN7.out
 rw[i3] at HA3
 have HR3:Hid (r=if aX C.ts p [91] then bU (aQ [108,105,115,116] t.line t.text) (eL E C.ts p [91] [93])
  else if t.sort==110 then
   if aX C.ts (p+1) [40] then bU (aQ [99,97,108,108] t.line t.text) (eL E C.ts (p+1) [40] [41])
   else .ok (aQ [110,97,109,101] t.line t.text [],p+1)
  else Hs.bad C.ts p):=by show _=_;rw[HR2.out,i3];rfl
 clear HR2 i3;go_wp2_with fail;refine HA3.out.mono ?_;rintro e w5 ⟨rfl,hat5,hf5⟩;have hps5:=HPS4.out.keep hf5 hat5;have HA4:=aB (dG C w5 p ⟨#[91]⟩ hat5);have ed4:(⟨#[91]⟩:ByteArray).data.toList=[91]:=rfl;rw[ed4] at HA4;have HPS5:=aB hps5;clear ed4 hat5 hf5 hps5 HPS4 HA3;cases i4:aX C.ts p [91];rotate_left
 ·obtain⟨r1,hr1⟩:∃r1,r1=hP E C.ts (p+1) [93]:=⟨_,rfl⟩;have HR4:Hid (r=bU (aQ [108,105,115,116] t.line t.text) (aL C.ts [93] r1)):=by show _=_;rw[HR3.out,i4,hr1];unfold eL;rw[i4];rfl
  have HR5:=aB hr1;rw[i4] at HA4;clear i4 HR3 hr1;go_wp2_with fail;refine HA4.out.mono ?_;rintro e w6 ⟨rfl,hat6,hf6⟩;have hps6:=HPS5.out.keep hf6 hat6;have HV:=aB (sX C E HEE.out w6.drew (p+1) ⟨#[93]⟩ hat6.drew r1 _ HR5 rfl (fun e=>HNE.out (by rw[HR4.out,e];rfl)))
  have ed5:(⟨#[93]⟩:ByteArray).data.toList=[93]:=rfl;rw[ed5] at HV;have HPS6:=aB hps6;obtain⟨k0,k1,k2,k3,k4,k5,k6,k7,k8⟩:=hps6.cells;clear hat6 hf6 hps6 ed5 HPS5 HA4 k1 k2 k3 k4 k7 k8;cases hV:aL C.ts [93] r1 with
  |error l=>
   rw[hV] at HV;have HL:Hid (r=.error l):=by show _=_;rw[HR4.out,hV];rfl
   clear hV;go_wp2_with fail;go_region_law (refine thrown (.slice none 0 0) ?_ ?_;(focus go_simp;go_at_call 329;refine HV.out.mono ?_;rintro e w7 ⟨hf7,rfl⟩;exact And.intro rfl (Out.err HL.out (HPS6.out.fr.drew.trans hf7)));intro hfalse)
   all_goals exact hfalse.out.elim
  |ok lq=>
   obtain⟨l,q⟩:=lq;rw[hV] at HV;have HL:Hid (r=.ok (aQ [108,105,115,116] t.line t.text l,q)):=by show _=_;rw[HR4.out,hV];rfl
   clear hV;have hsz6:=HPS6.out.fr.size;go_wp2_with fail;go_region_law (go_simp;go_at_call 329;refine HV.out.mono ?_;rintro e w7 ⟨hf7,hp7,v,rfl,hk⟩;obtain⟨x,c,rfl⟩:=hk.slice;have HK:=aB hk;have HPS7:=aB (HPS6.out.keep ((Fr.refl _ _).drew.trans hf7) hp7);have HF7:=aB hf7;have c5:=HPS7.out.cells.2.2.2.2.2.1;have c0:=HPS7.out.cells.1;clear hf7 hp7 hk)
   all_goals (go_wp2_with fail;go_ret)
   all_goals exact Out.ok HL.out HPS7.out.fr HPS7.out.at_ (PN.mk (Or.inr (Or.inr (Or.inr (Or.inl ⟨rfl,_,rfl,rfl,rfl⟩)))) (fun p hp=>by obtain rfl:=o8.1 hp;exact Prt.ok.list (HK.out.grow (fun _ _ _=>rfl) hsz6 (l9 _))))
 rw[i4] at HA4
 have HR4:Hid (r=if t.sort==110 then
       if aX C.ts (p+1) [40] then bU (aQ [99,97,108,108] t.line t.text) (eL E C.ts (p+1) [40] [41])
       else .ok (aQ [110,97,109,101] t.line t.text [],p+1)
  else Hs.bad C.ts p):=by show _=_;rw[HR3.out,i4];rfl
 clear HR3 i4;go_wp2_with fail;refine HA4.out.mono ?_;rintro e w6 ⟨rfl,hat6,hf6⟩;have HF6:=aB (HPS5.out.fr.trans hf6);have HNM:=aB (mF C w6 p hat6);rw[HTK.out] at HNM;clear hat6 hf6 HPS5 HA4;cases hs:(t.sort==110)
 ·rw[hs] at HNM;have HL:Hid (r=.error t.line):=by show _=_;rw[HR4.out,hs];show Hs.bad _ _=_;unfold Hs.bad;rw[HTK.out]
  clear hs HR4;go_wp2_with fail;refine HNM.out.mono ?_;rintro e w7 ⟨hf7,he7⟩;obtain rfl:e=dC 4 t.line:=he7;have HF7:=aB (HF6.out.trans hf7);clear hf7;go_wp2_with fail;exact⟨rfl,Out.err HL.out HF7.out⟩
 rw[hs] at HNM
 have HR5:Hid (r=if aX C.ts (p+1) [40] then bU (aQ [99,97,108,108] t.line t.text) (eL E C.ts (p+1) [40] [41])
       else .ok (aQ [110,97,109,101] t.line t.text [],p+1)):=by show _=_;rw[HR4.out,hs];rfl
 clear HR4 hs;go_wp2_with fail;refine HNM.out.mono ?_;rintro e w7 ⟨hf7,he7⟩;obtain⟨rfl,hat7⟩:=he7;have HF7:=aB ((HF6.out.trans hf7).alloc (.cells #[.int .i64 t.line,.string (bs t.text)] 211));have HA5:=aB (dG C (w7.alloc (.cells #[.int .i64 t.line,.string (bs t.text)] 211)) (p+1) ⟨#[40]⟩ (hat7.alloc _));have ed5:(⟨#[40]⟩:ByteArray).data.toList=[40]:=rfl;rw[ed5] at HA5;have HNB:Hid ((w7.alloc (.cells #[.int .i64 t.line,.string (bs t.text)] 211)).heap[w7.heap.size]?=some (.cells #[.int .i64 t.line,.string (bs t.text)] 211 (0,0))):=aT _ _ rfl _;have hnb:w7.heap.size≠C.pb:=by have:=hat7.pb_lt;omega
 have hsz7:=(HF6.out.trans hf7).size;clear hf7 hat7 HNM HF6 ed5;cases i5:aX C.ts (p+1) [40]
 ·rw[i5] at HA5;have HL:Hid (r=.ok (aQ [110,97,109,101] t.line t.text [],p+1)):=by show _=_;rw[HR5.out,i5];rfl
  clear i5 HR5;go_wp2_with fail;refine HA5.out.mono ?_;rintro e w8 ⟨rfl,hat8,hf8⟩;have HN8:=aB (hf8.keepB HNB.out hnb);have HF8:=aB (HF7.out.trans hf8);have HP8:=aB hat8;have c0:=aA HN8.out (i:=0) rfl;have c1:=aA HN8.out (i:=1) rfl;have hz8:=aD HN8.out;clear hat8 hf8 HA5;go_wp2_with fail;go_ret;exact Out.ok HL.out HF8.out HP8.out (PN.mk (Or.inr (Or.inr (Or.inr (Or.inr (Or.inr (Or.inl ⟨rfl,rfl,rfl,rfl,rfl⟩)))))) (fun p hp=>by cases hp))
 ·rw[i5] at HA5;obtain⟨r1,hr1⟩:∃r1,r1=hP E C.ts (p+1+1) [41]:=⟨_,rfl⟩;have HR6:Hid (r=bU (aQ [99,97,108,108] t.line t.text) (aL C.ts [41] r1)):=by show _=_;rw[HR5.out,i5,hr1];unfold eL;rw[i5];rfl
  have HR7:=aB hr1;clear i5 HR5 hr1;go_wp2_with fail;refine HA5.out.mono ?_;rintro e w8 ⟨rfl,hat8,hf8⟩;have HN8:=aB (hf8.keepB HNB.out hnb);have HF8:=aB (HF7.out.trans hf8);have HV:=aB (sX C E HEE.out w8.drew (p+1+1) ⟨#[41]⟩ hat8.drew r1 _ HR7 rfl (fun e=>HNE.out (by rw[HR6.out,e];rfl)))
  have ed6:(⟨#[41]⟩:ByteArray).data.toList=[41]:=rfl;rw[ed6] at HV;have c0:=aA HN8.out (i:=0) rfl;have c1:=aA HN8.out (i:=1) rfl;have hz8:=aD HN8.out;have hsz8:=HF8.out.size;clear hat8 hf8 HA5 ed6;cases hV:aL C.ts [41] r1 with
  |error l=>
   rw[hV] at HV;have HL:Hid (r=.error l):=by show _=_;rw[HR6.out,hV];rfl
   clear hV;go_wp2_with fail;go_region_law (refine thrown (.slice none 0 0) ?_ ?_;(focus go_simp;go_at_call 329;refine HV.out.mono ?_;rintro e w9 ⟨hf9,rfl⟩;exact And.intro rfl (Out.err HL.out (HF8.out.drew.trans hf9)));intro hfalse)
   all_goals exact hfalse.out.elim
  |ok lq=>
   obtain⟨l,q⟩:=lq;rw[hV] at HV;have HL:Hid (r=.ok (aQ [99,97,108,108] t.line t.text l,q)):=by show _=_;rw[HR6.out,hV];rfl
   clear hV;go_wp2_with fail;go_region_law (go_simp;go_at_call 329;refine HV.out.mono ?_;rintro e w9 ⟨hf9,hp9,v,rfl,hk⟩;obtain⟨x,c,rfl⟩:=hk.slice;have HK:=aB hk;have HF9:=aB hf9;have HP9:=aB hp9;have HN9:=aB (((Fr.refl C.pb w8).drew.trans hf9).keepB HN8.out hnb);have d0:=aA HN9.out (i:=0) rfl;have d1:=aA HN9.out (i:=1) rfl;have hz9:=aD HN9.out;clear hf9 hp9 hk)
   all_goals (go_wp2_with fail;go_ret)
   all_goals exact Out.ok HL.out (HF8.out.drew.trans HF9.out) HP9.out (PN.mk (Or.inr (Or.inr (Or.inr (Or.inr (Or.inl ⟨rfl,_,rfl,rfl,rfl⟩))))) (fun p hp=>by obtain rfl:=o8.1 hp;exact Prt.ok.list (HK.out.grow (fun _ _ _=>rfl) hsz8 (l9 _))))
abbrev N6(W:World)(b l:Nat):Prop:=W.heap[b]?=some (.cells #[.int .i64 l] 209 (0,0))
theorem N6.new(w:World)(l:Nat):N6 (w.alloc (.cells #[.int .i64 l] 209)) w.heap.size l:=aT _ _ rfl _
def MF(C:Ctx)(E:Nat->bS aC)(w:World)(r:bS aC)(tb l:Nat)(k:Nat)(v:Value)(wr:World):Prop:=
 Fr C.pb w wr/\∃q a,PAt C wr q/\r=cZ E C.ts k a q/\PN (Btw w.heap.size wr.heap.size) wr v a/\N6 wr tb l
theorem H9(C:Ctx)(E:Nat->bS aC)(HE:PReads C 164 E):PReads C 349 (fun p=>bO (dW E C.ts p) (cZ E C.ts (C.ts.length+1))):=by
 intro w p h hne;have HPL:=aB (mG C w p h);have hne1:dW E C.ts p≠.error 0:=fun e=>hne (by show bO _ _=_;rw[e];rfl)
 have HPR:=aB (fun w1 (hb:Below w.heap.size w w1)=>NX C E HE w1 p (h.below hb) hne1)
 have HEE:=aB HE;have hpb:=h.pb_lt;obtain⟨r,hr⟩:∃r,r=bO (dW E C.ts p) (cZ E C.ts (C.ts.length+1)):=⟨_,rfl⟩;have hne2:r≠.error 0:=hr▸hne;show Calls _ _ _ _ (GJ C w (bO (dW E C.ts p) (cZ E C.ts (C.ts.length+1))))
 rw[<-hr];have HR:=aB hr;have HNE:=aB hne2;clear h HE hne hr hne1 hne2;generalize (aO C.ts p).line=pl at*;cases hpr:dW E C.ts p with
 |error l=>
  have HL:Hid (r=.error l):=by show _=_;rw[HR.out,hpr];rfl
  rw[hpr] at HPR;clear hpr HR;go_enter Tryz.func349,Tryz.ntmps349;go_wp2_with fail;refine HPL.out.mono ?_;rintro e w1 ⟨rfl,hb1⟩;have HB1:=aB hb1;clear hb1;go_wp2_with fail;refine(HPR.out w1 HB1.out).mono ?_;rintro e w2 ⟨hf2,rfl⟩;have HF2:=aB ((Fr.below HB1.out).trans hf2);clear hf2;go_wp2_with fail;exact⟨rfl,Out.err HL.out HF2.out⟩
 |ok aq=>
  obtain⟨a0,q0⟩:=aq;have HL:Hid (r=cZ E C.ts (C.ts.length+1) a0 q0):=by show _=_;rw[HR.out,hpr];rfl
  rw[hpr] at HPR;clear hpr HR;go_enter Tryz.func349,Tryz.ntmps349;go_wp2_with fail;refine HPL.out.mono ?_;rintro e w1 ⟨rfl,hb1⟩;have HB1:=aB hb1;clear hb1;go_wp2_with fail;refine(HPR.out w1 HB1.out).mono ?_;rintro e w2 ⟨hf2,hp2,v2,rfl,hn2⟩;have hs1:=HB1.out.size;have hs2:=hf2.size
  have HI:Hid (MF C E w r w2.heap.size pl (C.ts.length+1) v2 (w2.alloc (.cells #[.int .i64 pl] 209))):=
   ⟨((Fr.below HB1.out).trans hf2).alloc _,q0,a0,hp2.alloc _,HL.out,hn2.grow (fun k _ h2=>o9 _ _ _ h2) hs1 (by simp),N6.new _ _⟩
  obtain⟨T2,cs2,rfl⟩:=hn2.form;clear hf2 hp2 hn2 HL HPR HPL;go_wp2_with fail;go_loopg [4] (C.ts.length+1) (fun k v wr=>MF C E w r w2.heap.size pl k v wr)
  case atStart=>exact HI.out
  case round=>
   obtain⟨hf3,q,a,hp3,hr3,hn3,hpl3⟩:=hrel;obtain⟨T3,cs3,rfl⟩:=hn3.form
   obtain⟨k,rfl⟩:∃k,gk=k+1:=by
    cases gk with
    |zero=>exact absurd hr3 HNE.out
    |succ k=>exact⟨k,rfl⟩
   have HA:=aB (dG C wr q ⟨#[91]⟩ hp3);have ed:(⟨#[91]⟩:ByteArray).data.toList=[91]:=rfl;rw[ed] at HA;have HF3:=aB hf3;have HN3:=aB hn3;have HP3:=aB hpl3;have hs3:=hf3.size;clear hf3 hp3 hn3 hpl3 ed HI;cases hit:aX C.ts q [91]
   ·have HL:Hid (r=.ok (a,q)):=by show _=_;rw[hr3,cZ,hit];rfl
    rw[hit] at HA;clear hit hr3;go_wp2_with fail;refine HA.out.mono ?_;rintro e w4 ⟨rfl,hp4,hf4⟩;have HF4:=aB hf4;have HP4:=aB hp4;clear hf4 hp4;go_wp2_with fail;go_ret;exact Out.ok HL.out (HF3.out.trans HF4.out) HP4.out (HN3.out.grow (fun k h1 h2=>HF4.out.block k h2 (by omega)) (l9 _) HF4.out.size)
   ·obtain⟨rE,hrE⟩:∃rE,rE=E (q+1):=⟨_,rfl⟩;have HR4:Hid (r=match aL C.ts [93] rE with|.error l=>.error l|.ok (i,q')=>cZ E C.ts k (aQ [105,110,100,101,120] (aO C.ts q).line [] [a,i]) q'):=by show _=_;rw[hr3,cZ,hit,hrE];rfl
    rw[hit] at HA;have HRE:=aB hrE;clear hit hr3 hrE;have hE0:E (q+1)≠.error 0:=fun e=>HNE.out (by rw[HR4.out,HRE.out,e];rfl)
    go_wp2_with fail;refine HA.out.mono ?_;rintro e w4 ⟨rfl,hp4,hf4⟩;have HX:=aB (HEE.out w4.drew (q+1) hp4.drew hE0);rw[<-HRE.out] at HX;have HN4:=aB (HN3.out.grow (fun k h1 h2=>hf4.block k h2 (by omega)) (l9 _) hf4.size)
    have HP4:=aB (hf4.keepB HP3.out (by omega))
    have HF4:=aB (HF3.out.trans hf4);have c0:=aA HP4.out (i:=0) rfl;have hz4:=aD HP4.out;have hs4:=hf4.size;clear hf4 hp4 HN3 HP3 HF3 HA hE0;cases rE with
    |error l=>
     have HL:Hid (r=.error l):=HR4.out;go_wp2_with fail;go_region_law (refine thrown .nilIface ?_ ?_;(focus go_simp;go_at_call 164;refine HX.out.mono ?_;rintro e w5 ⟨hf5,rfl⟩;exact And.intro rfl (Out.err HL.out (HF4.out.drew.trans hf5)));intro hfalse)
     all_goals exact hfalse.out.elim
    |ok iq=>
     obtain⟨i,q5⟩:=iq;have HXP:=aB (fun w5 (h:PAt C w5 q5)=>fU C w5 q5 ⟨#[93]⟩ h)
     have ed:(⟨#[93]⟩:ByteArray).data.toList=[93]:=rfl;rw[ed] at HXP;clear ed;go_wp2_with fail;go_cut [4] (fun v wc=>Fr C.pb w wc/\PAt C wc q5/\PN (Btw w.heap.size wc.heap.size) wc v (aQ [105,110,100,101,120] (aO C.ts q).line [] [a,i])/\N6 wc w2.heap.size pl)
     case first=>
      go_region_law (go_simp;go_at_call 164;refine HX.out.mono ?_;rintro e w5 ⟨hf5,hp5,v5,rfl,hn5⟩;obtain⟨T5,cs5,rfl⟩:=hn5.form;have HN5:=aB hn5;have HF5:=aB hf5;have HA5:=aB hp5;have HP5:=aB (((Fr.refl C.pb w4).drew.trans hf5).keepB HP4.out (by omega));have d0:=aA HP5.out (i:=0) rfl;have hz5:=aD HP5.out;clear hf5 hp5 hn5)
      all_goals
       go_wp2_with fail;go_meet
       case rel=>
        have hs5:=HF5.out.size
        exact⟨HF4.out.drew.trans HF5.out,HA5.out,PN.mk (Or.inr (Or.inr (Or.inr (Or.inr (Or.inr (Or.inr (Or.inl ⟨rfl,pl,_,_,a,i,rfl,rfl,rfl,rfl⟩))))))) (fun p hp=>by
         simp only[p8,s7,or_false] at hp;rcases hp with rfl|rfl
         ·exact Prt.ok.node (HN4.out.grow (fun k h1 h2=>HF5.out.block k h2 (by omega)) (l9 _) hs5)
         ·exact Prt.ok.node (HN5.out.grow (fun _ _ _=>rfl) (by have:=HF4.out.size;exact this) (l9 _))),HP5.out⟩
     case rest=>
      obtain⟨hf6,hp6,hn6,hpl6⟩:=hcut;obtain⟨T6,cs6,rfl⟩:=hn6.form;have HXP6:=aB (HXP.out _ hp6);have HF6:=aB hf6;have HN6:=aB hn6;have HP6:=aB hpl6;have hs6:=hf6.size;clear hf6 hp6 hn6 hpl6 HXP HX c0 hz4;cases hit:aX C.ts q5 [93]
      ·have HL:Hid (r=.error (aO C.ts q5).line):=by show _=_;rw[HR4.out,xF hit]
       rw[hit] at HXP6;clear hit HR4;go_wp2_with fail;refine HXP6.out.mono ?_;rintro e w7 ⟨hf7,he7⟩;obtain rfl:e=dC 4 (aO C.ts q5).line:=he7;have HF7:=aB (HF6.out.trans hf7);clear hf7;go_wp2_with fail;exact⟨rfl,Out.err HL.out HF7.out⟩
      ·have HL:Hid (r=cZ E C.ts k (aQ [105,110,100,101,120] (aO C.ts q).line [] [a,i]) (q5+1)):=by show _=_;rw[HR4.out,nM hit]
       rw[hit] at HXP6;clear hit HR4;go_wp2_with fail;refine HXP6.out.mono ?_;rintro e w7 ⟨hf7,he7⟩;obtain⟨rfl,hp7⟩:=he7
       have HI7:Hid (MF C E w r w2.heap.size pl k (.iface T6 (.agg cs6)) w7):=
        ⟨HF6.out.trans hf7,q5+1,_,hp7,HL.out,HN6.out.grow (fun k h1 h2=>hf7.block k h2 (by omega)) (l9 _) hf7.size,hf7.keepB HP6.out (by omega)⟩
       clear hf7 hp7;go_wp2_with fail;go_roundg k
       case measure=>omega
       case rel=>exact HI7.out
end Go.Proofs.YtblbkfdhjfppkaaGreatDoor
