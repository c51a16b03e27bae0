/- Contracts of the program: strings and marks. -/
import Derived.Test.YtblbkfdhjfppkaaGreatDoorP10
set_option linter.defProp false
set_option maxRecDepth 100000
set_option maxHeartbeats 4000000
namespace Go.Proofs.YtblbkfdhjfppkaaGreatDoor
open Hs
open _root_.Go.Proofs.Tryz
open Go.RowKit
abbrev ZTok(w:World)(b:Nat):Prop:=w.heap[b]?=some (.cells #[.int .i64 0,.string ⟨#[]⟩,.int .i64 0,.int .i64 0] 206 (0,0))
def XU(sb:Nat)(a:ByteArray)(n L:Nat)(w:World)(h:SC sb a n L w)(hs:a.size<=2000000000)(hn:n<a.size):
 Calls prog 254 #[.pointer (some ⟨sb,0,none⟩)] w (P9 sb a n L w (nJ (a.data.toList.drop (n+1)))):=by
 obtain⟨m,Y⟩:∃m,m=n+1:=⟨_,rfl⟩;rw[<-Y];obtain⟨f,y⟩:∃f,f=bL eZ (a.data.toList.drop m):=⟨_,rfl⟩
 have ak:f<=a.size-m:=by
  have:=kK eZ (a.data.toList.drop m);rw[y];simpa using this
 obtain⟨k,hk⟩:∃k,k=m+f:=⟨_,rfl⟩;have ad:=(SC.cells h).1;have z:w.heap.size≠sb:=by omega
 have h1:SC sb a n L (w.alloc (.cells #[.int .i64 0,.string ⟨#[]⟩,.int .i64 0,.int .i64 0] 206)):=by unfold SC;rw[aA_ _ _ _ ad];exact h
 have HZ:Hid (ZTok (w.alloc (.cells #[.int .i64 0,.string ⟨#[]⟩,.int .i64 0,.int .i64 0] 206)) w.heap.size):=aM _ _ rfl _;have K:=aB (oA sb a n L 1 (w.alloc (.cells #[.int .i64 0,.string ⟨#[]⟩,.int .i64 0,.int .i64 0] 206)) h1 hs (by omega))
 rw[<-Y] at K;have E:=aB (fun w=>uS eZ 301 (fun _ _=>rfl) LE (a.extract m a.size) w (by rw[rR];omega))
 rw[mX,<-y] at E;obtain⟨B,s⟩:∃B,B=(a.data.toList.drop m).take f:=⟨_,rfl⟩;have af:(bs B).size=f:=by rw[gA,s,bc_];simp;omega
 obtain⟨ok,b⟩:∃ok,ok=(decide ((a.data.toList.drop m)[f]?=some 34) && decide (f<=100)):=⟨_,rfl⟩
 have HW:Hid (nJ (a.data.toList.drop m)={ sort:=115,text:=B,size:=f+2,ok:=ok }):=by
  show _=_
  unfold nJ;rw[<-y,<-s,<-b]
 rw[HW.out];have ab:=aB s;have g:=aB b;have P:Hid (Fr sb w (w.alloc (.cells #[.int .i64 0,.string ⟨#[]⟩,.int .i64 0,.int .i64 0] 206))):=(Fr.refl _ _).alloc _;have HM:=aB Y;have O:=aB hk;have ah:m<=a.size:=by omega
 have ag:k<=a.size:=by omega
 clear h h1 y s HW b Y hk;generalize c:({ sort:=115,text:=B,size:=f+2,ok:=ok }:pA)=rr;have j:=aB c;clear c;go_enter func254,ntmps254;go_wp2_with fail;refine K.out.mono ?_;rintro e w1 ⟨rfl,J,M⟩;have T:=aB (M.keepS HZ.out z);have HZ1d:Hid (ZTok w1.drew w.heap.size):=T.out;have t:=aB (oA sb a m L f w1.drew J hs (by omega))
 rw[<-O.out] at t;rw[<-ab.out] at t;have N:=aB (P.out.trans M);obtain⟨h0,c0,X,V,Z,W⟩:=J.cells;clear J M K HZ P;go_wp2_with fail;go_cut [3] (fun v wc=>v=.string (bs B)/\SC sb a (k) L wc/\Fr sb w wc/\ZTok wc w.heap.size)
 case first=>
  go_region_law (first|(go_simp;go_at_call 248;refine(E.out _).mono ?_;rintro e w2 ⟨rfl,I⟩;obtain rfl:=I.symm)|(go_simp;go_at_call 296;refine t.out.mono ?_;rintro e w2 ⟨rfl,o,p⟩;have u:=aB o;have r:=aB (N.out.drew.trans p);have x:=aB (p.keepS HZ1d.out z);clear o p))
  all_goals
   go_wp2_with fail;go_meet
   case rel=>exact⟨rfl,u.out,r.out,x.out⟩
 case rest=>
  obtain⟨rfl,o,p,Q⟩:=hcut;clear c0 X V Z W h0;obtain⟨h0,c0,X,V,Z,W⟩:=o.cells;have u:=aB o;have r:=aB p;have x:=aB Q;clear o p Q t E T HZ1d N;have H:=aB (fun q=>rQ sb a (k) L (wc.drewN q) u.out)
  by_cases A:f<=100
  rotate_left
  ·have e1:decide ((100:Int)<(f:Int))=true:=decide_eq_true (by omega)
   have b:ok=false:=by rw[g.out,decide_eq_false A,Bool.and_false]
   subst b;have c:=j.out;clear j g;subst c;go_wp2_with fail;go_quiet (fail)
   go_wp2_with fail;refine(H.out _).mono ?_;rintro e w3 ⟨rfl,I⟩;obtain rfl:=I.symm;go_wp2_with fail;exact⟨rfl,r.out.drewN _,as_ ⟨rfl,rfl⟩⟩
  have e1:decide ((100:Int)<(f:Int))=false:=decide_eq_false (by omega)
  by_cases ai:k=a.size
  ·have e2:((k:Int)==(a.size:Int))=true:=by simp;omega
   have b:ok=false:=by
    rw[g.out,a4_ (by have:=O.out;simp;omega)];simp
   subst b;have c:=j.out;clear j g;subst c;go_wp2_with fail;go_quiet (fail)
   go_wp2_with fail;refine(H.out _).mono ?_;rintro e w3 ⟨rfl,I⟩;obtain rfl:=I.symm;go_wp2_with fail;exact⟨rfl,r.out.drewN _,as_ ⟨rfl,rfl⟩⟩
  have aa:k<a.size:=by omega
  have e2:((k:Int)==(a.size:Int))=false:=by simp;omega
  have hb:(a[k].toNat:Int)<=255:=nP _
  have l:(a.data.toList.drop m)[f]?=some a[k]:=by
   have e:=FN a m f (by rw[<-O.out];exact aa)
   rw[e];congr 1
   simp only[O.out]
  by_cases F:a[k].toNat=34
  ·have b:ok=true:=by
    rw[g.out,l,decide_eq_true A,Bool.and_true];exact decide_eq_true (congrArg some (bT_.1 F))
   subst b;have c:=j.out;clear j g l;subst c;have S:((a[k].toNat:Int) != 34)=false:=by simp;omega
   have aj:w.heap.size<wc.heap.size:=aD x.out;have U:=aB (fun q=>oA sb a (k) L 1 (wc.drewN q) u.out hs (by omega))
   clear F;go_wp2_with fail;go_quiet (fail)
   go_wp2_with fail;refine(U.out _).mono ?_;rintro e w3 ⟨rfl,D,G⟩;have d:=aB ((((Fr.refl sb wc).drewN _).trans G).keepS x.out z);have ae:=aB ((r.out.drewN _).trans G);have ac:=aB D;have z0:=aA d.out (i:=0) rfl;have z1:=aA d.out (i:=1) rfl;have z2:=aA d.out (i:=2) rfl;have z3:=aA d.out (i:=3) rfl;have y0:=aE (i:=0) d.out;have y1:=aE (i:=1) d.out;have y2:=aE (i:=2) d.out;have y3:=aE (i:=3) d.out;have al:=aD d.out;clear c0 X V Z W h0;obtain⟨h0,c0,X,V,Z,W⟩:=D.cells;clear D G U;go_wp2_with fail;refine bodyPost_ret (v:=.agg #[.int .i64 3,.string (bs B),.int .i64 0,.int .i64 L]) (by simp[results,results254,go_sem,z0,z1,z2,z3]) rfl ?_
   have C:=mD ae.out ac.out (au_ _) z (.int .i64 3) (.string (bs B)) (.int .i64 0) (.int .i64 L);exact⟨C.1,av_ ⟨rfl,rfl,by rw[show n+(f+2)=k+1 by have:=HM.out;have:=O.out;omega];exact C.2⟩⟩
  ·have b:ok=false:=by
    rw[g.out,l,decide_eq_false (fun e=>F (by rw[Option.some.inj e];rfl))];rfl
   subst b;have c:=j.out;clear j g l;subst c;have S:((a[k].toNat:Int) != 34)=true:=by simp;omega
   go_wp2_with fail;go_quiet (fail)
   go_wp2_with fail;refine(H.out _).mono ?_;rintro e w3 ⟨rfl,I⟩;obtain rfl:=I.symm;go_wp2_with fail;exact⟨rfl,r.out.drewN _,as_ ⟨rfl,rfl⟩⟩
structure PTabs(w:World):Prop where
 tab:∃t fr,w.heap[(6:Nat)]?=some (.cells #[.string ⟨#[61,61]⟩,.string ⟨#[33,61]⟩,.string ⟨#[60,61]⟩,.string ⟨#[38,38]⟩,.string ⟨#[124,124]⟩,.string ⟨#[40]⟩,.string ⟨#[41]⟩,.string ⟨#[123]⟩,.string ⟨#[125]⟩,.string ⟨#[91]⟩,.string ⟨#[93]⟩,.string ⟨#[44]⟩,.string ⟨#[59]⟩,.string ⟨#[61]⟩,.string ⟨#[60]⟩,.string ⟨#[43]⟩,.string ⟨#[45]⟩,.string ⟨#[42]⟩,.string ⟨#[47]⟩,.string ⟨#[37]⟩,.string ⟨#[33]⟩] t fr)
 big:11<=w.heap.size
def PTabs.fr{w w':World}{sb:Nat}(h:PTabs w)(a:Fr sb w w')(d:11<=sb):PTabs w':=by
 obtain⟨t,c,b⟩:=h.tab;have:=h.big;have:=a.size;exact⟨⟨t,c,by rw[a.block 6 (by omega) (by omega)];exact b⟩,by omega⟩
abbrev gC:Value:=.agg #[.string ⟨#[61,61]⟩,.string ⟨#[33,61]⟩,.string ⟨#[60,61]⟩,.string ⟨#[38,38]⟩,.string ⟨#[124,124]⟩,.string ⟨#[40]⟩,.string ⟨#[41]⟩,.string ⟨#[123]⟩,.string ⟨#[125]⟩,.string ⟨#[91]⟩,.string ⟨#[93]⟩,.string ⟨#[44]⟩,.string ⟨#[59]⟩,.string ⟨#[61]⟩,.string ⟨#[60]⟩,.string ⟨#[43]⟩,.string ⟨#[45]⟩,.string ⟨#[42]⟩,.string ⟨#[47]⟩,.string ⟨#[37]⟩,.string ⟨#[33]⟩]
def A4(w:World):(Instr.index 300 gC (.int .i64 0)).run prog w=.ok (.string ⟨#[61,61]⟩) w:=by kernel_rfl
def A0(w:World):(Instr.index 300 gC (.int .i64 1)).run prog w=.ok (.string ⟨#[33,61]⟩) w:=by kernel_rfl
def ZZ(w:World):(Instr.index 300 gC (.int .i64 2)).run prog w=.ok (.string ⟨#[60,61]⟩) w:=by kernel_rfl
def ZY(w:World):(Instr.index 300 gC (.int .i64 3)).run prog w=.ok (.string ⟨#[38,38]⟩) w:=by kernel_rfl
def ZX(w:World):(Instr.index 300 gC (.int .i64 4)).run prog w=.ok (.string ⟨#[124,124]⟩) w:=by kernel_rfl
def ZW(w:World):(Instr.index 300 gC (.int .i64 5)).run prog w=.ok (.string ⟨#[40]⟩) w:=by kernel_rfl
def ZV(w:World):(Instr.index 300 gC (.int .i64 6)).run prog w=.ok (.string ⟨#[41]⟩) w:=by kernel_rfl
def ZU(w:World):(Instr.index 300 gC (.int .i64 7)).run prog w=.ok (.string ⟨#[123]⟩) w:=by kernel_rfl
def ZT(w:World):(Instr.index 300 gC (.int .i64 8)).run prog w=.ok (.string ⟨#[125]⟩) w:=by kernel_rfl
def ZS(w:World):(Instr.index 300 gC (.int .i64 9)).run prog w=.ok (.string ⟨#[91]⟩) w:=by kernel_rfl
def UI(w:World):(Instr.index 300 gC (.int .i64 10)).run prog w=.ok (.string ⟨#[93]⟩) w:=by kernel_rfl
def UH(w:World):(Instr.index 300 gC (.int .i64 11)).run prog w=.ok (.string ⟨#[44]⟩) w:=by kernel_rfl
def UG(w:World):(Instr.index 300 gC (.int .i64 12)).run prog w=.ok (.string ⟨#[59]⟩) w:=by kernel_rfl
def UF(w:World):(Instr.index 300 gC (.int .i64 13)).run prog w=.ok (.string ⟨#[61]⟩) w:=by kernel_rfl
def UE(w:World):(Instr.index 300 gC (.int .i64 14)).run prog w=.ok (.string ⟨#[60]⟩) w:=by kernel_rfl
def UD(w:World):(Instr.index 300 gC (.int .i64 15)).run prog w=.ok (.string ⟨#[43]⟩) w:=by kernel_rfl
def UC(w:World):(Instr.index 300 gC (.int .i64 16)).run prog w=.ok (.string ⟨#[45]⟩) w:=by kernel_rfl
def UB(w:World):(Instr.index 300 gC (.int .i64 17)).run prog w=.ok (.string ⟨#[42]⟩) w:=by kernel_rfl
def UA(w:World):(Instr.index 300 gC (.int .i64 18)).run prog w=.ok (.string ⟨#[47]⟩) w:=by kernel_rfl
def TZ(w:World):(Instr.index 300 gC (.int .i64 19)).run prog w=.ok (.string ⟨#[37]⟩) w:=by kernel_rfl
def TY(w:World):(Instr.index 300 gC (.int .i64 20)).run prog w=.ok (.string ⟨#[33]⟩) w:=by kernel_rfl
def M8(k:Nat)(a:k<21)(w:World):(Instr.index 300 gC (.int .i64 k)).run prog w=.ok (.string (bs (cM[k]'(by simpa [cM] using a)))) w:=by
 match k,a with
 |0,_=>exact A4 w
 |1,_=>exact A0 w
 |2,_=>exact ZZ w
 |3,_=>exact ZY w
 |4,_=>exact ZX w
 |5,_=>exact ZW w
 |6,_=>exact ZV w
 |7,_=>exact ZU w
 |8,_=>exact ZT w
 |9,_=>exact ZS w
 |10,_=>exact UI w
 |11,_=>exact UH w
 |12,_=>exact UG w
 |13,_=>exact UF w
 |14,_=>exact UE w
 |15,_=>exact UD w
 |16,_=>exact UC w
 |17,_=>exact UB w
 |18,_=>exact UA w
 |19,_=>exact TZ w
 |20,_=>exact TY w
 |k+21,h=>exact absurd h (by omega)
def XY(sb:Nat)(a:ByteArray)(n L:Nat)(w:World)(h:SC sb a n L w)(O:PTabs w)(hs:a.size<=2000000000)(hn:n<a.size)(r:pA)(hr:Hid (gG (a.data.toList.drop n)=r)):
 Calls prog 255 #[.pointer (some ⟨sb,0,none⟩)] w (P9 sb a n L w r):=by
 have S:=(SC.cells h).1;have K:w.heap.size≠sb:=by omega
 have aa:=O.big;have ah:n<=a.size:=by omega
 have B:SC sb a n L (w.alloc (.cells #[.int .i64 0,.string ⟨#[]⟩,.int .i64 0,.int .i64 0] 206)):=by unfold SC;rw[aA_ _ _ _ S];exact h
 have X:Hid (ZTok (w.alloc (.cells #[.int .i64 0,.string ⟨#[]⟩,.int .i64 0,.int .i64 0] 206)) w.heap.size):=aM _ _ rfl _;have H:Hid (Fr sb w (w.alloc (.cells #[.int .i64 0,.string ⟨#[]⟩,.int .i64 0,.int .i64 0] 206))):=(Fr.refl _ _).alloc _;obtain⟨tt,fr,l⟩:=O.tab;have d:(w.alloc (.cells #[.int .i64 0,.string ⟨#[]⟩,.int .i64 0,.int .i64 0] 206)).heap[(6:Nat)]?=_:=oU w 6 (by omega) _ l
 have p:(prog.info? 300).map (·.size)=some (#[.string ⟨#[61,61]⟩,.string ⟨#[33,61]⟩,.string ⟨#[60,61]⟩,.string ⟨#[38,38]⟩,.string ⟨#[124,124]⟩,.string ⟨#[40]⟩,.string ⟨#[41]⟩,.string ⟨#[123]⟩,.string ⟨#[125]⟩,.string ⟨#[91]⟩,.string ⟨#[93]⟩,.string ⟨#[44]⟩,.string ⟨#[59]⟩,.string ⟨#[61]⟩,.string ⟨#[60]⟩,.string ⟨#[43]⟩,.string ⟨#[45]⟩,.string ⟨#[42]⟩,.string ⟨#[47]⟩,.string ⟨#[37]⟩,.string ⟨#[33]⟩]:Array Value).size:=by kernel_rfl
 have y:∀(k:Nat) (Y:k<21) (w:World),(Instr.index 300 (.agg #[.string ⟨#[61,61]⟩,.string ⟨#[33,61]⟩,.string ⟨#[60,61]⟩,.string ⟨#[38,38]⟩,.string ⟨#[124,124]⟩,.string ⟨#[40]⟩,.string ⟨#[41]⟩,.string ⟨#[123]⟩,.string ⟨#[125]⟩,.string ⟨#[91]⟩,.string ⟨#[93]⟩,.string ⟨#[44]⟩,.string ⟨#[59]⟩,.string ⟨#[61]⟩,.string ⟨#[60]⟩,.string ⟨#[43]⟩,.string ⟨#[45]⟩,.string ⟨#[42]⟩,.string ⟨#[47]⟩,.string ⟨#[37]⟩,.string ⟨#[33]⟩]) (.int .i64 k)).run prog w=.ok (.string (bs (cM[k]'(by simpa [cM] using Y)))) w:=M8
 generalize (#[.string ⟨#[61,61]⟩,.string ⟨#[33,61]⟩,.string ⟨#[60,61]⟩,.string ⟨#[38,38]⟩,.string ⟨#[124,124]⟩,.string ⟨#[40]⟩,.string ⟨#[41]⟩,.string ⟨#[123]⟩,.string ⟨#[125]⟩,.string ⟨#[91]⟩,.string ⟨#[93]⟩,.string ⟨#[44]⟩,.string ⟨#[59]⟩,.string ⟨#[61]⟩,.string ⟨#[60]⟩,.string ⟨#[43]⟩,.string ⟨#[45]⟩,.string ⟨#[42]⟩,.string ⟨#[47]⟩,.string ⟨#[37]⟩,.string ⟨#[33]⟩]:Array Value)=Z at d p y;have HIXX:=aB y;have HTAB:=aB d;have U:=aB p;clear l d p y;have W:=aB B;clear h B O;go_enter func255,ntmps255;go_wp2_with (refine wpList_load_row rfl 300 (.global 6) rfl 6 (by rfl) tt Z fr (.array 21 9) HTAB.out underlying300 rfl U.out ?_)
 go_loopg [4,6] 21 (fun gk _ i wr=>∃k:Nat,k+gk=21/\i=.int .i64 k/\Hid (wQ (a.data.toList.drop n) k)/\SC sb a n L wr/\Fr sb w wr/\ZTok wr w.heap.size)
 case atStart=>exact⟨0,by omega,rfl,fun o ho=>(by simp at ho),W.out,H.out,X.out⟩
 case round=>
  obtain⟨k,Y,rfl,A,s,J,I⟩:=hrel;obtain⟨h0,c0,c1,c2,f1,f2⟩:=s.cells;have z:=aB s;have t:=aB J;have u:=aB I;clear s J I X H W;by_cases f:k<21
  ·obtain⟨j,rfl⟩:∃j,gk=j+1:=⟨gk-1,by omega⟩
   obtain⟨q,N⟩:∃q,q=cM[k]'(by simpa [cM] using f):=⟨_,rfl⟩
   have ab:∀w,(Instr.index 300 (.agg Z) (.int .i64 k)).run prog w=.ok (.string (bs q)) w:=fun w=>by rw[N];exact HIXX.out k f w
   have ag:q.length<=2:=by rw[N];exact KT k f
   have af:(bs q).size=q.length:=gA q;have M:Hid (q=cM[k]'(by simpa [cM] using f)):=N
   clear N;have g:=aB (fun w=>CH (a.extract n a.size) (bs q) w (by rw[rR];omega) (by rw[gA];omega))
   rw[mX,fS] at g;cases b:cN (a.data.toList.drop n) q
   ·rw[b] at g;have F:Hid (wQ (a.data.toList.drop n) (k+1)):=OQ f A.out (by rw[<-M.out];exact b)
    clear A M b;go_wp2_with fail;go_quiet ((go_at_call 247;exact Calls.quiet_of_same (g.out _)))
    go_wp2_with fail;go_roundg j
    case measure=>omega
    case rel=>exact⟨k+1,by omega,by go_num,F,z.out,t.out.drewN _,u.out⟩
   ·rw[b] at g;have F:Hid (r={ sort:=112,text:=q,size:=q.length,ok:=true }):=by rw[<-hr.out];exact TK f A.out q M.out b
    have Q:n+q.length<=a.size:=by
     have:=kU b;simp at this;omega
    have HTXT:Hid ((a.data.toList.drop n).take q.length=q):=by
     show _=_
     have B:=b;unfold cN at B;rw[lY _ _ (kU b)] at B;simpa using B
    have C:=aB (fun E=>oA sb a n L q.length (wr.drewN E) z.out hs Q)
    rw[HTXT.out] at C;have T:Hid (∀E,ZTok (wr.drewN E) w.heap.size):=fun _=>u.out
    have ad:Hid (∀E,w.heap.size<(wr.drewN E).heap.size):=fun _=>aD u.out
    clear A M b;go_wp2_with fail;go_quiet ((go_at_call 247;exact Calls.quiet_of_same (g.out _)))
    go_wp2_with fail;go_region_law (go_simp;go_at_call 296;refine(C.out _).mono ?_;rintro e w2 ⟨rfl,D,x⟩;have G:=aB D;have V:=aB ((t.out.drewN _).trans x);have c:=aB (x.keepS (T.out _) K);have ac:=(SC.cells G.out).2.2.2.1;have z0:=aA c.out (i:=0) rfl;have z1:=aA c.out (i:=1) rfl;have z2:=aA c.out (i:=2) rfl;have z3:=aA c.out (i:=3) rfl;have y0:=aE (i:=0) c.out;have y1:=aE (i:=1) c.out;have y2:=aE (i:=2) c.out;have y3:=aE (i:=3) c.out;have ae:=aD c.out;clear D x)
    all_goals
     go_wp2_with fail;rw[F.out];refine bodyPost_ret (v:=.agg #[.int .i64 0,.string (bs q),.int .i64 0,.int .i64 L]) (by simp[results,results255,go_sem,z0,z1,z2,z3]) rfl ?_
     have m:=mD V.out G.out (au_ _) K (.int .i64 0) (.string (bs q)) (.int .i64 0) (.int .i64 L);exact⟨m.1,av_ ⟨rfl,rfl,m.2⟩⟩
  ·obtain rfl:k=21:=by omega
   have F:Hid (r={ sort:=0,text:=[],size:=0,ok:=false }):=by rw[<-hr.out];exact OJ A.out
   have P:=aB (rQ sb a n L wr z.out);clear A;go_wp2_with fail;refine P.out.mono ?_;rintro e w3 ⟨rfl,hw⟩;obtain rfl:=hw.symm;go_wp2_with fail;rw[F.out];exact⟨rfl,t.out,as_ ⟨rfl,rfl⟩⟩
end Go.Proofs.YtblbkfdhjfppkaaGreatDoor
