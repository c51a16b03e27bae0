/- Contracts of the program: strings and marks. -/
import Derived.Test.YtblbkfdhjfppkaaGreatDoorP10
set_option linter.defProp false
set_option maxRecDepth 100000
set_option maxHeartbeats 4000000
namespace Go.Proofs.YtblbkfdhjfppkaaGreatDoor
open Hs
open _root_.Go.Proofs.Tryz(prog)
open Go.RowKit
abbrev ZTok(w:World)(b:Nat):Prop:=w.heap[b]?=some (.cells #[.int .i64 0,.string ⟨#[]⟩,.int .i64 0,.int .i64 0] 206 (0,0))
def XU(sb:Nat)(a:ByteArray)(n L:Nat)(w:World)(h:SC sb a n L w)(hs:a.size<=2000000000)(hn:n<a.size):
 Calls prog 254 #[.pointer (some ⟨sb,0,none⟩)] w (P9 sb a n L w (nJ (a.data.toList.drop (n+1)))):=by
 obtain⟨m,hm⟩:∃m,m=n+1:=⟨_,rfl⟩;rw[<-hm];obtain⟨j,u⟩:∃j,j=bL eZ (a.data.toList.drop m):=⟨_,rfl⟩
 have aj:j<=a.size-m:=by
  have:=kK eZ (a.data.toList.drop m);rw[u];simpa using this
 obtain⟨k,hk⟩:∃k,k=m+j:=⟨_,rfl⟩;have ac:=(SC.cells h).1;have y:w.heap.size≠sb:=by omega
 have h1:SC sb a n L (w.alloc (.cells #[.int .i64 0,.string ⟨#[]⟩,.int .i64 0,.int .i64 0] 206)):=by unfold SC;rw[aA_ _ _ _ ac];exact h
 have HZ:Hid (ZTok (w.alloc (.cells #[.int .i64 0,.string ⟨#[]⟩,.int .i64 0,.int .i64 0] 206)) w.heap.size):=aM _ _ rfl _;have F:=aB (oA sb a n L 1 (w.alloc (.cells #[.int .i64 0,.string ⟨#[]⟩,.int .i64 0,.int .i64 0] 206)) h1 hs (by omega))
 rw[<-hm] at F;have H:=aB (fun w=>uS eZ 301 (fun _ _=>rfl) LE (a.extract m a.size) w (by rw[rR];omega))
 rw[mX,<-u] at H;obtain⟨A,z⟩:∃A,A=(a.data.toList.drop m).take j:=⟨_,rfl⟩;have ai:(bs A).size=j:=by rw[gA,z,bc_];simp;omega
 obtain⟨ok,b⟩:∃ok,ok=(decide ((a.data.toList.drop m)[j]?=some 34) && decide (j<=100)):=⟨_,rfl⟩
 have HW:Hid (nJ (a.data.toList.drop m)={ sort:=115,text:=A,size:=j+2,ok:=ok }):=by
  show _=_
  unfold nJ;rw[<-u,<-z,<-b]
 rw[HW.out];have ae:=aB z;have f:=aB b;have S:Hid (Fr sb w (w.alloc (.cells #[.int .i64 0,.string ⟨#[]⟩,.int .i64 0,.int .i64 0] 206))):=(Fr.refl _ _).alloc _;have HM:=aB hm;have N:=aB hk;have ag:m<=a.size:=by omega
 have ah:k<=a.size:=by omega
 clear h h1 u z HW b hm hk;generalize c:({ sort:=115,text:=A,size:=j+2,ok:=ok }:pA)=rr;have g:=aB c;clear c;go_enter Tryz.func254,Tryz.ntmps254;go_wp2_with fail;refine F.out.mono ?_;rintro e w1 ⟨rfl,D,K⟩;have O:=aB (K.keepS HZ.out y);have HZ1d:Hid (ZTok w1.drew w.heap.size):=O.out;have s:=aB (oA sb a m L j w1.drew D hs (by omega))
 rw[<-N.out] at s;rw[<-ae.out] at s;have U:=aB (S.out.trans K);obtain⟨Y,c0,X,W,Z,V⟩:=D.cells;clear D K F HZ S;go_wp2_with fail;go_cut [3] (fun v wc=>v=.string (bs A)/\SC sb a (k) L wc/\Fr sb w wc/\ZTok wc w.heap.size)
 case first=>
  go_region_law (first|(go_simp;go_at_call 248;refine(H.out _).mono ?_;rintro e w2 ⟨rfl,I⟩;obtain rfl:=I.symm)|(go_simp;go_at_call 296;refine s.out.mono ?_;rintro e w2 ⟨rfl,o,r⟩;have x:=aB o;have p:=aB (U.out.drew.trans r);have t:=aB (r.keepS HZ1d.out y);clear o r))
  all_goals
   go_wp2_with fail;go_meet
   case rel=>exact⟨rfl,x.out,p.out,t.out⟩
 case rest=>
  obtain⟨rfl,o,r,P⟩:=hcut;clear c0 X W Z V Y;obtain⟨Y,c0,X,W,Z,V⟩:=o.cells;have x:=aB o;have p:=aB r;have t:=aB P;clear o r P s H O HZ1d U;have J:=aB (fun q=>rQ sb a (k) L (wc.drewN q) x.out)
  by_cases B:j<=100
  rotate_left
  ·have e1:decide ((100:Int)<(j:Int))=true:=decide_eq_true (by omega)
   have b:ok=false:=by rw[f.out,decide_eq_false B,Bool.and_false]
   subst b;have c:=g.out;clear g f;subst c;go_wp2_with fail;go_quiet (fail)
   go_wp2_with fail;refine(J.out _).mono ?_;rintro e w3 ⟨rfl,I⟩;obtain rfl:=I.symm;go_wp2_with fail;exact⟨rfl,p.out.drewN _,as_ ⟨rfl,rfl⟩⟩
  have e1:decide ((100:Int)<(j:Int))=false:=decide_eq_false (by omega)
  by_cases af:k=a.size
  ·have e2:((k:Int)==(a.size:Int))=true:=by simp;omega
   have b:ok=false:=by
    rw[f.out,a4_ (by have:=N.out;simp;omega)];simp
   subst b;have c:=g.out;clear g f;subst c;go_wp2_with fail;go_quiet (fail)
   go_wp2_with fail;refine(J.out _).mono ?_;rintro e w3 ⟨rfl,I⟩;obtain rfl:=I.symm;go_wp2_with fail;exact⟨rfl,p.out.drewN _,as_ ⟨rfl,rfl⟩⟩
  have ad:k<a.size:=by omega
  have e2:((k:Int)==(a.size:Int))=false:=by simp;omega
  have hb:(a[k].toNat:Int)<=255:=nP _
  have l:(a.data.toList.drop m)[j]?=some a[k]:=by
   have e:=FN a m j (by rw[<-N.out];exact ad)
   rw[e];congr 1
   simp only[N.out]
  by_cases E:a[k].toNat=34
  ·have b:ok=true:=by
    rw[f.out,l,decide_eq_true B,Bool.and_true];exact decide_eq_true (congrArg some (bT_.1 E))
   subst b;have c:=g.out;clear g f l;subst c;have Q:((a[k].toNat:Int) != 34)=false:=by simp;omega
   have al:w.heap.size<wc.heap.size:=aD t.out;have T:=aB (fun q=>oA sb a (k) L 1 (wc.drewN q) x.out hs (by omega))
   clear E;go_wp2_with fail;go_quiet (fail)
   go_wp2_with fail;refine(T.out _).mono ?_;rintro e w3 ⟨rfl,G,M⟩;have d:=aB ((((Fr.refl sb wc).drewN _).trans M).keepS t.out y);have ab:=aB ((p.out.drewN _).trans M);have aa:=aB G;have z0:=aA d.out (i:=0) rfl;have z1:=aA d.out (i:=1) rfl;have z2:=aA d.out (i:=2) rfl;have z3:=aA d.out (i:=3) rfl;have y0:=aE (i:=0) d.out;have y1:=aE (i:=1) d.out;have y2:=aE (i:=2) d.out;have y3:=aE (i:=3) d.out;have ak:=aD d.out;clear c0 X W Z V Y;obtain⟨Y,c0,X,W,Z,V⟩:=G.cells;clear G M T;go_wp2_with fail;refine bodyPost_ret (v:=.agg #[.int .i64 3,.string (bs A),.int .i64 0,.int .i64 L]) (by simp[results,Tryz.results254,go_sem,z0,z1,z2,z3]) rfl ?_
   have C:=mD ab.out aa.out (au_ _) y (.int .i64 3) (.string (bs A)) (.int .i64 0) (.int .i64 L);exact⟨C.1,av_ ⟨rfl,rfl,by rw[show n+(j+2)=k+1 by have:=HM.out;have:=N.out;omega];exact C.2⟩⟩
  ·have b:ok=false:=by
    rw[f.out,l,decide_eq_false (fun e=>E (by rw[Option.some.inj e];rfl))];rfl
   subst b;have c:=g.out;clear g f l;subst c;have Q:((a[k].toNat:Int) != 34)=true:=by simp;omega
   go_wp2_with fail;go_quiet (fail)
   go_wp2_with fail;refine(J.out _).mono ?_;rintro e w3 ⟨rfl,I⟩;obtain rfl:=I.symm;go_wp2_with fail;exact⟨rfl,p.out.drewN _,as_ ⟨rfl,rfl⟩⟩
structure PTabs(w:World):Prop where
 tab:∃t fr,w.heap[(6:Nat)]?=some (.cells #[.string ⟨#[61,61]⟩,.string ⟨#[33,61]⟩,.string ⟨#[60,61]⟩,.string ⟨#[38,38]⟩,.string ⟨#[124,124]⟩,.string ⟨#[40]⟩,.string ⟨#[41]⟩,.string ⟨#[123]⟩,.string ⟨#[125]⟩,.string ⟨#[91]⟩,.string ⟨#[93]⟩,.string ⟨#[44]⟩,.string ⟨#[59]⟩,.string ⟨#[61]⟩,.string ⟨#[60]⟩,.string ⟨#[43]⟩,.string ⟨#[45]⟩,.string ⟨#[42]⟩,.string ⟨#[47]⟩,.string ⟨#[37]⟩,.string ⟨#[33]⟩] t fr)
 big:11<=w.heap.size
def PTabs.fr{w w':World}{sb:Nat}(h:PTabs w)(a:Fr sb w w')(d:11<=sb):PTabs w':=by
 obtain⟨t,b,c⟩:=h.tab;have:=h.big;have:=a.size;exact⟨⟨t,b,by rw[a.block 6 (by omega) (by omega)];exact c⟩,by omega⟩
abbrev gC:Value:=.agg #[.string ⟨#[61,61]⟩,.string ⟨#[33,61]⟩,.string ⟨#[60,61]⟩,.string ⟨#[38,38]⟩,.string ⟨#[124,124]⟩,.string ⟨#[40]⟩,.string ⟨#[41]⟩,.string ⟨#[123]⟩,.string ⟨#[125]⟩,.string ⟨#[91]⟩,.string ⟨#[93]⟩,.string ⟨#[44]⟩,.string ⟨#[59]⟩,.string ⟨#[61]⟩,.string ⟨#[60]⟩,.string ⟨#[43]⟩,.string ⟨#[45]⟩,.string ⟨#[42]⟩,.string ⟨#[47]⟩,.string ⟨#[37]⟩,.string ⟨#[33]⟩]
def A4(w:World):(Instr.index 300 gC (.int .i64 0)).run prog w=.ok (.string ⟨#[61,61]⟩) w:=by kernel_rfl
def A0(w:World):(Instr.index 300 gC (.int .i64 1)).run prog w=.ok (.string ⟨#[33,61]⟩) w:=by kernel_rfl
def ZZ(w:World):(Instr.index 300 gC (.int .i64 2)).run prog w=.ok (.string ⟨#[60,61]⟩) w:=by kernel_rfl
def ZY(w:World):(Instr.index 300 gC (.int .i64 3)).run prog w=.ok (.string ⟨#[38,38]⟩) w:=by kernel_rfl
def ZX(w:World):(Instr.index 300 gC (.int .i64 4)).run prog w=.ok (.string ⟨#[124,124]⟩) w:=by kernel_rfl
def ZW(w:World):(Instr.index 300 gC (.int .i64 5)).run prog w=.ok (.string ⟨#[40]⟩) w:=by kernel_rfl
def ZV(w:World):(Instr.index 300 gC (.int .i64 6)).run prog w=.ok (.string ⟨#[41]⟩) w:=by kernel_rfl
def ZU(w:World):(Instr.index 300 gC (.int .i64 7)).run prog w=.ok (.string ⟨#[123]⟩) w:=by kernel_rfl
def ZT(w:World):(Instr.index 300 gC (.int .i64 8)).run prog w=.ok (.string ⟨#[125]⟩) w:=by kernel_rfl
def ZS(w:World):(Instr.index 300 gC (.int .i64 9)).run prog w=.ok (.string ⟨#[91]⟩) w:=by kernel_rfl
def UI(w:World):(Instr.index 300 gC (.int .i64 10)).run prog w=.ok (.string ⟨#[93]⟩) w:=by kernel_rfl
def UH(w:World):(Instr.index 300 gC (.int .i64 11)).run prog w=.ok (.string ⟨#[44]⟩) w:=by kernel_rfl
def UG(w:World):(Instr.index 300 gC (.int .i64 12)).run prog w=.ok (.string ⟨#[59]⟩) w:=by kernel_rfl
def UF(w:World):(Instr.index 300 gC (.int .i64 13)).run prog w=.ok (.string ⟨#[61]⟩) w:=by kernel_rfl
def UE(w:World):(Instr.index 300 gC (.int .i64 14)).run prog w=.ok (.string ⟨#[60]⟩) w:=by kernel_rfl
def UD(w:World):(Instr.index 300 gC (.int .i64 15)).run prog w=.ok (.string ⟨#[43]⟩) w:=by kernel_rfl
def UC(w:World):(Instr.index 300 gC (.int .i64 16)).run prog w=.ok (.string ⟨#[45]⟩) w:=by kernel_rfl
def UB(w:World):(Instr.index 300 gC (.int .i64 17)).run prog w=.ok (.string ⟨#[42]⟩) w:=by kernel_rfl
def UA(w:World):(Instr.index 300 gC (.int .i64 18)).run prog w=.ok (.string ⟨#[47]⟩) w:=by kernel_rfl
def TZ(w:World):(Instr.index 300 gC (.int .i64 19)).run prog w=.ok (.string ⟨#[37]⟩) w:=by kernel_rfl
def TY(w:World):(Instr.index 300 gC (.int .i64 20)).run prog w=.ok (.string ⟨#[33]⟩) w:=by kernel_rfl
def M8(k:Nat)(a:k<21)(w:World):(Instr.index 300 gC (.int .i64 k)).run prog w=.ok (.string (bs (cM[k]'(by simpa [cM] using a)))) w:=by
 match k,a with
 |0,_=>exact A4 w
 |1,_=>exact A0 w
 |2,_=>exact ZZ w
 |3,_=>exact ZY w
 |4,_=>exact ZX w
 |5,_=>exact ZW w
 |6,_=>exact ZV w
 |7,_=>exact ZU w
 |8,_=>exact ZT w
 |9,_=>exact ZS w
 |10,_=>exact UI w
 |11,_=>exact UH w
 |12,_=>exact UG w
 |13,_=>exact UF w
 |14,_=>exact UE w
 |15,_=>exact UD w
 |16,_=>exact UC w
 |17,_=>exact UB w
 |18,_=>exact UA w
 |19,_=>exact TZ w
 |20,_=>exact TY w
 |k+21,h=>exact absurd h (by omega)
def XY(sb:Nat)(a:ByteArray)(n L:Nat)(w:World)(h:SC sb a n L w)(T:PTabs w)(hs:a.size<=2000000000)(hn:n<a.size)(r:pA)(hr:Hid (gG (a.data.toList.drop n)=r)):
 Calls prog 255 #[.pointer (some ⟨sb,0,none⟩)] w (P9 sb a n L w r):=by
 have U:=(SC.cells h).1;have J:w.heap.size≠sb:=by omega
 have aa:=T.big;have af:n<=a.size:=by omega
 have B:SC sb a n L (w.alloc (.cells #[.int .i64 0,.string ⟨#[]⟩,.int .i64 0,.int .i64 0] 206)):=by unfold SC;rw[aA_ _ _ _ U];exact h
 have Y:Hid (ZTok (w.alloc (.cells #[.int .i64 0,.string ⟨#[]⟩,.int .i64 0,.int .i64 0] 206)) w.heap.size):=aM _ _ rfl _;have G:Hid (Fr sb w (w.alloc (.cells #[.int .i64 0,.string ⟨#[]⟩,.int .i64 0,.int .i64 0] 206))):=(Fr.refl _ _).alloc _;obtain⟨tt,fr,l⟩:=T.tab;have d:(w.alloc (.cells #[.int .i64 0,.string ⟨#[]⟩,.int .i64 0,.int .i64 0] 206)).heap[(6:Nat)]?=_:=oU w 6 (by omega) _ l
 have x:(prog.info? 300).map (·.size)=some (#[.string ⟨#[61,61]⟩,.string ⟨#[33,61]⟩,.string ⟨#[60,61]⟩,.string ⟨#[38,38]⟩,.string ⟨#[124,124]⟩,.string ⟨#[40]⟩,.string ⟨#[41]⟩,.string ⟨#[123]⟩,.string ⟨#[125]⟩,.string ⟨#[91]⟩,.string ⟨#[93]⟩,.string ⟨#[44]⟩,.string ⟨#[59]⟩,.string ⟨#[61]⟩,.string ⟨#[60]⟩,.string ⟨#[43]⟩,.string ⟨#[45]⟩,.string ⟨#[42]⟩,.string ⟨#[47]⟩,.string ⟨#[37]⟩,.string ⟨#[33]⟩]:Array Value).size:=by kernel_rfl
 have z:∀(k:Nat) (W:k<21) (w:World),(Instr.index 300 (.agg #[.string ⟨#[61,61]⟩,.string ⟨#[33,61]⟩,.string ⟨#[60,61]⟩,.string ⟨#[38,38]⟩,.string ⟨#[124,124]⟩,.string ⟨#[40]⟩,.string ⟨#[41]⟩,.string ⟨#[123]⟩,.string ⟨#[125]⟩,.string ⟨#[91]⟩,.string ⟨#[93]⟩,.string ⟨#[44]⟩,.string ⟨#[59]⟩,.string ⟨#[61]⟩,.string ⟨#[60]⟩,.string ⟨#[43]⟩,.string ⟨#[45]⟩,.string ⟨#[42]⟩,.string ⟨#[47]⟩,.string ⟨#[37]⟩,.string ⟨#[33]⟩]) (.int .i64 k)).run prog w=.ok (.string (bs (cM[k]'(by simpa [cM] using W)))) w:=M8
 generalize (#[.string ⟨#[61,61]⟩,.string ⟨#[33,61]⟩,.string ⟨#[60,61]⟩,.string ⟨#[38,38]⟩,.string ⟨#[124,124]⟩,.string ⟨#[40]⟩,.string ⟨#[41]⟩,.string ⟨#[123]⟩,.string ⟨#[125]⟩,.string ⟨#[91]⟩,.string ⟨#[93]⟩,.string ⟨#[44]⟩,.string ⟨#[59]⟩,.string ⟨#[61]⟩,.string ⟨#[60]⟩,.string ⟨#[43]⟩,.string ⟨#[45]⟩,.string ⟨#[42]⟩,.string ⟨#[47]⟩,.string ⟨#[37]⟩,.string ⟨#[33]⟩]:Array Value)=X at d x z;have HIXX:=aB z;have HTAB:=aB d;have V:=aB x;clear l d x z;have Z:=aB B;clear h B T;go_enter Tryz.func255,Tryz.ntmps255;go_wp2_with (refine wpList_load_row rfl 300 (.global 6) rfl 6 (by rfl) tt X fr (.array 21 9) HTAB.out Tryz.underlying300 rfl V.out ?_)
 go_loopg [4,6] 21 (fun gk _ i wr=>∃k:Nat,k+gk=21/\i=.int .i64 k/\Hid (wQ (a.data.toList.drop n) k)/\SC sb a n L wr/\Fr sb w wr/\ZTok wr w.heap.size)
 case atStart=>exact⟨0,by omega,rfl,fun o ho=>(by simp at ho),Z.out,G.out,Y.out⟩
 case round=>
  obtain⟨k,W,rfl,A,u,D,I⟩:=hrel;obtain⟨h0,c0,c1,c2,f1,f2⟩:=u.cells;have t:=aB u;have p:=aB D;have s:=aB I;clear u D I Y G Z;by_cases f:k<21
  ·obtain⟨j,rfl⟩:∃j,gk=j+1:=⟨gk-1,by omega⟩
   obtain⟨q,N⟩:∃q,q=cM[k]'(by simpa [cM] using f):=⟨_,rfl⟩
   have ah:∀w,(Instr.index 300 (.agg X) (.int .i64 k)).run prog w=.ok (.string (bs q)) w:=fun w=>by rw[N];exact HIXX.out k f w
   have ae:q.length<=2:=by rw[N];exact KT k f
   have ad:(bs q).size=q.length:=gA q;have M:Hid (q=cM[k]'(by simpa [cM] using f)):=N
   clear N;have g:=aB (fun w=>CH (a.extract n a.size) (bs q) w (by rw[rR];omega) (by rw[gA];omega))
   rw[mX,fS] at g;cases c:cN (a.data.toList.drop n) q
   ·rw[c] at g;have F:Hid (wQ (a.data.toList.drop n) (k+1)):=OQ f A.out (by rw[<-M.out];exact c)
    clear A M c;go_wp2_with fail;go_quiet ((go_at_call 247;exact Calls.quiet_of_same (g.out _)))
    go_wp2_with fail;go_roundg j
    case measure=>omega
    case rel=>exact⟨k+1,by omega,by go_num,F,t.out,p.out.drewN _,s.out⟩
   ·rw[c] at g;have F:Hid (r={ sort:=112,text:=q,size:=q.length,ok:=true }):=by rw[<-hr.out];exact TK f A.out q M.out c
    have P:n+q.length<=a.size:=by
     have:=kU c;simp at this;omega
    have HTXT:Hid ((a.data.toList.drop n).take q.length=q):=by
     show _=_
     have B:=c;unfold cN at B;rw[lY _ _ (kU c)] at B;simpa using B
    have E:=aB (fun K=>oA sb a n L q.length (wr.drewN K) t.out hs P)
    rw[HTXT.out] at E;have O:Hid (∀K,ZTok (wr.drewN K) w.heap.size):=fun _=>s.out
    have ab:Hid (∀K,w.heap.size<(wr.drewN K).heap.size):=fun _=>aD s.out
    clear A M c;go_wp2_with fail;go_quiet ((go_at_call 247;exact Calls.quiet_of_same (g.out _)))
    go_wp2_with fail;go_region_law (go_simp;go_at_call 296;refine(E.out _).mono ?_;rintro e w2 ⟨rfl,C,y⟩;have H:=aB C;have Q:=aB ((p.out.drewN _).trans y);have b:=aB (y.keepS (O.out _) J);have ag:=(SC.cells H.out).2.2.2.1;have z0:=aA b.out (i:=0) rfl;have z1:=aA b.out (i:=1) rfl;have z2:=aA b.out (i:=2) rfl;have z3:=aA b.out (i:=3) rfl;have y0:=aE (i:=0) b.out;have y1:=aE (i:=1) b.out;have y2:=aE (i:=2) b.out;have y3:=aE (i:=3) b.out;have ac:=aD b.out;clear C y)
    all_goals
     go_wp2_with fail;rw[F.out];refine bodyPost_ret (v:=.agg #[.int .i64 0,.string (bs q),.int .i64 0,.int .i64 L]) (by simp[results,Tryz.results255,go_sem,z0,z1,z2,z3]) rfl ?_
     have m:=mD Q.out H.out (au_ _) J (.int .i64 0) (.string (bs q)) (.int .i64 0) (.int .i64 L);exact⟨m.1,av_ ⟨rfl,rfl,m.2⟩⟩
  ·obtain rfl:k=21:=by omega
   have F:Hid (r={ sort:=0,text:=[],size:=0,ok:=false }):=by rw[<-hr.out];exact OJ A.out
   have S:=aB (rQ sb a n L wr t.out);clear A;go_wp2_with fail;refine S.out.mono ?_;rintro e w3 ⟨rfl,hw⟩;obtain rfl:=hw.symm;go_wp2_with fail;rw[F.out];exact⟨rfl,p.out,as_ ⟨rfl,rfl⟩⟩
end Go.Proofs.YtblbkfdhjfppkaaGreatDoor
