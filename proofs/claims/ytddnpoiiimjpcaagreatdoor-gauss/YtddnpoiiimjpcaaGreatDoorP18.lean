/- Contracts of the program: strings and marks. -/
import Derived.Test.YtddnpoiiimjpcaaGreatDoorP17
set_option linter.defProp false
set_option maxRecDepth 100000
set_option maxHeartbeats 4000000
namespace Go.Proofs.YtddnpoiiimjpcaaGreatDoor
open Hs
open _root_.Go.Proofs.Tryz
open Go.RowKit
abbrev ZTok(w:aH)(b:Nat):Prop:=w.heap[b]?=some (.cells #[Iv0 0,.string ⟨#[]⟩,Iv0 0,Iv0 0] 174 (0,0))
def VC(sb:Nat)(a:ByteArray)(n L:Nat)(w:aH)(h:SC sb a n L w)(hs:a.size<=2000000000)(hn:n<a.size):
 Calls prog 185 #[bO sb] w (I0 sb a n L w (nE (a.data.toList.drop (n+1)))):=by
 obtain⟨m,Y⟩:∃m,m=n+1:=⟨_,rfl⟩;rw[<-Y];obtain⟨f,y⟩:∃f,f=bL fH (a.data.toList.drop m):=⟨_,rfl⟩
 have ak:f<=a.size-m:=by
  have:=kK fH (a.data.toList.drop m);rw[y];simpa using this
 obtain⟨k,hk⟩:∃k,k=m+f:=⟨_,rfl⟩;have ad:=(SC.cells h).1;have z:w.heap.size≠sb:=by omega
 have h1:SC sb a n L (w.alloc (.cells #[Iv0 0,.string ⟨#[]⟩,Iv0 0,Iv0 0] 174)):=by unfold SC;rw[Z3 _ _ _ ad];exact h
 have HZ:Hid (ZTok (w.alloc (.cells #[Iv0 0,.string ⟨#[]⟩,Iv0 0,Iv0 0] 174)) w.heap.size):=aU _ _ rfl _;have K:=aB (nQ sb a n L 1 (w.alloc (.cells #[Iv0 0,.string ⟨#[]⟩,Iv0 0,Iv0 0] 174)) h1 hs (by omega))
 rw[<-Y] at K;have E:=aB (fun w=>tU fH 208 (fun _ _=>rfl) JM (a.extract m a.size) w (by rw[qX];omega))
 rw[mT,<-y] at E;obtain⟨B,s⟩:∃B,B=(a.data.toList.drop m).take f:=⟨_,rfl⟩;have af:(bs B).size=f:=by rw[iM,s,o9];simp;omega
 obtain⟨ok,b⟩:∃ok,ok=(decide ((a.data.toList.drop m)[f]?=some 34) && decide (f<=100)):=⟨_,rfl⟩
 have HW:Hid (nE (a.data.toList.drop m)={ sort:=115,text:=B,size:=f+2,ok:=ok }):=by
  show _=_
  unfold nE;rw[<-y,<-s,<-b]
 rw[HW.out];have ab:=aB s;have g:=aB b;have P:Hid (Fr sb w (w.alloc (.cells #[Iv0 0,.string ⟨#[]⟩,Iv0 0,Iv0 0] 174))):=(Fr.refl _ _).alloc _;have HM:=aB Y;have O:=aB hk;have ah:m<=a.size:=by omega
 have ag:k<=a.size:=by omega
 clear h h1 y s HW b Y hk;generalize c:({ sort:=115,text:=B,size:=f+2,ok:=ok }:oS)=rr;have j:=aB c;clear c;go_in
 go_wp2_with fail;refine K.mono ?_;rintro e w1 ⟨rfl,J,M⟩;have T:=aB (M.keepS HZ z);have HZ1d:Hid (ZTok w1.drew w.heap.size):=T;have t:=aB (nQ sb a m L f w1.drew J hs (by omega))
 rw[<-O.out] at t;rw[<-ab.out] at t;have N:=aB (P.trans M);obtain⟨h0,c0,X,V,Z,W⟩:=J.cells;clear J M K HZ P;go_wp2_with fail;go_cut [3] (fun v wc=>v=.string (bs B)/\SC sb a (k) L wc/\Fr sb w wc/\ZTok wc w.heap.size)
 case first=>
  go_region_law (first|(go_simp;go_at_call 179;refine(E _).mono ?_;rintro e w2 ⟨rfl,I⟩;obtain rfl:=I.symm)|(go_simp;go_at_call 203;refine t.mono ?_;rintro e w2 ⟨rfl,o,p⟩;have u:=aB o;have r:=aB (N.drew.trans p);have x:=aB (p.keepS HZ1d z);clear o p))
  all_goals
   go_wp2_with fail;go_meet
   case rel=>exact⟨rfl,u,r,x⟩
 case rest=>
  obtain⟨rfl,o,p,Q⟩:=hcut;clear c0 X V Z W h0;obtain⟨h0,c0,X,V,Z,W⟩:=o.cells;have u:=aB o;have r:=aB p;have x:=aB Q;clear o p Q t E T HZ1d N;have H:=aB (fun q=>qW sb a (k) L (wc.drewN q) u)
  by_cases A:f<=100
  rotate_left
  ·have e1:decide ((100:Int)<(f:Int))=true:=decide_eq_true (by omega)
   have b:ok=false:=by rw[g.out,decide_eq_false A,Bool.and_false]
   subst b;have c:=j;clear j g;subst c;go_wp2_with fail;go_quiet (fail)
   go_wp2_with fail;refine(H _).mono ?_;rintro e w3 ⟨rfl,I⟩;obtain rfl:=I.symm;go_wp2_with fail;exact⟨rfl,r.drewN _,Y3 ⟨rfl,rfl⟩⟩
  have e1:decide ((100:Int)<(f:Int))=false:=decide_eq_false (by omega)
  by_cases ai:k=a.size
  ·have e2:((k:Int)==(a.size:Int))=true:=by simp;omega
   have b:ok=false:=by
    rw[g.out,j8 (by have:=O.out;simp;omega)];simp
   subst b;have c:=j;clear j g;subst c;go_wp2_with fail;go_quiet (fail)
   go_wp2_with fail;refine(H _).mono ?_;rintro e w3 ⟨rfl,I⟩;obtain rfl:=I.symm;go_wp2_with fail;exact⟨rfl,r.drewN _,Y3 ⟨rfl,rfl⟩⟩
  have aa:k<a.size:=by omega
  have e2:((k:Int)==(a.size:Int))=false:=by simp;omega
  have hb:(a[k].toNat:Int)<=255:=nI _
  have l:(a.data.toList.drop m)[f]?=some a[k]:=by
   have e:=ED a m f (by rw[<-O.out];exact aa)
   rw[e];congr 1
   simp only[O.out]
  by_cases F:a[k].toNat=34
  ·have b:ok=true:=by
    rw[g.out,l,decide_eq_true A,Bool.and_true];exact decide_eq_true (congrArg some (aj_.1 F))
   subst b;have c:=j;clear j g l;subst c;have S:((a[k].toNat:Int) != 34)=false:=by simp;omega
   have aj:w.heap.size<wc.heap.size:=aD x;have U:=aB (fun q=>nQ sb a (k) L 1 (wc.drewN q) u hs (by omega))
   clear F;go_wp2_with fail;go_quiet (fail)
   go_wp2_with fail;refine(U _).mono ?_;rintro e w3 ⟨rfl,D,G⟩;have d:=aB ((((Fr.refl sb wc).drewN _).trans G).keepS x z);have ae:=aB ((r.drewN _).trans G);have ac:=aB D;have z0:=aA d (i:=0) rfl;have z1:=aA d (i:=1) rfl;have z2:=aA d (i:=2) rfl;have z3:=aA d (i:=3) rfl;have y0:=aE (i:=0) d;have y1:=aE (i:=1) d;have y2:=aE (i:=2) d;have y3:=aE (i:=3) d;have al:=aD d;clear c0 X V Z W h0;obtain⟨h0,c0,X,V,Z,W⟩:=D.cells;clear D G U;go_wp2
   refine bodyPost_ret (v:=.agg #[Iv0 3,.string (bs B),Iv0 0,Iv0 L]) (by simp[results,results185,go_sem,z0,z1,z2,z3]) rfl ?_
   have C:=lZ ae ac dH z (Iv0 3) (.string (bs B)) (Iv0 0) (Iv0 L);exact⟨C.1,Y4 ⟨rfl,rfl,by rw[show n+(f+2)=k+1 by have:=HM.out;have:=O.out;omega];exact C.2⟩⟩
  ·have b:ok=false:=by
    rw[g.out,l,decide_eq_false (fun e=>F (by rw[Option.some.inj e];rfl))];rfl
   subst b;have c:=j;clear j g l;subst c;have S:((a[k].toNat:Int) != 34)=true:=by simp;omega
   go_wp2_with fail;go_quiet (fail)
   go_wp2_with fail;refine(H _).mono ?_;rintro e w3 ⟨rfl,I⟩;obtain rfl:=I.symm;go_wp2_with fail;exact⟨rfl,r.drewN _,Y3 ⟨rfl,rfl⟩⟩
structure PTabs(w:aH):Prop where
 tab:∃t fr,w.heap[(6:Nat)]?=some (.cells #[.string ⟨#[61,61]⟩,.string ⟨#[33,61]⟩,.string ⟨#[60,61]⟩,.string ⟨#[38,38]⟩,.string ⟨#[124,124]⟩,.string ⟨#[40]⟩,.string ⟨#[41]⟩,.string ⟨#[123]⟩,.string ⟨#[125]⟩,.string ⟨#[91]⟩,.string ⟨#[93]⟩,.string ⟨#[44]⟩,.string ⟨#[59]⟩,.string ⟨#[61]⟩,.string ⟨#[60]⟩,.string ⟨#[43]⟩,.string ⟨#[45]⟩,.string ⟨#[42]⟩,.string ⟨#[47]⟩,.string ⟨#[37]⟩,.string ⟨#[33]⟩] t fr)
 big:9<=w.heap.size
def PTabs.fr{w w':aH}{sb:Nat}(h:PTabs w)(a:Fr sb w w')(d:9<=sb):PTabs w':=by
 obtain⟨t,c,b⟩:=h.tab;have:=h.big;have:=a.size;exact⟨⟨t,c,by rw[a.block 6 (by omega) (by omega)];exact b⟩,by omega⟩
abbrev gL:Value:=.agg #[.string ⟨#[61,61]⟩,.string ⟨#[33,61]⟩,.string ⟨#[60,61]⟩,.string ⟨#[38,38]⟩,.string ⟨#[124,124]⟩,.string ⟨#[40]⟩,.string ⟨#[41]⟩,.string ⟨#[123]⟩,.string ⟨#[125]⟩,.string ⟨#[91]⟩,.string ⟨#[93]⟩,.string ⟨#[44]⟩,.string ⟨#[59]⟩,.string ⟨#[61]⟩,.string ⟨#[60]⟩,.string ⟨#[43]⟩,.string ⟨#[45]⟩,.string ⟨#[42]⟩,.string ⟨#[47]⟩,.string ⟨#[37]⟩,.string ⟨#[33]⟩]
def XK(w:aH):(Instr.index 329 gL (Iv0 0)).run prog w=.ok (.string ⟨#[61,61]⟩) w:=by kernel_rfl
def XJ(w:aH):(Instr.index 329 gL (Iv0 1)).run prog w=.ok (.string ⟨#[33,61]⟩) w:=by kernel_rfl
def XI(w:aH):(Instr.index 329 gL (Iv0 2)).run prog w=.ok (.string ⟨#[60,61]⟩) w:=by kernel_rfl
def XH(w:aH):(Instr.index 329 gL (Iv0 3)).run prog w=.ok (.string ⟨#[38,38]⟩) w:=by kernel_rfl
def XG(w:aH):(Instr.index 329 gL (Iv0 4)).run prog w=.ok (.string ⟨#[124,124]⟩) w:=by kernel_rfl
def XF(w:aH):(Instr.index 329 gL (Iv0 5)).run prog w=.ok (.string ⟨#[40]⟩) w:=by kernel_rfl
def XE(w:aH):(Instr.index 329 gL (Iv0 6)).run prog w=.ok (.string ⟨#[41]⟩) w:=by kernel_rfl
def XD(w:aH):(Instr.index 329 gL (Iv0 7)).run prog w=.ok (.string ⟨#[123]⟩) w:=by kernel_rfl
def XC(w:aH):(Instr.index 329 gL (Iv0 8)).run prog w=.ok (.string ⟨#[125]⟩) w:=by kernel_rfl
def XB(w:aH):(Instr.index 329 gL (Iv0 9)).run prog w=.ok (.string ⟨#[91]⟩) w:=by kernel_rfl
def RX(w:aH):(Instr.index 329 gL (Iv0 10)).run prog w=.ok (.string ⟨#[93]⟩) w:=by kernel_rfl
def RW(w:aH):(Instr.index 329 gL (Iv0 11)).run prog w=.ok (.string ⟨#[44]⟩) w:=by kernel_rfl
def RV(w:aH):(Instr.index 329 gL (Iv0 12)).run prog w=.ok (.string ⟨#[59]⟩) w:=by kernel_rfl
def RU(w:aH):(Instr.index 329 gL (Iv0 13)).run prog w=.ok (.string ⟨#[61]⟩) w:=by kernel_rfl
def RT(w:aH):(Instr.index 329 gL (Iv0 14)).run prog w=.ok (.string ⟨#[60]⟩) w:=by kernel_rfl
def RS(w:aH):(Instr.index 329 gL (Iv0 15)).run prog w=.ok (.string ⟨#[43]⟩) w:=by kernel_rfl
def RR(w:aH):(Instr.index 329 gL (Iv0 16)).run prog w=.ok (.string ⟨#[45]⟩) w:=by kernel_rfl
def RQ(w:aH):(Instr.index 329 gL (Iv0 17)).run prog w=.ok (.string ⟨#[42]⟩) w:=by kernel_rfl
def RP(w:aH):(Instr.index 329 gL (Iv0 18)).run prog w=.ok (.string ⟨#[47]⟩) w:=by kernel_rfl
def RO(w:aH):(Instr.index 329 gL (Iv0 19)).run prog w=.ok (.string ⟨#[37]⟩) w:=by kernel_rfl
def RN(w:aH):(Instr.index 329 gL (Iv0 20)).run prog w=.ok (.string ⟨#[33]⟩) w:=by kernel_rfl
def D7(k:Nat)(a:k<21)(w:aH):(Instr.index 329 gL (Iv0 k)).run prog w=.ok (.string (bs (cR[k]'(by simpa [cR] using a)))) w:=by
 match k,a with
 |0,_=>exact XK w
 |1,_=>exact XJ w
 |2,_=>exact XI w
 |3,_=>exact XH w
 |4,_=>exact XG w
 |5,_=>exact XF w
 |6,_=>exact XE w
 |7,_=>exact XD w
 |8,_=>exact XC w
 |9,_=>exact XB w
 |10,_=>exact RX w
 |11,_=>exact RW w
 |12,_=>exact RV w
 |13,_=>exact RU w
 |14,_=>exact RT w
 |15,_=>exact RS w
 |16,_=>exact RR w
 |17,_=>exact RQ w
 |18,_=>exact RP w
 |19,_=>exact RO w
 |20,_=>exact RN w
 |k+21,h=>exact absurd h (by omega)
def VH(sb:Nat)(a:ByteArray)(n L:Nat)(w:aH)(h:SC sb a n L w)(O:PTabs w)(hs:a.size<=2000000000)(hn:n<a.size)(r:oS)(hr:Hid (gO (a.data.toList.drop n)=r)):
 Calls prog 186 #[bO sb] w (I0 sb a n L w r):=by
 have S:=(SC.cells h).1;have K:w.heap.size≠sb:=by omega
 have aa:=O.big;have ah:n<=a.size:=by omega
 have B:SC sb a n L (w.alloc (.cells #[Iv0 0,.string ⟨#[]⟩,Iv0 0,Iv0 0] 174)):=by unfold SC;rw[Z3 _ _ _ S];exact h
 have X:Hid (ZTok (w.alloc (.cells #[Iv0 0,.string ⟨#[]⟩,Iv0 0,Iv0 0] 174)) w.heap.size):=aU _ _ rfl _;have H:Hid (Fr sb w (w.alloc (.cells #[Iv0 0,.string ⟨#[]⟩,Iv0 0,Iv0 0] 174))):=(Fr.refl _ _).alloc _;obtain⟨tt,fr,l⟩:=O.tab;have d:(w.alloc (.cells #[Iv0 0,.string ⟨#[]⟩,Iv0 0,Iv0 0] 174)).heap[(6:Nat)]?=_:=oM w 6 (by omega) _ l
 have p:(prog.info? 329).map (·.size)=some (#[.string ⟨#[61,61]⟩,.string ⟨#[33,61]⟩,.string ⟨#[60,61]⟩,.string ⟨#[38,38]⟩,.string ⟨#[124,124]⟩,.string ⟨#[40]⟩,.string ⟨#[41]⟩,.string ⟨#[123]⟩,.string ⟨#[125]⟩,.string ⟨#[91]⟩,.string ⟨#[93]⟩,.string ⟨#[44]⟩,.string ⟨#[59]⟩,.string ⟨#[61]⟩,.string ⟨#[60]⟩,.string ⟨#[43]⟩,.string ⟨#[45]⟩,.string ⟨#[42]⟩,.string ⟨#[47]⟩,.string ⟨#[37]⟩,.string ⟨#[33]⟩]:Array Value).size:=by kernel_rfl
 have y:∀(k:Nat) (Y:k<21) (w:aH),(Instr.index 329 (.agg #[.string ⟨#[61,61]⟩,.string ⟨#[33,61]⟩,.string ⟨#[60,61]⟩,.string ⟨#[38,38]⟩,.string ⟨#[124,124]⟩,.string ⟨#[40]⟩,.string ⟨#[41]⟩,.string ⟨#[123]⟩,.string ⟨#[125]⟩,.string ⟨#[91]⟩,.string ⟨#[93]⟩,.string ⟨#[44]⟩,.string ⟨#[59]⟩,.string ⟨#[61]⟩,.string ⟨#[60]⟩,.string ⟨#[43]⟩,.string ⟨#[45]⟩,.string ⟨#[42]⟩,.string ⟨#[47]⟩,.string ⟨#[37]⟩,.string ⟨#[33]⟩]) (Iv0 k)).run prog w=.ok (.string (bs (cR[k]'(by simpa [cR] using Y)))) w:=D7
 generalize (#[.string ⟨#[61,61]⟩,.string ⟨#[33,61]⟩,.string ⟨#[60,61]⟩,.string ⟨#[38,38]⟩,.string ⟨#[124,124]⟩,.string ⟨#[40]⟩,.string ⟨#[41]⟩,.string ⟨#[123]⟩,.string ⟨#[125]⟩,.string ⟨#[91]⟩,.string ⟨#[93]⟩,.string ⟨#[44]⟩,.string ⟨#[59]⟩,.string ⟨#[61]⟩,.string ⟨#[60]⟩,.string ⟨#[43]⟩,.string ⟨#[45]⟩,.string ⟨#[42]⟩,.string ⟨#[47]⟩,.string ⟨#[37]⟩,.string ⟨#[33]⟩]:Array Value)=Z at d p y;have HIXX:=aB y;have HTAB:=aB d;have U:=aB p;clear l d p y;have W:=aB B;clear h B O;go_in
 go_wp2_with (refine wpList_load_row rfl 329 (.global 6) rfl 6 (by rfl) tt Z fr (.array 21 9) HTAB underlying329 rfl U ?_)
 go_loopg [4,6] 21 (fun gk _ i wr=>∃k:Nat,k+gk=21/\i=Iv0 k/\Hid (vP (a.data.toList.drop n) k)/\SC sb a n L wr/\Fr sb w wr/\ZTok wr w.heap.size)
 case atStart=>exact⟨0,by omega,rfl,fun o ho=>(by simp at ho),W,H,X⟩
 case round=>
  obtain⟨k,Y,rfl,A,s,J,I⟩:=hrel;obtain⟨h0,c0,c1,c2,f1,f2⟩:=s.cells;have z:=aB s;have t:=aB J;have u:=aB I;clear s J I X H W;by_cases f:k<21
  ·obtain⟨j,rfl⟩:∃j,gk=j+1:=⟨gk-1,by omega⟩
   obtain⟨q,N⟩:∃q,q=cR[k]'(by simpa [cR] using f):=⟨_,rfl⟩
   have ab:∀w,(Instr.index 329 (.agg Z) (Iv0 k)).run prog w=.ok (.string (bs q)) w:=fun w=>by rw[N];exact HIXX k f w
   have ag:q.length<=2:=by rw[N];exact JC k f
   have af:(bs q).size=q.length:=iM q;have M:Hid (q=cR[k]'(by simpa [cR] using f)):=N
   clear N;have g:=aB (fun w=>BD (a.extract n a.size) (bs q) w (by rw[qX];omega) (by rw[iM];omega))
   rw[mT,jN] at g;cases b:cS (a.data.toList.drop n) q
   ·rw[b] at g;have F:Hid (vP (a.data.toList.drop n) (k+1)):=MQ f A.out (by rw[<-M.out];exact b)
    clear A M b;go_wp2_with fail;go_quiet ((go_at_call 178;exact Calls.quiet_of_same (g _)))
    go_wp2
    go_roundg j
    case measure=>omega
    case rel=>exact⟨k+1,by omega,by go_num,F,z,t.drewN _,u⟩
   ·rw[b] at g;have F:Hid (r={ sort:=112,text:=q,size:=q.length,ok:=true }):=by rw[<-hr.out];exact RC f A.out q M b
    have Q:n+q.length<=a.size:=by
     have:=kV b;simp at this;omega
    have HTXT:Hid ((a.data.toList.drop n).take q.length=q):=by
     show _=_
     have B:=b;unfold cS at B;rw[lW _ _ (kV b)] at B;simpa using B
    have C:=aB (fun E=>nQ sb a n L q.length (wr.drewN E) z hs Q)
    rw[HTXT.out] at C;have T:Hid (∀E,ZTok (wr.drewN E) w.heap.size):=fun _=>u
    have ad:Hid (∀E,w.heap.size<(wr.drewN E).heap.size):=fun _=>aD u
    clear A M b;go_wp2_with fail;go_quiet ((go_at_call 178;exact Calls.quiet_of_same (g _)))
    go_wp2_with fail;go_region_law (go_simp;go_at_call 203;refine(C _).mono ?_;rintro e w2 ⟨rfl,D,x⟩;have G:=aB D;have V:=aB ((t.drewN _).trans x);have c:=aB (x.keepS (T _) K);have ac:=(SC.cells G).2.2.2.1;have z0:=aA c (i:=0) rfl;have z1:=aA c (i:=1) rfl;have z2:=aA c (i:=2) rfl;have z3:=aA c (i:=3) rfl;have y0:=aE (i:=0) c;have y1:=aE (i:=1) c;have y2:=aE (i:=2) c;have y3:=aE (i:=3) c;have ae:=aD c;clear D x)
    all_goals
     go_wp2_with fail;rw[F.out];refine bodyPost_ret (v:=.agg #[Iv0 0,.string (bs q),Iv0 0,Iv0 L]) (by simp[results,results186,go_sem,z0,z1,z2,z3]) rfl ?_
     have m:=lZ V G dH K (Iv0 0) (.string (bs q)) (Iv0 0) (Iv0 L);exact⟨m.1,Y4 ⟨rfl,rfl,m.2⟩⟩
  ·obtain rfl:k=21:=by omega
   have F:Hid (r={ sort:=0,text:=[],size:=0,ok:=false }):=by rw[<-hr.out];exact MK A.out
   have P:=aB (qW sb a n L wr z);clear A;go_wp2_with fail;refine P.mono ?_;rintro e w3 ⟨rfl,hw⟩;obtain rfl:=hw.symm;go_wp2_with fail;rw[F.out];exact⟨rfl,t,Y3 ⟨rfl,rfl⟩⟩
end Go.Proofs.YtddnpoiiimjpcaaGreatDoor
