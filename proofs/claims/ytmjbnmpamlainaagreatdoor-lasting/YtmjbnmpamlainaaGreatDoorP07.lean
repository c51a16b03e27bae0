/- Contracts of the program: strings and marks. -/
import Derived.Test.YtmjbnmpamlainaaGreatDoorB03
import Derived.Test.YtmjbnmpamlainaaGreatDoorP06
set_option linter.defProp false
set_option maxRecDepth 100000
set_option maxHeartbeats 4000000
namespace Go.Proofs.YtmjbnmpamlainaaGreatDoor
open Hs
open _root_.Go.Proofs.Tryz
open Go.RowKit
abbrev ZTok(w:aG)(b:Nat):Prop:=w.heap[b]?=some (.cells #[Iv0 0,.string ⟨#[]⟩,Iv0 0,Iv0 0] 150 (0,0))
def A7(sb:Nat)(a:ByteArray)(n L:Nat)(w:aG)(h:SC sb a n L w)(hs:a.size<=2000000000)(hn:n<a.size):
 Calls prog 153 #[bH sb] w (l9 sb a n L w (oP (a.data.toList.drop (n+1)))):=by
 obtain⟨m,Y⟩:∃m,m=n+1:=⟨_,rfl⟩;rw[<-Y];obtain⟨f,y⟩:∃f,f=bP fQ (a.data.toList.drop m):=⟨_,rfl⟩
 have ak:f<=a.size-m:=by
  have:=lJ fQ (a.data.toList.drop m);rw[y];simpa using this
 obtain⟨k,hk⟩:∃k,k=m+f:=⟨_,rfl⟩;have ad:=(SC.cells h).1;have z:w.heap.size≠sb:=by omega
 have h1:SC sb a n L (w.alloc (.cells #[Iv0 0,.string ⟨#[]⟩,Iv0 0,Iv0 0] 150)):=by unfold SC;rw[cq_ _ _ _ ad];exact h
 have HZ:Hid (ZTok (w.alloc (.cells #[Iv0 0,.string ⟨#[]⟩,Iv0 0,Iv0 0] 150)) w.heap.size):=aO _ _ rfl _;have K:=aB (pL sb a n L 1 (w.alloc (.cells #[Iv0 0,.string ⟨#[]⟩,Iv0 0,Iv0 0] 150)) h1 hs (by omega))
 rw[<-Y] at K;have E:=aB (fun w=>wD fQ 180 (fun _ _=>rfl) NI (a.extract m a.size) w (by rw[tE];omega))
 rw[oB,<-y] at E;obtain⟨B,s⟩:∃B,B=(a.data.toList.drop m).take f:=⟨_,rfl⟩;have af:(bs B).size=f:=by rw[gR,s,da_];simp;omega
 obtain⟨ok,b⟩:∃ok,ok=(decide ((a.data.toList.drop m)[f]?=some 34) && decide (f<=100)):=⟨_,rfl⟩
 have HW:Hid (oP (a.data.toList.drop m)={ sort:=115,text:=B,size:=f+2,ok:=ok }):=by
  show _=_
  unfold oP;rw[<-y,<-s,<-b]
 rw[HW.out];have ab:=aB s;have g:=aB b;have P:Hid (Fr sb w (w.alloc (.cells #[Iv0 0,.string ⟨#[]⟩,Iv0 0,Iv0 0] 150))):=(Fr.refl _ _).alloc _;have HM:=aB Y;have O:=aB hk;have ah:m<=a.size:=by omega
 have ag:k<=a.size:=by omega
 clear h h1 y s HW b Y hk;generalize c:({ sort:=115,text:=B,size:=f+2,ok:=ok }:qN)=rr;have j:=aB c;clear c;go_in
 go_wp2_with fail;refine K.mono ?_;rintro e w1 ⟨rfl,J,M⟩;have T:=aB (M.keepS HZ z);have HZ1d:Hid (ZTok w1.drew w.heap.size):=T;have t:=aB (pL sb a m L f w1.drew J hs (by omega))
 rw[<-O.out] at t;rw[<-ab.out] at t;have N:=aB (P.trans M);obtain⟨h0,c0,X,V,Z,W⟩:=J.cells;clear J M K HZ P;go_wp2_with fail;go_cut [3] (fun v wc=>v=.string (bs B)/\SC sb a (k) L wc/\Fr sb w wc/\ZTok wc w.heap.size)
 case first=>
  go_region_law (first|(go_simp;go_at_call 147;refine(E _).mono ?_;rintro e w2 ⟨rfl,I⟩;obtain rfl:=I.symm)|(go_simp;go_at_call 175;refine t.mono ?_;rintro e w2 ⟨rfl,o,p⟩;have u:=aB o;have r:=aB (N.drew.trans p);have x:=aB (p.keepS HZ1d z);clear o p))
  all_goals
   go_wp2_with fail;go_meet
   case rel=>exact⟨rfl,u,r,x⟩
 case rest=>
  obtain⟨rfl,o,p,Q⟩:=hcut;clear c0 X V Z W h0;obtain⟨h0,c0,X,V,Z,W⟩:=o.cells;have u:=aB o;have r:=aB p;have x:=aB Q;clear o p Q t E T HZ1d N;have H:=aB (fun q=>tD sb a (k) L (wc.drewN q) u)
  by_cases A:f<=100
  rotate_left
  ·have e1:decide ((100:Int)<(f:Int))=true:=decide_eq_true (by omega)
   have b:ok=false:=by rw[g.out,decide_eq_false A,Bool.and_false]
   subst b;have c:=j;clear j g;subst c;go_wp2_with fail;go_quiet (fail)
   go_wp2_with fail;refine(H _).mono ?_;rintro e w3 ⟨rfl,I⟩;obtain rfl:=I.symm;go_wp2_with fail;exact⟨rfl,r.drewN _,ck_ ⟨rfl,rfl⟩⟩
  have e1:decide ((100:Int)<(f:Int))=false:=decide_eq_false (by omega)
  by_cases ai:k=a.size
  ·have e2:((k:Int)==(a.size:Int))=true:=by simp;omega
   have b:ok=false:=by
    rw[g.out,cV_ (by have:=O.out;simp;omega)];simp
   subst b;have c:=j;clear j g;subst c;go_wp2_with fail;go_quiet (fail)
   go_wp2_with fail;refine(H _).mono ?_;rintro e w3 ⟨rfl,I⟩;obtain rfl:=I.symm;go_wp2_with fail;exact⟨rfl,r.drewN _,ck_ ⟨rfl,rfl⟩⟩
  have aa:k<a.size:=by omega
  have e2:((k:Int)==(a.size:Int))=false:=by simp;omega
  have hb:(a[k].toNat:Int)<=255:=oY _
  have l:(a.data.toList.drop m)[f]?=some a[k]:=by
   have e:=IX a m f (by rw[<-O.out];exact aa)
   rw[e];congr 1
   simp only[O.out]
  by_cases F:a[k].toNat=34
  ·have b:ok=true:=by
    rw[g.out,l,decide_eq_true A,Bool.and_true];exact decide_eq_true (congrArg some (dJ_.1 F))
   subst b;have c:=j;clear j g l;subst c;have S:((a[k].toNat:Int) != 34)=false:=by simp;omega
   have aj:w.heap.size<wc.heap.size:=aC x;have U:=aB (fun q=>pL sb a (k) L 1 (wc.drewN q) u hs (by omega))
   clear F;go_wp2_with fail;go_quiet (fail)
   go_wp2_with fail;refine(U _).mono ?_;rintro e w3 ⟨rfl,D,G⟩;have d:=aB ((((Fr.refl sb wc).drewN _).trans G).keepS x z);have ae:=aB ((r.drewN _).trans G);have ac:=aB D;have z0:=aA d (i:=0) rfl;have z1:=aA d (i:=1) rfl;have z2:=aA d (i:=2) rfl;have z3:=aA d (i:=3) rfl;have y0:=aD (i:=0) d;have y1:=aD (i:=1) d;have y2:=aD (i:=2) d;have y3:=aD (i:=3) d;have al:=aC d;clear c0 X V Z W h0;obtain⟨h0,c0,X,V,Z,W⟩:=D.cells;clear D G U;go_wp2
   refine bodyPost_ret (v:=.agg #[Iv0 3,.string (bs B),Iv0 0,Iv0 L]) (by simp[results,results153,go_sem,z0,z1,z2,z3]) rfl ?_
   have C:=nG ae ac cL z (Iv0 3) (.string (bs B)) (Iv0 0) (Iv0 L);exact⟨C.1,cl_ ⟨rfl,rfl,by rw[show n+(f+2)=k+1 by have:=HM.out;have:=O.out;omega];exact C.2⟩⟩
  ·have b:ok=false:=by
    rw[g.out,l,decide_eq_false (fun e=>F (by rw[Option.some.inj e];rfl))];rfl
   subst b;have c:=j;clear j g l;subst c;have S:((a[k].toNat:Int) != 34)=true:=by simp;omega
   go_wp2_with fail;go_quiet (fail)
   go_wp2_with fail;refine(H _).mono ?_;rintro e w3 ⟨rfl,I⟩;obtain rfl:=I.symm;go_wp2_with fail;exact⟨rfl,r.drewN _,ck_ ⟨rfl,rfl⟩⟩
structure PTabs(w:aG):Prop where
 tab:∃t fr,w.heap[(3:Nat)]?=some (.cells #[.string ⟨#[61,61]⟩,.string ⟨#[33,61]⟩,.string ⟨#[60,61]⟩,.string ⟨#[38,38]⟩,.string ⟨#[124,124]⟩,.string ⟨#[40]⟩,.string ⟨#[41]⟩,.string ⟨#[123]⟩,.string ⟨#[125]⟩,.string ⟨#[91]⟩,.string ⟨#[93]⟩,.string ⟨#[44]⟩,.string ⟨#[59]⟩,.string ⟨#[61]⟩,.string ⟨#[60]⟩,.string ⟨#[43]⟩,.string ⟨#[45]⟩,.string ⟨#[42]⟩,.string ⟨#[47]⟩,.string ⟨#[37]⟩,.string ⟨#[33]⟩] t fr)
 big:9<=w.heap.size
def PTabs.fr{w w':aG}{sb:Nat}(h:PTabs w)(a:Fr sb w w')(d:9<=sb):PTabs w':=by
 obtain⟨t,c,b⟩:=h.tab;have:=h.big;have:=a.size;exact⟨⟨t,c,by rw[a.block 3 (by omega) (by omega)];exact b⟩,by omega⟩
abbrev iB:Value:=.agg #[.string ⟨#[61,61]⟩,.string ⟨#[33,61]⟩,.string ⟨#[60,61]⟩,.string ⟨#[38,38]⟩,.string ⟨#[124,124]⟩,.string ⟨#[40]⟩,.string ⟨#[41]⟩,.string ⟨#[123]⟩,.string ⟨#[125]⟩,.string ⟨#[91]⟩,.string ⟨#[93]⟩,.string ⟨#[44]⟩,.string ⟨#[59]⟩,.string ⟨#[61]⟩,.string ⟨#[60]⟩,.string ⟨#[43]⟩,.string ⟨#[45]⟩,.string ⟨#[42]⟩,.string ⟨#[47]⟩,.string ⟨#[37]⟩,.string ⟨#[33]⟩]
def J7(w:aG):(Instr.index 308 iB (Iv0 0)).run prog w=.ok (.string ⟨#[61,61]⟩) w:=by kernel_rfl
def J6(w:aG):(Instr.index 308 iB (Iv0 1)).run prog w=.ok (.string ⟨#[33,61]⟩) w:=by kernel_rfl
def J5(w:aG):(Instr.index 308 iB (Iv0 2)).run prog w=.ok (.string ⟨#[60,61]⟩) w:=by kernel_rfl
def J4(w:aG):(Instr.index 308 iB (Iv0 3)).run prog w=.ok (.string ⟨#[38,38]⟩) w:=by kernel_rfl
def J3(w:aG):(Instr.index 308 iB (Iv0 4)).run prog w=.ok (.string ⟨#[124,124]⟩) w:=by kernel_rfl
def J2(w:aG):(Instr.index 308 iB (Iv0 5)).run prog w=.ok (.string ⟨#[40]⟩) w:=by kernel_rfl
def J1(w:aG):(Instr.index 308 iB (Iv0 6)).run prog w=.ok (.string ⟨#[41]⟩) w:=by kernel_rfl
def J0(w:aG):(Instr.index 308 iB (Iv0 7)).run prog w=.ok (.string ⟨#[123]⟩) w:=by kernel_rfl
def I9(w:aG):(Instr.index 308 iB (Iv0 8)).run prog w=.ok (.string ⟨#[125]⟩) w:=by kernel_rfl
def I8(w:aG):(Instr.index 308 iB (Iv0 9)).run prog w=.ok (.string ⟨#[91]⟩) w:=by kernel_rfl
def WQ(w:aG):(Instr.index 308 iB (Iv0 10)).run prog w=.ok (.string ⟨#[93]⟩) w:=by kernel_rfl
def WP(w:aG):(Instr.index 308 iB (Iv0 11)).run prog w=.ok (.string ⟨#[44]⟩) w:=by kernel_rfl
def WO(w:aG):(Instr.index 308 iB (Iv0 12)).run prog w=.ok (.string ⟨#[59]⟩) w:=by kernel_rfl
def WN(w:aG):(Instr.index 308 iB (Iv0 13)).run prog w=.ok (.string ⟨#[61]⟩) w:=by kernel_rfl
def WM(w:aG):(Instr.index 308 iB (Iv0 14)).run prog w=.ok (.string ⟨#[60]⟩) w:=by kernel_rfl
def WL(w:aG):(Instr.index 308 iB (Iv0 15)).run prog w=.ok (.string ⟨#[43]⟩) w:=by kernel_rfl
def WK(w:aG):(Instr.index 308 iB (Iv0 16)).run prog w=.ok (.string ⟨#[45]⟩) w:=by kernel_rfl
def WJ(w:aG):(Instr.index 308 iB (Iv0 17)).run prog w=.ok (.string ⟨#[42]⟩) w:=by kernel_rfl
def WI(w:aG):(Instr.index 308 iB (Iv0 18)).run prog w=.ok (.string ⟨#[47]⟩) w:=by kernel_rfl
def WH(w:aG):(Instr.index 308 iB (Iv0 19)).run prog w=.ok (.string ⟨#[37]⟩) w:=by kernel_rfl
def WG(w:aG):(Instr.index 308 iB (Iv0 20)).run prog w=.ok (.string ⟨#[33]⟩) w:=by kernel_rfl
def Y2(k:Nat)(a:k<21)(w:aG):(Instr.index 308 iB (Iv0 k)).run prog w=.ok (.string (bs (cX[k]'(by simpa [cX] using a)))) w:=by
 match k,a with
 |0,_=>exact J7 w
 |1,_=>exact J6 w
 |2,_=>exact J5 w
 |3,_=>exact J4 w
 |4,_=>exact J3 w
 |5,_=>exact J2 w
 |6,_=>exact J1 w
 |7,_=>exact J0 w
 |8,_=>exact I9 w
 |9,_=>exact I8 w
 |10,_=>exact WQ w
 |11,_=>exact WP w
 |12,_=>exact WO w
 |13,_=>exact WN w
 |14,_=>exact WM w
 |15,_=>exact WL w
 |16,_=>exact WK w
 |17,_=>exact WJ w
 |18,_=>exact WI w
 |19,_=>exact WH w
 |20,_=>exact WG w
 |k+21,h=>exact absurd h (by omega)
def B4(sb:Nat)(a:ByteArray)(n L:Nat)(w:aG)(h:SC sb a n L w)(O:PTabs w)(hs:a.size<=2000000000)(hn:n<a.size)(r:qN)(hr:Hid (iD (a.data.toList.drop n)=r)):
 Calls prog 154 #[bH sb] w (l9 sb a n L w r):=by
 have S:=(SC.cells h).1;have K:w.heap.size≠sb:=by omega
 have aa:=O.big;have ah:n<=a.size:=by omega
 have B:SC sb a n L (w.alloc (.cells #[Iv0 0,.string ⟨#[]⟩,Iv0 0,Iv0 0] 150)):=by unfold SC;rw[cq_ _ _ _ S];exact h
 have X:Hid (ZTok (w.alloc (.cells #[Iv0 0,.string ⟨#[]⟩,Iv0 0,Iv0 0] 150)) w.heap.size):=aO _ _ rfl _;have H:Hid (Fr sb w (w.alloc (.cells #[Iv0 0,.string ⟨#[]⟩,Iv0 0,Iv0 0] 150))):=(Fr.refl _ _).alloc _;obtain⟨tt,fr,l⟩:=O.tab;have d:(w.alloc (.cells #[Iv0 0,.string ⟨#[]⟩,Iv0 0,Iv0 0] 150)).heap[(3:Nat)]?=_:=eA w 3 (by omega) _ l
 have p:(prog.info? 308).map (·.size)=some (#[.string ⟨#[61,61]⟩,.string ⟨#[33,61]⟩,.string ⟨#[60,61]⟩,.string ⟨#[38,38]⟩,.string ⟨#[124,124]⟩,.string ⟨#[40]⟩,.string ⟨#[41]⟩,.string ⟨#[123]⟩,.string ⟨#[125]⟩,.string ⟨#[91]⟩,.string ⟨#[93]⟩,.string ⟨#[44]⟩,.string ⟨#[59]⟩,.string ⟨#[61]⟩,.string ⟨#[60]⟩,.string ⟨#[43]⟩,.string ⟨#[45]⟩,.string ⟨#[42]⟩,.string ⟨#[47]⟩,.string ⟨#[37]⟩,.string ⟨#[33]⟩]:Array Value).size:=by kernel_rfl
 have y:∀(k:Nat) (Y:k<21) (w:aG),(Instr.index 308 (.agg #[.string ⟨#[61,61]⟩,.string ⟨#[33,61]⟩,.string ⟨#[60,61]⟩,.string ⟨#[38,38]⟩,.string ⟨#[124,124]⟩,.string ⟨#[40]⟩,.string ⟨#[41]⟩,.string ⟨#[123]⟩,.string ⟨#[125]⟩,.string ⟨#[91]⟩,.string ⟨#[93]⟩,.string ⟨#[44]⟩,.string ⟨#[59]⟩,.string ⟨#[61]⟩,.string ⟨#[60]⟩,.string ⟨#[43]⟩,.string ⟨#[45]⟩,.string ⟨#[42]⟩,.string ⟨#[47]⟩,.string ⟨#[37]⟩,.string ⟨#[33]⟩]) (Iv0 k)).run prog w=.ok (.string (bs (cX[k]'(by simpa [cX] using Y)))) w:=Y2
 generalize (#[.string ⟨#[61,61]⟩,.string ⟨#[33,61]⟩,.string ⟨#[60,61]⟩,.string ⟨#[38,38]⟩,.string ⟨#[124,124]⟩,.string ⟨#[40]⟩,.string ⟨#[41]⟩,.string ⟨#[123]⟩,.string ⟨#[125]⟩,.string ⟨#[91]⟩,.string ⟨#[93]⟩,.string ⟨#[44]⟩,.string ⟨#[59]⟩,.string ⟨#[61]⟩,.string ⟨#[60]⟩,.string ⟨#[43]⟩,.string ⟨#[45]⟩,.string ⟨#[42]⟩,.string ⟨#[47]⟩,.string ⟨#[37]⟩,.string ⟨#[33]⟩]:Array Value)=Z at d p y;have HIXX:=aB y;have HTAB:=aB d;have U:=aB p;clear l d p y;have W:=aB B;clear h B O;go_in
 go_wp2_with (refine wpList_load_row rfl 308 (.global 3) rfl 3 (by rfl) tt Z fr (.array 21 9) HTAB underlying308 rfl U ?_)
 go_loopg [4,6] 21 (fun gk _ i wr=>∃k:Nat,k+gk=21/\i=Iv0 k/\Hid (yJ (a.data.toList.drop n) k)/\SC sb a n L wr/\Fr sb w wr/\ZTok wr w.heap.size)
 case atStart=>exact⟨0,by omega,rfl,fun o ho=>(by simp at ho),W,H,X⟩
 case round=>
  obtain⟨k,Y,rfl,A,s,J,I⟩:=hrel;obtain⟨h0,c0,c1,c2,f1,f2⟩:=s.cells;have z:=aB s;have t:=aB J;have u:=aB I;clear s J I X H W;by_cases f:k<21
  ·obtain⟨j,rfl⟩:∃j,gk=j+1:=⟨gk-1,by omega⟩
   obtain⟨q,N⟩:∃q,q=cX[k]'(by simpa [cX] using f):=⟨_,rfl⟩
   have ab:∀w,(Instr.index 308 (.agg Z) (Iv0 k)).run prog w=.ok (.string (bs q)) w:=fun w=>by rw[N];exact HIXX k f w
   have ag:q.length<=2:=by rw[N];exact MX k f
   have af:(bs q).size=q.length:=gR q;have M:Hid (q=cX[k]'(by simpa [cX] using f)):=N
   clear N;have g:=aB (fun w=>EK (a.extract n a.size) (bs q) w (by rw[tE];omega) (by rw[gR];omega))
   rw[oB,fX] at g;cases b:cY (a.data.toList.drop n) q
   ·rw[b] at g;have F:Hid (yJ (a.data.toList.drop n) (k+1)):=QW f A.out (by rw[<-M.out];exact b)
    clear A M b;go_wp2_with fail;go_quiet ((go_at_call 146;exact Calls.quiet_of_same (g _)))
    go_wp2
    go_roundg j
    case measure=>omega
    case rel=>exact⟨k+1,by omega,by go_num,F,z,t.drewN _,u⟩
   ·rw[b] at g;have F:Hid (r={ sort:=112,text:=q,size:=q.length,ok:=true }):=by rw[<-hr.out];exact VS f A.out q M b
    have Q:n+q.length<=a.size:=by
     have:=lT b;simp at this;omega
    have HTXT:Hid ((a.data.toList.drop n).take q.length=q):=by
     show _=_
     have B:=b;unfold cY at B;rw[nD _ _ (lT b)] at B;simpa using B
    have C:=aB (fun E=>pL sb a n L q.length (wr.drewN E) z hs Q)
    rw[HTXT.out] at C;have T:Hid (∀E,ZTok (wr.drewN E) w.heap.size):=fun _=>u
    have ad:Hid (∀E,w.heap.size<(wr.drewN E).heap.size):=fun _=>aC u
    clear A M b;go_wp2_with fail;go_quiet ((go_at_call 146;exact Calls.quiet_of_same (g _)))
    go_wp2_with fail;go_region_law (go_simp;go_at_call 175;refine(C _).mono ?_;rintro e w2 ⟨rfl,D,x⟩;have G:=aB D;have V:=aB ((t.drewN _).trans x);have c:=aB (x.keepS (T _) K);have ac:=(SC.cells G).2.2.2.1;have z0:=aA c (i:=0) rfl;have z1:=aA c (i:=1) rfl;have z2:=aA c (i:=2) rfl;have z3:=aA c (i:=3) rfl;have y0:=aD (i:=0) c;have y1:=aD (i:=1) c;have y2:=aD (i:=2) c;have y3:=aD (i:=3) c;have ae:=aC c;clear D x)
    all_goals
     go_wp2_with fail;rw[F.out];refine bodyPost_ret (v:=.agg #[Iv0 0,.string (bs q),Iv0 0,Iv0 L]) (by simp[results,results154,go_sem,z0,z1,z2,z3]) rfl ?_
     have m:=nG V G cL K (Iv0 0) (.string (bs q)) (Iv0 0) (Iv0 L);exact⟨m.1,cl_ ⟨rfl,rfl,m.2⟩⟩
  ·obtain rfl:k=21:=by omega
   have F:Hid (r={ sort:=0,text:=[],size:=0,ok:=false }):=by rw[<-hr.out];exact QQ A.out
   have P:=aB (tD sb a n L wr z);clear A;go_wp2_with fail;refine P.mono ?_;rintro e w3 ⟨rfl,hw⟩;obtain rfl:=hw.symm;go_wp2_with fail;rw[F.out];exact⟨rfl,t,ck_ ⟨rfl,rfl⟩⟩
def ZB(cb l lo:Nat)(fs:List aE)(a:aQ)(r:fs.length<=90000)(u:∀f∈fs,f.kids.length<=90000)(d:Nat)(A:nN cb l lo fs a d)(c:aE)(v:aQ)(seen:cN)(w:aG)(h:CK cb l lo fs a w seen)(g:PKid (Btw lo l) w v c.kids)(y:∀k∈c.kids,fF d k)(q:seen.length+(c.kids.map (cC d)).sum<=90000):
 Calls prog 58 #[bH cb,.iface 192 (.agg #[Iv0 c.line,.string (bs c.text),v])] w (dI cb l lo fs a w (jE fs (gA a) d c.kids (eO fs (gA a) ⟨seen,0,0⟩ c))):=by
 obtain⟨o,x,rfl⟩:=g.slice;have D:=BA;have F:=DI;have J:=UM;have G:=GW;have I:=DH;have H:=GX;have E:=LW;obtain⟨b,i⟩:=Loc.new h (.cells #[Iv0 c.line,.string (bs c.text),.slice o c.kids.length x] 192);have j:=aB b;have B:=aB (XY cb l lo fs a r u d A c (.slice o c.kids.length x) seen (w.alloc (.cells #[Iv0 c.line,.string (bs c.text),.slice o c.kids.length x] 192)) i (g.below b.fb.bel) y q (by have:=wP y;omega))
 clear h b i;generalize jE fs (gA a) d c.kids (eO fs (gA a) ⟨seen,0,0⟩ c)=c at*;go_in
 go_wp2_with fail;refine B.mono ?_;rintro e C ⟨n,⟨s,z,rfl,m⟩|⟨g,rfl⟩⟩
 ·have p:=aB (j.fb.trans n);have t:=aB m;subst z;clear n m;go_wp2
  go_end0;exact dI.done p rfl t
 ·have p:=aB (j.fb.trans n);have t:=aB g;clear n g;go_wp2_with fail;exact⟨rfl,dI.fault (c1:=c) p t (Stk.refl _)⟩
def WA(cb k lo:Nat)(fs:List aE)(b:aQ)(d:Nat)(z:kP cb k lo fs b d)(seen:cN)(w:aG)(h:CK cb k lo fs b w seen)(l:Nat)(t a:aE)(v1:aQ)(x:PN (Btw lo k) w v1 a)(q:fF d a)(r:seen.length+cC d a<=90000):
 Calls prog 58 #[bH cb,.iface 178 (.agg #[Iv0 l,Iv0 t.line,.string (bs t.text),v1])] w (dI cb k lo fs b w (({ aP fs (gA b) d a (Hs.declaresL ⟨seen,0,0⟩ t) with seen:=(aP fs (gA b) d a (Hs.declaresL ⟨seen,0,0⟩ t)).seen++[t.text] }:bD))):=by
 obtain⟨o,g,rfl⟩:=x.form;have C:=uR;obtain⟨f,i⟩:=Loc.new h (.cells #[Iv0 l,Iv0 t.line,.string (bs t.text),.iface o (.agg g)] 178);have j:=aB f;have A:=aB (TB cb k lo fs b d z (w.alloc (.cells #[Iv0 l,Iv0 t.line,.string (bs t.text),.iface o (.agg g)] 178)) seen i l t a (.iface o (.agg g)) (x.below f.fb.bel) q r);clear h f i;generalize ({ aP fs (gA b) d a (Hs.declaresL ⟨seen,0,0⟩ t) with seen:=(aP fs (gA b) d a (Hs.declaresL ⟨seen,0,0⟩ t)).seen++[t.text] }:bD)=c at*
 go_in
 go_wp2_with fail;refine A.mono ?_;rintro e B ⟨n,⟨s,y,rfl,m⟩|⟨v,rfl⟩⟩
 ·have p:=aB (j.fb.trans n);have u:=aB m;subst y;clear n m;go_wp2
  go_end0;exact dI.done p rfl u
 ·have p:=aB (j.fb.trans n);have u:=aB v;clear n v;go_wp2_with fail;exact⟨rfl,dI.fault (c1:=c) p u (Stk.refl _)⟩
def VZ(cb j lo:Nat)(fs:List aE)(n:aQ)(seen:cN)(w:aG)(h:CK cb j lo fs n w seen)(l m:Nat):
 Calls prog 58 #[bH cb,.iface 189 (.agg #[Iv0 l,.iface 243 (.agg #[Iv0 m,Iv0 0])])] w (dI cb j lo fs n w ((⟨seen,0,0⟩:bD))):=by
 have t:=oO;have u:=pN;have y:=vX;have v:=qR;have x:=pM;obtain⟨a,b⟩:=Loc.new h (.cells #[Iv0 l,.iface 243 (.agg #[Iv0 m,Iv0 0])] 189);have d:=aB a;have q:=aB (KR cb j lo fs n seen (w.alloc (.cells #[Iv0 l,.iface 243 (.agg #[Iv0 m,Iv0 0])] 189)) b m 0);clear h a b;generalize (⟨seen,0,0⟩:bD)=c at*;go_in
 go_wp2_with fail;refine q.mono ?_;rintro e r ⟨g,⟨s,p,rfl,f⟩|⟨o,rfl⟩⟩
 ·have i:=aB (d.fb.trans g);have k:=aB f;subst p;clear g f;go_wp2
  go_end0;exact dI.done i rfl k
 ·have i:=aB (d.fb.trans g);have k:=aB o;clear g o;go_wp2_with fail;exact⟨rfl,dI.fault (c1:=c) i k (Stk.refl _)⟩
def eI{fs:List aE}{b:Bool}{d:Nat}{a:aE}{s:bD}(c:(a.op==[118,97,114])=false)(e:(a.op==[98,108,111,99,107])=false):aP fs b (d+1) a s=jE fs b d a.kids (cK fs b s a):=by
 rw[aP,if_neg (by rw[c];simp)]
 simp only[e];rfl
def look_plain{fs:List aE}{c:Bool}{a:aE}{s:bD}(d:(a.op==[115,101,116])=false)(b:(a.op==[110,97,109,101])=false)(e:(a.op==[99,97,108,108])=false):cK fs c s a=s:=by
 unfold cK;rw[d,b,e];rfl
def RC{fs:List aE}{b:Bool}{a:aE}{s:bD}(h:(a.op==[115,101,116] || a.op==[110,97,109,101])=true):cK fs b s a=CL s a.line a.text:=by
 unfold cK;rw[h];rfl
def KT{fs:List aE}{b:Bool}{a:aE}{s:bD}(h:a.op=[99,97,108,108]):cK fs b s a=eO fs b s a:=by
 unfold cK;rw[h];rfl
def QR{x y:cD}(h:cJ x≠9)(a:cJ y=9):(x==y)=false:=by
 rw[beq_eq_false_iff_ne];intro e;rw[e] at h;exact h a
def F7(cb q lo:Nat)(fs:List aE)(p:aQ)(F:fs.length<=90000)(H:∀f∈fs,f.kids.length<=90000)(d:Nat)(IHs:∀e,e<=d->kP cb q lo fs p e):kP cb q lo fs p (d+1):=by
 intro v a seen w h P D j;obtain⟨T,X,W,rfl,M,m⟩:=P.parts;have x:=IHs d cL;have J:=tF cb q lo fs p d x
 have B:tO cb q lo fs p d:=by
  cases d with
  |zero=>exact fun _ _ _ _ _ _ _ Q _=>Q.elim
  |succ e=>exact TP (tF cb q lo fs p e (IHs e (by omega)))
 rw[cC] at j;have i:∀k∈a.kids,fF d k:=D;clear P D;rcases M with ⟨rfl,k,rfl,b,N,g,rfl⟩|⟨rfl,rfl,b,g,rfl⟩|⟨rfl,rfl,b,g,rfl⟩|⟨rfl,z,rfl,b,rfl⟩|⟨rfl,z,rfl,b,rfl⟩|⟨rfl,rfl,b,g,rfl⟩|⟨rfl,l,r,G,n,C,rfl,b,g,rfl⟩|⟨rfl,o,r,n,rfl,V,b,g,rfl⟩|⟨rfl,l,r,G,n,C,rfl,b,g,rfl⟩|⟨rfl,r,t,n,rfl,b,g,rfl⟩|⟨rfl,z,r,l,n,rfl,b,g,rfl⟩|⟨rfl,r,A,n,s,rfl,b,y,g,rfl⟩|⟨rfl,r,A,O,n,s,K,rfl,b,y,L,g,rfl⟩|⟨rfl,r,A,n,s,rfl,b,y,g,rfl⟩|⟨rfl,l,rfl,b,g,rfl⟩|⟨rfl,r,n,rfl,b,g,rfl⟩|⟨rfl,r,n,rfl,b,g,rfl⟩|⟨rfl,z,c,rfl,b,U,S,g,u,rfl⟩
 ·have e:aP fs (gA p) (d+1) a ⟨seen,0,0⟩=⟨seen,0,0⟩:=by rw[eI (by rw[b];decide) (by rw[b];decide),look_plain (by rw[b];decide) (by rw[b];decide) (by rw[b];decide),g];rfl
  rw[e];exact KR cb q lo fs p seen w h _ k
 ·have e:aP fs (gA p) (d+1) a ⟨seen,0,0⟩=⟨seen,0,0⟩:=by rw[eI (by rw[b];decide) (by rw[b];decide),look_plain (by rw[b];decide) (by rw[b];decide) (by rw[b];decide),g];rfl
  rw[e];exact G4 cb q lo fs p seen w h _ _
 ·have e:aP fs (gA p) (d+1) a ⟨seen,0,0⟩=⟨seen,0,0⟩:=by rw[eI (by rw[b];decide) (by rw[b];decide),look_plain (by rw[b];decide) (by rw[b];decide) (by rw[b];decide),g];rfl
  rw[e];exact an_ cb q lo fs p seen w h _ _
 ·rw[eI (by rw[b];decide) (by rw[b];decide),look_plain (by rw[b];decide) (by rw[b];decide) (by rw[b];decide)]
  exact am_ cb q lo fs p d J seen w h _ z a.kids (m _ (cs_.2 rfl)).many i (by omega)
 ·rw[eI (by rw[b];decide) (by rw[b];decide),KT b]
  exact ZB cb q lo fs p F H d J a z seen w h (m _ (cs_.2 rfl)).many i (by omega)
 ·have e:aP fs (gA p) (d+1) a ⟨seen,0,0⟩=CL ⟨seen,0,0⟩ a.line a.text:=by rw[eI (by rw[b];decide) (by rw[b];decide),RC (by rw[b];decide),g];rfl
  rw[e];exact QZ cb q lo fs p seen w h _ _ (by omega)
 ·rw[eI (by rw[b];decide) (by rw[b];decide),look_plain (by rw[b];decide) (by rw[b];decide) (by rw[b];decide),g]
  rw[g] at j i;simp only[cE_,c1_,cH_,c6_] at j;exact X7 cb q lo fs p d x seen w h l r n (m _ (by simp)).one' (i n (by simp)) G C (m ⟨G,[C],true⟩ (by simp)).one' (i C (by simp)) (by omega)
 ·have I:a.op=[45,120]\/a.op=[33,120]:=by rcases V with rfl|rfl<;>simp[b]
  have e:aP fs (gA p) (d+1) a ⟨seen,0,0⟩=aP fs (gA p) d n ⟨seen,0,0⟩:=by
   rcases I with b|b<;>(rw[eI (by rw[b];decide) (by rw[b];decide),look_plain (by rw[b];decide) (by rw[b];decide) (by rw[b];decide),g];rfl)
  rw[e];rw[g] at j i;simp only[cE_,c1_,cH_,c6_] at j;exact X5 cb q lo fs p d x seen w h _ _ r n (m _ (by simp)).one' (i n (by simp)) (by omega)
 ·rw[eI (QR b (by decide)) (QR b (by decide)),look_plain (QR b (by decide)) (QR b (by decide)) (QR b (by decide)),g]
  rw[g] at j i;simp only[cE_,c1_,cH_,c6_] at j;exact G6 cb q lo fs p d x seen w h l _ r n (m _ (by simp)).one' (i n (by simp)) G C (m ⟨G,[C],true⟩ (by simp)).one' (i C (by simp)) (by omega)
 ·have e:aP fs (gA p) (d+1) a ⟨seen,0,0⟩={ aP fs (gA p) d n (Hs.declaresL ⟨seen,0,0⟩ t) with seen:=(aP fs (gA p) d n (Hs.declaresL ⟨seen,0,0⟩ t)).seen++[t.text] }:=by
   rw[aP,if_pos (by rw[b];rfl),g]
  rw[e];rw[g] at j i;simp only[cE_,c1_,cH_,c6_] at j;exact WA cb q lo fs p d x seen w h _ t n r (m _ (by simp)).one' (i n (by simp)) (by omega)
 ·rw[eI (by rw[b];decide) (by rw[b];decide),RC (by rw[b];decide),g]
  rw[g] at j i;simp only[cZ_,cE_,c1_,ds_,cH_,c6_] at j
  have e:jE fs (gA p) d (l++[n]) (CL ⟨seen,0,0⟩ a.line a.text)=aP fs (gA p) d n (jE fs (gA p) d l (CL ⟨seen,0,0⟩ a.line a.text)):=by
   show List.foldl _ _ (l++[n])=_
   rw[List.foldl_append];rfl
  rw[e];exact G7 cb q lo fs p d x J seen w h _ _ z l (m ⟨z,l,false⟩ (by simp)).many (fun k N=>i k (cC_ _ N)) r n (m ⟨r,[n],true⟩ (by simp)).one' (i n (by simp)) (by omega)
 ·rw[eI (by rw[b];decide) (by rw[b];decide),look_plain (by rw[b];decide) (by rw[b];decide) (by rw[b];decide),g]
  rw[g] at j i;simp only[cE_,c1_,cH_,c6_] at j;exact bw_ cb q lo fs p d x J B seen w h _ r n (m ⟨r,[n],true⟩ (by simp)).one' (i n (by simp)) A s y (m ⟨A,s.kids,false⟩ (by simp)).many (i s (by simp)) (by omega)
 ·rw[eI (by rw[b];decide) (by rw[b];decide),look_plain (by rw[b];decide) (by rw[b];decide) (by rw[b];decide),g]
  rw[g] at j i;simp only[cE_,c1_,cH_,c6_] at j;exact bT_ cb q lo fs p d x B seen w h _ r n (m ⟨r,[n],true⟩ (by simp)).one' (i n (by simp)) A s y (m ⟨A,s.kids,false⟩ (by simp)).many (i s (by simp)) O K L (m ⟨O,K.kids,false⟩ (by simp)).many (i K (by simp)) (by omega)
 ·rw[eI (by rw[b];decide) (by rw[b];decide),look_plain (by rw[b];decide) (by rw[b];decide) (by rw[b];decide),g]
  rw[g] at j i;simp only[cE_,c1_,cH_,c6_] at j;exact X4 cb q lo fs p d x B seen w h _ r n (m ⟨r,[n],true⟩ (by simp)).one' (i n (by simp)) A s y (m ⟨A,s.kids,false⟩ (by simp)).many (i s (by simp)) (by omega)
 ·have e:aP fs (gA p) (d+1) a ⟨seen,0,0⟩=⟨seen,0,0⟩:=by rw[eI (by rw[b];decide) (by rw[b];decide),look_plain (by rw[b];decide) (by rw[b];decide) (by rw[b];decide),g];rfl
  rw[e];exact VZ cb q lo fs p seen w h _ l
 ·rw[eI (by rw[b];decide) (by rw[b];decide),look_plain (by rw[b];decide) (by rw[b];decide) (by rw[b];decide),g]
  rw[g] at j i;simp only[cE_,c1_,cH_,c6_] at j;exact G5 cb q lo fs p d x seen w h _ r n (m _ (by simp)).one' (i n (by simp)) (by omega)
 ·rw[eI (by rw[b];decide) (by rw[b];decide),look_plain (by rw[b];decide) (by rw[b];decide) (by rw[b];decide),g]
  rw[g] at j i;simp only[cE_,c1_,cH_,c6_] at j;exact X6 cb q lo fs p d x seen w h _ r n (m _ (by simp)).one' (i n (by simp)) (by omega)
 ·rw[eI (by rw[b];decide) (by rw[b];decide),look_plain (by rw[b];decide) (by rw[b];decide) (by rw[b];decide),g]
  rw[g] at j i;simp only[cE_,c1_,cH_,c6_] at j;have E:=i c (by simp)
  cases d with
  |zero=>exact E.elim
  |succ e=>
   show Calls _ _ _ _ (dI cb q lo fs p w (aP fs (gA p) (e+1) c ⟨seen,0,0⟩))
   rw[cC] at j;rw[eI (by rw[u];decide) (by rw[u];decide),KT u]
   exact ZB cb q lo fs p F H e (tF cb q lo fs p e (IHs e (by omega))) c z seen w h (m ⟨z,c.kids,false⟩ (by simp)).many E (by omega)
def QX(cb c lo:Nat)(fs:List aE)(g:aQ)(b:fs.length<=90000)(a:∀f∈fs,f.kids.length<=90000)(d:Nat):kP cb c lo fs g d:=by
 induction d using Nat.strongRecOn with
 |_ d i=>
  cases d with
  |zero=>exact fun _ _ _ _ _ _ h _=>h.elim
  |succ d=>exact F7 cb c lo fs g b a d fun e j=>i e (by omega)
def bf_{ps:List aE}(k:Nat)(b:k<ps.length):(P8 ps)[k*2]?=some (Iv0 ps[k].line)/\(P8 ps)[k*2+1]?=some (.string (bs ps[k].text)):=by
 induction ps generalizing k with
 |nil=>simp at b
 |cons a ps c=>
  cases k with
  |zero=>exact⟨rfl,rfl⟩
  |succ k=>
   have:=c k (by simpa using b)
   have e:∀j,(P8 (a::ps))[(k+1)*2+j]?=(P8 ps)[k*2+j]?:=fun j=>by
    rw[P8,show (k+1)*2+j=k*2+j+1+1 by omega];rfl
   exact⟨(e 0).trans this.1,(e 1).trans this.2⟩
def PNm.get{F:bX}{w:aG}{v:aQ}{ps:List aE}(h:PNm F w v ps):(v=bF/\ps=[])\/∃g a,v=.slice (some (aH g 0)) ps.length a/\F g/\g<w.heap.size/\ps.length<=a/\∀k (b:k<ps.length),w.cell? (aH g (k*2))=some (Iv0 ps[k].line)/\w.cell? (aH g (k*2+1))=some (.string (bs ps[k].text)):=by
 obtain⟨_,h|⟨g,a,o,l,f,d,i,m⟩⟩:=h
 ·exact cl_ h
 ·refine ck_ ⟨g,a,l,f,aC d,i,fun k b=>?_⟩
  obtain⟨p,n⟩:=bf_ k b
  have e:∀j u,j<ps.length*2->(P8 ps)[j]?=some u->w.cell? (aH g j)=some u:=fun j u q c=>by
   refine aA d ?_;rw[<-m,cM_,if_pos q] at c;simpa using c
  exact⟨e _ _ (by omega) p,e _ _ (by omega) n⟩
def FD{F:bX}{w:aG}:∀{us:List Value} {fs:List aE} (i:Nat),kW (CA F w) us fs->i<=fs.length->(kN us).take (i*4)=kN (us.take i)
 |[],[],i,_,h=>by simp[kN]
 |u::us,f::fs,0,_,_=>by simp[kN]
 |u::us,f::fs,i+1,⟨⟨g,d,j,b,c,_⟩,h⟩,e=>by
  subst c;have a:=FD i h (by simpa using e)
  rw[dj_,kN,kN,<-a,List.take_append];have:(zA (Value.agg #[Iv0 f.line,.string (bs f.text),g,d])).length=4:=rfl;rw[this,cS_ (by rw[this];omega)]
  congr 2;omega
 |[],_::_,_,h,_=>h.elim
 |_::_,[],_,h,_=>h.elim
def kW.take{R:Value->aE->Prop}:∀{vs ks} (i:Nat),kW R vs ks->kW R (vs.take i) (ks.take i)
 |_,_,0,_=>by simp[kW]
 |[],[],_+1,_=>trivial
 |_::_,_::_,i+1,⟨b,a⟩=>⟨b,kW.take i a⟩
 |[],_::_,_,h=>h.elim
 |_::_,[],_,h=>h.elim
def FSl.take{F:bX}{w:aG}{g a:Nat}{fs:List aE}(h:FSl F w (.slice (some (aH g 0)) fs.length a) fs)(i:Nat)(hi:i<=fs.length):FSl F w (.slice (some (aH g 0)) i a) (fs.take i):=by
 rcases h with ⟨b,_⟩|⟨o,d,c,m,b,j,l,n,k,f⟩
 ·cases b
 ·cases b;have e:(fs.take i).length=i:=by rw[da_];omega
  refine ck_ ⟨g,a,c,m.take i,by rw[e],j,l,by omega,?_,f.take i⟩
  rw[e,<-FD i f hi,<-k,dF_];congr 1;omega
def CK.reset{cb c lo:Nat}{fs:List aE}{d i:aQ}{w:aG}{seen:cN}(h:CK cb c lo fs d w seen)(a:w.heap[cb]?=some (.cells #[d,i] 120 (0,0))):
 FB cb c w (w.setCell (aH cb 1) (bF))/\CK cb c lo fs d (w.setCell (aH cb 1) (bF)) []:=by
 have g:=aC a;have e:Below c w (w.setCell (aH cb 1) (bF)):=(co_ _ _).setCell h.lt.2 _;have f:(w.setCell (aH cb 1) (bF)).heap[cb]?=some (.cells #[d,bF] 120 (0,0)):=by rw[aK a];rfl
 refine⟨⟨e,fun k b j l=>cm_ _ _ _ _ (by show k≠cb;exact j),fun k b=>?_⟩,⟨bF,f,World.ownsRow_nil _ _ _ _,(by simp[Value.ownBlock]),h.lt.2⟩,h.fun_.keep fun k b=>e.block k b.2⟩
 rw[nX f] at b;cases b
def VQ(a:List aE)(x:cD):(lW a x).isSome=(gJ x || !(dS a x).isNone):=by
 unfold lW gJ;cases x==[108,101,110]<;>cases x==[114,101,97,100]<;>cases dS a x<;>rfl
def EO(fs:List aE)(d:Nat)(s:bD)(k:aE):Stk s (eX fs d s k):=by
 unfold eX;split
 ·exact(Stk.declares s k).trans (Stk.seen _ _)
 ·exact Stk.walk fs false d k s
def V7(fs:List aE)(d:Nat)(s:bD)(k:aE)(h:k.op=[112,97,114,97,109]):eX fs d s k={ Hs.declaresL s k with seen:=(Hs.declaresL s k).seen++[k.text] }:=by
 unfold eX;rw[h];rfl
def V8(fs:List aE)(d:Nat)(s:bD)(k:aE)(h:k.op=[98,108,111,99,107]):eX fs d s k=aP fs false d k s:=by
 unfold eX;rw[h];rfl
def br_(cb tp lo:Nat)(fs:List aE)(fv:aQ)(d:Nat)(w:aG)(b0:Nat)(o:Obj)(ps:List aE)(b:aE)(c:bD)(gk:Nat)(i:aQ)(wr:aG):Prop:=
 ∃k s,k+gk=ps.length/\i=Iv0 (k:Nat)/\Loc cb tp w b0 o wr/\CK cb tp lo fs fv wr s/\c=(ps.drop k++[b]).foldl (eX fs d) ⟨s,0,0⟩/\s.length=k
def XQ(fs:List aE)(d:Nat)(seen:cN)(f:aE)(first:Bool)(h:(gJ f.text || !first)=true):Stk ⟨[],6,f.line⟩ (gP fs d ⟨seen,0,0⟩ f first):=by
 unfold gP;rw[h];exact Stk.fold (EO fs d) _ _
def aV_(fs:List aE)(d:Nat)(seen:cN)(f:aE)(first:Bool)(h:(gJ f.text || !first)=false):gP fs d ⟨seen,0,0⟩ f first=f.kids.foldl (eX fs d) ⟨[],0,0⟩:=by
 unfold gP;rw[h];rfl
def N8(cb B lo:Nat)(fs:List aE)(g n:Nat)(ck:fs.length<=90000)(I:∀f∈fs,f.kids.length<=90000)(d i:Nat)(hi:i<fs.length)(seen:List (List UInt8))(w:World)(h:CK cb B lo fs (FV (.slice (some ⟨g,0,none⟩) fs.length n)) w seen)
 (hd:∀k∈fs[i].kids,fF d k) (hw:fs[i].kids.length+(fs[i].kids.map (cC d)).sum<=90000):
 Calls prog 80 #[.pointer (some ⟨cb,0,none⟩),.slice (some ⟨g,0,none⟩) fs.length n,.int .i64 i] w (dI cb B lo fs (FV (.slice (some ⟨g,0,none⟩) fs.length n)) w (gP fs d ⟨seen,0,0⟩ fs[i] (dS (fs.take i) fs[i].text).isNone)):=by
 obtain⟨_,K,ab⟩|⟨K,_⟩:=h.fun_
 rotate_left
 ·cases K
 cases K;rcases ab.cells with ⟨h1,_⟩|⟨g',df,h1,cx,ds,da,hc⟩
 ·cases h1
 cases h1;obtain⟨pv,bv,o,b,e0,e1,e2,e3,z,ad,au,am⟩:=hc i hi;obtain⟨T,X,rfl⟩:=ad.slice;obtain⟨M,N,rfl⟩:=am.slice;have az:=aB (VQ (fs.take i) fs[i].text);have bl:=I fs[i] (cG_ hi);have bt:=aB (ab.take i (by omega))
 generalize dw:fs[i]=f at*;have bz:=aB (fun hx=>XQ fs d seen f (dS (fs.take i) f.text).isNone hx)
 have cj:=aB (fun hx=>aV_ fs d seen f (dS (fs.take i) f.text).isNone hx)
 have ai:=h.lt;obtain⟨an,aw⟩:=Loc.new h (.cells #[.int .i64 f.line,.string (bs f.text),.slice T o.length X,.slice M b.kids.length N] 159);obtain⟨sx,sc,U,dq,dd,bm, -⟩:=h.cut;obtain⟨q,c0,O,f1⟩:=kE U;have bw:=aB an;have ca:=aB aw;have bd:=aB ad;have cv:=aB am;have ax:=aB au;have ak:=aB z;have HD:=aB hd;have HW:=aB hw;have dx:=aB I;have ch:i<=n:=by omega
 have HBLK:Hid (tO cb B lo fs (FV (.slice (some ⟨g,0,none⟩) fs.length n)) d):=by
  cases d with
  |zero=>exact fun _ _ _ _ _ _ _ hd _=>hd.elim
  |succ e=>exact TP (tF cb B lo fs _ e (QX cb B lo fs _ ck I e))
 have dh:o.length<=90000:=by rw[z] at bl;simp at bl;omega
 have co:Hid (Below w.heap.size w (w.alloc (.cells #[.int .i64 f.line,.string (bs f.text),.slice T o.length X,.slice M b.kids.length N] 159))):=(co_ _ _).alloc (cy_ _) _;have J:=aB (ER (fs.take i) (Btw lo B) (.slice (some ⟨g,0,none⟩) i n) f.text (w.alloc (.cells #[.int .i64 f.line,.string (bs f.text),.slice T o.length X,.slice M b.kids.length N] 159)).drew (by rw[da_];omega) (fun f hf=>I f (dM_ hf)) (bt.out.keep fun k hk=>by have:=hk.2;exact cq_ _ _ _ (by omega)))
 rw[az.out] at J;generalize cz:((lW (List.take i fs) f.text).getD 0)=pn at J;obtain⟨tk,aj⟩:∃tk,tk=(gJ f.text || !(dS (fs.take i) f.text).isNone):=⟨_,rfl⟩
 rw[<-aj] at J;have ao:=aB aj;obtain⟨cc,r⟩:∃cc,cc=gP fs d ⟨seen,0,0⟩ f (dS (fs.take i) f.text).isNone:=⟨_,rfl⟩;rw[<-r];have ba:=aB r;clear cz aj r h an aw ad am au z hd hw I ab hc U bm az bt cx;go_enter func80,ntmps80;go_wp2_with fail;go_cut [7,8] (fun _ tv wc=>tv=.bool tk/\Below w.heap.size w wc/\Loc cb B w w.heap.size (.cells #[.int .i64 f.line,.string (bs f.text),.slice T o.length X,.slice M b.kids.length N] 159) wc/\CK cb B lo fs (FV (.slice (some ⟨g,0,none⟩) fs.length n)) wc seen)
 case first=>
  go_region_law (go_simp;go_at_call 78;refine J.out.mono ?_;rintro e w1 ⟨rfl,bu⟩;have ag:=aB ((co_ (w.alloc (.cells #[.int .i64 f.line,.string (bs f.text),.slice T o.length X,.slice M b.kids.length N] 159)).heap.size (w.alloc (.cells #[.int .i64 f.line,.string (bs f.text),.slice T o.length X,.slice M b.kids.length N] 159))).drew.trans bu);clear bu)
  all_goals
   go_wp2_with fail;go_meet
   case rel=>exact⟨rfl,co.out.trans (ag.out.mono (by simp)),bw.out.step (FB.of_below ag.out (by simp;omega)),ca.out.grow ag.out⟩
 case rest=>
  obtain⟨rfl,aq,y,S⟩:=hcut;clear c0 O f1 q e0 e1 e2 e3;obtain⟨dr,dn,v,dj,cu,ac, -⟩:=S.cut;obtain⟨q,c0,O,f1⟩:=kE v;have cm:=aB y;have du:=aB S;have m0:=aA y.blk (i:=0) rfl;have m1:=aA y.blk (i:=1) rfl;have m2:=aA y.blk (i:=2) rfl;have m3:=aA y.blk (i:=3) rfl;have Q:=aC y.blk;have Z:=aB (S.reset v);have bq:=aB aq;clear y S v ac aq J;cases tk;rotate_left
  ·go_wp2_with fail;refine(sH f.line _).mono ?_;rintro e L ⟨rfl,c⟩;have u:=aB (bq.out.trans (c.mono bq.out.size));clear c;go_wp2_with (go_at_call 79;refine(gW 6 f.line _).mono ?_;rintro e w3 ⟨rfl,hw⟩;obtain rfl:=hw.symm)
   exact⟨rfl,dI.fault (c1:=⟨[],6,f.line⟩) (FB.of_below u.out ai) (by simp) (by rw[ba.out];exact bz.out ao.out.symm)⟩
  have HI:Hid (br_ cb B lo fs (FV (.slice (some ⟨g,0,none⟩) fs.length n)) d w w.heap.size (.cells #[.int .i64 f.line,.string (bs f.text),.slice T o.length X,.slice M b.kids.length N] 159) o b cc o.length (.int .i64 (0:Nat)) (wc.setCell ⟨cb,1,none⟩ (.slice none 0 0))):=
   ⟨0,[],by omega,rfl,cm.out.step Z.out.1,Z.out.2,by rw[ba.out,cj.out ao.out.symm,ak.out];rfl,rfl⟩
  have dg:¬cb=w.heap.size:=by omega
  have ci:¬w.heap.size=cb:=by omega
  obtain⟨i0,cy,cf,bk,cs⟩:=info_parts ZF;go_wp2_with fail;go_loopg [10,37] o.length (fun gk _ iv wr=>br_ cb B lo fs (FV (.slice (some ⟨g,0,none⟩) fs.length n)) d w w.heap.size (.cells #[.int .i64 f.line,.string (bs f.text),.slice T o.length X,.slice M b.kids.length N] 159) o b cc gk iv wr)
  case atStart=>exact HI.out
  case round=>
   obtain⟨k,s,hk,rfl,l,C,r,av⟩:=hrel;have bp:=aB av;have dc:s.length<=90000:=by omega
   clear av;have P:=aB l;have dm:=aB C;have bi:=aB r;clear m0 m1 m2 m3 Q c0 O f1 q HI Z;have m0:=aA l.blk (i:=0) rfl;have m1:=aA l.blk (i:=1) rfl;have m2:=aA l.blk (i:=2) rfl;have m3:=aA l.blk (i:=3) rfl;have Q:=aC l.blk;have ea:=C.lt;by_cases q:k<o.length
   ·obtain⟨j,rfl⟩:∃j,gk=j+1:=⟨gk-1,by omega⟩
    rcases bd.out.get with ⟨_,ap⟩|⟨pg,db,K,al,cp,cw,F⟩
    ·rw[ap] at q;simp at q
    obtain⟨bn,bg⟩:=F k q;have bo:=bd.out.1 o[k] (cG_ q);have ar:o.drop k=o[k]::o.drop (k+1):=(dq_ q).symm;have W:cc=(o.drop (k+1)++[b]).foldl (eX fs d) (eX fs d ⟨s,0,0⟩ o[k]):=by rw[r,ar];rfl
    generalize o[k]=a at*;cases K;have r0:wr.cell? ⟨pg,k*2,none⟩=some (.int .i64 a.line):=(l.fb.bel.cell (p:=⟨pg,k*2,none⟩) al.2).trans bn;have r1:wr.cell? ⟨pg,k*2+1,none⟩=some (.string (bs a.text)):=(l.fb.bel.cell (p:=⟨pg,k*2+1,none⟩) al.2).trans bg;have de:pg<wr.heap.size:=cn_ (Nat.lt_trans (cn_ al.2 ai.2) ai.1) l.fb.bel.size;obtain⟨bf,G⟩:=Loc.new C (.cells #[.int .i64 a.line,.string (bs a.text)] 155);have ae:=aB bf;have HM:=aB (sF cb B lo fs _ (wr.alloc (.cells #[.int .i64 a.line,.string (bs a.text)] 155)) s G (by omega) a.line a.text)
    have bb:Hid (Hs.declaresL ⟨s,0,0⟩ a=if gJ a.text || s.contains a.text then bD.found ⟨s,0,0⟩ a.line 6 else ⟨s,0,0⟩):=rfl
    rw[<-bb.out] at HM;have Y:=aB (V7 fs d ⟨s,0,0⟩ a bo);have be:=oD ⟨s,0,0⟩ a;have cn:=aB be;have t:=aB W;clear r W ar bn bg F cw cp bi be bb bf G l C bo;generalize Hs.declaresL ⟨s,0,0⟩ a=O at*;go_wp2_with fail;refine HM.out.mono ?_;rintro e L ⟨c,⟨s2,rfl,rfl,m⟩|⟨E,rfl⟩⟩
    rotate_left
    ·have cr:=aB (P.out.fb.trans (ae.out.fb.trans c));have HK:=aB E;clear c E;go_wp2_with fail;exact⟨rfl,dI.fault (c1:=O) cr.out HK.out (by rw[t.out,Y.out];exact(Stk.seen _ _).trans (Stk.fold (EO fs d) _ _))⟩
    obtain rfl:s2=s:=cn.out;have ah:=aB (ae.out.step c);have HLb:=aB ((P.out.step ae.out.fb).step c);obtain⟨cd,cg,x,dl,ce,D,br⟩:=m.cut;obtain⟨dk,c0,O,f1⟩:=kE x;have n0:=aA ah.out.blk (i:=0) rfl;have n1:=aA ah.out.blk (i:=1) rfl;have dz:=aC ah.out.blk;clear m0 m1 m2 m3 Q r0 r1;have m0:=aA HLb.out.blk (i:=0) rfl;have m1:=aA HLb.out.blk (i:=1) rfl;have m2:=aA HLb.out.blk (i:=2) rfl;have m3:=aA HLb.out.blk (i:=3) rfl;have Q:=aC HLb.out.blk;have u:=aB (show L.drew.heap[cb]?=_ from x)
    have ay:=aB (show L.drew.ownsRow _ _ _ _ _ _ from D)
    have H:=aB (show CK cb B lo fs (FV (.slice (some ⟨g,0,none⟩) fs.length n)) L.drew s2 from m.grow (co_ _ _).drew)
    have ct:=aB br;have cq:=aB (FB.of_below (cb:=cb) (co_ L.heap.size L).drew m.lt);clear x D m c HM;go_wp2_with fail;go_region_law (refine step_append_lies _ (by rfl) _ _ 37 (by rfl) B 9 i0 _ 1 16 underlying37 cy cf bk cs rfl (by decide) (.slice cd s2.length cg) s2.length (lI s2) (by rfl) (ay.out.alloc _) ⟨L.heap.size,0,none⟩ 1 1 [.string (bs a.text)] (by rfl) (by rfl) (QY L.drew _) (YZ _) (by decide) (by unfold maxLen;omega) (by omega) (by simp;omega) (L.heap.size+1) (by simp) ?_;intro g5 di w5 af A bj eb;have bh:=FZ u.out A ct.out;obtain⟨dv, -,q1,dt⟩:=kE bh;clear bh)
    all_goals
     go_wp2_with fail;go_roundg j
     case measure=>omega
     case rel=>
      have V:=H.out.add u.out ay.out af A (bj.imp_right fun e=>by show L.heap.size<=g5;omega)
      exact⟨k+1,s2++[a.text],by omega,by go_num,(HLb.out.step cq.out).step V.1,V.2,by rw[t.out,Y.out],by have:=bp.out;simp;omega⟩
   ·have dy:k=o.length:=by omega
    have aa:fF d b/\s.length+cC d b<=90000:=by
     have h1:=HW.out;have h2:=HD.out b (by rw[ak.out];simp)
     rw[ak.out] at h1;simp only[cp_,cZ_,ds_,cE_,c1_,cH_,c6_,ct_,cA_] at h1;have:=bp.out;exact⟨h2,by omega⟩
    have HX:=aB (HBLK.out (.slice M b.kids.length N) b s wr C ax.out (cv.out.below l.fb.bel) aa.1 aa.2)
    have t:Hid (cc=aP fs (gA (FV (.slice (some ⟨g,0,none⟩) fs.length n))) d b ⟨s,0,0⟩):=by
     show _=_
     rw[r,c2_ (by omega)]
     exact V8 fs d _ b ax.out
    rw[<-t.out] at HX;clear l C r bi t aa;go_wp2_with fail;refine HX.out.mono ?_;rintro e L ⟨c,⟨s2,G,rfl,m⟩|⟨E,rfl⟩⟩
    ·have u:=aB (P.out.fb.trans c);have H:=aB m;have cl:=aB G;clear c m G;go_wp2_with fail;go_end0;exact dI.done u.out cl.out H.out
    ·have u:=aB (P.out.fb.trans c);have H:=aB E;clear c E;go_wp2_with fail;exact⟨rfl,dI.fault (c1:=cc) u.out H.out (Stk.refl _)⟩
def sG(fs:List aE):Bool:=lW fs [109,97,105,110]==some 0
def XX(fs:List aE)(F:bX)(o:aQ)(w:aG)(u:fs.length<=90000)(i:∀f∈fs,f.kids.length<=90000)(h:FSl F w o fs):
 Calls prog 46 #[o] w fun e s=>Below w.heap.size w s/\((sG fs=true/\e=aZ (.tuple #[]))\/(sG fs=false/\e=cT 5 0)):=by
 have d:=aB (ER fs F o [109,97,105,110] w (by omega) i h)
 have g:Hid (sG fs=(lW fs [109,97,105,110]==some 0)):=rfl;have b:=aB (fun n r=>YY i (x:=[109,97,105,110]) (n:=n) r)
 clear h i;rw[show bs [109,97,105,110]=⟨#[109,97,105,110]⟩ from rfl] at d
 obtain⟨j,l⟩:∃j,j=sG fs:=⟨_,rfl⟩;rw[<-l] at g ⊢
 clear l;cases c:lW fs [109,97,105,110] with
 |none=>
  obtain rfl:j=false:=by rw[g.out,c];rfl
  rw[c] at d;simp only[Option.getD_none,Option.isSome_none] at d;clear c g b;go_in
  go_wp2_with fail;refine d.mono ?_;rintro e p ⟨rfl,a⟩;have k:=aB a;clear a;go_wp2_with (go_at_call 79;refine(gW 5 0 _).mono ?_;rintro e t ⟨rfl,m⟩;obtain rfl:=m.symm)
  exact⟨rfl,k,ck_ ⟨trivial,rfl⟩⟩
 |some n=>
  have r:=b n c;rw[c] at d;simp only[Option.getD_some,Option.isSome_some] at d;cases n with
  |zero=>
   obtain rfl:j=true:=by rw[g.out,c];rfl
   clear c g b;go_in
   go_wp2_with fail;refine d.mono ?_;rintro e p ⟨rfl,a⟩;have k:=aB a;clear a;go_wp2
   go_end0;exact⟨k,cl_ ⟨trivial,rfl⟩⟩
  |succ n=>
   obtain rfl:j=false:=by rw[g.out,c];rfl
   clear c g b;have q:decide ((0:Int)<((n:Int)+1))=true:=decide_eq_true (by omega)
   go_in
   go_wp2_with fail;refine d.mono ?_;rintro e p ⟨rfl,a⟩;have k:=aB a;clear a;go_wp2_with (go_at_call 79;refine(gW 5 0 _).mono ?_;rintro e t ⟨rfl,m⟩;obtain rfl:=m.symm)
   exact⟨rfl,k,ck_ ⟨trivial,rfl⟩⟩
def ZN(fs:List aE)(d:Nat):∀(a b:List aE) (s:bD),Stk s (fM fs d b a s)
 |[],_,s=>Stk.refl s
 |n::a,b,s=>by
  rw[fM];refine Stk.trans ?_ (ZN fs d a _ _);unfold gP;refine Stk.trans ?_ (Stk.fold (EO fs d) _ _);refine Stk.trans ?_ (Stk.seen _ _);split
  ·exact Stk.found _ _ _
  ·exact Stk.refl _
def YO(cb tp lo:Nat)(fs:List aE)(fv:aQ)(d:Nat)(w:aG)(c:bD)(gk:Nat)(i:aQ)(wr:aG):Prop:=
 ∃k s,k+gk=fs.length/\i=Iv0 (k:Nat)/\Below cb w wr/\CK cb tp lo fs fv wr s/\c=fM fs d (fs.take k) (fs.drop k) ⟨s,0,0⟩
def TH(lo:Nat)(fs:List aE)(M:aQ)(w:aG)(d:Nat)(H:fs.length<=90000)(z:∀f∈fs,f.kids.length<=90000)(h:FSl (Btw lo w.heap.size) w M fs)(N:∀f∈fs,∀k∈f.kids,fF d k)(P:∀f∈fs,f.kids.length+(f.kids.map (cC d)).sum<=90000):
 Calls prog 47 #[M] w fun e U=>Below w.heap.size w U/\(((fM fs d [] fs ⟨[],0,0⟩).kind=0/\(fM fs d [] fs ⟨[],0,0⟩).line=0/\e=aZ (.tuple #[]))\/((fM fs d [] fs ⟨[],0,0⟩).kind≠0/\e=cT (fM fs d [] fs ⟨[],0,0⟩).kind (fM fs d [] fs ⟨[],0,0⟩).line)):=by
 obtain⟨y,r,rfl⟩:∃x c,M=.slice x fs.length c:=by
  rcases h.cells with ⟨t,C⟩|⟨g,F,t,_⟩
  ·exact⟨none,0,by rw[t,C];rfl⟩
  ·exact⟨_,_,t⟩
 obtain⟨c,G⟩:∃c,c=fM fs d [] fs ⟨[],0,0⟩:=⟨_,rfl⟩;have p:Below w.heap.size w (w.alloc (.cells #[FV (.slice y fs.length r),bF] 120)):=(co_ _ _).alloc cL _
 have W:Hid (YO w.heap.size w.heap.size lo fs (FV (.slice y fs.length r)) d w c fs.length (Iv0 (0:Nat)) (w.alloc (.cells #[FV (.slice y fs.length r),bF] 120))):=
  ⟨0,[],by omega,rfl,p,⟨⟨bF,aO _ _ rfl _,World.ownsRow_nil _ _ _ _,(by simp[Value.ownBlock]),cL⟩,cl_ ⟨_,rfl,h.keep fun k O=>p.block k O.2⟩⟩,by rw[G];rfl⟩
 rw[<-G];have V:=aB h;have L:=aB z;have Z:=aB N;have HW:=aB P;clear h p G z N P;go_in
 go_wp2_with fail;go_loopg [3,9] fs.length (fun gk _ i wr=>YO w.heap.size w.heap.size lo fs (FV (.slice y fs.length r)) d w c gk i wr)
 case atStart=>exact W
 case round=>
  obtain⟨k,s,O,rfl,D,q,l⟩:=hrel;have E:=aB D;by_cases b:k<fs.length
  ·obtain⟨j,rfl⟩:∃j,gk=j+1:=⟨gk-1,by omega⟩
   obtain⟨g,rfl⟩:∃g,y=some ⟨g,0,none⟩:=by
    rcases V.cells with ⟨t,C⟩|⟨g,F,t,_⟩
    ·rw[C] at b;simp at b
    ·cases t;exact⟨g,rfl⟩
   have K:fs[k]∈fs:=cG_ b;have S:=aB (N8 w.heap.size w.heap.size lo fs g r H L d k b s wr q (Z _ K) (HW _ K));have A:fs.drop k=fs[k]::fs.drop (k+1):=(dq_ b).symm
   have a:c=fM fs d (fs.take (k+1)) (fs.drop (k+1)) (gP fs d ⟨s,0,0⟩ fs[k] (dS (fs.take k) fs[k].text).isNone):=by
    rw[l,A,fM,cK_ b]
   have n:=aB a;clear D q l a A K;generalize gP fs d ⟨s,0,0⟩ fs[k] (dS (fs.take k) fs[k].text).isNone=Y at*;go_wp2_with fail;refine S.mono ?_;rintro e T ⟨m,⟨s1,rfl,rfl,o⟩|⟨u,rfl⟩⟩
   rotate_left
   ·have I:=aB (E.trans m.bel);have v:=aB u;have B:Hid (Stk Y c):=by show Stk _ _;rw[n.out];exact ZN fs d _ _ _
    clear m u;go_wp2_with fail;obtain⟨Q,X⟩:=B v;exact⟨rfl,I,ck_ ⟨by rw[Q];exact v,by rw[Q,X]⟩⟩
   have J:Hid (YO w.heap.size w.heap.size lo fs (FV (.slice (some (aH g 0)) fs.length r)) d w c j (Iv0 ((k+1:Nat):Int)) T):=⟨k+1,s1,by omega,rfl,E.trans m.bel,o,n⟩
   clear m o S;go_wp2
   go_roundg j
   case measure=>omega
   case rel=>exact J
  ·have a:c=⟨s,0,0⟩:=by rw[l,c2_ (by omega)];rfl
   have n:=aB a;clear D q l a;go_wp2
   go_end0;rw[n.out];exact⟨E,cl_ ⟨rfl,rfl,rfl⟩⟩
structure NTabs(w:aG):Prop where
 er:∃te pe,w.cell? (aH 8 0)=some (.iface te pe)
 big:9<=w.heap.size
def NTabs.fr{w w':aG}{sb:Nat}(h:NTabs w)(a:Fr sb w w')(e:9<=sb):NTabs w':=by
 obtain⟨b,d,c⟩:=h.er;have:=h.big;have:=a.size;exact⟨⟨b,d,by rw[zB (a.block 8 (by omega) (by omega))];exact c⟩,by omega⟩
def E7(l:cD)(i:∀c∈l,eN c=true)(a:l≠[])(q:l.length<=100000)(w:aG)(k:NTabs w):
 Calls prog 179 #[.string (bs l),Iv0 10,Iv0 64] w fun e b=>Below w.heap.size w b/\((∃v,dP 0 l=some v/\e=aZ (.tuple #[Iv0 (v:Nat),.nilIface]))\/(dP 0 l=none/\∃x T p,e=aZ (.tuple #[Iv0 x,.iface T p]))):=by
 have m:(bs l).size=l.length:=gR l;rcases K9 l i a with ⟨v,f,d⟩|⟨f,d⟩
 ·refine(strconv_ParseInt_10_at64_ok (bs l) (by omega) v (by rw[fX];exact d) w).mono ?_
  rintro e b ⟨rfl,n⟩;refine⟨?_,cl_ ⟨v,f,rfl⟩⟩;rcases n with rfl|⟨t,rfl⟩
  ·exact co_ _ _
  ·exact Lib.bytesWorld_below _ _ _
 ·obtain⟨h,g,o⟩:=k.er;refine(strconv_ParseInt_10_at64_range (bs l) (by omega) (by rw[fX];exact d) (.iface h g) w o (ck_ ⟨h,g,rfl⟩)).mono ?_
  rintro e b ⟨N,rfl,_,_,j⟩;exact⟨j,ck_ ⟨f,_,_,_,rfl⟩⟩
def uK(c:UInt8):eR false c=eN c:=by unfold eR;simp
def PB(sb:Nat)(a:ByteArray)(n L:Nat)(w:aG)(h:SC sb a n L w)(Z:NTabs w)(F:9<=sb)(hs:a.size<=100000)(hn:n<a.size)(D:eN a[n]=true):
 Calls prog 152 #[bH sb] w (l9 sb a n L w (iE (a.data.toList.drop n) false)):=by
 obtain⟨k,m⟩:∃k,k=bP (eR false) (a.data.toList.drop n):=⟨_,rfl⟩
 have ac:k<=a.size-n:=by
  have:=lJ (eR false) (a.data.toList.drop n);rw[m];simpa using this
 have aa:1<=k:=by
  rw[m,lN a n hn,tA _ _ _ (by rw[uK];exact D)];omega
 have ae:n<=a.size:=by omega
 have Q:=(SC.cells h).1;have J:w.heap.size≠sb:=by omega
 have U:SC sb a n L (w.alloc (.cells #[Iv0 0,.string ⟨#[]⟩,Iv0 0,Iv0 0] 150)):=by unfold SC;rw[cq_ _ _ _ Q];exact h
 obtain⟨h0,c0,c1,V,f1,X⟩:=U.cells;have E:Hid (ZTok (w.alloc (.cells #[Iv0 0,.string ⟨#[]⟩,Iv0 0,Iv0 0] 150)).drew w.heap.size):=aO _ _ rfl _;have z:=aB (fun w=>wD (eR false) 151 (fun _ _=>rfl) (fun c w=>by rw[uK];exact vB c w) (a.extract n a.size) w (by rw[tE];omega))
 rw[oB,<-m] at z;have y:=aB (pL sb a n L k (w.alloc (.cells #[Iv0 0,.string ⟨#[]⟩,Iv0 0,Iv0 0] 150)).drew U (by omega) (by omega))
 obtain⟨d,o⟩:∃d,d=(a.data.toList.drop n).take k:=⟨_,rfl⟩;rw[<-o] at y;have j:d.length=k:=by rw[o,da_];simp;omega
 have G:=aB (fun W (hW:NTabs W)=>E7 d (fun c Y=>by
  rw[o,m] at Y;rw[<-uK];exact tB _ _ c Y) (fun e=>by rw[e] at j;simp at j;omega) (by omega) W hW)
 have HW:Hid (iE (a.data.toList.drop n) false={ sort:=48,text:=d,size:=k,ok:=(dP 0 d).isSome }):=by
  show _=_
  unfold iE;rw[<-m,<-o];rfl
 rw[HW.out];have P:Hid (Fr sb w (w.alloc (.cells #[Iv0 0,.string ⟨#[]⟩,Iv0 0,Iv0 0] 150))):=(Fr.refl _ _).alloc _;have HG:=aB Z;have ab:(bs d).size=k:=by rw[gR];exact j
 clear h U m o HW Z j D;obtain⟨rr,C⟩:∃rr:qN,rr={ sort:=48,text:=d,size:=k,ok:=(dP 0 d).isSome }:=⟨_,rfl⟩;rw[<-C];have K:=aB C;clear C;go_in
 go_wp2_with fail;go_cut [3] (fun v wc=>v=.string (bs d)/\SC sb a (n+k) L wc/\Fr sb w wc/\ZTok wc w.heap.size)
 case first=>
  go_region_law (first|(go_simp;go_at_call 147;refine(z _).mono ?_;rintro e w1 ⟨rfl,S⟩;obtain rfl:=S.symm)|(go_simp;go_at_call 175;refine y.mono ?_;rintro e w2 ⟨rfl,q,f⟩;have l:=aB q;have t:=aB (P.drew.trans f);have r:=aB (f.keepS E J);clear q f))
  all_goals
   go_wp2_with fail;go_meet
   case rel=>exact⟨rfl,l,t,r⟩
 case rest=>
  obtain⟨rfl,q,f,H⟩:=hcut;have l:=aB q;have t:=aB f;have r:=aB H;have A:=aB (G wc (HG.fr f F));clear c0 c1 V f1 X h0 q f H y z E G;go_wp2_with fail;refine A.mono ?_;rintro e M ⟨g,⟨v,I,rfl⟩|⟨I,x,T,p,rfl⟩⟩
  ·have s:Hid (SC sb a (n+k) L M):=(g.block sb (aC l)).trans l;have b:Hid (ZTok M w.heap.size):=(g.block _ (aC r)).trans r;have B:=aB (t.trans (Fr.below g));obtain⟨h0,c0,c1,V,f1,X⟩:=s.cells;have z0:=aA b (i:=0) rfl;have z1:=aA b (i:=1) rfl;have z2:=aA b (i:=2) rfl;have z3:=aA b (i:=3) rfl;have y0:=aD (i:=0) b;have y1:=aD (i:=1) b;have y2:=aD (i:=2) b;have y3:=aD (i:=3) b;have ad:=aC b;have N:=aB I;clear g I A;go_wp2_with fail;rw[K.out];refine bodyPost_ret (v:=.agg #[Iv0 2,.string (bs d),Iv0 v,Iv0 L]) (by simp[results,results152,go_sem,z0,z1,z2,z3]) rfl ?_
   have u:=nG B s cL J (Iv0 2) (.string (bs d)) (Iv0 v) (Iv0 L);refine⟨u.1,cl_ ⟨by show (dP 0 d).isSome=true;rw[N.out];rfl,?_,u.2⟩⟩
   show _=Ending.returned (.agg #[Iv0 2,.string (bs d),Iv0 (pval ⟨48,d,L⟩),Iv0 L])
   have e:pval ⟨48,d,L⟩=v:=by unfold pval;rw[if_pos rfl,N.out];rfl
   rw[e]
  ·have s:Hid (SC sb a (n+k) L M):=(g.block sb (aC l)).trans l;have B:=aB (t.trans (Fr.below g));have O:=aB (tD sb a (n+k) L M s);have N:=aB I;clear g I A;go_wp2_with fail;refine O.mono ?_;rintro e w4 ⟨rfl,S⟩;obtain rfl:=S.symm;go_wp2_with fail;rw[K.out];exact⟨rfl,B,ck_ ⟨by show (dP 0 d).isSome=false;rw[N.out];rfl,rfl⟩⟩
def A8(sb:Nat)(b:ByteArray)(n L:Nat)(w:aG)(h:SC sb b n L w)(hg:NTabs w)(hm:PTabs w)(z:9<=sb)(hs:b.size<=100000)(S:n<b.size):
 Calls prog 108 #[bH sb] w (l9 sb b n L w (cG (b.data.toList.drop n))):=by
 have W:=(SC.cells h).1;have r:w.heap.size≠sb:=by omega
 have hb:(b[n].toNat:Int)<=255:=oY _;have V:SC sb b n L (w.alloc (.cells #[Iv0 0,.string ⟨#[]⟩,Iv0 0,Iv0 0] 150)):=by unfold SC;rw[cq_ _ _ _ W];exact h
 obtain⟨h0,c0,c1,c2,f1,f2⟩:=V.cells;have p:Hid (∀q,ZTok ((w.alloc (.cells #[Iv0 0,.string ⟨#[]⟩,Iv0 0,Iv0 0] 150)).drewN q) w.heap.size):=fun _=>aO _ _ rfl _
 have D:Fr sb w (w.alloc (.cells #[Iv0 0,.string ⟨#[]⟩,Iv0 0,Iv0 0] 150)):=(Fr.refl _ _).alloc _;have l:=aB D;have O:Hid (∀q,NTabs ((w.alloc (.cells #[Iv0 0,.string ⟨#[]⟩,Iv0 0,Iv0 0] 150)).drewN q)):=fun q=>hg.fr (D.drewN q) z
 have A:Hid (∀q,PTabs ((w.alloc (.cells #[Iv0 0,.string ⟨#[]⟩,Iv0 0,Iv0 0] 150)).drewN q)):=fun q=>hm.fr (D.drewN q) z
 have Q:=aB V;obtain⟨c,I⟩:∃c,c=cG (b.data.toList.drop n):=⟨_,rfl⟩;rw[<-I];have F:c=if eN b[n] || fS b[n] then iE (b.data.toList.drop n) (fS b[n]) else if b[n].toNat=34 then oP (b.data.toList.drop (n+1)) else iD (b.data.toList.drop n):=by rw[I,lN b n S];rfl
 have t:=aB F;have s:=aB (zS b[n]);have u:=aB (vB b[n]);clear h V hg hm I F D;cases y:fS b[n]
 ·cases B:eN b[n]
  ·by_cases E:b[n].toNat=34
   ·have e:c=oP (b.data.toList.drop (n+1)):=by rw[t.out,y,B];simp[E]
    have C:=aB (fun q=>A7 sb b n L ((w.alloc (.cells #[Iv0 0,.string ⟨#[]⟩,Iv0 0,Iv0 0] 150)).drewN q) Q (by omega) S)
    rw[<-e] at C;rw[y] at s;rw[B] at u;have P:((b[n].toNat:Int)==34)=true:=by simp;omega
    clear y B e t E;go_in
    go_wp2_with fail;go_quiet (fail)
    go_wp2_with fail;refine(s _).mono ?_;rintro e N ⟨rfl,x⟩;obtain rfl:=x.symm;go_wp2_with fail;refine(u _).mono ?_;rintro e N ⟨rfl,x⟩;obtain rfl:=x.symm;go_wp2_with fail;refine(C _).mono ?_;rintro e w2 ⟨f,⟨d,rfl,o⟩|⟨d,rfl⟩⟩
    ·have j:=aB ((l.drewN _).trans f);have m:=aB o;have a:=aB (f.keepS (p _) r);have g:=aB d;have K:=aA a (i:=0) rfl;have H:=aA a (i:=1) rfl;have G:=aA a (i:=2) rfl;have J:=aA a (i:=3) rfl;have Y:=aD (i:=0) a;have T:=aD (i:=1) a;have y2:=aD (i:=2) a;have U:=aD (i:=3) a;have M:=aC a;clear f o d;simp only[oT];go_wp2
     refine bodyPost_ret (v:=.agg #[Iv0 (psort c.sort),.string (bs c.text),Iv0 (pval ⟨c.sort,c.text,L⟩),Iv0 L]) (by clear O A p l j m a g;generalize psort c.sort=Z;generalize pval ⟨c.sort,c.text,L⟩=X;simp[results,results108,go_sem,K,H,G,J]) rfl ?_
     have k:=nG j m cL r (Iv0 (psort c.sort)) (.string (bs c.text)) (Iv0 (pval ⟨c.sort,c.text,L⟩)) (Iv0 L);exact⟨k.1,cl_ ⟨g,rfl,k.2⟩⟩
    ·have j:=aB ((l.drewN _).trans f);have g:=aB d;clear f d;go_wp2_with fail;exact⟨rfl,j,ck_ ⟨g,rfl⟩⟩
   ·have e:iD (b.data.toList.drop n)=c:=by rw[t.out,y,B];simp[E]
    have C:=aB (fun q=>B4 sb b n L ((w.alloc (.cells #[Iv0 0,.string ⟨#[]⟩,Iv0 0,Iv0 0] 150)).drewN q) Q (A q) (by omega) S c e)
    rw[y] at s;rw[B] at u;have P:((b[n].toNat:Int)==34)=false:=by simp;omega
    clear y B e t E;go_in
    go_wp2_with fail;go_quiet (fail)
    go_wp2_with fail;refine(s _).mono ?_;rintro e N ⟨rfl,x⟩;obtain rfl:=x.symm;go_wp2_with fail;refine(u _).mono ?_;rintro e N ⟨rfl,x⟩;obtain rfl:=x.symm;go_wp2_with fail;refine(C _).mono ?_;rintro e w2 ⟨f,⟨d,rfl,o⟩|⟨d,rfl⟩⟩
    ·have j:=aB ((l.drewN _).trans f);have m:=aB o;have a:=aB (f.keepS (p _) r);have g:=aB d;have K:=aA a (i:=0) rfl;have H:=aA a (i:=1) rfl;have G:=aA a (i:=2) rfl;have J:=aA a (i:=3) rfl;have Y:=aD (i:=0) a;have T:=aD (i:=1) a;have y2:=aD (i:=2) a;have U:=aD (i:=3) a;have M:=aC a;clear f o d;simp only[oT];go_wp2
     refine bodyPost_ret (v:=.agg #[Iv0 (psort c.sort),.string (bs c.text),Iv0 (pval ⟨c.sort,c.text,L⟩),Iv0 L]) (by clear O A p l j m a g;generalize psort c.sort=Z;generalize pval ⟨c.sort,c.text,L⟩=X;simp[results,results108,go_sem,K,H,G,J]) rfl ?_
     have k:=nG j m cL r (Iv0 (psort c.sort)) (.string (bs c.text)) (Iv0 (pval ⟨c.sort,c.text,L⟩)) (Iv0 L);exact⟨k.1,cl_ ⟨g,rfl,k.2⟩⟩
    ·have j:=aB ((l.drewN _).trans f);have g:=aB d;clear f d;go_wp2_with fail;exact⟨rfl,j,ck_ ⟨g,rfl⟩⟩
  ·have e:c=iE (b.data.toList.drop n) false:=by rw[t.out,y,B];rfl
   have C:=aB (fun q=>PB sb b n L ((w.alloc (.cells #[Iv0 0,.string ⟨#[]⟩,Iv0 0,Iv0 0] 150)).drewN q) Q (O q) z hs S B)
   rw[<-e] at C;rw[y] at s;rw[B] at u;clear y B e t;go_in
   go_wp2_with fail;go_quiet (fail)
   go_wp2_with fail;refine(s _).mono ?_;rintro e N ⟨rfl,x⟩;obtain rfl:=x.symm;go_wp2_with fail;refine(u _).mono ?_;rintro e N ⟨rfl,x⟩;obtain rfl:=x.symm;go_wp2_with fail;refine(C _).mono ?_;rintro e w2 ⟨f,⟨d,rfl,o⟩|⟨d,rfl⟩⟩
   ·have j:=aB ((l.drewN _).trans f);have m:=aB o;have a:=aB (f.keepS (p _) r);have g:=aB d;have K:=aA a (i:=0) rfl;have H:=aA a (i:=1) rfl;have G:=aA a (i:=2) rfl;have J:=aA a (i:=3) rfl;have Y:=aD (i:=0) a;have T:=aD (i:=1) a;have y2:=aD (i:=2) a;have U:=aD (i:=3) a;have M:=aC a;clear f o d;simp only[oT];go_wp2
    refine bodyPost_ret (v:=.agg #[Iv0 (psort c.sort),.string (bs c.text),Iv0 (pval ⟨c.sort,c.text,L⟩),Iv0 L]) (by clear O A p l j m a g;generalize psort c.sort=Z;generalize pval ⟨c.sort,c.text,L⟩=X;simp[results,results108,go_sem,K,H,G,J]) rfl ?_
    have k:=nG j m cL r (Iv0 (psort c.sort)) (.string (bs c.text)) (Iv0 (pval ⟨c.sort,c.text,L⟩)) (Iv0 L);exact⟨k.1,cl_ ⟨g,rfl,k.2⟩⟩
   ·have j:=aB ((l.drewN _).trans f);have g:=aB d;clear f d;go_wp2_with fail;exact⟨rfl,j,ck_ ⟨g,rfl⟩⟩
 ·have e:c=iE (b.data.toList.drop n) true:=by rw[t.out,y,Bool.or_true];rfl
  have C:=aB (fun q=>B3 sb b n L ((w.alloc (.cells #[Iv0 0,.string ⟨#[]⟩,Iv0 0,Iv0 0] 150)).drewN q) Q (by omega) (by omega))
  rw[<-e] at C;rw[y] at s;clear y e t u;go_in
  go_wp2_with fail;go_quiet (fail)
  go_wp2_with fail;refine(s _).mono ?_;rintro e N ⟨rfl,x⟩;obtain rfl:=x.symm;go_wp2_with fail;refine(C _).mono ?_;rintro e w2 ⟨f,⟨d,rfl,o⟩|⟨d,rfl⟩⟩
  ·have j:=aB ((l.drewN _).trans f);have m:=aB o;have a:=aB (f.keepS (p _) r);have g:=aB d;have K:=aA a (i:=0) rfl;have H:=aA a (i:=1) rfl;have G:=aA a (i:=2) rfl;have J:=aA a (i:=3) rfl;have Y:=aD (i:=0) a;have T:=aD (i:=1) a;have y2:=aD (i:=2) a;have U:=aD (i:=3) a;have M:=aC a;clear f o d;simp only[oT];go_wp2
   refine bodyPost_ret (v:=.agg #[Iv0 (psort c.sort),.string (bs c.text),Iv0 (pval ⟨c.sort,c.text,L⟩),Iv0 L]) (by clear O A p l j m a g;generalize psort c.sort=Z;generalize pval ⟨c.sort,c.text,L⟩=X;simp[results,results108,go_sem,K,H,G,J]) rfl ?_
   have k:=nG j m cL r (Iv0 (psort c.sort)) (.string (bs c.text)) (Iv0 (pval ⟨c.sort,c.text,L⟩)) (Iv0 L);exact⟨k.1,cl_ ⟨g,rfl,k.2⟩⟩
  ·have j:=aB ((l.drewN _).trans f);have g:=aB d;clear f d;go_wp2_with fail;exact⟨rfl,j,ck_ ⟨g,rfl⟩⟩
def Z2:(prog.info? 150).map (fun i=>(i.zero,i.size,i.bytes))=some (some (.agg #[Iv0 0,.string (bs []),Iv0 0,Iv0 0]),4,40):=by kernel_rfl
def KP(w:aG)(a b c d:aQ):∀j u,([a,b,c,d]:List Value)[j]?=some u->(w.alloc (.cells #[a,b,c,d] 150)).cell? ((⟨w.heap.size,0,none⟩:Addr).add j)=some u:=by
 intro j u e;match j,e with
 |0,e=>simp at e;subst e;simp[Addr.add,go_sem]
 |1,e=>simp at e;subst e;simp[Addr.add,go_sem]
 |2,e=>simp at e;subst e;simp[Addr.add,go_sem]
 |3,e=>simp at e;subst e;simp[Addr.add,go_sem]
 |j+4,e=>simp at e
def QS(l m n:Int)(b:ByteArray):∀u∈([Iv0 l,.string b,Iv0 m,Iv0 n]:List Value),u.oneCell'=true:=by
 intro u a;simp at a;rcases a with rfl|rfl|rfl|rfl<;>rfl
def C7{w:aG}{b:Nat}{e:TypeId}{a:Nat}{v:aQ}{n:Nat}{xs:List Value}(h:w.ownsRow b e a v n xs):∃x c,v=.slice x n c:=by
 rcases h.2 with ⟨d,i⟩|⟨g,f,j,d,_⟩
 ·exact⟨none,0,by rw[d,i]⟩
 ·exact⟨_,f,d⟩
def vJ{l:cD}(h:∀c∈l,c≠10):l.count 10=0:=List.count_eq_zero.2 fun a=>h 10 a rfl
def UI(l:cD)(h:(cG l).ok=true):(l.take (cG l).size).count 10=0:=by
 cases l with
 |nil=>simp[cG] at h
 |cons c r=>
  rw[cG] at h ⊢
  split
  ·rename_i i;rw[tR];refine vJ fun x a=>?_
   have:=tB _ _ x a;intro e;subst e;revert this
   cases fS c<;>decide
  ·rename_i i;rw[if_neg i] at h;split
   ·rename_i b;rw[if_pos b] at h;have d:(decide (r[bP fQ r]?=some 34) && decide (bP fQ r<=100))=true:=h;rw[cO_,decide_eq_true_eq] at d
    have k:bP fQ r<r.length:=by
     by_cases a:bP fQ r<r.length
     ·exact a
     ·rw[cV_ (by omega)] at d;exact absurd d.1 (by simp)
    show ((c::r).take (bP fQ r+1+1)).count 10=0
    rw[dj_,List.take_add_one,d.1];refine vJ fun x a=>?_
    rcases cv_.1 a with rfl|a
    ·intro e;rw[e] at b;exact absurd b (by decide)
    rcases cu_.1 a with a|a
    ·have:=tB _ _ x a;intro e;subst e;exact absurd this (by decide)
    ·intro e;rw[e] at a;exact absurd a (by decide)
   ·rename_i b;rw[if_neg b] at h;unfold iD at h ⊢
    cases f:cX.find? (fun o=>cY (c::r) o) with
    |none=>rw[f] at h;simp at h
    |some o=>
     have j:=List.find?_some f;have m:=df_ f
     have n:(c::r).take o.length=o:=by
      have g:=j;unfold cY at g;rw[nD _ _ (lT j)] at g;simpa using g
     show ((c::r).take o.length).count 10=0
     rw[n];have:∀o∈cX,o.count 10=0:=by decide
     exact this o m
def U3(x:Except Nat (List bB))(w:aG)(e:Ending)(w':aG):Prop:=
 Below w.heap.size w w'/\
  match x with
  |.error n=>e=cT 3 n
  |.ok ts=>∃v,e=aZ v/\w'.ownsRow (w.heap.size+1) 150 4 v ts.length (ptoks ts)
def m8(src:ByteArray)(w:aG)(TS:Except Nat (List bB))(gk:Nat)(v:aQ)(wr:aG):Prop:=
 ∃(k f:Nat) (ts:List bB),k<=src.size/\src.size+1<=k+f/\src.size<=k+gk/\ts.length<=k/\SC w.heap.size src k (bE (src.data.toList.take k)) wr/\Fr w.heap.size w wr/\wr.ownsRow (w.heap.size+1) 150 4 v ts.length (ptoks ts)/\TS=iX ts (eW f (src.data.toList.take k) (src.data.toList.drop k))
def Fr.to_below{w w':aG}(h:Fr w.heap.size w w'):Below w.heap.size w w':=⟨h.os,h.tape,h.output,h.size,fun k a=>h.block k a (by omega)⟩
def U2(a:ByteArray)(w:World)(hg:NTabs w)(U:PTabs w)(hs:a.size<=2000):
 Calls prog 75 #[.string a] w (U3 (iC a.data.toList) w):=by
 obtain⟨i0,H,Z,ak,af⟩:=info_parts Z2;have B:=hg.big;have h0:SC w.heap.size a 0 (bE (a.data.toList.take 0)) (w.alloc (.cells #[.string a,.int .i64 0,.int .i64 1] 222)):=aO _ _ rfl _;have l:=aB (PU w.heap.size a 0 (w.alloc (.cells #[.string a,.int .i64 0,.int .i64 1] 222)) h0 (by omega) (cU_ _))
 simp only[List.drop_zero,c8_] at l;obtain⟨T,F⟩:∃T,T=Hs.blankL a.size a.data.toList:=⟨_,rfl⟩;have al:T<=a.size:=by have:=xA a.size a.data.toList;rw[F];simpa using this
 rw[<-F] at l;obtain⟨D,s⟩:∃D,D=iC a.data.toList:=⟨_,rfl⟩
 have n:Hid (D=eW (a.size+1) (a.data.toList.take T) (a.data.toList.drop T)):=by
  show _=_
  rw[s];unfold iC;rw[show a.data.toList.length=a.size by simp,<-F]
 rw[<-s];have ad:Hid (Fr w.heap.size w (w.alloc (.cells #[.string a,.int .i64 0,.int .i64 1] 222))):=(Fr.refl _ _).alloc _;have HG:=aB hg;have HM:=aB U;clear h0 hg U F s;go_enter func75,ntmps75;go_wp2_with fail;refine l.out.mono ?_;rintro e w1 ⟨rfl,ag,an⟩;have HI:Hid (m8 a w D a.size (.slice none 0 0) w1):=⟨T,a.size+1,[],al,by omega,by omega,by simp,ag,ad.out.trans an,World.ownsRow_nil _ _ _ _,by rw[n.out,EJ]⟩
 clear ag an l n ad;go_wp2_with fail;go_loopg [4] a.size (fun gk v wr=>m8 a w D gk v wr)
 case atStart=>exact HI.out
 case round=>
  obtain⟨k,f,u,hk,hf,bb,ba,K,Q,g,s⟩:=hrel
  have hL:bE (a.data.toList.take k)<=k+1:=by
   have:=qD (a.data.toList.take k);have:=List.length_take_le k a.data.toList;omega
  obtain⟨h0,c0,c1,c2,f1,f2⟩:=K.cells;have az:=Q.size;have av:=aB K;have y:=aB Q;have n:=aB s;obtain⟨x,c,rfl⟩:=C7 g;have G:∀k,(Value.slice x u.length c).ownBlock=some k->w.heap.size+1<=k:=cS g;clear HI K Q s;by_cases Y:k<a.size
  ·obtain⟨f,rfl⟩:∃f',f=f'+1:=⟨f-1,by omega⟩
   obtain⟨j,rfl⟩:∃j,gk=j+1:=⟨gk-1,by omega⟩
   have aj:decide ((k:Int)<(a.size:Int))=true:=decide_eq_true (by omega)
   have hl:(a.data.toList.drop k).length=a.size-k:=by simp
   have E:=aB (A8 w.heap.size a k (bE (a.data.toList.take k)) wr av.out (HG.out.fr y.out B) (HM.out.fr y.out B) B (by omega) Y)
   cases o:(cG (a.data.toList.drop k)).ok
   ·have HF:Hid (D=.error (bE (a.data.toList.take k))):=by
     show _=_
     rw[n.out,nF _ _ _ (by omega) o];rfl
    have P:=aB o;clear n hl o;generalize bE (a.data.toList.take k)=L at*;go_wp2_with fail;refine E.out.mono ?_;rintro e w2 ⟨q,⟨h,_,_⟩|⟨h,rfl⟩⟩
    ·rw[P.out] at h;cases h
    have A:=aB (y.out.trans q);clear q h E;go_wp2_with fail;rw[HF.out];exact⟨rfl,A.out.to_below,rfl⟩
   ·have ao:=vR _ o;rw[hl] at ao;have am:=UI _ o;obtain⟨m,U⟩:∃m,m=k+(cG (a.data.toList.drop k)).size+Hs.blankL a.size (a.data.toList.drop (k+(cG (a.data.toList.drop k)).size)):=⟨_,rfl⟩
    have aq:m<=a.size:=by
     have:=xA a.size (a.data.toList.drop (k+(cG (a.data.toList.drop k)).size));rw[c9_,show a.data.toList.length=a.size by simp] at this
     omega
    have HT:=R9 a k f Y o m U
    have HF:Hid (D=iX (u++[{ sort:=(cG (a.data.toList.drop k)).sort,text:=(cG (a.data.toList.drop k)).text,line:=bE (a.data.toList.take k) }]) (eW f (a.data.toList.take m) (a.data.toList.drop m))):=by
     show _=_
     rw[n.out,HT,BN]
    have X:bE (a.data.toList.take (k+(cG (a.data.toList.drop k)).size))=bE (a.data.toList.take k):=by
     rw[List.take_add,kG,am];rfl
    have l:=aB (fun W (hW:SC w.heap.size a (k+(cG (a.data.toList.drop k)).size) (bE (a.data.toList.take (k+(cG (a.data.toList.drop k)).size))) W)=>PU w.heap.size a _ W hW (by omega) (by omega))
    rw[X] at l;simp only[<-U] at l;have P:=aB o;have ay:k<m:=by omega
    clear n hl o HT am X U;generalize cG (a.data.toList.drop k)=r at*;obtain⟨pa,S⟩:∃pa,pa=psort r.sort:=⟨_,rfl⟩;obtain⟨pb,I⟩:∃pb,pb=pval ⟨r.sort,r.text,bE (a.data.toList.take k)⟩:=⟨_,rfl⟩;have ac:Hid (oT ⟨r.sort,r.text,bE (a.data.toList.take k)⟩=.agg #[.int .i64 pa,.string (bs r.text),.int .i64 pb,.int .i64 (bE (a.data.toList.take k))]):=by show _=_;rw[S,I];rfl
    have ap:Hid (ptok ⟨r.sort,r.text,bE (a.data.toList.take k)⟩=[.int .i64 pa,.string (bs r.text),.int .i64 pb,.int .i64 (bE (a.data.toList.take k))]):=by show _=_;rw[S,I];rfl
    clear S I;generalize bE (a.data.toList.take k)=L at*;have O:=aB G;have ah:=aB g;clear g G;go_wp2_with fail;refine E.out.mono ?_;rintro e w2 ⟨q,⟨h,rfl,J⟩|⟨h,rfl⟩⟩
    rotate_left
    ·rw[P.out] at h;cases h
    rw[ac.out];have t:=aW (w1:=w2) ah.out fun i H=>q.block i (cP ah.out i H) (by have:=O.out i H;omega)
    have A:=aB (y.out.trans q);have aa:=aB J;have ax:=A.out.size;have ae:=aC J;clear q h J E ac;go_wp2_with (at_builtin;refine wpList_append_lies _ (by rfl) _ _ 95 (by rfl) (w.heap.size+1) 150 i0 _ 4 40 underlying95 H Z ak af rfl (by decide) _ _ _ (by rfl) (t.alloc _) ⟨w2.heap.size,0,none⟩ 1 1 [.int .i64 pa,.string (bs r.text),.int .i64 pb,.int .i64 L] (by rfl) (by rfl) (KP _ _ _ _ _) (QS _ _ _ _) (by decide) (by unfold maxLen;omega) (by omega) (by simp;omega) (w2.heap.size+1) (by simp) ?_)
    intro g7 p V d b C ar;have N:=aB ((A.out.alloc _).grown b (fun k hk=>by have:=O.out k hk;omega))
    have aw:Hid (SC w.heap.size a (k+r.size) L V):=by
     show _=_
     rw[b.block _ (by simp;omega) (fun e=>by have:=O.out _ e.symm;omega),cq_ _ _ _ ae]
     exact aa.out
    have z:Hid (V.ownsRow (w.heap.size+1) 150 4 (.slice (some ⟨g7,0,none⟩) (u.length+1) p) (u++[(⟨r.sort,r.text,L⟩:bB)]).length (ptoks (u++[⟨r.sort,r.text,L⟩]))):=by
     rw[EI,ap.out,cp_];exact d
    have ai:=aB (l.out V aw.out);clear t d b C aa A l;go_wp2_with fail;refine ai.out.mono ?_;rintro e w8 ⟨rfl,ab,M⟩
    have au:Hid (m8 a w D j (.slice (some ⟨g7,0,none⟩) (u.length+1) p) w8):=by
     refine⟨m,f,u++[⟨r.sort,r.text,L⟩],aq,by omega,by omega,by simp;omega,ab,N.out.trans M,?_,HF.out⟩
     exact aW z.out fun i H=>M.block i (cP z.out i H) (by have:=cS z.out i H;omega)
    clear ab M ai;go_wp2_with fail;go_roundg j
    case measure=>omega
    case rel=>exact au.out
  ·obtain⟨f,rfl⟩:∃f',f=f'+1:=⟨f-1,by omega⟩
   have HF:Hid (D=.ok (u++[{ sort:=101,text:=[],line:=bE (a.data.toList.take k) }])):=by
    show _=_
    rw[n.out,nE _ _ _ (by simp;omega)];rfl
   have aj:decide ((k:Int)<(a.size:Int))=false:=decide_eq_false (by omega)
   clear n;generalize bE (a.data.toList.take k)=L at*;go_wp2_with (at_builtin;refine wpList_append_lies _ (by rfl) _ _ 95 (by rfl) (w.heap.size+1) 150 i0 _ 4 40 underlying95 H Z ak af rfl (by decide) _ _ _ (by rfl) (g.alloc _) ⟨wr.heap.size,0,none⟩ 1 1 [.int .i64 4,.string ⟨#[]⟩,.int .i64 0,.int .i64 L] (by rfl) (by rfl) (KP _ _ _ _ _) (QS _ _ _ _) (by decide) (by unfold maxLen;omega) (by omega) (by simp;omega) (wr.heap.size+1) (by simp) ?_)
   intro g7 p V d b C ar;have N:=aB ((y.out.alloc _).grown b (fun k hk=>by have:=G k hk;omega))
   have z:Hid (V.ownsRow (w.heap.size+1) 150 4 (.slice (some ⟨g7,0,none⟩) (u.length+1) p) (u++[(⟨101,[],L⟩:bB)]).length (ptoks (u++[⟨101,[],L⟩]))):=by
    rw[EI,cp_];exact d
   clear g d b C G;go_wp2_with fail;go_ret;rw[HF.out];exact⟨N.out.to_below,_,rfl,z.out⟩
def WT(a:ByteArray)(w:aG)(_hs:a.size<=maxLen):
 Calls prog 73 #[.string a] w fun e d=>d=w/\((a.size<=2000/\e=aZ (.tuple #[]))\/(2000<a.size/\e=cT 1 0)):=by
 by_cases h:a.size<=2000
 ·have c:decide ((2000:Int)<(a.size:Int))=false:=decide_eq_false (by omega)
  go_in
  go_wp2
  go_end0;exact⟨rfl,cl_ ⟨h,rfl⟩⟩
 ·have c:decide ((2000:Int)<(a.size:Int))=true:=decide_eq_true (by omega)
  go_in
  go_wp2_with (go_at_call 79;refine(gW 1 0 _).mono ?_;rintro e f ⟨rfl,b⟩;obtain rfl:=b.symm)
  exact⟨rfl,rfl,ck_ ⟨by omega,rfl⟩⟩
def MY{l:cD}{c:Nat}{x:UInt8}(h:x∈l.take c):∃i,i<c/\l[i]?=some x:=by
 obtain⟨i,b,e⟩:=List.mem_iff_getElem.1 h;have a:=b;rw[da_] at a;refine⟨i,by omega,?_⟩
 rw[List.getElem_take] at e;rw[cz_ (by omega),e]
def yM{l:cD}{i lo hi:Nat}(h:dN l i lo hi=true){x:UInt8}(a:l[i]?=some x):lo<=x.toNat:=by
 unfold dN at h;rw[a] at h;simp at h;exact h.1
def TL{l:cD}(h:2<=bK l):(l.take (bK l)).count 10=0:=by
 refine vJ fun x o=>?_
 obtain⟨i,c,e⟩:=MY o;suffices 128<=x.toNat by intro e;rw[e] at this;exact absurd this (by decide)
 revert h c
 unfold bK;cases m:l[0]? with
 |none=>simp
 |some b=>
  simp only;have d:i=0->x=b:=fun g=>by subst g;rw[m] at e;exact(Option.some.inj e).symm
  split
  ·intro h;omega
  ·rename_i k;split
   ·rename_i f;split
    ·rename_i a;intro _ c;match i,c with
     |0,_=>rw[d rfl];omega
     |1,_=>exact yM a e
    ·intro h;omega
   ·split
    ·rename_i n;by_cases a:(dN l 1 (if b.toNat=224 then 160 else 128) (if b.toNat=237 then 159 else 191) && dN l 2 128 191)=true
     ·rw[if_pos a];rw[cO_] at a;intro _ c;match i,c with
      |0,_=>rw[d rfl];omega
      |1,_=>have:=yM a.1 e;split at this<;>omega
      |2,_=>exact yM a.2 e
     ·rw[if_neg a];intro h;omega
    ·split
     ·rename_i j;by_cases a:(dN l 1 (if b.toNat=240 then 144 else 128) (if b.toNat=244 then 143 else 191) && dN l 2 128 191 && dN l 3 128 191)=true
      ·rw[if_pos a];rw[cO_,cO_] at a;intro _ c;match i,c with
       |0,_=>rw[d rfl];omega
       |1,_=>have:=yM a.1.1 e;split at this<;>omega
       |2,_=>exact yM a.1.2 e
       |3,_=>exact yM a.2 e
      ·rw[if_neg a];intro h;omega
     ·intro h;omega
def aW_(n a b c d:Nat)(e:a<256):(Lib.decodeN n a b c d).1<=1114111:=by
 unfold Lib.decodeN;repeat' split
 all_goals (simp only;omega)
def bC_(a:ByteArray)(k:Nat)(p:k<a.size):∃r z,Lib.decodeGo (a.extract k a.size)=(r,z)/\r<=1114111/\
 ((bK (a.data.toList.drop k)=0/\r=65533/\z=1)\/(bK (a.data.toList.drop k)≠0/\z=bK (a.data.toList.drop k)/\¬(r=65533/\z=1)/\(r=10↔a[k].toNat=10))):=by
 have m:(a.extract k a.size).size=a.size-k:=by simp
 have b:0<(a.extract k a.size).size:=by omega
 have j:((a.extract k a.size).get! 0).toNat=a[k].toNat:=by rw[pR _ 0 b];simp[ByteArray.getElem_extract]
 have f:=a0_ (a.extract k a.size) b;rw[oB] at f
 have h:Lib.decodeGo (a.extract k a.size)=Lib.decodeN (a.extract k a.size).size ((a.extract k a.size).get! 0).toNat ((a.extract k a.size).get! 1).toNat ((a.extract k a.size).get! 2).toNat ((a.extract k a.size).get! 3).toNat:=by
  unfold Lib.decodeGo;rw[if_neg (by omega),Lib.decode_at];rfl
 obtain⟨g,d⟩:=j6 (a.extract k a.size).size ((a.extract k a.size).get! 0).toNat ((a.extract k a.size).get! 1).toNat ((a.extract k a.size).get! 2).toNat ((a.extract k a.size).get! 3).toNat (dG_ _) (dG_ _) (dG_ _) (dG_ _);have i:=aW_ (a.extract k a.size).size ((a.extract k a.size).get! 0).toNat ((a.extract k a.size).get! 1).toNat ((a.extract k a.size).get! 2).toNat ((a.extract k a.size).get! 3).toNat (dG_ _);rw[<-f] at g d;rw[<-h] at g d i;rw[j] at d;clear h f;generalize Lib.decodeGo (a.extract k a.size)=D at*;obtain⟨r,z⟩:=D;refine⟨r,z,rfl,i,?_⟩;by_cases e:bK (a.data.toList.drop k)=0
 ·have:=g e;cases this;exact cl_ ⟨e,rfl,rfl⟩
 ·obtain⟨n,l,o⟩:=d e;have c:z=bK (a.data.toList.drop k):=n;exact ck_ ⟨e,c,by rw[c];exact l,o⟩
def CN{w w':aG}(h:Lib.Utf8Tabs 1 2 w)(a:Below w.heap.size w w')(e:9<=w.heap.size):Lib.Utf8Tabs 1 2 w':=
 ⟨fun c d=>(a.cell (p:=(aH 1 c)) (by show 1<_;omega)).trans (h.1 c d),fun i b=>⟨(a.cell (p:=(aH 2 (2*i))) (by show 2<_;omega)).trans (h.2 i b).1,(a.cell (p:=(aH 2 (2*i+1))) (by show 2<_;omega)).trans (h.2 i b).2⟩⟩
def aT_(x:Option Nat)(l:cD)(w:aG)(e:Ending)(w':aG):Prop:=
 Below w.heap.size w w'/\
  match x with
  |none=>e=aZ (.tuple #[])
  |some k=>e=cT 2 (bE (l.take k))
def aS_(a:ByteArray)(w:aG)(N:Lib.Utf8Tabs 1 2 w)(Y:9<=w.heap.size)(hs:a.size<=2000):
 Calls prog 74 #[.string a] w (aT_ (dY a.size a.data.toList 0) a.data.toList w):=by
 have Q:=aB N;obtain⟨X,F⟩:∃X,X=dY a.size a.data.toList 0:=⟨_,rfl⟩;rw[<-F];have H:Hid (X=dY a.size (a.data.toList.drop 0) 0):=F;clear N F;go_in
 go_wp2_with fail;go_loopg [2,3,4,5] a.size (fun gk lv iv _ _ wr=>∃k f:Nat,k<=a.size/\a.size<=k+f/\a.size<=k+gk/\iv=Iv0 k/\lv=Iv0 (bE (a.data.toList.take k))/\Below w.heap.size w wr/\Hid (X=dY f (a.data.toList.drop k) k))
 case atStart=>exact⟨0,a.size,cU_ _,by omega,by omega,rfl,rfl,co_ _ _,H⟩
 case round=>
  obtain⟨k,f,hk,hf,V,rfl,rfl,C,v⟩:=hrel
  have hL:bE (a.data.toList.take k)<=k+1:=by
   have:=qD (a.data.toList.take k);have:=List.length_take_le k a.data.toList;omega
  have s:=aB C;by_cases p:k<a.size
  ·obtain⟨f,rfl⟩:∃f',f=f'+1:=⟨f-1,by omega⟩
   obtain⟨j,rfl⟩:∃j,gk=j+1:=⟨gk-1,by omega⟩
   have d:0<(a.data.toList.drop k).length:=by simp;omega
   obtain⟨r,z,K,hr,hc⟩:=bC_ a k p;have t:=aB (utf8_DecodeRuneInString (a.extract k a.size) wr (CN Q C Y));rw[K] at t;clear K C;rcases hc with ⟨g,rfl,rfl⟩|⟨g,n,A,c⟩
   ·have u:Hid (X=some k):=by show _=_;rw[v.out,PQ _ _ _ d g]
    generalize x:bE (a.data.toList.take k)=L at*;have G:=aB x;clear v g d x;go_wp2_with fail;refine t.mono ?_;rintro e J ⟨rfl,b⟩;have h:=aB (s.trans (b.mono s.size));clear b t;go_wp2_with (go_at_call 79;refine(gW 2 L _).mono ?_;rintro e w3 ⟨rfl,Z⟩;obtain rfl:=Z.symm)
    rw[u.out];exact⟨rfl,h,congrArg (cT 2) G.symm⟩
   ·have u:Hid (X=dY f (a.data.toList.drop (k+z)) (k+z)):=by
     show _=_
     rw[v.out,MF _ _ _ d g,dx_,<-n]
    have W:z<=a.size-k:=by rw[n];have:=N9 (a.data.toList.drop k);simpa using this
    have U:1<=z:=by omega
    have B:bE (a.data.toList.take (k+z))=bE (a.data.toList.take k)+if r=10 then 1 else 0:=by
     by_cases h2:2<=z
     ·have I:=TL (l:=a.data.toList.drop k) (by omega)
      rw[<-n] at I;rw[List.take_add,kG,I];rw[if_neg];intro e;have S:=c.1 e
      have O:a[k]∈(a.data.toList.drop k).take z:=by
       rw[lN a k p];obtain⟨y,rfl⟩:∃y,z=y+1:=⟨z-1,by omega⟩
       rw[dj_];exact cJ_ ..
      exact List.count_eq_zero.1 I (by have:a[k]=10:=dJ_.1 S;rw[this] at O;exact O)
     ·obtain rfl:z=1:=by omega
      rw[KV a k p];congr 1
      by_cases D:r=10
      ·rw[if_pos D,if_pos (dJ_.1 (c.1 D))]
      ·rw[if_neg D,if_neg (fun e=>D (c.2 (by rw[e];rfl)))]
    have i:=aB B;generalize bE (a.data.toList.take k)=L at*
    have o:((r:Int)==65533)=false\/((r:Int)==65533)=true/\((z:Int)==1)=false:=by
     by_cases T:r=65533
     ·refine ck_ ⟨by simp;omega,?_⟩
      simp;intro e;exact A ⟨T,by omega⟩
     ·exact cl_ (by simp;omega)
    have E:(a.data.toList.drop k).length=a.size-k:=by simp
    clear v g d n c B A E;by_cases m:r=10
    ·have e1:((r:Int)==10)=true:=by simp;omega
     have P:((r:Int)==65533)=false:=by simp;omega
     have q:Hid (bE (a.data.toList.take (k+z))=L+1):=by show _=_;rw[i.out,if_pos m]
     clear o m i;go_wp2_with fail;refine t.mono ?_;rintro e J ⟨rfl,b⟩;have h:=aB (s.trans (b.mono s.size));clear b t;go_wp2
     go_roundg j
     case measure=>omega
     case rel=>exact⟨k+z,f,by omega,by omega,by omega,by go_num,by rw[q.out];go_num,h,u⟩
    ·have e1:((r:Int)==10)=false:=by simp;omega
     have q:Hid (bE (a.data.toList.take (k+z))=L):=by show _=_;rw[i.out,if_neg m];rfl
     clear m i;rcases o with P|⟨P,e3⟩
     all_goals
      go_wp2_with fail;refine t.mono ?_;rintro e J ⟨rfl,b⟩;have h:=aB (s.trans (b.mono s.size));clear b t;go_wp2
      go_roundg j
      case measure=>omega
      case rel=>exact⟨k+z,f,by omega,by omega,by omega,by go_num,by rw[q.out],h,u⟩
  ·have u:Hid (X=none):=by show _=_;rw[v.out,PP _ _ _ (by simp;omega)]
   have M:decide ((k:Int)<(a.size:Int))=false:=decide_eq_false (by omega)
   clear v C;generalize bE (a.data.toList.take k)=L at*;go_wp2
   go_end0;rw[u.out];exact⟨s,rfl⟩
structure gS(w:aG):Prop where
 n:NTabs w
 p:PTabs w
 u:Lib.Utf8Tabs 1 2 w
def gS.below{w w':aG}(h:gS w)(a:Below w.heap.size w w'):gS w':=
 ⟨h.n.fr (sb:=w.heap.size) ⟨a.os,a.tape,a.output,a.size,fun k b _=>a.block k b⟩ h.n.big,h.p.fr (sb:=w.heap.size) ⟨a.os,a.tape,a.output,a.size,fun k b _=>a.block k b⟩ h.n.big,CN h.u a h.n.big⟩
def FineA.kid{m:Nat}{f k:aE}(h:Hs.FineA m f)(a:k∈f.kids):Hs.FineA m k:=fun d=>by
 have b:=h (d+1);refine⟨?_,b.2.2 k a⟩;have c:=b.1;rw[cC] at c;have:=uU (f:=cC d) a;omega
def FineA.kids{m:Nat}{f:aE}(h:Hs.FineA m f)(d:Nat):f.kids.length<=m/\(f.kids.map (cC d)).sum<=m:=by
 have b:=(h (d+1)).1;have a:=(h 2).1;rw[cC] at b a;have c:f.kids.length<=(f.kids.map (cC 1)).sum:=qE 0 f.kids;exact⟨by omega,by omega⟩
def pY(l:cD):Except (Nat × Nat) (List bB):=
 if 2000<l.length then .error (1,0)
 else match dY l.length l 0 with
  |some k=>.error (2,bE (l.take k))
  |none=>
   match iC l with
   |.error n=>.error (3,n)
   |.ok ts=>.ok ts
def EP(l:cD):cW l=match pY l with
 |.error f=>.error f
 |.ok a=>match nA a with
  |.error n=>.error (4,n)
  |.ok (b,_)=>.ok b:=by
 unfold cW pY;by_cases h:2000<l.length
 ·rw[if_pos h,if_pos h]
 ·rw[if_neg h,if_neg h];cases dY l.length l 0 with
  |some k=>rfl
  |none=>
   cases iC l with
   |error n=>rfl
   |ok a=>rfl
def CB{l:cD}{ts:List bB}(h:pY l=.ok ts):iC l=.ok ts/\l.length<=2000:=by
 unfold pY at h;split at h
 ·cases h
 ·split at h
  ·cases h
  ·split at h
   ·cases h
   ·cases h;exact⟨by assumption,by omega⟩
def KB{l:cD}{f:Nat × Nat}(h:pY l=.error f):f.1≠0:=by
 unfold pY at h;split at h
 ·cases h;simp
 ·split at h
  ·cases h;simp
  ·split at h
   ·cases h;simp
   ·cases h
def VO(l:cD)(w:aG)(e:Ending)(w':aG):Prop:=
 Below w.heap.size w w'/\
  match pY l with
  |.error f=>e=cT f.1 f.2
  |.ok ts=>∃v,e=aZ (.agg #[v,Iv0 0])/\w'.ownsRow w.heap.size 150 4 v ts.length (ptoks ts)
def yH(l:cD)(w:aG)(e:Ending)(w':aG):Prop:=
 Below w.heap.size w w'/\((cI l=(0,0)/\∃v ks,e=aZ v/\cW l=.ok ks/\FSl (Btw w.heap.size w'.heap.size) w' v ks)\/((cI l).1≠0/\e=cT (cI l).1 (cI l).2))
def WD{ks:List aE}(d:Nat)(h:sG ks=false)(b:∀f∈ks,1<=f.kids.length):lL d ks=(5,0):=by
 unfold lL;unfold sG lW at h;cases a:dS ks [109,97,105,110] with
 |none=>rfl
 |some m=>
  rw[a] at h;have g:=b m (df_ a)
  have c:¬m.kids.length-1=0:=by
   intro e;rw[show (([109,97,105,110]:cD)==[108,101,110])=false by decide,show (([109,97,105,110]:cD)==[114,101,97,100])=false by decide] at h
   simp[e] at h
  show (if 1<m.kids.length then _ else _)=_
  rw[if_pos (by omega)]
def Y1{ks:List aE}(d:Nat)(h:sG ks=true):lL d ks=((fM ks d [] ks ⟨[],0,0⟩).kind,(fM ks d [] ks ⟨[],0,0⟩).line):=by
 unfold lL;unfold sG lW at h;rw[show (([109,97,105,110]:cD)==[108,101,110])=false by decide,show (([109,97,105,110]:cD)==[114,101,97,100])=false by decide] at h
 cases a:dS ks [109,97,105,110] with
 |none=>rw[a] at h;simp at h
 |some m=>
  rw[a] at h;simp at h;show (if 1<m.kids.length then _ else _)=_
  rw[if_neg (by omega)]
def FSl.grow{F G:bX}{w w':aG}{v:aQ}{fs:List aE}(h:FSl F w v fs)(e:∀b,F b->w'.heap[b]?=w.heap[b]?)(f:∀b,F b->G b):FSl G w' v fs:=by
 rcases h with h|⟨g,a,c,n,j,d,l,i,k,m⟩
 ·exact cl_ h
 ·exact ck_ ⟨g,a,c,n,j,f g d,by rw[e g d];exact l,i,k,m.mono fun _ _ h=>h.keep e f⟩
def U6{w:aG}{b:Nat}{v:aQ}{ts:List bB}(h:w.ownsRow b 150 4 v ts.length (ptoks ts))(k:0<ts.length):∃g c a,v=.slice (some (aH g 0)) ts.length c/\b<=g/\ts.length<=c/\w.heap[g]?=some (.cells a 150 (0,0))/\a.toList.take (ts.length*4)=ptoks ts:=by
 rcases h.2 with ⟨e,d⟩|⟨g,c,a,e,d,i,f,m,l,j⟩
 ·omega
 ·exact⟨g,c,a,e,d,f,i,j⟩
def wM(b:ByteArray)(w:aG)(X:gS w)(hs:b.size<=maxLen):
 Calls prog 44 #[.string b] w (VO b.data.toList w):=by
 have J:b.data.toList.length=b.size:=by simp
 obtain⟨l,T⟩:∃l,l=b.data.toList:=⟨_,rfl⟩;rw[<-T] at J ⊢
 obtain⟨D,r⟩:∃D,D=w.alloc (.cells #[bF,Iv0 0] 97):=⟨_,rfl⟩;have C:Below w.heap.size w D:=by rw[r];exact(co_ _ _).alloc cL _
 have p:D.heap[w.heap.size]?=some (.cells #[bF,Iv0 0] 97 (0,0)):=by rw[r];exact aO _ _ rfl _
 have Y:D.heap.size=w.heap.size+1:=by rw[r];simp
 have G:=aB (WT b D hs);have Z:=aB T;have N:=aB (X.below C);have f:=aB C;have U:=aB p;have O:=aB r;clear T X C p r;go_in
 go_wp2_with fail;rw[<-O.out];refine G.mono ?_;rintro e V ⟨Q,⟨B,rfl⟩|⟨B,rfl⟩⟩
 rotate_left
 ·obtain rfl:=Q.symm
  have A:Hid (pY l=.error (1,0)):=by
   show _=_
   unfold pY;rw[if_pos (by omega)]
  go_wp2_with fail;exact⟨rfl,f,by rw[A.out];rfl⟩
 obtain rfl:=Q.symm;have M:=aB (aS_ b D N.u N.n.big B);rw[<-Z.out,<-J] at M;have z:¬2000<l.length:=by omega
 clear Q G;go_wp2_with fail;refine M.mono ?_;rintro e V ⟨m,y⟩;cases j:dY l.length l 0 with
 |some k=>
  rw[j] at y;obtain rfl:e=cT 2 (bE (l.take k)):=y;have A:Hid (pY l=.error (2,bE (l.take k))):=by show _=_;unfold pY;rw[if_neg z,j]
  have d:=aB (f.trans (m.mono f.size));clear m M j;go_wp2_with fail;exact⟨rfl,d,by rw[A.out];rfl⟩
 |none=>
  rw[j] at y;obtain rfl:e=aZ (.tuple #[]):=y;have s:=aB (U2 b V (N.below m).n (N.below m).p B);rw[<-Z.out] at s;have d:=aB m
  have L:pY l=match iC l with
   |.error n=>.error (3,n)
   |.ok K=>.ok K:=by unfold pY;rw[if_neg z,j]
  have t:=aB L;clear m M j L;go_wp2_with fail;refine s.mono ?_;rintro e w2 ⟨q,u⟩;cases h:iC l with
  |error n=>
   rw[h] at u;obtain rfl:e=cT 3 n:=u;have A:Hid (pY l=.error (3,n)):=by show _=_;rw[t.out,h]
   have E:=aB (f.trans ((d.trans (q.mono d.size)).mono f.size));clear q s h t;go_wp2_with fail;exact⟨rfl,E,by rw[A.out];rfl⟩
  |ok K=>
   rw[h] at u;obtain⟨v,rfl,o⟩:=u
   obtain⟨x,c,rfl⟩:∃x c,v=.slice x K.length c:=by
    rcases o.2 with ⟨F,r2⟩|⟨g,H,I,F,_⟩
    ·exact⟨none,0,by rw[F,r2]⟩
    ·exact⟨_,_,F⟩
   have A:Hid (pY l=.ok K):=by show _=_;rw[t.out,h]
   have W:=d.size
   have a:w2.heap[w.heap.size]?=some (.cells #[bF,Iv0 0] 97 (0,0)):=by
    rw[q.block _ (by omega),d.out.block _ (by omega)];exact U
   have aa:=aC a;have m0:=aA a (i:=0) rfl;have m1:=aA a (i:=1) rfl;have fz:=aD a (i:=0);have ab:=aD a (i:=1);have E:=aB (f.trans ((d.trans (q.mono d.size)).mono f.size));have P:=aB o;clear o q s h t a;go_wp2
   refine bodyPost_ret (v:=.agg #[.slice x K.length c,Iv0 0]) (by simp[results,results44,go_sem,m0,m1]) rfl ?_
   refine⟨(E.setCell (by simp) _).setCell (by simp) _,?_⟩
   rw[A.out];refine⟨_,rfl,?_⟩;have S:=P;rcases S.2 with hn|⟨g,H,I,F,r2,r3,r4⟩
   ·exact⟨S.1,cl_ hn⟩
   ·refine⟨S.1,ck_ ⟨g,H,I,F,by omega,?_,r4⟩⟩
    rw[cm_ _ _ _ _ (by show g≠w.heap.size;omega),cm_ _ _ _ _ (by show g≠w.heap.size;omega)]
    exact r3
def KM(A:ByteArray)(w:aG)(hT:gS w)(hs:A.size<=maxLen):
 Calls prog 23 #[.string A] w (yH A.data.toList w):=by
 have F:=aB (wM A w hT hs);obtain⟨l,hl⟩:∃l,l=A.data.toList:=⟨_,rfl⟩;rw[<-hl] at F ⊢
 clear hl hT;go_in
 go_wp2_with fail;refine F.mono ?_;rintro e E ⟨J,N⟩
 cases i:pY l with
  |error f=>
   rw[i] at N;obtain rfl:e=cT f.1 f.2:=N;have Q:Hid (cI l=f):=by show _=_;unfold cI;rw[EP,i]
   have HK:=aB (KB i);have y:=aB J;clear J F i;go_wp2_with fail;exact⟨rfl,y,by rw[Q.out];exact ck_ ⟨HK,rfl⟩⟩
  |ok H=>
   rw[i] at N;obtain⟨v,rfl,O⟩:=N;have U:=(CB i).1;have ap:=(CB i).2;have h:=mT U
   have ac:cW l=match nA H with
    |.error n=>.error (4,n)
    |.ok (d,_)=>.ok d:=by rw[EP,i]
   have I:=aB ac;obtain⟨g,o,ai,rfl,hg,Y,D,P⟩:=U6 O h.1.some_;have aj:=aC D
   have af:PAt ⟨E.heap.size,g,o,H⟩ (E.alloc (.cells #[.slice (some (aH g 0)) H.length o,Iv0 0] 97)) 0:=
    ⟨aO _ _ rfl _,⟨ai,eA _ _ aj _ D,P⟩,by show g≠E.heap.size;omega,h.1.some_,by show H.length<=3000;omega,Y,h.1,zI U⟩
   have HP:=aB (QG ⟨E.heap.size,g,o,H⟩ (E.alloc (.cells #[.slice (some (aH g 0)) H.length o,Iv0 0] 97)) af (bY.prog h.1.ok h.1.some_));have y:=aB J;clear O J F i U ac af D P h;go_wp2_with fail;refine HP.mono ?_;rintro e w3 ⟨m,L⟩;have S:Below E.heap.size E w3:=⟨m.os.trans rfl,m.tape.trans rfl,m.output.trans rfl,cw_ (by simp) m.size,fun k hk=>by rw[m.block k (by simp;omega) (by show k≠E.heap.size;omega)];exact cq_ _ _ _ hk⟩
   have B:=aB (y.trans (S.mono y.size));cases r:nA H with
   |error n=>
    rw[r] at L;obtain rfl:e=cT 4 n:=L;have Q:Hid (cI l=(4,n)):=by show _=_;unfold cI;rw[I.out,r]
    clear m S HP r I;go_wp2_with fail;exact⟨rfl,B,by rw[Q.out];exact ck_ ⟨by simp,rfl⟩⟩
   |ok kq=>
    obtain⟨d,q⟩:=kq;rw[r] at L;obtain⟨_,v3,rfl,ae⟩:=L;have K:cW l=.ok d:=by rw[I.out,r]
    have a:=lS K;have Q:Hid (cI l=lL 2001 d):=by show _=_;unfold cI;rw[K]
    have aq:=FineL.len a;have T:∀f∈d,f.kids.length<=90000:=fun f hf=>by have:=(FineA.kids (FineL.mem a hf) 0).1;omega
    have ad:∀f∈d,∀k∈f.kids,fF 2001 k:=fun f hf k hk=>mV 2001 k (FineA.kid (FineL.mem a hf) hk)
    have aa:∀f∈d,f.kids.length+(f.kids.map (cC 2001)).sum<=90000:=fun f hf=>by have:=FineA.kids (FineL.mem a hf) 2001;omega
    have u:FSl (Btw (E.alloc (.cells #[.slice (some (aH g 0)) H.length o,Iv0 0] 97)).heap.size w3.heap.size) w3 v3 d:=ae
    obtain⟨fx,fc,rfl⟩:∃x c,v3=.slice x d.length c:=by
     rcases u.cells with ⟨h1,h2⟩|⟨g,o,h1,_⟩
     ·exact⟨none,0,by rw[h1,h2];rfl⟩
     ·exact⟨_,_,h1⟩
    have X:=aB u.kids;have HM:=aB (XX d _ _ w3 (by omega) T u)
    have W:=aB u;have ab:=aB T;have ah:=aB ad;have Z:=aB aa;have ak:=aB K;clear m S HP r I ae K a T ad aa u;go_wp2_with fail;refine HM.mono ?_;rintro e w4 ⟨j,⟨z,rfl⟩|⟨z,rfl⟩⟩
    rotate_left
    ·have s:=aB (B.trans (j.mono B.size));have M:Hid (cI l=(5,0)):=by show _=_;rw[Q.out,WD 2001 z X.out]
     clear j z HM;go_wp2_with fail;exact⟨rfl,s,by rw[M.out];exact ck_ ⟨by decide,rfl⟩⟩
    have s:=aB (B.trans (j.mono B.size));have M:Hid (cI l=((fM d 2001 [] d ⟨[],0,0⟩).kind,(fM d 2001 [] d ⟨[],0,0⟩).line)):=by show _=_;rw[Q.out,Y1 2001 z]
    have HN:=aB (TH (E.alloc (.cells #[.slice (some (aH g 0)) H.length o,Iv0 0] 97)).heap.size d (.slice fx d.length fc) w4 2001 (by omega) ab (W.grow (fun b p=>j.block b p.2) fun b p=>⟨p.1,cn_ p.2 j.size⟩) ah Z)
    have al:=aB (W.grow (G:=Btw w.heap.size w4.heap.size) (fun b p=>j.block b p.2) fun b p=>⟨by have h1:=p.1;have h2:=y.size;simp at h1;omega,cn_ p.2 j.size⟩)
    clear j z HM Q ab ah Z X W;generalize (fM d 2001 [] d ⟨[],0,0⟩).kind=kd at*;generalize (fM d 2001 [] d ⟨[],0,0⟩).line=ld at*;go_wp2_with fail;refine HN.mono ?_;rintro e w5 ⟨t,⟨C,ag,rfl⟩|⟨C,rfl⟩⟩
    ·have V:=aB (s.trans (t.mono s.size));have ao:Hid (cI l=(0,0)):=by show _=_;rw[M.out,C,ag]
     have am:=aB (al.grow (G:=Btw w.heap.size w5.heap.size) (fun b p=>t.block b p.2) fun b p=>⟨p.1,cn_ p.2 t.size⟩)
     clear t C ag HN;go_wp2
     go_ret;exact⟨V,cl_ ⟨ao,_,d,rfl,ak,am⟩⟩
    ·have V:=aB (s.trans (t.mono s.size));have an:=aB C;clear t C HN;go_wp2_with fail;exact⟨rfl,V,by rw[M.out];exact ck_ ⟨an,rfl⟩⟩
def XZ(a:ByteArray)(b:Nat)(w:aG)(h:gS w)(k:a.size<=maxLen)(n:w.cell? (aH b 0)=some (.string a))(_hbl:b<w.heap.size):
 Calls prog 27 #[bH b] w fun e j=>Below w.heap.size w j/\((cI a.data.toList=(0,0)/\e=aZ (.tuple #[]))\/((cI a.data.toList).1≠0/\e=cT (cI a.data.toList).1 (cI a.data.toList).2)):=by
 have i:=aB (KM a w h k);unfold yH at i;clear h;generalize cI a.data.toList=m at*;go_in
 go_wp2_with fail;refine i.mono ?_;rintro e l ⟨c,⟨d,v,_,rfl,_,_⟩|⟨d,rfl⟩⟩
 ·have g:=aB c;have f:=aB d;clear c d;go_wp2
  go_end0;exact⟨g,cl_ ⟨f,rfl⟩⟩
 ·have g:=aB c;have f:=aB d;clear c d;go_wp2_with fail;exact⟨rfl,g,ck_ ⟨f,rfl⟩⟩
end Go.Proofs.YtmjbnmpamlainaaGreatDoor
