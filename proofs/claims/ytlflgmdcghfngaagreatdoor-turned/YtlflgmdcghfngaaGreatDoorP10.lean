/- Contracts of the program: strings and marks. -/
import Derived.Test.YtlflgmdcghfngaaGreatDoorB06
import Derived.Test.YtlflgmdcghfngaaGreatDoorP09
set_option linter.defProp false
set_option maxRecDepth 100000
set_option maxHeartbeats 4000000
namespace Go.Proofs.YtlflgmdcghfngaaGreatDoor
open Hs
open _root_.Go.Proofs.Tryz
open Instr(typeAssert)
open Go.RowKit
variable{fs:List aE}{b i:Nat}{e:TypeId}{a:aE}{w w':aG}{v:aQ}{s:bD}{F:bY}{l:cC}
abbrev ZTok(w:aG)(b:Nat):Prop:=w.heap[b]?=some (.cells #[I_ 0,.string ⟨#[]⟩,I_ 0,I_ 0] 160 (0,0))
def J7(sb:Nat)(a:ByteArray)(n L:Nat)(w:aG)(h:SC sb a n L w)(hs:a.size<=2000000000)(hn:n<a.size):
 Calls prog 168 #[aZ sb] w (a1_ sb a n L w (oU (a.data.toList.drop (n+1)))):=by
 obtain⟨m,Y⟩:=E_ (n+1);rw[<-Y];obtain⟨f,y⟩:=E_ (bQ fP (a.data.toList.drop m))
 have ak:f<=a.size-m:=by
  have:=lG fP (a.data.toList.drop m);rw[y];simpa using this
 obtain⟨k,hk⟩:=E_ (m+f);have ad:=(SC.cells h).1;have z:w.heap.size≠sb:=o_
 have h1:SC sb a n L (w.alloc (.cells #[I_ 0,.string ⟨#[]⟩,I_ 0,I_ 0] 160)):=by unfold SC;rw[ek _ _ _ ad];exact h
 have HZ:Hid (ZTok (w.alloc (.cells #[I_ 0,.string ⟨#[]⟩,I_ 0,I_ 0] 160)) w.heap.size):=aN _ _ rfl _;have K:=aB (pT sb a n L 1 (w.alloc (.cells #[I_ 0,.string ⟨#[]⟩,I_ 0,I_ 0] 160)) h1 hs o_)
 rw[<-Y] at K;have E:=aB (λw=>wW fP 195 (λ_ _=>rfl) OU (a.extract m a.size) w (by rw[tV];omega))
 rw[oI,<-y] at E;obtain⟨B,s⟩:=E_ ((a.data.toList.drop m).take f);have af:(bs B).size=f:=by rw[gJ,s,g8];simp;omega
 obtain⟨ok,b⟩:=E_ ((decide ((a.data.toList.drop m)[f]?=some 34) && decide (f<=100)))
 have HW:Hid (oU (a.data.toList.drop m)={ sort:=115,x_:=B,size:=f+2,ok:=ok }):=by
  show _=_
  unfold oU;rw[<-y,<-s,<-b]
 rw[HW.out];have ab:=aB s;have g:=aB b;have P:Hid (Fr sb w (w.alloc (.cells #[I_ 0,.string ⟨#[]⟩,I_ 0,I_ 0] 160))):=(Fr.refl _ _).alloc _;have HM:=aB Y;have O:=aB hk;have ah:m<=a.size:=o_
 have ag:k<=a.size:=o_
 clear h h1 y s HW b Y hk;generalize c:({ sort:=115,x_:=B,size:=f+2,ok:=ok }:qX)=rr;have j:=aB c;clear c;go_in
 go_wp2_with fail;refine K.mono ?_;rintro e w1 ⟨rfl,J,M⟩;have T:=aB (M.keepS HZ z);have HZ1d:Hid (ZTok w1.drew w.heap.size):=T;have t:=aB (pT sb a m L f w1.drew J hs o_)
 rw[<-O.out] at t;rw[<-ab.out] at t;have N:=aB (P.trans M);obtain⟨h0,c0,X,V,Z,W⟩:=J.cells;clear J M K HZ P;go_wp2_with fail;go_cut [3] (λv wc=>v=.string (bs B)/\SC sb a (k) L wc/\Fr sb w wc/\ZTok wc w.heap.size)
 case first=>
  go_region_law (first|(go_simp;go_at_call 162;refine(E _).mono ?_;rintro e w2 ⟨rfl,I⟩;obtain rfl:=I.symm)|(go_simp;go_at_call 190;refine t.mono ?_;rintro e w2 ⟨rfl,o,p⟩;have u:=aB o;have r:=aB (N.drew.trans p);have x:=aB (p.keepS HZ1d z);clear o p))
  all_goals
   go_wp2_with fail;go_meet
   case rel=>exact⟨rfl,u,r,x⟩
 case rest=>
  obtain⟨rfl,o,p,Q⟩:=hcut;clear c0 X V Z W h0;obtain⟨h0,c0,X,V,Z,W⟩:=o.cells;have u:=aB o;have r:=aB p;have x:=aB Q;clear o p Q t E T HZ1d N;have H:=aB (λq=>tU sb a (k) L (wc.drewN q) u)
  by_cases A:f<=100
  rotate_left
  ·have e1:decide ((100:Int)<(f:Int))=true:=decide_eq_true o_
   have b:ok=false:=by rw[g.out,decide_eq_false A,Bool.and_false]
   subst b;have c:=j;clear j g;subst c;go_wp2_with fail;go_quiet (fail)
   go_wp2_with fail;refine(H _).mono ?_;rintro e w3 ⟨rfl,I⟩;obtain rfl:=I.symm;go_wp2_with fail;exact⟨rfl,r.drewN _,d6 ⟨rfl,rfl⟩⟩
  have e1:decide ((100:Int)<(f:Int))=false:=decide_eq_false o_
  by_cases ai:k=a.size
  ·have e2:((k:Int)==(a.size:Int))=true:=t_
   have b:ok=false:=by
    rw[g.out,gp (by have:=O.out;simp;omega)];simp
   subst b;have c:=j;clear j g;subst c;go_wp2_with fail;go_quiet (fail)
   go_wp2_with fail;refine(H _).mono ?_;rintro e w3 ⟨rfl,I⟩;obtain rfl:=I.symm;go_wp2_with fail;exact⟨rfl,r.drewN _,d6 ⟨rfl,rfl⟩⟩
  have aa:k<a.size:=o_
  have e2:((k:Int)==(a.size:Int))=false:=t_
  have hb:(a[k].toNat:Int)<=255:=pG _
  have l:(a.data.toList.drop m)[f]?=some a[k]:=by
   have e:=JW a m f (by rw[<-O.out];exact aa)
   rw[e];congr 1
   simp only[O.out]
  by_cases F:a[k].toNat=34
  ·have b:ok=true:=by
    rw[g.out,l,decide_eq_true A,Bool.and_true];exact decide_eq_true (congrArg some (jm.1 F))
   subst b;have c:=j;clear j g l;subst c;have S:((a[k].toNat:Int) != 34)=false:=t_
   have aj:w.heap.size<wc.heap.size:=aC x;have U:=aB (λq=>pT sb a (k) L 1 (wc.drewN q) u hs o_)
   clear F;go_wp2_with fail;go_quiet (fail)
   go_wp2_with fail;refine(U _).mono ?_;rintro e w3 ⟨rfl,D,G⟩;have d:=aB ((((Fr.refl sb wc).drewN _).trans G).keepS x z);have ae:=aB ((r.drewN _).trans G);have ac:=aB D;have z0:=aA d (i:=0) rfl;have z1:=aA d (i:=1) rfl;have z2:=aA d (i:=2) rfl;have z3:=aA d (i:=3) rfl;have y0:=aD (i:=0) d;have y1:=aD (i:=1) d;have y2:=aD (i:=2) d;have y3:=aD (i:=3) d;have al:=aC d;clear c0 X V Z W h0;obtain⟨h0,c0,X,V,Z,W⟩:=D.cells;clear D G U;go_wp2
   refine bodyPost_ret (v:=.agg #[I_ 3,.string (bs B),I_ 0,I_ L]) (by simp[results,results168,go_sem,z0,z1,z2,z3]) rfl ?_
   have C:=nJ ae ac cL z (I_ 3) (.string (bs B)) (I_ 0) (I_ L);exact⟨C.1,d7 ⟨rfl,rfl,by rw[show n+(f+2)=k+1 by have:=HM.out;have:=O.out;omega];exact C.2⟩⟩
  ·have b:ok=false:=by
    rw[g.out,l,decide_eq_false (λe=>F (by rw[Option.some.inj e];rfl))];rfl
   subst b;have c:=j;clear j g l;subst c;have S:((a[k].toNat:Int) != 34)=true:=t_
   go_wp2_with fail;go_quiet (fail)
   go_wp2_with fail;refine(H _).mono ?_;rintro e w3 ⟨rfl,I⟩;obtain rfl:=I.symm;go_wp2_with fail;exact⟨rfl,r.drewN _,d6 ⟨rfl,rfl⟩⟩
structure PTabs(w:aG):Prop where
 tab:∃t fr,w.heap[(3:Nat)]?=some (.cells #[.string ⟨#[61,61]⟩,.string ⟨#[33,61]⟩,.string ⟨#[60,61]⟩,.string ⟨#[38,38]⟩,.string ⟨#[124,124]⟩,.string ⟨#[40]⟩,.string ⟨#[41]⟩,.string ⟨#[123]⟩,.string ⟨#[125]⟩,.string ⟨#[91]⟩,.string ⟨#[93]⟩,.string ⟨#[44]⟩,.string ⟨#[59]⟩,.string ⟨#[61]⟩,.string ⟨#[60]⟩,.string ⟨#[43]⟩,.string ⟨#[45]⟩,.string ⟨#[42]⟩,.string ⟨#[47]⟩,.string ⟨#[37]⟩,.string ⟨#[33]⟩] t fr)
 big:9<=w.heap.size
def PTabs.fr{sb:Nat}(h:PTabs w)(a:Fr sb w w')(d:9<=sb):PTabs w':=by
 obtain⟨t,c,b⟩:=h.tab;have:=h.big;have:=a.size;exact⟨⟨t,c,by rw[a.block 3 o_ o_];exact b⟩,o_⟩
abbrev iC:Value:=.agg #[.string ⟨#[61,61]⟩,.string ⟨#[33,61]⟩,.string ⟨#[60,61]⟩,.string ⟨#[38,38]⟩,.string ⟨#[124,124]⟩,.string ⟨#[40]⟩,.string ⟨#[41]⟩,.string ⟨#[123]⟩,.string ⟨#[125]⟩,.string ⟨#[91]⟩,.string ⟨#[93]⟩,.string ⟨#[44]⟩,.string ⟨#[59]⟩,.string ⟨#[61]⟩,.string ⟨#[60]⟩,.string ⟨#[43]⟩,.string ⟨#[45]⟩,.string ⟨#[42]⟩,.string ⟨#[47]⟩,.string ⟨#[37]⟩,.string ⟨#[33]⟩]
def R9(w:aG):(Instr.index 320 iC (I_ 0)).run prog w=.ok (.string ⟨#[61,61]⟩) w:=k_
def R8(w:aG):(Instr.index 320 iC (I_ 1)).run prog w=.ok (.string ⟨#[33,61]⟩) w:=k_
def R7(w:aG):(Instr.index 320 iC (I_ 2)).run prog w=.ok (.string ⟨#[60,61]⟩) w:=k_
def R6(w:aG):(Instr.index 320 iC (I_ 3)).run prog w=.ok (.string ⟨#[38,38]⟩) w:=k_
def R5(w:aG):(Instr.index 320 iC (I_ 4)).run prog w=.ok (.string ⟨#[124,124]⟩) w:=k_
def R3(w:aG):(Instr.index 320 iC (I_ 5)).run prog w=.ok (.string ⟨#[40]⟩) w:=k_
def Q9(w:aG):(Instr.index 320 iC (I_ 6)).run prog w=.ok (.string ⟨#[41]⟩) w:=k_
def Q8(w:aG):(Instr.index 320 iC (I_ 7)).run prog w=.ok (.string ⟨#[123]⟩) w:=k_
def Q7(w:aG):(Instr.index 320 iC (I_ 8)).run prog w=.ok (.string ⟨#[125]⟩) w:=k_
def Q0(w:aG):(Instr.index 320 iC (I_ 9)).run prog w=.ok (.string ⟨#[91]⟩) w:=k_
def YU(w:aG):(Instr.index 320 iC (I_ 10)).run prog w=.ok (.string ⟨#[93]⟩) w:=k_
def YT(w:aG):(Instr.index 320 iC (I_ 11)).run prog w=.ok (.string ⟨#[44]⟩) w:=k_
def YS(w:aG):(Instr.index 320 iC (I_ 12)).run prog w=.ok (.string ⟨#[59]⟩) w:=k_
def YR(w:aG):(Instr.index 320 iC (I_ 13)).run prog w=.ok (.string ⟨#[61]⟩) w:=k_
def YQ(w:aG):(Instr.index 320 iC (I_ 14)).run prog w=.ok (.string ⟨#[60]⟩) w:=k_
def YP(w:aG):(Instr.index 320 iC (I_ 15)).run prog w=.ok (.string ⟨#[43]⟩) w:=k_
def YO(w:aG):(Instr.index 320 iC (I_ 16)).run prog w=.ok (.string ⟨#[45]⟩) w:=k_
def YN(w:aG):(Instr.index 320 iC (I_ 17)).run prog w=.ok (.string ⟨#[42]⟩) w:=k_
def YM(w:aG):(Instr.index 320 iC (I_ 18)).run prog w=.ok (.string ⟨#[47]⟩) w:=k_
def YL(w:aG):(Instr.index 320 iC (I_ 19)).run prog w=.ok (.string ⟨#[37]⟩) w:=k_
def YK(w:aG):(Instr.index 320 iC (I_ 20)).run prog w=.ok (.string ⟨#[33]⟩) w:=k_
def ar_(k:Nat)(a:k<21)(w:aG):(Instr.index 320 iC (I_ k)).run prog w=.ok (.string (bs (cX[k]'(by simpa [cX] using a)))) w:=by
 match k,a with
 |0,_=>exact R9 w
 |1,_=>exact R8 w
 |2,_=>exact R7 w
 |3,_=>exact R6 w
 |4,_=>exact R5 w
 |5,_=>exact R3 w
 |6,_=>exact Q9 w
 |7,_=>exact Q8 w
 |8,_=>exact Q7 w
 |9,_=>exact Q0 w
 |10,_=>exact YU w
 |11,_=>exact YT w
 |12,_=>exact YS w
 |13,_=>exact YR w
 |14,_=>exact YQ w
 |15,_=>exact YP w
 |16,_=>exact YO w
 |17,_=>exact YN w
 |18,_=>exact YM w
 |19,_=>exact YL w
 |20,_=>exact YK w
 |k+21,h=>exact absurd h o_
def K5(sb:Nat)(a:ByteArray)(n L:Nat)(w:aG)(h:SC sb a n L w)(O:PTabs w)(hs:a.size<=2000000000)(hn:n<a.size)(r:qX)(hr:Hid (iE (a.data.toList.drop n)=r)):
 Calls prog 169 #[aZ sb] w (a1_ sb a n L w r):=by
 have S:=(SC.cells h).1;have K:w.heap.size≠sb:=o_
 have aa:=O.big;have ah:n<=a.size:=o_
 have B:SC sb a n L (w.alloc (.cells #[I_ 0,.string ⟨#[]⟩,I_ 0,I_ 0] 160)):=by unfold SC;rw[ek _ _ _ S];exact h
 have X:Hid (ZTok (w.alloc (.cells #[I_ 0,.string ⟨#[]⟩,I_ 0,I_ 0] 160)) w.heap.size):=aN _ _ rfl _;have H:Hid (Fr sb w (w.alloc (.cells #[I_ 0,.string ⟨#[]⟩,I_ 0,I_ 0] 160))):=(Fr.refl _ _).alloc _;obtain⟨tt,fr,l⟩:=O.tab;have d:(w.alloc (.cells #[I_ 0,.string ⟨#[]⟩,I_ 0,I_ 0] 160)).heap[(3:Nat)]?=_:=eB w 3 o_ _ l
 have p:(prog.info? 320).map (·.size)=some (#[.string ⟨#[61,61]⟩,.string ⟨#[33,61]⟩,.string ⟨#[60,61]⟩,.string ⟨#[38,38]⟩,.string ⟨#[124,124]⟩,.string ⟨#[40]⟩,.string ⟨#[41]⟩,.string ⟨#[123]⟩,.string ⟨#[125]⟩,.string ⟨#[91]⟩,.string ⟨#[93]⟩,.string ⟨#[44]⟩,.string ⟨#[59]⟩,.string ⟨#[61]⟩,.string ⟨#[60]⟩,.string ⟨#[43]⟩,.string ⟨#[45]⟩,.string ⟨#[42]⟩,.string ⟨#[47]⟩,.string ⟨#[37]⟩,.string ⟨#[33]⟩]:Array Value).size:=k_
 have y:∀(k:Nat) (Y:k<21) (w:aG),(Instr.index 320 (.agg #[.string ⟨#[61,61]⟩,.string ⟨#[33,61]⟩,.string ⟨#[60,61]⟩,.string ⟨#[38,38]⟩,.string ⟨#[124,124]⟩,.string ⟨#[40]⟩,.string ⟨#[41]⟩,.string ⟨#[123]⟩,.string ⟨#[125]⟩,.string ⟨#[91]⟩,.string ⟨#[93]⟩,.string ⟨#[44]⟩,.string ⟨#[59]⟩,.string ⟨#[61]⟩,.string ⟨#[60]⟩,.string ⟨#[43]⟩,.string ⟨#[45]⟩,.string ⟨#[42]⟩,.string ⟨#[47]⟩,.string ⟨#[37]⟩,.string ⟨#[33]⟩]) (I_ k)).run prog w=.ok (.string (bs (cX[k]'(by simpa [cX] using Y)))) w:=ar_
 generalize (#[.string ⟨#[61,61]⟩,.string ⟨#[33,61]⟩,.string ⟨#[60,61]⟩,.string ⟨#[38,38]⟩,.string ⟨#[124,124]⟩,.string ⟨#[40]⟩,.string ⟨#[41]⟩,.string ⟨#[123]⟩,.string ⟨#[125]⟩,.string ⟨#[91]⟩,.string ⟨#[93]⟩,.string ⟨#[44]⟩,.string ⟨#[59]⟩,.string ⟨#[61]⟩,.string ⟨#[60]⟩,.string ⟨#[43]⟩,.string ⟨#[45]⟩,.string ⟨#[42]⟩,.string ⟨#[47]⟩,.string ⟨#[37]⟩,.string ⟨#[33]⟩]:Array Value)=Z at d p y;have HIXX:=aB y;have HTAB:=aB d;have U:=aB p;clear l d p y;have W:=aB B;clear h B O;go_in
 go_wp2_with (refine wpList_load_row rfl 320 (.global 3) rfl 3 r_ tt Z fr (.array 21 9) HTAB underlying320 rfl U ?_)
 go_loopg [4,6] 21 (λgk _ i wr=>∃k:Nat,k+gk=21/\i=I_ k/\Hid (zB (a.data.toList.drop n) k)/\SC sb a n L wr/\Fr sb w wr/\ZTok wr w.heap.size)
 case atStart=>exact⟨0,o_,rfl,λo ho=>(by simp at ho),W,H,X⟩
 case round=>
  obtain⟨k,Y,rfl,A,s,J,I⟩:=hrel;obtain⟨h0,c0,c1,c2,f1,f2⟩:=s.cells;have z:=aB s;have t:=aB J;have u:=aB I;clear s J I X H W;by_cases f:k<21
  ·obtain⟨j,rfl⟩:∃j,gk=j+1:=⟨gk-1,o_⟩
   obtain⟨q,N⟩:=E_ (cX[k]'(by simpa [cX] using f))
   have ab:∀w,(Instr.index 320 (.agg Z) (I_ k)).run prog w=.ok (.string (bs q)) w:=λw=>by rw[N];exact HIXX k f w
   have ag:q.length<=2:=by rw[N];exact OK k f
   have af:(bs q).size=q.length:=gJ q;have M:Hid (q=cX[k]'(by simpa [cX] using f)):=N
   clear N;have g:=aB (λw=>FI (a.extract n a.size) (bs q) w (by rw[tV];omega) (by rw[gJ];omega))
   rw[oI,gR] at g;cases b:cY (a.data.toList.drop n) q
   ·rw[b] at g;have F:Hid (zB (a.data.toList.drop n) (k+1)):=SS f A.out (by rw[<-M.out];exact b)
    clear A M b;go_wp2_with fail;go_quiet ((go_at_call 161;exact Calls.quiet_of_same (g _)))
    go_wp2
    go_roundg j
    case measure=>omega
    case rel=>exact⟨k+1,o_,by go_num,F,z,t.drewN _,u⟩
   ·rw[b] at g;have F:Hid (r={ sort:=112,x_:=q,size:=q.length,ok:=true }):=by rw[<-hr.out];exact XU f A.out q M b
    have Q:n+q.length<=a.size:=by
     have:=lQ b;simp at this;omega
    have HTXT:Hid ((a.data.toList.drop n).take q.length=q):=by
     show _=_
     have B:=b;unfold cY at B;rw[nE _ _ (lQ b)] at B;simpa using B
    have C:=aB (λE=>pT sb a n L q.length (wr.drewN E) z hs Q)
    rw[HTXT.out] at C;have T:Hid (∀E,ZTok (wr.drewN E) w.heap.size):=λ_=>u
    have ad:Hid (∀E,w.heap.size<(wr.drewN E).heap.size):=λ_=>aC u
    clear A M b;go_wp2_with fail;go_quiet ((go_at_call 161;exact Calls.quiet_of_same (g _)))
    go_wp2_with fail;go_region_law (go_simp;go_at_call 190;refine(C _).mono ?_;rintro e w2 ⟨rfl,D,x⟩;have G:=aB D;have V:=aB ((t.drewN _).trans x);have c:=aB (x.keepS (T _) K);have ac:=(SC.cells G).2.2.2.1;have z0:=aA c (i:=0) rfl;have z1:=aA c (i:=1) rfl;have z2:=aA c (i:=2) rfl;have z3:=aA c (i:=3) rfl;have y0:=aD (i:=0) c;have y1:=aD (i:=1) c;have y2:=aD (i:=2) c;have y3:=aD (i:=3) c;have ae:=aC c;clear D x)
    all_goals
     go_wp2_with fail;rw[F.out];refine bodyPost_ret (v:=.agg #[I_ 0,.string (bs q),I_ 0,I_ L]) (by simp[results,results169,go_sem,z0,z1,z2,z3]) rfl ?_
     have m:=nJ V G cL K (I_ 0) (.string (bs q)) (I_ 0) (I_ L);exact⟨m.1,d7 ⟨rfl,rfl,m.2⟩⟩
  ·obtain rfl:k=21:=o_
   have F:Hid (r={ sort:=0,x_:=[],size:=0,ok:=false }):=by rw[<-hr.out];exact SM A.out
   have P:=aB (tU sb a n L wr z);clear A;go_wp2_with fail;refine P.mono ?_;rintro e w3 ⟨rfl,hw⟩;obtain rfl:=hw.symm;go_wp2_with fail;rw[F.out];exact⟨rfl,t,d6 ⟨rfl,rfl⟩⟩
def F3(cb l lo:Nat)(fs:List aE)(a:aQ)(r:fs.length<=90000)(u:∀f∈fs,f.y_.length<=90000)(d:Nat)(A:nS cb l lo fs a d)(c:aE)(v:aQ)(e_:cN)(w:aG)(h:CK cb l lo fs a w e_)(g:PKid (Btw lo l) w v c.y_)(y:∀k∈c.y_,fG d k)(q:e_.length+(c.y_.map (cF d)).sum<=90000):
 Calls prog 83 #[aZ cb,.iface 214 (.agg #[I_ c.l_,.string (bs c.x_),v])] w (dI cb l lo fs a w (jG fs (gA a) d c.y_ (eP fs (gA a) ⟨e_,0,0⟩ c))):=by
 obtain⟨o,x,rfl⟩:=g.slice;have D:=BW;have F:=EG;have J:=WM;have G:=IY;have I:=EF;have H:=IZ;have E:=NH;obtain⟨b,i⟩:=Loc.new h (.cells #[I_ c.l_,.string (bs c.x_),.slice o c.y_.length x] 214);have j:=aB b;have B:=aB (B4 cb l lo fs a r u d A c (.slice o c.y_.length x) e_ (w.alloc (.cells #[I_ c.l_,.string (bs c.x_),.slice o c.y_.length x] 214)) i (g.below b.fb.bel) y q (by have:=xH y;omega))
 clear h b i;generalize jG fs (gA a) d c.y_ (eP fs (gA a) ⟨e_,0,0⟩ c)=c at*;go_in
 go_wp2_with fail;refine B.mono ?_;rintro e C ⟨n,⟨s,z,rfl,m⟩|⟨g,rfl⟩⟩
 ·have p:=aB (j.fb.trans n);have t:=aB m;subst z;clear n m;go_wp2
  go_end0;exact dI.done p rfl t
 ·have p:=aB (j.fb.trans n);have t:=aB g;clear n g;go_wp2_with fail;exact⟨rfl,dI.fault (c1:=c) p t (Stk.refl _)⟩
def YD(cb k lo:Nat)(fs:List aE)(b:aQ)(d:Nat)(z:kO cb k lo fs b d)(e_:cN)(w:aG)(h:CK cb k lo fs b w e_)(l:Nat)(t a:aE)(v1:aQ)(x:PN (Btw lo k) w v1 a)(q:fG d a)(r:e_.length+cF d a<=90000):
 Calls prog 83 #[aZ cb,.iface 200 (.agg #[I_ l,I_ t.l_,.string (bs t.x_),v1])] w (dI cb k lo fs b w (({ aP fs (gA b) d a (Hs.declaresL ⟨e_,0,0⟩ t) with e_:=(aP fs (gA b) d a (Hs.declaresL ⟨e_,0,0⟩ t)).e_++[t.x_] }:bD))):=by
 obtain⟨o,g,rfl⟩:=x.form;have C:=vM;obtain⟨f,i⟩:=Loc.new h (.cells #[I_ l,I_ t.l_,.string (bs t.x_),.iface o (.agg g)] 200);have j:=aB f;have A:=aB (UZ cb k lo fs b d z (w.alloc (.cells #[I_ l,I_ t.l_,.string (bs t.x_),.iface o (.agg g)] 200)) e_ i l t a (.iface o (.agg g)) (x.below f.fb.bel) q r);clear h f i;generalize ({ aP fs (gA b) d a (Hs.declaresL ⟨e_,0,0⟩ t) with e_:=(aP fs (gA b) d a (Hs.declaresL ⟨e_,0,0⟩ t)).e_++[t.x_] }:bD)=c at*
 go_in
 go_wp2_with fail;refine A.mono ?_;rintro e B ⟨n,⟨s,y,rfl,m⟩|⟨v,rfl⟩⟩
 ·have p:=aB (j.fb.trans n);have u:=aB m;subst y;clear n m;go_wp2
  go_end0;exact dI.done p rfl u
 ·have p:=aB (j.fb.trans n);have u:=aB v;clear n v;go_wp2_with fail;exact⟨rfl,dI.fault (c1:=c) p u (Stk.refl _)⟩
def YC(cb j lo:Nat)(fs:List aE)(n:aQ)(e_:cN)(w:aG)(h:CK cb j lo fs n w e_)(l m:Nat):
 Calls prog 83 #[aZ cb,.iface 211 (.agg #[I_ l,.iface 267 (.agg #[I_ m,I_ 0])])] w (dI cb j lo fs n w ((⟨e_,0,0⟩:bD))):=by
 have t:=oT;have u:=pV;have y:=wQ;have v:=rD;have x:=pU;obtain⟨a,b⟩:=Loc.new h (.cells #[I_ l,.iface 267 (.agg #[I_ m,I_ 0])] 211);have d:=aB a;have q:=aB (LT cb j lo fs n e_ (w.alloc (.cells #[I_ l,.iface 267 (.agg #[I_ m,I_ 0])] 211)) b m 0);clear h a b;generalize (⟨e_,0,0⟩:bD)=c at*;go_in
 go_wp2_with fail;refine q.mono ?_;rintro e r ⟨g,⟨s,p,rfl,f⟩|⟨o,rfl⟩⟩
 ·have i:=aB (d.fb.trans g);have k:=aB f;subst p;clear g f;go_wp2
  go_end0;exact dI.done i rfl k
 ·have i:=aB (d.fb.trans g);have k:=aB o;clear g o;go_wp2_with fail;exact⟨rfl,dI.fault (c1:=c) i k (Stk.refl _)⟩
def eI{b:Bool}{d:Nat}(c:(a.op==[118,97,114])=false)(e:(a.op==[98,108,111,99,107])=false):aP fs b (d+1) a s=jG fs b d a.y_ (cM fs b s a):=by
 rw[aP,if_neg (by rw[c];simp)]
 simp only[e];rfl
def look_plain{c:Bool}(d:(a.op==[115,101,116])=false)(b:(a.op==[110,97,109,101])=false)(e:(a.op==[99,97,108,108])=false):cM fs c s a=s:=by
 unfold cM;rw[d,b,e];rfl
def SZ{b:Bool}(h:(a.op==[115,101,116] || a.op==[110,97,109,101])=true):cM fs b s a=DL s a.l_ a.x_:=by
 unfold cM;rw[h];rfl
def LV{b:Bool}(h:a.op=[99,97,108,108]):cM fs b s a=eP fs b s a:=by
 unfold cM;rw[h];rfl
def SN{x y:cC}(h:cK x≠9)(a:cK y=9):(x==y)=false:=by
 rw[beq_eq_false_iff_ne];intro e;rw[e] at h;exact h a
def O4(cb q lo:Nat)(fs:List aE)(p:aQ)(F:fs.length<=90000)(H:∀f∈fs,f.y_.length<=90000)(d:Nat)(IHs:∀e,e<=d->kO cb q lo fs p e):kO cb q lo fs p (d+1):=by
 intro v a e_ w h P D j;obtain⟨T,X,W,rfl,M,m⟩:=P.parts;have x:=IHs d cL;have J:=tW cb q lo fs p d x
 have B:uI cb q lo fs p d:=by
  cases d with
  |zero=>exact λ_ _ _ _ _ _ _ Q _=>Q.elim
  |succ e=>exact VN (tW cb q lo fs p e (IHs e o_))
 rw[cF] at j;have i:∀k∈a.y_,fG d k:=D;clear P D;rcases M with ⟨rfl,k,rfl,b,N,g,rfl⟩|⟨rfl,rfl,b,g,rfl⟩|⟨rfl,rfl,b,g,rfl⟩|⟨rfl,z,rfl,b,rfl⟩|⟨rfl,z,rfl,b,rfl⟩|⟨rfl,rfl,b,g,rfl⟩|⟨rfl,l,r,G,n,C,rfl,b,g,rfl⟩|⟨rfl,o,r,n,rfl,V,b,g,rfl⟩|⟨rfl,l,r,G,n,C,rfl,b,g,rfl⟩|⟨rfl,r,t,n,rfl,b,g,rfl⟩|⟨rfl,z,r,l,n,rfl,b,g,rfl⟩|⟨rfl,r,A,n,s,rfl,b,y,g,rfl⟩|⟨rfl,r,A,O,n,s,K,rfl,b,y,L,g,rfl⟩|⟨rfl,r,A,n,s,rfl,b,y,g,rfl⟩|⟨rfl,l,rfl,b,g,rfl⟩|⟨rfl,r,n,rfl,b,g,rfl⟩|⟨rfl,r,n,rfl,b,g,rfl⟩|⟨rfl,z,c,rfl,b,U,S,g,u,rfl⟩
 ·have e:aP fs (gA p) (d+1) a ⟨e_,0,0⟩=⟨e_,0,0⟩:=by rw[eI (by rw[b];decide) (by rw[b];decide),look_plain (by rw[b];decide) (by rw[b];decide) (by rw[b];decide),g];rfl
  rw[e];exact LT cb q lo fs p e_ w h _ k
 ·have e:aP fs (gA p) (d+1) a ⟨e_,0,0⟩=⟨e_,0,0⟩:=by rw[eI (by rw[b];decide) (by rw[b];decide),look_plain (by rw[b];decide) (by rw[b];decide) (by rw[b];decide),g];rfl
  rw[e];exact O9 cb q lo fs p e_ w h _ _
 ·have e:aP fs (gA p) (d+1) a ⟨e_,0,0⟩=⟨e_,0,0⟩:=by rw[eI (by rw[b];decide) (by rw[b];decide),look_plain (by rw[b];decide) (by rw[b];decide) (by rw[b];decide),g];rfl
  rw[e];exact bF_ cb q lo fs p e_ w h _ _
 ·rw[eI (by rw[b];decide) (by rw[b];decide),look_plain (by rw[b];decide) (by rw[b];decide) (by rw[b];decide)]
  exact bE_ cb q lo fs p d J e_ w h _ z a.y_ (m _ (ew.2 rfl)).many i o_
 ·rw[eI (by rw[b];decide) (by rw[b];decide),LV b]
  exact F3 cb q lo fs p F H d J a z e_ w h (m _ (ew.2 rfl)).many i o_
 ·have e:aP fs (gA p) (d+1) a ⟨e_,0,0⟩=DL ⟨e_,0,0⟩ a.l_ a.x_:=by rw[eI (by rw[b];decide) (by rw[b];decide),SZ (by rw[b];decide),g];rfl
  rw[e];exact SW cb q lo fs p e_ w h _ _ o_
 ·rw[eI (by rw[b];decide) (by rw[b];decide),look_plain (by rw[b];decide) (by rw[b];decide) (by rw[b];decide),g]
  rw[g] at j i;simp only[fg,gd,fm,gh] at j;exact am_ cb q lo fs p d x e_ w h l r n (m _ s_).one' (i n s_) G C (m ⟨G,[C],true⟩ s_).one' (i C s_) o_
 ·have I:a.op=[45,120]\/a.op=[33,120]:=by rcases V with rfl|rfl<;>simp[b]
  have e:aP fs (gA p) (d+1) a ⟨e_,0,0⟩=aP fs (gA p) d n ⟨e_,0,0⟩:=by
   rcases I with b|b<;>(rw[eI (by rw[b];decide) (by rw[b];decide),look_plain (by rw[b];decide) (by rw[b];decide) (by rw[b];decide),g];rfl)
  rw[e];rw[g] at j i;simp only[fg,gd,fm,gh] at j;exact ak_ cb q lo fs p d x e_ w h _ _ r n (m _ s_).one' (i n s_) o_
 ·rw[eI (SN b d_) (SN b d_),look_plain (SN b d_) (SN b d_) (SN b d_),g]
  rw[g] at j i;simp only[fg,gd,fm,gh] at j;exact P2 cb q lo fs p d x e_ w h l _ r n (m _ s_).one' (i n s_) G C (m ⟨G,[C],true⟩ s_).one' (i C s_) o_
 ·have e:aP fs (gA p) (d+1) a ⟨e_,0,0⟩={ aP fs (gA p) d n (Hs.declaresL ⟨e_,0,0⟩ t) with e_:=(aP fs (gA p) d n (Hs.declaresL ⟨e_,0,0⟩ t)).e_++[t.x_] }:=by
   rw[aP,if_pos (by rw[b];rfl),g]
  rw[e];rw[g] at j i;simp only[fg,gd,fm,gh] at j;exact YD cb q lo fs p d x e_ w h _ t n r (m _ s_).one' (i n s_) o_
 ·rw[eI (by rw[b];decide) (by rw[b];decide),SZ (by rw[b];decide),g]
  rw[g] at j i;simp only[gi,fg,gd,io,fm,gh] at j
  have e:jG fs (gA p) d (l++[n]) (DL ⟨e_,0,0⟩ a.l_ a.x_)=aP fs (gA p) d n (jG fs (gA p) d l (DL ⟨e_,0,0⟩ a.l_ a.x_)):=by
   show List.foldl _ _ (l++[n])=_
   rw[List.foldl_append];rfl
  rw[e];exact P3 cb q lo fs p d x J e_ w h _ _ z l (m ⟨z,l,false⟩ s_).many (λk N=>i k (fk _ N)) r n (m ⟨r,[n],true⟩ s_).one' (i n s_) o_
 ·rw[eI (by rw[b];decide) (by rw[b];decide),look_plain (by rw[b];decide) (by rw[b];decide) (by rw[b];decide),g]
  rw[g] at j i;simp only[fg,gd,fm,gh] at j;exact cN_ cb q lo fs p d x J B e_ w h _ r n (m ⟨r,[n],true⟩ s_).one' (i n s_) A s y (m ⟨A,s.y_,false⟩ s_).many (i s s_) o_
 ·rw[eI (by rw[b];decide) (by rw[b];decide),look_plain (by rw[b];decide) (by rw[b];decide) (by rw[b];decide),g]
  rw[g] at j i;simp only[fg,gd,fm,gh] at j;exact da_ cb q lo fs p d x B e_ w h _ r n (m ⟨r,[n],true⟩ s_).one' (i n s_) A s y (m ⟨A,s.y_,false⟩ s_).many (i s s_) O K L (m ⟨O,K.y_,false⟩ s_).many (i K s_) o_
 ·rw[eI (by rw[b];decide) (by rw[b];decide),look_plain (by rw[b];decide) (by rw[b];decide) (by rw[b];decide),g]
  rw[g] at j i;simp only[fg,gd,fm,gh] at j;exact aj_ cb q lo fs p d x B e_ w h _ r n (m ⟨r,[n],true⟩ s_).one' (i n s_) A s y (m ⟨A,s.y_,false⟩ s_).many (i s s_) o_
 ·have e:aP fs (gA p) (d+1) a ⟨e_,0,0⟩=⟨e_,0,0⟩:=by rw[eI (by rw[b];decide) (by rw[b];decide),look_plain (by rw[b];decide) (by rw[b];decide) (by rw[b];decide),g];rfl
  rw[e];exact YC cb q lo fs p e_ w h _ l
 ·rw[eI (by rw[b];decide) (by rw[b];decide),look_plain (by rw[b];decide) (by rw[b];decide) (by rw[b];decide),g]
  rw[g] at j i;simp only[fg,gd,fm,gh] at j;exact P0 cb q lo fs p d x e_ w h _ r n (m _ s_).one' (i n s_) o_
 ·rw[eI (by rw[b];decide) (by rw[b];decide),look_plain (by rw[b];decide) (by rw[b];decide) (by rw[b];decide),g]
  rw[g] at j i;simp only[fg,gd,fm,gh] at j;exact al_ cb q lo fs p d x e_ w h _ r n (m _ s_).one' (i n s_) o_
 ·rw[eI (by rw[b];decide) (by rw[b];decide),look_plain (by rw[b];decide) (by rw[b];decide) (by rw[b];decide),g]
  rw[g] at j i;simp only[fg,gd,fm,gh] at j;have E:=i c s_
  cases d with
  |zero=>exact E.elim
  |succ e=>
   show Calls _ _ _ _ (dI cb q lo fs p w (aP fs (gA p) (e+1) c ⟨e_,0,0⟩))
   rw[cF] at j;rw[eI (by rw[u];decide) (by rw[u];decide),LV u]
   exact F3 cb q lo fs p F H e (tW cb q lo fs p e (IHs e o_)) c z e_ w h (m ⟨z,c.y_,false⟩ s_).many E o_
def ST(cb c lo:Nat)(fs:List aE)(g:aQ)(b:fs.length<=90000)(a:∀f∈fs,f.y_.length<=90000)(d:Nat):kO cb c lo fs g d:=by
 induction d using Nat.strongRecOn with
 |_ d i=>
  cases d with
  |zero=>exact λ_ _ _ _ _ _ h _=>h.elim
  |succ d=>exact O4 cb c lo fs g b a d λe j=>i e o_
def cy_{ps:List aE}(k:Nat)(b:k<ps.length):(Z6 ps)[k*2]?=some (I_ ps[k].l_)/\(Z6 ps)[k*2+1]?=some (.string (bs ps[k].x_)):=by
 induction ps generalizing k with
 |nil=>simp at b
 |cons a ps c=>
  cases k with
  |zero=>exact⟨rfl,rfl⟩
  |succ k=>
   have:=c k (by simpa using b)
   have e:∀j,(Z6 (a::ps))[(k+1)*2+j]?=(Z6 ps)[k*2+j]?:=λj=>by
    rw[Z6,show (k+1)*2+j=k*2+j+1+1 by omega];rfl
   exact⟨(e 0).trans this.1,(e 1).trans this.2⟩
def PNm.get{ps:List aE}(h:PNm F w v ps):(v=bG/\ps=[])\/∃g a,v=.slice (some (aH g 0)) ps.length a/\F g/\g<w.heap.size/\ps.length<=a/\∀k (b:k<ps.length),w.cell? (aH g (k*2))=some (I_ ps[k].l_)/\w.cell? (aH g (k*2+1))=some (.string (bs ps[k].x_)):=by
 obtain⟨_,h|⟨g,a,o,l,f,d,i,m⟩⟩:=h
 ·exact d7 h
 ·refine d6 ⟨g,a,l,f,aC d,i,λk b=>?_⟩
  obtain⟨p,n⟩:=cy_ k b
  have e:∀j u,j<ps.length*2->(Z6 ps)[j]?=some u->w.cell? (aH g j)=some u:=λj u q c=>by
   refine aA d ?_;rw[<-m,ga,if_pos q] at c;simpa using c
  exact⟨e _ _ o_ p,e _ _ o_ n⟩
def GE:∀{us:List Value} {fs:List aE} (i:Nat),kV (DD F w) us fs->i<=fs.length->(kL us).take (i*4)=kL (us.take i)
 |[],[],i,_,h=>by simp[kL]
 |u::us,f::fs,0,_,_=>by simp[kL]
 |u::us,f::fs,i+1,⟨⟨g,d,j,b,c,_⟩,h⟩,e=>by
  subst c;have a:=GE i h (by simpa using e)
  rw[iu,kL,kL,<-a,List.take_append];have:(zT (Value.agg #[I_ f.l_,.string (bs f.x_),g,d])).length=4:=rfl;rw[this,gv (by rw[this];omega)]
  congr 2;omega
 |[],_::_,_,h,_=>h.elim
 |_::_,[],_,h,_=>h.elim
def kV.take{R:Value->aE->Prop}:∀{vs ks} (i:Nat),kV R vs ks->kV R (vs.take i) (ks.take i)
 |_,_,0,_=>by simp[kV]
 |[],[],_+1,_=>trivial
 |_::_,_::_,i+1,⟨b,a⟩=>⟨b,kV.take i a⟩
 |[],_::_,_,h=>h.elim
 |_::_,[],_,h=>h.elim
def FSl.take{g a:Nat}(h:FSl F w (.slice (some (aH g 0)) fs.length a) fs)(i:Nat)(hi:i<=fs.length):FSl F w (.slice (some (aH g 0)) i a) (fs.take i):=by
 rcases h with ⟨b,_⟩|⟨o,d,c,m,b,j,l,n,k,f⟩
 ·cases b
 ·cases b;have e:(fs.take i).length=i:=by rw[g8];omega
  refine d6 ⟨g,a,c,m.take i,by rw[e],j,l,o_,?_,f.take i⟩
  rw[e,<-GE i f hi,<-k,jf];congr 1;omega
def CK.reset{cb c lo:Nat}{d i:aQ}{e_:cN}(h:CK cb c lo fs d w e_)(a:w.heap[cb]?=some (.cells #[d,i] 150 (0,0))):
 FB cb c w (w.setCell (aH cb 1) (bG))/\CK cb c lo fs d (w.setCell (aH cb 1) (bG)) []:=by
 have g:=aC a;have e:Below c w (w.setCell (aH cb 1) (bG)):=(eh _ _).setCell h.lt.2 _;have f:(w.setCell (aH cb 1) (bG)).heap[cb]?=some (.cells #[d,bG] 150 (0,0)):=by rw[aK a];rfl
 refine⟨⟨e,λk b j l=>ei _ _ _ _ (by show k≠cb;exact j),λk b=>?_⟩,⟨bG,f,World.ownsRow_nil _ _ _ _,(by simp[Value.ownBlock]),h.lt.2⟩,h.fun_.keep λk b=>e.block k b.2⟩
 rw[oE f] at b;cases b
def XT(a:List aE)(x:cC):(lT a x).isSome=(gI x || !(dT a x).isNone):=by
 unfold lT gI;cases x==[108,101,110]<;>cases x==[114,101,97,100]<;>cases dT a x<;>rfl
def FM(fs:List aE)(d:Nat)(s:bD)(k:aE):Stk s (eY fs d s k):=by
 unfold eY;split
 ·exact(Stk.declares s k).trans (Stk.e_ _ _)
 ·exact Stk.walk fs false d k s
def y8(fs:List aE)(d:Nat)(s:bD)(k:aE)(h:k.op=[112,97,114,97,109]):eY fs d s k={ Hs.declaresL s k with e_:=(Hs.declaresL s k).e_++[k.x_] }:=by
 unfold eY;rw[h];rfl
def y9(fs:List aE)(d:Nat)(s:bD)(k:aE)(h:k.op=[98,108,111,99,107]):eY fs d s k=aP fs false d k s:=by
 unfold eY;rw[h];rfl
def cI_(cb tp lo:Nat)(fs:List aE)(fv:aQ)(d:Nat)(w:aG)(b0:Nat)(o:Obj)(ps:List aE)(b:aE)(c:bD)(gk:Nat)(i:aQ)(wr:aG):Prop:=
 ∃k s,k+gk=ps.length/\i=I_ (k:Nat)/\Loc cb tp w b0 o wr/\CK cb tp lo fs fv wr s/\c=(ps.drop k++[b]).foldl (eY fs d) ⟨s,0,0⟩/\s.length=k
def ZW(fs:List aE)(d:Nat)(e_:cN)(f:aE)(first:Bool)(h:(gI f.x_ || !first)=true):Stk ⟨[],6,f.l_⟩ (gO fs d ⟨e_,0,0⟩ f first):=by
 unfold gO;rw[h];exact Stk.fold (FM fs d) _ _
def cd_(fs:List aE)(d:Nat)(e_:cN)(f:aE)(first:Bool)(h:(gI f.x_ || !first)=false):gO fs d ⟨e_,0,0⟩ f first=f.y_.foldl (eY fs d) ⟨[],0,0⟩:=by
 unfold gO;rw[h];rfl
def X3(cb B lo:Nat)(fs:List aE)(g n:Nat)(ck:fs.length<=90000)(I:∀f∈fs,f.y_.length<=90000)(d i:Nat)(hi:i<fs.length)(e_:List (List UInt8))(w:World)(h:CK cb B lo fs (FV (.slice (some ⟨g,0,none⟩) fs.length n)) w e_)
 (hd:∀k∈fs[i].y_,fG d k) (hw:fs[i].y_.length+(fs[i].y_.map (cF d)).sum<=90000):
 Calls prog 95 #[.pointer (some ⟨cb,0,none⟩),.slice (some ⟨g,0,none⟩) fs.length n,.int .i64 i] w (dI cb B lo fs (FV (.slice (some ⟨g,0,none⟩) fs.length n)) w (gO fs d ⟨e_,0,0⟩ fs[i] (dT (fs.take i) fs[i].x_).isNone)):=by
 obtain⟨_,K,ab⟩|⟨K,_⟩:=h.fun_
 rotate_left
 ·cases K
 cases K;rcases ab.cells with ⟨h1,_⟩|⟨g',df,h1,cx,ds,da,hc⟩
 ·cases h1
 cases h1;obtain⟨pv,bv,o,b,e0,e1,e2,e3,z,ad,au,am⟩:=hc i hi;obtain⟨T,X,rfl⟩:=ad.slice;obtain⟨M,N,rfl⟩:=am.slice;have az:=aB (XT (fs.take i) fs[i].x_);have bl:=I fs[i] (fo hi);have bt:=aB (ab.take i o_)
 generalize dw:fs[i]=f at*;have bz:=aB (λhx=>ZW fs d e_ f (dT (fs.take i) f.x_).isNone hx)
 have cj:=aB (λhx=>cd_ fs d e_ f (dT (fs.take i) f.x_).isNone hx)
 have ai:=h.lt;obtain⟨an,aw⟩:=Loc.new h (.cells #[.int .i64 f.l_,.string (bs f.x_),.slice T o.length X,.slice M b.y_.length N] 169);obtain⟨sx,sc,U,dq,dd,bm, -⟩:=h.cut;obtain⟨q,c0,O,f1⟩:=kD U;have bw:=aB an;have ca:=aB aw;have bd:=aB ad;have cv:=aB am;have ax:=aB au;have ak:=aB z;have HD:=aB hd;have HW:=aB hw;have dx:=aB I;have ch:i<=n:=o_
 have HBLK:Hid (uI cb B lo fs (FV (.slice (some ⟨g,0,none⟩) fs.length n)) d):=by
  cases d with
  |zero=>exact λ_ _ _ _ _ _ _ hd _=>hd.elim
  |succ e=>exact VN (tW cb B lo fs _ e (ST cb B lo fs _ ck I e))
 have dh:o.length<=90000:=by rw[z] at bl;simp at bl;omega
 have co:Hid (Below w.heap.size w (w.alloc (.cells #[.int .i64 f.l_,.string (bs f.x_),.slice T o.length X,.slice M b.y_.length N] 169))):=(eh _ _).alloc (en _) _;have J:=aB (FP (fs.take i) (Btw lo B) (.slice (some ⟨g,0,none⟩) i n) f.x_ (w.alloc (.cells #[.int .i64 f.l_,.string (bs f.x_),.slice T o.length X,.slice M b.y_.length N] 169)).drew (by rw[g8];omega) (λf hf=>I f (kg hf)) (bt.out.keep λk hk=>by have:=hk.2;exact ek _ _ _ o_))
 rw[az.out] at J;generalize cz:((lT (List.take i fs) f.x_).getD 0)=pn at J;obtain⟨tk,aj⟩:=E_ ((gI f.x_ || !(dT (fs.take i) f.x_).isNone))
 rw[<-aj] at J;have ao:=aB aj;obtain⟨cc,r⟩:=E_ (gO fs d ⟨e_,0,0⟩ f (dT (fs.take i) f.x_).isNone);rw[<-r];have ba:=aB r;clear cz aj r h an aw ad am au z hd hw I ab hc U bm az bt cx;go_enter func95,ntmps95;go_wp2_with fail;go_cut [7,8] (λ_ tv wc=>tv=.bool tk/\Below w.heap.size w wc/\Loc cb B w w.heap.size (.cells #[.int .i64 f.l_,.string (bs f.x_),.slice T o.length X,.slice M b.y_.length N] 169) wc/\CK cb B lo fs (FV (.slice (some ⟨g,0,none⟩) fs.length n)) wc e_)
 case first=>
  go_region_law (go_simp;go_at_call 93;refine J.out.mono ?_;rintro e w1 ⟨rfl,bu⟩;have ag:=aB ((eh (w.alloc (.cells #[.int .i64 f.l_,.string (bs f.x_),.slice T o.length X,.slice M b.y_.length N] 169)).heap.size (w.alloc (.cells #[.int .i64 f.l_,.string (bs f.x_),.slice T o.length X,.slice M b.y_.length N] 169))).drew.trans bu);clear bu)
  all_goals
   go_wp2_with fail;go_meet
   case rel=>exact⟨rfl,co.out.trans (ag.out.mono s_),bw.out.step (FB.of_below ag.out t_),ca.out.grow ag.out⟩
 case rest=>
  obtain⟨rfl,aq,y,S⟩:=hcut;clear c0 O f1 q e0 e1 e2 e3;obtain⟨dr,dn,v,dj,cu,ac, -⟩:=S.cut;obtain⟨q,c0,O,f1⟩:=kD v;have cm:=aB y;have du:=aB S;have m0:=aA y.blk (i:=0) rfl;have m1:=aA y.blk (i:=1) rfl;have m2:=aA y.blk (i:=2) rfl;have m3:=aA y.blk (i:=3) rfl;have Q:=aC y.blk;have Z:=aB (S.reset v);have bq:=aB aq;clear y S v ac aq J;cases tk;rotate_left
  ·go_wp2_with fail;refine(sV f.l_ _).mono ?_;rintro e L ⟨rfl,c⟩;have u:=aB (bq.out.trans (c.mono bq.out.size));clear c;go_wp2_with (go_at_call 94;refine(gW 6 f.l_ _).mono ?_;rintro e w3 ⟨rfl,hw⟩;obtain rfl:=hw.symm)
   exact⟨rfl,dI.fault (c1:=⟨[],6,f.l_⟩) (FB.of_below u.out ai) s_ (by rw[ba.out];exact bz.out ao.out.symm)⟩
  have HI:Hid (cI_ cb B lo fs (FV (.slice (some ⟨g,0,none⟩) fs.length n)) d w w.heap.size (.cells #[.int .i64 f.l_,.string (bs f.x_),.slice T o.length X,.slice M b.y_.length N] 169) o b cc o.length (.int .i64 (0:Nat)) (wc.setCell ⟨cb,1,none⟩ (.slice none 0 0))):=
   ⟨0,[],o_,rfl,cm.out.step Z.out.1,Z.out.2,by rw[ba.out,cj.out ao.out.symm,ak.out];rfl,rfl⟩
  have dg:¬cb=w.heap.size:=o_
  have ci:¬w.heap.size=cb:=o_
  obtain⟨i0,cy,cf,bk,cs⟩:=info_parts F7;go_wp2_with fail;go_loopg [10,37] o.length (λgk _ iv wr=>cI_ cb B lo fs (FV (.slice (some ⟨g,0,none⟩) fs.length n)) d w w.heap.size (.cells #[.int .i64 f.l_,.string (bs f.x_),.slice T o.length X,.slice M b.y_.length N] 169) o b cc gk iv wr)
  case atStart=>exact HI.out
  case round=>
   obtain⟨k,s,hk,rfl,l,C,r,av⟩:=hrel;have bp:=aB av;have dc:s.length<=90000:=o_
   clear av;have P:=aB l;have dm:=aB C;have bi:=aB r;clear m0 m1 m2 m3 Q c0 O f1 q HI Z;have m0:=aA l.blk (i:=0) rfl;have m1:=aA l.blk (i:=1) rfl;have m2:=aA l.blk (i:=2) rfl;have m3:=aA l.blk (i:=3) rfl;have Q:=aC l.blk;have ea:=C.lt;by_cases q:k<o.length
   ·obtain⟨j,rfl⟩:∃j,gk=j+1:=⟨gk-1,o_⟩
    rcases bd.out.get with ⟨_,ap⟩|⟨pg,db,K,al,cp,cw,F⟩
    ·rw[ap] at q;simp at q
    obtain⟨bn,bg⟩:=F k q;have bo:=bd.out.1 o[k] (fo q);have ar:o.drop k=o[k]::o.drop (k+1):=(jp q).symm;have W:cc=(o.drop (k+1)++[b]).foldl (eY fs d) (eY fs d ⟨s,0,0⟩ o[k]):=by rw[r,ar];rfl
    generalize o[k]=a at*;cases K;have r0:wr.cell? ⟨pg,k*2,none⟩=some (.int .i64 a.l_):=(l.fb.bel.cell (p:=⟨pg,k*2,none⟩) al.2).trans bn;have r1:wr.cell? ⟨pg,k*2+1,none⟩=some (.string (bs a.x_)):=(l.fb.bel.cell (p:=⟨pg,k*2+1,none⟩) al.2).trans bg;have de:pg<wr.heap.size:=ej (Nat.lt_trans (ej al.2 ai.2) ai.1) l.fb.bel.size;obtain⟨bf,G⟩:=Loc.new C (.cells #[.int .i64 a.l_,.string (bs a.x_)] 165);have ae:=aB bf;have HM:=aB (sT cb B lo fs _ (wr.alloc (.cells #[.int .i64 a.l_,.string (bs a.x_)] 165)) s G o_ a.l_ a.x_)
    have bb:Hid (Hs.declaresL ⟨s,0,0⟩ a=if gI a.x_ || s.contains a.x_ then bD.found ⟨s,0,0⟩ a.l_ 6 else ⟨s,0,0⟩):=rfl
    rw[<-bb.out] at HM;have Y:=aB (y8 fs d ⟨s,0,0⟩ a bo);have be:=oK ⟨s,0,0⟩ a;have cn:=aB be;have t:=aB W;clear r W ar bn bg F cw cp bi be bb bf G l C bo;generalize Hs.declaresL ⟨s,0,0⟩ a=O at*;go_wp2_with fail;refine HM.out.mono ?_;rintro e L ⟨c,⟨s2,rfl,rfl,m⟩|⟨E,rfl⟩⟩
    rotate_left
    ·have cr:=aB (P.out.fb.trans (ae.out.fb.trans c));have HK:=aB E;clear c E;go_wp2_with fail;exact⟨rfl,dI.fault (c1:=O) cr.out HK.out (by rw[t.out,Y.out];exact(Stk.e_ _ _).trans (Stk.fold (FM fs d) _ _))⟩
    obtain rfl:s2=s:=cn.out;have ah:=aB (ae.out.step c);have HLb:=aB ((P.out.step ae.out.fb).step c);obtain⟨cd,cg,x,dl,ce,D,br⟩:=m.cut;obtain⟨dk,c0,O,f1⟩:=kD x;have n0:=aA ah.out.blk (i:=0) rfl;have n1:=aA ah.out.blk (i:=1) rfl;have dz:=aC ah.out.blk;clear m0 m1 m2 m3 Q r0 r1;have m0:=aA HLb.out.blk (i:=0) rfl;have m1:=aA HLb.out.blk (i:=1) rfl;have m2:=aA HLb.out.blk (i:=2) rfl;have m3:=aA HLb.out.blk (i:=3) rfl;have Q:=aC HLb.out.blk;have u:=aB (show L.drew.heap[cb]?=_ from x)
    have ay:=aB (show L.drew.ownsRow _ _ _ _ _ _ from D)
    have H:=aB (show CK cb B lo fs (FV (.slice (some ⟨g,0,none⟩) fs.length n)) L.drew s2 from m.grow (eh _ _).drew)
    have ct:=aB br;have cq:=aB (FB.of_below (cb:=cb) (eh L.heap.size L).drew m.lt);clear x D m c HM;go_wp2_with fail;go_region_law (refine step_append_lies _ r_ _ _ 32 r_ B 9 i0 _ 1 16 underlying32 cy cf bk cs rfl d_ (.slice cd s2.length cg) s2.length (lF s2) r_ (ay.out.alloc _) ⟨L.heap.size,0,none⟩ 1 1 [.string (bs a.x_)] r_ r_ (SU L.drew _) (E8 _) d_ (by unfold maxLen;omega) o_ t_ (L.heap.size+1) s_ ?_;intro g5 di w5 af A bj eb;have bh:=GY u.out A ct.out;obtain⟨dv, -,q1,dt⟩:=kD bh;clear bh)
    all_goals
     go_wp2_with fail;go_roundg j
     case measure=>omega
     case rel=>
      have V:=H.out.add u.out ay.out af A (bj.imp_right λe=>by show L.heap.size<=g5;omega)
      exact⟨k+1,s2++[a.x_],o_,by go_num,(HLb.out.step cq.out).step V.1,V.2,by rw[t.out,Y.out],by have:=bp.out;simp;omega⟩
   ·have dy:k=o.length:=o_
    have aa:fG d b/\s.length+cF d b<=90000:=by
     have h1:=HW.out;have h2:=HD.out b (by rw[ak.out];simp)
     rw[ak.out] at h1;simp only[el,gi,io,fg,gd,fm,gh,ep,ey] at h1;have:=bp.out;exact⟨h2,o_⟩
    have HX:=aB (HBLK.out (.slice M b.y_.length N) b s wr C ax.out (cv.out.below l.fb.bel) aa.1 aa.2)
    have t:Hid (cc=aP fs (gA (FV (.slice (some ⟨g,0,none⟩) fs.length n))) d b ⟨s,0,0⟩):=by
     show _=_
     rw[r,ic o_]
     exact y9 fs d _ b ax.out
    rw[<-t.out] at HX;clear l C r bi t aa;go_wp2_with fail;refine HX.out.mono ?_;rintro e L ⟨c,⟨s2,G,rfl,m⟩|⟨E,rfl⟩⟩
    ·have u:=aB (P.out.fb.trans c);have H:=aB m;have cl:=aB G;clear c m G;go_wp2_with fail;go_end0;exact dI.done u.out cl.out H.out
    ·have u:=aB (P.out.fb.trans c);have H:=aB E;clear c E;go_wp2_with fail;exact⟨rfl,dI.fault (c1:=cc) u.out H.out (Stk.refl _)⟩
def sU(fs:List aE):Bool:=lT fs [109,97,105,110]==some 0
def B3(fs:List aE)(F:bY)(o:aQ)(w:aG)(u:fs.length<=90000)(i:∀f∈fs,f.y_.length<=90000)(h:FSl F w o fs):
 Calls prog 58 #[o] w λe s=>Below w.heap.size w s/\((sU fs=true/\e=aX (.tuple #[]))\/(sU fs=false/\e=cU 5 0)):=by
 have d:=aB (FP fs F o [109,97,105,110] w o_ i h)
 have g:Hid (sU fs=(lT fs [109,97,105,110]==some 0)):=rfl;have b:=aB (λn r=>E7 i (x:=[109,97,105,110]) (n:=n) r)
 clear h i;rw[show bs [109,97,105,110]=⟨#[109,97,105,110]⟩ from rfl] at d
 obtain⟨j,l⟩:=E_ (sU fs);rw[<-l] at g ⊢
 clear l;cases c:lT fs [109,97,105,110] with
 |none=>
  obtain rfl:j=false:=by rw[g.out,c];rfl
  rw[c] at d;simp only[Option.getD_none,Option.isSome_none] at d;clear c g b;go_in
  go_wp2_with fail;refine d.mono ?_;rintro e p ⟨rfl,a⟩;have k:=aB a;clear a;go_wp2_with (go_at_call 94;refine(gW 5 0 _).mono ?_;rintro e t ⟨rfl,m⟩;obtain rfl:=m.symm)
  exact⟨rfl,k,d6 ⟨trivial,rfl⟩⟩
 |some n=>
  have r:=b n c;rw[c] at d;simp only[jt,Option.isSome_some] at d;cases n with
  |zero=>
   obtain rfl:j=true:=by rw[g.out,c];rfl
   clear c g b;go_in
   go_wp2_with fail;refine d.mono ?_;rintro e p ⟨rfl,a⟩;have k:=aB a;clear a;go_wp2
   go_end0;exact⟨k,d7 ⟨trivial,rfl⟩⟩
  |succ n=>
   obtain rfl:j=false:=by rw[g.out,c];rfl
   clear c g b;have q:decide ((0:Int)<((n:Int)+1))=true:=decide_eq_true o_
   go_in
   go_wp2_with fail;refine d.mono ?_;rintro e p ⟨rfl,a⟩;have k:=aB a;clear a;go_wp2_with (go_at_call 94;refine(gW 5 0 _).mono ?_;rintro e t ⟨rfl,m⟩;obtain rfl:=m.symm)
   exact⟨rfl,k,d6 ⟨trivial,rfl⟩⟩
def H7(fs:List aE)(d:Nat):∀(a b:List aE) (s:bD),Stk s (fL fs d b a s)
 |[],_,s=>Stk.refl s
 |n::a,b,s=>by
  rw[fL];refine Stk.trans ?_ (H7 fs d a _ _);unfold gO;refine Stk.trans ?_ (Stk.fold (FM fs d) _ _);refine Stk.trans ?_ (Stk.e_ _ _);split
  ·exact Stk.found _ _ _
  ·exact Stk.refl _
def D4(cb tp lo:Nat)(fs:List aE)(fv:aQ)(d:Nat)(w:aG)(c:bD)(gk:Nat)(i:aQ)(wr:aG):Prop:=
 ∃k s,k+gk=fs.length/\i=I_ (k:Nat)/\Below cb w wr/\CK cb tp lo fs fv wr s/\c=fL fs d (fs.take k) (fs.drop k) ⟨s,0,0⟩
def VF(lo:Nat)(fs:List aE)(M:aQ)(w:aG)(d:Nat)(H:fs.length<=90000)(z:∀f∈fs,f.y_.length<=90000)(h:FSl (Btw lo w.heap.size) w M fs)(N:∀f∈fs,∀k∈f.y_,fG d k)(P:∀f∈fs,f.y_.length+(f.y_.map (cF d)).sum<=90000):
 Calls prog 59 #[M] w λe U=>Below w.heap.size w U/\(((fL fs d [] fs ⟨[],0,0⟩).kind=0/\(fL fs d [] fs ⟨[],0,0⟩).l_=0/\e=aX (.tuple #[]))\/((fL fs d [] fs ⟨[],0,0⟩).kind≠0/\e=cU (fL fs d [] fs ⟨[],0,0⟩).kind (fL fs d [] fs ⟨[],0,0⟩).l_)):=by
 obtain⟨y,r,rfl⟩:∃x c,M=.slice x fs.length c:=by
  rcases h.cells with ⟨t,C⟩|⟨g,F,t,_⟩
  ·exact⟨none,0,by rw[t,C];rfl⟩
  ·exact⟨_,_,t⟩
 obtain⟨c,G⟩:=E_ (fL fs d [] fs ⟨[],0,0⟩);have p:Below w.heap.size w (w.alloc (.cells #[FV (.slice y fs.length r),bG] 150)):=(eh _ _).alloc cL _
 have W:Hid (D4 w.heap.size w.heap.size lo fs (FV (.slice y fs.length r)) d w c fs.length (I_ (0:Nat)) (w.alloc (.cells #[FV (.slice y fs.length r),bG] 150))):=
  ⟨0,[],o_,rfl,p,⟨⟨bG,aN _ _ rfl _,World.ownsRow_nil _ _ _ _,(by simp[Value.ownBlock]),cL⟩,d7 ⟨_,rfl,h.keep λk O=>p.block k O.2⟩⟩,by rw[G];rfl⟩
 rw[<-G];have V:=aB h;have L:=aB z;have Z:=aB N;have HW:=aB P;clear h p G z N P;go_in
 go_wp2_with fail;go_loopg [3,9] fs.length (λgk _ i wr=>D4 w.heap.size w.heap.size lo fs (FV (.slice y fs.length r)) d w c gk i wr)
 case atStart=>exact W
 case round=>
  obtain⟨k,s,O,rfl,D,q,l⟩:=hrel;have E:=aB D;by_cases b:k<fs.length
  ·obtain⟨j,rfl⟩:∃j,gk=j+1:=⟨gk-1,o_⟩
   obtain⟨g,rfl⟩:∃g,y=some ⟨g,0,none⟩:=by
    rcases V.cells with ⟨t,C⟩|⟨g,F,t,_⟩
    ·rw[C] at b;simp at b
    ·cases t;exact⟨g,rfl⟩
   have K:fs[k]∈fs:=fo b;have S:=aB (X3 w.heap.size w.heap.size lo fs g r H L d k b s wr q (Z _ K) (HW _ K));have A:fs.drop k=fs[k]::fs.drop (k+1):=(jp b).symm
   have a:c=fL fs d (fs.take (k+1)) (fs.drop (k+1)) (gO fs d ⟨s,0,0⟩ fs[k] (dT (fs.take k) fs[k].x_).isNone):=by
    rw[l,A,fL,gu b]
   have n:=aB a;clear D q l a A K;generalize gO fs d ⟨s,0,0⟩ fs[k] (dT (fs.take k) fs[k].x_).isNone=Y at*;go_wp2_with fail;refine S.mono ?_;rintro e T ⟨m,⟨s1,rfl,rfl,o⟩|⟨u,rfl⟩⟩
   rotate_left
   ·have I:=aB (E.trans m.bel);have v:=aB u;have B:Hid (Stk Y c):=by show Stk _ _;rw[n.out];exact H7 fs d _ _ _
    clear m u;go_wp2_with fail;obtain⟨Q,X⟩:=B v;exact⟨rfl,I,d6 ⟨by rw[Q];exact v,by rw[Q,X]⟩⟩
   have J:Hid (D4 w.heap.size w.heap.size lo fs (FV (.slice (some (aH g 0)) fs.length r)) d w c j (I_ ((k+1:Nat):Int)) T):=⟨k+1,s1,o_,rfl,E.trans m.bel,o,n⟩
   clear m o S;go_wp2
   go_roundg j
   case measure=>omega
   case rel=>exact J
  ·have a:c=⟨s,0,0⟩:=by rw[l,ic o_];rfl
   have n:=aB a;clear D q l a;go_wp2
   go_end0;rw[n.out];exact⟨E,d7 ⟨rfl,rfl,rfl⟩⟩
structure NTabs(w:aG):Prop where
 er:∃te pe,w.cell? (aH 8 0)=some (.iface te pe)
 big:9<=w.heap.size
def NTabs.fr{sb:Nat}(h:NTabs w)(a:Fr sb w w')(e:9<=sb):NTabs w':=by
 obtain⟨b,d,c⟩:=h.er;have:=h.big;have:=a.size;exact⟨⟨b,d,by rw[zU (a.block 8 o_ o_)];exact c⟩,o_⟩
def N4(l:cC)(i:∀c∈l,eO c=true)(a:l≠[])(q:l.length<=100000)(w:aG)(k:NTabs w):
 Calls prog 194 #[.string (bs l),I_ 10,I_ 64] w λe b=>Below w.heap.size w b/\((∃v,dQ 0 l=some v/\e=aX (.tuple #[I_ (v:Nat),.nilIface]))\/(dQ 0 l=none/\∃x T p,e=aX (.tuple #[I_ x,.iface T p]))):=by
 have m:(bs l).size=l.length:=gJ l;rcases S5 l i a with ⟨v,f,d⟩|⟨f,d⟩
 ·refine(strconv_ParseInt_10_at64_ok (bs l) o_ v (by rw[gR];exact d) w).mono ?_
  rintro e b ⟨rfl,n⟩;refine⟨?_,d7 ⟨v,f,rfl⟩⟩;rcases n with rfl|⟨t,rfl⟩
  ·exact eh _ _
  ·exact Lib.bytesWorld_below _ _ _
 ·obtain⟨h,g,o⟩:=k.er;refine(strconv_ParseInt_10_at64_range (bs l) o_ (by rw[gR];exact d) (.iface h g) w o (d6 ⟨h,g,rfl⟩)).mono ?_
  rintro e b ⟨N,rfl,_,_,j⟩;exact⟨j,d6 ⟨f,_,_,_,rfl⟩⟩
def vF(c:UInt8):eS false c=eO c:=by unfold eS;simp
def QV(sb:Nat)(a:ByteArray)(n L:Nat)(w:aG)(h:SC sb a n L w)(Z:NTabs w)(F:9<=sb)(hs:a.size<=100000)(hn:n<a.size)(D:eO a[n]=true):
 Calls prog 167 #[aZ sb] w (a1_ sb a n L w (iG (a.data.toList.drop n) false)):=by
 obtain⟨k,m⟩:=E_ (bQ (eS false) (a.data.toList.drop n))
 have ac:k<=a.size-n:=by
  have:=lG (eS false) (a.data.toList.drop n);rw[m];simpa using this
 have aa:1<=k:=by
  rw[m,lK a n hn,tR _ _ _ (by rw[vF];exact D)];omega
 have ae:n<=a.size:=o_
 have Q:=(SC.cells h).1;have J:w.heap.size≠sb:=o_
 have U:SC sb a n L (w.alloc (.cells #[I_ 0,.string ⟨#[]⟩,I_ 0,I_ 0] 160)):=by unfold SC;rw[ek _ _ _ Q];exact h
 obtain⟨h0,c0,c1,V,f1,X⟩:=U.cells;have E:Hid (ZTok (w.alloc (.cells #[I_ 0,.string ⟨#[]⟩,I_ 0,I_ 0] 160)).drew w.heap.size):=aN _ _ rfl _;have z:=aB (λw=>wW (eS false) 166 (λ_ _=>rfl) (λc w=>by rw[vF];exact vW c w) (a.extract n a.size) w (by rw[tV];omega))
 rw[oI,<-m] at z;have y:=aB (pT sb a n L k (w.alloc (.cells #[I_ 0,.string ⟨#[]⟩,I_ 0,I_ 0] 160)).drew U o_ o_)
 obtain⟨d,o⟩:=E_ ((a.data.toList.drop n).take k);rw[<-o] at y;have j:d.length=k:=by rw[o,g8];simp;omega
 have G:=aB (λW (hW:NTabs W)=>N4 d (λc Y=>by
  rw[o,m] at Y;rw[<-vF];exact tS _ _ c Y) (λe=>by rw[e] at j;simp at j;omega) o_ W hW)
 have HW:Hid (iG (a.data.toList.drop n) false={ sort:=48,x_:=d,size:=k,ok:=(dQ 0 d).isSome }):=by
  show _=_
  unfold iG;rw[<-m,<-o];rfl
 rw[HW.out];have P:Hid (Fr sb w (w.alloc (.cells #[I_ 0,.string ⟨#[]⟩,I_ 0,I_ 0] 160))):=(Fr.refl _ _).alloc _;have HG:=aB Z;have ab:(bs d).size=k:=by rw[gJ];exact j
 clear h U m o HW Z j D;obtain⟨rr,C⟩:∃rr:qX,rr={ sort:=48,x_:=d,size:=k,ok:=(dQ 0 d).isSome }:=⟨_,rfl⟩;rw[<-C];have K:=aB C;clear C;go_in
 go_wp2_with fail;go_cut [3] (λv wc=>v=.string (bs d)/\SC sb a (n+k) L wc/\Fr sb w wc/\ZTok wc w.heap.size)
 case first=>
  go_region_law (first|(go_simp;go_at_call 162;refine(z _).mono ?_;rintro e w1 ⟨rfl,S⟩;obtain rfl:=S.symm)|(go_simp;go_at_call 190;refine y.mono ?_;rintro e w2 ⟨rfl,q,f⟩;have l:=aB q;have t:=aB (P.drew.trans f);have r:=aB (f.keepS E J);clear q f))
  all_goals
   go_wp2_with fail;go_meet
   case rel=>exact⟨rfl,l,t,r⟩
 case rest=>
  obtain⟨rfl,q,f,H⟩:=hcut;have l:=aB q;have t:=aB f;have r:=aB H;have A:=aB (G wc (HG.fr f F));clear c0 c1 V f1 X h0 q f H y z E G;go_wp2_with fail;refine A.mono ?_;rintro e M ⟨g,⟨v,I,rfl⟩|⟨I,x,T,p,rfl⟩⟩
  ·have s:Hid (SC sb a (n+k) L M):=(g.block sb (aC l)).trans l;have b:Hid (ZTok M w.heap.size):=(g.block _ (aC r)).trans r;have B:=aB (t.trans (Fr.below g));obtain⟨h0,c0,c1,V,f1,X⟩:=s.cells;have z0:=aA b (i:=0) rfl;have z1:=aA b (i:=1) rfl;have z2:=aA b (i:=2) rfl;have z3:=aA b (i:=3) rfl;have y0:=aD (i:=0) b;have y1:=aD (i:=1) b;have y2:=aD (i:=2) b;have y3:=aD (i:=3) b;have ad:=aC b;have N:=aB I;clear g I A;go_wp2_with fail;rw[K.out];refine bodyPost_ret (v:=.agg #[I_ 2,.string (bs d),I_ v,I_ L]) (by simp[results,results167,go_sem,z0,z1,z2,z3]) rfl ?_
   have u:=nJ B s cL J (I_ 2) (.string (bs d)) (I_ v) (I_ L);refine⟨u.1,d7 ⟨by show (dQ 0 d).isSome=true;rw[N.out];rfl,?_,u.2⟩⟩
   show _=Ending.returned (.agg #[I_ 2,.string (bs d),I_ (pval ⟨48,d,L⟩),I_ L])
   have e:pval ⟨48,d,L⟩=v:=by unfold pval;rw[if_pos rfl,N.out];rfl
   rw[e]
  ·have s:Hid (SC sb a (n+k) L M):=(g.block sb (aC l)).trans l;have B:=aB (t.trans (Fr.below g));have O:=aB (tU sb a (n+k) L M s);have N:=aB I;clear g I A;go_wp2_with fail;refine O.mono ?_;rintro e w4 ⟨rfl,S⟩;obtain rfl:=S.symm;go_wp2_with fail;rw[K.out];exact⟨rfl,B,d6 ⟨by show (dQ 0 d).isSome=false;rw[N.out];rfl,rfl⟩⟩
def J8(sb:Nat)(b:ByteArray)(n L:Nat)(w:aG)(h:SC sb b n L w)(hg:NTabs w)(hm:PTabs w)(z:9<=sb)(hs:b.size<=100000)(S:n<b.size):
 Calls prog 123 #[aZ sb] w (a1_ sb b n L w (cH (b.data.toList.drop n))):=by
 have W:=(SC.cells h).1;have r:w.heap.size≠sb:=o_
 have hb:(b[n].toNat:Int)<=255:=pG _;have V:SC sb b n L (w.alloc (.cells #[I_ 0,.string ⟨#[]⟩,I_ 0,I_ 0] 160)):=by unfold SC;rw[ek _ _ _ W];exact h
 obtain⟨h0,c0,c1,c2,f1,f2⟩:=V.cells;have p:Hid (∀q,ZTok ((w.alloc (.cells #[I_ 0,.string ⟨#[]⟩,I_ 0,I_ 0] 160)).drewN q) w.heap.size):=λ_=>aN _ _ rfl _
 have D:Fr sb w (w.alloc (.cells #[I_ 0,.string ⟨#[]⟩,I_ 0,I_ 0] 160)):=(Fr.refl _ _).alloc _;have l:=aB D;have O:Hid (∀q,NTabs ((w.alloc (.cells #[I_ 0,.string ⟨#[]⟩,I_ 0,I_ 0] 160)).drewN q)):=λq=>hg.fr (D.drewN q) z
 have A:Hid (∀q,PTabs ((w.alloc (.cells #[I_ 0,.string ⟨#[]⟩,I_ 0,I_ 0] 160)).drewN q)):=λq=>hm.fr (D.drewN q) z
 have Q:=aB V;obtain⟨c,I⟩:=E_ (cH (b.data.toList.drop n));rw[<-I];have F:c=if eO b[n] || fS b[n] then iG (b.data.toList.drop n) (fS b[n]) else if b[n].toNat=34 then oU (b.data.toList.drop (n+1)) else iE (b.data.toList.drop n):=by rw[I,lK b n S];rfl
 have t:=aB F;have s:=aB (AN b[n]);have u:=aB (vW b[n]);clear h V hg hm I F D;cases y:fS b[n]
 ·cases B:eO b[n]
  ·by_cases E:b[n].toNat=34
   ·have e:c=oU (b.data.toList.drop (n+1)):=by rw[t.out,y,B];simp[E]
    have C:=aB (λq=>J7 sb b n L ((w.alloc (.cells #[I_ 0,.string ⟨#[]⟩,I_ 0,I_ 0] 160)).drewN q) Q o_ S)
    rw[<-e] at C;rw[y] at s;rw[B] at u;have P:((b[n].toNat:Int)==34)=true:=t_
    clear y B e t E;go_in
    go_wp2_with fail;go_quiet (fail)
    go_wp2_with fail;refine(s _).mono ?_;rintro e N ⟨rfl,x⟩;obtain rfl:=x.symm;go_wp2_with fail;refine(u _).mono ?_;rintro e N ⟨rfl,x⟩;obtain rfl:=x.symm;go_wp2_with fail;refine(C _).mono ?_;rintro e w2 ⟨f,⟨d,rfl,o⟩|⟨d,rfl⟩⟩
    ·have j:=aB ((l.drewN _).trans f);have m:=aB o;have a:=aB (f.keepS (p _) r);have g:=aB d;have K:=aA a (i:=0) rfl;have H:=aA a (i:=1) rfl;have G:=aA a (i:=2) rfl;have J:=aA a (i:=3) rfl;have Y:=aD (i:=0) a;have T:=aD (i:=1) a;have y2:=aD (i:=2) a;have U:=aD (i:=3) a;have M:=aC a;clear f o d;simp only[oX];go_wp2
     refine bodyPost_ret (v:=.agg #[I_ (psort c.sort),.string (bs c.x_),I_ (pval ⟨c.sort,c.x_,L⟩),I_ L]) (by clear O A p l j m a g;generalize psort c.sort=Z;generalize pval ⟨c.sort,c.x_,L⟩=X;simp[results,results123,go_sem,K,H,G,J]) rfl ?_
     have k:=nJ j m cL r (I_ (psort c.sort)) (.string (bs c.x_)) (I_ (pval ⟨c.sort,c.x_,L⟩)) (I_ L);exact⟨k.1,d7 ⟨g,rfl,k.2⟩⟩
    ·have j:=aB ((l.drewN _).trans f);have g:=aB d;clear f d;go_wp2_with fail;exact⟨rfl,j,d6 ⟨g,rfl⟩⟩
   ·have e:iE (b.data.toList.drop n)=c:=by rw[t.out,y,B];simp[E]
    have C:=aB (λq=>K5 sb b n L ((w.alloc (.cells #[I_ 0,.string ⟨#[]⟩,I_ 0,I_ 0] 160)).drewN q) Q (A q) o_ S c e)
    rw[y] at s;rw[B] at u;have P:((b[n].toNat:Int)==34)=false:=t_
    clear y B e t E;go_in
    go_wp2_with fail;go_quiet (fail)
    go_wp2_with fail;refine(s _).mono ?_;rintro e N ⟨rfl,x⟩;obtain rfl:=x.symm;go_wp2_with fail;refine(u _).mono ?_;rintro e N ⟨rfl,x⟩;obtain rfl:=x.symm;go_wp2_with fail;refine(C _).mono ?_;rintro e w2 ⟨f,⟨d,rfl,o⟩|⟨d,rfl⟩⟩
    ·have j:=aB ((l.drewN _).trans f);have m:=aB o;have a:=aB (f.keepS (p _) r);have g:=aB d;have K:=aA a (i:=0) rfl;have H:=aA a (i:=1) rfl;have G:=aA a (i:=2) rfl;have J:=aA a (i:=3) rfl;have Y:=aD (i:=0) a;have T:=aD (i:=1) a;have y2:=aD (i:=2) a;have U:=aD (i:=3) a;have M:=aC a;clear f o d;simp only[oX];go_wp2
     refine bodyPost_ret (v:=.agg #[I_ (psort c.sort),.string (bs c.x_),I_ (pval ⟨c.sort,c.x_,L⟩),I_ L]) (by clear O A p l j m a g;generalize psort c.sort=Z;generalize pval ⟨c.sort,c.x_,L⟩=X;simp[results,results123,go_sem,K,H,G,J]) rfl ?_
     have k:=nJ j m cL r (I_ (psort c.sort)) (.string (bs c.x_)) (I_ (pval ⟨c.sort,c.x_,L⟩)) (I_ L);exact⟨k.1,d7 ⟨g,rfl,k.2⟩⟩
    ·have j:=aB ((l.drewN _).trans f);have g:=aB d;clear f d;go_wp2_with fail;exact⟨rfl,j,d6 ⟨g,rfl⟩⟩
  ·have e:c=iG (b.data.toList.drop n) false:=by rw[t.out,y,B];rfl
   have C:=aB (λq=>QV sb b n L ((w.alloc (.cells #[I_ 0,.string ⟨#[]⟩,I_ 0,I_ 0] 160)).drewN q) Q (O q) z hs S B)
   rw[<-e] at C;rw[y] at s;rw[B] at u;clear y B e t;go_in
   go_wp2_with fail;go_quiet (fail)
   go_wp2_with fail;refine(s _).mono ?_;rintro e N ⟨rfl,x⟩;obtain rfl:=x.symm;go_wp2_with fail;refine(u _).mono ?_;rintro e N ⟨rfl,x⟩;obtain rfl:=x.symm;go_wp2_with fail;refine(C _).mono ?_;rintro e w2 ⟨f,⟨d,rfl,o⟩|⟨d,rfl⟩⟩
   ·have j:=aB ((l.drewN _).trans f);have m:=aB o;have a:=aB (f.keepS (p _) r);have g:=aB d;have K:=aA a (i:=0) rfl;have H:=aA a (i:=1) rfl;have G:=aA a (i:=2) rfl;have J:=aA a (i:=3) rfl;have Y:=aD (i:=0) a;have T:=aD (i:=1) a;have y2:=aD (i:=2) a;have U:=aD (i:=3) a;have M:=aC a;clear f o d;simp only[oX];go_wp2
    refine bodyPost_ret (v:=.agg #[I_ (psort c.sort),.string (bs c.x_),I_ (pval ⟨c.sort,c.x_,L⟩),I_ L]) (by clear O A p l j m a g;generalize psort c.sort=Z;generalize pval ⟨c.sort,c.x_,L⟩=X;simp[results,results123,go_sem,K,H,G,J]) rfl ?_
    have k:=nJ j m cL r (I_ (psort c.sort)) (.string (bs c.x_)) (I_ (pval ⟨c.sort,c.x_,L⟩)) (I_ L);exact⟨k.1,d7 ⟨g,rfl,k.2⟩⟩
   ·have j:=aB ((l.drewN _).trans f);have g:=aB d;clear f d;go_wp2_with fail;exact⟨rfl,j,d6 ⟨g,rfl⟩⟩
 ·have e:c=iG (b.data.toList.drop n) true:=by rw[t.out,y,Bool.or_true];rfl
  have C:=aB (λq=>K4 sb b n L ((w.alloc (.cells #[I_ 0,.string ⟨#[]⟩,I_ 0,I_ 0] 160)).drewN q) Q o_ o_)
  rw[<-e] at C;rw[y] at s;clear y e t u;go_in
  go_wp2_with fail;go_quiet (fail)
  go_wp2_with fail;refine(s _).mono ?_;rintro e N ⟨rfl,x⟩;obtain rfl:=x.symm;go_wp2_with fail;refine(C _).mono ?_;rintro e w2 ⟨f,⟨d,rfl,o⟩|⟨d,rfl⟩⟩
  ·have j:=aB ((l.drewN _).trans f);have m:=aB o;have a:=aB (f.keepS (p _) r);have g:=aB d;have K:=aA a (i:=0) rfl;have H:=aA a (i:=1) rfl;have G:=aA a (i:=2) rfl;have J:=aA a (i:=3) rfl;have Y:=aD (i:=0) a;have T:=aD (i:=1) a;have y2:=aD (i:=2) a;have U:=aD (i:=3) a;have M:=aC a;clear f o d;simp only[oX];go_wp2
   refine bodyPost_ret (v:=.agg #[I_ (psort c.sort),.string (bs c.x_),I_ (pval ⟨c.sort,c.x_,L⟩),I_ L]) (by clear O A p l j m a g;generalize psort c.sort=Z;generalize pval ⟨c.sort,c.x_,L⟩=X;simp[results,results123,go_sem,K,H,G,J]) rfl ?_
   have k:=nJ j m cL r (I_ (psort c.sort)) (.string (bs c.x_)) (I_ (pval ⟨c.sort,c.x_,L⟩)) (I_ L);exact⟨k.1,d7 ⟨g,rfl,k.2⟩⟩
  ·have j:=aB ((l.drewN _).trans f);have g:=aB d;clear f d;go_wp2_with fail;exact⟨rfl,j,d6 ⟨g,rfl⟩⟩
def aC_:(prog.info? 160).map (λi=>(i.zero,i.size,i.bytes))=some (some (.agg #[I_ 0,.string (bs []),I_ 0,I_ 0]),4,40):=k_
def LR(w:aG)(a b c d:aQ):∀j u,([a,b,c,d]:List Value)[j]?=some u->(w.alloc (.cells #[a,b,c,d] 160)).cell? ((⟨w.heap.size,0,none⟩:Addr).add j)=some u:=by
 intro j u e;match j,e with
 |0,e=>simp at e;subst e;simp[Addr.add,go_sem]
 |1,e=>simp at e;subst e;simp[Addr.add,go_sem]
 |2,e=>simp at e;subst e;simp[Addr.add,go_sem]
 |3,e=>simp at e;subst e;simp[Addr.add,go_sem]
 |j+4,e=>simp at e
def SO(l m n:Int)(b:ByteArray):∀u∈([I_ l,.string b,I_ m,I_ n]:List Value),u.oneCell'=true:=by
 intro u a;simp at a;rcases a with rfl|rfl|rfl|rfl<;>rfl
def M0{a:Nat}{n:Nat}{xs:List Value}(h:w.ownsRow b e a v n xs):∃x c,v=.slice x n c:=by
 rcases h.2 with ⟨d,i⟩|⟨g,f,j,d,_⟩
 ·exact⟨none,0,by rw[d,i]⟩
 ·exact⟨_,f,d⟩
def wE(h:∀c∈l,c≠10):l.count 10=0:=List.count_eq_zero.2 λa=>h 10 a rfl
def WI(l:cC)(h:(cH l).ok=true):(l.take (cH l).size).count 10=0:=by
 cases l with
 |nil=>simp[cH] at h
 |cons c r=>
  rw[cH] at h ⊢
  split
  ·rename_i i;rw[uL];refine wE λx a=>?_
   have:=tS _ _ x a;intro e;subst e;revert this
   cases fS c<;>decide
  ·rename_i i;rw[if_neg i] at h;split
   ·rename_i b;rw[if_pos b] at h;have d:(decide (r[bQ fP r]?=some 34) && decide (bQ fP r<=100))=true:=h;rw[fy,decide_eq_true_eq] at d
    have k:bQ fP r<r.length:=by
     by_cases a:bQ fP r<r.length
     ·exact a
     ·rw[gp o_] at d;exact absurd d.1 s_
    show ((c::r).take (bQ fP r+1+1)).count 10=0
    rw[iu,List.take_add_one,d.1];refine wE λx a=>?_
    rcases eo.1 a with rfl|a
    ·intro e;rw[e] at b;exact absurd b d_
    rcases eu.1 a with a|a
    ·have:=tS _ _ x a;intro e;subst e;exact absurd this d_
    ·intro e;rw[e] at a;exact absurd a d_
   ·rename_i b;rw[if_neg b] at h;unfold iE at h ⊢
    cases f:cX.find? (λo=>cY (c::r) o) with
    |none=>rw[f] at h;simp at h
    |some o=>
     have j:=List.find?_some f;have m:=iz f
     have n:(c::r).take o.length=o:=by
      have g:=j;unfold cY at g;rw[nE _ _ (lQ j)] at g;simpa using g
     show ((c::r).take o.length).count 10=0
     rw[n];have:∀o∈cX,o.count 10=0:=d_
     exact this o m
def p7(x:Except Nat (List bC))(w:aG)(e:Ending)(w':aG):Prop:=
 Below w.heap.size w w'/\
  match x with
  |.error n=>e=cU 3 n
  |.ok ts=>∃v,e=aX v/\w'.ownsRow (w.heap.size+1) 160 4 v ts.length (ptoks ts)
def a4_(src:ByteArray)(w:aG)(TS:Except Nat (List bC))(gk:Nat)(v:aQ)(wr:aG):Prop:=
 ∃(k f:Nat) (ts:List bC),k<=src.size/\src.size+1<=k+f/\src.size<=k+gk/\ts.length<=k/\SC w.heap.size src k (bE (src.data.toList.take k)) wr/\Fr w.heap.size w wr/\wr.ownsRow (w.heap.size+1) 160 4 v ts.length (ptoks ts)/\TS=iY ts (eX f (src.data.toList.take k) (src.data.toList.drop k))
def Fr.to_below(h:Fr w.heap.size w w'):Below w.heap.size w w':=⟨h.os,h.tape,h.output,h.size,λk a=>h.block k a o_⟩
def p6(a:ByteArray)(w:World)(hg:NTabs w)(U:PTabs w)(hs:a.size<=2000):
 Calls prog 90 #[.string a] w (p7 (iD a.data.toList) w):=by
 obtain⟨i0,H,Z,ak,af⟩:=info_parts aC_;have B:=hg.big;have h0:SC w.heap.size a 0 (bE (a.data.toList.take 0)) (w.alloc (.cells #[.string a,.int .i64 0,.int .i64 1] 234)):=aN _ _ rfl _;have l:=aB (RO w.heap.size a 0 (w.alloc (.cells #[.string a,.int .i64 0,.int .i64 1] 234)) h0 o_ (ft _))
 simp only[List.drop_zero,ge] at l;obtain⟨T,F⟩:=E_ (Hs.blankL a.size a.data.toList);have al:T<=a.size:=by have:=xS a.size a.data.toList;rw[F];simpa using this
 rw[<-F] at l;obtain⟨D,s⟩:=E_ (iD a.data.toList)
 have n:Hid (D=eX (a.size+1) (a.data.toList.take T) (a.data.toList.drop T)):=by
  show _=_
  rw[s];unfold iD;rw[show a.data.toList.length=a.size by simp,<-F]
 rw[<-s];have ad:Hid (Fr w.heap.size w (w.alloc (.cells #[.string a,.int .i64 0,.int .i64 1] 234))):=(Fr.refl _ _).alloc _;have HG:=aB hg;have HM:=aB U;clear h0 hg U F s;go_enter func90,ntmps90;go_wp2_with fail;refine l.out.mono ?_;rintro e w1 ⟨rfl,ag,an⟩;have HI:Hid (a4_ a w D a.size (.slice none 0 0) w1):=⟨T,a.size+1,[],al,o_,o_,s_,ag,ad.out.trans an,World.ownsRow_nil _ _ _ _,by rw[n.out,FH]⟩
 clear ag an l n ad;go_wp2_with fail;go_loopg [4] a.size (λgk v wr=>a4_ a w D gk v wr)
 case atStart=>exact HI.out
 case round=>
  obtain⟨k,f,u,hk,hf,bb,ba,K,Q,g,s⟩:=hrel
  have hL:bE (a.data.toList.take k)<=k+1:=by
   have:=qN (a.data.toList.take k);have:=List.length_take_le k a.data.toList;omega
  obtain⟨h0,c0,c1,c2,f1,f2⟩:=K.cells;have az:=Q.size;have av:=aB K;have y:=aB Q;have n:=aB s;obtain⟨x,c,rfl⟩:=M0 g;have G:∀k,(Value.slice x u.length c).ownBlock=some k->w.heap.size+1<=k:=cT g;clear HI K Q s;by_cases Y:k<a.size
  ·obtain⟨f,rfl⟩:∃f',f=f'+1:=⟨f-1,o_⟩
   obtain⟨j,rfl⟩:∃j,gk=j+1:=⟨gk-1,o_⟩
   have aj:decide ((k:Int)<(a.size:Int))=true:=decide_eq_true o_
   have hl:(a.data.toList.drop k).length=a.size-k:=s_
   have E:=aB (J8 w.heap.size a k (bE (a.data.toList.take k)) wr av.out (HG.out.fr y.out B) (HM.out.fr y.out B) B o_ Y)
   cases o:(cH (a.data.toList.drop k)).ok
   ·have HF:Hid (D=.error (bE (a.data.toList.take k))):=by
     show _=_
     rw[n.out,nI _ _ _ o_ o];rfl
    have P:=aB o;clear n hl o;generalize bE (a.data.toList.take k)=L at*;go_wp2_with fail;refine E.out.mono ?_;rintro e w2 ⟨q,⟨h,_,_⟩|⟨h,rfl⟩⟩
    ·rw[P.out] at h;cases h
    have A:=aB (y.out.trans q);clear q h E;go_wp2_with fail;rw[HF.out];exact⟨rfl,A.out.to_below,rfl⟩
   ·have ao:=wK _ o;rw[hl] at ao;have am:=WI _ o;obtain⟨m,U⟩:=E_ (k+(cH (a.data.toList.drop k)).size+Hs.blankL a.size (a.data.toList.drop (k+(cH (a.data.toList.drop k)).size)))
    have aq:m<=a.size:=by
     have:=xS a.size (a.data.toList.drop (k+(cH (a.data.toList.drop k)).size));rw[gw,show a.data.toList.length=a.size by simp] at this
     omega
    have HT:=j7 a k f Y o m U
    have HF:Hid (D=iY (u++[{ sort:=(cH (a.data.toList.drop k)).sort,x_:=(cH (a.data.toList.drop k)).x_,l_:=bE (a.data.toList.take k) }]) (eX f (a.data.toList.take m) (a.data.toList.drop m))):=by
     show _=_
     rw[n.out,HT,CN]
    have X:bE (a.data.toList.take (k+(cH (a.data.toList.drop k)).size))=bE (a.data.toList.take k):=by
     rw[List.take_add,kG,am];rfl
    have l:=aB (λW (hW:SC w.heap.size a (k+(cH (a.data.toList.drop k)).size) (bE (a.data.toList.take (k+(cH (a.data.toList.drop k)).size))) W)=>RO w.heap.size a _ W hW o_ o_)
    rw[X] at l;simp only[<-U] at l;have P:=aB o;have ay:k<m:=o_
    clear n hl o HT am X U;generalize cH (a.data.toList.drop k)=r at*;obtain⟨pa,S⟩:=E_ (psort r.sort);obtain⟨pb,I⟩:=E_ (pval ⟨r.sort,r.x_,bE (a.data.toList.take k)⟩);have ac:Hid (oX ⟨r.sort,r.x_,bE (a.data.toList.take k)⟩=.agg #[.int .i64 pa,.string (bs r.x_),.int .i64 pb,.int .i64 (bE (a.data.toList.take k))]):=by show _=_;rw[S,I];rfl
    have ap:Hid (ptok ⟨r.sort,r.x_,bE (a.data.toList.take k)⟩=[.int .i64 pa,.string (bs r.x_),.int .i64 pb,.int .i64 (bE (a.data.toList.take k))]):=by show _=_;rw[S,I];rfl
    clear S I;generalize bE (a.data.toList.take k)=L at*;have O:=aB G;have ah:=aB g;clear g G;go_wp2_with fail;refine E.out.mono ?_;rintro e w2 ⟨q,⟨h,rfl,J⟩|⟨h,rfl⟩⟩
    rotate_left
    ·rw[P.out] at h;cases h
    rw[ac.out];have t:=aY (w1:=w2) ah.out λi H=>q.block i (cQ ah.out i H) (by have:=O.out i H;omega)
    have A:=aB (y.out.trans q);have aa:=aB J;have ax:=A.out.size;have ae:=aC J;clear q h J E ac;go_wp2_with (at_builtin;refine wpList_append_lies _ r_ _ _ 105 r_ (w.heap.size+1) 160 i0 _ 4 40 underlying105 H Z ak af rfl d_ _ _ _ r_ (t.alloc _) ⟨w2.heap.size,0,none⟩ 1 1 [.int .i64 pa,.string (bs r.x_),.int .i64 pb,.int .i64 L] r_ r_ (LR _ _ _ _ _) (SO _ _ _ _) d_ (by unfold maxLen;omega) o_ t_ (w2.heap.size+1) s_ ?_)
    intro g7 p V d b C ar;have N:=aB ((A.out.alloc _).grown b (λk hk=>by have:=O.out k hk;omega))
    have aw:Hid (SC w.heap.size a (k+r.size) L V):=by
     show _=_
     rw[b.block _ t_ (λe=>by have:=O.out _ e.symm;omega),ek _ _ _ ae]
     exact aa.out
    have z:Hid (V.ownsRow (w.heap.size+1) 160 4 (.slice (some ⟨g7,0,none⟩) (u.length+1) p) (u++[(⟨r.sort,r.x_,L⟩:bC)]).length (ptoks (u++[⟨r.sort,r.x_,L⟩]))):=by
     rw[FG,ap.out,el];exact d
    have ai:=aB (l.out V aw.out);clear t d b C aa A l;go_wp2_with fail;refine ai.out.mono ?_;rintro e w8 ⟨rfl,ab,M⟩
    have au:Hid (a4_ a w D j (.slice (some ⟨g7,0,none⟩) (u.length+1) p) w8):=by
     refine⟨m,f,u++[⟨r.sort,r.x_,L⟩],aq,o_,o_,t_,ab,N.out.trans M,?_,HF.out⟩
     exact aY z.out λi H=>M.block i (cQ z.out i H) (by have:=cT z.out i H;omega)
    clear ab M ai;go_wp2_with fail;go_roundg j
    case measure=>omega
    case rel=>exact au.out
  ·obtain⟨f,rfl⟩:∃f',f=f'+1:=⟨f-1,o_⟩
   have HF:Hid (D=.ok (u++[{ sort:=101,x_:=[],l_:=bE (a.data.toList.take k) }])):=by
    show _=_
    rw[n.out,nH _ _ _ t_];rfl
   have aj:decide ((k:Int)<(a.size:Int))=false:=decide_eq_false o_
   clear n;generalize bE (a.data.toList.take k)=L at*;go_wp2_with (at_builtin;refine wpList_append_lies _ r_ _ _ 105 r_ (w.heap.size+1) 160 i0 _ 4 40 underlying105 H Z ak af rfl d_ _ _ _ r_ (g.alloc _) ⟨wr.heap.size,0,none⟩ 1 1 [.int .i64 4,.string ⟨#[]⟩,.int .i64 0,.int .i64 L] r_ r_ (LR _ _ _ _ _) (SO _ _ _ _) d_ (by unfold maxLen;omega) o_ t_ (wr.heap.size+1) s_ ?_)
   intro g7 p V d b C ar;have N:=aB ((y.out.alloc _).grown b (λk hk=>by have:=G k hk;omega))
   have z:Hid (V.ownsRow (w.heap.size+1) 160 4 (.slice (some ⟨g7,0,none⟩) (u.length+1) p) (u++[(⟨101,[],L⟩:bC)]).length (ptoks (u++[⟨101,[],L⟩]))):=by
    rw[FG,el];exact d
   clear g d b C G;go_wp2_with fail;go_ret;rw[HF.out];exact⟨N.out.to_below,_,rfl,z.out⟩
def YX(a:ByteArray)(w:aG)(_hs:a.size<=maxLen):
 Calls prog 88 #[.string a] w λe d=>d=w/\((a.size<=2000/\e=aX (.tuple #[]))\/(2000<a.size/\e=cU 1 0)):=by
 by_cases h:a.size<=2000
 ·have c:decide ((2000:Int)<(a.size:Int))=false:=decide_eq_false o_
  go_in
  go_wp2
  go_end0;exact⟨rfl,d7 ⟨h,rfl⟩⟩
 ·have c:decide ((2000:Int)<(a.size:Int))=true:=decide_eq_true o_
  go_in
  go_wp2_with (go_at_call 94;refine(gW 1 0 _).mono ?_;rintro e f ⟨rfl,b⟩;obtain rfl:=b.symm)
  exact⟨rfl,rfl,d6 ⟨o_,rfl⟩⟩
def OL{c:Nat}{x:UInt8}(h:x∈l.take c):∃i,i<c/\l[i]?=some x:=by
 obtain⟨i,b,e⟩:=List.mem_iff_getElem.1 h;have a:=b;rw[g8] at a;refine⟨i,o_,?_⟩
 rw[List.getElem_take] at e;rw[fh o_,e]
def zE{lo hi:Nat}(h:dN l i lo hi=true){x:UInt8}(a:l[i]?=some x):lo<=x.toNat:=by
 unfold dN at h;rw[a] at h;simp at h;exact h.1
def VJ(h:2<=bK l):(l.take (bK l)).count 10=0:=by
 refine wE λx o=>?_
 obtain⟨i,c,e⟩:=OL o;suffices 128<=x.toNat by intro e;rw[e] at this;exact absurd this d_
 revert h c
 unfold bK;cases m:l[0]? with
 |none=>simp
 |some b=>
  simp only;have d:i=0->x=b:=λg=>by subst g;rw[m] at e;exact(Option.some.inj e).symm
  split
  ·intro h;omega
  ·rename_i k;split
   ·rename_i f;split
    ·rename_i a;intro _ c;match i,c with
     |0,_=>rw[d rfl];omega
     |1,_=>exact zE a e
    ·intro h;omega
   ·split
    ·rename_i n;by_cases a:(dN l 1 (if b.toNat=224 then 160 else 128) (if b.toNat=237 then 159 else 191) && dN l 2 128 191)=true
     ·rw[if_pos a];rw[fy] at a;intro _ c;match i,c with
      |0,_=>rw[d rfl];omega
      |1,_=>have:=zE a.1 e;split at this<;>omega
      |2,_=>exact zE a.2 e
     ·rw[if_neg a];intro h;omega
    ·split
     ·rename_i j;by_cases a:(dN l 1 (if b.toNat=240 then 144 else 128) (if b.toNat=244 then 143 else 191) && dN l 2 128 191 && dN l 3 128 191)=true
      ·rw[if_pos a];rw[fy,fy] at a;intro _ c;match i,c with
       |0,_=>rw[d rfl];omega
       |1,_=>have:=zE a.1.1 e;split at this<;>omega
       |2,_=>exact zE a.1.2 e
       |3,_=>exact zE a.2 e
      ·rw[if_neg a];intro h;omega
     ·intro h;omega
def ce_(n a b c d:Nat)(e:a<256):(Lib.decodeN n a b c d).1<=1114111:=by
 unfold Lib.decodeN;repeat' split
 all_goals (simp only;omega)
def cU_(a:ByteArray)(k:Nat)(p:k<a.size):∃r z,Lib.decodeGo (a.extract k a.size)=(r,z)/\r<=1114111/\
 ((bK (a.data.toList.drop k)=0/\r=65533/\z=1)\/(bK (a.data.toList.drop k)≠0/\z=bK (a.data.toList.drop k)/\¬(r=65533/\z=1)/\(r=10↔a[k].toNat=10))):=by
 have m:(a.extract k a.size).size=a.size-k:=s_
 have b:0<(a.extract k a.size).size:=o_
 have j:((a.extract k a.size).get! 0).toNat=a[k].toNat:=by rw[qB _ 0 b];simp[ByteArray.getElem_extract]
 have f:=ci_ (a.extract k a.size) b;rw[oI] at f
 have h:Lib.decodeGo (a.extract k a.size)=Lib.decodeN (a.extract k a.size).size ((a.extract k a.size).get! 0).toNat ((a.extract k a.size).get! 1).toNat ((a.extract k a.size).get! 2).toNat ((a.extract k a.size).get! 3).toNat:=by
  unfold Lib.decodeGo;rw[if_neg o_,Lib.decode_at];rfl
 obtain⟨g,d⟩:=aQ_ (a.extract k a.size).size ((a.extract k a.size).get! 0).toNat ((a.extract k a.size).get! 1).toNat ((a.extract k a.size).get! 2).toNat ((a.extract k a.size).get! 3).toNat (jh _) (jh _) (jh _) (jh _);have i:=ce_ (a.extract k a.size).size ((a.extract k a.size).get! 0).toNat ((a.extract k a.size).get! 1).toNat ((a.extract k a.size).get! 2).toNat ((a.extract k a.size).get! 3).toNat (jh _);rw[<-f] at g d;rw[<-h] at g d i;rw[j] at d;clear h f;generalize Lib.decodeGo (a.extract k a.size)=D at*;obtain⟨r,z⟩:=D;refine⟨r,z,rfl,i,?_⟩;by_cases e:bK (a.data.toList.drop k)=0
 ·have:=g e;cases this;exact d7 ⟨e,rfl,rfl⟩
 ·obtain⟨n,l,o⟩:=d e;have c:z=bK (a.data.toList.drop k):=n;exact d6 ⟨e,c,by rw[c];exact l,o⟩
def DN(h:Lib.Utf8Tabs 1 2 w)(a:Below w.heap.size w w')(e:9<=w.heap.size):Lib.Utf8Tabs 1 2 w':=
 ⟨λc d=>(a.cell (p:=(aH 1 c)) (by show 1<_;omega)).trans (h.1 c d),λi b=>⟨(a.cell (p:=(aH 2 (2*i))) (by show 2<_;omega)).trans (h.2 i b).1,(a.cell (p:=(aH 2 (2*i+1))) (by show 2<_;omega)).trans (h.2 i b).2⟩⟩
def cb_(x:Option Nat)(l:cC)(w:aG)(e:Ending)(w':aG):Prop:=
 Below w.heap.size w w'/\
  match x with
  |none=>e=aX (.tuple #[])
  |some k=>e=cU 2 (bE (l.take k))
def ca_(a:ByteArray)(w:aG)(N:Lib.Utf8Tabs 1 2 w)(Y:9<=w.heap.size)(hs:a.size<=2000):
 Calls prog 89 #[.string a] w (cb_ (dZ a.size a.data.toList 0) a.data.toList w):=by
 have Q:=aB N;obtain⟨X,F⟩:=E_ (dZ a.size a.data.toList 0);rw[<-F];have H:Hid (X=dZ a.size (a.data.toList.drop 0) 0):=F;clear N F;go_in
 go_wp2_with fail;go_loopg [2,3,4,5] a.size (λgk lv iv _ _ wr=>∃k f:Nat,k<=a.size/\a.size<=k+f/\a.size<=k+gk/\iv=I_ k/\lv=I_ (bE (a.data.toList.take k))/\Below w.heap.size w wr/\Hid (X=dZ f (a.data.toList.drop k) k))
 case atStart=>exact⟨0,a.size,ft _,o_,o_,rfl,rfl,eh _ _,H⟩
 case round=>
  obtain⟨k,f,hk,hf,V,rfl,rfl,C,v⟩:=hrel
  have hL:bE (a.data.toList.take k)<=k+1:=by
   have:=qN (a.data.toList.take k);have:=List.length_take_le k a.data.toList;omega
  have s:=aB C;by_cases p:k<a.size
  ·obtain⟨f,rfl⟩:∃f',f=f'+1:=⟨f-1,o_⟩
   obtain⟨j,rfl⟩:∃j,gk=j+1:=⟨gk-1,o_⟩
   have d:0<(a.data.toList.drop k).length:=t_
   obtain⟨r,z,K,hr,hc⟩:=cU_ a k p;have t:=aB (utf8_DecodeRuneInString (a.extract k a.size) wr (DN Q C Y));rw[K] at t;clear K C;rcases hc with ⟨g,rfl,rfl⟩|⟨g,n,A,c⟩
   ·have u:Hid (X=some k):=by show _=_;rw[v.out,RL _ _ _ d g]
    generalize x:bE (a.data.toList.take k)=L at*;have G:=aB x;clear v g d x;go_wp2_with fail;refine t.mono ?_;rintro e J ⟨rfl,b⟩;have h:=aB (s.trans (b.mono s.size));clear b t;go_wp2_with (go_at_call 94;refine(gW 2 L _).mono ?_;rintro e w3 ⟨rfl,Z⟩;obtain rfl:=Z.symm)
    rw[u.out];exact⟨rfl,h,congrArg (cU 2) G.symm⟩
   ·have u:Hid (X=dZ f (a.data.toList.drop (k+z)) (k+z)):=by
     show _=_
     rw[v.out,NS _ _ _ d g,ix,<-n]
    have W:z<=a.size-k:=by rw[n];have:=X4 (a.data.toList.drop k);simpa using this
    have U:1<=z:=o_
    have B:bE (a.data.toList.take (k+z))=bE (a.data.toList.take k)+if r=10 then 1 else 0:=by
     by_cases h2:2<=z
     ·have I:=VJ (l:=a.data.toList.drop k) o_
      rw[<-n] at I;rw[List.take_add,kG,I];rw[if_neg];intro e;have S:=c.1 e
      have O:a[k]∈(a.data.toList.drop k).take z:=by
       rw[lK a k p];obtain⟨y,rfl⟩:∃y,z=y+1:=⟨z-1,o_⟩
       rw[iu];exact fw ..
      exact List.count_eq_zero.1 I (by have:a[k]=10:=jm.1 S;rw[this] at O;exact O)
     ·obtain rfl:z=1:=o_
      rw[LX a k p];congr 1
      by_cases D:r=10
      ·rw[if_pos D,if_pos (jm.1 (c.1 D))]
      ·rw[if_neg D,if_neg (λe=>D (c.2 (by rw[e];rfl)))]
    have i:=aB B;generalize bE (a.data.toList.take k)=L at*
    have o:((r:Int)==65533)=false\/((r:Int)==65533)=true/\((z:Int)==1)=false:=by
     by_cases T:r=65533
     ·refine d6 ⟨t_,?_⟩
      simp;intro e;exact A ⟨T,o_⟩
     ·exact d7 t_
    have E:(a.data.toList.drop k).length=a.size-k:=s_
    clear v g d n c B A E;by_cases m:r=10
    ·have e1:((r:Int)==10)=true:=t_
     have P:((r:Int)==65533)=false:=t_
     have q:Hid (bE (a.data.toList.take (k+z))=L+1):=by show _=_;rw[i.out,if_pos m]
     clear o m i;go_wp2_with fail;refine t.mono ?_;rintro e J ⟨rfl,b⟩;have h:=aB (s.trans (b.mono s.size));clear b t;go_wp2
     go_roundg j
     case measure=>omega
     case rel=>exact⟨k+z,f,o_,o_,o_,by go_num,by rw[q.out];go_num,h,u⟩
    ·have e1:((r:Int)==10)=false:=t_
     have q:Hid (bE (a.data.toList.take (k+z))=L):=by show _=_;rw[i.out,if_neg m];rfl
     clear m i;rcases o with P|⟨P,e3⟩
     all_goals
      go_wp2_with fail;refine t.mono ?_;rintro e J ⟨rfl,b⟩;have h:=aB (s.trans (b.mono s.size));clear b t;go_wp2
      go_roundg j
      case measure=>omega
      case rel=>exact⟨k+z,f,o_,o_,o_,by go_num,by rw[q.out],h,u⟩
  ·have u:Hid (X=none):=by show _=_;rw[v.out,RK _ _ _ t_]
   have M:decide ((k:Int)<(a.size:Int))=false:=decide_eq_false o_
   clear v C;generalize bE (a.data.toList.take k)=L at*;go_wp2
   go_end0;rw[u.out];exact⟨s,rfl⟩
structure fX(w:aG):Prop where
 n:NTabs w
 p:PTabs w
 u:Lib.Utf8Tabs 1 2 w
def fX.below(h:fX w)(a:Below w.heap.size w w'):fX w':=
 ⟨h.n.fr (sb:=w.heap.size) ⟨a.os,a.tape,a.output,a.size,λk b _=>a.block k b⟩ h.n.big,h.p.fr (sb:=w.heap.size) ⟨a.os,a.tape,a.output,a.size,λk b _=>a.block k b⟩ h.n.big,DN h.u a h.n.big⟩
def FineA.kid{m:Nat}{f k:aE}(h:Hs.FineA m f)(a:k∈f.y_):Hs.FineA m k:=λd=>by
 have b:=h (d+1);refine⟨?_,b.2.2 k a⟩;have c:=b.1;rw[cF] at c;have:=vP (f:=cF d) a;omega
def FineA.y_{m:Nat}{f:aE}(h:Hs.FineA m f)(d:Nat):f.y_.length<=m/\(f.y_.map (cF d)).sum<=m:=by
 have b:=(h (d+1)).1;have a:=(h 2).1;rw[cF] at b a;have c:f.y_.length<=(f.y_.map (cF 1)).sum:=qO 0 f.y_;exact⟨o_,o_⟩
def qH(l:cC):Except (Nat × Nat) (List bC):=
 if 2000<l.length then .error (1,0)
 else match dZ l.length l 0 with
  |some k=>.error (2,bE (l.take k))
  |none=>
   match iD l with
   |.error n=>.error (3,n)
   |.ok ts=>.ok ts
def FN(l:cC):cO l=match qH l with
 |.error f=>.error f
 |.ok a=>match nA a with
  |.error n=>.error (4,n)
  |.ok (b,_)=>.ok b:=by
 unfold cO qH;by_cases h:2000<l.length
 ·rw[if_pos h,if_pos h]
 ·rw[if_neg h,if_neg h];cases dZ l.length l 0 with
  |some k=>rfl
  |none=>
   cases iD l with
   |error n=>rfl
   |ok a=>rfl
def DE{ts:List bC}(h:qH l=.ok ts):iD l=.ok ts/\l.length<=2000:=by
 unfold qH at h;split at h
 ·cases h
 ·split at h
  ·cases h
  ·split at h
   ·cases h
   ·cases h;exact⟨by assumption,o_⟩
def LC{f:Nat × Nat}(h:qH l=.error f):f.1≠0:=by
 unfold qH at h;split at h
 ·cases h;simp
 ·split at h
  ·cases h;simp
  ·split at h
   ·cases h;simp
   ·cases h
def XR(l:cC)(w:aG)(e:Ending)(w':aG):Prop:=
 Below w.heap.size w w'/\
  match qH l with
  |.error f=>e=cU f.1 f.2
  |.ok ts=>∃v,e=aX (.agg #[v,I_ 0])/\w'.ownsRow w.heap.size 160 4 v ts.length (ptoks ts)
def yZ(l:cC)(w:aG)(e:Ending)(w':aG):Prop:=
 Below w.heap.size w w'/\((cE l=(0,0)/\∃v ks,e=aX v/\cO l=.ok ks/\FSl (Btw w.heap.size w'.heap.size) w' v ks)\/((cE l).1≠0/\e=cU (cE l).1 (cE l).2))
def YG{ks:List aE}(d:Nat)(h:sU ks=false)(b:∀f∈ks,1<=f.y_.length):lI d ks=(5,0):=by
 unfold lI;unfold sU lT at h;cases a:dT ks [109,97,105,110] with
 |none=>rfl
 |some m=>
  rw[a] at h;have g:=b m (iz a)
  have c:¬m.y_.length-1=0:=by
   intro e;rw[show (([109,97,105,110]:cC)==[108,101,110])=false by decide,show (([109,97,105,110]:cC)==[114,101,97,100])=false by decide] at h
   simp[e] at h
  show (if 1<m.y_.length then _ else _)=_
  rw[if_pos o_]
def aq_{ks:List aE}(d:Nat)(h:sU ks=true):lI d ks=((fL ks d [] ks ⟨[],0,0⟩).kind,(fL ks d [] ks ⟨[],0,0⟩).l_):=by
 unfold lI;unfold sU lT at h;rw[show (([109,97,105,110]:cC)==[108,101,110])=false by decide,show (([109,97,105,110]:cC)==[114,101,97,100])=false by decide] at h
 cases a:dT ks [109,97,105,110] with
 |none=>rw[a] at h;simp at h
 |some m=>
  rw[a] at h;simp at h;show (if 1<m.y_.length then _ else _)=_
  rw[if_neg o_]
def FSl.grow{G:bY}(h:FSl F w v fs)(e:∀b,F b->w'.heap[b]?=w.heap[b]?)(f:∀b,F b->G b):FSl G w' v fs:=by
 rcases h with h|⟨g,a,c,n,j,d,l,i,k,m⟩
 ·exact d7 h
 ·exact d6 ⟨g,a,c,n,j,f g d,by rw[e g d];exact l,i,k,m.mono λ_ _ h=>h.keep e f⟩
def v7{ts:List bC}(h:w.ownsRow b 160 4 v ts.length (ptoks ts))(k:0<ts.length):∃g c a,v=.slice (some (aH g 0)) ts.length c/\b<=g/\ts.length<=c/\w.heap[g]?=some (.cells a 160 (0,0))/\a.toList.take (ts.length*4)=ptoks ts:=by
 rcases h.2 with ⟨e,d⟩|⟨g,c,a,e,d,i,f,m,l,j⟩
 ·omega
 ·exact⟨g,c,a,e,d,f,i,j⟩
def xE(b:ByteArray)(w:aG)(X:fX w)(hs:b.size<=maxLen):
 Calls prog 56 #[.string b] w (XR b.data.toList w):=by
 have J:b.data.toList.length=b.size:=s_
 obtain⟨l,T⟩:=E_ (b.data.toList);rw[<-T] at J ⊢
 obtain⟨D,r⟩:=E_ (w.alloc (.cells #[bG,I_ 0] 107));have C:Below w.heap.size w D:=by rw[r];exact(eh _ _).alloc cL _
 have p:D.heap[w.heap.size]?=some (.cells #[bG,I_ 0] 107 (0,0)):=by rw[r];exact aN _ _ rfl _
 have Y:D.heap.size=w.heap.size+1:=by rw[r];simp
 have G:=aB (YX b D hs);have Z:=aB T;have N:=aB (X.below C);have f:=aB C;have U:=aB p;have O:=aB r;clear T X C p r;go_in
 go_wp2_with fail;rw[<-O.out];refine G.mono ?_;rintro e V ⟨Q,⟨B,rfl⟩|⟨B,rfl⟩⟩
 rotate_left
 ·obtain rfl:=Q.symm
  have A:Hid (qH l=.error (1,0)):=by
   show _=_
   unfold qH;rw[if_pos o_]
  go_wp2_with fail;exact⟨rfl,f,by rw[A.out];rfl⟩
 obtain rfl:=Q.symm;have M:=aB (ca_ b D N.u N.n.big B);rw[<-Z.out,<-J] at M;have z:¬2000<l.length:=o_
 clear Q G;go_wp2_with fail;refine M.mono ?_;rintro e V ⟨m,y⟩;cases j:dZ l.length l 0 with
 |some k=>
  rw[j] at y;obtain rfl:e=cU 2 (bE (l.take k)):=y;have A:Hid (qH l=.error (2,bE (l.take k))):=by show _=_;unfold qH;rw[if_neg z,j]
  have d:=aB (f.trans (m.mono f.size));clear m M j;go_wp2_with fail;exact⟨rfl,d,by rw[A.out];rfl⟩
 |none=>
  rw[j] at y;obtain rfl:e=aX (.tuple #[]):=y;have s:=aB (p6 b V (N.below m).n (N.below m).p B);rw[<-Z.out] at s;have d:=aB m
  have L:qH l=match iD l with
   |.error n=>.error (3,n)
   |.ok K=>.ok K:=by unfold qH;rw[if_neg z,j]
  have t:=aB L;clear m M j L;go_wp2_with fail;refine s.mono ?_;rintro e w2 ⟨q,u⟩;cases h:iD l with
  |error n=>
   rw[h] at u;obtain rfl:e=cU 3 n:=u;have A:Hid (qH l=.error (3,n)):=by show _=_;rw[t.out,h]
   have E:=aB (f.trans ((d.trans (q.mono d.size)).mono f.size));clear q s h t;go_wp2_with fail;exact⟨rfl,E,by rw[A.out];rfl⟩
  |ok K=>
   rw[h] at u;obtain⟨v,rfl,o⟩:=u
   obtain⟨x,c,rfl⟩:∃x c,v=.slice x K.length c:=by
    rcases o.2 with ⟨F,r2⟩|⟨g,H,I,F,_⟩
    ·exact⟨none,0,by rw[F,r2]⟩
    ·exact⟨_,_,F⟩
   have A:Hid (qH l=.ok K):=by show _=_;rw[t.out,h]
   have W:=d.size
   have a:w2.heap[w.heap.size]?=some (.cells #[bG,I_ 0] 107 (0,0)):=by
    rw[q.block _ o_,d.out.block _ o_];exact U
   have aa:=aC a;have m0:=aA a (i:=0) rfl;have m1:=aA a (i:=1) rfl;have fz:=aD a (i:=0);have ab:=aD a (i:=1);have E:=aB (f.trans ((d.trans (q.mono d.size)).mono f.size));have P:=aB o;clear o q s h t a;go_wp2
   refine bodyPost_ret (v:=.agg #[.slice x K.length c,I_ 0]) (by simp[results,results56,go_sem,m0,m1]) rfl ?_
   refine⟨(E.setCell s_ _).setCell s_ _,?_⟩
   rw[A.out];refine⟨_,rfl,?_⟩;have S:=P;rcases S.2 with hn|⟨g,H,I,F,r2,r3,r4⟩
   ·exact⟨S.1,d7 hn⟩
   ·refine⟨S.1,d6 ⟨g,H,I,F,o_,?_,r4⟩⟩
    rw[ei _ _ _ _ (by show g≠w.heap.size;omega),ei _ _ _ _ (by show g≠w.heap.size;omega)]
    exact r3
def LO(A:ByteArray)(w:aG)(hT:fX w)(hs:A.size<=maxLen):
 Calls prog 30 #[.string A] w (yZ A.data.toList w):=by
 have F:=aB (xE A w hT hs);obtain⟨l,hl⟩:=E_ (A.data.toList);rw[<-hl] at F ⊢
 clear hl hT;go_in
 go_wp2_with fail;refine F.mono ?_;rintro e E ⟨J,N⟩
 cases i:qH l with
  |error f=>
   rw[i] at N;obtain rfl:e=cU f.1 f.2:=N;have Q:Hid (cE l=f):=by show _=_;unfold cE;rw[FN,i]
   have HK:=aB (LC i);have y:=aB J;clear J F i;go_wp2_with fail;exact⟨rfl,y,by rw[Q.out];exact d6 ⟨HK,rfl⟩⟩
  |ok H=>
   rw[i] at N;obtain⟨v,rfl,O⟩:=N;have U:=(DE i).1;have ap:=(DE i).2;have h:=mT U
   have ac:cO l=match nA H with
    |.error n=>.error (4,n)
    |.ok (d,_)=>.ok d:=by rw[FN,i]
   have I:=aB ac;obtain⟨g,o,ai,rfl,hg,Y,D,P⟩:=v7 O h.1.some_;have aj:=aC D
   have af:PAt ⟨E.heap.size,g,o,H⟩ (E.alloc (.cells #[.slice (some (aH g 0)) H.length o,I_ 0] 107)) 0:=
    ⟨aN _ _ rfl _,⟨ai,eB _ _ aj _ D,P⟩,by show g≠E.heap.size;omega,h.1.some_,by show H.length<=3000;omega,Y,h.1,AD U⟩
   have HP:=aB (SB ⟨E.heap.size,g,o,H⟩ (E.alloc (.cells #[.slice (some (aH g 0)) H.length o,I_ 0] 107)) af (bZ.prog h.1.ok h.1.some_));have y:=aB J;clear O J F i U ac af D P h;go_wp2_with fail;refine HP.mono ?_;rintro e w3 ⟨m,L⟩;have S:Below E.heap.size E w3:=⟨m.os.trans rfl,m.tape.trans rfl,m.output.trans rfl,em s_ m.size,λk hk=>by rw[m.block k t_ (by show k≠E.heap.size;omega)];exact ek _ _ _ hk⟩
   have B:=aB (y.trans (S.mono y.size));cases r:nA H with
   |error n=>
    rw[r] at L;obtain rfl:e=cU 4 n:=L;have Q:Hid (cE l=(4,n)):=by show _=_;unfold cE;rw[I.out,r]
    clear m S HP r I;go_wp2_with fail;exact⟨rfl,B,by rw[Q.out];exact d6 ⟨s_,rfl⟩⟩
   |ok kq=>
    obtain⟨d,q⟩:=kq;rw[r] at L;obtain⟨_,v3,rfl,ae⟩:=L;have K:cO l=.ok d:=by rw[I.out,r]
    have a:=lP K;have Q:Hid (cE l=lI 2001 d):=by show _=_;unfold cE;rw[K]
    have aq:=FineL.len a;have T:∀f∈d,f.y_.length<=90000:=λf hf=>by have:=(FineA.y_ (FineL.mem a hf) 0).1;omega
    have ad:∀f∈d,∀k∈f.y_,fG 2001 k:=λf hf k hk=>mV 2001 k (FineA.kid (FineL.mem a hf) hk)
    have aa:∀f∈d,f.y_.length+(f.y_.map (cF 2001)).sum<=90000:=λf hf=>by have:=FineA.y_ (FineL.mem a hf) 2001;omega
    have u:FSl (Btw (E.alloc (.cells #[.slice (some (aH g 0)) H.length o,I_ 0] 107)).heap.size w3.heap.size) w3 v3 d:=ae
    obtain⟨fx,fc,rfl⟩:∃x c,v3=.slice x d.length c:=by
     rcases u.cells with ⟨h1,h2⟩|⟨g,o,h1,_⟩
     ·exact⟨none,0,by rw[h1,h2];rfl⟩
     ·exact⟨_,_,h1⟩
    have X:=aB u.y_;have HM:=aB (B3 d _ _ w3 o_ T u)
    have W:=aB u;have ab:=aB T;have ah:=aB ad;have Z:=aB aa;have ak:=aB K;clear m S HP r I ae K a T ad aa u;go_wp2_with fail;refine HM.mono ?_;rintro e w4 ⟨j,⟨z,rfl⟩|⟨z,rfl⟩⟩
    rotate_left
    ·have s:=aB (B.trans (j.mono B.size));have M:Hid (cE l=(5,0)):=by show _=_;rw[Q.out,YG 2001 z X.out]
     clear j z HM;go_wp2_with fail;exact⟨rfl,s,by rw[M.out];exact d6 ⟨d_,rfl⟩⟩
    have s:=aB (B.trans (j.mono B.size));have M:Hid (cE l=((fL d 2001 [] d ⟨[],0,0⟩).kind,(fL d 2001 [] d ⟨[],0,0⟩).l_)):=by show _=_;rw[Q.out,aq_ 2001 z]
    have HN:=aB (VF (E.alloc (.cells #[.slice (some (aH g 0)) H.length o,I_ 0] 107)).heap.size d (.slice fx d.length fc) w4 2001 o_ ab (W.grow (λb p=>j.block b p.2) λb p=>⟨p.1,ej p.2 j.size⟩) ah Z)
    have al:=aB (W.grow (G:=Btw w.heap.size w4.heap.size) (λb p=>j.block b p.2) λb p=>⟨by have h1:=p.1;have h2:=y.size;simp at h1;omega,ej p.2 j.size⟩)
    clear j z HM Q ab ah Z X W;generalize (fL d 2001 [] d ⟨[],0,0⟩).kind=kd at*;generalize (fL d 2001 [] d ⟨[],0,0⟩).l_=ld at*;go_wp2_with fail;refine HN.mono ?_;rintro e w5 ⟨t,⟨C,ag,rfl⟩|⟨C,rfl⟩⟩
    ·have V:=aB (s.trans (t.mono s.size));have ao:Hid (cE l=(0,0)):=by show _=_;rw[M.out,C,ag]
     have am:=aB (al.grow (G:=Btw w.heap.size w5.heap.size) (λb p=>t.block b p.2) λb p=>⟨p.1,ej p.2 t.size⟩)
     clear t C ag HN;go_wp2
     go_ret;exact⟨V,d7 ⟨ao,_,d,rfl,ak,am⟩⟩
    ·have V:=aB (s.trans (t.mono s.size));have an:=aB C;clear t C HN;go_wp2_with fail;exact⟨rfl,V,by rw[M.out];exact d6 ⟨an,rfl⟩⟩
def B5(a:ByteArray)(b:Nat)(w:aG)(h:fX w)(k:a.size<=maxLen)(n:w.cell? (aH b 0)=some (.string a))(_hbl:b<w.heap.size):
 Calls prog 34 #[aZ b] w λe j=>Below w.heap.size w j/\((cE a.data.toList=(0,0)/\e=aX (.tuple #[]))\/((cE a.data.toList).1≠0/\e=cU (cE a.data.toList).1 (cE a.data.toList).2)):=by
 have i:=aB (LO a w h k);unfold yZ at i;clear h;generalize cE a.data.toList=m at*;go_in
 go_wp2_with fail;refine i.mono ?_;rintro e l ⟨c,⟨d,v,_,rfl,_,_⟩|⟨d,rfl⟩⟩
 ·have g:=aB c;have f:=aB d;clear c d;go_wp2
  go_end0;exact⟨g,d7 ⟨f,rfl⟩⟩
 ·have g:=aB c;have f:=aB d;clear c d;go_wp2_with fail;exact⟨rfl,g,d6 ⟨f,rfl⟩⟩
def pN{o:Obj}(h:w.heap[b]?=some o):b<w.heap.size:=by
 rcases fu b w.heap.size with a|a
 ·exact a
 ·rw[ik a] at h;cases h
def kS{c:Array Value}(h:w.heap[b]?=some (.cells c e (0,0)))(a:c[i]?=some v):w.cell? (aH b i)=some v:=by
 simp[World.cell?,h,a]
def mN{c:Array Value}(h:w.heap[b]?=some (.cells c e (0,0))):w.frozen? (aH b i)=false:=by
 simp[World.frozen?,h]
def bu_(p q k n:Nat)(w:World)(b:w.heap[p]?=some (.cells #[.int .i64 0] 39 (0,0)))(c:w.heap[q]?=some (.cells #[.int .i64 0] 3 (0,0)))(a:p<q):
 Below p w (((w.setCell ⟨p,0,none⟩ (.int .i64 k)).setCell ⟨q,0,none⟩ (.int .i64 n)).alloc (.cells #[.int .i64 k,.int .i64 n] 104)).drew
 /\(((w.setCell ⟨p,0,none⟩ (.int .i64 k)).setCell ⟨q,0,none⟩ (.int .i64 n)).alloc (.cells #[.int .i64 k,.int .i64 n] 104)).drew.cell? ⟨p,0,none⟩=some (.int .i64 k)
 /\(((w.setCell ⟨p,0,none⟩ (.int .i64 k)).setCell ⟨q,0,none⟩ (.int .i64 n)).alloc (.cells #[.int .i64 k,.int .i64 n] 104)).drew.cell? ⟨q,0,none⟩=some (.int .i64 n):=by
 have i:w.cell? ⟨p,0,none⟩=some (.int .i64 0):=kS b rfl;have l:w.cell? ⟨q,0,none⟩=some (.int .i64 0):=kS c rfl;have e:=pN b;have g:=pN c;have h:¬p=q:=o_
 have j:¬q=p:=o_
 have f:¬p=w.heap.size:=o_
 have d:¬q=w.heap.size:=o_
 refine⟨((((eh p w).setCell (en p) _).setCell (il a) _).alloc t_ _).drew,?_,?_⟩
 ·simp[go_sem,i,e]
 ·simp[go_sem,l,g]
def o7(p q k n:Nat)(w:World)(b:w.heap[p]?=some (.cells #[.int .i64 0] 39 (0,0)))(c:w.heap[q]?=some (.cells #[.int .i64 0] 3 (0,0)))(a:p<q):
 Below p w (((w.setCell ⟨q,0,none⟩ (.int .i64 n)).setCell ⟨p,0,none⟩ (.int .i64 k)).alloc (.cells #[.int .i64 k,.int .i64 n] 104)).drew
 /\(((w.setCell ⟨q,0,none⟩ (.int .i64 n)).setCell ⟨p,0,none⟩ (.int .i64 k)).alloc (.cells #[.int .i64 k,.int .i64 n] 104)).drew.cell? ⟨p,0,none⟩=some (.int .i64 k)
 /\(((w.setCell ⟨q,0,none⟩ (.int .i64 n)).setCell ⟨p,0,none⟩ (.int .i64 k)).alloc (.cells #[.int .i64 k,.int .i64 n] 104)).drew.cell? ⟨q,0,none⟩=some (.int .i64 n):=by
 have i:w.cell? ⟨p,0,none⟩=some (.int .i64 0):=kS b rfl;have l:w.cell? ⟨q,0,none⟩=some (.int .i64 0):=kS c rfl;have e:=pN b;have g:=pN c;have h:¬p=q:=o_
 have j:¬q=p:=o_
 have f:¬p=w.heap.size:=o_
 have d:¬q=w.heap.size:=o_
 refine⟨((((eh p w).setCell (il a) _).setCell (en p) _).alloc t_ _).drew,?_,?_⟩
 ·simp[go_sem,i,e]
 ·simp[go_sem,l,g]
def bW_(v:aQ)(w:aG):(typeAssert (.iface 104 v) 20 104 true).run prog w=.ok (.tuple #[v,.bool true]) w:=k_
def BD(p q k n:Nat)(a:List PanicEntry)(w:aG)(c:w.heap[p]?=some (.cells #[I_ 0] 39 (0,0)))(b:w.heap[q]?=some (.cells #[I_ 0] 3 (0,0)))(d:p<q):
 CallsD prog 55 #[aZ p,aZ q] (.panicking ({ v:=.iface 104 (.agg #[I_ k,I_ n]),recovered:=false }::a)) w λe u f=>
  e=aX (.tuple #[])/\u=.panicking ({ v:=.iface 104 (.agg #[I_ k,I_ n]),recovered:=true }::a)/\Below p w f/\f.cell? (aH p 0)=some (I_ k)/\f.cell? (aH q 0)=some (I_ n):=by
 have H:=kS c (i:=0) rfl;have E:=kS b (i:=0) rfl;have B:=mN (i:=0) c;have C:=mN (i:=0) b;have F:=pN c;have G:=pN b;have A:=bW_;refine callsD_of_wpS func55 rfl λr D y=>?_
 apply wpS_seq
 apply wpS_region
 simp[wpOpsS,go_sem,recoverD,y,ntmps55,Exit.thenS];refine wpS_of_wp ?_;have t:¬p=q:=o_
 have z:¬q=p:=o_
 have x:¬p=w.heap.size:=o_
 have s:¬q=w.heap.size:=o_
 obtain⟨o,j,m⟩:=bu_ p q k n w c b d;obtain⟨g,l,h⟩:=o7 p q k n w c b d;clear c b;go_wp2_with fail;go_region
 all_goals
  go_wp2_with fail;first
  |exact⟨rfl,_,rfl,.tuple #[],by simp[results,results55],rfl,rfl,o,j,m⟩
  |exact⟨rfl,_,rfl,.tuple #[],by simp[results,results55],rfl,rfl,g,l,h⟩
def IA(p q:Addr)(w:aG):
 CallsD prog 55 #[.pointer (some p),.pointer (some q)] .returning w λe d c=>e=aX (.tuple #[])/\d=.returning/\c=w:=by
 refine callsD_of_wpS func55 rfl λa f b=>?_
 apply wpS_seq
 apply wpS_region
 simp[wpOpsS,go_sem,recoverD,b,ntmps55,Exit.thenS];refine wpS_of_wp ?_;go_wp2_with fail;exact⟨rfl,a.mode,rfl,.tuple #[],by simp[results,results55],rfl,b,rfl⟩
def iF(w:aG)(o a:Obj):((w.alloc o).alloc a).heap[w.heap.size]?=some o:=by
 rw[ek _ _ _ s_]
 show (w.heap.push o)[w.heap.size]?=_
 rw[Array.getElem?_push,if_pos rfl]
def fR(w:aG)(o a:Obj):((w.alloc o).alloc a).heap[w.heap.size+1]?=some a:=by
 show ((w.alloc o).heap.push a)[w.heap.size+1]?=_
 rw[Array.getElem?_push,if_pos s_]
def vZ(fn:Fn)(first a:Array Value)(w:aG):(Instr.makeFunc fn first a).run prog w=.ok (.func fn first a) w:=rfl
def UB(a:Nat × Nat)(b:Nat)(w:aG)
 (r:∀c,Below w.heap.size w c->Calls prog 34 #[aZ b] c λe n=>Below c.heap.size c n/\((a=(0,0)/\e=aX (.tuple #[]))\/(a.1≠0/\e=.panicked [{ v:=.iface 104 (.agg #[I_ a.1,I_ a.2]),recovered:=false }]))):
 Calls prog 28 #[.func (.func 34) #[] #[aZ b]] w λe n=>Below w.heap.size w n/\(a.1=0->a=(0,0))/\e=aX (.tuple #[I_ a.1,I_ a.2]):=by
 have u:=vZ;have j:Below w.heap.size w ((w.alloc (.cells #[I_ 0] 39)).alloc (.cells #[I_ 0] 3)):=((eh _ w).alloc cL _).alloc s_ _
 have t:=r _ j;clear r;go_enter_defers func28,ntmps28
 go_wp2_with fail;refine t.mono ?_;rintro e c ⟨d,k⟩;have m:c.heap[w.heap.size]?=some (.cells #[I_ 0] 39 (0,0)):=by rw[d.block _ t_];exact iF _ _ _
 have l:c.heap[w.heap.size+1]?=some (.cells #[I_ 0] 3 (0,0)):=by rw[d.block _ s_];exact fR _ _ _
 have s:Below w.heap.size w c:=j.trans (d.mono t_)
 clear d j t;rcases k with ⟨k,rfl⟩|⟨k,rfl⟩
 ·have q:=kS m (i:=0) rfl;have o:=kS l (i:=0) rfl;have A:=mN (i:=0) m;have B:=mN (i:=0) l;have C:=pN m;have D:=pN l;go_wp2_with fail;refine leaves_cons (f:=55) (args:= #[aZ w.heap.size,aZ (w.heap.size+1)]) s_ (by simp[go_sem]) ?_
  refine(IA (aH w.heap.size 0) (aH (w.heap.size+1) 0) _).mono ?_;rintro e x z ⟨rfl,rfl,rfl⟩;subst k;have g:Below w.heap.size w ((c.setCell (aH w.heap.size 0) (I_ 0)).setCell (aH (w.heap.size+1) 0) (I_ 0)):=(s.setCell cL _).setCell (Nat.le_succ _) _;simp[Leaves,settle,results,results28,go_sem,q,o];exact g
 ·have y:Hid (a.1=0->a=(0,0)):=λh=>absurd h k
  clear k;go_wp2_with fail;refine leaves_cons (f:=55) (args:= #[aZ w.heap.size,aZ (w.heap.size+1)]) s_ (by simp[go_sem]) ?_
  refine(BD w.heap.size (w.heap.size+1) a.1 a.2 [] _ m l (gj _)).mono ?_;rintro e x E ⟨rfl,rfl,p,q,o⟩;have g:=s.trans p;simp[Leaves,settle,results,results28,go_sem,q,o];exact⟨g,y⟩
def aP_(a:Nat × Nat)(c:ByteArray)(w:aG)
 (j:∀b,Below w.heap.size w b->b.cell? (aH w.heap.size 0)=some (.string c)->w.heap.size<b.heap.size->Calls prog 34 #[aZ w.heap.size] b λe i=>Below b.heap.size b i/\((a=(0,0)/\e=aX (.tuple #[]))\/(a.1≠0/\e=.panicked [{ v:=.iface 104 (.agg #[I_ a.1,I_ a.2]),recovered:=false }]))):
 Calls prog 12 #[.string c] w λe i=>Below w.heap.size w i/\(a.1=0->a=(0,0))/\e=aX (.tuple #[I_ a.1,I_ a.2]):=by
 have n:=vZ;have d:Below w.heap.size w (w.alloc (.cells #[.string c] 9)):=(eh _ w).alloc cL _
 have k:=UB a w.heap.size (w.alloc (.cells #[.string c] 9)) λb f=>j b (d.trans (f.mono s_)) (by
  rw[f.cell s_]
  simp[go_sem]) (ej s_ f.size)
 clear j;go_in
 go_wp2_with fail;refine k.mono ?_;rintro e b ⟨g,l,rfl⟩;have h:=d.trans (g.mono s_)
 have m:Hid (a.1=0->a=(0,0)):=l;clear d g k l;go_wp2
 go_ret2
 exact⟨h,m,rfl⟩
end Go.Proofs.YtlflgmdcghfngaaGreatDoor
