/- Contracts of the program: strings and marks. -/
import Derived.Test.YtddnpoiiimjpcaaGreatDoorB05
import Derived.Test.YtddnpoiiimjpcaaGreatDoorP09
set_option linter.defProp false
set_option maxRecDepth 100000
set_option maxHeartbeats 4000000
namespace Go.Proofs.YtddnpoiiimjpcaaGreatDoor
open Hs
open _root_.Go.Proofs.Tryz
open Instr(typeAssert)
open Go.RowKit
variable{fs:List aC}{b i:Nat}{e:TypeId}{a:aC}{w w':aG}{v:aQ}{s:bC}{F:bX}{l:cE}
abbrev ZTok(w:aG)(b:Nat):Prop:=w.heap[b]?=some (.cells #[I_ 0,.string ⟨#[]⟩,I_ 0,I_ 0] 174 (0,0))
def E0(sb:Nat)(a:ByteArray)(n L:Nat)(w:aG)(h:SC sb a n L w)(hs:a.size<=2000000000)(hn:n<a.size):
 Calls prog 185 #[bE sb] w (z8 sb a n L w (oO (a.data.toList.drop (n+1)))):=by
 obtain⟨m,Y⟩:=E_ (n+1);rw[<-Y];obtain⟨f,y⟩:=E_ (bQ fO (a.data.toList.drop m))
 have ak:f<=a.size-m:=by
  have:=lH fO (a.data.toList.drop m);rw[y];simpa using this
 obtain⟨k,hk⟩:=E_ (m+f);have ad:=(SC.cells h).1;have z:w.heap.size≠sb:=o_
 have h1:SC sb a n L (w.alloc (.cells #[I_ 0,.string ⟨#[]⟩,I_ 0,I_ 0] 174)):=by unfold SC;rw[em _ _ _ ad];exact h
 have HZ:Hid (ZTok (w.alloc (.cells #[I_ 0,.string ⟨#[]⟩,I_ 0,I_ 0] 174)) w.heap.size):=aN _ _ rfl _;have K:=aB (pK sb a n L 1 (w.alloc (.cells #[I_ 0,.string ⟨#[]⟩,I_ 0,I_ 0] 174)) h1 hs o_)
 rw[<-Y] at K;have E:=aB (λw=>wF fO 208 (λ_ _=>rfl) NV (a.extract m a.size) w (by rw[tF];omega))
 rw[oB,<-y] at E;obtain⟨B,s⟩:=E_ ((a.data.toList.drop m).take f);have af:(bs B).size=f:=by rw[gJ,s,gw];simp;omega
 obtain⟨ok,b⟩:=E_ ((decide ((a.data.toList.drop m)[f]?=some 34) && decide (f<=100)))
 have HW:Hid (oO (a.data.toList.drop m)={ sort:=115,x_:=B,size:=f+2,ok:=ok }):=by
  show _=_
  unfold oO;rw[<-y,<-s,<-b]
 rw[HW.out];have ab:=aB s;have g:=aB b;have P:Hid (Fr sb w (w.alloc (.cells #[I_ 0,.string ⟨#[]⟩,I_ 0,I_ 0] 174))):=(Fr.refl _ _).alloc _;have HM:=aB Y;have O:=aB hk;have ah:m<=a.size:=o_
 have ag:k<=a.size:=o_
 clear h h1 y s HW b Y hk;generalize c:({ sort:=115,x_:=B,size:=f+2,ok:=ok }:qL)=rr;have j:=aB c;clear c;go_in
 go_wp2_with fail;refine K.mono ?_;rintro e w1 ⟨rfl,J,M⟩;have T:=aB (M.keepS HZ z);have HZ1d:Hid (ZTok w1.drew w.heap.size):=T;have t:=aB (pK sb a m L f w1.drew J hs o_)
 rw[<-O.out] at t;rw[<-ab.out] at t;have N:=aB (P.trans M);obtain⟨h0,c0,X,V,Z,W⟩:=J.cells;clear J M K HZ P;go_wp2_with fail;go_cut [3] (λv wc=>v=.string (bs B)/\SC sb a (k) L wc/\Fr sb w wc/\ZTok wc w.heap.size)
 case first=>
  go_region_law (first|(go_simp;go_at_call 179;refine(E _).mono ?_;rintro e w2 ⟨rfl,I⟩;obtain rfl:=I.symm)|(go_simp;go_at_call 203;refine t.mono ?_;rintro e w2 ⟨rfl,o,p⟩;have u:=aB o;have r:=aB (N.drew.trans p);have x:=aB (p.keepS HZ1d z);clear o p))
  all_goals
   go_wp2_with fail;go_meet
   case rel=>exact⟨rfl,u,r,x⟩
 case rest=>
  obtain⟨rfl,o,p,Q⟩:=hcut;clear c0 X V Z W h0;obtain⟨h0,c0,X,V,Z,W⟩:=o.cells;have u:=aB o;have r:=aB p;have x:=aB Q;clear o p Q t E T HZ1d N;have H:=aB (λq=>tE sb a (k) L (wc.drewN q) u)
  by_cases A:f<=100
  rotate_left
  ·have e1:decide ((100:Int)<(f:Int))=true:=decide_eq_true o_
   have b:ok=false:=by rw[g.out,decide_eq_false A,Bool.and_false]
   subst b;have c:=j;clear j g;subst c;go_wp2_with fail;go_quiet (fail)
   go_wp2_with fail;refine(H _).mono ?_;rintro e w3 ⟨rfl,I⟩;obtain rfl:=I.symm;go_wp2_with fail;exact⟨rfl,r.drewN _,d6 ⟨rfl,rfl⟩⟩
  have e1:decide ((100:Int)<(f:Int))=false:=decide_eq_false o_
  by_cases ai:k=a.size
  ·have e2:((k:Int)==(a.size:Int))=true:=t_
   have b:ok=false:=by
    rw[g.out,gi (by have:=O.out;simp;omega)];simp
   subst b;have c:=j;clear j g;subst c;go_wp2_with fail;go_quiet (fail)
   go_wp2_with fail;refine(H _).mono ?_;rintro e w3 ⟨rfl,I⟩;obtain rfl:=I.symm;go_wp2_with fail;exact⟨rfl,r.drewN _,d6 ⟨rfl,rfl⟩⟩
  have aa:k<a.size:=o_
  have e2:((k:Int)==(a.size:Int))=false:=t_
  have hb:(a[k].toNat:Int)<=255:=oW _
  have l:(a.data.toList.drop m)[f]?=some a[k]:=by
   have e:=IZ a m f (by rw[<-O.out];exact aa)
   rw[e];congr 1
   simp only[O.out]
  by_cases F:a[k].toNat=34
  ·have b:ok=true:=by
    rw[g.out,l,decide_eq_true A,Bool.and_true];exact decide_eq_true (congrArg some (jk.1 F))
   subst b;have c:=j;clear j g l;subst c;have S:((a[k].toNat:Int) != 34)=false:=t_
   have aj:w.heap.size<wc.heap.size:=aD x;have U:=aB (λq=>pK sb a (k) L 1 (wc.drewN q) u hs o_)
   clear F;go_wp2_with fail;go_quiet (fail)
   go_wp2_with fail;refine(U _).mono ?_;rintro e w3 ⟨rfl,D,G⟩;have d:=aB ((((Fr.refl sb wc).drewN _).trans G).keepS x z);have ae:=aB ((r.drewN _).trans G);have ac:=aB D;have z0:=aA d (i:=0) rfl;have z1:=aA d (i:=1) rfl;have z2:=aA d (i:=2) rfl;have z3:=aA d (i:=3) rfl;have y0:=aE (i:=0) d;have y1:=aE (i:=1) d;have y2:=aE (i:=2) d;have y3:=aE (i:=3) d;have al:=aD d;clear c0 X V Z W h0;obtain⟨h0,c0,X,V,Z,W⟩:=D.cells;clear D G U;go_wp2
   refine bodyPost_ret (v:=.agg #[I_ 3,.string (bs B),I_ 0,I_ L]) (by simp[results,results185,go_sem,z0,z1,z2,z3]) rfl ?_
   have C:=nJ ae ac cK z (I_ 3) (.string (bs B)) (I_ 0) (I_ L);exact⟨C.1,d7 ⟨rfl,rfl,by rw[show n+(f+2)=k+1 by have:=HM.out;have:=O.out;omega];exact C.2⟩⟩
  ·have b:ok=false:=by
    rw[g.out,l,decide_eq_false (λe=>F (by rw[Option.some.inj e];rfl))];rfl
   subst b;have c:=j;clear j g l;subst c;have S:((a[k].toNat:Int) != 34)=true:=t_
   go_wp2_with fail;go_quiet (fail)
   go_wp2_with fail;refine(H _).mono ?_;rintro e w3 ⟨rfl,I⟩;obtain rfl:=I.symm;go_wp2_with fail;exact⟨rfl,r.drewN _,d6 ⟨rfl,rfl⟩⟩
structure PTabs(w:aG):Prop where
 tab:∃t fr,w.heap[(6:Nat)]?=some (.cells #[.string ⟨#[61,61]⟩,.string ⟨#[33,61]⟩,.string ⟨#[60,61]⟩,.string ⟨#[38,38]⟩,.string ⟨#[124,124]⟩,.string ⟨#[40]⟩,.string ⟨#[41]⟩,.string ⟨#[123]⟩,.string ⟨#[125]⟩,.string ⟨#[91]⟩,.string ⟨#[93]⟩,.string ⟨#[44]⟩,.string ⟨#[59]⟩,.string ⟨#[61]⟩,.string ⟨#[60]⟩,.string ⟨#[43]⟩,.string ⟨#[45]⟩,.string ⟨#[42]⟩,.string ⟨#[47]⟩,.string ⟨#[37]⟩,.string ⟨#[33]⟩] t fr)
 big:9<=w.heap.size
def PTabs.fr{sb:Nat}(h:PTabs w)(a:Fr sb w w')(d:9<=sb):PTabs w':=by
 obtain⟨t,c,b⟩:=h.tab;have:=h.big;have:=a.size;exact⟨⟨t,c,by rw[a.block 6 o_ o_];exact b⟩,o_⟩
abbrev iA:Value:=.agg #[.string ⟨#[61,61]⟩,.string ⟨#[33,61]⟩,.string ⟨#[60,61]⟩,.string ⟨#[38,38]⟩,.string ⟨#[124,124]⟩,.string ⟨#[40]⟩,.string ⟨#[41]⟩,.string ⟨#[123]⟩,.string ⟨#[125]⟩,.string ⟨#[91]⟩,.string ⟨#[93]⟩,.string ⟨#[44]⟩,.string ⟨#[59]⟩,.string ⟨#[61]⟩,.string ⟨#[60]⟩,.string ⟨#[43]⟩,.string ⟨#[45]⟩,.string ⟨#[42]⟩,.string ⟨#[47]⟩,.string ⟨#[37]⟩,.string ⟨#[33]⟩]
def M6(w:aG):(Instr.index 329 iA (I_ 0)).run prog w=.ok (.string ⟨#[61,61]⟩) w:=k_
def M5(w:aG):(Instr.index 329 iA (I_ 1)).run prog w=.ok (.string ⟨#[33,61]⟩) w:=k_
def M4(w:aG):(Instr.index 329 iA (I_ 2)).run prog w=.ok (.string ⟨#[60,61]⟩) w:=k_
def M3(w:aG):(Instr.index 329 iA (I_ 3)).run prog w=.ok (.string ⟨#[38,38]⟩) w:=k_
def M2(w:aG):(Instr.index 329 iA (I_ 4)).run prog w=.ok (.string ⟨#[124,124]⟩) w:=k_
def M1(w:aG):(Instr.index 329 iA (I_ 5)).run prog w=.ok (.string ⟨#[40]⟩) w:=k_
def M0(w:aG):(Instr.index 329 iA (I_ 6)).run prog w=.ok (.string ⟨#[41]⟩) w:=k_
def L9(w:aG):(Instr.index 329 iA (I_ 7)).run prog w=.ok (.string ⟨#[123]⟩) w:=k_
def L8(w:aG):(Instr.index 329 iA (I_ 8)).run prog w=.ok (.string ⟨#[125]⟩) w:=k_
def L7(w:aG):(Instr.index 329 iA (I_ 9)).run prog w=.ok (.string ⟨#[91]⟩) w:=k_
def XM(w:aG):(Instr.index 329 iA (I_ 10)).run prog w=.ok (.string ⟨#[93]⟩) w:=k_
def XL(w:aG):(Instr.index 329 iA (I_ 11)).run prog w=.ok (.string ⟨#[44]⟩) w:=k_
def XK(w:aG):(Instr.index 329 iA (I_ 12)).run prog w=.ok (.string ⟨#[59]⟩) w:=k_
def XJ(w:aG):(Instr.index 329 iA (I_ 13)).run prog w=.ok (.string ⟨#[61]⟩) w:=k_
def XI(w:aG):(Instr.index 329 iA (I_ 14)).run prog w=.ok (.string ⟨#[60]⟩) w:=k_
def XH(w:aG):(Instr.index 329 iA (I_ 15)).run prog w=.ok (.string ⟨#[43]⟩) w:=k_
def XG(w:aG):(Instr.index 329 iA (I_ 16)).run prog w=.ok (.string ⟨#[45]⟩) w:=k_
def XF(w:aG):(Instr.index 329 iA (I_ 17)).run prog w=.ok (.string ⟨#[42]⟩) w:=k_
def XE(w:aG):(Instr.index 329 iA (I_ 18)).run prog w=.ok (.string ⟨#[47]⟩) w:=k_
def XD(w:aG):(Instr.index 329 iA (I_ 19)).run prog w=.ok (.string ⟨#[37]⟩) w:=k_
def XC(w:aG):(Instr.index 329 iA (I_ 20)).run prog w=.ok (.string ⟨#[33]⟩) w:=k_
def j9(k:Nat)(a:k<21)(w:aG):(Instr.index 329 iA (I_ k)).run prog w=.ok (.string (bs (cX[k]'(by simpa [cX] using a)))) w:=by
 match k,a with
 |0,_=>exact M6 w
 |1,_=>exact M5 w
 |2,_=>exact M4 w
 |3,_=>exact M3 w
 |4,_=>exact M2 w
 |5,_=>exact M1 w
 |6,_=>exact M0 w
 |7,_=>exact L9 w
 |8,_=>exact L8 w
 |9,_=>exact L7 w
 |10,_=>exact XM w
 |11,_=>exact XL w
 |12,_=>exact XK w
 |13,_=>exact XJ w
 |14,_=>exact XI w
 |15,_=>exact XH w
 |16,_=>exact XG w
 |17,_=>exact XF w
 |18,_=>exact XE w
 |19,_=>exact XD w
 |20,_=>exact XC w
 |k+21,h=>exact absurd h o_
def E6(sb:Nat)(a:ByteArray)(n L:Nat)(w:aG)(h:SC sb a n L w)(O:PTabs w)(hs:a.size<=2000000000)(hn:n<a.size)(r:qL)(hr:Hid (iC (a.data.toList.drop n)=r)):
 Calls prog 186 #[bE sb] w (z8 sb a n L w r):=by
 have S:=(SC.cells h).1;have K:w.heap.size≠sb:=o_
 have aa:=O.big;have ah:n<=a.size:=o_
 have B:SC sb a n L (w.alloc (.cells #[I_ 0,.string ⟨#[]⟩,I_ 0,I_ 0] 174)):=by unfold SC;rw[em _ _ _ S];exact h
 have X:Hid (ZTok (w.alloc (.cells #[I_ 0,.string ⟨#[]⟩,I_ 0,I_ 0] 174)) w.heap.size):=aN _ _ rfl _;have H:Hid (Fr sb w (w.alloc (.cells #[I_ 0,.string ⟨#[]⟩,I_ 0,I_ 0] 174))):=(Fr.refl _ _).alloc _;obtain⟨tt,fr,l⟩:=O.tab;have d:(w.alloc (.cells #[I_ 0,.string ⟨#[]⟩,I_ 0,I_ 0] 174)).heap[(6:Nat)]?=_:=eB w 6 o_ _ l
 have p:(prog.info? 329).map (·.size)=some (#[.string ⟨#[61,61]⟩,.string ⟨#[33,61]⟩,.string ⟨#[60,61]⟩,.string ⟨#[38,38]⟩,.string ⟨#[124,124]⟩,.string ⟨#[40]⟩,.string ⟨#[41]⟩,.string ⟨#[123]⟩,.string ⟨#[125]⟩,.string ⟨#[91]⟩,.string ⟨#[93]⟩,.string ⟨#[44]⟩,.string ⟨#[59]⟩,.string ⟨#[61]⟩,.string ⟨#[60]⟩,.string ⟨#[43]⟩,.string ⟨#[45]⟩,.string ⟨#[42]⟩,.string ⟨#[47]⟩,.string ⟨#[37]⟩,.string ⟨#[33]⟩]:Array Value).size:=k_
 have y:∀(k:Nat) (Y:k<21) (w:aG),(Instr.index 329 (.agg #[.string ⟨#[61,61]⟩,.string ⟨#[33,61]⟩,.string ⟨#[60,61]⟩,.string ⟨#[38,38]⟩,.string ⟨#[124,124]⟩,.string ⟨#[40]⟩,.string ⟨#[41]⟩,.string ⟨#[123]⟩,.string ⟨#[125]⟩,.string ⟨#[91]⟩,.string ⟨#[93]⟩,.string ⟨#[44]⟩,.string ⟨#[59]⟩,.string ⟨#[61]⟩,.string ⟨#[60]⟩,.string ⟨#[43]⟩,.string ⟨#[45]⟩,.string ⟨#[42]⟩,.string ⟨#[47]⟩,.string ⟨#[37]⟩,.string ⟨#[33]⟩]) (I_ k)).run prog w=.ok (.string (bs (cX[k]'(by simpa [cX] using Y)))) w:=j9
 generalize (#[.string ⟨#[61,61]⟩,.string ⟨#[33,61]⟩,.string ⟨#[60,61]⟩,.string ⟨#[38,38]⟩,.string ⟨#[124,124]⟩,.string ⟨#[40]⟩,.string ⟨#[41]⟩,.string ⟨#[123]⟩,.string ⟨#[125]⟩,.string ⟨#[91]⟩,.string ⟨#[93]⟩,.string ⟨#[44]⟩,.string ⟨#[59]⟩,.string ⟨#[61]⟩,.string ⟨#[60]⟩,.string ⟨#[43]⟩,.string ⟨#[45]⟩,.string ⟨#[42]⟩,.string ⟨#[47]⟩,.string ⟨#[37]⟩,.string ⟨#[33]⟩]:Array Value)=Z at d p y;have HIXX:=aB y;have HTAB:=aB d;have U:=aB p;clear l d p y;have W:=aB B;clear h B O;go_in
 go_wp2_with (refine wpList_load_row rfl 329 (.global 6) rfl 6 r_ tt Z fr (.array 21 9) HTAB underlying329 rfl U ?_)
 go_loopg [4,6] 21 (λgk _ i wr=>∃k:Nat,k+gk=21/\i=I_ k/\Hid (yJ (a.data.toList.drop n) k)/\SC sb a n L wr/\Fr sb w wr/\ZTok wr w.heap.size)
 case atStart=>exact⟨0,o_,rfl,λo ho=>(by simp at ho),W,H,X⟩
 case round=>
  obtain⟨k,Y,rfl,A,s,J,I⟩:=hrel;obtain⟨h0,c0,c1,c2,f1,f2⟩:=s.cells;have z:=aB s;have t:=aB J;have u:=aB I;clear s J I X H W;by_cases f:k<21
  ·obtain⟨j,rfl⟩:∃j,gk=j+1:=⟨gk-1,o_⟩
   obtain⟨q,N⟩:=E_ (cX[k]'(by simpa [cX] using f))
   have ab:∀w,(Instr.index 329 (.agg Z) (I_ k)).run prog w=.ok (.string (bs q)) w:=λw=>by rw[N];exact HIXX k f w
   have ag:q.length<=2:=by rw[N];exact NL k f
   have af:(bs q).size=q.length:=gJ q;have M:Hid (q=cX[k]'(by simpa [cX] using f)):=N
   clear N;have g:=aB (λw=>EL (a.extract n a.size) (bs q) w (by rw[tF];omega) (by rw[gJ];omega))
   rw[oB,gD] at g;cases b:cY (a.data.toList.drop n) q
   ·rw[b] at g;have F:Hid (yJ (a.data.toList.drop n) (k+1)):=RN f A.out (by rw[<-M.out];exact b)
    clear A M b;go_wp2_with fail;go_quiet ((go_at_call 178;exact Calls.quiet_of_same (g _)))
    go_wp2
    go_roundg j
    case measure=>omega
    case rel=>exact⟨k+1,o_,by go_num,F,z,t.drewN _,u⟩
   ·rw[b] at g;have F:Hid (r={ sort:=112,x_:=q,size:=q.length,ok:=true }):=by rw[<-hr.out];exact WO f A.out q M b
    have Q:n+q.length<=a.size:=by
     have:=lR b;simp at this;omega
    have HTXT:Hid ((a.data.toList.drop n).take q.length=q):=by
     show _=_
     have B:=b;unfold cY at B;rw[nE _ _ (lR b)] at B;simpa using B
    have C:=aB (λE=>pK sb a n L q.length (wr.drewN E) z hs Q)
    rw[HTXT.out] at C;have T:Hid (∀E,ZTok (wr.drewN E) w.heap.size):=λ_=>u
    have ad:Hid (∀E,w.heap.size<(wr.drewN E).heap.size):=λ_=>aD u
    clear A M b;go_wp2_with fail;go_quiet ((go_at_call 178;exact Calls.quiet_of_same (g _)))
    go_wp2_with fail;go_region_law (go_simp;go_at_call 203;refine(C _).mono ?_;rintro e w2 ⟨rfl,D,x⟩;have G:=aB D;have V:=aB ((t.drewN _).trans x);have c:=aB (x.keepS (T _) K);have ac:=(SC.cells G).2.2.2.1;have z0:=aA c (i:=0) rfl;have z1:=aA c (i:=1) rfl;have z2:=aA c (i:=2) rfl;have z3:=aA c (i:=3) rfl;have y0:=aE (i:=0) c;have y1:=aE (i:=1) c;have y2:=aE (i:=2) c;have y3:=aE (i:=3) c;have ae:=aD c;clear D x)
    all_goals
     go_wp2_with fail;rw[F.out];refine bodyPost_ret (v:=.agg #[I_ 0,.string (bs q),I_ 0,I_ L]) (by simp[results,results186,go_sem,z0,z1,z2,z3]) rfl ?_
     have m:=nJ V G cK K (I_ 0) (.string (bs q)) (I_ 0) (I_ L);exact⟨m.1,d7 ⟨rfl,rfl,m.2⟩⟩
  ·obtain rfl:k=21:=o_
   have F:Hid (r={ sort:=0,x_:=[],size:=0,ok:=false }):=by rw[<-hr.out];exact RH A.out
   have P:=aB (tE sb a n L wr z);clear A;go_wp2_with fail;refine P.mono ?_;rintro e w3 ⟨rfl,hw⟩;obtain rfl:=hw.symm;go_wp2_with fail;rw[F.out];exact⟨rfl,t,d6 ⟨rfl,rfl⟩⟩
def A8(cb l lo:Nat)(fs:List aC)(a:aQ)(r:fs.length<=90000)(u:∀f∈fs,f.y_.length<=90000)(d:Nat)(A:nO cb l lo fs a d)(c:aC)(v:aQ)(e_:cN)(w:aG)(h:CK cb l lo fs a w e_)(g:PKid (Btw lo l) w v c.y_)(y:∀k∈c.y_,fF d k)(q:e_.length+(c.y_.map (cC d)).sum<=90000):
 Calls prog 91 #[bE cb,.iface 224 (.agg #[I_ c.l_,.string (bs c.x_),v])] w (dI cb l lo fs a w (jC fs (fY a) d c.y_ (eP fs (fY a) ⟨e_,0,0⟩ c))):=by
 obtain⟨o,x,rfl⟩:=g.slice;have D:=BC;have F:=DK;have J:=VJ;have G:=GY;have I:=DJ;have H:=GZ;have E:=ML;obtain⟨b,i⟩:=Loc.new h (.cells #[I_ c.l_,.string (bs c.x_),.slice o c.y_.length x] 224);have j:=aB b;have B:=aB (YY cb l lo fs a r u d A c (.slice o c.y_.length x) e_ (w.alloc (.cells #[I_ c.l_,.string (bs c.x_),.slice o c.y_.length x] 224)) i (g.below b.fb.bel) y q (by have:=wP y;omega))
 clear h b i;generalize jC fs (fY a) d c.y_ (eP fs (fY a) ⟨e_,0,0⟩ c)=c at*;go_in
 go_wp2_with fail;refine B.mono ?_;rintro e C ⟨n,⟨s,z,rfl,m⟩|⟨g,rfl⟩⟩
 ·have p:=aB (j.fb.trans n);have t:=aB m;subst z;clear n m;go_wp2
  go_end0;exact dI.done p rfl t
 ·have p:=aB (j.fb.trans n);have t:=aB g;clear n g;go_wp2_with fail;exact⟨rfl,dI.fault (c1:=c) p t (Stk.refl _)⟩
def WW(cb k lo:Nat)(fs:List aC)(b:aQ)(d:Nat)(z:kN cb k lo fs b d)(e_:cN)(w:aG)(h:CK cb k lo fs b w e_)(l:Nat)(t a:aC)(v1:aQ)(x:PN (Btw lo k) w v1 a)(q:fF d a)(r:e_.length+cC d a<=90000):
 Calls prog 91 #[bE cb,.iface 210 (.agg #[I_ l,I_ t.l_,.string (bs t.x_),v1])] w (dI cb k lo fs b w (({ aP fs (fY b) d a (Hs.declaresL ⟨e_,0,0⟩ t) with e_:=(aP fs (fY b) d a (Hs.declaresL ⟨e_,0,0⟩ t)).e_++[t.x_] }:bC))):=by
 obtain⟨o,g,rfl⟩:=x.form;have C:=uU;obtain⟨f,i⟩:=Loc.new h (.cells #[I_ l,I_ t.l_,.string (bs t.x_),.iface o (.agg g)] 210);have j:=aB f;have A:=aB (TY cb k lo fs b d z (w.alloc (.cells #[I_ l,I_ t.l_,.string (bs t.x_),.iface o (.agg g)] 210)) e_ i l t a (.iface o (.agg g)) (x.below f.fb.bel) q r);clear h f i;generalize ({ aP fs (fY b) d a (Hs.declaresL ⟨e_,0,0⟩ t) with e_:=(aP fs (fY b) d a (Hs.declaresL ⟨e_,0,0⟩ t)).e_++[t.x_] }:bC)=c at*
 go_in
 go_wp2_with fail;refine A.mono ?_;rintro e B ⟨n,⟨s,y,rfl,m⟩|⟨v,rfl⟩⟩
 ·have p:=aB (j.fb.trans n);have u:=aB m;subst y;clear n m;go_wp2
  go_end0;exact dI.done p rfl u
 ·have p:=aB (j.fb.trans n);have u:=aB v;clear n v;go_wp2_with fail;exact⟨rfl,dI.fault (c1:=c) p u (Stk.refl _)⟩
def WV(cb j lo:Nat)(fs:List aC)(n:aQ)(e_:cN)(w:aG)(h:CK cb j lo fs n w e_)(l m:Nat):
 Calls prog 91 #[bE cb,.iface 221 (.agg #[I_ l,.iface 279 (.agg #[I_ m,I_ 0])])] w (dI cb j lo fs n w ((⟨e_,0,0⟩:bC))):=by
 have t:=oN;have u:=pM;have y:=vY;have v:=qP;have x:=pL;obtain⟨a,b⟩:=Loc.new h (.cells #[I_ l,.iface 279 (.agg #[I_ m,I_ 0])] 221);have d:=aB a;have q:=aB (KY cb j lo fs n e_ (w.alloc (.cells #[I_ l,.iface 279 (.agg #[I_ m,I_ 0])] 221)) b m 0);clear h a b;generalize (⟨e_,0,0⟩:bC)=c at*;go_in
 go_wp2_with fail;refine q.mono ?_;rintro e r ⟨g,⟨s,p,rfl,f⟩|⟨o,rfl⟩⟩
 ·have i:=aB (d.fb.trans g);have k:=aB f;subst p;clear g f;go_wp2
  go_end0;exact dI.done i rfl k
 ·have i:=aB (d.fb.trans g);have k:=aB o;clear g o;go_wp2_with fail;exact⟨rfl,dI.fault (c1:=c) i k (Stk.refl _)⟩
def eI{b:Bool}{d:Nat}(c:(a.op==[118,97,114])=false)(e:(a.op==[98,108,111,99,107])=false):aP fs b (d+1) a s=jC fs b d a.y_ (cL fs b s a):=by
 rw[aP,if_neg (by rw[c];simp)]
 simp only[e];rfl
def look_plain{c:Bool}(d:(a.op==[115,101,116])=false)(b:(a.op==[110,97,109,101])=false)(e:(a.op==[99,97,108,108])=false):cL fs c s a=s:=by
 unfold cL;rw[d,b,e];rfl
def RT{b:Bool}(h:(a.op==[115,101,116] || a.op==[110,97,109,101])=true):cL fs b s a=CN s a.l_ a.x_:=by
 unfold cL;rw[h];rfl
def LA{b:Bool}(h:a.op=[99,97,108,108]):cL fs b s a=eP fs b s a:=by
 unfold cL;rw[h];rfl
def RI{x y:cE}(h:cJ x≠9)(a:cJ y=9):(x==y)=false:=by
 rw[beq_eq_false_iff_ne];intro e;rw[e] at h;exact h a
def J7(cb q lo:Nat)(fs:List aC)(p:aQ)(F:fs.length<=90000)(H:∀f∈fs,f.y_.length<=90000)(d:Nat)(IHs:∀e,e<=d->kN cb q lo fs p e):kN cb q lo fs p (d+1):=by
 intro v a e_ w h P D j;obtain⟨T,X,W,rfl,M,m⟩:=P.parts;have x:=IHs d cK;have J:=tG cb q lo fs p d x
 have B:tP cb q lo fs p d:=by
  cases d with
  |zero=>exact λ_ _ _ _ _ _ _ Q _=>Q.elim
  |succ e=>exact UM (tG cb q lo fs p e (IHs e o_))
 rw[cC] at j;have i:∀k∈a.y_,fF d k:=D;clear P D;rcases M with ⟨rfl,k,rfl,b,N,g,rfl⟩|⟨rfl,rfl,b,g,rfl⟩|⟨rfl,rfl,b,g,rfl⟩|⟨rfl,z,rfl,b,rfl⟩|⟨rfl,z,rfl,b,rfl⟩|⟨rfl,rfl,b,g,rfl⟩|⟨rfl,l,r,G,n,C,rfl,b,g,rfl⟩|⟨rfl,o,r,n,rfl,V,b,g,rfl⟩|⟨rfl,l,r,G,n,C,rfl,b,g,rfl⟩|⟨rfl,r,t,n,rfl,b,g,rfl⟩|⟨rfl,z,r,l,n,rfl,b,g,rfl⟩|⟨rfl,r,A,n,s,rfl,b,y,g,rfl⟩|⟨rfl,r,A,O,n,s,K,rfl,b,y,L,g,rfl⟩|⟨rfl,r,A,n,s,rfl,b,y,g,rfl⟩|⟨rfl,l,rfl,b,g,rfl⟩|⟨rfl,r,n,rfl,b,g,rfl⟩|⟨rfl,r,n,rfl,b,g,rfl⟩|⟨rfl,z,c,rfl,b,U,S,g,u,rfl⟩
 ·have e:aP fs (fY p) (d+1) a ⟨e_,0,0⟩=⟨e_,0,0⟩:=by rw[eI (by rw[b];decide) (by rw[b];decide),look_plain (by rw[b];decide) (by rw[b];decide) (by rw[b];decide),g];rfl
  rw[e];exact KY cb q lo fs p e_ w h _ k
 ·have e:aP fs (fY p) (d+1) a ⟨e_,0,0⟩=⟨e_,0,0⟩:=by rw[eI (by rw[b];decide) (by rw[b];decide),look_plain (by rw[b];decide) (by rw[b];decide) (by rw[b];decide),g];rfl
  rw[e];exact K6 cb q lo fs p e_ w h _ _
 ·have e:aP fs (fY p) (d+1) a ⟨e_,0,0⟩=⟨e_,0,0⟩:=by rw[eI (by rw[b];decide) (by rw[b];decide),look_plain (by rw[b];decide) (by rw[b];decide) (by rw[b];decide),g];rfl
  rw[e];exact aN_ cb q lo fs p e_ w h _ _
 ·rw[eI (by rw[b];decide) (by rw[b];decide),look_plain (by rw[b];decide) (by rw[b];decide) (by rw[b];decide)]
  exact aM_ cb q lo fs p d J e_ w h _ z a.y_ (m _ (et.2 rfl)).many i o_
 ·rw[eI (by rw[b];decide) (by rw[b];decide),LA b]
  exact A8 cb q lo fs p F H d J a z e_ w h (m _ (et.2 rfl)).many i o_
 ·have e:aP fs (fY p) (d+1) a ⟨e_,0,0⟩=CN ⟨e_,0,0⟩ a.l_ a.x_:=by rw[eI (by rw[b];decide) (by rw[b];decide),RT (by rw[b];decide),g];rfl
  rw[e];exact RQ cb q lo fs p e_ w h _ _ o_
 ·rw[eI (by rw[b];decide) (by rw[b];decide),look_plain (by rw[b];decide) (by rw[b];decide) (by rw[b];decide),g]
  rw[g] at j i;simp only[e7,fy,fg,ge] at j;exact d9 cb q lo fs p d x e_ w h l r n (m _ s_).one' (i n s_) G C (m ⟨G,[C],true⟩ s_).one' (i C s_) o_
 ·have I:a.op=[45,120]\/a.op=[33,120]:=by rcases V with rfl|rfl<;>simp[b]
  have e:aP fs (fY p) (d+1) a ⟨e_,0,0⟩=aP fs (fY p) d n ⟨e_,0,0⟩:=by
   rcases I with b|b<;>(rw[eI (by rw[b];decide) (by rw[b];decide),look_plain (by rw[b];decide) (by rw[b];decide) (by rw[b];decide),g];rfl)
  rw[e];rw[g] at j i;simp only[e7,fy,fg,ge] at j;exact b8 cb q lo fs p d x e_ w h _ _ r n (m _ s_).one' (i n s_) o_
 ·rw[eI (RI b d_) (RI b d_),look_plain (RI b d_) (RI b d_) (RI b d_),g]
  rw[g] at j i;simp only[e7,fy,fg,ge] at j;exact K8 cb q lo fs p d x e_ w h l _ r n (m _ s_).one' (i n s_) G C (m ⟨G,[C],true⟩ s_).one' (i C s_) o_
 ·have e:aP fs (fY p) (d+1) a ⟨e_,0,0⟩={ aP fs (fY p) d n (Hs.declaresL ⟨e_,0,0⟩ t) with e_:=(aP fs (fY p) d n (Hs.declaresL ⟨e_,0,0⟩ t)).e_++[t.x_] }:=by
   rw[aP,if_pos (by rw[b];rfl),g]
  rw[e];rw[g] at j i;simp only[e7,fy,fg,ge] at j;exact WW cb q lo fs p d x e_ w h _ t n r (m _ s_).one' (i n s_) o_
 ·rw[eI (by rw[b];decide) (by rw[b];decide),RT (by rw[b];decide),g]
  rw[g] at j i;simp only[gg,e7,fy,ik,fg,ge] at j
  have e:jC fs (fY p) d (l++[n]) (CN ⟨e_,0,0⟩ a.l_ a.x_)=aP fs (fY p) d n (jC fs (fY p) d l (CN ⟨e_,0,0⟩ a.l_ a.x_)):=by
   show List.foldl _ _ (l++[n])=_
   rw[List.foldl_append];rfl
  rw[e];exact K9 cb q lo fs p d x J e_ w h _ _ z l (m ⟨z,l,false⟩ s_).many (λk N=>i k (fm _ N)) r n (m ⟨r,[n],true⟩ s_).one' (i n s_) o_
 ·rw[eI (by rw[b];decide) (by rw[b];decide),look_plain (by rw[b];decide) (by rw[b];decide) (by rw[b];decide),g]
  rw[g] at j i;simp only[e7,fy,fg,ge] at j;exact bV_ cb q lo fs p d x J B e_ w h _ r n (m ⟨r,[n],true⟩ s_).one' (i n s_) A s y (m ⟨A,s.y_,false⟩ s_).many (i s s_) o_
 ·rw[eI (by rw[b];decide) (by rw[b];decide),look_plain (by rw[b];decide) (by rw[b];decide) (by rw[b];decide),g]
  rw[g] at j i;simp only[e7,fy,fg,ge] at j;exact cj_ cb q lo fs p d x B e_ w h _ r n (m ⟨r,[n],true⟩ s_).one' (i n s_) A s y (m ⟨A,s.y_,false⟩ s_).many (i s s_) O K L (m ⟨O,K.y_,false⟩ s_).many (i K s_) o_
 ·rw[eI (by rw[b];decide) (by rw[b];decide),look_plain (by rw[b];decide) (by rw[b];decide) (by rw[b];decide),g]
  rw[g] at j i;simp only[e7,fy,fg,ge] at j;exact Z9 cb q lo fs p d x B e_ w h _ r n (m ⟨r,[n],true⟩ s_).one' (i n s_) A s y (m ⟨A,s.y_,false⟩ s_).many (i s s_) o_
 ·have e:aP fs (fY p) (d+1) a ⟨e_,0,0⟩=⟨e_,0,0⟩:=by rw[eI (by rw[b];decide) (by rw[b];decide),look_plain (by rw[b];decide) (by rw[b];decide) (by rw[b];decide),g];rfl
  rw[e];exact WV cb q lo fs p e_ w h _ l
 ·rw[eI (by rw[b];decide) (by rw[b];decide),look_plain (by rw[b];decide) (by rw[b];decide) (by rw[b];decide),g]
  rw[g] at j i;simp only[e7,fy,fg,ge] at j;exact K7 cb q lo fs p d x e_ w h _ r n (m _ s_).one' (i n s_) o_
 ·rw[eI (by rw[b];decide) (by rw[b];decide),look_plain (by rw[b];decide) (by rw[b];decide) (by rw[b];decide),g]
  rw[g] at j i;simp only[e7,fy,fg,ge] at j;exact b9 cb q lo fs p d x e_ w h _ r n (m _ s_).one' (i n s_) o_
 ·rw[eI (by rw[b];decide) (by rw[b];decide),look_plain (by rw[b];decide) (by rw[b];decide) (by rw[b];decide),g]
  rw[g] at j i;simp only[e7,fy,fg,ge] at j;have E:=i c s_
  cases d with
  |zero=>exact E.elim
  |succ e=>
   show Calls _ _ _ _ (dI cb q lo fs p w (aP fs (fY p) (e+1) c ⟨e_,0,0⟩))
   rw[cC] at j;rw[eI (by rw[u];decide) (by rw[u];decide),LA u]
   exact A8 cb q lo fs p F H e (tG cb q lo fs p e (IHs e o_)) c z e_ w h (m ⟨z,c.y_,false⟩ s_).many E o_
def RO(cb c lo:Nat)(fs:List aC)(g:aQ)(b:fs.length<=90000)(a:∀f∈fs,f.y_.length<=90000)(d:Nat):kN cb c lo fs g d:=by
 induction d using Nat.strongRecOn with
 |_ d i=>
  cases d with
  |zero=>exact λ_ _ _ _ _ _ h _=>h.elim
  |succ d=>exact J7 cb c lo fs g b a d λe j=>i e o_
def bF_{ps:List aC}(k:Nat)(b:k<ps.length):(T8 ps)[k*2]?=some (I_ ps[k].l_)/\(T8 ps)[k*2+1]?=some (.string (bs ps[k].x_)):=by
 induction ps generalizing k with
 |nil=>simp at b
 |cons a ps c=>
  cases k with
  |zero=>exact⟨rfl,rfl⟩
  |succ k=>
   have:=c k (by simpa using b)
   have e:∀j,(T8 (a::ps))[(k+1)*2+j]?=(T8 ps)[k*2+j]?:=λj=>by
    rw[T8,show (k+1)*2+j=k*2+j+1+1 by omega];rfl
   exact⟨(e 0).trans this.1,(e 1).trans this.2⟩
def PNm.get{ps:List aC}(h:PNm F w v ps):(v=bG/\ps=[])\/∃g a,v=.slice (some (aI g 0)) ps.length a/\F g/\g<w.heap.size/\ps.length<=a/\∀k (b:k<ps.length),w.cell? (aI g (k*2))=some (I_ ps[k].l_)/\w.cell? (aI g (k*2+1))=some (.string (bs ps[k].x_)):=by
 obtain⟨_,h|⟨g,a,o,l,f,d,i,m⟩⟩:=h
 ·exact d7 h
 ·refine d6 ⟨g,a,l,f,aD d,i,λk b=>?_⟩
  obtain⟨p,n⟩:=bF_ k b
  have e:∀j u,j<ps.length*2->(T8 ps)[j]?=some u->w.cell? (aI g j)=some u:=λj u q c=>by
   refine aA d ?_;rw[<-m,fu,if_pos q] at c;simpa using c
  exact⟨e _ _ o_ p,e _ _ o_ n⟩
def FE:∀{us:List Value} {fs:List aC} (i:Nat),kV (CC F w) us fs->i<=fs.length->(kK us).take (i*4)=kK (us.take i)
 |[],[],i,_,h=>by simp[kK]
 |u::us,f::fs,0,_,_=>by simp[kK]
 |u::us,f::fs,i+1,⟨⟨g,d,j,b,c,_⟩,h⟩,e=>by
  subst c;have a:=FE i h (by simpa using e)
  rw[iu,kK,kK,<-a,List.take_append];have:(zB (Value.agg #[I_ f.l_,.string (bs f.x_),g,d])).length=4:=rfl;rw[this,gr (by rw[this];omega)]
  congr 2;omega
 |[],_::_,_,h,_=>h.elim
 |_::_,[],_,h,_=>h.elim
def kV.take{R:Value->aC->Prop}:∀{vs ks} (i:Nat),kV R vs ks->kV R (vs.take i) (ks.take i)
 |_,_,0,_=>by simp[kV]
 |[],[],_+1,_=>trivial
 |_::_,_::_,i+1,⟨b,a⟩=>⟨b,kV.take i a⟩
 |[],_::_,_,h=>h.elim
 |_::_,[],_,h=>h.elim
def FSl.take{g a:Nat}(h:FSl F w (.slice (some (aI g 0)) fs.length a) fs)(i:Nat)(m:i<=fs.length):FSl F w (.slice (some (aI g 0)) i a) (fs.take i):=by
 rcases h with ⟨b,_⟩|⟨p,d,c,n,b,j,l,o,k,f⟩
 ·cases b
 ·cases b;have e:(fs.take i).length=i:=by rw[gw];omega
  refine d6 ⟨g,a,c,n.take i,by rw[e],j,l,o_,?_,f.take i⟩
  rw[e,<-FE i f m,<-k,je];congr 1;omega
def CK.reset{cb c lo:Nat}{d i:aQ}{e_:cN}(h:CK cb c lo fs d w e_)(a:w.heap[cb]?=some (.cells #[d,i] 156 (0,0))):
 FB cb c w (w.setCell (aI cb 1) (bG))/\CK cb c lo fs d (w.setCell (aI cb 1) (bG)) []:=by
 have g:=aD a;have e:Below c w (w.setCell (aI cb 1) (bG)):=(eh _ _).setCell h.lt.2 _;have f:(w.setCell (aI cb 1) (bG)).heap[cb]?=some (.cells #[d,bG] 156 (0,0)):=by rw[aO a];rfl
 refine⟨⟨e,λk b j l=>ei _ _ _ _ (by show k≠cb;exact j),λk b=>?_⟩,⟨bG,f,World.ownsRow_nil _ _ _ _,(by simp[Value.ownBlock]),h.lt.2⟩,h.fun_.keep λk b=>e.block k b.2⟩
 rw[nX f] at b;cases b
def WN(a:List aC)(x:cE):(lU a x).isSome=(gI x || !(dU a x).isNone):=by
 unfold lU gI;cases x==[108,101,110]<;>cases x==[114,101,97,100]<;>cases dU a x<;>rfl
def EP(fs:List aC)(d:Nat)(s:bC)(k:aC):Stk s (eX fs d s k):=by
 unfold eX;split
 ·exact(Stk.declares s k).trans (Stk.e_ _ _)
 ·exact Stk.walk fs false d k s
def Y9(fs:List aC)(d:Nat)(s:bC)(k:aC)(h:k.op=[112,97,114,97,109]):eX fs d s k={ Hs.declaresL s k with e_:=(Hs.declaresL s k).e_++[k.x_] }:=by
 unfold eX;rw[h];rfl
def Z0(fs:List aC)(d:Nat)(s:bC)(k:aC)(h:k.op=[98,108,111,99,107]):eX fs d s k=aP fs false d k s:=by
 unfold eX;rw[h];rfl
def bR_(cb tp lo:Nat)(fs:List aC)(fv:aQ)(d:Nat)(w:aG)(b0:Nat)(o:Obj)(ps:List aC)(b:aC)(c:bC)(gk:Nat)(i:aQ)(wr:aG):Prop:=
 ∃k s,k+gk=ps.length/\i=I_ (k:Nat)/\Loc cb tp w b0 o wr/\CK cb tp lo fs fv wr s/\c=(ps.drop k++[b]).foldl (eX fs d) ⟨s,0,0⟩/\s.length=k
def YP(fs:List aC)(d:Nat)(e_:cN)(f:aC)(first:Bool)(h:(gI f.x_ || !first)=true):Stk ⟨[],6,f.l_⟩ (gO fs d ⟨e_,0,0⟩ f first):=by
 unfold gO;rw[h];exact Stk.fold (EP fs d) _ _
def bm_(fs:List aC)(d:Nat)(e_:cN)(f:aC)(first:Bool)(h:(gI f.x_ || !first)=false):gO fs d ⟨e_,0,0⟩ f first=f.y_.foldl (eX fs d) ⟨[],0,0⟩:=by
 unfold gO;rw[h];rfl
def Q9(cb B lo:Nat)(fs:List aC)(g n:Nat)(ck:fs.length<=90000)(I:∀f∈fs,f.y_.length<=90000)(d i:Nat)(hi:i<fs.length)(e_:List (List UInt8))(w:World)(h:CK cb B lo fs (FV (.slice (some ⟨g,0,none⟩) fs.length n)) w e_)
 (hd:∀k∈fs[i].y_,fF d k) (hw:fs[i].y_.length+(fs[i].y_.map (cC d)).sum<=90000):
 Calls prog 108 #[.pointer (some ⟨cb,0,none⟩),.slice (some ⟨g,0,none⟩) fs.length n,.int .i64 i] w (dI cb B lo fs (FV (.slice (some ⟨g,0,none⟩) fs.length n)) w (gO fs d ⟨e_,0,0⟩ fs[i] (dU (fs.take i) fs[i].x_).isNone)):=by
 obtain⟨_,K,ab⟩|⟨K,_⟩:=h.fun_
 rotate_left
 ·cases K
 cases K;rcases ab.cells with ⟨h1,_⟩|⟨g',df,h1,cx,ds,da,hc⟩
 ·cases h1
 cases h1;obtain⟨pv,bv,o,b,e0,e1,e2,e3,z,ad,au,am⟩:=hc i hi;obtain⟨T,X,rfl⟩:=ad.slice;obtain⟨M,N,rfl⟩:=am.slice;have az:=aB (WN (fs.take i) fs[i].x_);have bl:=I fs[i] (fi hi);have bt:=aB (ab.take i o_)
 generalize dw:fs[i]=f at*;have bz:=aB (λhx=>YP fs d e_ f (dU (fs.take i) f.x_).isNone hx)
 have cj:=aB (λhx=>bm_ fs d e_ f (dU (fs.take i) f.x_).isNone hx)
 have ai:=h.lt;obtain⟨an,aw⟩:=Loc.new h (.cells #[.int .i64 f.l_,.string (bs f.x_),.slice T o.length X,.slice M b.y_.length N] 183);obtain⟨sx,sc,U,dq,dd,bm, -⟩:=h.cut;obtain⟨q,c0,O,f1⟩:=kB U;have bw:=aB an;have ca:=aB aw;have bd:=aB ad;have cv:=aB am;have ax:=aB au;have ak:=aB z;have HD:=aB hd;have HW:=aB hw;have dx:=aB I;have ch:i<=n:=o_
 have HBLK:Hid (tP cb B lo fs (FV (.slice (some ⟨g,0,none⟩) fs.length n)) d):=by
  cases d with
  |zero=>exact λ_ _ _ _ _ _ _ hd _=>hd.elim
  |succ e=>exact UM (tG cb B lo fs _ e (RO cb B lo fs _ ck I e))
 have dh:o.length<=90000:=by rw[z] at bl;simp at bl;omega
 have co:Hid (Below w.heap.size w (w.alloc (.cells #[.int .i64 f.l_,.string (bs f.x_),.slice T o.length X,.slice M b.y_.length N] 183))):=(eh _ _).alloc (en _) _;have J:=aB (ES (fs.take i) (Btw lo B) (.slice (some ⟨g,0,none⟩) i n) f.x_ (w.alloc (.cells #[.int .i64 f.l_,.string (bs f.x_),.slice T o.length X,.slice M b.y_.length N] 183)).drew (by rw[gw];omega) (λf hf=>I f (jy hf)) (bt.out.keep λk hk=>by have:=hk.2;exact em _ _ _ o_))
 rw[az.out] at J;generalize cz:((lU (List.take i fs) f.x_).getD 0)=pn at J;obtain⟨tk,aj⟩:=E_ ((gI f.x_ || !(dU (fs.take i) f.x_).isNone))
 rw[<-aj] at J;have ao:=aB aj;obtain⟨cc,r⟩:=E_ (gO fs d ⟨e_,0,0⟩ f (dU (fs.take i) f.x_).isNone);rw[<-r];have ba:=aB r;clear cz aj r h an aw ad am au z hd hw I ab hc U bm az bt cx;go_enter func108,ntmps108;go_wp2_with fail;go_cut [7,8] (λ_ tv wc=>tv=.bool tk/\Below w.heap.size w wc/\Loc cb B w w.heap.size (.cells #[.int .i64 f.l_,.string (bs f.x_),.slice T o.length X,.slice M b.y_.length N] 183) wc/\CK cb B lo fs (FV (.slice (some ⟨g,0,none⟩) fs.length n)) wc e_)
 case first=>
  go_region_law (go_simp;go_at_call 106;refine J.out.mono ?_;rintro e w1 ⟨rfl,bu⟩;have ag:=aB ((eh (w.alloc (.cells #[.int .i64 f.l_,.string (bs f.x_),.slice T o.length X,.slice M b.y_.length N] 183)).heap.size (w.alloc (.cells #[.int .i64 f.l_,.string (bs f.x_),.slice T o.length X,.slice M b.y_.length N] 183))).drew.trans bu);clear bu)
  all_goals
   go_wp2_with fail;go_meet
   case rel=>exact⟨rfl,co.out.trans (ag.out.mono s_),bw.out.step (FB.of_below ag.out t_),ca.out.grow ag.out⟩
 case rest=>
  obtain⟨rfl,aq,y,S⟩:=hcut;clear c0 O f1 q e0 e1 e2 e3;obtain⟨dr,dn,v,dj,cu,ac, -⟩:=S.cut;obtain⟨q,c0,O,f1⟩:=kB v;have cm:=aB y;have du:=aB S;have m0:=aA y.blk (i:=0) rfl;have m1:=aA y.blk (i:=1) rfl;have m2:=aA y.blk (i:=2) rfl;have m3:=aA y.blk (i:=3) rfl;have Q:=aD y.blk;have Z:=aB (S.reset v);have bq:=aB aq;clear y S v ac aq J;cases tk;rotate_left
  ·go_wp2_with fail;refine(sI f.l_ _).mono ?_;rintro e L ⟨rfl,c⟩;have u:=aB (bq.out.trans (c.mono bq.out.size));clear c;go_wp2_with (go_at_call 107;refine(gS 6 f.l_ _).mono ?_;rintro e w3 ⟨rfl,hw⟩;obtain rfl:=hw.symm)
   exact⟨rfl,dI.fault (c1:=⟨[],6,f.l_⟩) (FB.of_below u.out ai) s_ (by rw[ba.out];exact bz.out ao.out.symm)⟩
  have HI:Hid (bR_ cb B lo fs (FV (.slice (some ⟨g,0,none⟩) fs.length n)) d w w.heap.size (.cells #[.int .i64 f.l_,.string (bs f.x_),.slice T o.length X,.slice M b.y_.length N] 183) o b cc o.length (.int .i64 (0:Nat)) (wc.setCell ⟨cb,1,none⟩ (.slice none 0 0))):=
   ⟨0,[],o_,rfl,cm.out.step Z.out.1,Z.out.2,by rw[ba.out,cj.out ao.out.symm,ak.out];rfl,rfl⟩
  have dg:¬cb=w.heap.size:=o_
  have ci:¬w.heap.size=cb:=o_
  obtain⟨i0,cy,cf,bk,cs⟩:=info_parts B2;go_wp2_with fail;go_loopg [10,37] o.length (λgk _ iv wr=>bR_ cb B lo fs (FV (.slice (some ⟨g,0,none⟩) fs.length n)) d w w.heap.size (.cells #[.int .i64 f.l_,.string (bs f.x_),.slice T o.length X,.slice M b.y_.length N] 183) o b cc gk iv wr)
  case atStart=>exact HI.out
  case round=>
   obtain⟨k,s,hk,rfl,l,C,r,av⟩:=hrel;have bp:=aB av;have dc:s.length<=90000:=o_
   clear av;have P:=aB l;have dm:=aB C;have bi:=aB r;clear m0 m1 m2 m3 Q c0 O f1 q HI Z;have m0:=aA l.blk (i:=0) rfl;have m1:=aA l.blk (i:=1) rfl;have m2:=aA l.blk (i:=2) rfl;have m3:=aA l.blk (i:=3) rfl;have Q:=aD l.blk;have ea:=C.lt;by_cases q:k<o.length
   ·obtain⟨j,rfl⟩:∃j,gk=j+1:=⟨gk-1,o_⟩
    rcases bd.out.get with ⟨_,ap⟩|⟨pg,db,K,al,cp,cw,F⟩
    ·rw[ap] at q;simp at q
    obtain⟨bn,bg⟩:=F k q;have bo:=bd.out.1 o[k] (fi q);have ar:o.drop k=o[k]::o.drop (k+1):=(jn q).symm;have W:cc=(o.drop (k+1)++[b]).foldl (eX fs d) (eX fs d ⟨s,0,0⟩ o[k]):=by rw[r,ar];rfl
    generalize o[k]=a at*;cases K;have r0:wr.cell? ⟨pg,k*2,none⟩=some (.int .i64 a.l_):=(l.fb.bel.cell (p:=⟨pg,k*2,none⟩) al.2).trans bn;have r1:wr.cell? ⟨pg,k*2+1,none⟩=some (.string (bs a.x_)):=(l.fb.bel.cell (p:=⟨pg,k*2+1,none⟩) al.2).trans bg;have de:pg<wr.heap.size:=ej (Nat.lt_trans (ej al.2 ai.2) ai.1) l.fb.bel.size;obtain⟨bf,G⟩:=Loc.new C (.cells #[.int .i64 a.l_,.string (bs a.x_)] 179);have ae:=aB bf;have HM:=aB (sF cb B lo fs _ (wr.alloc (.cells #[.int .i64 a.l_,.string (bs a.x_)] 179)) s G o_ a.l_ a.x_)
    have bb:Hid (Hs.declaresL ⟨s,0,0⟩ a=if gI a.x_ || s.contains a.x_ then bC.found ⟨s,0,0⟩ a.l_ 6 else ⟨s,0,0⟩):=rfl
    rw[<-bb.out] at HM;have Y:=aB (Y9 fs d ⟨s,0,0⟩ a bo);have be:=oD ⟨s,0,0⟩ a;have cn:=aB be;have t:=aB W;clear r W ar bn bg F cw cp bi be bb bf G l C bo;generalize Hs.declaresL ⟨s,0,0⟩ a=O at*;go_wp2_with fail;refine HM.out.mono ?_;rintro e L ⟨c,⟨s2,rfl,rfl,m⟩|⟨E,rfl⟩⟩
    rotate_left
    ·have cr:=aB (P.out.fb.trans (ae.out.fb.trans c));have HK:=aB E;clear c E;go_wp2_with fail;exact⟨rfl,dI.fault (c1:=O) cr.out HK.out (by rw[t.out,Y.out];exact(Stk.e_ _ _).trans (Stk.fold (EP fs d) _ _))⟩
    obtain rfl:s2=s:=cn.out;have ah:=aB (ae.out.step c);have HLb:=aB ((P.out.step ae.out.fb).step c);obtain⟨cd,cg,x,dl,ce,D,br⟩:=m.cut;obtain⟨dk,c0,O,f1⟩:=kB x;have n0:=aA ah.out.blk (i:=0) rfl;have n1:=aA ah.out.blk (i:=1) rfl;have dz:=aD ah.out.blk;clear m0 m1 m2 m3 Q r0 r1;have m0:=aA HLb.out.blk (i:=0) rfl;have m1:=aA HLb.out.blk (i:=1) rfl;have m2:=aA HLb.out.blk (i:=2) rfl;have m3:=aA HLb.out.blk (i:=3) rfl;have Q:=aD HLb.out.blk;have u:=aB (show L.drew.heap[cb]?=_ from x)
    have ay:=aB (show L.drew.ownsRow _ _ _ _ _ _ from D)
    have H:=aB (show CK cb B lo fs (FV (.slice (some ⟨g,0,none⟩) fs.length n)) L.drew s2 from m.grow (eh _ _).drew)
    have ct:=aB br;have cq:=aB (FB.of_below (cb:=cb) (eh L.heap.size L).drew m.lt);clear x D m c HM;go_wp2_with fail;go_region_law (refine step_append_lies _ r_ _ _ 32 r_ B 9 i0 _ 1 16 underlying32 cy cf bk cs rfl d_ (.slice cd s2.length cg) s2.length (lG s2) r_ (ay.out.alloc _) ⟨L.heap.size,0,none⟩ 1 1 [.string (bs a.x_)] r_ r_ (RP L.drew _) (A5 _) d_ (by unfold maxLen;omega) o_ t_ (L.heap.size+1) s_ ?_;intro g5 di w5 af A bj eb;have bh:=GA u.out A ct.out;obtain⟨dv, -,q1,dt⟩:=kB bh;clear bh)
    all_goals
     go_wp2_with fail;go_roundg j
     case measure=>omega
     case rel=>
      have V:=H.out.add u.out ay.out af A (bj.imp_right λe=>by show L.heap.size<=g5;omega)
      exact⟨k+1,s2++[a.x_],o_,by go_num,(HLb.out.step cq.out).step V.1,V.2,by rw[t.out,Y.out],by have:=bp.out;simp;omega⟩
   ·have dy:k=o.length:=o_
    have aa:fF d b/\s.length+cC d b<=90000:=by
     have h1:=HW.out;have h2:=HD.out b (by rw[ak.out];simp)
     rw[ak.out] at h1;simp only[ek,gg,ik,e7,fy,fg,ge,ep,ew] at h1;have:=bp.out;exact⟨h2,o_⟩
    have HX:=aB (HBLK.out (.slice M b.y_.length N) b s wr C ax.out (cv.out.below l.fb.bel) aa.1 aa.2)
    have t:Hid (cc=aP fs (fY (FV (.slice (some ⟨g,0,none⟩) fs.length n))) d b ⟨s,0,0⟩):=by
     show _=_
     rw[r,ia o_]
     exact Z0 fs d _ b ax.out
    rw[<-t.out] at HX;clear l C r bi t aa;go_wp2_with fail;refine HX.out.mono ?_;rintro e L ⟨c,⟨s2,G,rfl,m⟩|⟨E,rfl⟩⟩
    ·have u:=aB (P.out.fb.trans c);have H:=aB m;have cl:=aB G;clear c m G;go_wp2_with fail;go_end0;exact dI.done u.out cl.out H.out
    ·have u:=aB (P.out.fb.trans c);have H:=aB E;clear c E;go_wp2_with fail;exact⟨rfl,dI.fault (c1:=cc) u.out H.out (Stk.refl _)⟩
def sG(fs:List aC):Bool:=lU fs [109,97,105,110]==some 0
def YX(fs:List aC)(F:bX)(o:aQ)(w:aG)(u:fs.length<=90000)(i:∀f∈fs,f.y_.length<=90000)(h:FSl F w o fs):
 Calls prog 72 #[o] w λe s=>Below w.heap.size w s/\((sG fs=true/\e=aX (.tuple #[]))\/(sG fs=false/\e=cT 5 0)):=by
 have d:=aB (ES fs F o [109,97,105,110] w o_ i h)
 have g:Hid (sG fs=(lU fs [109,97,105,110]==some 0)):=rfl;have b:=aB (λn r=>A4 i (x:=[109,97,105,110]) (n:=n) r)
 clear h i;rw[show bs [109,97,105,110]=⟨#[109,97,105,110]⟩ from rfl] at d
 obtain⟨j,l⟩:=E_ (sG fs);rw[<-l] at g ⊢
 clear l;cases c:lU fs [109,97,105,110] with
 |none=>
  obtain rfl:j=false:=by rw[g.out,c];rfl
  rw[c] at d;simp only[Option.getD_none,Option.isSome_none] at d;clear c g b;go_in
  go_wp2_with fail;refine d.mono ?_;rintro e p ⟨rfl,a⟩;have k:=aB a;clear a;go_wp2_with (go_at_call 107;refine(gS 5 0 _).mono ?_;rintro e t ⟨rfl,m⟩;obtain rfl:=m.symm)
  exact⟨rfl,k,d6 ⟨trivial,rfl⟩⟩
 |some n=>
  have r:=b n c;rw[c] at d;simp only[Option.getD_some,Option.isSome_some] at d;cases n with
  |zero=>
   obtain rfl:j=true:=by rw[g.out,c];rfl
   clear c g b;go_in
   go_wp2_with fail;refine d.mono ?_;rintro e p ⟨rfl,a⟩;have k:=aB a;clear a;go_wp2
   go_end0;exact⟨k,d7 ⟨trivial,rfl⟩⟩
  |succ n=>
   obtain rfl:j=false:=by rw[g.out,c];rfl
   clear c g b;have q:decide ((0:Int)<((n:Int)+1))=true:=decide_eq_true o_
   go_in
   go_wp2_with fail;refine d.mono ?_;rintro e p ⟨rfl,a⟩;have k:=aB a;clear a;go_wp2_with (go_at_call 107;refine(gS 5 0 _).mono ?_;rintro e t ⟨rfl,m⟩;obtain rfl:=m.symm)
   exact⟨rfl,k,d6 ⟨trivial,rfl⟩⟩
def C0(fs:List aC)(d:Nat):∀(a b:List aC) (s:bC),Stk s (fK fs d b a s)
 |[],_,s=>Stk.refl s
 |n::a,b,s=>by
  rw[fK];refine Stk.trans ?_ (C0 fs d a _ _);unfold gO;refine Stk.trans ?_ (Stk.fold (EP fs d) _ _);refine Stk.trans ?_ (Stk.e_ _ _);split
  ·exact Stk.found _ _ _
  ·exact Stk.refl _
def ZR(cb tp lo:Nat)(fs:List aC)(fv:aQ)(d:Nat)(w:aG)(c:bC)(gk:Nat)(i:aQ)(wr:aG):Prop:=
 ∃k s,k+gk=fs.length/\i=I_ (k:Nat)/\Below cb w wr/\CK cb tp lo fs fv wr s/\c=fK fs d (fs.take k) (fs.drop k) ⟨s,0,0⟩
def UE(lo:Nat)(fs:List aC)(M:aQ)(w:aG)(d:Nat)(H:fs.length<=90000)(z:∀f∈fs,f.y_.length<=90000)(h:FSl (Btw lo w.heap.size) w M fs)(N:∀f∈fs,∀k∈f.y_,fF d k)(P:∀f∈fs,f.y_.length+(f.y_.map (cC d)).sum<=90000):
 Calls prog 73 #[M] w λe U=>Below w.heap.size w U/\(((fK fs d [] fs ⟨[],0,0⟩).kind=0/\(fK fs d [] fs ⟨[],0,0⟩).l_=0/\e=aX (.tuple #[]))\/((fK fs d [] fs ⟨[],0,0⟩).kind≠0/\e=cT (fK fs d [] fs ⟨[],0,0⟩).kind (fK fs d [] fs ⟨[],0,0⟩).l_)):=by
 obtain⟨y,r,rfl⟩:∃x c,M=.slice x fs.length c:=by
  rcases h.cells with ⟨t,C⟩|⟨g,F,t,_⟩
  ·exact⟨none,0,by rw[t,C];rfl⟩
  ·exact⟨_,_,t⟩
 obtain⟨c,G⟩:=E_ (fK fs d [] fs ⟨[],0,0⟩);have p:Below w.heap.size w (w.alloc (.cells #[FV (.slice y fs.length r),bG] 156)):=(eh _ _).alloc cK _
 have W:Hid (ZR w.heap.size w.heap.size lo fs (FV (.slice y fs.length r)) d w c fs.length (I_ (0:Nat)) (w.alloc (.cells #[FV (.slice y fs.length r),bG] 156))):=
  ⟨0,[],o_,rfl,p,⟨⟨bG,aN _ _ rfl _,World.ownsRow_nil _ _ _ _,(by simp[Value.ownBlock]),cK⟩,d7 ⟨_,rfl,h.keep λk O=>p.block k O.2⟩⟩,by rw[G];rfl⟩
 rw[<-G];have V:=aB h;have L:=aB z;have Z:=aB N;have HW:=aB P;clear h p G z N P;go_in
 go_wp2_with fail;go_loopg [3,9] fs.length (λgk _ i wr=>ZR w.heap.size w.heap.size lo fs (FV (.slice y fs.length r)) d w c gk i wr)
 case atStart=>exact W
 case round=>
  obtain⟨k,s,O,rfl,D,q,l⟩:=hrel;have E:=aB D;by_cases b:k<fs.length
  ·obtain⟨j,rfl⟩:∃j,gk=j+1:=⟨gk-1,o_⟩
   obtain⟨g,rfl⟩:∃g,y=some ⟨g,0,none⟩:=by
    rcases V.cells with ⟨t,C⟩|⟨g,F,t,_⟩
    ·rw[C] at b;simp at b
    ·cases t;exact⟨g,rfl⟩
   have K:fs[k]∈fs:=fi b;have S:=aB (Q9 w.heap.size w.heap.size lo fs g r H L d k b s wr q (Z _ K) (HW _ K));have A:fs.drop k=fs[k]::fs.drop (k+1):=(jn b).symm
   have a:c=fK fs d (fs.take (k+1)) (fs.drop (k+1)) (gO fs d ⟨s,0,0⟩ fs[k] (dU (fs.take k) fs[k].x_).isNone):=by
    rw[l,A,fK,gq b]
   have n:=aB a;clear D q l a A K;generalize gO fs d ⟨s,0,0⟩ fs[k] (dU (fs.take k) fs[k].x_).isNone=Y at*;go_wp2_with fail;refine S.mono ?_;rintro e T ⟨m,⟨s1,rfl,rfl,o⟩|⟨u,rfl⟩⟩
   rotate_left
   ·have I:=aB (E.trans m.bel);have v:=aB u;have B:Hid (Stk Y c):=by show Stk _ _;rw[n.out];exact C0 fs d _ _ _
    clear m u;go_wp2_with fail;obtain⟨Q,X⟩:=B v;exact⟨rfl,I,d6 ⟨by rw[Q];exact v,by rw[Q,X]⟩⟩
   have J:Hid (ZR w.heap.size w.heap.size lo fs (FV (.slice (some (aI g 0)) fs.length r)) d w c j (I_ ((k+1:Nat):Int)) T):=⟨k+1,s1,o_,rfl,E.trans m.bel,o,n⟩
   clear m o S;go_wp2
   go_roundg j
   case measure=>omega
   case rel=>exact J
  ·have a:c=⟨s,0,0⟩:=by rw[l,ia o_];rfl
   have n:=aB a;clear D q l a;go_wp2
   go_end0;rw[n.out];exact⟨E,d7 ⟨rfl,rfl,rfl⟩⟩
structure NTabs(w:aG):Prop where
 er:∃te pe,w.cell? (aI 8 0)=some (.iface te pe)
 big:9<=w.heap.size
def NTabs.fr{sb:Nat}(h:NTabs w)(a:Fr sb w w')(e:9<=sb):NTabs w':=by
 obtain⟨b,d,c⟩:=h.er;have:=h.big;have:=a.size;exact⟨⟨b,d,by rw[zC (a.block 8 o_ o_)];exact c⟩,o_⟩
def I7(l:cE)(i:∀c∈l,eO c=true)(a:l≠[])(q:l.length<=100000)(w:aG)(k:NTabs w):
 Calls prog 207 #[.string (bs l),I_ 10,I_ 64] w λe b=>Below w.heap.size w b/\((∃v,dQ 0 l=some v/\e=aX (.tuple #[I_ (v:Nat),.nilIface]))\/(dQ 0 l=none/\∃x T p,e=aX (.tuple #[I_ x,.iface T p]))):=by
 have m:(bs l).size=l.length:=gJ l;rcases N4 l i a with ⟨v,f,d⟩|⟨f,d⟩
 ·refine(strconv_ParseInt_10_at64_ok (bs l) o_ v (by rw[gD];exact d) w).mono ?_
  rintro e b ⟨rfl,n⟩;refine⟨?_,d7 ⟨v,f,rfl⟩⟩;rcases n with rfl|⟨t,rfl⟩
  ·exact eh _ _
  ·exact Lib.bytesWorld_below _ _ _
 ·obtain⟨h,g,o⟩:=k.er;refine(strconv_ParseInt_10_at64_range (bs l) o_ (by rw[gD];exact d) (.iface h g) w o (d6 ⟨h,g,rfl⟩)).mono ?_
  rintro e b ⟨N,rfl,_,_,j⟩;exact⟨j,d6 ⟨f,_,_,_,rfl⟩⟩
def uN(c:UInt8):eR false c=eO c:=by unfold eR;simp
def PT(sb:Nat)(a:ByteArray)(n L:Nat)(w:aG)(h:SC sb a n L w)(Z:NTabs w)(F:9<=sb)(hs:a.size<=100000)(hn:n<a.size)(D:eO a[n]=true):
 Calls prog 184 #[bE sb] w (z8 sb a n L w (iD (a.data.toList.drop n) false)):=by
 obtain⟨k,m⟩:=E_ (bQ (eR false) (a.data.toList.drop n))
 have ac:k<=a.size-n:=by
  have:=lH (eR false) (a.data.toList.drop n);rw[m];simpa using this
 have aa:1<=k:=by
  rw[m,lL a n hn,tB _ _ _ (by rw[uN];exact D)];omega
 have ae:n<=a.size:=o_
 have Q:=(SC.cells h).1;have J:w.heap.size≠sb:=o_
 have U:SC sb a n L (w.alloc (.cells #[I_ 0,.string ⟨#[]⟩,I_ 0,I_ 0] 174)):=by unfold SC;rw[em _ _ _ Q];exact h
 obtain⟨h0,c0,c1,V,f1,X⟩:=U.cells;have E:Hid (ZTok (w.alloc (.cells #[I_ 0,.string ⟨#[]⟩,I_ 0,I_ 0] 174)).drew w.heap.size):=aN _ _ rfl _;have z:=aB (λw=>wF (eR false) 183 (λ_ _=>rfl) (λc w=>by rw[uN];exact vE c w) (a.extract n a.size) w (by rw[tF];omega))
 rw[oB,<-m] at z;have y:=aB (pK sb a n L k (w.alloc (.cells #[I_ 0,.string ⟨#[]⟩,I_ 0,I_ 0] 174)).drew U o_ o_)
 obtain⟨d,o⟩:=E_ ((a.data.toList.drop n).take k);rw[<-o] at y;have j:d.length=k:=by rw[o,gw];simp;omega
 have G:=aB (λW (hW:NTabs W)=>I7 d (λc Y=>by
  rw[o,m] at Y;rw[<-uN];exact tC _ _ c Y) (λe=>by rw[e] at j;simp at j;omega) o_ W hW)
 have HW:Hid (iD (a.data.toList.drop n) false={ sort:=48,x_:=d,size:=k,ok:=(dQ 0 d).isSome }):=by
  show _=_
  unfold iD;rw[<-m,<-o];rfl
 rw[HW.out];have P:Hid (Fr sb w (w.alloc (.cells #[I_ 0,.string ⟨#[]⟩,I_ 0,I_ 0] 174))):=(Fr.refl _ _).alloc _;have HG:=aB Z;have ab:(bs d).size=k:=by rw[gJ];exact j
 clear h U m o HW Z j D;obtain⟨rr,C⟩:∃rr:qL,rr={ sort:=48,x_:=d,size:=k,ok:=(dQ 0 d).isSome }:=⟨_,rfl⟩;rw[<-C];have K:=aB C;clear C;go_in
 go_wp2_with fail;go_cut [3] (λv wc=>v=.string (bs d)/\SC sb a (n+k) L wc/\Fr sb w wc/\ZTok wc w.heap.size)
 case first=>
  go_region_law (first|(go_simp;go_at_call 179;refine(z _).mono ?_;rintro e w1 ⟨rfl,S⟩;obtain rfl:=S.symm)|(go_simp;go_at_call 203;refine y.mono ?_;rintro e w2 ⟨rfl,q,f⟩;have l:=aB q;have t:=aB (P.drew.trans f);have r:=aB (f.keepS E J);clear q f))
  all_goals
   go_wp2_with fail;go_meet
   case rel=>exact⟨rfl,l,t,r⟩
 case rest=>
  obtain⟨rfl,q,f,H⟩:=hcut;have l:=aB q;have t:=aB f;have r:=aB H;have A:=aB (G wc (HG.fr f F));clear c0 c1 V f1 X h0 q f H y z E G;go_wp2_with fail;refine A.mono ?_;rintro e M ⟨g,⟨v,I,rfl⟩|⟨I,x,T,p,rfl⟩⟩
  ·have s:Hid (SC sb a (n+k) L M):=(g.block sb (aD l)).trans l;have b:Hid (ZTok M w.heap.size):=(g.block _ (aD r)).trans r;have B:=aB (t.trans (Fr.below g));obtain⟨h0,c0,c1,V,f1,X⟩:=s.cells;have z0:=aA b (i:=0) rfl;have z1:=aA b (i:=1) rfl;have z2:=aA b (i:=2) rfl;have z3:=aA b (i:=3) rfl;have y0:=aE (i:=0) b;have y1:=aE (i:=1) b;have y2:=aE (i:=2) b;have y3:=aE (i:=3) b;have ad:=aD b;have N:=aB I;clear g I A;go_wp2_with fail;rw[K.out];refine bodyPost_ret (v:=.agg #[I_ 2,.string (bs d),I_ v,I_ L]) (by simp[results,results184,go_sem,z0,z1,z2,z3]) rfl ?_
   have u:=nJ B s cK J (I_ 2) (.string (bs d)) (I_ v) (I_ L);refine⟨u.1,d7 ⟨by show (dQ 0 d).isSome=true;rw[N.out];rfl,?_,u.2⟩⟩
   show _=Ending.returned (.agg #[I_ 2,.string (bs d),I_ (pval ⟨48,d,L⟩),I_ L])
   have e:pval ⟨48,d,L⟩=v:=by unfold pval;rw[if_pos rfl,N.out];rfl
   rw[e]
  ·have s:Hid (SC sb a (n+k) L M):=(g.block sb (aD l)).trans l;have B:=aB (t.trans (Fr.below g));have O:=aB (tE sb a (n+k) L M s);have N:=aB I;clear g I A;go_wp2_with fail;refine O.mono ?_;rintro e w4 ⟨rfl,S⟩;obtain rfl:=S.symm;go_wp2_with fail;rw[K.out];exact⟨rfl,B,d6 ⟨by show (dQ 0 d).isSome=false;rw[N.out];rfl,rfl⟩⟩
def E3(sb:Nat)(b:ByteArray)(n L:Nat)(w:aG)(h:SC sb b n L w)(hg:NTabs w)(hm:PTabs w)(z:9<=sb)(hs:b.size<=100000)(S:n<b.size):
 Calls prog 140 #[bE sb] w (z8 sb b n L w (cG (b.data.toList.drop n))):=by
 have W:=(SC.cells h).1;have r:w.heap.size≠sb:=o_
 have hb:(b[n].toNat:Int)<=255:=oW _;have V:SC sb b n L (w.alloc (.cells #[I_ 0,.string ⟨#[]⟩,I_ 0,I_ 0] 174)):=by unfold SC;rw[em _ _ _ W];exact h
 obtain⟨h0,c0,c1,c2,f1,f2⟩:=V.cells;have p:Hid (∀q,ZTok ((w.alloc (.cells #[I_ 0,.string ⟨#[]⟩,I_ 0,I_ 0] 174)).drewN q) w.heap.size):=λ_=>aN _ _ rfl _
 have D:Fr sb w (w.alloc (.cells #[I_ 0,.string ⟨#[]⟩,I_ 0,I_ 0] 174)):=(Fr.refl _ _).alloc _;have l:=aB D;have O:Hid (∀q,NTabs ((w.alloc (.cells #[I_ 0,.string ⟨#[]⟩,I_ 0,I_ 0] 174)).drewN q)):=λq=>hg.fr (D.drewN q) z
 have A:Hid (∀q,PTabs ((w.alloc (.cells #[I_ 0,.string ⟨#[]⟩,I_ 0,I_ 0] 174)).drewN q)):=λq=>hm.fr (D.drewN q) z
 have Q:=aB V;obtain⟨c,I⟩:=E_ (cG (b.data.toList.drop n));rw[<-I];have F:c=if eO b[n] || fQ b[n] then iD (b.data.toList.drop n) (fQ b[n]) else if b[n].toNat=34 then oO (b.data.toList.drop (n+1)) else iC (b.data.toList.drop n):=by rw[I,lL b n S];rfl
 have t:=aB F;have s:=aB (zT b[n]);have u:=aB (vE b[n]);clear h V hg hm I F D;cases y:fQ b[n]
 ·cases B:eO b[n]
  ·by_cases E:b[n].toNat=34
   ·have e:c=oO (b.data.toList.drop (n+1)):=by rw[t.out,y,B];simp[E]
    have C:=aB (λq=>E0 sb b n L ((w.alloc (.cells #[I_ 0,.string ⟨#[]⟩,I_ 0,I_ 0] 174)).drewN q) Q o_ S)
    rw[<-e] at C;rw[y] at s;rw[B] at u;have P:((b[n].toNat:Int)==34)=true:=t_
    clear y B e t E;go_in
    go_wp2_with fail;go_quiet (fail)
    go_wp2_with fail;refine(s _).mono ?_;rintro e N ⟨rfl,x⟩;obtain rfl:=x.symm;go_wp2_with fail;refine(u _).mono ?_;rintro e N ⟨rfl,x⟩;obtain rfl:=x.symm;go_wp2_with fail;refine(C _).mono ?_;rintro e w2 ⟨f,⟨d,rfl,o⟩|⟨d,rfl⟩⟩
    ·have j:=aB ((l.drewN _).trans f);have m:=aB o;have a:=aB (f.keepS (p _) r);have g:=aB d;have K:=aA a (i:=0) rfl;have H:=aA a (i:=1) rfl;have G:=aA a (i:=2) rfl;have J:=aA a (i:=3) rfl;have Y:=aE (i:=0) a;have T:=aE (i:=1) a;have y2:=aE (i:=2) a;have U:=aE (i:=3) a;have M:=aD a;clear f o d;simp only[oR];go_wp2
     refine bodyPost_ret (v:=.agg #[I_ (psort c.sort),.string (bs c.x_),I_ (pval ⟨c.sort,c.x_,L⟩),I_ L]) (by clear O A p l j m a g;generalize psort c.sort=Z;generalize pval ⟨c.sort,c.x_,L⟩=X;simp[results,results140,go_sem,K,H,G,J]) rfl ?_
     have k:=nJ j m cK r (I_ (psort c.sort)) (.string (bs c.x_)) (I_ (pval ⟨c.sort,c.x_,L⟩)) (I_ L);exact⟨k.1,d7 ⟨g,rfl,k.2⟩⟩
    ·have j:=aB ((l.drewN _).trans f);have g:=aB d;clear f d;go_wp2_with fail;exact⟨rfl,j,d6 ⟨g,rfl⟩⟩
   ·have e:iC (b.data.toList.drop n)=c:=by rw[t.out,y,B];simp[E]
    have C:=aB (λq=>E6 sb b n L ((w.alloc (.cells #[I_ 0,.string ⟨#[]⟩,I_ 0,I_ 0] 174)).drewN q) Q (A q) o_ S c e)
    rw[y] at s;rw[B] at u;have P:((b[n].toNat:Int)==34)=false:=t_
    clear y B e t E;go_in
    go_wp2_with fail;go_quiet (fail)
    go_wp2_with fail;refine(s _).mono ?_;rintro e N ⟨rfl,x⟩;obtain rfl:=x.symm;go_wp2_with fail;refine(u _).mono ?_;rintro e N ⟨rfl,x⟩;obtain rfl:=x.symm;go_wp2_with fail;refine(C _).mono ?_;rintro e w2 ⟨f,⟨d,rfl,o⟩|⟨d,rfl⟩⟩
    ·have j:=aB ((l.drewN _).trans f);have m:=aB o;have a:=aB (f.keepS (p _) r);have g:=aB d;have K:=aA a (i:=0) rfl;have H:=aA a (i:=1) rfl;have G:=aA a (i:=2) rfl;have J:=aA a (i:=3) rfl;have Y:=aE (i:=0) a;have T:=aE (i:=1) a;have y2:=aE (i:=2) a;have U:=aE (i:=3) a;have M:=aD a;clear f o d;simp only[oR];go_wp2
     refine bodyPost_ret (v:=.agg #[I_ (psort c.sort),.string (bs c.x_),I_ (pval ⟨c.sort,c.x_,L⟩),I_ L]) (by clear O A p l j m a g;generalize psort c.sort=Z;generalize pval ⟨c.sort,c.x_,L⟩=X;simp[results,results140,go_sem,K,H,G,J]) rfl ?_
     have k:=nJ j m cK r (I_ (psort c.sort)) (.string (bs c.x_)) (I_ (pval ⟨c.sort,c.x_,L⟩)) (I_ L);exact⟨k.1,d7 ⟨g,rfl,k.2⟩⟩
    ·have j:=aB ((l.drewN _).trans f);have g:=aB d;clear f d;go_wp2_with fail;exact⟨rfl,j,d6 ⟨g,rfl⟩⟩
  ·have e:c=iD (b.data.toList.drop n) false:=by rw[t.out,y,B];rfl
   have C:=aB (λq=>PT sb b n L ((w.alloc (.cells #[I_ 0,.string ⟨#[]⟩,I_ 0,I_ 0] 174)).drewN q) Q (O q) z hs S B)
   rw[<-e] at C;rw[y] at s;rw[B] at u;clear y B e t;go_in
   go_wp2_with fail;go_quiet (fail)
   go_wp2_with fail;refine(s _).mono ?_;rintro e N ⟨rfl,x⟩;obtain rfl:=x.symm;go_wp2_with fail;refine(u _).mono ?_;rintro e N ⟨rfl,x⟩;obtain rfl:=x.symm;go_wp2_with fail;refine(C _).mono ?_;rintro e w2 ⟨f,⟨d,rfl,o⟩|⟨d,rfl⟩⟩
   ·have j:=aB ((l.drewN _).trans f);have m:=aB o;have a:=aB (f.keepS (p _) r);have g:=aB d;have K:=aA a (i:=0) rfl;have H:=aA a (i:=1) rfl;have G:=aA a (i:=2) rfl;have J:=aA a (i:=3) rfl;have Y:=aE (i:=0) a;have T:=aE (i:=1) a;have y2:=aE (i:=2) a;have U:=aE (i:=3) a;have M:=aD a;clear f o d;simp only[oR];go_wp2
    refine bodyPost_ret (v:=.agg #[I_ (psort c.sort),.string (bs c.x_),I_ (pval ⟨c.sort,c.x_,L⟩),I_ L]) (by clear O A p l j m a g;generalize psort c.sort=Z;generalize pval ⟨c.sort,c.x_,L⟩=X;simp[results,results140,go_sem,K,H,G,J]) rfl ?_
    have k:=nJ j m cK r (I_ (psort c.sort)) (.string (bs c.x_)) (I_ (pval ⟨c.sort,c.x_,L⟩)) (I_ L);exact⟨k.1,d7 ⟨g,rfl,k.2⟩⟩
   ·have j:=aB ((l.drewN _).trans f);have g:=aB d;clear f d;go_wp2_with fail;exact⟨rfl,j,d6 ⟨g,rfl⟩⟩
 ·have e:c=iD (b.data.toList.drop n) true:=by rw[t.out,y,Bool.or_true];rfl
  have C:=aB (λq=>E5 sb b n L ((w.alloc (.cells #[I_ 0,.string ⟨#[]⟩,I_ 0,I_ 0] 174)).drewN q) Q o_ o_)
  rw[<-e] at C;rw[y] at s;clear y e t u;go_in
  go_wp2_with fail;go_quiet (fail)
  go_wp2_with fail;refine(s _).mono ?_;rintro e N ⟨rfl,x⟩;obtain rfl:=x.symm;go_wp2_with fail;refine(C _).mono ?_;rintro e w2 ⟨f,⟨d,rfl,o⟩|⟨d,rfl⟩⟩
  ·have j:=aB ((l.drewN _).trans f);have m:=aB o;have a:=aB (f.keepS (p _) r);have g:=aB d;have K:=aA a (i:=0) rfl;have H:=aA a (i:=1) rfl;have G:=aA a (i:=2) rfl;have J:=aA a (i:=3) rfl;have Y:=aE (i:=0) a;have T:=aE (i:=1) a;have y2:=aE (i:=2) a;have U:=aE (i:=3) a;have M:=aD a;clear f o d;simp only[oR];go_wp2
   refine bodyPost_ret (v:=.agg #[I_ (psort c.sort),.string (bs c.x_),I_ (pval ⟨c.sort,c.x_,L⟩),I_ L]) (by clear O A p l j m a g;generalize psort c.sort=Z;generalize pval ⟨c.sort,c.x_,L⟩=X;simp[results,results140,go_sem,K,H,G,J]) rfl ?_
   have k:=nJ j m cK r (I_ (psort c.sort)) (.string (bs c.x_)) (I_ (pval ⟨c.sort,c.x_,L⟩)) (I_ L);exact⟨k.1,d7 ⟨g,rfl,k.2⟩⟩
  ·have j:=aB ((l.drewN _).trans f);have g:=aB d;clear f d;go_wp2_with fail;exact⟨rfl,j,d6 ⟨g,rfl⟩⟩
def n9:(prog.info? 174).map (λi=>(i.zero,i.size,i.bytes))=some (some (.agg #[I_ 0,.string (bs []),I_ 0,I_ 0]),4,40):=k_
def KW(w:aG)(a b c d:aQ):∀j u,([a,b,c,d]:List Value)[j]?=some u->(w.alloc (.cells #[a,b,c,d] 174)).cell? ((⟨w.heap.size,0,none⟩:Addr).add j)=some u:=by
 intro j u e;match j,e with
 |0,e=>simp at e;subst e;simp[Addr.add,go_sem]
 |1,e=>simp at e;subst e;simp[Addr.add,go_sem]
 |2,e=>simp at e;subst e;simp[Addr.add,go_sem]
 |3,e=>simp at e;subst e;simp[Addr.add,go_sem]
 |j+4,e=>simp at e
def RJ(l m n:Int)(b:ByteArray):∀u∈([I_ l,.string b,I_ m,I_ n]:List Value),u.oneCell'=true:=by
 intro u a;simp at a;rcases a with rfl|rfl|rfl|rfl<;>rfl
def F9{a:Nat}{n:Nat}{xs:List Value}(h:w.ownsRow b e a v n xs):∃x c,v=.slice x n c:=by
 rcases h.2 with ⟨d,i⟩|⟨g,f,j,d,_⟩
 ·exact⟨none,0,by rw[d,i]⟩
 ·exact⟨_,f,d⟩
def vM(h:∀c∈l,c≠10):l.count 10=0:=List.count_eq_zero.2 λa=>h 10 a rfl
def VF(l:cE)(h:(cG l).ok=true):(l.take (cG l).size).count 10=0:=by
 cases l with
 |nil=>simp[cG] at h
 |cons c r=>
  rw[cG] at h ⊢
  split
  ·rename_i i;rw[tU];refine vM λx a=>?_
   have:=tC _ _ x a;intro e;subst e;revert this
   cases fQ c<;>decide
  ·rename_i i;rw[if_neg i] at h;split
   ·rename_i b;rw[if_pos b] at h;have d:(decide (r[bQ fO r]?=some 34) && decide (bQ fO r<=100))=true:=h;rw[fw,decide_eq_true_eq] at d
    have k:bQ fO r<r.length:=by
     by_cases a:bQ fO r<r.length
     ·exact a
     ·rw[gi o_] at d;exact absurd d.1 s_
    show ((c::r).take (bQ fO r+1+1)).count 10=0
    rw[iu,List.take_add_one,d.1];refine vM λx a=>?_
    rcases eo.1 a with rfl|a
    ·intro e;rw[e] at b;exact absurd b d_
    rcases eq.1 a with a|a
    ·have:=tC _ _ x a;intro e;subst e;exact absurd this d_
    ·intro e;rw[e] at a;exact absurd a d_
   ·rename_i b;rw[if_neg b] at h;unfold iC at h ⊢
    cases f:cX.find? (λo=>cY (c::r) o) with
    |none=>rw[f] at h;simp at h
    |some o=>
     have j:=List.find?_some f;have m:=iz f
     have n:(c::r).take o.length=o:=by
      have g:=j;unfold cY at g;rw[nE _ _ (lR j)] at g;simpa using g
     show ((c::r).take o.length).count 10=0
     rw[n];have:∀o∈cX,o.count 10=0:=d_
     exact this o m
def X9(x:Except Nat (List bB))(w:aG)(e:Ending)(w':aG):Prop:=
 Below w.heap.size w w'/\
  match x with
  |.error n=>e=cT 3 n
  |.ok ts=>∃v,e=aX v/\w'.ownsRow (w.heap.size+1) 174 4 v ts.length (ptoks ts)
def ab_(src:ByteArray)(w:aG)(TS:Except Nat (List bB))(gk:Nat)(v:aQ)(wr:aG):Prop:=
 ∃(k f:Nat) (ts:List bB),k<=src.size/\src.size+1<=k+f/\src.size<=k+gk/\ts.length<=k/\SC w.heap.size src k (bD (src.data.toList.take k)) wr/\Fr w.heap.size w wr/\wr.ownsRow (w.heap.size+1) 174 4 v ts.length (ptoks ts)/\TS=iV ts (eW f (src.data.toList.take k) (src.data.toList.drop k))
def Fr.to_below(h:Fr w.heap.size w w'):Below w.heap.size w w':=⟨h.os,h.tape,h.output,h.size,λk a=>h.block k a o_⟩
def X8(a:ByteArray)(w:World)(hg:NTabs w)(U:PTabs w)(hs:a.size<=2000):
 Calls prog 103 #[.string a] w (X9 (iB a.data.toList) w):=by
 obtain⟨i0,H,Z,ak,af⟩:=info_parts n9;have B:=hg.big;have h0:SC w.heap.size a 0 (bD (a.data.toList.take 0)) (w.alloc (.cells #[.string a,.int .i64 0,.int .i64 1] 249)):=aN _ _ rfl _;have l:=aB (QL w.heap.size a 0 (w.alloc (.cells #[.string a,.int .i64 0,.int .i64 1] 249)) h0 o_ (ft _))
 simp only[List.drop_zero,gb] at l;obtain⟨T,F⟩:=E_ (Hs.blankL a.size a.data.toList);have al:T<=a.size:=by have:=xA a.size a.data.toList;rw[F];simpa using this
 rw[<-F] at l;obtain⟨D,s⟩:=E_ (iB a.data.toList)
 have n:Hid (D=eW (a.size+1) (a.data.toList.take T) (a.data.toList.drop T)):=by
  show _=_
  rw[s];unfold iB;rw[show a.data.toList.length=a.size by simp,<-F]
 rw[<-s];have ad:Hid (Fr w.heap.size w (w.alloc (.cells #[.string a,.int .i64 0,.int .i64 1] 249))):=(Fr.refl _ _).alloc _;have HG:=aB hg;have HM:=aB U;clear h0 hg U F s;go_enter func103,ntmps103;go_wp2_with fail;refine l.out.mono ?_;rintro e w1 ⟨rfl,ag,an⟩;have HI:Hid (ab_ a w D a.size (.slice none 0 0) w1):=⟨T,a.size+1,[],al,o_,o_,s_,ag,ad.out.trans an,World.ownsRow_nil _ _ _ _,by rw[n.out,EK]⟩
 clear ag an l n ad;go_wp2_with fail;go_loopg [4] a.size (λgk v wr=>ab_ a w D gk v wr)
 case atStart=>exact HI.out
 case round=>
  obtain⟨k,f,u,hk,hf,bb,ba,K,Q,g,s⟩:=hrel
  have hL:bD (a.data.toList.take k)<=k+1:=by
   have:=qC (a.data.toList.take k);have:=List.length_take_le k a.data.toList;omega
  obtain⟨h0,c0,c1,c2,f1,f2⟩:=K.cells;have az:=Q.size;have av:=aB K;have y:=aB Q;have n:=aB s;obtain⟨x,c,rfl⟩:=F9 g;have G:∀k,(Value.slice x u.length c).ownBlock=some k->w.heap.size+1<=k:=cS g;clear HI K Q s;by_cases Y:k<a.size
  ·obtain⟨f,rfl⟩:∃f',f=f'+1:=⟨f-1,o_⟩
   obtain⟨j,rfl⟩:∃j,gk=j+1:=⟨gk-1,o_⟩
   have aj:decide ((k:Int)<(a.size:Int))=true:=decide_eq_true o_
   have hl:(a.data.toList.drop k).length=a.size-k:=s_
   have E:=aB (E3 w.heap.size a k (bD (a.data.toList.take k)) wr av.out (HG.out.fr y.out B) (HM.out.fr y.out B) B o_ Y)
   cases o:(cG (a.data.toList.drop k)).ok
   ·have HF:Hid (D=.error (bD (a.data.toList.take k))):=by
     show _=_
     rw[n.out,nI _ _ _ o_ o];rfl
    have P:=aB o;clear n hl o;generalize bD (a.data.toList.take k)=L at*;go_wp2_with fail;refine E.out.mono ?_;rintro e w2 ⟨q,⟨h,_,_⟩|⟨h,rfl⟩⟩
    ·rw[P.out] at h;cases h
    have A:=aB (y.out.trans q);clear q h E;go_wp2_with fail;rw[HF.out];exact⟨rfl,A.out.to_below,rfl⟩
   ·have ao:=vS _ o;rw[hl] at ao;have am:=VF _ o;obtain⟨m,U⟩:=E_ (k+(cG (a.data.toList.drop k)).size+Hs.blankL a.size (a.data.toList.drop (k+(cG (a.data.toList.drop k)).size)))
    have aq:m<=a.size:=by
     have:=xA a.size (a.data.toList.drop (k+(cG (a.data.toList.drop k)).size));rw[gt,show a.data.toList.length=a.size by simp] at this
     omega
    have HT:=V6 a k f Y o m U
    have HF:Hid (D=iV (u++[{ sort:=(cG (a.data.toList.drop k)).sort,x_:=(cG (a.data.toList.drop k)).x_,l_:=bD (a.data.toList.take k) }]) (eW f (a.data.toList.take m) (a.data.toList.drop m))):=by
     show _=_
     rw[n.out,HT,BP]
    have X:bD (a.data.toList.take (k+(cG (a.data.toList.drop k)).size))=bD (a.data.toList.take k):=by
     rw[List.take_add,kD,am];rfl
    have l:=aB (λW (hW:SC w.heap.size a (k+(cG (a.data.toList.drop k)).size) (bD (a.data.toList.take (k+(cG (a.data.toList.drop k)).size))) W)=>QL w.heap.size a _ W hW o_ o_)
    rw[X] at l;simp only[<-U] at l;have P:=aB o;have ay:k<m:=o_
    clear n hl o HT am X U;generalize cG (a.data.toList.drop k)=r at*;obtain⟨pa,S⟩:=E_ (psort r.sort);obtain⟨pb,I⟩:=E_ (pval ⟨r.sort,r.x_,bD (a.data.toList.take k)⟩);have ac:Hid (oR ⟨r.sort,r.x_,bD (a.data.toList.take k)⟩=.agg #[.int .i64 pa,.string (bs r.x_),.int .i64 pb,.int .i64 (bD (a.data.toList.take k))]):=by show _=_;rw[S,I];rfl
    have ap:Hid (ptok ⟨r.sort,r.x_,bD (a.data.toList.take k)⟩=[.int .i64 pa,.string (bs r.x_),.int .i64 pb,.int .i64 (bD (a.data.toList.take k))]):=by show _=_;rw[S,I];rfl
    clear S I;generalize bD (a.data.toList.take k)=L at*;have O:=aB G;have ah:=aB g;clear g G;go_wp2_with fail;refine E.out.mono ?_;rintro e w2 ⟨q,⟨h,rfl,J⟩|⟨h,rfl⟩⟩
    rotate_left
    ·rw[P.out] at h;cases h
    rw[ac.out];have t:=aY (w1:=w2) ah.out λi H=>q.block i (cP ah.out i H) (by have:=O.out i H;omega)
    have A:=aB (y.out.trans q);have aa:=aB J;have ax:=A.out.size;have ae:=aD J;clear q h J E ac;go_wp2_with (at_builtin;refine wpList_append_lies _ r_ _ _ 118 r_ (w.heap.size+1) 174 i0 _ 4 40 underlying118 H Z ak af rfl d_ _ _ _ r_ (t.alloc _) ⟨w2.heap.size,0,none⟩ 1 1 [.int .i64 pa,.string (bs r.x_),.int .i64 pb,.int .i64 L] r_ r_ (KW _ _ _ _ _) (RJ _ _ _ _) d_ (by unfold maxLen;omega) o_ t_ (w2.heap.size+1) s_ ?_)
    intro g7 p V d b C ar;have N:=aB ((A.out.alloc _).grown b (λk hk=>by have:=O.out k hk;omega))
    have aw:Hid (SC w.heap.size a (k+r.size) L V):=by
     show _=_
     rw[b.block _ t_ (λe=>by have:=O.out _ e.symm;omega),em _ _ _ ae]
     exact aa.out
    have z:Hid (V.ownsRow (w.heap.size+1) 174 4 (.slice (some ⟨g7,0,none⟩) (u.length+1) p) (u++[(⟨r.sort,r.x_,L⟩:bB)]).length (ptoks (u++[⟨r.sort,r.x_,L⟩]))):=by
     rw[EJ,ap.out,ek];exact d
    have ai:=aB (l.out V aw.out);clear t d b C aa A l;go_wp2_with fail;refine ai.out.mono ?_;rintro e w8 ⟨rfl,ab,M⟩
    have au:Hid (ab_ a w D j (.slice (some ⟨g7,0,none⟩) (u.length+1) p) w8):=by
     refine⟨m,f,u++[⟨r.sort,r.x_,L⟩],aq,o_,o_,t_,ab,N.out.trans M,?_,HF.out⟩
     exact aY z.out λi H=>M.block i (cP z.out i H) (by have:=cS z.out i H;omega)
    clear ab M ai;go_wp2_with fail;go_roundg j
    case measure=>omega
    case rel=>exact au.out
  ·obtain⟨f,rfl⟩:∃f',f=f'+1:=⟨f-1,o_⟩
   have HF:Hid (D=.ok (u++[{ sort:=101,x_:=[],l_:=bD (a.data.toList.take k) }])):=by
    show _=_
    rw[n.out,nH _ _ _ t_];rfl
   have aj:decide ((k:Int)<(a.size:Int))=false:=decide_eq_false o_
   clear n;generalize bD (a.data.toList.take k)=L at*;go_wp2_with (at_builtin;refine wpList_append_lies _ r_ _ _ 118 r_ (w.heap.size+1) 174 i0 _ 4 40 underlying118 H Z ak af rfl d_ _ _ _ r_ (g.alloc _) ⟨wr.heap.size,0,none⟩ 1 1 [.int .i64 4,.string ⟨#[]⟩,.int .i64 0,.int .i64 L] r_ r_ (KW _ _ _ _ _) (RJ _ _ _ _) d_ (by unfold maxLen;omega) o_ t_ (wr.heap.size+1) s_ ?_)
   intro g7 p V d b C ar;have N:=aB ((y.out.alloc _).grown b (λk hk=>by have:=G k hk;omega))
   have z:Hid (V.ownsRow (w.heap.size+1) 174 4 (.slice (some ⟨g7,0,none⟩) (u.length+1) p) (u++[(⟨101,[],L⟩:bB)]).length (ptoks (u++[⟨101,[],L⟩]))):=by
    rw[EJ,ek];exact d
   clear g d b C G;go_wp2_with fail;go_ret;rw[HF.out];exact⟨N.out.to_below,_,rfl,z.out⟩
def XP(a:ByteArray)(w:aG)(_hs:a.size<=maxLen):
 Calls prog 101 #[.string a] w λe d=>d=w/\((a.size<=2000/\e=aX (.tuple #[]))\/(2000<a.size/\e=cT 1 0)):=by
 by_cases h:a.size<=2000
 ·have c:decide ((2000:Int)<(a.size:Int))=false:=decide_eq_false o_
  go_in
  go_wp2
  go_end0;exact⟨rfl,d7 ⟨h,rfl⟩⟩
 ·have c:decide ((2000:Int)<(a.size:Int))=true:=decide_eq_true o_
  go_in
  go_wp2_with (go_at_call 107;refine(gS 1 0 _).mono ?_;rintro e f ⟨rfl,b⟩;obtain rfl:=b.symm)
  exact⟨rfl,rfl,d6 ⟨o_,rfl⟩⟩
def NM{c:Nat}{x:UInt8}(h:x∈l.take c):∃i,i<c/\l[i]?=some x:=by
 obtain⟨i,b,e⟩:=List.mem_iff_getElem.1 h;have a:=b;rw[gw] at a;refine⟨i,o_,?_⟩
 rw[List.getElem_take] at e;rw[ff o_,e]
def yM{lo a:Nat}(h:dN l i lo a=true){x:UInt8}(b:l[i]?=some x):lo<=x.toNat:=by
 unfold dN at h;rw[b] at h;simp at h;exact h.1
def UI(h:2<=bL l):(l.take (bL l)).count 10=0:=by
 refine vM λx o=>?_
 obtain⟨i,c,e⟩:=NM o;suffices 128<=x.toNat by intro e;rw[e] at this;exact absurd this d_
 revert h c
 unfold bL;cases m:l[0]? with
 |none=>simp
 |some b=>
  simp only;have d:i=0->x=b:=λg=>by subst g;rw[m] at e;exact(Option.some.inj e).symm
  split
  ·intro h;omega
  ·rename_i k;split
   ·rename_i f;split
    ·rename_i a;intro _ c;match i,c with
     |0,_=>rw[d rfl];omega
     |1,_=>exact yM a e
    ·intro h;omega
   ·split
    ·rename_i n;by_cases a:(dN l 1 (if b.toNat=224 then 160 else 128) (if b.toNat=237 then 159 else 191) && dN l 2 128 191)=true
     ·rw[if_pos a];rw[fw] at a;intro _ c;match i,c with
      |0,_=>rw[d rfl];omega
      |1,_=>have:=yM a.1 e;split at this<;>omega
      |2,_=>exact yM a.2 e
     ·rw[if_neg a];intro h;omega
    ·split
     ·rename_i j;by_cases a:(dN l 1 (if b.toNat=240 then 144 else 128) (if b.toNat=244 then 143 else 191) && dN l 2 128 191 && dN l 3 128 191)=true
      ·rw[if_pos a];rw[fw,fw] at a;intro _ c;match i,c with
       |0,_=>rw[d rfl];omega
       |1,_=>have:=yM a.1.1 e;split at this<;>omega
       |2,_=>exact yM a.1.2 e
       |3,_=>exact yM a.2 e
      ·rw[if_neg a];intro h;omega
     ·intro h;omega
def bn_(n a b c d:Nat)(e:a<256):(Lib.decodeN n a b c d).1<=1114111:=by
 unfold Lib.decodeN;repeat' split
 all_goals (simp only;omega)
def b2_(a:ByteArray)(k:Nat)(p:k<a.size):∃r z,Lib.decodeGo (a.extract k a.size)=(r,z)/\r<=1114111/\
 ((bL (a.data.toList.drop k)=0/\r=65533/\z=1)\/(bL (a.data.toList.drop k)≠0/\z=bL (a.data.toList.drop k)/\¬(r=65533/\z=1)/\(r=10↔a[k].toNat=10))):=by
 have m:(a.extract k a.size).size=a.size-k:=s_
 have b:0<(a.extract k a.size).size:=o_
 have j:((a.extract k a.size).get! 0).toNat=a[k].toNat:=by rw[pS _ 0 b];simp[ByteArray.getElem_extract]
 have f:=br_ (a.extract k a.size) b;rw[oB] at f
 have h:Lib.decodeGo (a.extract k a.size)=Lib.decodeN (a.extract k a.size).size ((a.extract k a.size).get! 0).toNat ((a.extract k a.size).get! 1).toNat ((a.extract k a.size).get! 2).toNat ((a.extract k a.size).get! 3).toNat:=by
  unfold Lib.decodeGo;rw[if_neg o_,Lib.decode_at];rfl
 obtain⟨g,d⟩:=x9 (a.extract k a.size).size ((a.extract k a.size).get! 0).toNat ((a.extract k a.size).get! 1).toNat ((a.extract k a.size).get! 2).toNat ((a.extract k a.size).get! 3).toNat (jh _) (jh _) (jh _) (jh _);have i:=bn_ (a.extract k a.size).size ((a.extract k a.size).get! 0).toNat ((a.extract k a.size).get! 1).toNat ((a.extract k a.size).get! 2).toNat ((a.extract k a.size).get! 3).toNat (jh _);rw[<-f] at g d;rw[<-h] at g d i;rw[j] at d;clear h f;generalize Lib.decodeGo (a.extract k a.size)=D at*;obtain⟨r,z⟩:=D;refine⟨r,z,rfl,i,?_⟩;by_cases e:bL (a.data.toList.drop k)=0
 ·have:=g e;cases this;exact d7 ⟨e,rfl,rfl⟩
 ·obtain⟨n,l,o⟩:=d e;have c:z=bL (a.data.toList.drop k):=n;exact d6 ⟨e,c,by rw[c];exact l,o⟩
def CR(h:Lib.Utf8Tabs 4 5 w)(a:Below w.heap.size w w')(e:9<=w.heap.size):Lib.Utf8Tabs 4 5 w':=
 ⟨λc d=>(a.cell (p:=(aI 4 c)) (by show 4<_;omega)).trans (h.1 c d),λi b=>⟨(a.cell (p:=(aI 5 (2*i))) (by show 5<_;omega)).trans (h.2 i b).1,(a.cell (p:=(aI 5 (2*i+1))) (by show 5<_;omega)).trans (h.2 i b).2⟩⟩
def bk_(x:Option Nat)(l:cE)(w:aG)(e:Ending)(w':aG):Prop:=
 Below w.heap.size w w'/\
  match x with
  |none=>e=aX (.tuple #[])
  |some k=>e=cT 2 (bD (l.take k))
def bj_(a:ByteArray)(w:aG)(N:Lib.Utf8Tabs 4 5 w)(Y:9<=w.heap.size)(hs:a.size<=2000):
 Calls prog 102 #[.string a] w (bk_ (dZ a.size a.data.toList 0) a.data.toList w):=by
 have Q:=aB N;obtain⟨X,F⟩:=E_ (dZ a.size a.data.toList 0);rw[<-F];have H:Hid (X=dZ a.size (a.data.toList.drop 0) 0):=F;clear N F;go_in
 go_wp2_with fail;go_loopg [2,3,4,5] a.size (λgk lv iv _ _ wr=>∃k f:Nat,k<=a.size/\a.size<=k+f/\a.size<=k+gk/\iv=I_ k/\lv=I_ (bD (a.data.toList.take k))/\Below w.heap.size w wr/\Hid (X=dZ f (a.data.toList.drop k) k))
 case atStart=>exact⟨0,a.size,ft _,o_,o_,rfl,rfl,eh _ _,H⟩
 case round=>
  obtain⟨k,f,hk,hf,V,rfl,rfl,C,v⟩:=hrel
  have hL:bD (a.data.toList.take k)<=k+1:=by
   have:=qC (a.data.toList.take k);have:=List.length_take_le k a.data.toList;omega
  have s:=aB C;by_cases p:k<a.size
  ·obtain⟨f,rfl⟩:∃f',f=f'+1:=⟨f-1,o_⟩
   obtain⟨j,rfl⟩:∃j,gk=j+1:=⟨gk-1,o_⟩
   have d:0<(a.data.toList.drop k).length:=t_
   obtain⟨r,z,K,hr,hc⟩:=b2_ a k p;have t:=aB (utf8_DecodeRuneInString (a.extract k a.size) wr (CR Q C Y));rw[K] at t;clear K C;rcases hc with ⟨g,rfl,rfl⟩|⟨g,n,A,c⟩
   ·have u:Hid (X=some k):=by show _=_;rw[v.out,QI _ _ _ d g]
    generalize x:bD (a.data.toList.take k)=L at*;have G:=aB x;clear v g d x;go_wp2_with fail;refine t.mono ?_;rintro e J ⟨rfl,b⟩;have h:=aB (s.trans (b.mono s.size));clear b t;go_wp2_with (go_at_call 107;refine(gS 2 L _).mono ?_;rintro e w3 ⟨rfl,Z⟩;obtain rfl:=Z.symm)
    rw[u.out];exact⟨rfl,h,congrArg (cT 2) G.symm⟩
   ·have u:Hid (X=dZ f (a.data.toList.drop (k+z)) (k+z)):=by
     show _=_
     rw[v.out,MU _ _ _ d g,iw,<-n]
    have W:z<=a.size-k:=by rw[n];have:=R3 (a.data.toList.drop k);simpa using this
    have U:1<=z:=o_
    have B:bD (a.data.toList.take (k+z))=bD (a.data.toList.take k)+if r=10 then 1 else 0:=by
     by_cases h2:2<=z
     ·have I:=UI (l:=a.data.toList.drop k) o_
      rw[<-n] at I;rw[List.take_add,kD,I];rw[if_neg];intro e;have S:=c.1 e
      have O:a[k]∈(a.data.toList.drop k).take z:=by
       rw[lL a k p];obtain⟨y,rfl⟩:∃y,z=y+1:=⟨z-1,o_⟩
       rw[iu];exact fk ..
      exact List.count_eq_zero.1 I (by have:a[k]=10:=jk.1 S;rw[this] at O;exact O)
     ·obtain rfl:z=1:=o_
      rw[LC a k p];congr 1
      by_cases D:r=10
      ·rw[if_pos D,if_pos (jk.1 (c.1 D))]
      ·rw[if_neg D,if_neg (λe=>D (c.2 (by rw[e];rfl)))]
    have i:=aB B;generalize bD (a.data.toList.take k)=L at*
    have o:((r:Int)==65533)=false\/((r:Int)==65533)=true/\((z:Int)==1)=false:=by
     by_cases T:r=65533
     ·refine d6 ⟨t_,?_⟩
      simp;intro e;exact A ⟨T,o_⟩
     ·exact d7 t_
    have E:(a.data.toList.drop k).length=a.size-k:=s_
    clear v g d n c B A E;by_cases m:r=10
    ·have e1:((r:Int)==10)=true:=t_
     have P:((r:Int)==65533)=false:=t_
     have q:Hid (bD (a.data.toList.take (k+z))=L+1):=by show _=_;rw[i.out,if_pos m]
     clear o m i;go_wp2_with fail;refine t.mono ?_;rintro e J ⟨rfl,b⟩;have h:=aB (s.trans (b.mono s.size));clear b t;go_wp2
     go_roundg j
     case measure=>omega
     case rel=>exact⟨k+z,f,o_,o_,o_,by go_num,by rw[q.out];go_num,h,u⟩
    ·have e1:((r:Int)==10)=false:=t_
     have q:Hid (bD (a.data.toList.take (k+z))=L):=by show _=_;rw[i.out,if_neg m];rfl
     clear m i;rcases o with P|⟨P,e3⟩
     all_goals
      go_wp2_with fail;refine t.mono ?_;rintro e J ⟨rfl,b⟩;have h:=aB (s.trans (b.mono s.size));clear b t;go_wp2
      go_roundg j
      case measure=>omega
      case rel=>exact⟨k+z,f,o_,o_,o_,by go_num,by rw[q.out],h,u⟩
  ·have u:Hid (X=none):=by show _=_;rw[v.out,QH _ _ _ t_]
   have M:decide ((k:Int)<(a.size:Int))=false:=decide_eq_false o_
   clear v C;generalize bD (a.data.toList.take k)=L at*;go_wp2
   go_end0;rw[u.out];exact⟨s,rfl⟩
structure gE(w:aG):Prop where
 n:NTabs w
 p:PTabs w
 u:Lib.Utf8Tabs 4 5 w
def gE.below(h:gE w)(a:Below w.heap.size w w'):gE w':=
 ⟨h.n.fr (sb:=w.heap.size) ⟨a.os,a.tape,a.output,a.size,λk b _=>a.block k b⟩ h.n.big,h.p.fr (sb:=w.heap.size) ⟨a.os,a.tape,a.output,a.size,λk b _=>a.block k b⟩ h.n.big,CR h.u a h.n.big⟩
def FineA.kid{m:Nat}{f k:aC}(h:Hs.FineA m f)(a:k∈f.y_):Hs.FineA m k:=λd=>by
 have b:=h (d+1);refine⟨?_,b.2.2 k a⟩;have c:=b.1;rw[cC] at c;have:=uX (f:=cC d) a;omega
def FineA.y_{m:Nat}{f:aC}(h:Hs.FineA m f)(d:Nat):f.y_.length<=m/\(f.y_.map (cC d)).sum<=m:=by
 have b:=(h (d+1)).1;have a:=(h 2).1;rw[cC] at b a;have c:f.y_.length<=(f.y_.map (cC 1)).sum:=qD 0 f.y_;exact⟨o_,o_⟩
def pY(l:cE):Except (Nat × Nat) (List bB):=
 if 2000<l.length then .error (1,0)
 else match dZ l.length l 0 with
  |some k=>.error (2,bD (l.take k))
  |none=>
   match iB l with
   |.error n=>.error (3,n)
   |.ok ts=>.ok ts
def EQ(l:cE):cW l=match pY l with
 |.error f=>.error f
 |.ok a=>match nC a with
  |.error n=>.error (4,n)
  |.ok (b,_)=>.ok b:=by
 unfold cW pY;by_cases h:2000<l.length
 ·rw[if_pos h,if_pos h]
 ·rw[if_neg h,if_neg h];cases dZ l.length l 0 with
  |some k=>rfl
  |none=>
   cases iB l with
   |error n=>rfl
   |ok a=>rfl
def CD{ts:List bB}(h:pY l=.ok ts):iB l=.ok ts/\l.length<=2000:=by
 unfold pY at h;split at h
 ·cases h
 ·split at h
  ·cases h
  ·split at h
   ·cases h
   ·cases h;exact⟨by assumption,o_⟩
def KH{f:Nat × Nat}(h:pY l=.error f):f.1≠0:=by
 unfold pY at h;split at h
 ·cases h;simp
 ·split at h
  ·cases h;simp
  ·split at h
   ·cases h;simp
   ·cases h
def WL(l:cE)(w:aG)(e:Ending)(w':aG):Prop:=
 Below w.heap.size w w'/\
  match pY l with
  |.error f=>e=cT f.1 f.2
  |.ok ts=>∃v,e=aX (.agg #[v,I_ 0])/\w'.ownsRow w.heap.size 174 4 v ts.length (ptoks ts)
def yH(l:cE)(w:aG)(e:Ending)(w':aG):Prop:=
 Below w.heap.size w w'/\((cI l=(0,0)/\∃v ks,e=aX v/\cW l=.ok ks/\FSl (Btw w.heap.size w'.heap.size) w' v ks)\/((cI l).1≠0/\e=cT (cI l).1 (cI l).2))
def WZ{ks:List aC}(d:Nat)(h:sG ks=false)(b:∀f∈ks,1<=f.y_.length):lJ d ks=(5,0):=by
 unfold lJ;unfold sG lU at h;cases a:dU ks [109,97,105,110] with
 |none=>rfl
 |some m=>
  rw[a] at h;have g:=b m (iz a)
  have c:¬m.y_.length-1=0:=by
   intro e;rw[show (([109,97,105,110]:cE)==[108,101,110])=false by decide,show (([109,97,105,110]:cE)==[114,101,97,100])=false by decide] at h
   simp[e] at h
  show (if 1<m.y_.length then _ else _)=_
  rw[if_pos o_]
def j8{ks:List aC}(d:Nat)(h:sG ks=true):lJ d ks=((fK ks d [] ks ⟨[],0,0⟩).kind,(fK ks d [] ks ⟨[],0,0⟩).l_):=by
 unfold lJ;unfold sG lU at h;rw[show (([109,97,105,110]:cE)==[108,101,110])=false by decide,show (([109,97,105,110]:cE)==[114,101,97,100])=false by decide] at h
 cases a:dU ks [109,97,105,110] with
 |none=>rw[a] at h;simp at h
 |some m=>
  rw[a] at h;simp at h;show (if 1<m.y_.length then _ else _)=_
  rw[if_neg o_]
def FSl.grow{G:bX}(h:FSl F w v fs)(e:∀b,F b->w'.heap[b]?=w.heap[b]?)(f:∀b,F b->G b):FSl G w' v fs:=by
 rcases h with h|⟨g,a,c,n,j,d,l,i,k,m⟩
 ·exact d7 h
 ·exact d6 ⟨g,a,c,n,j,f g d,by rw[e g d];exact l,i,k,m.mono λ_ _ h=>h.keep e f⟩
def Y4{ts:List bB}(h:w.ownsRow b 174 4 v ts.length (ptoks ts))(k:0<ts.length):∃g c a,v=.slice (some (aI g 0)) ts.length c/\b<=g/\ts.length<=c/\w.heap[g]?=some (.cells a 174 (0,0))/\a.toList.take (ts.length*4)=ptoks ts:=by
 rcases h.2 with ⟨e,d⟩|⟨g,c,a,e,d,i,f,m,l,j⟩
 ·omega
 ·exact⟨g,c,a,e,d,f,i,j⟩
def wM(b:ByteArray)(w:aG)(X:gE w)(hs:b.size<=maxLen):
 Calls prog 70 #[.string b] w (WL b.data.toList w):=by
 have J:b.data.toList.length=b.size:=s_
 obtain⟨l,T⟩:=E_ (b.data.toList);rw[<-T] at J ⊢
 obtain⟨D,r⟩:=E_ (w.alloc (.cells #[bG,I_ 0] 120));have C:Below w.heap.size w D:=by rw[r];exact(eh _ _).alloc cK _
 have p:D.heap[w.heap.size]?=some (.cells #[bG,I_ 0] 120 (0,0)):=by rw[r];exact aN _ _ rfl _
 have Y:D.heap.size=w.heap.size+1:=by rw[r];simp
 have G:=aB (XP b D hs);have Z:=aB T;have N:=aB (X.below C);have f:=aB C;have U:=aB p;have O:=aB r;clear T X C p r;go_in
 go_wp2_with fail;rw[<-O.out];refine G.mono ?_;rintro e V ⟨Q,⟨B,rfl⟩|⟨B,rfl⟩⟩
 rotate_left
 ·obtain rfl:=Q.symm
  have A:Hid (pY l=.error (1,0)):=by
   show _=_
   unfold pY;rw[if_pos o_]
  go_wp2_with fail;exact⟨rfl,f,by rw[A.out];rfl⟩
 obtain rfl:=Q.symm;have M:=aB (bj_ b D N.u N.n.big B);rw[<-Z.out,<-J] at M;have z:¬2000<l.length:=o_
 clear Q G;go_wp2_with fail;refine M.mono ?_;rintro e V ⟨m,y⟩;cases j:dZ l.length l 0 with
 |some k=>
  rw[j] at y;obtain rfl:e=cT 2 (bD (l.take k)):=y;have A:Hid (pY l=.error (2,bD (l.take k))):=by show _=_;unfold pY;rw[if_neg z,j]
  have d:=aB (f.trans (m.mono f.size));clear m M j;go_wp2_with fail;exact⟨rfl,d,by rw[A.out];rfl⟩
 |none=>
  rw[j] at y;obtain rfl:e=aX (.tuple #[]):=y;have s:=aB (X8 b V (N.below m).n (N.below m).p B);rw[<-Z.out] at s;have d:=aB m
  have L:pY l=match iB l with
   |.error n=>.error (3,n)
   |.ok K=>.ok K:=by unfold pY;rw[if_neg z,j]
  have t:=aB L;clear m M j L;go_wp2_with fail;refine s.mono ?_;rintro e w2 ⟨q,u⟩;cases h:iB l with
  |error n=>
   rw[h] at u;obtain rfl:e=cT 3 n:=u;have A:Hid (pY l=.error (3,n)):=by show _=_;rw[t.out,h]
   have E:=aB (f.trans ((d.trans (q.mono d.size)).mono f.size));clear q s h t;go_wp2_with fail;exact⟨rfl,E,by rw[A.out];rfl⟩
  |ok K=>
   rw[h] at u;obtain⟨v,rfl,o⟩:=u
   obtain⟨x,c,rfl⟩:∃x c,v=.slice x K.length c:=by
    rcases o.2 with ⟨F,r2⟩|⟨g,H,I,F,_⟩
    ·exact⟨none,0,by rw[F,r2]⟩
    ·exact⟨_,_,F⟩
   have A:Hid (pY l=.ok K):=by show _=_;rw[t.out,h]
   have W:=d.size
   have a:w2.heap[w.heap.size]?=some (.cells #[bG,I_ 0] 120 (0,0)):=by
    rw[q.block _ o_,d.out.block _ o_];exact U
   have aa:=aD a;have m0:=aA a (i:=0) rfl;have m1:=aA a (i:=1) rfl;have fz:=aE a (i:=0);have ab:=aE a (i:=1);have E:=aB (f.trans ((d.trans (q.mono d.size)).mono f.size));have P:=aB o;clear o q s h t a;go_wp2
   refine bodyPost_ret (v:=.agg #[.slice x K.length c,I_ 0]) (by simp[results,results70,go_sem,m0,m1]) rfl ?_
   refine⟨(E.setCell s_ _).setCell s_ _,?_⟩
   rw[A.out];refine⟨_,rfl,?_⟩;have S:=P;rcases S.2 with hn|⟨g,H,I,F,r2,r3,r4⟩
   ·exact⟨S.1,d7 hn⟩
   ·refine⟨S.1,d6 ⟨g,H,I,F,o_,?_,r4⟩⟩
    rw[ei _ _ _ _ (by show g≠w.heap.size;omega),ei _ _ _ _ (by show g≠w.heap.size;omega)]
    exact r3
def KT(A:ByteArray)(w:aG)(hT:gE w)(hs:A.size<=maxLen):
 Calls prog 42 #[.string A] w (yH A.data.toList w):=by
 have F:=aB (wM A w hT hs);obtain⟨l,hl⟩:=E_ (A.data.toList);rw[<-hl] at F ⊢
 clear hl hT;go_in
 go_wp2_with fail;refine F.mono ?_;rintro e E ⟨J,N⟩
 cases i:pY l with
  |error f=>
   rw[i] at N;obtain rfl:e=cT f.1 f.2:=N;have Q:Hid (cI l=f):=by show _=_;unfold cI;rw[EQ,i]
   have HK:=aB (KH i);have y:=aB J;clear J F i;go_wp2_with fail;exact⟨rfl,y,by rw[Q.out];exact d6 ⟨HK,rfl⟩⟩
  |ok H=>
   rw[i] at N;obtain⟨v,rfl,O⟩:=N;have U:=(CD i).1;have ap:=(CD i).2;have h:=mU U
   have ac:cW l=match nC H with
    |.error n=>.error (4,n)
    |.ok (d,_)=>.ok d:=by rw[EQ,i]
   have I:=aB ac;obtain⟨g,o,ai,rfl,hg,Y,D,P⟩:=Y4 O h.1.some_;have aj:=aD D
   have af:PAt ⟨E.heap.size,g,o,H⟩ (E.alloc (.cells #[.slice (some (aI g 0)) H.length o,I_ 0] 120)) 0:=
    ⟨aN _ _ rfl _,⟨ai,eB _ _ aj _ D,P⟩,by show g≠E.heap.size;omega,h.1.some_,by show H.length<=3000;omega,Y,h.1,zJ U⟩
   have HP:=aB (QX ⟨E.heap.size,g,o,H⟩ (E.alloc (.cells #[.slice (some (aI g 0)) H.length o,I_ 0] 120)) af (bY.prog h.1.ok h.1.some_));have y:=aB J;clear O J F i U ac af D P h;go_wp2_with fail;refine HP.mono ?_;rintro e w3 ⟨m,L⟩;have S:Below E.heap.size E w3:=⟨m.os.trans rfl,m.tape.trans rfl,m.output.trans rfl,el s_ m.size,λk hk=>by rw[m.block k t_ (by show k≠E.heap.size;omega)];exact em _ _ _ hk⟩
   have B:=aB (y.trans (S.mono y.size));cases r:nC H with
   |error n=>
    rw[r] at L;obtain rfl:e=cT 4 n:=L;have Q:Hid (cI l=(4,n)):=by show _=_;unfold cI;rw[I.out,r]
    clear m S HP r I;go_wp2_with fail;exact⟨rfl,B,by rw[Q.out];exact d6 ⟨s_,rfl⟩⟩
   |ok kq=>
    obtain⟨d,q⟩:=kq;rw[r] at L;obtain⟨_,v3,rfl,ae⟩:=L;have K:cW l=.ok d:=by rw[I.out,r]
    have a:=lQ K;have Q:Hid (cI l=lJ 2001 d):=by show _=_;unfold cI;rw[K]
    have aq:=FineL.len a;have T:∀f∈d,f.y_.length<=90000:=λf hf=>by have:=(FineA.y_ (FineL.mem a hf) 0).1;omega
    have ad:∀f∈d,∀k∈f.y_,fF 2001 k:=λf hf k hk=>mX 2001 k (FineA.kid (FineL.mem a hf) hk)
    have aa:∀f∈d,f.y_.length+(f.y_.map (cC 2001)).sum<=90000:=λf hf=>by have:=FineA.y_ (FineL.mem a hf) 2001;omega
    have u:FSl (Btw (E.alloc (.cells #[.slice (some (aI g 0)) H.length o,I_ 0] 120)).heap.size w3.heap.size) w3 v3 d:=ae
    obtain⟨fx,fc,rfl⟩:∃x c,v3=.slice x d.length c:=by
     rcases u.cells with ⟨h1,h2⟩|⟨g,o,h1,_⟩
     ·exact⟨none,0,by rw[h1,h2];rfl⟩
     ·exact⟨_,_,h1⟩
    have X:=aB u.y_;have HM:=aB (YX d _ _ w3 o_ T u)
    have W:=aB u;have ab:=aB T;have ah:=aB ad;have Z:=aB aa;have ak:=aB K;clear m S HP r I ae K a T ad aa u;go_wp2_with fail;refine HM.mono ?_;rintro e w4 ⟨j,⟨z,rfl⟩|⟨z,rfl⟩⟩
    rotate_left
    ·have s:=aB (B.trans (j.mono B.size));have M:Hid (cI l=(5,0)):=by show _=_;rw[Q.out,WZ 2001 z X.out]
     clear j z HM;go_wp2_with fail;exact⟨rfl,s,by rw[M.out];exact d6 ⟨d_,rfl⟩⟩
    have s:=aB (B.trans (j.mono B.size));have M:Hid (cI l=((fK d 2001 [] d ⟨[],0,0⟩).kind,(fK d 2001 [] d ⟨[],0,0⟩).l_)):=by show _=_;rw[Q.out,j8 2001 z]
    have HN:=aB (UE (E.alloc (.cells #[.slice (some (aI g 0)) H.length o,I_ 0] 120)).heap.size d (.slice fx d.length fc) w4 2001 o_ ab (W.grow (λb p=>j.block b p.2) λb p=>⟨p.1,ej p.2 j.size⟩) ah Z)
    have al:=aB (W.grow (G:=Btw w.heap.size w4.heap.size) (λb p=>j.block b p.2) λb p=>⟨by have h1:=p.1;have h2:=y.size;simp at h1;omega,ej p.2 j.size⟩)
    clear j z HM Q ab ah Z X W;generalize (fK d 2001 [] d ⟨[],0,0⟩).kind=kd at*;generalize (fK d 2001 [] d ⟨[],0,0⟩).l_=ld at*;go_wp2_with fail;refine HN.mono ?_;rintro e w5 ⟨t,⟨C,ag,rfl⟩|⟨C,rfl⟩⟩
    ·have V:=aB (s.trans (t.mono s.size));have ao:Hid (cI l=(0,0)):=by show _=_;rw[M.out,C,ag]
     have am:=aB (al.grow (G:=Btw w.heap.size w5.heap.size) (λb p=>t.block b p.2) λb p=>⟨p.1,ej p.2 t.size⟩)
     clear t C ag HN;go_wp2
     go_ret;exact⟨V,d7 ⟨ao,_,d,rfl,ak,am⟩⟩
    ·have V:=aB (s.trans (t.mono s.size));have an:=aB C;clear t C HN;go_wp2_with fail;exact⟨rfl,V,by rw[M.out];exact d6 ⟨an,rfl⟩⟩
def YZ(a:ByteArray)(b:Nat)(w:aG)(h:gE w)(k:a.size<=maxLen)(n:w.cell? (aI b 0)=some (.string a))(_hbl:b<w.heap.size):
 Calls prog 46 #[bE b] w λe j=>Below w.heap.size w j/\((cI a.data.toList=(0,0)/\e=aX (.tuple #[]))\/((cI a.data.toList).1≠0/\e=cT (cI a.data.toList).1 (cI a.data.toList).2)):=by
 have i:=aB (KT a w h k);unfold yH at i;clear h;generalize cI a.data.toList=m at*;go_in
 go_wp2_with fail;refine i.mono ?_;rintro e l ⟨c,⟨d,v,_,rfl,_,_⟩|⟨d,rfl⟩⟩
 ·have g:=aB c;have f:=aB d;clear c d;go_wp2
  go_end0;exact⟨g,d7 ⟨f,rfl⟩⟩
 ·have g:=aB c;have f:=aB d;clear c d;go_wp2_with fail;exact⟨rfl,g,d6 ⟨f,rfl⟩⟩
def pE{o:Obj}(h:w.heap[b]?=some o):b<w.heap.size:=by
 rcases fq b w.heap.size with a|a
 ·exact a
 ·rw[ij a] at h;cases h
def kR{c:Array Value}(h:w.heap[b]?=some (.cells c e (0,0)))(a:c[i]?=some v):w.cell? (aI b i)=some v:=by
 simp[World.cell?,h,a]
def mO{c:Array Value}(h:w.heap[b]?=some (.cells c e (0,0))):w.frozen? (aI b i)=false:=by
 simp[World.frozen?,h]
def aD_(p q k n:Nat)(w:World)(b:w.heap[p]?=some (.cells #[.int .i64 0] 39 (0,0)))(c:w.heap[q]?=some (.cells #[.int .i64 0] 3 (0,0)))(a:p<q):
 Below p w (((w.setCell ⟨p,0,none⟩ (.int .i64 k)).setCell ⟨q,0,none⟩ (.int .i64 n)).alloc (.cells #[.int .i64 k,.int .i64 n] 117)).drew
 /\(((w.setCell ⟨p,0,none⟩ (.int .i64 k)).setCell ⟨q,0,none⟩ (.int .i64 n)).alloc (.cells #[.int .i64 k,.int .i64 n] 117)).drew.cell? ⟨p,0,none⟩=some (.int .i64 k)
 /\(((w.setCell ⟨p,0,none⟩ (.int .i64 k)).setCell ⟨q,0,none⟩ (.int .i64 n)).alloc (.cells #[.int .i64 k,.int .i64 n] 117)).drew.cell? ⟨q,0,none⟩=some (.int .i64 n):=by
 have i:w.cell? ⟨p,0,none⟩=some (.int .i64 0):=kR b rfl;have l:w.cell? ⟨q,0,none⟩=some (.int .i64 0):=kR c rfl;have e:=pE b;have g:=pE c;have h:¬p=q:=o_
 have j:¬q=p:=o_
 have f:¬p=w.heap.size:=o_
 have d:¬q=w.heap.size:=o_
 refine⟨((((eh p w).setCell (en p) _).setCell (ie a) _).alloc t_ _).drew,?_,?_⟩
 ·simp[go_sem,i,e]
 ·simp[go_sem,l,g]
def X5(p q k n:Nat)(w:World)(b:w.heap[p]?=some (.cells #[.int .i64 0] 39 (0,0)))(c:w.heap[q]?=some (.cells #[.int .i64 0] 3 (0,0)))(a:p<q):
 Below p w (((w.setCell ⟨q,0,none⟩ (.int .i64 n)).setCell ⟨p,0,none⟩ (.int .i64 k)).alloc (.cells #[.int .i64 k,.int .i64 n] 117)).drew
 /\(((w.setCell ⟨q,0,none⟩ (.int .i64 n)).setCell ⟨p,0,none⟩ (.int .i64 k)).alloc (.cells #[.int .i64 k,.int .i64 n] 117)).drew.cell? ⟨p,0,none⟩=some (.int .i64 k)
 /\(((w.setCell ⟨q,0,none⟩ (.int .i64 n)).setCell ⟨p,0,none⟩ (.int .i64 k)).alloc (.cells #[.int .i64 k,.int .i64 n] 117)).drew.cell? ⟨q,0,none⟩=some (.int .i64 n):=by
 have i:w.cell? ⟨p,0,none⟩=some (.int .i64 0):=kR b rfl;have l:w.cell? ⟨q,0,none⟩=some (.int .i64 0):=kR c rfl;have e:=pE b;have g:=pE c;have h:¬p=q:=o_
 have j:¬q=p:=o_
 have f:¬p=w.heap.size:=o_
 have d:¬q=w.heap.size:=o_
 refine⟨((((eh p w).setCell (ie a) _).setCell (en p) _).alloc t_ _).drew,?_,?_⟩
 ·simp[go_sem,i,e]
 ·simp[go_sem,l,g]
def a4_(v:aQ)(w:aG):(typeAssert (.iface 117 v) 20 117 true).run prog w=.ok (.tuple #[v,.bool true]) w:=k_
def AJ(p q k n:Nat)(a:List PanicEntry)(w:aG)(c:w.heap[p]?=some (.cells #[I_ 0] 39 (0,0)))(b:w.heap[q]?=some (.cells #[I_ 0] 3 (0,0)))(d:p<q):
 CallsD prog 69 #[bE p,bE q] (.panicking ({ v:=.iface 117 (.agg #[I_ k,I_ n]),recovered:=false }::a)) w λe u f=>
  e=aX (.tuple #[])/\u=.panicking ({ v:=.iface 117 (.agg #[I_ k,I_ n]),recovered:=true }::a)/\Below p w f/\f.cell? (aI p 0)=some (I_ k)/\f.cell? (aI q 0)=some (I_ n):=by
 have H:=kR c (i:=0) rfl;have E:=kR b (i:=0) rfl;have B:=mO (i:=0) c;have C:=mO (i:=0) b;have F:=pE c;have G:=pE b;have A:=a4_;refine callsD_of_wpS func69 rfl λr D y=>?_
 apply wpS_seq
 apply wpS_region
 simp[wpOpsS,go_sem,recoverD,y,ntmps69,Exit.thenS];refine wpS_of_wp ?_;have t:¬p=q:=o_
 have z:¬q=p:=o_
 have x:¬p=w.heap.size:=o_
 have s:¬q=w.heap.size:=o_
 obtain⟨o,j,m⟩:=aD_ p q k n w c b d;obtain⟨g,l,h⟩:=X5 p q k n w c b d;clear c b;go_wp2_with fail;go_region
 all_goals
  go_wp2_with fail;first
  |exact⟨rfl,_,rfl,.tuple #[],by simp[results,results69],rfl,rfl,o,j,m⟩
  |exact⟨rfl,_,rfl,.tuple #[],by simp[results,results69],rfl,rfl,g,l,h⟩
def GC(p q:Addr)(w:aG):
 CallsD prog 69 #[.pointer (some p),.pointer (some q)] .returning w λe d c=>e=aX (.tuple #[])/\d=.returning/\c=w:=by
 refine callsD_of_wpS func69 rfl λa f b=>?_
 apply wpS_seq
 apply wpS_region
 simp[wpOpsS,go_sem,recoverD,b,ntmps69,Exit.thenS];refine wpS_of_wp ?_;go_wp2_with fail;exact⟨rfl,a.mode,rfl,.tuple #[],by simp[results,results69],rfl,b,rfl⟩
def jK(w:aG)(o a:Obj):((w.alloc o).alloc a).heap[w.heap.size]?=some o:=by
 rw[em _ _ _ s_]
 show (w.heap.push o)[w.heap.size]?=_
 rw[Array.getElem?_push,if_pos rfl]
def gX(w:aG)(o a:Obj):((w.alloc o).alloc a).heap[w.heap.size+1]?=some a:=by
 show ((w.alloc o).heap.push a)[w.heap.size+1]?=_
 rw[Array.getElem?_push,if_pos s_]
def vH(fn:Fn)(first a:Array Value)(w:aG):(Instr.makeFunc fn first a).run prog w=.ok (.func fn first a) w:=rfl
def SX(a:Nat × Nat)(b:Nat)(w:aG)
 (r:∀c,Below w.heap.size w c->Calls prog 46 #[bE b] c λe n=>Below c.heap.size c n/\((a=(0,0)/\e=aX (.tuple #[]))\/(a.1≠0/\e=.panicked [{ v:=.iface 117 (.agg #[I_ a.1,I_ a.2]),recovered:=false }]))):
 Calls prog 40 #[.func (.func 46) #[] #[bE b]] w λe n=>Below w.heap.size w n/\(a.1=0->a=(0,0))/\e=aX (.tuple #[I_ a.1,I_ a.2]):=by
 have u:=vH;have j:Below w.heap.size w ((w.alloc (.cells #[I_ 0] 39)).alloc (.cells #[I_ 0] 3)):=((eh _ w).alloc cK _).alloc s_ _
 have t:=r _ j;clear r;go_enter_defers func40,ntmps40
 go_wp2_with fail;refine t.mono ?_;rintro e c ⟨d,k⟩;have m:c.heap[w.heap.size]?=some (.cells #[I_ 0] 39 (0,0)):=by rw[d.block _ t_];exact jK _ _ _
 have l:c.heap[w.heap.size+1]?=some (.cells #[I_ 0] 3 (0,0)):=by rw[d.block _ s_];exact gX _ _ _
 have s:Below w.heap.size w c:=j.trans (d.mono t_)
 clear d j t;rcases k with ⟨k,rfl⟩|⟨k,rfl⟩
 ·have q:=kR m (i:=0) rfl;have o:=kR l (i:=0) rfl;have A:=mO (i:=0) m;have B:=mO (i:=0) l;have C:=pE m;have D:=pE l;go_wp2_with fail;refine leaves_cons (f:=69) (args:= #[bE w.heap.size,bE (w.heap.size+1)]) s_ (by simp[go_sem]) ?_
  refine(GC (aI w.heap.size 0) (aI (w.heap.size+1) 0) _).mono ?_;rintro e x z ⟨rfl,rfl,rfl⟩;subst k;have g:Below w.heap.size w ((c.setCell (aI w.heap.size 0) (I_ 0)).setCell (aI (w.heap.size+1) 0) (I_ 0)):=(s.setCell cK _).setCell (Nat.le_succ _) _;simp[Leaves,settle,results,results40,go_sem,q,o];exact g
 ·have y:Hid (a.1=0->a=(0,0)):=λh=>absurd h k
  clear k;go_wp2_with fail;refine leaves_cons (f:=69) (args:= #[bE w.heap.size,bE (w.heap.size+1)]) s_ (by simp[go_sem]) ?_
  refine(AJ w.heap.size (w.heap.size+1) a.1 a.2 [] _ m l (gh _)).mono ?_;rintro e x E ⟨rfl,rfl,p,q,o⟩;have g:=s.trans p;simp[Leaves,settle,results,results40,go_sem,q,o];exact⟨g,y⟩
def x6(a:Nat × Nat)(c:ByteArray)(w:aG)
 (j:∀b,Below w.heap.size w b->b.cell? (aI w.heap.size 0)=some (.string c)->w.heap.size<b.heap.size->Calls prog 46 #[bE w.heap.size] b λe i=>Below b.heap.size b i/\((a=(0,0)/\e=aX (.tuple #[]))\/(a.1≠0/\e=.panicked [{ v:=.iface 117 (.agg #[I_ a.1,I_ a.2]),recovered:=false }]))):
 Calls prog 23 #[.string c] w λe i=>Below w.heap.size w i/\(a.1=0->a=(0,0))/\e=aX (.tuple #[I_ a.1,I_ a.2]):=by
 have n:=vH;have d:Below w.heap.size w (w.alloc (.cells #[.string c] 9)):=(eh _ w).alloc cK _
 have k:=SX a w.heap.size (w.alloc (.cells #[.string c] 9)) λb f=>j b (d.trans (f.mono s_)) (by
  rw[f.cell s_]
  simp[go_sem]) (ej s_ f.size)
 clear j;go_in
 go_wp2_with fail;refine k.mono ?_;rintro e b ⟨g,l,rfl⟩;have h:=d.trans (g.mono s_)
 have m:Hid (a.1=0->a=(0,0)):=l;clear d g k l;go_wp2
 go_ret2
 exact⟨h,m,rfl⟩
end Go.Proofs.YtddnpoiiimjpcaaGreatDoor
