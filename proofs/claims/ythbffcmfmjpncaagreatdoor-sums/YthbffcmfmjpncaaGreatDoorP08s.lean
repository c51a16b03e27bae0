/- Contracts of the program: strings and marks. -/
import Derived.Test.YthbffcmfmjpncaaGreatDoorB04s
import Derived.Test.YthbffcmfmjpncaaGreatDoorP07s
set_option linter.defProp false
set_option maxRecDepth 100000
set_option maxHeartbeats 4000000
namespace Go.Proofs.YthbffcmfmjpncaaGreatDoor
open Hs
open _root_.Go.Proofs.Tryz
open Instr(typeAssert)
open Go.RowKit
variable{l:List UInt8}{fs:List aC}{b i:Nat}{F:Nat->Prop}{e:TypeId}{v:Value}{w w':World}{a:aC}{s:aW}
abbrev ZTok(w:World)(b:Nat):Prop:=w.heap[b]?=some (.cells #[.int .i64 0,.string ⟨#[]⟩,.int .i64 0,.int .i64 0] 150 (0,0))
def QR(sb:Nat)(a:ByteArray)(n L:Nat)(w:World)(h:SC sb a n L w)(hs:a.size<=2000000000)(hn:n<a.size):
 Calls prog 178 #[.pointer (some ⟨sb,0,none⟩)] w (XO sb a n L w (qA (a.data.toList.drop (n+1)))):=by
 obtain⟨m,Y⟩:=E_ (n+1);rw[<-Y];obtain⟨f,y⟩:=E_ (bA eN (a.data.toList.drop m))
 have ak:f<=a.size-m:=by
  have:=iF eN (a.data.toList.drop m);rw[y];simpa using this
 obtain⟨k,hk⟩:=E_ (m+f);have ad:=(SC.cells h).1;have z:w.heap.size≠sb:=o_
 have h1:SC sb a n L (w.alloc (.cells #[.int .i64 0,.string ⟨#[]⟩,.int .i64 0,.int .i64 0] 150)):=by unfold SC;rw[G7 _ _ _ ad];exact h
 have HZ:Hid (ZTok (w.alloc (.cells #[.int .i64 0,.string ⟨#[]⟩,.int .i64 0,.int .i64 0] 150)) w.heap.size):=aU _ _ rfl _;have K:=aB (mH sb a n L 1 (w.alloc (.cells #[.int .i64 0,.string ⟨#[]⟩,.int .i64 0,.int .i64 0] 150)) h1 hs o_)
 rw[<-Y] at K;have E:=aB (λw=>sP eN 219 (λ_ _=>rfl) FN (a.extract m a.size) w (by rw[qG];omega))
 rw[kY,<-y] at E;obtain⟨B,s⟩:=E_ ((a.data.toList.drop m).take f);have af:(bs B).size=f:=by rw[gI,s,M1];simp;omega
 obtain⟨ok,b⟩:=E_ ((decide ((a.data.toList.drop m)[f]?=some 34) && decide (f<=100)))
 have HW:Hid (qA (a.data.toList.drop m)={ sort:=115,x_:=B,size:=f+2,ok:=ok }):=by
  show _=_
  unfold qA;rw[<-y,<-s,<-b]
 rw[HW.out];have ab:=aB s;have g:=aB b;have P:Hid (Fr sb w (w.alloc (.cells #[.int .i64 0,.string ⟨#[]⟩,.int .i64 0,.int .i64 0] 150))):=(Fr.refl _ _).alloc _;have HM:=aB Y;have O:=aB hk;have ah:m<=a.size:=o_
 have ag:k<=a.size:=o_
 clear h h1 y s HW b Y hk;generalize c:({ sort:=115,x_:=B,size:=f+2,ok:=ok }:nQ)=rr;have j:=aB c;clear c;go_enter func178,ntmps178;go_wp2_with fail;refine K.out.mono ?_;rintro e w1 ⟨rfl,J,M⟩;have T:=aB (M.keepS HZ.out z);have HZ1d:Hid (ZTok w1.drew w.heap.size):=T.out;have t:=aB (mH sb a m L f w1.drew J hs o_)
 rw[<-O.out] at t;rw[<-ab.out] at t;have N:=aB (P.out.trans M);obtain⟨h0,c0,X,V,Z,W⟩:=J.cells;clear J M K HZ P;go_wp2_with fail;go_cut [3] (λv wc=>v=.string (bs B)/\SC sb a (k) L wc/\Fr sb w wc/\ZTok wc w.heap.size)
 case first=>
  go_region_law (first|(go_simp;go_at_call 172;refine(E.out _).mono ?_;rintro e w2 ⟨rfl,I⟩;obtain rfl:=I.symm)|(go_simp;go_at_call 214;refine t.out.mono ?_;rintro e w2 ⟨rfl,o,p⟩;have u:=aB o;have r:=aB (N.out.drew.trans p);have x:=aB (p.keepS HZ1d.out z);clear o p))
  all_goals
   go_wp2_with fail;go_meet
   case rel=>exact⟨rfl,u.out,r.out,x.out⟩
 case rest=>
  obtain⟨rfl,o,p,Q⟩:=hcut;clear c0 X V Z W h0;obtain⟨h0,c0,X,V,Z,W⟩:=o.cells;have u:=aB o;have r:=aB p;have x:=aB Q;clear o p Q t E T HZ1d N;have H:=aB (λq=>qE sb a (k) L (wc.drewN q) u.out)
  by_cases A:f<=100
  rotate_left
  ·have e1:decide ((100:Int)<(f:Int))=true:=decide_eq_true o_
   have b:ok=false:=by rw[g.out,decide_eq_false A,Bool.and_false]
   subst b;have c:=j.out;clear j g;subst c;go_wp2_with fail;go_quiet (fail)
   go_wp2_with fail;refine(H.out _).mono ?_;rintro e w3 ⟨rfl,I⟩;obtain rfl:=I.symm;go_wp2_with fail;exact⟨rfl,r.out.drewN _,F5 ⟨rfl,rfl⟩⟩
  have e1:decide ((100:Int)<(f:Int))=false:=decide_eq_false o_
  by_cases ai:k=a.size
  ·have e2:((k:Int)==(a.size:Int))=true:=t_
   have b:ok=false:=by
    rw[g.out,J0 (by have:=O.out;simp;omega)];simp
   subst b;have c:=j.out;clear j g;subst c;go_wp2_with fail;go_quiet (fail)
   go_wp2_with fail;refine(H.out _).mono ?_;rintro e w3 ⟨rfl,I⟩;obtain rfl:=I.symm;go_wp2_with fail;exact⟨rfl,r.out.drewN _,F5 ⟨rfl,rfl⟩⟩
  have aa:k<a.size:=o_
  have e2:((k:Int)==(a.size:Int))=false:=t_
  have hb:(a[k].toNat:Int)<=255:=lU _
  have l:(a.data.toList.drop m)[f]?=some a[k]:=by
   have e:=BL a m f (by rw[<-O.out];exact aa)
   rw[e];congr 1
   simp only[O.out]
  by_cases F:a[k].toNat=34
  ·have b:ok=true:=by
    rw[g.out,l,decide_eq_true A,Bool.and_true];exact decide_eq_true (congrArg some (N7.1 F))
   subst b;have c:=j.out;clear j g l;subst c;have S:((a[k].toNat:Int) != 34)=false:=t_
   have aj:w.heap.size<wc.heap.size:=aD x.out;have U:=aB (λq=>mH sb a (k) L 1 (wc.drewN q) u.out hs o_)
   clear F;go_wp2_with fail;go_quiet (fail)
   go_wp2_with fail;refine(U.out _).mono ?_;rintro e w3 ⟨rfl,D,G⟩;have d:=aB ((((Fr.refl sb wc).drewN _).trans G).keepS x.out z);have ae:=aB ((r.out.drewN _).trans G);have ac:=aB D;have z0:=aA d.out (i:=0) rfl;have z1:=aA d.out (i:=1) rfl;have z2:=aA d.out (i:=2) rfl;have z3:=aA d.out (i:=3) rfl;have y0:=aE (i:=0) d.out;have y1:=aE (i:=1) d.out;have y2:=aE (i:=2) d.out;have y3:=aE (i:=3) d.out;have al:=aD d.out;clear c0 X V Z W h0;obtain⟨h0,c0,X,V,Z,W⟩:=D.cells;clear D G U;go_wp2_with fail;refine bodyPost_ret (v:=.agg #[.int .i64 3,.string (bs B),.int .i64 0,.int .i64 L]) (by simp[results,results178,go_sem,z0,z1,z2,z3]) rfl ?_
   have C:=jZ ae.out ac.out (F6 _) z (.int .i64 3) (.string (bs B)) (.int .i64 0) (.int .i64 L);exact⟨C.1,F7 ⟨rfl,rfl,by rw[show n+(f+2)=k+1 by have:=HM.out;have:=O.out;omega];exact C.2⟩⟩
  ·have b:ok=false:=by
    rw[g.out,l,decide_eq_false (λe=>F (by rw[Option.some.inj e];rfl))];rfl
   subst b;have c:=j.out;clear j g l;subst c;have S:((a[k].toNat:Int) != 34)=true:=t_
   go_wp2_with fail;go_quiet (fail)
   go_wp2_with fail;refine(H.out _).mono ?_;rintro e w3 ⟨rfl,I⟩;obtain rfl:=I.symm;go_wp2_with fail;exact⟨rfl,r.out.drewN _,F5 ⟨rfl,rfl⟩⟩
structure PTabs(w:World):Prop where
 tab:∃t fr,w.heap[(6:Nat)]?=some (.cells #[.string ⟨#[61,61]⟩,.string ⟨#[33,61]⟩,.string ⟨#[60,61]⟩,.string ⟨#[38,38]⟩,.string ⟨#[124,124]⟩,.string ⟨#[40]⟩,.string ⟨#[41]⟩,.string ⟨#[123]⟩,.string ⟨#[125]⟩,.string ⟨#[91]⟩,.string ⟨#[93]⟩,.string ⟨#[44]⟩,.string ⟨#[59]⟩,.string ⟨#[61]⟩,.string ⟨#[60]⟩,.string ⟨#[43]⟩,.string ⟨#[45]⟩,.string ⟨#[42]⟩,.string ⟨#[47]⟩,.string ⟨#[37]⟩,.string ⟨#[33]⟩] t fr)
 big:11<=w.heap.size
def PTabs.fr{sb:Nat}(h:PTabs w)(a:Fr sb w w')(d:11<=sb):PTabs w':=by
 obtain⟨t,c,b⟩:=h.tab;have:=h.big;have:=a.size;exact⟨⟨t,c,by rw[a.block 6 o_ o_];exact b⟩,o_⟩
abbrev eZ:Value:=.agg #[.string ⟨#[61,61]⟩,.string ⟨#[33,61]⟩,.string ⟨#[60,61]⟩,.string ⟨#[38,38]⟩,.string ⟨#[124,124]⟩,.string ⟨#[40]⟩,.string ⟨#[41]⟩,.string ⟨#[123]⟩,.string ⟨#[125]⟩,.string ⟨#[91]⟩,.string ⟨#[93]⟩,.string ⟨#[44]⟩,.string ⟨#[59]⟩,.string ⟨#[61]⟩,.string ⟨#[60]⟩,.string ⟨#[43]⟩,.string ⟨#[45]⟩,.string ⟨#[42]⟩,.string ⟨#[47]⟩,.string ⟨#[37]⟩,.string ⟨#[33]⟩]
def TE(w:World):(Instr.index 226 eZ (.int .i64 0)).run prog w=.ok (.string ⟨#[61,61]⟩) w:=k_
def TD(w:World):(Instr.index 226 eZ (.int .i64 1)).run prog w=.ok (.string ⟨#[33,61]⟩) w:=k_
def TC(w:World):(Instr.index 226 eZ (.int .i64 2)).run prog w=.ok (.string ⟨#[60,61]⟩) w:=k_
def TB(w:World):(Instr.index 226 eZ (.int .i64 3)).run prog w=.ok (.string ⟨#[38,38]⟩) w:=k_
def TA(w:World):(Instr.index 226 eZ (.int .i64 4)).run prog w=.ok (.string ⟨#[124,124]⟩) w:=k_
def SZ(w:World):(Instr.index 226 eZ (.int .i64 5)).run prog w=.ok (.string ⟨#[40]⟩) w:=k_
def SY(w:World):(Instr.index 226 eZ (.int .i64 6)).run prog w=.ok (.string ⟨#[41]⟩) w:=k_
def SX(w:World):(Instr.index 226 eZ (.int .i64 7)).run prog w=.ok (.string ⟨#[123]⟩) w:=k_
def SV(w:World):(Instr.index 226 eZ (.int .i64 8)).run prog w=.ok (.string ⟨#[125]⟩) w:=k_
def SU(w:World):(Instr.index 226 eZ (.int .i64 9)).run prog w=.ok (.string ⟨#[91]⟩) w:=k_
def NK(w:World):(Instr.index 226 eZ (.int .i64 10)).run prog w=.ok (.string ⟨#[93]⟩) w:=k_
def NJ(w:World):(Instr.index 226 eZ (.int .i64 11)).run prog w=.ok (.string ⟨#[44]⟩) w:=k_
def NI(w:World):(Instr.index 226 eZ (.int .i64 12)).run prog w=.ok (.string ⟨#[59]⟩) w:=k_
def NH(w:World):(Instr.index 226 eZ (.int .i64 13)).run prog w=.ok (.string ⟨#[61]⟩) w:=k_
def NG(w:World):(Instr.index 226 eZ (.int .i64 14)).run prog w=.ok (.string ⟨#[60]⟩) w:=k_
def NF(w:World):(Instr.index 226 eZ (.int .i64 15)).run prog w=.ok (.string ⟨#[43]⟩) w:=k_
def NE(w:World):(Instr.index 226 eZ (.int .i64 16)).run prog w=.ok (.string ⟨#[45]⟩) w:=k_
def ND(w:World):(Instr.index 226 eZ (.int .i64 17)).run prog w=.ok (.string ⟨#[42]⟩) w:=k_
def NC(w:World):(Instr.index 226 eZ (.int .i64 18)).run prog w=.ok (.string ⟨#[47]⟩) w:=k_
def NB(w:World):(Instr.index 226 eZ (.int .i64 19)).run prog w=.ok (.string ⟨#[37]⟩) w:=k_
def NA(w:World):(Instr.index 226 eZ (.int .i64 20)).run prog w=.ok (.string ⟨#[33]⟩) w:=k_
def WK(k:Nat)(a:k<21)(w:World):(Instr.index 226 eZ (.int .i64 k)).run prog w=.ok (.string (bs (bX[k]'(by simpa [bX] using a)))) w:=by
 match k,a with
 |0,_=>exact TE w
 |1,_=>exact TD w
 |2,_=>exact TC w
 |3,_=>exact TB w
 |4,_=>exact TA w
 |5,_=>exact SZ w
 |6,_=>exact SY w
 |7,_=>exact SX w
 |8,_=>exact SV w
 |9,_=>exact SU w
 |10,_=>exact NK w
 |11,_=>exact NJ w
 |12,_=>exact NI w
 |13,_=>exact NH w
 |14,_=>exact NG w
 |15,_=>exact NF w
 |16,_=>exact NE w
 |17,_=>exact ND w
 |18,_=>exact NC w
 |19,_=>exact NB w
 |20,_=>exact NA w
 |k+21,h=>exact absurd h o_
def QV(sb:Nat)(a:ByteArray)(n L:Nat)(w:World)(h:SC sb a n L w)(O:PTabs w)(hs:a.size<=2000000000)(hn:n<a.size)(r:nQ)(hr:Hid (fR (a.data.toList.drop n)=r)):
 Calls prog 179 #[.pointer (some ⟨sb,0,none⟩)] w (XO sb a n L w r):=by
 have S:=(SC.cells h).1;have K:w.heap.size≠sb:=o_
 have aa:=O.big;have ah:n<=a.size:=o_
 have B:SC sb a n L (w.alloc (.cells #[.int .i64 0,.string ⟨#[]⟩,.int .i64 0,.int .i64 0] 150)):=by unfold SC;rw[G7 _ _ _ S];exact h
 have X:Hid (ZTok (w.alloc (.cells #[.int .i64 0,.string ⟨#[]⟩,.int .i64 0,.int .i64 0] 150)) w.heap.size):=aU _ _ rfl _;have H:Hid (Fr sb w (w.alloc (.cells #[.int .i64 0,.string ⟨#[]⟩,.int .i64 0,.int .i64 0] 150))):=(Fr.refl _ _).alloc _;obtain⟨tt,fr,l⟩:=O.tab;have d:(w.alloc (.cells #[.int .i64 0,.string ⟨#[]⟩,.int .i64 0,.int .i64 0] 150)).heap[(6:Nat)]?=_:=cV w 6 o_ _ l
 have p:(prog.info? 226).map (·.size)=some (#[.string ⟨#[61,61]⟩,.string ⟨#[33,61]⟩,.string ⟨#[60,61]⟩,.string ⟨#[38,38]⟩,.string ⟨#[124,124]⟩,.string ⟨#[40]⟩,.string ⟨#[41]⟩,.string ⟨#[123]⟩,.string ⟨#[125]⟩,.string ⟨#[91]⟩,.string ⟨#[93]⟩,.string ⟨#[44]⟩,.string ⟨#[59]⟩,.string ⟨#[61]⟩,.string ⟨#[60]⟩,.string ⟨#[43]⟩,.string ⟨#[45]⟩,.string ⟨#[42]⟩,.string ⟨#[47]⟩,.string ⟨#[37]⟩,.string ⟨#[33]⟩]:Array Value).size:=k_
 have y:∀(k:Nat) (Y:k<21) (w:World),(Instr.index 226 (.agg #[.string ⟨#[61,61]⟩,.string ⟨#[33,61]⟩,.string ⟨#[60,61]⟩,.string ⟨#[38,38]⟩,.string ⟨#[124,124]⟩,.string ⟨#[40]⟩,.string ⟨#[41]⟩,.string ⟨#[123]⟩,.string ⟨#[125]⟩,.string ⟨#[91]⟩,.string ⟨#[93]⟩,.string ⟨#[44]⟩,.string ⟨#[59]⟩,.string ⟨#[61]⟩,.string ⟨#[60]⟩,.string ⟨#[43]⟩,.string ⟨#[45]⟩,.string ⟨#[42]⟩,.string ⟨#[47]⟩,.string ⟨#[37]⟩,.string ⟨#[33]⟩]) (.int .i64 k)).run prog w=.ok (.string (bs (bX[k]'(by simpa [bX] using Y)))) w:=WK
 generalize (#[.string ⟨#[61,61]⟩,.string ⟨#[33,61]⟩,.string ⟨#[60,61]⟩,.string ⟨#[38,38]⟩,.string ⟨#[124,124]⟩,.string ⟨#[40]⟩,.string ⟨#[41]⟩,.string ⟨#[123]⟩,.string ⟨#[125]⟩,.string ⟨#[91]⟩,.string ⟨#[93]⟩,.string ⟨#[44]⟩,.string ⟨#[59]⟩,.string ⟨#[61]⟩,.string ⟨#[60]⟩,.string ⟨#[43]⟩,.string ⟨#[45]⟩,.string ⟨#[42]⟩,.string ⟨#[47]⟩,.string ⟨#[37]⟩,.string ⟨#[33]⟩]:Array Value)=Z at d p y;have HIXX:=aB y;have HTAB:=aB d;have U:=aB p;clear l d p y;have W:=aB B;clear h B O;go_enter func179,ntmps179;go_wp2_with (refine wpList_load_row rfl 226 (.global 6) rfl 6 r_ tt Z fr (.array 21 9) HTAB.out underlying226 rfl U.out ?_)
 go_loopg [4,6] 21 (λgk _ i wr=>∃k:Nat,k+gk=21/\i=.int .i64 k/\Hid (uE (a.data.toList.drop n) k)/\SC sb a n L wr/\Fr sb w wr/\ZTok wr w.heap.size)
 case atStart=>exact⟨0,o_,rfl,λo ho=>(by simp at ho),W.out,H.out,X.out⟩
 case round=>
  obtain⟨k,Y,rfl,A,s,J,I⟩:=hrel;obtain⟨h0,c0,c1,c2,f1,f2⟩:=s.cells;have z:=aB s;have t:=aB J;have u:=aB I;clear s J I X H W;by_cases f:k<21
  ·obtain⟨j,rfl⟩:∃j,gk=j+1:=⟨gk-1,o_⟩
   obtain⟨q,N⟩:=E_ (bX[k]'(by simpa [bX] using f))
   have ab:∀w,(Instr.index 226 (.agg Z) (.int .i64 k)).run prog w=.ok (.string (bs q)) w:=λw=>by rw[N];exact HIXX.out k f w
   have ag:q.length<=2:=by rw[N];exact FF k f
   have af:(bs q).size=q.length:=gI q;have M:Hid (q=bX[k]'(by simpa [bX] using f)):=N
   clear N;have g:=aB (λw=>yU (a.extract n a.size) (bs q) w (by rw[qG];omega) (by rw[gI];omega))
   rw[kY,jM] at g;cases b:cE (a.data.toList.drop n) q
   ·rw[b] at g;have F:Hid (uE (a.data.toList.drop n) (k+1)):=JG f A.out (by rw[<-M.out];exact b)
    clear A M b;go_wp2_with fail;go_quiet ((go_at_call 171;exact Calls.quiet_of_same (g.out _)))
    go_wp2_with fail;go_roundg j
    case measure=>omega
    case rel=>exact⟨k+1,o_,by go_num,F,z.out,t.out.drewN _,u.out⟩
   ·rw[b] at g;have F:Hid (r={ sort:=112,x_:=q,size:=q.length,ok:=true }):=by rw[<-hr.out];exact MP f A.out q M.out b
    have Q:n+q.length<=a.size:=by
     have:=iP b;simp at this;omega
    have HTXT:Hid ((a.data.toList.drop n).take q.length=q):=by
     show _=_
     have B:=b;unfold cE at B;rw[jX _ _ (iP b)] at B;simpa using B
    have C:=aB (λE=>mH sb a n L q.length (wr.drewN E) z.out hs Q)
    rw[HTXT.out] at C;have T:Hid (∀E,ZTok (wr.drewN E) w.heap.size):=λ_=>u.out
    have ad:Hid (∀E,w.heap.size<(wr.drewN E).heap.size):=λ_=>aD u.out
    clear A M b;go_wp2_with fail;go_quiet ((go_at_call 171;exact Calls.quiet_of_same (g.out _)))
    go_wp2_with fail;go_region_law (go_simp;go_at_call 214;refine(C.out _).mono ?_;rintro e w2 ⟨rfl,D,x⟩;have G:=aB D;have V:=aB ((t.out.drewN _).trans x);have c:=aB (x.keepS (T.out _) K);have ac:=(SC.cells G.out).2.2.2.1;have z0:=aA c.out (i:=0) rfl;have z1:=aA c.out (i:=1) rfl;have z2:=aA c.out (i:=2) rfl;have z3:=aA c.out (i:=3) rfl;have y0:=aE (i:=0) c.out;have y1:=aE (i:=1) c.out;have y2:=aE (i:=2) c.out;have y3:=aE (i:=3) c.out;have ae:=aD c.out;clear D x)
    all_goals
     go_wp2_with fail;rw[F.out];refine bodyPost_ret (v:=.agg #[.int .i64 0,.string (bs q),.int .i64 0,.int .i64 L]) (by simp[results,results179,go_sem,z0,z1,z2,z3]) rfl ?_
     have m:=jZ V.out G.out (F6 _) K (.int .i64 0) (.string (bs q)) (.int .i64 0) (.int .i64 L);exact⟨m.1,F7 ⟨rfl,rfl,m.2⟩⟩
  ·obtain rfl:k=21:=o_
   have F:Hid (r={ sort:=0,x_:=[],size:=0,ok:=false }):=by rw[<-hr.out];exact JB A.out
   have P:=aB (qE sb a n L wr z.out);clear A;go_wp2_with fail;refine P.out.mono ?_;rintro e w3 ⟨rfl,hw⟩;obtain rfl:=hw.symm;go_wp2_with fail;rw[F.out];exact⟨rfl,t.out,F5 ⟨rfl,rfl⟩⟩
def PU(cb lo:Nat)(fs:List aC)(m:Value)(q:fs.length<=90000)(t:∀f∈fs,f.y_.length<=90000)(d:Nat)(z:kE cb lo fs m d)(c:aC)(v:Value)(e_:List (List UInt8))(w:World)(h:CK cb lo fs m w e_)(b:PKid (Btw lo cb) w v c.y_)(x:∀k∈c.y_,eM d k)(p:e_.length+(c.y_.map (cG d)).sum<=90000):
 Calls prog 111 #[.pointer (some ⟨cb,0,none⟩),.iface 271 (.agg #[.int .i64 c.l_,.string (bs c.x_),v])] w (cL cb lo fs m w (foldL fs d c.y_ (eC fs false ⟨e_,0,0⟩ c))):=by
 obtain⟨n,u,rfl⟩:=b.slice;have C:=wJ;have E:=yF;have I:=LP;have F:=AW;have H:=yE;have G:=AX;have D:=ES;obtain⟨a,g⟩:=Loc.new h (.cells #[.int .i64 c.l_,.string (bs c.x_),.slice n c.y_.length u] 271);have i:=aB a;have A:=aB (OK cb lo fs m q t d z c (.slice n c.y_.length u) e_ (w.alloc (.cells #[.int .i64 c.l_,.string (bs c.x_),.slice n c.y_.length u] 271)) g (b.below a.fb.bel) x p (by have:=tA x;omega))
 clear h a g;generalize foldL fs d c.y_ (eC fs false ⟨e_,0,0⟩ c)=c at*;go_enter func111,ntmps111;go_wp2_with fail;refine A.out.mono ?_;rintro e B ⟨l,⟨s,y,rfl,j⟩|⟨b,rfl⟩⟩
 ·have o:=aB (i.out.fb.trans l);have r:=aB j;subst y;clear l j;go_wp2_with fail;go_end0;exact cL.done o.out rfl r.out
 ·have o:=aB (i.out.fb.trans l);have r:=aB b;clear l b;go_wp2_with fail;exact⟨rfl,cL.fault (c1:=c) o.out r.out (Stk.refl _)⟩
def MW(cb lo:Nat)(fs:List aC)(m:Value)(d:Nat)(IH:gY cb lo fs m d)(e_:List (List UInt8))(w:World)(h:CK cb lo fs m w e_)(l:Nat)(t a:aC)(v1:Value)(v:PN (Btw lo cb) w v1 a)(p:eM d a)(q:e_.length+cG d a<=90000):
 Calls prog 111 #[.pointer (some ⟨cb,0,none⟩),.iface 259 (.agg #[.int .i64 l,.int .i64 t.l_,.string (bs t.x_),v1])] w (cL cb lo fs m w (({ aV fs false d a (Hs.declaresL ⟨e_,0,0⟩ t) with e_:=(aV fs false d a (Hs.declaresL ⟨e_,0,0⟩ t)).e_++[t.x_] }:aW))):=by
 obtain⟨n,f,rfl⟩:=v.form;have A:=rK;obtain⟨b,g⟩:=Loc.new h (.cells #[.int .i64 l,.int .i64 t.l_,.string (bs t.x_),.iface n (.agg f)] 259);have i:=aB b;have y:=aB (KN cb lo fs m d IH (w.alloc (.cells #[.int .i64 l,.int .i64 t.l_,.string (bs t.x_),.iface n (.agg f)] 259)) e_ g l t a (.iface n (.agg f)) (v.below b.fb.bel) p q);clear h b g;generalize ({ aV fs false d a (Hs.declaresL ⟨e_,0,0⟩ t) with e_:=(aV fs false d a (Hs.declaresL ⟨e_,0,0⟩ t)).e_++[t.x_] }:aW)=c at*
 go_enter func111,ntmps111;go_wp2_with fail;refine y.out.mono ?_;rintro e z ⟨k,⟨s,x,rfl,j⟩|⟨u,rfl⟩⟩
 ·have o:=aB (i.out.fb.trans k);have r:=aB j;subst x;clear k j;go_wp2_with fail;go_end0;exact cL.done o.out rfl r.out
 ·have o:=aB (i.out.fb.trans k);have r:=aB u;clear k u;go_wp2_with fail;exact⟨rfl,cL.fault (c1:=c) o.out r.out (Stk.refl _)⟩
def MV(cb lo:Nat)(fs:List aC)(k:Value)(e_:List (List UInt8))(w:World)(h:CK cb lo fs k w e_)(l m:Nat):
 Calls prog 111 #[.pointer (some ⟨cb,0,none⟩),.iface 268 (.agg #[.int .i64 l,.iface 307 (.agg #[.int .i64 m,.int .i64 0])])] w (cL cb lo fs k w ((⟨e_,0,0⟩:aW))):=by
 have r:=lJ;have t:=mK;have x:=sI;have u:=nW;have v:=mJ;obtain⟨a,b⟩:=Loc.new h (.cells #[.int .i64 l,.iface 307 (.agg #[.int .i64 m,.int .i64 0])] 268);have d:=aB a;have o:=aB (DD cb lo fs k e_ (w.alloc (.cells #[.int .i64 l,.iface 307 (.agg #[.int .i64 m,.int .i64 0])] 268)) b m 0);clear h a b;generalize (⟨e_,0,0⟩:aW)=c at*;go_enter func111,ntmps111;go_wp2_with fail;refine o.out.mono ?_;rintro e q ⟨g,⟨s,p,rfl,f⟩|⟨n,rfl⟩⟩
 ·have i:=aB (d.out.fb.trans g);have j:=aB f;subst p;clear g f;go_wp2_with fail;go_end0;exact cL.done i.out rfl j.out
 ·have i:=aB (d.out.fb.trans g);have j:=aB n;clear g n;go_wp2_with fail;exact⟨rfl,cL.fault (c1:=c) i.out j.out (Stk.refl _)⟩
def dF{d:Nat}(b:(a.op==[118,97,114])=false)(c:(a.op==[98,108,111,99,107])=false):aV fs false (d+1) a s=foldL fs d a.y_ (eH fs false s a):=by
 rw[aV,if_neg (by rw[b];simp)]
 simp only[c];rfl
def look_plain(c:(a.op==[115,101,116])=false)(b:(a.op==[110,97,109,101])=false)(d:(a.op==[99,97,108,108])=false):eH fs false s a=s:=by
 unfold eH;rw[c,b,d];rfl
def JJ(h:(a.op==[115,101,116] || a.op==[110,97,109,101])=true):eH fs false s a=xL s a.l_ a.x_:=by
 unfold eH;rw[h];rfl
def DG(h:a.op=[99,97,108,108]):eH fs false s a=eC fs false s a:=by
 unfold eH;rw[h];rfl
def JC{x y:List UInt8}(h:bF x≠9)(a:bF y=9):(x==y)=false:=by
 rw[beq_eq_false_iff_ne];intro e;rw[e] at h;exact h a
def SI(cb lo:Nat)(fs:List aC)(p:Value)(E:fs.length<=90000)(G:∀f∈fs,f.y_.length<=90000)(d:Nat)(IHs:∀e,e<=d->gY cb lo fs p e):gY cb lo fs p (d+1):=by
 intro v a e_ w h O C j;obtain⟨T,W,V,rfl,L,m⟩:=O.parts;have u:=IHs d (F6 _);have I:=qH cb lo fs p d u
 have A:qN cb lo fs p d:=by
  cases d with
  |zero=>exact λ_ _ _ _ _ _ _ P _=>P.elim
  |succ e=>exact KV (qH cb lo fs p e (IHs e o_))
 rw[cG] at j;have i:∀k∈a.y_,eM d k:=C;clear O C;rcases L with ⟨rfl,k,rfl,b,M,g,rfl⟩|⟨rfl,rfl,b,g,rfl⟩|⟨rfl,rfl,b,g,rfl⟩|⟨rfl,y,rfl,b,rfl⟩|⟨rfl,y,rfl,b,rfl⟩|⟨rfl,rfl,b,g,rfl⟩|⟨rfl,l,q,F,n,B,rfl,b,g,rfl⟩|⟨rfl,o,q,n,rfl,U,b,g,rfl⟩|⟨rfl,l,q,F,n,B,rfl,b,g,rfl⟩|⟨rfl,q,t,n,rfl,b,g,rfl⟩|⟨rfl,y,q,l,n,rfl,b,g,rfl⟩|⟨rfl,q,z,n,r,rfl,b,x,g,rfl⟩|⟨rfl,q,z,N,n,r,J,rfl,b,x,K,g,rfl⟩|⟨rfl,q,z,n,r,rfl,b,x,g,rfl⟩|⟨rfl,l,rfl,b,g,rfl⟩|⟨rfl,q,n,rfl,b,g,rfl⟩|⟨rfl,q,n,rfl,b,g,rfl⟩|⟨rfl,y,c,rfl,b,S,Q,g,s,rfl⟩
 ·have e:aV fs false (d+1) a ⟨e_,0,0⟩=⟨e_,0,0⟩:=by rw[dF (by rw[b];decide) (by rw[b];decide),look_plain (by rw[b];decide) (by rw[b];decide) (by rw[b];decide),g];rfl
  rw[e];exact DD cb lo fs p e_ w h _ k
 ·have e:aV fs false (d+1) a ⟨e_,0,0⟩=⟨e_,0,0⟩:=by rw[dF (by rw[b];decide) (by rw[b];decide),look_plain (by rw[b];decide) (by rw[b];decide) (by rw[b];decide),g];rfl
  rw[e];exact SN cb lo fs p e_ w h _ _
 ·have e:aV fs false (d+1) a ⟨e_,0,0⟩=⟨e_,0,0⟩:=by rw[dF (by rw[b];decide) (by rw[b];decide),look_plain (by rw[b];decide) (by rw[b];decide) (by rw[b];decide),g];rfl
  rw[e];exact YQ cb lo fs p e_ w h _ _
 ·rw[dF (by rw[b];decide) (by rw[b];decide),look_plain (by rw[b];decide) (by rw[b];decide) (by rw[b];decide)]
  exact YP cb lo fs p d I e_ w h _ y a.y_ (m _ (G5.2 rfl)).many i o_
 ·rw[dF (by rw[b];decide) (by rw[b];decide),DG b]
  exact PU cb lo fs p E G d I a y e_ w h (m _ (G5.2 rfl)).many i o_
 ·have e:aV fs false (d+1) a ⟨e_,0,0⟩=xL ⟨e_,0,0⟩ a.l_ a.x_:=by rw[dF (by rw[b];decide) (by rw[b];decide),JJ (by rw[b];decide),g];rfl
  rw[e];exact JI cb lo fs p e_ w h _ _ o_
 ·rw[dF (by rw[b];decide) (by rw[b];decide),look_plain (by rw[b];decide) (by rw[b];decide) (by rw[b];decide),g]
  rw[g] at j i;simp only[J1,L4,J2,L1] at j;exact WH cb lo fs p d u e_ w h l q n (m _ s_).one' (i n s_) F B (m ⟨F,[B],true⟩ s_).one' (i B s_) o_
 ·have H:a.op=[45,120]\/a.op=[33,120]:=by rcases U with rfl|rfl<;>simp[b]
  have e:aV fs false (d+1) a ⟨e_,0,0⟩=aV fs false d n ⟨e_,0,0⟩:=by
   rcases H with b|b<;>(rw[dF (by rw[b];decide) (by rw[b];decide),look_plain (by rw[b];decide) (by rw[b];decide) (by rw[b];decide),g];rfl)
  rw[e];rw[g] at j i;simp only[J1,L4,J2,L1] at j;exact WF cb lo fs p d u e_ w h _ _ q n (m _ s_).one' (i n s_) o_
 ·rw[dF (JC b d_) (JC b d_),look_plain (JC b d_) (JC b d_) (JC b d_),g]
  rw[g] at j i;simp only[J1,L4,J2,L1] at j;exact SP cb lo fs p d u e_ w h l _ q n (m _ s_).one' (i n s_) F B (m ⟨F,[B],true⟩ s_).one' (i B s_) o_
 ·have e:aV fs false (d+1) a ⟨e_,0,0⟩={ aV fs false d n (Hs.declaresL ⟨e_,0,0⟩ t) with e_:=(aV fs false d n (Hs.declaresL ⟨e_,0,0⟩ t)).e_++[t.x_] }:=by
   rw[aV,if_pos (by rw[b];rfl),g]
  rw[e];rw[g] at j i;simp only[J1,L4,J2,L1] at j;exact MW cb lo fs p d u e_ w h _ t n q (m _ s_).one' (i n s_) o_
 ·rw[dF (by rw[b];decide) (by rw[b];decide),JJ (by rw[b];decide),g]
  rw[g] at j i;simp only[K4,J1,L4,N5,J2,L1] at j
  have e:foldL fs d (l++[n]) (xL ⟨e_,0,0⟩ a.l_ a.x_)=aV fs false d n (foldL fs d l (xL ⟨e_,0,0⟩ a.l_ a.x_)):=by
   show List.foldl _ _ (l++[n])=_
   rw[List.foldl_append];rfl
  rw[e];exact SQ cb lo fs p d u I e_ w h _ _ y l (m ⟨y,l,false⟩ s_).many (λk M=>i k (J6 _ M)) q n (m ⟨q,[n],true⟩ s_).one' (i n s_) o_
 ·rw[dF (by rw[b];decide) (by rw[b];decide),look_plain (by rw[b];decide) (by rw[b];decide) (by rw[b];decide),g]
  rw[g] at j i;simp only[J1,L4,J2,L1] at j;exact B2 cb lo fs p d u I A e_ w h _ q n (m ⟨q,[n],true⟩ s_).one' (i n s_) z r x (m ⟨z,r.y_,false⟩ s_).many (i r s_) o_
 ·rw[dF (by rw[b];decide) (by rw[b];decide),look_plain (by rw[b];decide) (by rw[b];decide) (by rw[b];decide),g]
  rw[g] at j i;simp only[J1,L4,J2,L1] at j;exact C5 cb lo fs p d u A e_ w h _ q n (m ⟨q,[n],true⟩ s_).one' (i n s_) z r x (m ⟨z,r.y_,false⟩ s_).many (i r s_) N J K (m ⟨N,J.y_,false⟩ s_).many (i J s_) o_
 ·rw[dF (by rw[b];decide) (by rw[b];decide),look_plain (by rw[b];decide) (by rw[b];decide) (by rw[b];decide),g]
  rw[g] at j i;simp only[J1,L4,J2,L1] at j;exact WE cb lo fs p d u A e_ w h _ q n (m ⟨q,[n],true⟩ s_).one' (i n s_) z r x (m ⟨z,r.y_,false⟩ s_).many (i r s_) o_
 ·have e:aV fs false (d+1) a ⟨e_,0,0⟩=⟨e_,0,0⟩:=by rw[dF (by rw[b];decide) (by rw[b];decide),look_plain (by rw[b];decide) (by rw[b];decide) (by rw[b];decide),g];rfl
  rw[e];exact MV cb lo fs p e_ w h _ l
 ·rw[dF (by rw[b];decide) (by rw[b];decide),look_plain (by rw[b];decide) (by rw[b];decide) (by rw[b];decide),g]
  rw[g] at j i;simp only[J1,L4,J2,L1] at j;exact SO cb lo fs p d u e_ w h _ q n (m _ s_).one' (i n s_) o_
 ·rw[dF (by rw[b];decide) (by rw[b];decide),look_plain (by rw[b];decide) (by rw[b];decide) (by rw[b];decide),g]
  rw[g] at j i;simp only[J1,L4,J2,L1] at j;exact WG cb lo fs p d u e_ w h _ q n (m _ s_).one' (i n s_) o_
 ·rw[dF (by rw[b];decide) (by rw[b];decide),look_plain (by rw[b];decide) (by rw[b];decide) (by rw[b];decide),g]
  rw[g] at j i;simp only[J1,L4,J2,L1] at j;have D:=i c s_
  cases d with
  |zero=>exact D.elim
  |succ e=>
   show Calls _ _ _ _ (cL cb lo fs p w (aV fs false (e+1) c ⟨e_,0,0⟩))
   rw[cG] at j;rw[dF (by rw[s];decide) (by rw[s];decide),DG s]
   exact PU cb lo fs p E G e (qH cb lo fs p e (IHs e o_)) c y e_ w h (m ⟨y,c.y_,false⟩ s_).many D o_
def WA(cb lo:Nat)(fs:List aC)(c:Value)(b:fs.length<=90000)(a:∀f∈fs,f.y_.length<=90000)(d:Nat):gY cb lo fs c d:=by
 induction d using Nat.strongRecOn with
 |_ d h=>
  cases d with
  |zero=>exact λ_ _ _ _ _ _ g _=>g.elim
  |succ d=>exact SI cb lo fs c b a d λe i=>h e o_
def ZW{ps:List aC}(k:Nat)(b:k<ps.length):(UK ps)[k*2]?=some (.int .i64 ps[k].l_)/\(UK ps)[k*2+1]?=some (.string (bs ps[k].x_)):=by
 induction ps generalizing k with
 |nil=>simp at b
 |cons a ps c=>
  cases k with
  |zero=>exact⟨rfl,rfl⟩
  |succ k=>
   have:=c k (by simpa using b)
   have e:∀j,(UK (a::ps))[(k+1)*2+j]?=(UK ps)[k*2+j]?:=λj=>by
    rw[UK,show (k+1)*2+j=k*2+j+1+1 by omega];rfl
   exact⟨(e 0).trans this.1,(e 1).trans this.2⟩
def PNm.get{ps:List aC}(h:PNm F w v ps):(v=.slice none 0 0/\ps=[])\/∃g a,v=.slice (some ⟨g,0,none⟩) ps.length a/\F g/\g<w.heap.size/\ps.length<=a/\∀k (b:k<ps.length),w.cell? ⟨g,k*2,none⟩=some (.int .i64 ps[k].l_)/\w.cell? ⟨g,k*2+1,none⟩=some (.string (bs ps[k].x_)):=by
 obtain⟨_,h|⟨g,a,o,l,f,d,i,m⟩⟩:=h
 ·exact F7 h
 ·refine F5 ⟨g,a,l,f,aD d,i,λk b=>?_⟩
  obtain⟨p,n⟩:=ZW k b
  have e:∀j u,j<ps.length*2->(UK ps)[j]?=some u->w.cell? ⟨g,j,none⟩=some u:=λj u q c=>by
   refine aA d ?_;rw[<-m,I9,if_pos q] at c;simpa using c
  exact⟨e _ _ o_ p,e _ _ o_ n⟩
def zO:∀{a:List Value} {fs:List aC} (i:Nat),fB (wZ F w) a fs->i<=fs.length->(gW a).take (i*4)=gW (a.take i)
 |[],[],i,_,h=>by simp[gW]
 |u::a,f::fs,0,_,_=>by simp[gW]
 |u::a,f::fs,i+1,⟨⟨j,e,k,b,d,_⟩,h⟩,g=>by
  subst d;have c:=zO i h (by simpa using g)
  rw[N3,gW,gW,<-c,List.take_append];have:(uV (Value.agg #[.int .i64 f.l_,.string (bs f.x_),j,e])).length=4:=rfl;rw[this,J5 (by rw[this];omega)]
  congr 2;omega
 |[],_::_,_,h,_=>h.elim
 |_::_,[],_,h,_=>h.elim
def fB.take{R:Value->aC->Prop}:∀{vs ks} (i:Nat),fB R vs ks->fB R (vs.take i) (ks.take i)
 |_,_,0,_=>by simp[fB]
 |[],[],_+1,_=>trivial
 |_::_,_::_,i+1,⟨b,a⟩=>⟨b,fB.take i a⟩
 |[],_::_,_,h=>h.elim
 |_::_,[],_,h=>h.elim
def FSl.take{g a:Nat}(h:FSl F w (.slice (some ⟨g,0,none⟩) fs.length a) fs)(i:Nat)(m:i<=fs.length):FSl F w (.slice (some ⟨g,0,none⟩) i a) (fs.take i):=by
 rcases h with ⟨b,_⟩|⟨p,d,c,n,b,j,l,o,k,f⟩
 ·cases b
 ·cases b;have e:(fs.take i).length=i:=by rw[M1];omega
  refine F5 ⟨g,a,c,n.take i,by rw[e],j,l,o_,?_,f.take i⟩
  rw[e,<-zO i f m,<-k,List.take_take];congr 1;omega
def CK.reset{cb lo:Nat}{c g:Value}{e_:List (List UInt8)}(h:CK cb lo fs c w e_)(a:w.heap[cb]?=some (.cells #[c,g] 165 (0,0))):
 FB cb w (w.setCell ⟨cb,1,none⟩ (.slice none 0 0))/\CK cb lo fs c (w.setCell ⟨cb,1,none⟩ (.slice none 0 0)) []:=by
 have f:=aD a;have d:Below cb w (w.setCell ⟨cb,1,none⟩ (.slice none 0 0)):=(F9 _ _).setCell s_ _
 have e:(w.setCell ⟨cb,1,none⟩ (.slice none 0 0)).heap[cb]?=some (.cells #[c,.slice none 0 0] 165 (0,0)):=by rw[aO a];rfl
 refine⟨⟨d,λk b i j=>G0 _ _ _ _ (by show k≠cb;exact i),λk b=>?_⟩,⟨.slice none 0 0,e,World.ownsRow_nil _ _ _ _⟩,h.fun_.keep λk b=>d.block k b.2⟩
 rw[kT e] at b;cases b
def MN(pre:List aC)(x:List UInt8):(iR pre x).isSome=(fE x || !(dL pre x).isNone):=by
 unfold iR fE;cases x==[108,101,110]<;>cases x==[114,101,97,100]<;>cases dL pre x<;>rfl
def yX(fs:List aC)(d:Nat)(s:aW)(k:aC):Stk s (gK fs d s k):=by
 unfold gK;split
 ·exact(Stk.declares s k).trans (Stk.e_ _ _)
 ·exact Stk.walk fs false d k s
def VT(fs:List aC)(d:Nat)(s:aW)(k:aC)(h:k.op=[112,97,114,97,109]):gK fs d s k={ Hs.declaresL s k with e_:=(Hs.declaresL s k).e_++[k.x_] }:=by
 unfold gK;rw[h];rfl
def VU(fs:List aC)(d:Nat)(s:aW)(k:aC)(h:k.op=[98,108,111,99,107]):gK fs d s k=aV fs false d k s:=by
 unfold gK;rw[h];rfl
def A6(cb lo:Nat)(fs:List aC)(fv:Value)(d:Nat)(w:World)(b0:Nat)(o:Obj)(ps:List aC)(b:aC)(c:aW)(gk:Nat)(i:Value)(wr:World):Prop:=
 ∃k s,k+gk=ps.length/\i=.int .i64 (k:Nat)/\Loc cb w b0 o wr/\CK cb lo fs fv wr s/\c=(ps.drop k++[b]).foldl (gK fs d) ⟨s,0,0⟩/\s.length=k
def OF(fs:List aC)(d:Nat)(e_:List (List UInt8))(f:aC)(first:Bool)(h:(fE f.x_ || !first)=true):Stk ⟨[],6,f.l_⟩ (hU fs d ⟨e_,0,0⟩ f first):=by
 unfold hU;rw[h];exact Stk.fold (yX fs d) _ _
def ZG(fs:List aC)(d:Nat)(e_:List (List UInt8))(f:aC)(first:Bool)(h:(fE f.x_ || !first)=false):hU fs d ⟨e_,0,0⟩ f first=f.y_.foldl (gK fs d) ⟨[],0,0⟩:=by
 unfold hU;rw[h];rfl
def TX(cb lo:Nat)(fs:List aC)(g n:Nat)(ck:fs.length<=90000)(H:∀f∈fs,f.y_.length<=90000)(d i:Nat)(hi:i<fs.length)(e_:List (List UInt8))(w:World)(h:CK cb lo fs (FV (.slice (some ⟨g,0,none⟩) fs.length n)) w e_)
 (hd:∀k∈fs[i].y_,eM d k) (hw:fs[i].y_.length+(fs[i].y_.map (cG d)).sum<=90000):
 Calls prog 84 #[.pointer (some ⟨cb,0,none⟩),.slice (some ⟨g,0,none⟩) fs.length n,.int .i64 i] w (cL cb lo fs (FV (.slice (some ⟨g,0,none⟩) fs.length n)) w (hU fs d ⟨e_,0,0⟩ fs[i] (dL (fs.take i) fs[i].x_).isNone)):=by
 obtain⟨_,aj,aa⟩:=h.fun_;cases aj;rcases aa.cells with ⟨h1,_⟩|⟨g',de,h1,cw,dq,cz,hc⟩
 ·cases h1
 cases h1;obtain⟨pv,bv,m,b,e0,e1,e2,e3,z,ad,au,am⟩:=hc i hi;obtain⟨Q,V,rfl⟩:=ad.slice;obtain⟨K,L,rfl⟩:=am.slice;have ay:=aB (MN (fs.take i) fs[i].x_);have bk:=H fs[i] (H9 hi);have br:=aB (aa.take i o_)
 generalize du:fs[i]=f at*;have bz:=aB (λhx=>OF fs d e_ f (dL (fs.take i) f.x_).isNone hx)
 have cj:=aB (λhx=>ZG fs d e_ f (dL (fs.take i) f.x_).isNone hx)
 have bl:=h.lt;obtain⟨an,aw⟩:=Loc.new h (.cells #[.int .i64 f.l_,.string (bs f.x_),.slice Q m.length V,.slice K b.y_.length L] 159);obtain⟨sx,sc,S,dm,dc,bm⟩:=h.cut;obtain⟨q,c0,M,f1⟩:=gP S;have bw:=aB an;have ca:=aB aw;have bb:=aB ad;have cu:=aB am;have ax:=aB au;have ak:=aB z;have HD:=aB hd;have HW:=aB hw;have dv:=aB H;have ch:i<=n:=o_
 have HBLK:Hid (qN cb lo fs (FV (.slice (some ⟨g,0,none⟩) fs.length n)) d):=by
  cases d with
  |zero=>exact λ_ _ _ _ _ _ _ hd _=>hd.elim
  |succ e=>exact KV (qH cb lo fs _ e (WA cb lo fs _ ck H e))
 have dg:m.length<=90000:=by rw[z] at bk;simp at bk;omega
 have co:Hid (Below w.heap.size w (w.alloc (.cells #[.int .i64 f.l_,.string (bs f.x_),.slice Q m.length V,.slice K b.y_.length L] 159))):=(F9 _ _).alloc (F6 _) _;have I:=aB (zA (fs.take i) (Btw lo cb) (.slice (some ⟨g,0,none⟩) i n) f.x_ (w.alloc (.cells #[.int .i64 f.l_,.string (bs f.x_),.slice Q m.length V,.slice K b.y_.length L] 159)).drew (by rw[M1];omega) (λf hf=>H f (O2 hf)) (br.out.keep λk hk=>by have:=hk.2;exact G7 _ _ _ o_))
 rw[ay.out] at I;generalize cy:((iR (List.take i fs) f.x_).getD 0)=pn at I;obtain⟨tk,ai⟩:=E_ ((fE f.x_ || !(dL (fs.take i) f.x_).isNone))
 rw[<-ai] at I;have ao:=aB ai;obtain⟨Y,r⟩:=E_ (hU fs d ⟨e_,0,0⟩ f (dL (fs.take i) f.x_).isNone);rw[<-r];have az:=aB r;clear cy ai r h an aw ad am au z hd hw H aa hc S bm ay br cw;go_enter func84,ntmps84;go_wp2_with fail;go_cut [7,8] (λ_ tv wc=>tv=.bool tk/\Below w.heap.size w wc/\Loc cb w w.heap.size (.cells #[.int .i64 f.l_,.string (bs f.x_),.slice Q m.length V,.slice K b.y_.length L] 159) wc/\CK cb lo fs (FV (.slice (some ⟨g,0,none⟩) fs.length n)) wc e_)
 case first=>
  go_region_law (go_simp;go_at_call 82;refine I.out.mono ?_;rintro e w1 ⟨rfl,bu⟩;have ag:=aB ((F9 (w.alloc (.cells #[.int .i64 f.l_,.string (bs f.x_),.slice Q m.length V,.slice K b.y_.length L] 159)).heap.size (w.alloc (.cells #[.int .i64 f.l_,.string (bs f.x_),.slice Q m.length V,.slice K b.y_.length L] 159))).drew.trans bu);clear bu)
  all_goals
   go_wp2_with fail;go_meet
   case rel=>exact⟨rfl,co.out.trans (ag.out.mono s_),bw.out.step (FB.of_below ag.out t_),ca.out.grow ag.out⟩
 case rest=>
  obtain⟨rfl,aq,y,P⟩:=hcut;clear c0 M f1 q e0 e1 e2 e3;obtain⟨dn,dl,v,di,ct,ac⟩:=P.cut;obtain⟨q,c0,M,f1⟩:=gP v;have cm:=aB y;have ds:=aB P;have m0:=aA y.blk (i:=0) rfl;have m1:=aA y.blk (i:=1) rfl;have m2:=aA y.blk (i:=2) rfl;have m3:=aA y.blk (i:=3) rfl;have O:=aD y.blk;have X:=aB (P.reset v);have bq:=aB aq;clear y P v ac aq I;cases tk;rotate_left
  ·go_wp2_with fail;refine(pM f.l_ _).mono ?_;rintro e J ⟨rfl,c⟩;have u:=aB (bq.out.trans (c.mono bq.out.size));clear c;go_wp2_with (go_at_call 83;refine(eV 6 f.l_ _).mono ?_;rintro e w3 ⟨rfl,hw⟩;obtain rfl:=hw.symm)
   exact⟨rfl,cL.fault (c1:=⟨[],6,f.l_⟩) (FB.of_below u.out bl) s_ (by rw[az.out];exact bz.out ao.out.symm)⟩
  have HI:Hid (A6 cb lo fs (FV (.slice (some ⟨g,0,none⟩) fs.length n)) d w w.heap.size (.cells #[.int .i64 f.l_,.string (bs f.x_),.slice Q m.length V,.slice K b.y_.length L] 159) m b Y m.length (.int .i64 (0:Nat)) (wc.setCell ⟨cb,1,none⟩ (.slice none 0 0))):=
   ⟨0,[],o_,rfl,cm.out.step X.out.1,X.out.2,by rw[az.out,cj.out ao.out.symm,ak.out];rfl,rfl⟩
  have df:¬cb=w.heap.size:=o_
  have ci:¬w.heap.size=cb:=o_
  obtain⟨i0,cx,cf,bj,cs⟩:=info_parts QA;go_wp2_with fail;go_loopg [10,37] m.length (λgk _ iv wr=>A6 cb lo fs (FV (.slice (some ⟨g,0,none⟩) fs.length n)) d w w.heap.size (.cells #[.int .i64 f.l_,.string (bs f.x_),.slice Q m.length V,.slice K b.y_.length L] 159) m b Y gk iv wr)
  case atStart=>exact HI.out
  case round=>
   obtain⟨k,s,hk,rfl,l,B,r,av⟩:=hrel;have bp:=aB av;have db:s.length<=90000:=o_
   clear av;have N:=aB l;have dk:=aB B;have bh:=aB r;clear m0 m1 m2 m3 O c0 M f1 q HI X;have m0:=aA l.blk (i:=0) rfl;have m1:=aA l.blk (i:=1) rfl;have m2:=aA l.blk (i:=2) rfl;have m3:=aA l.blk (i:=3) rfl;have O:=aD l.blk;have dy:=B.lt;by_cases q:k<m.length
   ·obtain⟨j,rfl⟩:∃j,gk=j+1:=⟨gk-1,o_⟩
    rcases bb.out.get with ⟨_,ap⟩|⟨pg,da,aj,al,cp,cv,E⟩
    ·rw[ap] at q;simp at q
    obtain⟨bn,bf⟩:=E k q;have bo:=bb.out.1 m[k] (H9 q);have ar:m.drop k=m[k]::m.drop (k+1):=(L9 q).symm;have U:Y=(m.drop (k+1)++[b]).foldl (gK fs d) (gK fs d ⟨s,0,0⟩ m[k]):=by rw[r,ar];rfl
    generalize m[k]=a at*;cases aj;have r0:wr.cell? ⟨pg,k*2,none⟩=some (.int .i64 a.l_):=(l.fb.bel.cell (p:=⟨pg,k*2,none⟩) al.2).trans bn;have r1:wr.cell? ⟨pg,k*2+1,none⟩=some (.string (bs a.x_)):=(l.fb.bel.cell (p:=⟨pg,k*2+1,none⟩) al.2).trans bf;have dd:pg<wr.heap.size:=G3 (Nat.lt_trans al.2 bl) l.fb.bel.size;obtain⟨be,F⟩:=Loc.new B (.cells #[.int .i64 a.l_,.string (bs a.x_)] 155);have ae:=aB be;have HM:=aB (pJ cb lo fs _ (wr.alloc (.cells #[.int .i64 a.l_,.string (bs a.x_)] 155)) s F o_ a.l_ a.x_)
    have ba:Hid (Hs.declaresL ⟨s,0,0⟩ a=if fE a.x_ || s.contains a.x_ then aW.found ⟨s,0,0⟩ a.l_ 6 else ⟨s,0,0⟩):=rfl
    rw[<-ba.out] at HM;have W:=aB (VT fs d ⟨s,0,0⟩ a bo);have bd:=lC ⟨s,0,0⟩ a;have cn:=aB bd;have t:=aB U;clear r U ar bn bf E cv cp bh bd ba be F l B bo;generalize Hs.declaresL ⟨s,0,0⟩ a=M at*;go_wp2_with fail;refine HM.out.mono ?_;rintro e J ⟨c,⟨s2,rfl,rfl,o⟩|⟨D,rfl⟩⟩
    rotate_left
    ·have cr:=aB (N.out.fb.trans (ae.out.fb.trans c));have HK:=aB D;clear c D;go_wp2_with fail;exact⟨rfl,cL.fault (c1:=M) cr.out HK.out (by rw[t.out,W.out];exact(Stk.e_ _ _).trans (Stk.fold (yX fs d) _ _))⟩
    obtain rfl:s2=s:=cn.out;have ah:=aB (ae.out.step c);have HLb:=aB ((N.out.step ae.out.fb).step c);obtain⟨cd,cg,x,dj,ce,C⟩:=o.cut;obtain⟨bt,c0,M,f1⟩:=gP x;have n0:=aA ah.out.blk (i:=0) rfl;have n1:=aA ah.out.blk (i:=1) rfl;have dx:=aD ah.out.blk;clear m0 m1 m2 m3 O r0 r1;have m0:=aA HLb.out.blk (i:=0) rfl;have m1:=aA HLb.out.blk (i:=1) rfl;have m2:=aA HLb.out.blk (i:=2) rfl;have m3:=aA HLb.out.blk (i:=3) rfl;have O:=aD HLb.out.blk;have u:=aB (show J.drew.heap[cb]?=_ from x)
    have ab:=aB (show J.drew.ownsRow _ _ _ _ _ _ from C)
    have G:=aB (show CK cb lo fs (FV (.slice (some ⟨g,0,none⟩) fs.length n)) J.drew s2 from o.grow (F9 _ _).drew)
    have cq:=aB (FB.of_below (cb:=cb) (F9 J.heap.size J).drew bt);clear x C o c HM;go_wp2_with fail;go_region_law (refine step_append_lies _ r_ _ _ 37 r_ (cb+1) 9 i0 _ 1 16 underlying37 cx cf bj cs rfl d_ (.slice cd s2.length cg) s2.length (fQ s2) r_ (ab.out.alloc _) ⟨J.heap.size,0,none⟩ 1 1 [.string (bs a.x_)] r_ r_ (JH J.drew _) (PR _) d_ (by unfold maxLen;omega) o_ t_ (J.heap.size+1) s_ ?_;intro g5 dh w5 af A bi dz;have bg:=AH u.out ab.out A;obtain⟨dt, -,q1,dr⟩:=gP bg;clear bg)
    all_goals
     go_wp2_with fail;go_roundg j
     case measure=>omega
     case rel=>
      have T:=G.out.add u.out ab.out af A (bi.imp_right λe=>by show J.heap.size<=g5;omega)
      exact⟨k+1,s2++[a.x_],o_,by go_num,(HLb.out.step cq.out).step T.1,T.2,by rw[t.out,W.out],by have:=bp.out;simp;omega⟩
   ·have dw:k=m.length:=o_
    have Z:eM d b/\s.length+cG d b<=90000:=by
     have h1:=HW.out;have h2:=HD.out b (by rw[ak.out];simp)
     rw[ak.out] at h1;simp only[F8,K4,N5,J1,L4,J2,L1,G1,G4] at h1;have:=bp.out;exact⟨h2,o_⟩
    have HX:=aB (HBLK.out (.slice K b.y_.length L) b s wr B ax.out (cu.out.below l.fb.bel) Z.1 Z.2)
    have t:Hid (Y=aV fs false d b ⟨s,0,0⟩):=by
     show _=_
     rw[r,M8 o_]
     exact VU fs d _ b ax.out
    rw[<-t.out] at HX;clear l B r bh t Z;go_wp2_with fail;refine HX.out.mono ?_;rintro e J ⟨c,⟨s2,F,rfl,o⟩|⟨D,rfl⟩⟩
    ·have u:=aB (N.out.fb.trans c);have G:=aB o;have cl:=aB F;clear c o F;go_wp2_with fail;go_end0;exact cL.done u.out cl.out G.out
    ·have u:=aB (N.out.fb.trans c);have G:=aB D;clear c D;go_wp2_with fail;exact⟨rfl,cL.fault (c1:=Y) u.out G.out (Stk.refl _)⟩
def pK(fs:List aC):Bool:=iR fs [109,97,105,110]==some 0
def OJ(fs:List aC)(F:Nat->Prop)(o:Value)(w:World)(u:fs.length<=90000)(i:∀f∈fs,f.y_.length<=90000)(h:FSl F w o fs):
 Calls prog 44 #[o] w λe s=>Below w.heap.size w s/\((pK fs=true/\e=.returned (.tuple #[]))\/(pK fs=false/\e=cH 5 0)):=by
 have d:=aB (zA fs F o [109,97,105,110] w o_ i h)
 have g:Hid (pK fs=(iR fs [109,97,105,110]==some 0)):=rfl;have b:=aB (λn r=>PQ i (x:=[109,97,105,110]) (n:=n) r)
 clear h i;rw[show bs [109,97,105,110]=⟨#[109,97,105,110]⟩ from rfl] at d
 obtain⟨j,l⟩:=E_ (pK fs);rw[<-l] at g ⊢
 clear l;cases c:iR fs [109,97,105,110] with
 |none=>
  obtain rfl:j=false:=by rw[g.out,c];rfl
  rw[c] at d;simp only[Option.getD_none,Option.isSome_none] at d;clear c g b;go_enter func44,ntmps44;go_wp2_with fail;refine d.out.mono ?_;rintro e p ⟨rfl,a⟩;have k:=aB a;clear a;go_wp2_with (go_at_call 83;refine(eV 5 0 _).mono ?_;rintro e t ⟨rfl,m⟩;obtain rfl:=m.symm)
  exact⟨rfl,k.out,F5 ⟨trivial,rfl⟩⟩
 |some n=>
  have r:=b.out n c;rw[c] at d;simp only[Option.getD_some,Option.isSome_some] at d;cases n with
  |zero=>
   obtain rfl:j=true:=by rw[g.out,c];rfl
   clear c g b;go_enter func44,ntmps44;go_wp2_with fail;refine d.out.mono ?_;rintro e p ⟨rfl,a⟩;have k:=aB a;clear a;go_wp2_with fail;go_end0;exact⟨k.out,F7 ⟨trivial,rfl⟩⟩
  |succ n=>
   obtain rfl:j=false:=by rw[g.out,c];rfl
   clear c g b;have q:decide ((0:Int)<((n:Int)+1))=true:=decide_eq_true o_
   go_enter func44,ntmps44;go_wp2_with fail;refine d.out.mono ?_;rintro e p ⟨rfl,a⟩;have k:=aB a;clear a;go_wp2_with (go_at_call 83;refine(eV 5 0 _).mono ?_;rintro e t ⟨rfl,m⟩;obtain rfl:=m.symm)
   exact⟨rfl,k.out,F5 ⟨trivial,rfl⟩⟩
def QG(fs:List aC)(d:Nat):∀(a pre:List aC) (s:aW),Stk s (eO fs d pre a s)
 |[],_,s=>Stk.refl s
 |n::a,pre,s=>by
  rw[eO];refine Stk.trans ?_ (QG fs d a _ _);unfold hU;refine Stk.trans ?_ (Stk.fold (yX fs d) _ _);refine Stk.trans ?_ (Stk.e_ _ _);split
  ·exact Stk.found _ _ _
  ·exact Stk.refl _
def PC(cb lo:Nat)(fs:List aC)(fv:Value)(d:Nat)(w:World)(c:aW)(gk:Nat)(i:Value)(wr:World):Prop:=
 ∃k s,k+gk=fs.length/\i=.int .i64 (k:Nat)/\Below cb w wr/\CK cb lo fs fv wr s/\c=eO fs d (fs.take k) (fs.drop k) ⟨s,0,0⟩
def KR(lo:Nat)(fs:List aC)(M:Value)(w:World)(d:Nat)(H:fs.length<=90000)(z:∀f∈fs,f.y_.length<=90000)(h:FSl (Btw lo w.heap.size) w M fs)(N:∀f∈fs,∀k∈f.y_,eM d k)(P:∀f∈fs,f.y_.length+(f.y_.map (cG d)).sum<=90000):
 Calls prog 45 #[M] w λe U=>Below w.heap.size w U/\(((eO fs d [] fs ⟨[],0,0⟩).kind=0/\(eO fs d [] fs ⟨[],0,0⟩).l_=0/\e=.returned (.tuple #[]))\/((eO fs d [] fs ⟨[],0,0⟩).kind≠0/\e=cH (eO fs d [] fs ⟨[],0,0⟩).kind (eO fs d [] fs ⟨[],0,0⟩).l_)):=by
 obtain⟨y,r,rfl⟩:∃x c,M=.slice x fs.length c:=by
  rcases h.cells with ⟨t,C⟩|⟨g,F,t,_⟩
  ·exact⟨none,0,by rw[t,C];rfl⟩
  ·exact⟨_,_,t⟩
 obtain⟨c,G⟩:=E_ (eO fs d [] fs ⟨[],0,0⟩);have p:Below w.heap.size w (w.alloc (.cells #[FV (.slice y fs.length r),.slice none 0 0] 165)):=(F9 _ _).alloc (F6 _) _
 have W:Hid (PC w.heap.size lo fs (FV (.slice y fs.length r)) d w c fs.length (.int .i64 (0:Nat)) (w.alloc (.cells #[FV (.slice y fs.length r),.slice none 0 0] 165))):=
  ⟨0,[],o_,rfl,p,⟨⟨.slice none 0 0,aU _ _ rfl _,World.ownsRow_nil _ _ _ _⟩,⟨_,rfl,h.keep λk O=>p.block k O.2⟩⟩,by rw[G];rfl⟩
 rw[<-G];have V:=aB h;have L:=aB z;have Z:=aB N;have HW:=aB P;clear h p G z N P;go_enter func45,ntmps45;go_wp2_with fail;go_loopg [3,9] fs.length (λgk _ i wr=>PC w.heap.size lo fs (FV (.slice y fs.length r)) d w c gk i wr)
 case atStart=>exact W.out
 case round=>
  obtain⟨k,s,O,rfl,D,q,l⟩:=hrel;have E:=aB D;by_cases b:k<fs.length
  ·obtain⟨j,rfl⟩:∃j,gk=j+1:=⟨gk-1,o_⟩
   obtain⟨g,rfl⟩:∃g,y=some ⟨g,0,none⟩:=by
    rcases V.out.cells with ⟨t,C⟩|⟨g,F,t,_⟩
    ·rw[C] at b;simp at b
    ·cases t;exact⟨g,rfl⟩
   have K:fs[k]∈fs:=H9 b;have S:=aB (TX w.heap.size lo fs g r H L.out d k b s wr q (Z.out _ K) (HW.out _ K));have A:fs.drop k=fs[k]::fs.drop (k+1):=(L9 b).symm
   have a:c=eO fs d (fs.take (k+1)) (fs.drop (k+1)) (hU fs d ⟨s,0,0⟩ fs[k] (dL (fs.take k) fs[k].x_).isNone):=by
    rw[l,A,eO,H8 b]
   have n:=aB a;clear D q l a A K;generalize hU fs d ⟨s,0,0⟩ fs[k] (dL (fs.take k) fs[k].x_).isNone=Y at*;go_wp2_with fail;refine S.out.mono ?_;rintro e T ⟨m,⟨s1,rfl,rfl,o⟩|⟨u,rfl⟩⟩
   rotate_left
   ·have I:=aB (E.out.trans m.bel);have v:=aB u;have B:Hid (Stk Y c):=by show Stk _ _;rw[n.out];exact QG fs d _ _ _
    clear m u;go_wp2_with fail;obtain⟨Q,X⟩:=B.out v.out;exact⟨rfl,I.out,F5 ⟨by rw[Q];exact v.out,by rw[Q,X]⟩⟩
   have J:Hid (PC w.heap.size lo fs (FV (.slice (some ⟨g,0,none⟩) fs.length r)) d w c j (.int .i64 ((k+1:Nat):Int)) T):=⟨k+1,s1,o_,rfl,E.out.trans m.bel,o,n.out⟩
   clear m o S;go_wp2_with fail;go_roundg j
   case measure=>omega
   case rel=>exact J.out
  ·have a:c=⟨s,0,0⟩:=by rw[l,M8 o_];rfl
   have n:=aB a;clear D q l a;go_wp2_with fail;go_end0;rw[n.out];exact⟨E.out,F7 ⟨rfl,rfl,rfl⟩⟩
structure NTabs(w:World):Prop where
 er:∃te pe,w.cell? ⟨10,0,none⟩=some (.iface te pe)
 big:11<=w.heap.size
def NTabs.fr{sb:Nat}(h:NTabs w)(a:Fr sb w w')(e:11<=sb):NTabs w':=by
 obtain⟨b,d,c⟩:=h.er;have:=h.big;have:=a.size;exact⟨⟨b,d,by rw[uW (a.block 10 o_ o_)];exact c⟩,o_⟩
def SA(l:List UInt8)(i:∀c∈l,bS c=true)(a:l≠[])(q:l.length<=100000)(w:World)(k:NTabs w):
 Calls prog 218 #[.string (bs l),.int .i64 10,.int .i64 64] w λe b=>Below w.heap.size w b/\((∃v,bW 0 l=some v/\e=.returned (.tuple #[.int .i64 (v:Nat),.nilIface]))\/(bW 0 l=none/\∃x T p,e=.returned (.tuple #[.int .i64 x,.iface T p]))):=by
 have m:(bs l).size=l.length:=gI l;rcases TI l i a with ⟨v,f,d⟩|⟨f,d⟩
 ·refine(strconv_ParseInt_10_at64_ok (bs l) o_ v (by rw[jM];exact d) w).mono ?_
  rintro e b ⟨rfl,n⟩;refine⟨?_,F7 ⟨v,f,rfl⟩⟩;rcases n with rfl|⟨t,rfl⟩
  ·exact F9 _ _
  ·exact Lib.bytesWorld_below _ _ _
 ·obtain⟨h,g,o⟩:=k.er;refine(strconv_ParseInt_10_at64_range (bs l) o_ (by rw[jM];exact d) (.iface h g) w o (F5 ⟨h,g,rfl⟩)).mono ?_
  rintro e b ⟨N,rfl,_,_,j⟩;exact⟨j,F5 ⟨f,_,_,_,rfl⟩⟩
def rF(c:UInt8):dD false c=bS c:=by unfold dD;simp
def GY(sb:Nat)(a:ByteArray)(n L:Nat)(w:World)(h:SC sb a n L w)(Z:NTabs w)(F:11<=sb)(hs:a.size<=100000)(hn:n<a.size)(D:bS a[n]=true):
 Calls prog 177 #[.pointer (some ⟨sb,0,none⟩)] w (XO sb a n L w (fF (a.data.toList.drop n) false)):=by
 obtain⟨k,m⟩:=E_ (bA (dD false) (a.data.toList.drop n))
 have ac:k<=a.size-n:=by
  have:=iF (dD false) (a.data.toList.drop n);rw[m];simpa using this
 have aa:1<=k:=by
  rw[m,iH a n hn,qC _ _ _ (by rw[rF];exact D)];omega
 have ae:n<=a.size:=o_
 have Q:=(SC.cells h).1;have J:w.heap.size≠sb:=o_
 have U:SC sb a n L (w.alloc (.cells #[.int .i64 0,.string ⟨#[]⟩,.int .i64 0,.int .i64 0] 150)):=by unfold SC;rw[G7 _ _ _ Q];exact h
 obtain⟨h0,c0,c1,V,f1,X⟩:=U.cells;have E:Hid (ZTok (w.alloc (.cells #[.int .i64 0,.string ⟨#[]⟩,.int .i64 0,.int .i64 0] 150)).drew w.heap.size):=aU _ _ rfl _;have z:=aB (λw=>sP (dD false) 176 (λ_ _=>rfl) (λc w=>by rw[rF];exact rQ c w) (a.extract n a.size) w (by rw[qG];omega))
 rw[kY,<-m] at z;have y:=aB (mH sb a n L k (w.alloc (.cells #[.int .i64 0,.string ⟨#[]⟩,.int .i64 0,.int .i64 0] 150)).drew U o_ o_)
 obtain⟨d,o⟩:=E_ ((a.data.toList.drop n).take k);rw[<-o] at y;have j:d.length=k:=by rw[o,M1];simp;omega
 have G:=aB (λW (hW:NTabs W)=>SA d (λc Y=>by
  rw[o,m] at Y;rw[<-rF];exact qD _ _ c Y) (λe=>by rw[e] at j;simp at j;omega) o_ W hW)
 have HW:Hid (fF (a.data.toList.drop n) false={ sort:=48,x_:=d,size:=k,ok:=(bW 0 d).isSome }):=by
  show _=_
  unfold fF;rw[<-m,<-o];rfl
 rw[HW.out];have P:Hid (Fr sb w (w.alloc (.cells #[.int .i64 0,.string ⟨#[]⟩,.int .i64 0,.int .i64 0] 150))):=(Fr.refl _ _).alloc _;have HG:=aB Z;have ab:(bs d).size=k:=by rw[gI];exact j
 clear h U m o HW Z j D;obtain⟨rr,C⟩:∃rr:nQ,rr={ sort:=48,x_:=d,size:=k,ok:=(bW 0 d).isSome }:=⟨_,rfl⟩;rw[<-C];have K:=aB C;clear C;go_enter func177,ntmps177;go_wp2_with fail;go_cut [3] (λv wc=>v=.string (bs d)/\SC sb a (n+k) L wc/\Fr sb w wc/\ZTok wc w.heap.size)
 case first=>
  go_region_law (first|(go_simp;go_at_call 172;refine(z.out _).mono ?_;rintro e w1 ⟨rfl,S⟩;obtain rfl:=S.symm)|(go_simp;go_at_call 214;refine y.out.mono ?_;rintro e w2 ⟨rfl,q,f⟩;have l:=aB q;have t:=aB (P.out.drew.trans f);have r:=aB (f.keepS E.out J);clear q f))
  all_goals
   go_wp2_with fail;go_meet
   case rel=>exact⟨rfl,l.out,t.out,r.out⟩
 case rest=>
  obtain⟨rfl,q,f,H⟩:=hcut;have l:=aB q;have t:=aB f;have r:=aB H;have A:=aB (G.out wc (HG.out.fr f F));clear c0 c1 V f1 X h0 q f H y z E G;go_wp2_with fail;refine A.out.mono ?_;rintro e M ⟨g,⟨v,I,rfl⟩|⟨I,x,T,p,rfl⟩⟩
  ·have s:Hid (SC sb a (n+k) L M):=(g.block sb (aD l.out)).trans l.out;have b:Hid (ZTok M w.heap.size):=(g.block _ (aD r.out)).trans r.out;have B:=aB (t.out.trans (Fr.below g));obtain⟨h0,c0,c1,V,f1,X⟩:=s.out.cells;have z0:=aA b.out (i:=0) rfl;have z1:=aA b.out (i:=1) rfl;have z2:=aA b.out (i:=2) rfl;have z3:=aA b.out (i:=3) rfl;have y0:=aE (i:=0) b.out;have y1:=aE (i:=1) b.out;have y2:=aE (i:=2) b.out;have y3:=aE (i:=3) b.out;have ad:=aD b.out;have N:=aB I;clear g I A;go_wp2_with fail;rw[K.out];refine bodyPost_ret (v:=.agg #[.int .i64 2,.string (bs d),.int .i64 v,.int .i64 L]) (by simp[results,results177,go_sem,z0,z1,z2,z3]) rfl ?_
   have u:=jZ B.out s.out (F6 _) J (.int .i64 2) (.string (bs d)) (.int .i64 v) (.int .i64 L);refine⟨u.1,F7 ⟨by show (bW 0 d).isSome=true;rw[N.out];rfl,?_,u.2⟩⟩
   show _=Ending.returned (.agg #[.int .i64 2,.string (bs d),.int .i64 (pval ⟨48,d,L⟩),.int .i64 L])
   have e:pval ⟨48,d,L⟩=v:=by unfold pval;rw[if_pos rfl,N.out];rfl
   rw[e]
  ·have s:Hid (SC sb a (n+k) L M):=(g.block sb (aD l.out)).trans l.out;have B:=aB (t.out.trans (Fr.below g));have O:=aB (qE sb a (n+k) L M s.out);have N:=aB I;clear g I A;go_wp2_with fail;refine O.out.mono ?_;rintro e w4 ⟨rfl,S⟩;obtain rfl:=S.symm;go_wp2_with fail;rw[K.out];exact⟨rfl,B.out,F5 ⟨by show (bW 0 d).isSome=false;rw[N.out];rfl,rfl⟩⟩
def QT(sb:Nat)(b:ByteArray)(n L:Nat)(w:World)(h:SC sb b n L w)(hg:NTabs w)(hm:PTabs w)(z:11<=sb)(hs:b.size<=100000)(S:n<b.size):
 Calls prog 121 #[.pointer (some ⟨sb,0,none⟩)] w (XO sb b n L w (bN (b.data.toList.drop n))):=by
 have W:=(SC.cells h).1;have r:w.heap.size≠sb:=o_
 have hb:(b[n].toNat:Int)<=255:=lU _;have V:SC sb b n L (w.alloc (.cells #[.int .i64 0,.string ⟨#[]⟩,.int .i64 0,.int .i64 0] 150)):=by unfold SC;rw[G7 _ _ _ W];exact h
 obtain⟨h0,c0,c1,c2,f1,f2⟩:=V.cells;have p:Hid (∀q,ZTok ((w.alloc (.cells #[.int .i64 0,.string ⟨#[]⟩,.int .i64 0,.int .i64 0] 150)).drewN q) w.heap.size):=λ_=>aU _ _ rfl _
 have D:Fr sb w (w.alloc (.cells #[.int .i64 0,.string ⟨#[]⟩,.int .i64 0,.int .i64 0] 150)):=(Fr.refl _ _).alloc _;have l:=aB D;have O:Hid (∀q,NTabs ((w.alloc (.cells #[.int .i64 0,.string ⟨#[]⟩,.int .i64 0,.int .i64 0] 150)).drewN q)):=λq=>hg.fr (D.drewN q) z
 have A:Hid (∀q,PTabs ((w.alloc (.cells #[.int .i64 0,.string ⟨#[]⟩,.int .i64 0,.int .i64 0] 150)).drewN q)):=λq=>hm.fr (D.drewN q) z
 have Q:=aB V;obtain⟨c,I⟩:=E_ (bN (b.data.toList.drop n));rw[<-I];have F:c=if bS b[n] || dQ b[n] then fF (b.data.toList.drop n) (dQ b[n]) else if b[n].toNat=34 then qA (b.data.toList.drop (n+1)) else fR (b.data.toList.drop n):=by rw[I,iH b n S];rfl
 have t:=aB F;have s:=aB (vM b[n]);have u:=aB (rQ b[n]);clear h V hg hm I F D;cases y:dQ b[n]
 ·cases B:bS b[n]
  ·by_cases E:b[n].toNat=34
   ·have e:c=qA (b.data.toList.drop (n+1)):=by rw[t.out,y,B];simp[E]
    have C:=aB (λq=>QR sb b n L ((w.alloc (.cells #[.int .i64 0,.string ⟨#[]⟩,.int .i64 0,.int .i64 0] 150)).drewN q) Q.out o_ S)
    rw[<-e] at C;rw[y] at s;rw[B] at u;have P:((b[n].toNat:Int)==34)=true:=t_
    clear y B e t E;go_enter func121,ntmps121;go_wp2_with fail;go_quiet (fail)
    go_wp2_with fail;refine(s.out _).mono ?_;rintro e N ⟨rfl,x⟩;obtain rfl:=x.symm;go_wp2_with fail;refine(u.out _).mono ?_;rintro e N ⟨rfl,x⟩;obtain rfl:=x.symm;go_wp2_with fail;refine(C.out _).mono ?_;rintro e w2 ⟨f,⟨d,rfl,o⟩|⟨d,rfl⟩⟩
    ·have j:=aB ((l.out.drewN _).trans f);have m:=aB o;have a:=aB (f.keepS (p.out _) r);have g:=aB d;have K:=aA a.out (i:=0) rfl;have H:=aA a.out (i:=1) rfl;have G:=aA a.out (i:=2) rfl;have J:=aA a.out (i:=3) rfl;have Y:=aE (i:=0) a.out;have T:=aE (i:=1) a.out;have y2:=aE (i:=2) a.out;have U:=aE (i:=3) a.out;have M:=aD a.out;clear f o d;simp only[lN];go_wp2_with fail;refine bodyPost_ret (v:=.agg #[.int .i64 (psort c.sort),.string (bs c.x_),.int .i64 (pval ⟨c.sort,c.x_,L⟩),.int .i64 L]) (by clear O A p l j m a g;generalize psort c.sort=Z;generalize pval ⟨c.sort,c.x_,L⟩=X;simp[results,results121,go_sem,K,H,G,J]) rfl ?_
     have k:=jZ j.out m.out (F6 _) r (.int .i64 (psort c.sort)) (.string (bs c.x_)) (.int .i64 (pval ⟨c.sort,c.x_,L⟩)) (.int .i64 L);exact⟨k.1,F7 ⟨g.out,rfl,k.2⟩⟩
    ·have j:=aB ((l.out.drewN _).trans f);have g:=aB d;clear f d;go_wp2_with fail;exact⟨rfl,j.out,F5 ⟨g.out,rfl⟩⟩
   ·have e:fR (b.data.toList.drop n)=c:=by rw[t.out,y,B];simp[E]
    have C:=aB (λq=>QV sb b n L ((w.alloc (.cells #[.int .i64 0,.string ⟨#[]⟩,.int .i64 0,.int .i64 0] 150)).drewN q) Q.out (A.out q) o_ S c e)
    rw[y] at s;rw[B] at u;have P:((b[n].toNat:Int)==34)=false:=t_
    clear y B e t E;go_enter func121,ntmps121;go_wp2_with fail;go_quiet (fail)
    go_wp2_with fail;refine(s.out _).mono ?_;rintro e N ⟨rfl,x⟩;obtain rfl:=x.symm;go_wp2_with fail;refine(u.out _).mono ?_;rintro e N ⟨rfl,x⟩;obtain rfl:=x.symm;go_wp2_with fail;refine(C.out _).mono ?_;rintro e w2 ⟨f,⟨d,rfl,o⟩|⟨d,rfl⟩⟩
    ·have j:=aB ((l.out.drewN _).trans f);have m:=aB o;have a:=aB (f.keepS (p.out _) r);have g:=aB d;have K:=aA a.out (i:=0) rfl;have H:=aA a.out (i:=1) rfl;have G:=aA a.out (i:=2) rfl;have J:=aA a.out (i:=3) rfl;have Y:=aE (i:=0) a.out;have T:=aE (i:=1) a.out;have y2:=aE (i:=2) a.out;have U:=aE (i:=3) a.out;have M:=aD a.out;clear f o d;simp only[lN];go_wp2_with fail;refine bodyPost_ret (v:=.agg #[.int .i64 (psort c.sort),.string (bs c.x_),.int .i64 (pval ⟨c.sort,c.x_,L⟩),.int .i64 L]) (by clear O A p l j m a g;generalize psort c.sort=Z;generalize pval ⟨c.sort,c.x_,L⟩=X;simp[results,results121,go_sem,K,H,G,J]) rfl ?_
     have k:=jZ j.out m.out (F6 _) r (.int .i64 (psort c.sort)) (.string (bs c.x_)) (.int .i64 (pval ⟨c.sort,c.x_,L⟩)) (.int .i64 L);exact⟨k.1,F7 ⟨g.out,rfl,k.2⟩⟩
    ·have j:=aB ((l.out.drewN _).trans f);have g:=aB d;clear f d;go_wp2_with fail;exact⟨rfl,j.out,F5 ⟨g.out,rfl⟩⟩
  ·have e:c=fF (b.data.toList.drop n) false:=by rw[t.out,y,B];rfl
   have C:=aB (λq=>GY sb b n L ((w.alloc (.cells #[.int .i64 0,.string ⟨#[]⟩,.int .i64 0,.int .i64 0] 150)).drewN q) Q.out (O.out q) z hs S B)
   rw[<-e] at C;rw[y] at s;rw[B] at u;clear y B e t;go_enter func121,ntmps121;go_wp2_with fail;go_quiet (fail)
   go_wp2_with fail;refine(s.out _).mono ?_;rintro e N ⟨rfl,x⟩;obtain rfl:=x.symm;go_wp2_with fail;refine(u.out _).mono ?_;rintro e N ⟨rfl,x⟩;obtain rfl:=x.symm;go_wp2_with fail;refine(C.out _).mono ?_;rintro e w2 ⟨f,⟨d,rfl,o⟩|⟨d,rfl⟩⟩
   ·have j:=aB ((l.out.drewN _).trans f);have m:=aB o;have a:=aB (f.keepS (p.out _) r);have g:=aB d;have K:=aA a.out (i:=0) rfl;have H:=aA a.out (i:=1) rfl;have G:=aA a.out (i:=2) rfl;have J:=aA a.out (i:=3) rfl;have Y:=aE (i:=0) a.out;have T:=aE (i:=1) a.out;have y2:=aE (i:=2) a.out;have U:=aE (i:=3) a.out;have M:=aD a.out;clear f o d;simp only[lN];go_wp2_with fail;refine bodyPost_ret (v:=.agg #[.int .i64 (psort c.sort),.string (bs c.x_),.int .i64 (pval ⟨c.sort,c.x_,L⟩),.int .i64 L]) (by clear O A p l j m a g;generalize psort c.sort=Z;generalize pval ⟨c.sort,c.x_,L⟩=X;simp[results,results121,go_sem,K,H,G,J]) rfl ?_
    have k:=jZ j.out m.out (F6 _) r (.int .i64 (psort c.sort)) (.string (bs c.x_)) (.int .i64 (pval ⟨c.sort,c.x_,L⟩)) (.int .i64 L);exact⟨k.1,F7 ⟨g.out,rfl,k.2⟩⟩
   ·have j:=aB ((l.out.drewN _).trans f);have g:=aB d;clear f d;go_wp2_with fail;exact⟨rfl,j.out,F5 ⟨g.out,rfl⟩⟩
 ·have e:c=fF (b.data.toList.drop n) true:=by rw[t.out,y,Bool.or_true];rfl
  have C:=aB (λq=>QU sb b n L ((w.alloc (.cells #[.int .i64 0,.string ⟨#[]⟩,.int .i64 0,.int .i64 0] 150)).drewN q) Q.out o_ o_)
  rw[<-e] at C;rw[y] at s;clear y e t u;go_enter func121,ntmps121;go_wp2_with fail;go_quiet (fail)
  go_wp2_with fail;refine(s.out _).mono ?_;rintro e N ⟨rfl,x⟩;obtain rfl:=x.symm;go_wp2_with fail;refine(C.out _).mono ?_;rintro e w2 ⟨f,⟨d,rfl,o⟩|⟨d,rfl⟩⟩
  ·have j:=aB ((l.out.drewN _).trans f);have m:=aB o;have a:=aB (f.keepS (p.out _) r);have g:=aB d;have K:=aA a.out (i:=0) rfl;have H:=aA a.out (i:=1) rfl;have G:=aA a.out (i:=2) rfl;have J:=aA a.out (i:=3) rfl;have Y:=aE (i:=0) a.out;have T:=aE (i:=1) a.out;have y2:=aE (i:=2) a.out;have U:=aE (i:=3) a.out;have M:=aD a.out;clear f o d;simp only[lN];go_wp2_with fail;refine bodyPost_ret (v:=.agg #[.int .i64 (psort c.sort),.string (bs c.x_),.int .i64 (pval ⟨c.sort,c.x_,L⟩),.int .i64 L]) (by clear O A p l j m a g;generalize psort c.sort=Z;generalize pval ⟨c.sort,c.x_,L⟩=X;simp[results,results121,go_sem,K,H,G,J]) rfl ?_
   have k:=jZ j.out m.out (F6 _) r (.int .i64 (psort c.sort)) (.string (bs c.x_)) (.int .i64 (pval ⟨c.sort,c.x_,L⟩)) (.int .i64 L);exact⟨k.1,F7 ⟨g.out,rfl,k.2⟩⟩
  ·have j:=aB ((l.out.drewN _).trans f);have g:=aB d;clear f d;go_wp2_with fail;exact⟨rfl,j.out,F5 ⟨g.out,rfl⟩⟩
def WR:(prog.info? 150).map (λi=>(i.zero,i.size,i.bytes))=some (some (.agg #[.int .i64 0,.string (bs []),.int .i64 0,.int .i64 0]),4,40):=k_
def CZ(w:World)(a b c d:Value):∀j u,([a,b,c,d]:List Value)[j]?=some u->(w.alloc (.cells #[a,b,c,d] 150)).cell? ((⟨w.heap.size,0,none⟩:Addr).add j)=some u:=by
 intro j u e;match j,e with
 |0,e=>simp at e;subst e;simp[Addr.add,go_sem]
 |1,e=>simp at e;subst e;simp[Addr.add,go_sem]
 |2,e=>simp at e;subst e;simp[Addr.add,go_sem]
 |3,e=>simp at e;subst e;simp[Addr.add,go_sem]
 |j+4,e=>simp at e
def JD(l m n:Int)(b:ByteArray):∀u∈([.int .i64 l,.string b,.int .i64 m,.int .i64 n]:List Value),u.oneCell'=true:=by
 intro u a;simp at a;rcases a with rfl|rfl|rfl|rfl<;>rfl
def RH{a:Nat}{n:Nat}{xs:List Value}(h:w.ownsRow b e a v n xs):∃x c,v=.slice x n c:=by
 rcases h.2 with ⟨d,i⟩|⟨g,f,j,d,_⟩
 ·exact⟨none,0,by rw[d,i]⟩
 ·exact⟨_,f,d⟩
def rX(h:∀c∈l,c≠10):l.count 10=0:=O9.2 λa=>h 10 a rfl
def LK(l:List UInt8)(h:(bN l).ok=true):(l.take (bN l).size).count 10=0:=by
 cases l with
 |nil=>simp[bN] at h
 |cons c r=>
  rw[bN] at h ⊢
  split
  ·rename_i i;rw[qQ];refine rX λx a=>?_
   have:=qD _ _ x a;intro e;subst e;revert this
   cases dQ c<;>decide
  ·rename_i i;rw[if_neg i] at h;split
   ·rename_i b;rw[if_pos b] at h;have d:(decide (r[bA eN r]?=some 34) && decide (bA eN r<=100))=true:=h;rw[I7,decide_eq_true_eq] at d
    have k:bA eN r<r.length:=by
     by_cases a:bA eN r<r.length
     ·exact a
     ·rw[J0 o_] at d;exact absurd d.1 s_
    show ((c::r).take (bA eN r+1+1)).count 10=0
    rw[N3,List.take_add_one,d.1];refine rX λx a=>?_
    rcases G9.1 a with rfl|a
    ·intro e;rw[e] at b;exact absurd b d_
    rcases G8.1 a with a|a
    ·have:=qD _ _ x a;intro e;subst e;exact absurd this d_
    ·intro e;rw[e] at a;exact absurd a d_
   ·rename_i b;rw[if_neg b] at h;unfold fR at h ⊢
    cases f:bX.find? (λo=>cE (c::r) o) with
    |none=>rw[f] at h;simp at h
    |some o=>
     have j:=List.find?_some f;have m:=M4 f
     have n:(c::r).take o.length=o:=by
      have g:=j;unfold cE at g;rw[jX _ _ (iP j)] at g;simpa using g
     show ((c::r).take o.length).count 10=0
     rw[n];have:∀o∈bX,o.count 10=0:=d_
     exact this o m
def VO(x:Except Nat (List aR))(w:World)(e:Ending)(w':World):Prop:=
 Below w.heap.size w w'/\
  match x with
  |.error n=>e=cH 3 n
  |.ok ts=>∃v,e=.returned v/\w'.ownsRow (w.heap.size+1) 150 4 v ts.length (ptoks ts)
def XQ(src:ByteArray)(w:World)(TS:Except Nat (List aR))(gk:Nat)(v:Value)(wr:World):Prop:=
 ∃(k f:Nat) (ts:List aR),k<=src.size/\src.size+1<=k+f/\src.size<=k+gk/\ts.length<=k/\SC w.heap.size src k (aS (src.data.toList.take k)) wr/\Fr w.heap.size w wr/\wr.ownsRow (w.heap.size+1) 150 4 v ts.length (ptoks ts)/\TS=dG ts (cN f (src.data.toList.take k) (src.data.toList.drop k))
def Fr.to_below(h:Fr w.heap.size w w'):Below w.heap.size w w':=⟨h.os,h.tape,h.output,h.size,λk a=>h.block k a o_⟩
def VN(a:ByteArray)(w:World)(hg:NTabs w)(V:PTabs w)(hs:a.size<=2000):
 Calls prog 79 #[.string a] w (VO (eU a.data.toList) w):=by
 obtain⟨i0,I,aa,al,ag⟩:=info_parts WR;have C:=hg.big;have h0:SC w.heap.size a 0 (aS (a.data.toList.take 0)) (w.alloc (.cells #[.string a,.int .i64 0,.int .i64 1] 216)):=aU _ _ rfl _;have n:=aB (IL w.heap.size a 0 (w.alloc (.cells #[.string a,.int .i64 0,.int .i64 1] 216)) h0 o_ (K5 _))
 simp only[List.drop_zero,O0] at n;obtain⟨U,G⟩:=E_ (Hs.blankL a.size a.data.toList);have am:U<=a.size:=by have:=tK a.size a.data.toList;rw[G];simpa using this
 rw[<-G] at n;obtain⟨E,t⟩:=E_ (eU a.data.toList)
 have o:Hid (E=cN (a.size+1) (a.data.toList.take U) (a.data.toList.drop U)):=by
  show _=_
  rw[t];unfold eU;rw[show a.data.toList.length=a.size by simp,<-G]
 rw[<-t];have ae:Hid (Fr w.heap.size w (w.alloc (.cells #[.string a,.int .i64 0,.int .i64 1] 216))):=(Fr.refl _ _).alloc _;have HG:=aB hg;have HM:=aB V;clear h0 hg V G t;go_enter func79,ntmps79;go_wp2_with fail;refine n.out.mono ?_;rintro e w1 ⟨rfl,ah,ao⟩;have HI:Hid (XQ a w E a.size (.slice none 0 0) w1):=⟨U,a.size+1,[],am,o_,o_,s_,ah,ae.out.trans ao,World.ownsRow_nil _ _ _ _,by rw[o.out,yT]⟩
 clear ah ao n o ae;go_wp2_with fail;go_loopg [4] a.size (λgk v wr=>XQ a w E gk v wr)
 case atStart=>exact HI.out
 case round=>
  obtain⟨k,f,y,hk,hf,bc,bb,M,S,g,t⟩:=hrel
  have hL:aS (a.data.toList.take k)<=k+1:=by
   have:=nG (a.data.toList.take k);have:=List.length_take_le k a.data.toList;omega
  obtain⟨h0,c0,c1,c2,f1,f2⟩:=M.cells;have ba:=S.size;have aw:=aB M;have z:=aB S;have o:=aB t;obtain⟨x,c,rfl⟩:=RH g;have H:∀k,(Value.slice x y.length c).ownBlock=some k->w.heap.size+1<=k:=bR g;clear HI M S t;by_cases Z:k<a.size
  ·obtain⟨f,rfl⟩:∃f',f=f'+1:=⟨f-1,o_⟩
   obtain⟨j,rfl⟩:∃j,gk=j+1:=⟨gk-1,o_⟩
   have ak:decide ((k:Int)<(a.size:Int))=true:=decide_eq_true o_
   have hl:(a.data.toList.drop k).length=a.size-k:=s_
   have F:=aB (QT w.heap.size a k (aS (a.data.toList.take k)) wr aw.out (HG.out.fr z.out C) (HM.out.fr z.out C) C o_ Z)
   cases p:(bN (a.data.toList.drop k)).ok
   ·have HF:Hid (E=.error (aS (a.data.toList.take k))):=by
     show _=_
     rw[o.out,nC _ _ _ o_ p];rfl
    have Q:=aB p;clear o hl p;generalize aS (a.data.toList.take k)=L at*;go_wp2_with fail;refine F.out.mono ?_;rintro e w2 ⟨s,⟨l,_,_⟩|⟨l,rfl⟩⟩
    ·rw[Q.out] at l;cases l
    have B:=aB (z.out.trans s);clear s l F;go_wp2_with fail;rw[HF.out];exact⟨rfl,B.out.to_below,rfl⟩
   ·have ap:=sD _ p;rw[hl] at ap;have an:=LK _ p;obtain⟨m,V⟩:=E_ (k+(bN (a.data.toList.drop k)).size+Hs.blankL a.size (a.data.toList.drop (k+(bN (a.data.toList.drop k)).size)))
    have ar:m<=a.size:=by
     have:=tK a.size (a.data.toList.drop (k+(bN (a.data.toList.drop k)).size));rw[L3,show a.data.toList.length=a.size by simp] at this
     omega
    have HT:=UR a k f Z p m V
    have HF:Hid (E=dG (y++[{ sort:=(bN (a.data.toList.drop k)).sort,x_:=(bN (a.data.toList.drop k)).x_,l_:=aS (a.data.toList.take k) }]) (cN f (a.data.toList.take m) (a.data.toList.drop m))):=by
     show _=_
     rw[o.out,HT,wN]
    have Y:aS (a.data.toList.take (k+(bN (a.data.toList.drop k)).size))=aS (a.data.toList.take k):=by
     rw[List.take_add,gS,an];rfl
    have n:=aB (λW (hW:SC w.heap.size a (k+(bN (a.data.toList.drop k)).size) (aS (a.data.toList.take (k+(bN (a.data.toList.drop k)).size))) W)=>IL w.heap.size a _ W hW o_ o_)
    rw[Y] at n;simp only[<-V] at n;have Q:=aB p;have az:k<m:=o_
    clear o hl p HT an Y V;generalize bN (a.data.toList.drop k)=r at*;obtain⟨pa,T⟩:=E_ (psort r.sort);obtain⟨pb,J⟩:=E_ (pval ⟨r.sort,r.x_,aS (a.data.toList.take k)⟩);have ad:Hid (lN ⟨r.sort,r.x_,aS (a.data.toList.take k)⟩=.agg #[.int .i64 pa,.string (bs r.x_),.int .i64 pb,.int .i64 (aS (a.data.toList.take k))]):=by show _=_;rw[T,J];rfl
    have aq:Hid (ptok ⟨r.sort,r.x_,aS (a.data.toList.take k)⟩=[.int .i64 pa,.string (bs r.x_),.int .i64 pb,.int .i64 (aS (a.data.toList.take k))]):=by show _=_;rw[T,J];rfl
    clear T J;generalize aS (a.data.toList.take k)=L at*;have P:=aB H;have ai:=aB g;clear g H;go_wp2_with fail;refine F.out.mono ?_;rintro e w2 ⟨s,⟨l,rfl,K⟩|⟨l,rfl⟩⟩
    rotate_left
    ·rw[Q.out] at l;cases l
    rw[ad.out];have u:=bB (w1:=w2) ai.out λi I=>s.block i (cK ai.out i I) (by have:=P.out i I;omega)
    have B:=aB (z.out.trans s);have ab:=aB K;have ay:=B.out.size;have af:=aD K;clear s l K F ad;go_wp2_with (at_builtin;refine wpList_append_lies _ r_ _ _ 99 r_ (w.heap.size+1) 150 i0 _ 4 40 underlying99 I aa al ag rfl d_ _ _ _ r_ (u.alloc _) ⟨w2.heap.size,0,none⟩ 1 1 [.int .i64 pa,.string (bs r.x_),.int .i64 pb,.int .i64 L] r_ r_ (CZ _ _ _ _ _) (JD _ _ _ _) d_ (by unfold maxLen;omega) o_ t_ (w2.heap.size+1) s_ ?_)
    intro g7 q X d b D au;have O:=aB ((B.out.alloc _).grown b (λk hk=>by have:=P.out k hk;omega))
    have ax:Hid (SC w.heap.size a (k+r.size) L X):=by
     show _=_
     rw[b.block _ t_ (λe=>by have:=P.out _ e.symm;omega),G7 _ _ _ af]
     exact ab.out
    have A:Hid (X.ownsRow (w.heap.size+1) 150 4 (.slice (some ⟨g7,0,none⟩) (y.length+1) q) (y++[(⟨r.sort,r.x_,L⟩:aR)]).length (ptoks (y++[⟨r.sort,r.x_,L⟩]))):=by
     rw[yS,aq.out,F8];exact d
    have aj:=aB (n.out X ax.out);clear u d b D ab B n;go_wp2_with fail;refine aj.out.mono ?_;rintro e w8 ⟨rfl,ac,N⟩
    have av:Hid (XQ a w E j (.slice (some ⟨g7,0,none⟩) (y.length+1) q) w8):=by
     refine⟨m,f,y++[⟨r.sort,r.x_,L⟩],ar,o_,o_,t_,ac,O.out.trans N,?_,HF.out⟩
     exact bB A.out λi I=>N.block i (cK A.out i I) (by have:=bR A.out i I;omega)
    clear ac N aj;go_wp2_with fail;go_roundg j
    case measure=>omega
    case rel=>exact av.out
  ·obtain⟨f,rfl⟩:∃f',f=f'+1:=⟨f-1,o_⟩
   have HF:Hid (E=.ok (y++[{ sort:=101,x_:=[],l_:=aS (a.data.toList.take k) }])):=by
    show _=_
    rw[o.out,jY _ _ _ t_];rfl
   have ak:decide ((k:Int)<(a.size:Int))=false:=decide_eq_false o_
   clear o;generalize aS (a.data.toList.take k)=L at*;go_wp2_with (at_builtin;refine wpList_append_lies _ r_ _ _ 99 r_ (w.heap.size+1) 150 i0 _ 4 40 underlying99 I aa al ag rfl d_ _ _ _ r_ (g.alloc _) ⟨wr.heap.size,0,none⟩ 1 1 [.int .i64 4,.string ⟨#[]⟩,.int .i64 0,.int .i64 L] r_ r_ (CZ _ _ _ _ _) (JD _ _ _ _) d_ (by unfold maxLen;omega) o_ t_ (wr.heap.size+1) s_ ?_)
   intro g7 q X d b D au;have O:=aB ((z.out.alloc _).grown b (λk hk=>by have:=H k hk;omega))
   have A:Hid (X.ownsRow (w.heap.size+1) 150 4 (.slice (some ⟨g7,0,none⟩) (y.length+1) q) (y++[(⟨101,[],L⟩:aR)]).length (ptoks (y++[⟨101,[],L⟩]))):=by
    rw[yS,F8];exact d
   clear g d b D H;go_wp2_with fail;go_ret;rw[HF.out];exact⟨O.out.to_below,_,rfl,A.out⟩
def NN(a:ByteArray)(w:World)(_hs:a.size<=maxLen):
 Calls prog 77 #[.string a] w λe d=>d=w/\((a.size<=2000/\e=.returned (.tuple #[]))\/(2000<a.size/\e=cH 1 0)):=by
 by_cases h:a.size<=2000
 ·have c:decide ((2000:Int)<(a.size:Int))=false:=decide_eq_false o_
  go_enter func77,ntmps77;go_wp2_with fail;go_end0;exact⟨rfl,F7 ⟨h,rfl⟩⟩
 ·have c:decide ((2000:Int)<(a.size:Int))=true:=decide_eq_true o_
  go_enter func77,ntmps77;go_wp2_with (go_at_call 83;refine(eV 1 0 _).mono ?_;rintro e f ⟨rfl,b⟩;obtain rfl:=b.symm)
  exact⟨rfl,rfl,F5 ⟨o_,rfl⟩⟩
def FI{c:Nat}{x:UInt8}(h:x∈l.take c):∃i,i<c/\l[i]?=some x:=by
 obtain⟨i,b,e⟩:=O3.1 h;have a:=b;rw[M1] at a;refine⟨i,o_,?_⟩
 rw[List.getElem_take] at e;rw[H7 o_,e]
def uG{lo a:Nat}(h:cQ l i lo a=true){x:UInt8}(b:l[i]?=some x):lo<=x.toNat:=by
 unfold cQ at h;rw[b] at h;simp at h;exact h.1
def KT(h:2<=bD l):(l.take (bD l)).count 10=0:=by
 refine rX λx o=>?_
 obtain⟨i,c,e⟩:=FI o;suffices 128<=x.toNat by intro e;rw[e] at this;exact absurd this d_
 revert h c
 unfold bD;cases m:l[0]? with
 |none=>simp
 |some b=>
  simp only;have d:i=0->x=b:=λg=>by subst g;rw[m] at e;exact(Option.some.inj e).symm
  split
  ·intro h;omega
  ·rename_i k;split
   ·rename_i f;split
    ·rename_i a;intro _ c;match i,c with
     |0,_=>rw[d rfl];omega
     |1,_=>exact uG a e
    ·intro h;omega
   ·split
    ·rename_i n;by_cases a:(cQ l 1 (if b.toNat=224 then 160 else 128) (if b.toNat=237 then 159 else 191) && cQ l 2 128 191)=true
     ·rw[if_pos a];rw[I7] at a;intro _ c;match i,c with
      |0,_=>rw[d rfl];omega
      |1,_=>have:=uG a.1 e;split at this<;>omega
      |2,_=>exact uG a.2 e
     ·rw[if_neg a];intro h;omega
    ·split
     ·rename_i j;by_cases a:(cQ l 1 (if b.toNat=240 then 144 else 128) (if b.toNat=244 then 143 else 191) && cQ l 2 128 191 && cQ l 3 128 191)=true
      ·rw[if_pos a];rw[I7,I7] at a;intro _ c;match i,c with
       |0,_=>rw[d rfl];omega
       |1,_=>have:=uG a.1.1 e;split at this<;>omega
       |2,_=>exact uG a.1.2 e
       |3,_=>exact uG a.2 e
      ·rw[if_neg a];intro h;omega
     ·intro h;omega
def ZI(n a b c d:Nat)(e:a<256):(Lib.decodeN n a b c d).1<=1114111:=by
 unfold Lib.decodeN;repeat' split
 all_goals (simp only;omega)
def B4(a:ByteArray)(k:Nat)(p:k<a.size):∃r z,Lib.decodeGo (a.extract k a.size)=(r,z)/\r<=1114111/\
 ((bD (a.data.toList.drop k)=0/\r=65533/\z=1)\/(bD (a.data.toList.drop k)≠0/\z=bD (a.data.toList.drop k)/\¬(r=65533/\z=1)/\(r=10↔a[k].toNat=10))):=by
 have m:(a.extract k a.size).size=a.size-k:=s_
 have b:0<(a.extract k a.size).size:=o_
 have j:((a.extract k a.size).get! 0).toNat=a[k].toNat:=by rw[zL _ 0 b];simp[ByteArray.getElem_extract]
 have f:=ZK (a.extract k a.size) b;rw[kY] at f
 have h:Lib.decodeGo (a.extract k a.size)=Lib.decodeN (a.extract k a.size).size ((a.extract k a.size).get! 0).toNat ((a.extract k a.size).get! 1).toNat ((a.extract k a.size).get! 2).toNat ((a.extract k a.size).get! 3).toNat:=by
  unfold Lib.decodeGo;rw[if_neg o_,Lib.decode_at];rfl
 obtain⟨g,d⟩:=XH (a.extract k a.size).size ((a.extract k a.size).get! 0).toNat ((a.extract k a.size).get! 1).toNat ((a.extract k a.size).get! 2).toNat ((a.extract k a.size).get! 3).toNat (O1 _) (O1 _) (O1 _) (O1 _);have i:=ZI (a.extract k a.size).size ((a.extract k a.size).get! 0).toNat ((a.extract k a.size).get! 1).toNat ((a.extract k a.size).get! 2).toNat ((a.extract k a.size).get! 3).toNat (O1 _);rw[<-f] at g d;rw[<-h] at g d i;rw[j] at d;clear h f;generalize Lib.decodeGo (a.extract k a.size)=D at*;obtain⟨r,z⟩:=D;refine⟨r,z,rfl,i,?_⟩;by_cases e:bD (a.data.toList.drop k)=0
 ·have:=g e;cases this;exact F7 ⟨e,rfl,rfl⟩
 ·obtain⟨n,l,o⟩:=d e;have c:z=bD (a.data.toList.drop k):=n;exact F5 ⟨e,c,by rw[c];exact l,o⟩
def xR(h:Lib.Utf8Tabs 4 5 w)(a:Below w.heap.size w w')(e:11<=w.heap.size):Lib.Utf8Tabs 4 5 w':=
 ⟨λc d=>(a.cell (p:=⟨4,c,none⟩) (by show 4<_;omega)).trans (h.1 c d),λi b=>⟨(a.cell (p:=⟨5,2*i,none⟩) (by show 5<_;omega)).trans (h.2 i b).1,(a.cell (p:=⟨5,2*i+1,none⟩) (by show 5<_;omega)).trans (h.2 i b).2⟩⟩
def ZF(x:Option Nat)(l:List UInt8)(w:World)(e:Ending)(w':World):Prop:=
 Below w.heap.size w w'/\
  match x with
  |none=>e=.returned (.tuple #[])
  |some k=>e=cH 2 (aS (l.take k))
def ZE(a:ByteArray)(w:World)(O:Lib.Utf8Tabs 4 5 w)(Z:11<=w.heap.size)(hs:a.size<=2000):
 Calls prog 78 #[.string a] w (ZF (dA a.size a.data.toList 0) a.data.toList w):=by
 have S:=aB O;obtain⟨X,G⟩:=E_ (dA a.size a.data.toList 0);rw[<-G];have I:Hid (X=dA a.size (a.data.toList.drop 0) 0):=G;clear O G;go_enter func78,ntmps78;go_wp2_with fail;go_loopg [2,3,4,5] a.size (λgk lv iv _ _ wr=>∃k f:Nat,k<=a.size/\a.size<=k+f/\a.size<=k+gk/\iv=.int .i64 k/\lv=.int .i64 (aS (a.data.toList.take k))/\Below w.heap.size w wr/\Hid (X=dA f (a.data.toList.drop k) k))
 case atStart=>exact⟨0,a.size,K5 _,o_,o_,rfl,rfl,F9 _ _,I⟩
 case round=>
  obtain⟨k,f,hk,hf,W,rfl,rfl,D,x⟩:=hrel
  have hL:aS (a.data.toList.take k)<=k+1:=by
   have:=nG (a.data.toList.take k);have:=List.length_take_le k a.data.toList;omega
  have t:=aB D;by_cases q:k<a.size
  ·obtain⟨f,rfl⟩:∃f',f=f'+1:=⟨f-1,o_⟩
   obtain⟨j,rfl⟩:∃j,gk=j+1:=⟨gk-1,o_⟩
   have d:0<(a.data.toList.drop k).length:=t_
   obtain⟨r,z,M,hr,hc⟩:=B4 a k q;have u:=aB (utf8_DecodeRuneInString (a.extract k a.size) wr (xR S.out D Z));rw[M] at u;clear M D;rcases hc with ⟨g,rfl,rfl⟩|⟨g,o,B,c⟩
   ·have v:Hid (X=some k):=by show _=_;rw[x.out,IJ _ _ _ d g]
    generalize A:aS (a.data.toList.take k)=L at*;have H:=aB A;clear x g d A;go_wp2_with fail;refine u.out.mono ?_;rintro e K ⟨rfl,b⟩;have i:=aB (t.out.trans (b.mono t.out.size));clear b u;go_wp2_with (go_at_call 83;refine(eV 2 L _).mono ?_;rintro e w3 ⟨rfl,hw⟩;obtain rfl:=hw.symm)
    rw[v.out];exact⟨rfl,i.out,congrArg (cH 2) H.out.symm⟩
   ·have v:Hid (X=dA f (a.data.toList.drop (k+z)) (k+z)):=by
     show _=_
     rw[x.out,EZ _ _ _ d g,List.drop_drop,<-o]
    have Y:z<=a.size-k:=by rw[o];have:=TY (a.data.toList.drop k);simpa using this
    have V:1<=z:=o_
    have C:aS (a.data.toList.take (k+z))=aS (a.data.toList.take k)+if r=10 then 1 else 0:=by
     by_cases h2:2<=z
     ·have J:=KT (l:=a.data.toList.drop k) o_
      rw[<-o] at J;rw[List.take_add,gS,J];rw[if_neg];intro e;have T:=c.1 e
      have P:a[k]∈(a.data.toList.drop k).take z:=by
       rw[iH a k q];obtain⟨y,rfl⟩:∃y,z=y+1:=⟨z-1,o_⟩
       rw[N3];exact K8 ..
      exact O9.1 J (by have:a[k]=10:=N7.1 T;rw[this] at P;exact P)
     ·obtain rfl:z=1:=o_
      rw[DI a k q];congr 1
      by_cases E:r=10
      ·rw[if_pos E,if_pos (N7.1 (c.1 E))]
      ·rw[if_neg E,if_neg (λe=>E (c.2 (by rw[e];rfl)))]
    have m:=aB C;generalize aS (a.data.toList.take k)=L at*
    have p:((r:Int)==65533)=false\/((r:Int)==65533)=true/\((z:Int)==1)=false:=by
     by_cases U:r=65533
     ·refine F5 ⟨t_,?_⟩
      simp;intro e;exact B ⟨U,o_⟩
     ·exact F7 t_
    have F:(a.data.toList.drop k).length=a.size-k:=s_
    clear x g d o c C B F;by_cases n:r=10
    ·have e1:((r:Int)==10)=true:=t_
     have Q:((r:Int)==65533)=false:=t_
     have s:Hid (aS (a.data.toList.take (k+z))=L+1):=by show _=_;rw[m.out,if_pos n]
     clear p n m;go_wp2_with fail;refine u.out.mono ?_;rintro e K ⟨rfl,b⟩;have i:=aB (t.out.trans (b.mono t.out.size));clear b u;go_wp2_with fail;go_roundg j
     case measure=>omega
     case rel=>exact⟨k+z,f,o_,o_,o_,by go_num,by rw[s.out];go_num,i.out,v⟩
    ·have e1:((r:Int)==10)=false:=t_
     have s:Hid (aS (a.data.toList.take (k+z))=L):=by show _=_;rw[m.out,if_neg n];rfl
     clear n m;rcases p with Q|⟨Q,e3⟩
     all_goals
      go_wp2_with fail;refine u.out.mono ?_;rintro e K ⟨rfl,b⟩;have i:=aB (t.out.trans (b.mono t.out.size));clear b u;go_wp2_with fail;go_roundg j
      case measure=>omega
      case rel=>exact⟨k+z,f,o_,o_,o_,by go_num,by rw[s.out],i.out,v⟩
  ·have v:Hid (X=none):=by show _=_;rw[x.out,II _ _ _ t_]
   have N:decide ((k:Int)<(a.size:Int))=false:=decide_eq_false o_
   clear x D;generalize aS (a.data.toList.take k)=L at*;go_wp2_with fail;go_end0;rw[v.out];exact⟨t.out,rfl⟩
structure gV(w:World):Prop where
 n:NTabs w
 p:PTabs w
 u:Lib.Utf8Tabs 4 5 w
def gV.below(h:gV w)(a:Below w.heap.size w w'):gV w':=
 ⟨h.n.fr (sb:=w.heap.size) ⟨a.os,a.tape,a.output,a.size,λk b _=>a.block k b⟩ h.n.big,h.p.fr (sb:=w.heap.size) ⟨a.os,a.tape,a.output,a.size,λk b _=>a.block k b⟩ h.n.big,xR h.u a h.n.big⟩
def FineA.kid{m:Nat}{f k:aC}(h:Hs.FineA m f)(a:k∈f.y_):Hs.FineA m k:=λd=>by
 have b:=h (d+1);refine⟨?_,b.2.2 k a⟩;have c:=b.1;rw[cG] at c;have:=rL (f:=cG d) a;omega
def FineA.y_{m:Nat}{f:aC}(h:Hs.FineA m f)(d:Nat):f.y_.length<=m/\(f.y_.map (cG d)).sum<=m:=by
 have b:=(h (d+1)).1;have a:=(h 2).1;rw[cG] at b a;have c:f.y_.length<=(f.y_.map (cG 1)).sum:=kX 0 f.y_;exact⟨o_,o_⟩
def mG(l:List UInt8):Except (Nat × Nat) (List aR):=
 if 2000<l.length then .error (1,0)
 else match dA l.length l 0 with
  |some k=>.error (2,aS (l.take k))
  |none=>
   match eU l with
   |.error n=>.error (3,n)
   |.ok ts=>.ok ts
def yY(l:List UInt8):dK l=match mG l with
 |.error f=>.error f
 |.ok a=>match jS a with
  |.error n=>.error (4,n)
  |.ok (b,_)=>.ok b:=by
 unfold dK mG;by_cases h:2000<l.length
 ·rw[if_pos h,if_pos h]
 ·rw[if_neg h,if_neg h];cases dA l.length l 0 with
  |some k=>rfl
  |none=>
   cases eU l with
   |error n=>rfl
   |ok a=>rfl
def xA{ts:List aR}(h:mG l=.ok ts):eU l=.ok ts/\l.length<=2000:=by
 unfold mG at h;split at h
 ·cases h
 ·split at h
  ·cases h
  ·split at h
   ·cases h
   ·cases h;exact⟨by assumption,o_⟩
def CN{f:Nat × Nat}(h:mG l=.error f):f.1≠0:=by
 unfold mG at h;split at h
 ·cases h;simp
 ·split at h
  ·cases h;simp
  ·split at h
   ·cases h;simp
   ·cases h
def ML(l:List UInt8)(w:World)(e:Ending)(w':World):Prop:=
 Below w.heap.size w w'/\
  match mG l with
  |.error f=>e=cH f.1 f.2
  |.ok ts=>∃v,e=.returned (.agg #[v,.int .i64 0])/\w'.ownsRow w.heap.size 150 4 v ts.length (ptoks ts)
def CW(l:List UInt8)(w:World)(e:Ending)(w':World):Prop:=
 Below w.heap.size w w'/\((dE l=(0,0)/\∃v ks,e=.returned v/\dK l=.ok ks/\FSl (Btw w.heap.size w'.heap.size) w' v ks)\/((dE l).1≠0/\e=cH (dE l).1 (dE l).2))
def MX{ks:List aC}(d:Nat)(h:pK ks=false)(b:∀f∈ks,1<=f.y_.length):kH d ks=(5,0):=by
 unfold kH;unfold pK iR at h;cases a:dL ks [109,97,105,110] with
 |none=>rfl
 |some m=>
  rw[a] at h;have g:=b m (M4 a)
  have c:¬m.y_.length-1=0:=by
   intro e;rw[show (([109,97,105,110]:List UInt8)==[108,101,110])=false by decide,show (([109,97,105,110]:List UInt8)==[114,101,97,100])=false by decide] at h
   simp[e] at h
  show (if 1<m.y_.length then _ else _)=_
  rw[if_pos o_]
def WI{ks:List aC}(d:Nat)(h:pK ks=true):kH d ks=((eO ks d [] ks ⟨[],0,0⟩).kind,(eO ks d [] ks ⟨[],0,0⟩).l_):=by
 unfold kH;unfold pK iR at h;rw[show (([109,97,105,110]:List UInt8)==[108,101,110])=false by decide,show (([109,97,105,110]:List UInt8)==[114,101,97,100])=false by decide] at h
 cases a:dL ks [109,97,105,110] with
 |none=>rw[a] at h;simp at h
 |some m=>
  rw[a] at h;simp at h;show (if 1<m.y_.length then _ else _)=_
  rw[if_neg o_]
def FSl.grow{G:Nat->Prop}(h:FSl F w v fs)(e:∀b,F b->w'.heap[b]?=w.heap[b]?)(f:∀b,F b->G b):FSl G w' v fs:=by
 rcases h with h|⟨g,a,c,n,j,d,l,i,k,m⟩
 ·exact F7 h
 ·exact F5 ⟨g,a,c,n,j,f g d,by rw[e g d];exact l,i,k,m.mono λ_ _ h=>h.keep e f⟩
def VQ{ts:List aR}(h:w.ownsRow b 150 4 v ts.length (ptoks ts))(k:0<ts.length):∃g c a,v=.slice (some ⟨g,0,none⟩) ts.length c/\b<=g/\ts.length<=c/\w.heap[g]?=some (.cells a 150 (0,0))/\a.toList.take (ts.length*4)=ptoks ts:=by
 rcases h.2 with ⟨e,d⟩|⟨g,c,a,e,d,i,f,m,l,j⟩
 ·omega
 ·exact⟨g,c,a,e,d,f,i,j⟩
def sU(b:ByteArray)(w:World)(Y:gV w)(hs:b.size<=maxLen):
 Calls prog 42 #[.string b] w (ML b.data.toList w):=by
 have K:b.data.toList.length=b.size:=s_
 obtain⟨l,U⟩:=E_ (b.data.toList);rw[<-U] at K ⊢
 obtain⟨E,s⟩:=E_ (w.alloc (.cells #[.slice none 0 0,.int .i64 0] 101));have D:Below w.heap.size w E:=by rw[s];exact(F9 _ _).alloc (F6 _) _
 have q:E.heap[w.heap.size]?=some (.cells #[.slice none 0 0,.int .i64 0] 101 (0,0)):=by rw[s];exact aU _ _ rfl _
 have Z:E.heap.size=w.heap.size+1:=by rw[s];simp
 have H:=aB (NN b E hs);have HL:=aB U;have O:=aB (Y.below D);have f:=aB D;have V:=aB q;have P:=aB s;clear U Y D q s;go_enter func42,ntmps42;go_wp2_with fail;rw[<-P.out];refine H.out.mono ?_;rintro e W ⟨S,⟨C,rfl⟩|⟨C,rfl⟩⟩
 rotate_left
 ·obtain rfl:=S.symm
  have B:Hid (mG l=.error (1,0)):=by
   show _=_
   unfold mG;rw[if_pos o_]
  go_wp2_with fail;exact⟨rfl,f.out,by rw[B.out];rfl⟩
 obtain rfl:=S.symm;have N:=aB (ZE b E O.out.u O.out.n.big C);rw[<-HL.out,<-K] at N;have A:¬2000<l.length:=o_
 clear S H;go_wp2_with fail;refine N.out.mono ?_;rintro e W ⟨o,z⟩;cases m:dA l.length l 0 with
 |some k=>
  rw[m] at z;obtain rfl:e=cH 2 (aS (l.take k)):=z;have B:Hid (mG l=.error (2,aS (l.take k))):=by show _=_;unfold mG;rw[if_neg A,m]
  have d:=aB (f.out.trans (o.mono f.out.size));clear o N m;go_wp2_with fail;exact⟨rfl,d.out,by rw[B.out];rfl⟩
 |none=>
  rw[m] at z;obtain rfl:e=.returned (.tuple #[]):=z;have t:=aB (VN b W (O.out.below o).n (O.out.below o).p C);rw[<-HL.out] at t;have d:=aB o
  have M:mG l=match eU l with
   |.error n=>.error (3,n)
   |.ok L=>.ok L:=by unfold mG;rw[if_neg A,m]
  have u:=aB M;clear o N m M;go_wp2_with fail;refine t.out.mono ?_;rintro e w2 ⟨r,y⟩;cases j:eU l with
  |error n=>
   rw[j] at y;obtain rfl:e=cH 3 n:=y;have B:Hid (mG l=.error (3,n)):=by show _=_;rw[u.out,j]
   have F:=aB (f.out.trans ((d.out.trans (r.mono d.out.size)).mono f.out.size));clear r t j u;go_wp2_with fail;exact⟨rfl,F.out,by rw[B.out];rfl⟩
  |ok L=>
   rw[j] at y;obtain⟨v,rfl,p⟩:=y
   obtain⟨x,c,rfl⟩:∃x c,v=.slice x L.length c:=by
    rcases p.2 with ⟨G,r2⟩|⟨g,I,J,G,_⟩
    ·exact⟨none,0,by rw[G,r2]⟩
    ·exact⟨_,_,G⟩
   have B:Hid (mG l=.ok L):=by show _=_;rw[u.out,j]
   have X:=d.out.size
   have a:w2.heap[w.heap.size]?=some (.cells #[.slice none 0 0,.int .i64 0] 101 (0,0)):=by
    rw[r.block _ o_,d.out.block _ o_];exact V.out
   have aa:=aD a;have m0:=aA a (i:=0) rfl;have m1:=aA a (i:=1) rfl;have fz:=aE a (i:=0);have ab:=aE a (i:=1);have F:=aB (f.out.trans ((d.out.trans (r.mono d.out.size)).mono f.out.size));have Q:=aB p;clear p r t j u a;go_wp2_with fail;refine bodyPost_ret (v:=.agg #[.slice x L.length c,.int .i64 0]) (by simp[results,results42,go_sem,m0,m1]) rfl ?_
   refine⟨(F.out.setCell s_ _).setCell s_ _,?_⟩
   rw[B.out];refine⟨_,rfl,?_⟩;have T:=Q.out;rcases T.2 with hn|⟨g,I,J,G,r2,r3,r4⟩
   ·exact⟨T.1,F7 hn⟩
   ·refine⟨T.1,F5 ⟨g,I,J,G,o_,?_,r4⟩⟩
    rw[G0 _ _ _ _ (by show g≠w.heap.size;omega),G0 _ _ _ _ (by show g≠w.heap.size;omega)]
    exact r3
def RS(B:ByteArray)(w:World)(hT:gV w)(hs:B.size<=maxLen):
 Calls prog 24 #[.string B] w (CW B.data.toList w):=by
 have H:=aB (sU B w hT hs);obtain⟨l,hl⟩:=E_ (B.data.toList);rw[<-hl] at H ⊢
 clear hl hT;go_enter func24,ntmps24;go_wp2_with fail;refine H.out.mono ?_;rintro e F ⟨K,O⟩
 cases j:mG l with
  |error f=>
   rw[j] at O;obtain rfl:e=cH f.1 f.2:=O;have S:Hid (dE l=f):=by show _=_;unfold dE;rw[yY,j]
   have HK:=aB (CN j);have z:=aB K;clear K H j;go_wp2_with fail;exact⟨rfl,z.out,by rw[S.out];exact F5 ⟨HK.out,rfl⟩⟩
  |ok I=>
   rw[j] at O;obtain⟨v,rfl,P⟩:=O;have V:=(xA j).1;have aq:=(xA j).2;have i:=lX V
   have ad:dK l=match jS I with
    |.error n=>.error (4,n)
    |.ok (d,_)=>.ok d:=by rw[yY,j]
   have J:=aB ad;obtain⟨g,p,aj,rfl,hg,Z,E,Q⟩:=VQ P i.1.some_;have ak:=aD E
   have ag:PAt ⟨F.heap.size,g,p,I⟩ (F.alloc (.cells #[.slice (some ⟨g,0,none⟩) I.length p,.int .i64 0] 101)) 0:=
    ⟨aU _ _ rfl _,⟨aj,cV _ _ ak _ E,Q⟩,by show g≠F.heap.size;omega,i.1.some_,by show I.length<=3000;omega,Z,i.1,vE V⟩
   have HP:=aB (IT ⟨F.heap.size,g,p,I⟩ (F.alloc (.cells #[.slice (some ⟨g,0,none⟩) I.length p,.int .i64 0] 101)) ag (bG.prog i.1.ok i.1.some_));have z:=aB K;clear P K H j V ad ag E Q i;go_wp2_with fail;refine HP.out.mono ?_;rintro e w3 ⟨o,M⟩;have T:Below F.heap.size F w3:=⟨o.os.trans rfl,o.tape.trans rfl,o.output.trans rfl,G6 s_ o.size,λk hk=>by rw[o.block k t_ (by show k≠F.heap.size;omega)];exact G7 _ _ _ hk⟩
   have C:=aB (z.out.trans (T.mono z.out.size));cases s:jS I with
   |error n=>
    rw[s] at M;obtain rfl:e=cH 4 n:=M;have S:Hid (dE l=(4,n)):=by show _=_;unfold dE;rw[J.out,s]
    clear o T HP s J;go_wp2_with fail;exact⟨rfl,C.out,by rw[S.out];exact F5 ⟨s_,rfl⟩⟩
   |ok kq=>
    obtain⟨d,q⟩:=kq;rw[s] at M;obtain⟨_,v3,rfl,af⟩:=M;have L:dK l=.ok d:=by rw[J.out,s]
    have a:=EW L;have S:Hid (dE l=kH 2001 d):=by show _=_;unfold dE;rw[L]
    have ar:=FineL.len a;have U:∀f∈d,f.y_.length<=90000:=λf hf=>by have:=(FineA.y_ (FineL.mem a hf) 0).1;omega
    have ae:∀f∈d,∀k∈f.y_,eM 2001 k:=λf hf k hk=>qY 2001 k (FineA.kid (FineL.mem a hf) hk)
    have ab:∀f∈d,f.y_.length+(f.y_.map (cG 2001)).sum<=90000:=λf hf=>by have:=FineA.y_ (FineL.mem a hf) 2001;omega
    have y:FSl (Btw (F.alloc (.cells #[.slice (some ⟨g,0,none⟩) I.length p,.int .i64 0] 101)).heap.size w3.heap.size) w3 v3 d:=af
    obtain⟨fx,fc,rfl⟩:∃x c,v3=.slice x d.length c:=by
     rcases y.cells with ⟨h1,h2⟩|⟨g,p,h1,_⟩
     ·exact⟨none,0,by rw[h1,h2];rfl⟩
     ·exact⟨_,_,h1⟩
    have Y:=aB y.y_;have HM:=aB (OJ d _ _ w3 o_ U y)
    have X:=aB y;have ac:=aB U;have ai:=aB ae;have aa:=aB ab;have al:=aB L;clear o T HP s J af L a U ae ab y;go_wp2_with fail;refine HM.out.mono ?_;rintro e w4 ⟨m,⟨A,rfl⟩|⟨A,rfl⟩⟩
    rotate_left
    ·have t:=aB (C.out.trans (m.mono C.out.size));have N:Hid (dE l=(5,0)):=by show _=_;rw[S.out,MX 2001 A Y.out]
     clear m A HM;go_wp2_with fail;exact⟨rfl,t.out,by rw[N.out];exact F5 ⟨d_,rfl⟩⟩
    have t:=aB (C.out.trans (m.mono C.out.size));have N:Hid (dE l=((eO d 2001 [] d ⟨[],0,0⟩).kind,(eO d 2001 [] d ⟨[],0,0⟩).l_)):=by show _=_;rw[S.out,WI 2001 A]
    have HN:=aB (KR (F.alloc (.cells #[.slice (some ⟨g,0,none⟩) I.length p,.int .i64 0] 101)).heap.size d (.slice fx d.length fc) w4 2001 o_ ac.out (X.out.grow (λb r=>m.block b r.2) λb r=>⟨r.1,G3 r.2 m.size⟩) ai.out aa.out)
    have am:=aB (X.out.grow (G:=Btw w.heap.size w4.heap.size) (λb r=>m.block b r.2) λb r=>⟨by have h1:=r.1;have h2:=z.out.size;simp at h1;omega,G3 r.2 m.size⟩)
    clear m A HM S ac ai aa Y X;generalize (eO d 2001 [] d ⟨[],0,0⟩).kind=kd at*;generalize (eO d 2001 [] d ⟨[],0,0⟩).l_=ld at*;go_wp2_with fail;refine HN.out.mono ?_;rintro e w5 ⟨u,⟨D,ah,rfl⟩|⟨D,rfl⟩⟩
    ·have W:=aB (t.out.trans (u.mono t.out.size));have ap:Hid (dE l=(0,0)):=by show _=_;rw[N.out,D,ah]
     have an:=aB (am.out.grow (G:=Btw w.heap.size w5.heap.size) (λb r=>u.block b r.2) λb r=>⟨r.1,G3 r.2 u.size⟩)
     clear u D ah HN;go_wp2_with fail;go_ret;exact⟨W.out,F7 ⟨ap.out,_,d,rfl,al.out,an.out⟩⟩
    ·have W:=aB (t.out.trans (u.mono t.out.size));have ao:=aB D;clear u D HN;go_wp2_with fail;exact⟨rfl,W.out,by rw[N.out];exact F5 ⟨ao.out,rfl⟩⟩
def pL{o:Obj}(h:w.heap[b]?=some o):b<w.heap.size:=by
 rcases J8 b w.heap.size with a|a
 ·exact a
 ·rw[K7 a] at h;cases h
def jU{c:Array Value}(h:w.heap[b]?=some (.cells c e (0,0)))(a:c[i]?=some v):w.cell? ⟨b,i,none⟩=some v:=by
 simp[World.cell?,h,a]
def nI{c:Array Value}(h:w.heap[b]?=some (.cells c e (0,0))):w.frozen? ⟨b,i,none⟩=false:=by
 simp[World.frozen?,h]
def YL(p q k n:Nat)(w:World)(b:w.heap[p]?=some (.cells #[.int .i64 0] 22 (0,0)))(c:w.heap[q]?=some (.cells #[.int .i64 0] 3 (0,0)))(a:p<q):
 Below p w (((w.setCell ⟨p,0,none⟩ (.int .i64 k)).setCell ⟨q,0,none⟩ (.int .i64 n)).alloc (.cells #[.int .i64 k,.int .i64 n] 98)).drew
 /\(((w.setCell ⟨p,0,none⟩ (.int .i64 k)).setCell ⟨q,0,none⟩ (.int .i64 n)).alloc (.cells #[.int .i64 k,.int .i64 n] 98)).drew.cell? ⟨p,0,none⟩=some (.int .i64 k)
 /\(((w.setCell ⟨p,0,none⟩ (.int .i64 k)).setCell ⟨q,0,none⟩ (.int .i64 n)).alloc (.cells #[.int .i64 k,.int .i64 n] 98)).drew.cell? ⟨q,0,none⟩=some (.int .i64 n):=by
 have j:w.cell? ⟨p,0,none⟩=some (.int .i64 0):=jU b rfl;have m:w.cell? ⟨q,0,none⟩=some (.int .i64 0):=jU c rfl;have e:=pL b;have g:=pL c;have i:¬p=q:=o_
 have l:¬q=p:=o_
 have f:¬p=w.heap.size:=o_
 have d:¬q=w.heap.size:=o_
 refine⟨((((F9 p w).setCell (F6 p) _).setCell (M6 a) _).alloc t_ _).drew,?_,?_⟩
 ·simp[go_sem,j,e]
 ·simp[go_sem,m,g]
def VL(p q k n:Nat)(w:World)(b:w.heap[p]?=some (.cells #[.int .i64 0] 22 (0,0)))(c:w.heap[q]?=some (.cells #[.int .i64 0] 3 (0,0)))(a:p<q):
 Below p w (((w.setCell ⟨q,0,none⟩ (.int .i64 n)).setCell ⟨p,0,none⟩ (.int .i64 k)).alloc (.cells #[.int .i64 k,.int .i64 n] 98)).drew
 /\(((w.setCell ⟨q,0,none⟩ (.int .i64 n)).setCell ⟨p,0,none⟩ (.int .i64 k)).alloc (.cells #[.int .i64 k,.int .i64 n] 98)).drew.cell? ⟨p,0,none⟩=some (.int .i64 k)
 /\(((w.setCell ⟨q,0,none⟩ (.int .i64 n)).setCell ⟨p,0,none⟩ (.int .i64 k)).alloc (.cells #[.int .i64 k,.int .i64 n] 98)).drew.cell? ⟨q,0,none⟩=some (.int .i64 n):=by
 have j:w.cell? ⟨p,0,none⟩=some (.int .i64 0):=jU b rfl;have m:w.cell? ⟨q,0,none⟩=some (.int .i64 0):=jU c rfl;have e:=pL b;have g:=pL c;have i:¬p=q:=o_
 have l:¬q=p:=o_
 have f:¬p=w.heap.size:=o_
 have d:¬q=w.heap.size:=o_
 refine⟨((((F9 p w).setCell (M6 a) _).setCell (F6 p) _).alloc t_ _).drew,?_,?_⟩
 ·simp[go_sem,j,e]
 ·simp[go_sem,m,g]
def YU(v:Value)(w:World):(typeAssert (.iface 98 v) 20 98 true).run prog w=.ok (.tuple #[v,.bool true]) w:=k_
def KU(p q k n:Nat)(a:List PanicEntry)(w:World)(c:w.heap[p]?=some (.cells #[.int .i64 0] 22 (0,0)))(b:w.heap[q]?=some (.cells #[.int .i64 0] 3 (0,0)))(d:p<q):
 CallsD prog 41 #[.pointer (some ⟨p,0,none⟩),.pointer (some ⟨q,0,none⟩)] (.panicking ({ v:=.iface 98 (.agg #[.int .i64 k,.int .i64 n]),recovered:=false }::a)) w λe x f=>
  e=.returned (.tuple #[])/\x=.panicking ({ v:=.iface 98 (.agg #[.int .i64 k,.int .i64 n]),recovered:=true }::a)/\Below p w f/\f.cell? ⟨p,0,none⟩=some (.int .i64 k)/\f.cell? ⟨q,0,none⟩=some (.int .i64 n):=by
 have I:=jU c (i:=0) rfl;have F:=jU b (i:=0) rfl;have C:=nI (i:=0) c;have D:=nI (i:=0) b;have G:=pL c;have H:=pL b;have B:=YU;refine callsD_of_wpS func41 rfl λs E z=>?_
 apply wpS_seq
 apply wpS_region
 simp[wpOpsS,go_sem,recoverD,z,ntmps41,Exit.thenS];refine wpS_of_wp ?_;have u:¬p=q:=o_
 have A:¬q=p:=o_
 have y:¬p=w.heap.size:=o_
 have t:¬q=w.heap.size:=o_
 obtain⟨r,l,o⟩:=YL p q k n w c b d;obtain⟨g,m,j⟩:=VL p q k n w c b d;clear c b;go_wp2_with fail;go_region
 all_goals
  go_wp2_with fail;first
  |exact⟨rfl,_,rfl,.tuple #[],by simp[results,results41],rfl,rfl,r,l,o⟩
  |exact⟨rfl,_,rfl,.tuple #[],by simp[results,results41],rfl,rfl,g,m,j⟩
def OP(p q:Addr)(w:World):
 CallsD prog 41 #[.pointer (some p),.pointer (some q)] .returning w λe d c=>e=.returned (.tuple #[])/\d=.returning/\c=w:=by
 refine callsD_of_wpS func41 rfl λa f b=>?_
 apply wpS_seq
 apply wpS_region
 simp[wpOpsS,go_sem,recoverD,b,ntmps41,Exit.thenS];refine wpS_of_wp ?_;go_wp2_with fail;exact⟨rfl,a.mode,rfl,.tuple #[],by simp[results,results41],rfl,b,rfl⟩
def jF(w:World)(o a:Obj):((w.alloc o).alloc a).heap[w.heap.size]?=some o:=by
 rw[G7 _ _ _ s_]
 show (w.heap.push o)[w.heap.size]?=_
 rw[Array.getElem?_push,if_pos rfl]
def iC(w:World)(o a:Obj):((w.alloc o).alloc a).heap[w.heap.size+1]?=some a:=by
 show ((w.alloc o).heap.push a)[w.heap.size+1]?=_
 rw[Array.getElem?_push,if_pos s_]
def zB(b:Fn)(first a:Array Value)(w:World):(Instr.makeFunc b first a).run prog w=.ok (.func b first a) w:=rfl
end Go.Proofs.YthbffcmfmjpncaaGreatDoor
