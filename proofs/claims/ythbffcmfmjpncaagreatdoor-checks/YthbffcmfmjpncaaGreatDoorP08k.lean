/- Contracts of the program: strings and marks. -/
import Derived.Test.YthbffcmfmjpncaaGreatDoorB02k
import Derived.Test.YthbffcmfmjpncaaGreatDoorP07k
set_option linter.defProp false
set_option maxRecDepth 100000
set_option maxHeartbeats 4000000
namespace Go.Proofs.YthbffcmfmjpncaaGreatDoor
open Hs
open _root_.Go.Proofs.Tryz
open Instr(typeAssert)
open Go.RowKit
variable{l:List UInt8}{b i:Nat}{F:Nat->Prop}{e:TypeId}{v:Value}{w w':World}{a:aC}{s:aQ}
abbrev ZTok(w:World)(b:Nat):Prop:=w.heap[b]?=some (.cells #[.int .i64 0,.string ⟨#[]⟩,.int .i64 0,.int .i64 0] 150 (0,0))
def AH(sb:Nat)(a:ByteArray)(n L:Nat)(w:World)(h:SC sb a n L w)(hs:a.size<=2000000000)(hn:n<a.size):
 Calls prog 178 #[.pointer (some ⟨sb,0,none⟩)] w (EY sb a n L w (iQ (a.data.toList.drop (n+1)))):=by
 obtain⟨m,Y⟩:=E_ (n+1);rw[<-Y];obtain⟨f,y⟩:=E_ (aP cL (a.data.toList.drop m))
 have ak:f<=a.size-m:=by
  have:=fG cL (a.data.toList.drop m);rw[y];simpa using this
 obtain⟨k,hk⟩:=E_ (m+f);have ad:=(SC.cells h).1;have z:w.heap.size≠sb:=o_
 have h1:SC sb a n L (w.alloc (.cells #[.int .i64 0,.string ⟨#[]⟩,.int .i64 0,.int .i64 0] 150)):=by unfold SC;rw[JZ _ _ _ ad];exact h
 have HZ:Hid (ZTok (w.alloc (.cells #[.int .i64 0,.string ⟨#[]⟩,.int .i64 0,.int .i64 0] 150)) w.heap.size):=aW _ _ rfl _;have K:=aA (iD sb a n L 1 (w.alloc (.cells #[.int .i64 0,.string ⟨#[]⟩,.int .i64 0,.int .i64 0] 150)) h1 hs o_)
 rw[<-Y] at K;have E:=aA (λw=>lV cL 219 (λ_ _=>rfl) uK (a.extract m a.size) w (by rw[kD];omega))
 rw[gY,<-y] at E;obtain⟨B,s⟩:=E_ ((a.data.toList.drop m).take f);have af:(bs B).size=f:=by rw[eS,s,KH];simp;omega
 obtain⟨ok,b⟩:=E_ ((decide ((a.data.toList.drop m)[f]?=some 34) && decide (f<=100)))
 have HW:Hid (iQ (a.data.toList.drop m)={ sort:=115,x_:=B,size:=f+2,ok:=ok }):=by
  show _=_
  unfold iQ;rw[<-y,<-s,<-b]
 rw[HW.out];have ab:=aA s;have g:=aA b;have P:Hid (Fr sb w (w.alloc (.cells #[.int .i64 0,.string ⟨#[]⟩,.int .i64 0,.int .i64 0] 150))):=(Fr.refl _ _).alloc _;have HM:=aA Y;have O:=aA hk;have ah:m<=a.size:=o_
 have ag:k<=a.size:=o_
 clear h h1 y s HW b Y hk;generalize c:({ sort:=115,x_:=B,size:=f+2,ok:=ok }:gF)=rr;have j:=aA c;clear c;go_enter func178,ntmps178;go_wp2_with fail;refine K.out.mono ?_;rintro e w1 ⟨rfl,J,M⟩;have T:=aA (M.keepS HZ.out z);have HZ1d:Hid (ZTok w1.drew w.heap.size):=T.out;have t:=aA (iD sb a m L f w1.drew J hs o_)
 rw[<-O.out] at t;rw[<-ab.out] at t;have N:=aA (P.out.trans M);obtain⟨h0,c0,X,V,Z,W⟩:=J.cells;clear J M K HZ P;go_wp2_with fail;go_cut [3] (λv wc=>v=.string (bs B)/\SC sb a (k) L wc/\Fr sb w wc/\ZTok wc w.heap.size)
 case first=>
  go_region_law (first|(go_simp;go_at_call 172;refine(E.out _).mono ?_;rintro e w2 ⟨rfl,I⟩;obtain rfl:=I.symm)|(go_simp;go_at_call 214;refine t.out.mono ?_;rintro e w2 ⟨rfl,o,p⟩;have u:=aA o;have r:=aA (N.out.drew.trans p);have x:=aA (p.keepS HZ1d.out z);clear o p))
  all_goals
   go_wp2_with fail;go_meet
   case rel=>exact⟨rfl,u.out,r.out,x.out⟩
 case rest=>
  obtain⟨rfl,o,p,Q⟩:=hcut;clear c0 X V Z W h0;obtain⟨h0,c0,X,V,Z,W⟩:=o.cells;have u:=aA o;have r:=aA p;have x:=aA Q;clear o p Q t E T HZ1d N;have H:=aA (λq=>kC sb a (k) L (wc.drewN q) u.out)
  by_cases A:f<=100
  rotate_left
  ·have e1:decide ((100:Int)<(f:Int))=true:=decide_eq_true o_
   have b:ok=false:=by rw[g.out,decide_eq_false A,Bool.and_false]
   subst b;have c:=j.out;clear j g;subst c;go_wp2_with fail;go_quiet (fail)
   go_wp2_with fail;refine(H.out _).mono ?_;rintro e w3 ⟨rfl,I⟩;obtain rfl:=I.symm;go_wp2_with fail;exact⟨rfl,r.out.drewN _,JR ⟨rfl,rfl⟩⟩
  have e1:decide ((100:Int)<(f:Int))=false:=decide_eq_false o_
  by_cases ai:k=a.size
  ·have e2:((k:Int)==(a.size:Int))=true:=t_
   have b:ok=false:=by
    rw[g.out,KI (by have:=O.out;simp;omega)];simp
   subst b;have c:=j.out;clear j g;subst c;go_wp2_with fail;go_quiet (fail)
   go_wp2_with fail;refine(H.out _).mono ?_;rintro e w3 ⟨rfl,I⟩;obtain rfl:=I.symm;go_wp2_with fail;exact⟨rfl,r.out.drewN _,JR ⟨rfl,rfl⟩⟩
  have aa:k<a.size:=o_
  have e2:((k:Int)==(a.size:Int))=false:=t_
  have hb:(a[k].toNat:Int)<=255:=dC _
  have l:(a.data.toList.drop m)[f]?=some a[k]:=by
   have e:=iB a m f (by rw[<-O.out];exact aa)
   rw[e];congr 1
   simp only[O.out]
  by_cases F:a[k].toNat=34
  ·have b:ok=true:=by
    rw[g.out,l,decide_eq_true A,Bool.and_true];exact decide_eq_true (congrArg some (LR.1 F))
   subst b;have c:=j.out;clear j g l;subst c;have S:((a[k].toNat:Int) != 34)=false:=t_
   have aj:w.heap.size<wc.heap.size:=aD x.out;have U:=aA (λq=>iD sb a (k) L 1 (wc.drewN q) u.out hs o_)
   clear F;go_wp2_with fail;go_quiet (fail)
   go_wp2_with fail;refine(U.out _).mono ?_;rintro e w3 ⟨rfl,D,G⟩;have d:=aA ((((Fr.refl sb wc).drewN _).trans G).keepS x.out z);have ae:=aA ((r.out.drewN _).trans G);have ac:=aA D;have z0:=aB d.out (i:=0) rfl;have z1:=aB d.out (i:=1) rfl;have z2:=aB d.out (i:=2) rfl;have z3:=aB d.out (i:=3) rfl;have y0:=aI (i:=0) d.out;have y1:=aI (i:=1) d.out;have y2:=aI (i:=2) d.out;have y3:=aI (i:=3) d.out;have al:=aD d.out;clear c0 X V Z W h0;obtain⟨h0,c0,X,V,Z,W⟩:=D.cells;clear D G U;go_wp2_with fail;refine bodyPost_ret (v:=.agg #[.int .i64 3,.string (bs B),.int .i64 0,.int .i64 L]) (by simp[results,results178,go_sem,z0,z1,z2,z3]) rfl ?_
   have C:=gH ae.out ac.out (JS _) z (.int .i64 3) (.string (bs B)) (.int .i64 0) (.int .i64 L);exact⟨C.1,JX ⟨rfl,rfl,by rw[show n+(f+2)=k+1 by have:=HM.out;have:=O.out;omega];exact C.2⟩⟩
  ·have b:ok=false:=by
    rw[g.out,l,decide_eq_false (λe=>F (by rw[Option.some.inj e];rfl))];rfl
   subst b;have c:=j.out;clear j g l;subst c;have S:((a[k].toNat:Int) != 34)=true:=t_
   go_wp2_with fail;go_quiet (fail)
   go_wp2_with fail;refine(H.out _).mono ?_;rintro e w3 ⟨rfl,I⟩;obtain rfl:=I.symm;go_wp2_with fail;exact⟨rfl,r.out.drewN _,JR ⟨rfl,rfl⟩⟩
structure PTabs(w:World):Prop where
 tab:∃t fr,w.heap[(6:Nat)]?=some (.cells #[.string ⟨#[61,61]⟩,.string ⟨#[33,61]⟩,.string ⟨#[60,61]⟩,.string ⟨#[38,38]⟩,.string ⟨#[124,124]⟩,.string ⟨#[40]⟩,.string ⟨#[41]⟩,.string ⟨#[123]⟩,.string ⟨#[125]⟩,.string ⟨#[91]⟩,.string ⟨#[93]⟩,.string ⟨#[44]⟩,.string ⟨#[59]⟩,.string ⟨#[61]⟩,.string ⟨#[60]⟩,.string ⟨#[43]⟩,.string ⟨#[45]⟩,.string ⟨#[42]⟩,.string ⟨#[47]⟩,.string ⟨#[37]⟩,.string ⟨#[33]⟩] t fr)
 big:11<=w.heap.size
def PTabs.fr{sb:Nat}(h:PTabs w)(a:Fr sb w w')(d:11<=sb):PTabs w':=by
 obtain⟨t,c,b⟩:=h.tab;have:=h.big;have:=a.size;exact⟨⟨t,c,by rw[a.block 6 o_ o_];exact b⟩,o_⟩
abbrev eF:Value:=.agg #[.string ⟨#[61,61]⟩,.string ⟨#[33,61]⟩,.string ⟨#[60,61]⟩,.string ⟨#[38,38]⟩,.string ⟨#[124,124]⟩,.string ⟨#[40]⟩,.string ⟨#[41]⟩,.string ⟨#[123]⟩,.string ⟨#[125]⟩,.string ⟨#[91]⟩,.string ⟨#[93]⟩,.string ⟨#[44]⟩,.string ⟨#[59]⟩,.string ⟨#[61]⟩,.string ⟨#[60]⟩,.string ⟨#[43]⟩,.string ⟨#[45]⟩,.string ⟨#[42]⟩,.string ⟨#[47]⟩,.string ⟨#[37]⟩,.string ⟨#[33]⟩]
def BQ(w:World):(Instr.index 226 eF (.int .i64 0)).run prog w=.ok (.string ⟨#[61,61]⟩) w:=k_
def BP(w:World):(Instr.index 226 eF (.int .i64 1)).run prog w=.ok (.string ⟨#[33,61]⟩) w:=k_
def BO(w:World):(Instr.index 226 eF (.int .i64 2)).run prog w=.ok (.string ⟨#[60,61]⟩) w:=k_
def BN(w:World):(Instr.index 226 eF (.int .i64 3)).run prog w=.ok (.string ⟨#[38,38]⟩) w:=k_
def BM(w:World):(Instr.index 226 eF (.int .i64 4)).run prog w=.ok (.string ⟨#[124,124]⟩) w:=k_
def BL(w:World):(Instr.index 226 eF (.int .i64 5)).run prog w=.ok (.string ⟨#[40]⟩) w:=k_
def BK(w:World):(Instr.index 226 eF (.int .i64 6)).run prog w=.ok (.string ⟨#[41]⟩) w:=k_
def BJ(w:World):(Instr.index 226 eF (.int .i64 7)).run prog w=.ok (.string ⟨#[123]⟩) w:=k_
def BI(w:World):(Instr.index 226 eF (.int .i64 8)).run prog w=.ok (.string ⟨#[125]⟩) w:=k_
def BH(w:World):(Instr.index 226 eF (.int .i64 9)).run prog w=.ok (.string ⟨#[91]⟩) w:=k_
def yJ(w:World):(Instr.index 226 eF (.int .i64 10)).run prog w=.ok (.string ⟨#[93]⟩) w:=k_
def yI(w:World):(Instr.index 226 eF (.int .i64 11)).run prog w=.ok (.string ⟨#[44]⟩) w:=k_
def yH(w:World):(Instr.index 226 eF (.int .i64 12)).run prog w=.ok (.string ⟨#[59]⟩) w:=k_
def yG(w:World):(Instr.index 226 eF (.int .i64 13)).run prog w=.ok (.string ⟨#[61]⟩) w:=k_
def yF(w:World):(Instr.index 226 eF (.int .i64 14)).run prog w=.ok (.string ⟨#[60]⟩) w:=k_
def yE(w:World):(Instr.index 226 eF (.int .i64 15)).run prog w=.ok (.string ⟨#[43]⟩) w:=k_
def yD(w:World):(Instr.index 226 eF (.int .i64 16)).run prog w=.ok (.string ⟨#[45]⟩) w:=k_
def yC(w:World):(Instr.index 226 eF (.int .i64 17)).run prog w=.ok (.string ⟨#[42]⟩) w:=k_
def yB(w:World):(Instr.index 226 eF (.int .i64 18)).run prog w=.ok (.string ⟨#[47]⟩) w:=k_
def yA(w:World):(Instr.index 226 eF (.int .i64 19)).run prog w=.ok (.string ⟨#[37]⟩) w:=k_
def xZ(w:World):(Instr.index 226 eF (.int .i64 20)).run prog w=.ok (.string ⟨#[33]⟩) w:=k_
def DV(k:Nat)(a:k<21)(w:World):(Instr.index 226 eF (.int .i64 k)).run prog w=.ok (.string (bs (bC[k]'(by simpa [bC] using a)))) w:=by
 match k,a with
 |0,_=>exact BQ w
 |1,_=>exact BP w
 |2,_=>exact BO w
 |3,_=>exact BN w
 |4,_=>exact BM w
 |5,_=>exact BL w
 |6,_=>exact BK w
 |7,_=>exact BJ w
 |8,_=>exact BI w
 |9,_=>exact BH w
 |10,_=>exact yJ w
 |11,_=>exact yI w
 |12,_=>exact yH w
 |13,_=>exact yG w
 |14,_=>exact yF w
 |15,_=>exact yE w
 |16,_=>exact yD w
 |17,_=>exact yC w
 |18,_=>exact yB w
 |19,_=>exact yA w
 |20,_=>exact xZ w
 |k+21,h=>exact absurd h o_
def AN(sb:Nat)(a:ByteArray)(n L:Nat)(w:World)(h:SC sb a n L w)(O:PTabs w)(hs:a.size<=2000000000)(hn:n<a.size)(r:gF)(hr:Hid (dZ (a.data.toList.drop n)=r)):
 Calls prog 179 #[.pointer (some ⟨sb,0,none⟩)] w (EY sb a n L w r):=by
 have S:=(SC.cells h).1;have K:w.heap.size≠sb:=o_
 have aa:=O.big;have ah:n<=a.size:=o_
 have B:SC sb a n L (w.alloc (.cells #[.int .i64 0,.string ⟨#[]⟩,.int .i64 0,.int .i64 0] 150)):=by unfold SC;rw[JZ _ _ _ S];exact h
 have X:Hid (ZTok (w.alloc (.cells #[.int .i64 0,.string ⟨#[]⟩,.int .i64 0,.int .i64 0] 150)) w.heap.size):=aW _ _ rfl _;have H:Hid (Fr sb w (w.alloc (.cells #[.int .i64 0,.string ⟨#[]⟩,.int .i64 0,.int .i64 0] 150))):=(Fr.refl _ _).alloc _;obtain⟨tt,fr,l⟩:=O.tab;have d:(w.alloc (.cells #[.int .i64 0,.string ⟨#[]⟩,.int .i64 0,.int .i64 0] 150)).heap[(6:Nat)]?=_:=dO w 6 o_ _ l
 have p:(prog.info? 226).map (·.size)=some (#[.string ⟨#[61,61]⟩,.string ⟨#[33,61]⟩,.string ⟨#[60,61]⟩,.string ⟨#[38,38]⟩,.string ⟨#[124,124]⟩,.string ⟨#[40]⟩,.string ⟨#[41]⟩,.string ⟨#[123]⟩,.string ⟨#[125]⟩,.string ⟨#[91]⟩,.string ⟨#[93]⟩,.string ⟨#[44]⟩,.string ⟨#[59]⟩,.string ⟨#[61]⟩,.string ⟨#[60]⟩,.string ⟨#[43]⟩,.string ⟨#[45]⟩,.string ⟨#[42]⟩,.string ⟨#[47]⟩,.string ⟨#[37]⟩,.string ⟨#[33]⟩]:Array Value).size:=k_
 have y:∀(k:Nat) (Y:k<21) (w:World),(Instr.index 226 (.agg #[.string ⟨#[61,61]⟩,.string ⟨#[33,61]⟩,.string ⟨#[60,61]⟩,.string ⟨#[38,38]⟩,.string ⟨#[124,124]⟩,.string ⟨#[40]⟩,.string ⟨#[41]⟩,.string ⟨#[123]⟩,.string ⟨#[125]⟩,.string ⟨#[91]⟩,.string ⟨#[93]⟩,.string ⟨#[44]⟩,.string ⟨#[59]⟩,.string ⟨#[61]⟩,.string ⟨#[60]⟩,.string ⟨#[43]⟩,.string ⟨#[45]⟩,.string ⟨#[42]⟩,.string ⟨#[47]⟩,.string ⟨#[37]⟩,.string ⟨#[33]⟩]) (.int .i64 k)).run prog w=.ok (.string (bs (bC[k]'(by simpa [bC] using Y)))) w:=DV
 generalize (#[.string ⟨#[61,61]⟩,.string ⟨#[33,61]⟩,.string ⟨#[60,61]⟩,.string ⟨#[38,38]⟩,.string ⟨#[124,124]⟩,.string ⟨#[40]⟩,.string ⟨#[41]⟩,.string ⟨#[123]⟩,.string ⟨#[125]⟩,.string ⟨#[91]⟩,.string ⟨#[93]⟩,.string ⟨#[44]⟩,.string ⟨#[59]⟩,.string ⟨#[61]⟩,.string ⟨#[60]⟩,.string ⟨#[43]⟩,.string ⟨#[45]⟩,.string ⟨#[42]⟩,.string ⟨#[47]⟩,.string ⟨#[37]⟩,.string ⟨#[33]⟩]:Array Value)=Z at d p y;have HIXX:=aA y;have HTAB:=aA d;have U:=aA p;clear l d p y;have W:=aA B;clear h B O;go_enter func179,ntmps179;go_wp2_with (refine wpList_load_row rfl 226 (.global 6) rfl 6 r_ tt Z fr (.array 21 9) HTAB.out underlying226 rfl U.out ?_)
 go_loopg [4,6] 21 (λgk _ i wr=>∃k:Nat,k+gk=21/\i=.int .i64 k/\Hid (jU (a.data.toList.drop n) k)/\SC sb a n L wr/\Fr sb w wr/\ZTok wr w.heap.size)
 case atStart=>exact⟨0,o_,rfl,λo ho=>(by simp at ho),W.out,H.out,X.out⟩
 case round=>
  obtain⟨k,Y,rfl,A,s,J,I⟩:=hrel;obtain⟨h0,c0,c1,c2,f1,f2⟩:=s.cells;have z:=aA s;have t:=aA J;have u:=aA I;clear s J I X H W;by_cases f:k<21
  ·obtain⟨j,rfl⟩:∃j,gk=j+1:=⟨gk-1,o_⟩
   obtain⟨q,N⟩:=E_ (bC[k]'(by simpa [bC] using f))
   have ab:∀w,(Instr.index 226 (.agg Z) (.int .i64 k)).run prog w=.ok (.string (bs q)) w:=λw=>by rw[N];exact HIXX.out k f w
   have ag:q.length<=2:=by rw[N];exact lX k f
   have af:(bs q).size=q.length:=eS q;have M:Hid (q=bC[k]'(by simpa [bC] using f)):=N
   clear N;have g:=aA (λw=>qD (a.extract n a.size) (bs q) w (by rw[kD];omega) (by rw[eS];omega))
   rw[gY,gK] at g;cases b:bD (a.data.toList.drop n) q
   ·rw[b] at g;have F:Hid (jU (a.data.toList.drop n) (k+1)):=nS f A.out (by rw[<-M.out];exact b)
    clear A M b;go_wp2_with fail;go_quiet ((go_at_call 171;exact Calls.quiet_of_same (g.out _)))
    go_wp2_with fail;go_roundg j
    case measure=>omega
    case rel=>exact⟨k+1,o_,by go_num,F,z.out,t.out.drewN _,u.out⟩
   ·rw[b] at g;have F:Hid (r={ sort:=112,x_:=q,size:=q.length,ok:=true }):=by rw[<-hr.out];exact qJ f A.out q M.out b
    have Q:n+q.length<=a.size:=by
     have:=fL b;simp at this;omega
    have HTXT:Hid ((a.data.toList.drop n).take q.length=q):=by
     show _=_
     have B:=b;unfold bD at B;rw[fE _ _ (fL b)] at B;simpa using B
    have C:=aA (λE=>iD sb a n L q.length (wr.drewN E) z.out hs Q)
    rw[HTXT.out] at C;have T:Hid (∀E,ZTok (wr.drewN E) w.heap.size):=λ_=>u.out
    have ad:Hid (∀E,w.heap.size<(wr.drewN E).heap.size):=λ_=>aD u.out
    clear A M b;go_wp2_with fail;go_quiet ((go_at_call 171;exact Calls.quiet_of_same (g.out _)))
    go_wp2_with fail;go_region_law (go_simp;go_at_call 214;refine(C.out _).mono ?_;rintro e w2 ⟨rfl,D,x⟩;have G:=aA D;have V:=aA ((t.out.drewN _).trans x);have c:=aA (x.keepS (T.out _) K);have ac:=(SC.cells G.out).2.2.2.1;have z0:=aB c.out (i:=0) rfl;have z1:=aB c.out (i:=1) rfl;have z2:=aB c.out (i:=2) rfl;have z3:=aB c.out (i:=3) rfl;have y0:=aI (i:=0) c.out;have y1:=aI (i:=1) c.out;have y2:=aI (i:=2) c.out;have y3:=aI (i:=3) c.out;have ae:=aD c.out;clear D x)
    all_goals
     go_wp2_with fail;rw[F.out];refine bodyPost_ret (v:=.agg #[.int .i64 0,.string (bs q),.int .i64 0,.int .i64 L]) (by simp[results,results179,go_sem,z0,z1,z2,z3]) rfl ?_
     have m:=gH V.out G.out (JS _) K (.int .i64 0) (.string (bs q)) (.int .i64 0) (.int .i64 L);exact⟨m.1,JX ⟨rfl,rfl,m.2⟩⟩
  ·obtain rfl:k=21:=o_
   have F:Hid (r={ sort:=0,x_:=[],size:=0,ok:=false }):=by rw[<-hr.out];exact nQ A.out
   have P:=aA (kC sb a n L wr z.out);clear A;go_wp2_with fail;refine P.out.mono ?_;rintro e w3 ⟨rfl,hw⟩;obtain rfl:=hw.symm;go_wp2_with fail;rw[F.out];exact⟨rfl,t.out,JR ⟨rfl,rfl⟩⟩
def zR(cb lo:Nat)(b:List aC)(o:Value)(t:b.length<=90000)(x:∀f∈b,f.y_.length<=90000)(d:Nat)(B:gM cb lo b o d)(c:aC)(v:Value)(a:List (List UInt8))(w:World)(h:CK cb lo b o w a)(i:PKid (Btw lo cb) w v c.y_)(z:∀k∈c.y_,dD d k)(r:a.length+(c.y_.map (aX d)).sum<=90000):
 Calls prog 111 #[.pointer (some ⟨cb,0,none⟩),.iface 271 (.agg #[.int .i64 c.l_,.string (bs c.x_),v])] w (bW cb lo b o w (foldL b d c.y_ (dA b false ⟨a,0,0⟩ c))):=by
 obtain⟨p,y,rfl⟩:=i.slice;have E:=oO;have G:=pR;have K:=wZ;have H:=rH;have J:=pQ;have I:=rJ;have F:=tM;obtain⟨g,j⟩:=Loc.new h (.cells #[.int .i64 c.l_,.string (bs c.x_),.slice p c.y_.length y] 271);have l:=aA g;have C:=aA (zB cb lo b o t x d B c (.slice p c.y_.length y) a (w.alloc (.cells #[.int .i64 c.l_,.string (bs c.x_),.slice p c.y_.length y] 271)) j (i.below g.fb.bel) z r (by have:=mA z;omega))
 clear h g j;generalize foldL b d c.y_ (dA b false ⟨a,0,0⟩ c)=c at*;go_enter func111,ntmps111;go_wp2_with fail;refine C.out.mono ?_;rintro e D ⟨n,⟨s,A,rfl,m⟩|⟨i,rfl⟩⟩
 ·have q:=aA (l.out.fb.trans n);have u:=aA m;subst A;clear n m;go_wp2_with fail;go_end0;exact bW.done q.out rfl u.out
 ·have q:=aA (l.out.fb.trans n);have u:=aA i;clear n i;go_wp2_with fail;exact⟨rfl,bW.fault (c1:=c) q.out u.out (Stk.refl _)⟩
def xX(cb lo:Nat)(a:List aC)(n:Value)(d:Nat)(A:fC cb lo a n d)(e_:List (List UInt8))(w:World)(h:CK cb lo a n w e_)(l:Nat)(t b:aC)(y:Value)(x:PN (Btw lo cb) w y b)(q:dD d b)(r:e_.length+aX d b<=90000):
 Calls prog 111 #[.pointer (some ⟨cb,0,none⟩),.iface 259 (.agg #[.int .i64 l,.int .i64 t.l_,.string (bs t.x_),y])] w (bW cb lo a n w (({ aK a false d b (Hs.declaresL ⟨e_,0,0⟩ t) with e_:=(aK a false d b (Hs.declaresL ⟨e_,0,0⟩ t)).e_++[t.x_] }:aQ))):=by
 obtain⟨o,g,rfl⟩:=x.form;have D:=kZ;obtain⟨f,i⟩:=Loc.new h (.cells #[.int .i64 l,.int .i64 t.l_,.string (bs t.x_),.iface o (.agg g)] 259);have j:=aA f;have B:=aA (wE cb lo a n d A (w.alloc (.cells #[.int .i64 l,.int .i64 t.l_,.string (bs t.x_),.iface o (.agg g)] 259)) e_ i l t b (.iface o (.agg g)) (x.below f.fb.bel) q r);clear h f i;generalize ({ aK a false d b (Hs.declaresL ⟨e_,0,0⟩ t) with e_:=(aK a false d b (Hs.declaresL ⟨e_,0,0⟩ t)).e_++[t.x_] }:aQ)=c at*
 go_enter func111,ntmps111;go_wp2_with fail;refine B.out.mono ?_;rintro e C ⟨m,⟨s,z,rfl,k⟩|⟨v,rfl⟩⟩
 ·have p:=aA (j.out.fb.trans m);have u:=aA k;subst z;clear m k;go_wp2_with fail;go_end0;exact bW.done p.out rfl u.out
 ·have p:=aA (j.out.fb.trans m);have u:=aA v;clear m v;go_wp2_with fail;exact⟨rfl,bW.fault (c1:=c) p.out u.out (Stk.refl _)⟩
def xW(cb lo:Nat)(k:List aC)(o:Value)(a:List (List UInt8))(w:World)(h:CK cb lo k o w a)(l m:Nat):
 Calls prog 111 #[.pointer (some ⟨cb,0,none⟩),.iface 268 (.agg #[.int .i64 l,.iface 307 (.agg #[.int .i64 m,.int .i64 0])])] w (bW cb lo k o w ((⟨a,0,0⟩:aQ))):=by
 have u:=hN;have v:=iF;have z:=lN;have x:=jC;have y:=iE;obtain⟨b,d⟩:=Loc.new h (.cells #[.int .i64 l,.iface 307 (.agg #[.int .i64 m,.int .i64 0])] 268);have f:=aA b;have q:=aA (sQ cb lo k o a (w.alloc (.cells #[.int .i64 l,.iface 307 (.agg #[.int .i64 m,.int .i64 0])] 268)) d m 0);clear h b d;generalize (⟨a,0,0⟩:aQ)=c at*;go_enter func111,ntmps111;go_wp2_with fail;refine q.out.mono ?_;rintro e t ⟨i,⟨s,r,rfl,g⟩|⟨p,rfl⟩⟩
 ·have j:=aA (f.out.fb.trans i);have n:=aA g;subst r;clear i g;go_wp2_with fail;go_end0;exact bW.done j.out rfl n.out
 ·have j:=aA (f.out.fb.trans i);have n:=aA p;clear i p;go_wp2_with fail;exact⟨rfl,bW.fault (c1:=c) j.out n.out (Stk.refl _)⟩
def cO{b:List aC}{d:Nat}(c:(a.op==[118,97,114])=false)(e:(a.op==[98,108,111,99,107])=false):aK b false (d+1) a s=foldL b d a.y_ (bQ b false s a):=by
 rw[aK,if_neg (by rw[c];simp)]
 simp only[e];rfl
def dI{d:List aC}(c:(a.op==[115,101,116])=false)(b:(a.op==[110,97,109,101])=false)(e:(a.op==[99,97,108,108])=false):bQ d false s a=s:=by
 unfold bQ;rw[c,b,e];rfl
def vW{b:List aC}(h:(a.op==[115,101,116] || a.op==[110,97,109,101])=true):bQ b false s a=oV s a.l_ a.x_:=by
 unfold bQ;rw[h];rfl
def sS{b:List aC}(h:a.op=[99,97,108,108]):bQ b false s a=dA b false s a:=by
 unfold bQ;rw[h];rfl
def vP{x y:List UInt8}(h:aZ x≠9)(a:aZ y=9):(x==y)=false:=by
 rw[beq_eq_false_iff_ne];intro e;rw[e] at h;exact h a
def AZ(cb lo:Nat)(m:List aC)(q:Value)(F:m.length<=90000)(H:∀f∈m,f.y_.length<=90000)(d:Nat)(IHs:∀e,e<=d->fC cb lo m q e):fC cb lo m q (d+1):=by
 intro v a e_ w h P D j;obtain⟨T,X,W,rfl,M,n⟩:=P.parts;have x:=IHs d (JS _);have J:=kE cb lo m q d x
 have B:kJ cb lo m q d:=by
  cases d with
  |zero=>exact λ_ _ _ _ _ _ _ Q _=>Q.elim
  |succ e=>exact wL (kE cb lo m q e (IHs e o_))
 rw[aX] at j;have i:∀k∈a.y_,dD d k:=D;clear P D;rcases M with ⟨rfl,k,rfl,b,N,g,rfl⟩|⟨rfl,rfl,b,g,rfl⟩|⟨rfl,rfl,b,g,rfl⟩|⟨rfl,z,rfl,b,rfl⟩|⟨rfl,z,rfl,b,rfl⟩|⟨rfl,rfl,b,g,rfl⟩|⟨rfl,l,r,G,p,C,rfl,b,g,rfl⟩|⟨rfl,o,r,p,rfl,V,b,g,rfl⟩|⟨rfl,l,r,G,p,C,rfl,b,g,rfl⟩|⟨rfl,r,t,p,rfl,b,g,rfl⟩|⟨rfl,z,r,l,p,rfl,b,g,rfl⟩|⟨rfl,r,A,p,s,rfl,b,y,g,rfl⟩|⟨rfl,r,A,O,p,s,K,rfl,b,y,L,g,rfl⟩|⟨rfl,r,A,p,s,rfl,b,y,g,rfl⟩|⟨rfl,l,rfl,b,g,rfl⟩|⟨rfl,r,p,rfl,b,g,rfl⟩|⟨rfl,r,p,rfl,b,g,rfl⟩|⟨rfl,z,c,rfl,b,U,S,g,u,rfl⟩
 ·have e:aK m false (d+1) a ⟨e_,0,0⟩=⟨e_,0,0⟩:=by rw[cO (by rw[b];decide) (by rw[b];decide),dI (by rw[b];decide) (by rw[b];decide) (by rw[b];decide),g];rfl
  rw[e];exact sQ cb lo m q e_ w h _ k
 ·have e:aK m false (d+1) a ⟨e_,0,0⟩=⟨e_,0,0⟩:=by rw[cO (by rw[b];decide) (by rw[b];decide),dI (by rw[b];decide) (by rw[b];decide) (by rw[b];decide),g];rfl
  rw[e];exact BD cb lo m q e_ w h _ _
 ·have e:aK m false (d+1) a ⟨e_,0,0⟩=⟨e_,0,0⟩:=by rw[cO (by rw[b];decide) (by rw[b];decide),dI (by rw[b];decide) (by rw[b];decide) (by rw[b];decide),g];rfl
  rw[e];exact FZ cb lo m q e_ w h _ _
 ·rw[cO (by rw[b];decide) (by rw[b];decide),dI (by rw[b];decide) (by rw[b];decide) (by rw[b];decide)]
  exact FY cb lo m q d J e_ w h _ z a.y_ (n _ (KB.2 rfl)).many i o_
 ·rw[cO (by rw[b];decide) (by rw[b];decide),sS b]
  exact zR cb lo m q F H d J a z e_ w h (n _ (KB.2 rfl)).many i o_
 ·have e:aK m false (d+1) a ⟨e_,0,0⟩=oV ⟨e_,0,0⟩ a.l_ a.x_:=by rw[cO (by rw[b];decide) (by rw[b];decide),vW (by rw[b];decide),g];rfl
  rw[e];exact vV cb lo m q e_ w h _ _ o_
 ·rw[cO (by rw[b];decide) (by rw[b];decide),dI (by rw[b];decide) (by rw[b];decide) (by rw[b];decide),g]
  rw[g] at j i;simp only[KC,KZ,KD,LA] at j;exact DR cb lo m q d x e_ w h l r p (n _ s_).one' (i p s_) G C (n ⟨G,[C],true⟩ s_).one' (i C s_) o_
 ·have I:a.op=[45,120]\/a.op=[33,120]:=by rcases V with rfl|rfl<;>simp[b]
  have e:aK m false (d+1) a ⟨e_,0,0⟩=aK m false d p ⟨e_,0,0⟩:=by
   rcases I with b|b<;>(rw[cO (by rw[b];decide) (by rw[b];decide),dI (by rw[b];decide) (by rw[b];decide) (by rw[b];decide),g];rfl)
  rw[e];rw[g] at j i;simp only[KC,KZ,KD,LA] at j;exact DN cb lo m q d x e_ w h _ _ r p (n _ s_).one' (i p s_) o_
 ·rw[cO (vP b d_) (vP b d_),dI (vP b d_) (vP b d_) (vP b d_),g]
  rw[g] at j i;simp only[KC,KZ,KD,LA] at j;exact BF cb lo m q d x e_ w h l _ r p (n _ s_).one' (i p s_) G C (n ⟨G,[C],true⟩ s_).one' (i C s_) o_
 ·have e:aK m false (d+1) a ⟨e_,0,0⟩={ aK m false d p (Hs.declaresL ⟨e_,0,0⟩ t) with e_:=(aK m false d p (Hs.declaresL ⟨e_,0,0⟩ t)).e_++[t.x_] }:=by
   rw[aK,if_pos (by rw[b];rfl),g]
  rw[e];rw[g] at j i;simp only[KC,KZ,KD,LA] at j;exact xX cb lo m q d x e_ w h _ t p r (n _ s_).one' (i p s_) o_
 ·rw[cO (by rw[b];decide) (by rw[b];decide),vW (by rw[b];decide),g]
  rw[g] at j i;simp only[LE,KC,KZ,LF,KD,LA] at j
  have e:foldL m d (l++[p]) (oV ⟨e_,0,0⟩ a.l_ a.x_)=aK m false d p (foldL m d l (oV ⟨e_,0,0⟩ a.l_ a.x_)):=by
   show List.foldl _ _ (l++[p])=_
   rw[LI];rfl
  rw[e];exact BG cb lo m q d x J e_ w h _ _ z l (n ⟨z,l,false⟩ s_).many (λk N=>i k (List.mem_append_left _ N)) r p (n ⟨r,[p],true⟩ s_).one' (i p s_) o_
 ·rw[cO (by rw[b];decide) (by rw[b];decide),dI (by rw[b];decide) (by rw[b];decide) (by rw[b];decide),g]
  rw[g] at j i;simp only[KC,KZ,KD,LA] at j;exact IL cb lo m q d x J B e_ w h _ r p (n ⟨r,[p],true⟩ s_).one' (i p s_) A s y (n ⟨A,s.y_,false⟩ s_).many (i s s_) o_
 ·rw[cO (by rw[b];decide) (by rw[b];decide),dI (by rw[b];decide) (by rw[b];decide) (by rw[b];decide),g]
  rw[g] at j i;simp only[KC,KZ,KD,LA] at j;exact JG cb lo m q d x B e_ w h _ r p (n ⟨r,[p],true⟩ s_).one' (i p s_) A s y (n ⟨A,s.y_,false⟩ s_).many (i s s_) O K L (n ⟨O,K.y_,false⟩ s_).many (i K s_) o_
 ·rw[cO (by rw[b];decide) (by rw[b];decide),dI (by rw[b];decide) (by rw[b];decide) (by rw[b];decide),g]
  rw[g] at j i;simp only[KC,KZ,KD,LA] at j;exact DL cb lo m q d x B e_ w h _ r p (n ⟨r,[p],true⟩ s_).one' (i p s_) A s y (n ⟨A,s.y_,false⟩ s_).many (i s s_) o_
 ·have e:aK m false (d+1) a ⟨e_,0,0⟩=⟨e_,0,0⟩:=by rw[cO (by rw[b];decide) (by rw[b];decide),dI (by rw[b];decide) (by rw[b];decide) (by rw[b];decide),g];rfl
  rw[e];exact xW cb lo m q e_ w h _ l
 ·rw[cO (by rw[b];decide) (by rw[b];decide),dI (by rw[b];decide) (by rw[b];decide) (by rw[b];decide),g]
  rw[g] at j i;simp only[KC,KZ,KD,LA] at j;exact BE cb lo m q d x e_ w h _ r p (n _ s_).one' (i p s_) o_
 ·rw[cO (by rw[b];decide) (by rw[b];decide),dI (by rw[b];decide) (by rw[b];decide) (by rw[b];decide),g]
  rw[g] at j i;simp only[KC,KZ,KD,LA] at j;exact DO cb lo m q d x e_ w h _ r p (n _ s_).one' (i p s_) o_
 ·rw[cO (by rw[b];decide) (by rw[b];decide),dI (by rw[b];decide) (by rw[b];decide) (by rw[b];decide),g]
  rw[g] at j i;simp only[KC,KZ,KD,LA] at j;have E:=i c s_
  cases d with
  |zero=>exact E.elim
  |succ e=>
   show Calls _ _ _ _ (bW cb lo m q w (aK m false (e+1) c ⟨e_,0,0⟩))
   rw[aX] at j;rw[cO (by rw[u];decide) (by rw[u];decide),sS u]
   exact zR cb lo m q F H e (kE cb lo m q e (IHs e o_)) c z e_ w h (n ⟨z,c.y_,false⟩ s_).many E o_
def DJ(cb lo:Nat)(a:List aC)(g:Value)(c:a.length<=90000)(b:∀f∈a,f.y_.length<=90000)(d:Nat):fC cb lo a g d:=by
 induction d using Nat.strongRecOn with
 |_ d i=>
  cases d with
  |zero=>exact λ_ _ _ _ _ _ h _=>h.elim
  |succ d=>exact AZ cb lo a g c b d λe j=>i e o_
def IC{ps:List aC}(k:Nat)(b:k<ps.length):(CF ps)[k*2]?=some (.int .i64 ps[k].l_)/\(CF ps)[k*2+1]?=some (.string (bs ps[k].x_)):=by
 induction ps generalizing k with
 |nil=>simp at b
 |cons a ps c=>
  cases k with
  |zero=>exact⟨rfl,rfl⟩
  |succ k=>
   have:=c k (by simpa using b)
   have e:∀j,(CF (a::ps))[(k+1)*2+j]?=(CF ps)[k*2+j]?:=λj=>by
    rw[CF,show (k+1)*2+j=k*2+j+1+1 by omega];rfl
   exact⟨(e 0).trans this.1,(e 1).trans this.2⟩
def PNm.get{ps:List aC}(h:PNm F w v ps):(v=.slice none 0 0/\ps=[])\/∃g a,v=.slice (some ⟨g,0,none⟩) ps.length a/\F g/\g<w.heap.size/\ps.length<=a/\∀k (b:k<ps.length),w.cell? ⟨g,k*2,none⟩=some (.int .i64 ps[k].l_)/\w.cell? ⟨g,k*2+1,none⟩=some (.string (bs ps[k].x_)):=by
 obtain⟨_,h|⟨g,a,o,l,f,d,i,m⟩⟩:=h
 ·exact JX h
 ·refine JR ⟨g,a,l,f,aD d,i,λk b=>?_⟩
  obtain⟨p,n⟩:=IC k b
  have e:∀j u,j<ps.length*2->(CF ps)[j]?=some u->w.cell? ⟨g,j,none⟩=some u:=λj u q c=>by
   refine aB d ?_;rw[<-m,KY,if_pos q] at c;simpa using c
  exact⟨e _ _ o_ p,e _ _ o_ n⟩
def qR:∀{a:List Value} {c:List aC} (i:Nat),eE (sE F w) a c->i<=c.length->(fA a).take (i*4)=fA (a.take i)
 |[],[],i,_,h=>by simp[fA]
 |u::a,f::c,0,_,_=>by simp[fA]
 |u::a,f::c,i+1,⟨⟨k,g,l,b,e,_⟩,h⟩,j=>by
  subst e;have d:=qR i h (by simpa using j)
  rw[LJ,fA,fA,<-d,List.take_append];have:(nE (Value.agg #[.int .i64 f.l_,.string (bs f.x_),k,g])).length=4:=rfl;rw[this,KT (by rw[this];omega)]
  congr 2;omega
 |[],_::_,_,h,_=>h.elim
 |_::_,[],_,h,_=>h.elim
def eE.take{R:Value->aC->Prop}:∀{vs ks} (i:Nat),eE R vs ks->eE R (vs.take i) (ks.take i)
 |_,_,0,_=>by simp[eE]
 |[],[],_+1,_=>trivial
 |_::_,_::_,i+1,⟨b,a⟩=>⟨b,eE.take i a⟩
 |[],_::_,_,h=>h.elim
 |_::_,[],_,h=>h.elim
def FSl.take{g a:Nat}{b:List aC}(h:FSl F w (.slice (some ⟨g,0,none⟩) b.length a) b)(i:Nat)(n:i<=b.length):FSl F w (.slice (some ⟨g,0,none⟩) i a) (b.take i):=by
 rcases h with ⟨c,_⟩|⟨q,e,d,o,c,k,m,p,l,j⟩
 ·cases c
 ·cases c;have f:(b.take i).length=i:=by rw[KH];omega
  refine JR ⟨g,a,d,o.take i,by rw[f],k,m,o_,?_,j.take i⟩
  rw[f,<-qR i j n,<-l,List.take_take];congr 1;omega
def CK.reset{cb lo:Nat}{e:List aC}{d j:Value}{c:List (List UInt8)}(h:CK cb lo e d w c)(a:w.heap[cb]?=some (.cells #[d,j] 165 (0,0))):
 FB cb w (w.setCell ⟨cb,1,none⟩ (.slice none 0 0))/\CK cb lo e d (w.setCell ⟨cb,1,none⟩ (.slice none 0 0)) []:=by
 have i:=aD a;have f:Below cb w (w.setCell ⟨cb,1,none⟩ (.slice none 0 0)):=(JU _ _).setCell s_ _
 have g:(w.setCell ⟨cb,1,none⟩ (.slice none 0 0)).heap[cb]?=some (.cells #[d,.slice none 0 0] 165 (0,0)):=by rw[aO a];rfl
 refine⟨⟨f,λk b l m=>JW _ _ _ _ (by show k≠cb;exact l),λk b=>?_⟩,⟨.slice none 0 0,g,World.ownsRow_nil _ _ _ _⟩,h.fun_.keep λk b=>f.block k b.2⟩
 rw[gU g] at b;cases b
def xR(a:List aC)(x:List UInt8):(fO a x).isSome=(cZ x || !(bN a x).isNone):=by
 unfold fO cZ;cases x==[108,101,110]<;>cases x==[114,101,97,100]<;>cases bN a x<;>rfl
def qE(a:List aC)(d:Nat)(s:aQ)(k:aC):Stk s (bB a d s k):=by
 unfold bB;split
 ·exact(Stk.declares s k).trans (Stk.e_ _ _)
 ·exact Stk.walk a false d k s
def CZ(a:List aC)(d:Nat)(s:aQ)(k:aC)(h:k.op=[112,97,114,97,109]):bB a d s k={ Hs.declaresL s k with e_:=(Hs.declaresL s k).e_++[k.x_] }:=by
 unfold bB;rw[h];rfl
def DC(a:List aC)(d:Nat)(s:aQ)(k:aC)(h:k.op=[98,108,111,99,107]):bB a d s k=aK a false d k s:=by
 unfold bB;rw[h];rfl
def IG(cb lo:Nat)(fs:List aC)(fv:Value)(d:Nat)(w:World)(b0:Nat)(o:Obj)(ps:List aC)(b:aC)(c:aQ)(gk:Nat)(i:Value)(wr:World):Prop:=
 ∃k s,k+gk=ps.length/\i=.int .i64 (k:Nat)/\Loc cb w b0 o wr/\CK cb lo fs fv wr s/\c=(ps.drop k++[b]).foldl (bB fs d) ⟨s,0,0⟩/\s.length=k
def yX(b:List aC)(d:Nat)(a:List (List UInt8))(f:aC)(first:Bool)(h:(cZ f.x_ || !first)=true):Stk ⟨[],6,f.l_⟩ (dU b d ⟨a,0,0⟩ f first):=by
 unfold dU;rw[h];exact Stk.fold (qE b d) _ _
def GP(b:List aC)(d:Nat)(a:List (List UInt8))(f:aC)(first:Bool)(h:(cZ f.x_ || !first)=false):dU b d ⟨a,0,0⟩ f first=f.y_.foldl (bB b d) ⟨[],0,0⟩:=by
 unfold dU;rw[h];rfl
def BZ(cb lo:Nat)(c:List aC)(g o:Nat)(cl:c.length<=90000)(J:∀f∈c,f.y_.length<=90000)(d i:Nat)(hi:i<c.length)(r:List (List UInt8))(w:World)(h:CK cb lo c (FV (.slice (some ⟨g,0,none⟩) c.length o)) w r)
 (hd:∀k∈c[i].y_,dD d k) (hw:c[i].y_.length+(c[i].y_.map (aX d)).sum<=90000):
 Calls prog 84 #[.pointer (some ⟨cb,0,none⟩),.slice (some ⟨g,0,none⟩) c.length o,.int .i64 i] w (bW cb lo c (FV (.slice (some ⟨g,0,none⟩) c.length o)) w (dU c d ⟨r,0,0⟩ c[i] (bN (c.take i) c[i].x_).isNone)):=by
 obtain⟨_,ak,ab⟩:=h.fun_;cases ak;rcases ab.cells with ⟨h1,_⟩|⟨g',df,h1,cx,dr,da,hc⟩
 ·cases h1
 cases h1;obtain⟨pv,bv,n,b,e0,e1,e2,e3,B,ae,av,an⟩:=hc i hi;obtain⟨T,X,rfl⟩:=ae.slice;obtain⟨M,N,rfl⟩:=an.slice;have az:=aA (xR (c.take i) c[i].x_);have bl:=J c[i] (KG hi);have bt:=aA (ab.take i o_)
 generalize dv:c[i]=f at*;have ca:=aA (λhx=>yX c d r f (bN (c.take i) f.x_).isNone hx)
 have ck:=aA (λhx=>GP c d r f (bN (c.take i) f.x_).isNone hx)
 have bm:=h.lt;obtain⟨ao,ax⟩:=Loc.new h (.cells #[.int .i64 f.l_,.string (bs f.x_),.slice T n.length X,.slice M b.y_.length N] 159);obtain⟨sx,sc,U,dn,dd,bn⟩:=h.cut;obtain⟨t,c0,O,f1⟩:=eV U;have bz:=aA ao;have cd:=aA ax;have bd:=aA ae;have cv:=aA an;have ay:=aA av;have al:=aA B;have HD:=aA hd;have HW:=aA hw;have dw:=aA J;have ci:i<=o:=o_
 have HBLK:Hid (kJ cb lo c (FV (.slice (some ⟨g,0,none⟩) c.length o)) d):=by
  cases d with
  |zero=>exact λ_ _ _ _ _ _ _ hd _=>hd.elim
  |succ e=>exact wL (kE cb lo c _ e (DJ cb lo c _ cl J e))
 have dh:n.length<=90000:=by rw[B] at bl;simp at bl;omega
 have cp:Hid (Below w.heap.size w (w.alloc (.cells #[.int .i64 f.l_,.string (bs f.x_),.slice T n.length X,.slice M b.y_.length N] 159))):=(JU _ _).alloc (JS _) _;have K:=aA (qI (c.take i) (Btw lo cb) (.slice (some ⟨g,0,none⟩) i o) f.x_ (w.alloc (.cells #[.int .i64 f.l_,.string (bs f.x_),.slice T n.length X,.slice M b.y_.length N] 159)).drew (by rw[KH];omega) (λf hf=>J f (List.mem_of_mem_take hf)) (bt.out.keep λk hk=>by have:=hk.2;exact JZ _ _ _ o_))
 rw[az.out] at K;generalize cz:((fO (List.take i c) f.x_).getD 0)=pn at K;obtain⟨tk,aj⟩:=E_ ((cZ f.x_ || !(bN (c.take i) f.x_).isNone))
 rw[<-aj] at K;have ap:=aA aj;obtain⟨cc,u⟩:=E_ (dU c d ⟨r,0,0⟩ f (bN (c.take i) f.x_).isNone);rw[<-u];have ba:=aA u;clear cz aj u h ao ax ae an av B hd hw J ab hc U bn az bt cx;go_enter func84,ntmps84;go_wp2_with fail;go_cut [7,8] (λ_ tv wc=>tv=.bool tk/\Below w.heap.size w wc/\Loc cb w w.heap.size (.cells #[.int .i64 f.l_,.string (bs f.x_),.slice T n.length X,.slice M b.y_.length N] 159) wc/\CK cb lo c (FV (.slice (some ⟨g,0,none⟩) c.length o)) wc r)
 case first=>
  go_region_law (go_simp;go_at_call 82;refine K.out.mono ?_;rintro e w1 ⟨rfl,bw⟩;have ah:=aA ((JU (w.alloc (.cells #[.int .i64 f.l_,.string (bs f.x_),.slice T n.length X,.slice M b.y_.length N] 159)).heap.size (w.alloc (.cells #[.int .i64 f.l_,.string (bs f.x_),.slice T n.length X,.slice M b.y_.length N] 159))).drew.trans bw);clear bw)
  all_goals
   go_wp2_with fail;go_meet
   case rel=>exact⟨rfl,cp.out.trans (ah.out.mono s_),bz.out.step (FB.of_below ah.out t_),cd.out.grow ah.out⟩
 case rest=>
  obtain⟨rfl,ar,A,S⟩:=hcut;clear c0 O f1 t e0 e1 e2 e3;obtain⟨dq,dm,y,dj,cu,ad⟩:=S.cut;obtain⟨t,c0,O,f1⟩:=eV y;have cn:=aA A;have dt:=aA S;have m0:=aB A.blk (i:=0) rfl;have m1:=aB A.blk (i:=1) rfl;have m2:=aB A.blk (i:=2) rfl;have m3:=aB A.blk (i:=3) rfl;have Q:=aD A.blk;have Z:=aA (S.reset y);have br:=aA ar;clear A S y ad ar K;cases tk;rotate_left
  ·go_wp2_with fail;refine(jZ f.l_ _).mono ?_;rintro e L ⟨rfl,l⟩;have x:=aA (br.out.trans (l.mono br.out.size));clear l;go_wp2_with (go_at_call 83;refine(eG 6 f.l_ _).mono ?_;rintro e w3 ⟨rfl,hw⟩;obtain rfl:=hw.symm)
   exact⟨rfl,bW.fault (c1:=⟨[],6,f.l_⟩) (FB.of_below x.out bm) s_ (by rw[ba.out];exact ca.out ap.out.symm)⟩
  have HI:Hid (IG cb lo c (FV (.slice (some ⟨g,0,none⟩) c.length o)) d w w.heap.size (.cells #[.int .i64 f.l_,.string (bs f.x_),.slice T n.length X,.slice M b.y_.length N] 159) n b cc n.length (.int .i64 (0:Nat)) (wc.setCell ⟨cb,1,none⟩ (.slice none 0 0))):=
   ⟨0,[],o_,rfl,cn.out.step Z.out.1,Z.out.2,by rw[ba.out,ck.out ap.out.symm,al.out];rfl,rfl⟩
  have dg:¬cb=w.heap.size:=o_
  have cj:¬w.heap.size=cb:=o_
  obtain⟨i0,cy,cg,bk,ct⟩:=info_parts iW;go_wp2_with fail;go_loopg [10,37] n.length (λgk _ iv wr=>IG cb lo c (FV (.slice (some ⟨g,0,none⟩) c.length o)) d w w.heap.size (.cells #[.int .i64 f.l_,.string (bs f.x_),.slice T n.length X,.slice M b.y_.length N] 159) n b cc gk iv wr)
  case atStart=>exact HI.out
  case round=>
   obtain⟨k,s,hk,rfl,m,D,u,aw⟩:=hrel;have bq:=aA aw;have dc:s.length<=90000:=o_
   clear aw;have P:=aA m;have dl:=aA D;have bi:=aA u;clear m0 m1 m2 m3 Q c0 O f1 t HI Z;have m0:=aB m.blk (i:=0) rfl;have m1:=aB m.blk (i:=1) rfl;have m2:=aB m.blk (i:=2) rfl;have m3:=aB m.blk (i:=3) rfl;have Q:=aD m.blk;have dz:=D.lt;by_cases t:k<n.length
   ·obtain⟨j,rfl⟩:∃j,gk=j+1:=⟨gk-1,o_⟩
    rcases bd.out.get with ⟨_,aq⟩|⟨pg,db,ak,am,cq,cw,G⟩
    ·rw[aq] at t;simp at t
    obtain⟨bo,bg⟩:=G k t;have bp:=bd.out.1 n[k] (KG t);have au:n.drop k=n[k]::n.drop (k+1):=(KL t).symm;have W:cc=(n.drop (k+1)++[b]).foldl (bB c d) (bB c d ⟨s,0,0⟩ n[k]):=by rw[u,au];rfl
    generalize n[k]=a at*;cases ak;have r0:wr.cell? ⟨pg,k*2,none⟩=some (.int .i64 a.l_):=(m.fb.bel.cell (p:=⟨pg,k*2,none⟩) am.2).trans bo;have r1:wr.cell? ⟨pg,k*2+1,none⟩=some (.string (bs a.x_)):=(m.fb.bel.cell (p:=⟨pg,k*2+1,none⟩) am.2).trans bg;have de:pg<wr.heap.size:=JY (Nat.lt_trans am.2 bm) m.fb.bel.size;obtain⟨bf,H⟩:=Loc.new D (.cells #[.int .i64 a.l_,.string (bs a.x_)] 155);have af:=aA bf;have HM:=aA (jW cb lo c _ (wr.alloc (.cells #[.int .i64 a.l_,.string (bs a.x_)] 155)) s H o_ a.l_ a.x_)
    have bb:Hid (Hs.declaresL ⟨s,0,0⟩ a=if cZ a.x_ || s.contains a.x_ then aQ.found ⟨s,0,0⟩ a.l_ 6 else ⟨s,0,0⟩):=rfl
    rw[<-bb.out] at HM;have Y:=aA (CZ c d ⟨s,0,0⟩ a bp);have be:=dK ⟨s,0,0⟩ a;have co:=aA be;have v:=aA W;clear u W au bo bg G cw cq bi be bb bf H m D bp;generalize Hs.declaresL ⟨s,0,0⟩ a=O at*;go_wp2_with fail;refine HM.out.mono ?_;rintro e L ⟨l,⟨s2,rfl,rfl,q⟩|⟨F,rfl⟩⟩
    rotate_left
    ·have cs:=aA (P.out.fb.trans (af.out.fb.trans l));have HK:=aA F;clear l F;go_wp2_with fail;exact⟨rfl,bW.fault (c1:=O) cs.out HK.out (by rw[v.out,Y.out];exact(Stk.e_ _ _).trans (Stk.fold (qE c d) _ _))⟩
    obtain rfl:s2=s:=co.out;have ai:=aA (af.out.step l);have HLb:=aA ((P.out.step af.out.fb).step l);obtain⟨ce,ch,z,dk,cf,E⟩:=q.cut;obtain⟨bu,c0,O,f1⟩:=eV z;have n0:=aB ai.out.blk (i:=0) rfl;have n1:=aB ai.out.blk (i:=1) rfl;have dy:=aD ai.out.blk;clear m0 m1 m2 m3 Q r0 r1;have m0:=aB HLb.out.blk (i:=0) rfl;have m1:=aB HLb.out.blk (i:=1) rfl;have m2:=aB HLb.out.blk (i:=2) rfl;have m3:=aB HLb.out.blk (i:=3) rfl;have Q:=aD HLb.out.blk;have x:=aA (show L.drew.heap[cb]?=_ from z)
    have ac:=aA (show L.drew.ownsRow _ _ _ _ _ _ from E)
    have I:=aA (show CK cb lo c (FV (.slice (some ⟨g,0,none⟩) c.length o)) L.drew s2 from q.grow (JU _ _).drew)
    have cr:=aA (FB.of_below (cb:=cb) (JU L.heap.size L).drew bu);clear z E q l HM;go_wp2_with fail;go_region_law (refine step_append_lies _ r_ _ _ 37 r_ (cb+1) 9 i0 _ 1 16 underlying37 cy cg bk ct rfl d_ (.slice ce s2.length ch) s2.length (dQ s2) r_ (ac.out.alloc _) ⟨L.heap.size,0,none⟩ 1 1 [.string (bs a.x_)] r_ r_ (gW L.drew _) (iU _) d_ (by unfold maxLen;omega) o_ t_ (L.heap.size+1) s_ ?_;intro g5 di w5 ag C bj ea;have bh:=qU x.out ac.out C;obtain⟨du, -,q1,ds⟩:=eV bh;clear bh)
    all_goals
     go_wp2_with fail;go_roundg j
     case measure=>omega
     case rel=>
      have V:=I.out.add x.out ac.out ag C (bj.imp_right λe=>by show L.heap.size<=g5;omega)
      exact⟨k+1,s2++[a.x_],o_,by go_num,(HLb.out.step cr.out).step V.1,V.2,by rw[v.out,Y.out],by have:=bq.out;simp;omega⟩
   ·have dx:k=n.length:=o_
    have aa:dD d b/\s.length+aX d b<=90000:=by
     have h1:=HW.out;have h2:=HD.out b (by rw[al.out];simp)
     rw[al.out] at h1;simp only[KN,LE,LF,KC,KZ,KD,LA,KV,List.length_nil] at h1;have:=bq.out;exact⟨h2,o_⟩
    have HX:=aA (HBLK.out (.slice M b.y_.length N) b s wr D ay.out (cv.out.below m.fb.bel) aa.1 aa.2)
    have v:Hid (cc=aK c false d b ⟨s,0,0⟩):=by
     show _=_
     rw[u,KJ o_]
     exact DC c d _ b ay.out
    rw[<-v.out] at HX;clear m D u bi v aa;go_wp2_with fail;refine HX.out.mono ?_;rintro e L ⟨l,⟨s2,H,rfl,q⟩|⟨F,rfl⟩⟩
    ·have x:=aA (P.out.fb.trans l);have I:=aA q;have cm:=aA H;clear l q H;go_wp2_with fail;go_end0;exact bW.done x.out cm.out I.out
    ·have x:=aA (P.out.fb.trans l);have I:=aA F;clear l F;go_wp2_with fail;exact⟨rfl,bW.fault (c1:=cc) x.out I.out (Stk.refl _)⟩
def jX(fs:List aC):Bool:=fO fs [109,97,105,110]==some 0
def zA(b:List aC)(F:Nat->Prop)(p:Value)(w:World)(v:b.length<=90000)(j:∀f∈b,f.y_.length<=90000)(h:FSl F w p b):
 Calls prog 44 #[p] w λe t=>Below w.heap.size w t/\((jX b=true/\e=.returned (.tuple #[]))\/(jX b=false/\e=cA 5 0)):=by
 have g:=aA (qI b F p [109,97,105,110] w o_ j h)
 have i:Hid (jX b=(fO b [109,97,105,110]==some 0)):=rfl;have c:=aA (λn s=>zQ j (x:=[109,97,105,110]) (n:=n) s)
 clear h j;rw[show bs [109,97,105,110]=⟨#[109,97,105,110]⟩ from rfl] at g
 obtain⟨k,m⟩:=E_ (jX b);rw[<-m] at i ⊢
 clear m;cases d:fO b [109,97,105,110] with
 |none=>
  obtain rfl:k=false:=by rw[i.out,d];rfl
  rw[d] at g;simp only[Option.getD_none,Option.isSome_none] at g;clear d i c;go_enter func44,ntmps44;go_wp2_with fail;refine g.out.mono ?_;rintro e q ⟨rfl,a⟩;have l:=aA a;clear a;go_wp2_with (go_at_call 83;refine(eG 5 0 _).mono ?_;rintro e u ⟨rfl,o⟩;obtain rfl:=o.symm)
  exact⟨rfl,l.out,JR ⟨trivial,rfl⟩⟩
 |some n=>
  have s:=c.out n d;rw[d] at g;simp only[Option.getD_some,Option.isSome_some] at g;cases n with
  |zero=>
   obtain rfl:k=true:=by rw[i.out,d];rfl
   clear d i c;go_enter func44,ntmps44;go_wp2_with fail;refine g.out.mono ?_;rintro e q ⟨rfl,a⟩;have l:=aA a;clear a;go_wp2_with fail;go_end0;exact⟨l.out,JX ⟨trivial,rfl⟩⟩
  |succ n=>
   obtain rfl:k=false:=by rw[i.out,d];rfl
   clear d i c;have r:decide ((0:Int)<((n:Int)+1))=true:=decide_eq_true o_
   go_enter func44,ntmps44;go_wp2_with fail;refine g.out.mono ?_;rintro e q ⟨rfl,a⟩;have l:=aA a;clear a;go_wp2_with (go_at_call 83;refine(eG 5 0 _).mono ?_;rintro e u ⟨rfl,o⟩;obtain rfl:=o.symm)
   exact⟨rfl,l.out,JR ⟨trivial,rfl⟩⟩
def zX(c:List aC)(d:Nat):∀(a b:List aC) (s:aQ),Stk s (cD c d b a s)
 |[],_,s=>Stk.refl s
 |n::a,b,s=>by
  rw[cD];refine Stk.trans ?_ (zX c d a _ _);unfold dU;refine Stk.trans ?_ (Stk.fold (qE c d) _ _);refine Stk.trans ?_ (Stk.e_ _ _);split
  ·exact Stk.found _ _ _
  ·exact Stk.refl _
def zL(cb lo:Nat)(fs:List aC)(fv:Value)(d:Nat)(w:World)(c:aQ)(gk:Nat)(i:Value)(wr:World):Prop:=
 ∃k s,k+gk=fs.length/\i=.int .i64 (k:Nat)/\Below cb w wr/\CK cb lo fs fv wr s/\c=cD fs d (fs.take k) (fs.drop k) ⟨s,0,0⟩
def wG(lo:Nat)(a:List aC)(N:Value)(w:World)(d:Nat)(I:a.length<=90000)(A:∀f∈a,f.y_.length<=90000)(h:FSl (Btw lo w.heap.size) w N a)(O:∀f∈a,∀k∈f.y_,dD d k)(Q:∀f∈a,f.y_.length+(f.y_.map (aX d)).sum<=90000):
 Calls prog 45 #[N] w λe V=>Below w.heap.size w V/\(((cD a d [] a ⟨[],0,0⟩).kind=0/\(cD a d [] a ⟨[],0,0⟩).l_=0/\e=.returned (.tuple #[]))\/((cD a d [] a ⟨[],0,0⟩).kind≠0/\e=cA (cD a d [] a ⟨[],0,0⟩).kind (cD a d [] a ⟨[],0,0⟩).l_)):=by
 obtain⟨z,t,rfl⟩:∃x c,N=.slice x a.length c:=by
  rcases h.cells with ⟨u,D⟩|⟨g,G,u,_⟩
  ·exact⟨none,0,by rw[u,D];rfl⟩
  ·exact⟨_,_,u⟩
 obtain⟨c,H⟩:=E_ (cD a d [] a ⟨[],0,0⟩);have q:Below w.heap.size w (w.alloc (.cells #[FV (.slice z a.length t),.slice none 0 0] 165)):=(JU _ _).alloc (JS _) _
 have X:Hid (zL w.heap.size lo a (FV (.slice z a.length t)) d w c a.length (.int .i64 (0:Nat)) (w.alloc (.cells #[FV (.slice z a.length t),.slice none 0 0] 165))):=
  ⟨0,[],o_,rfl,q,⟨⟨.slice none 0 0,aW _ _ rfl _,World.ownsRow_nil _ _ _ _⟩,⟨_,rfl,h.keep λk P=>q.block k P.2⟩⟩,by rw[H];rfl⟩
 rw[<-H];have W:=aA h;have M:=aA A;have HD:=aA O;have HW:=aA Q;clear h q H A O Q;go_enter func45,ntmps45;go_wp2_with fail;go_loopg [3,9] a.length (λgk _ i wr=>zL w.heap.size lo a (FV (.slice z a.length t)) d w c gk i wr)
 case atStart=>exact X.out
 case round=>
  obtain⟨k,s,P,rfl,E,r,m⟩:=hrel;have F:=aA E;by_cases l:k<a.length
  ·obtain⟨j,rfl⟩:∃j,gk=j+1:=⟨gk-1,o_⟩
   obtain⟨g,rfl⟩:∃g,z=some ⟨g,0,none⟩:=by
    rcases W.out.cells with ⟨u,D⟩|⟨g,G,u,_⟩
    ·rw[D] at l;simp at l
    ·cases u;exact⟨g,rfl⟩
   have L:a[k]∈a:=KG l;have T:=aA (BZ w.heap.size lo a g t I M.out d k l s wr r (HD.out _ L) (HW.out _ L));have B:a.drop k=a[k]::a.drop (k+1):=(KL l).symm
   have b:c=cD a d (a.take (k+1)) (a.drop (k+1)) (dU a d ⟨s,0,0⟩ a[k] (bN (a.take k) a[k].x_).isNone):=by
    rw[m,B,cD,KA l]
   have o:=aA b;clear E r m b B L;generalize dU a d ⟨s,0,0⟩ a[k] (bN (a.take k) a[k].x_).isNone=Z at*;go_wp2_with fail;refine T.out.mono ?_;rintro e U ⟨n,⟨s1,rfl,rfl,p⟩|⟨v,rfl⟩⟩
   rotate_left
   ·have J:=aA (F.out.trans n.bel);have y:=aA v;have C:Hid (Stk Z c):=by show Stk _ _;rw[o.out];exact zX a d _ _ _
    clear n v;go_wp2_with fail;obtain⟨S,Y⟩:=C.out y.out;exact⟨rfl,J.out,JR ⟨by rw[S];exact y.out,by rw[S,Y]⟩⟩
   have K:Hid (zL w.heap.size lo a (FV (.slice (some ⟨g,0,none⟩) a.length t)) d w c j (.int .i64 ((k+1:Nat):Int)) U):=⟨k+1,s1,o_,rfl,F.out.trans n.bel,p,o.out⟩
   clear n p T;go_wp2_with fail;go_roundg j
   case measure=>omega
   case rel=>exact K.out
  ·have b:c=⟨s,0,0⟩:=by rw[m,KJ o_];rfl
   have o:=aA b;clear E r m b;go_wp2_with fail;go_end0;rw[o.out];exact⟨F.out,JX ⟨rfl,rfl,rfl⟩⟩
structure NTabs(w:World):Prop where
 er:∃te pe,w.cell? ⟨10,0,none⟩=some (.iface te pe)
 big:11<=w.heap.size
def NTabs.fr{sb:Nat}(h:NTabs w)(a:Fr sb w w')(e:11<=sb):NTabs w':=by
 obtain⟨b,d,c⟩:=h.er;have:=h.big;have:=a.size;exact⟨⟨b,d,by rw[bV (a.block 10 o_ o_)];exact c⟩,o_⟩
def AW(l:List UInt8)(i:∀c∈l,bF c=true)(a:l≠[])(q:l.length<=100000)(w:World)(k:NTabs w):
 Calls prog 218 #[.string (bs l),.int .i64 10,.int .i64 64] w λe b=>Below w.heap.size w b/\((∃v,bY 0 l=some v/\e=.returned (.tuple #[.int .i64 (v:Nat),.nilIface]))\/(bY 0 l=none/\∃x T p,e=.returned (.tuple #[.int .i64 x,.iface T p]))):=by
 have m:(bs l).size=l.length:=eS l;rcases BU l i a with ⟨v,f,d⟩|⟨f,d⟩
 ·refine(strconv_ParseInt_10_at64_ok (bs l) o_ v (by rw[gK];exact d) w).mono ?_
  rintro e b ⟨rfl,n⟩;refine⟨?_,JX ⟨v,f,rfl⟩⟩;rcases n with rfl|⟨t,rfl⟩
  ·exact JU _ _
  ·exact Lib.bytesWorld_below _ _ _
 ·obtain⟨h,g,o⟩:=k.er;refine(strconv_ParseInt_10_at64_range (bs l) o_ (by rw[gK];exact d) (.iface h g) w o (JR ⟨h,g,rfl⟩)).mono ?_
  rintro e b ⟨N,rfl,_,_,j⟩;exact⟨j,JR ⟨f,_,_,_,rfl⟩⟩
def kT(c:UInt8):bE false c=bF c:=by unfold bE;simp
def uV(sb:Nat)(a:ByteArray)(n L:Nat)(w:World)(h:SC sb a n L w)(Z:NTabs w)(F:11<=sb)(hs:a.size<=100000)(hn:n<a.size)(D:bF a[n]=true):
 Calls prog 177 #[.pointer (some ⟨sb,0,none⟩)] w (EY sb a n L w (dT (a.data.toList.drop n) false)):=by
 obtain⟨k,m⟩:=E_ (aP (bE false) (a.data.toList.drop n))
 have ac:k<=a.size-n:=by
  have:=fG (bE false) (a.data.toList.drop n);rw[m];simpa using this
 have aa:1<=k:=by
  rw[m,cM a n hn,eX _ _ _ (by rw[kT];exact D)];omega
 have ae:n<=a.size:=o_
 have Q:=(SC.cells h).1;have J:w.heap.size≠sb:=o_
 have U:SC sb a n L (w.alloc (.cells #[.int .i64 0,.string ⟨#[]⟩,.int .i64 0,.int .i64 0] 150)):=by unfold SC;rw[JZ _ _ _ Q];exact h
 obtain⟨h0,c0,c1,V,f1,X⟩:=U.cells;have E:Hid (ZTok (w.alloc (.cells #[.int .i64 0,.string ⟨#[]⟩,.int .i64 0,.int .i64 0] 150)).drew w.heap.size):=aW _ _ rfl _;have z:=aA (λw=>lV (bE false) 176 (λ_ _=>rfl) (λc w=>by rw[kT];exact lE c w) (a.extract n a.size) w (by rw[kD];omega))
 rw[gY,<-m] at z;have y:=aA (iD sb a n L k (w.alloc (.cells #[.int .i64 0,.string ⟨#[]⟩,.int .i64 0,.int .i64 0] 150)).drew U o_ o_)
 obtain⟨d,o⟩:=E_ ((a.data.toList.drop n).take k);rw[<-o] at y;have j:d.length=k:=by rw[o,KH];simp;omega
 have G:=aA (λW (hW:NTabs W)=>AW d (λc Y=>by
  rw[o,m] at Y;rw[<-kT];exact iH _ _ c Y) (λe=>by rw[e] at j;simp at j;omega) o_ W hW)
 have HW:Hid (dT (a.data.toList.drop n) false={ sort:=48,x_:=d,size:=k,ok:=(bY 0 d).isSome }):=by
  show _=_
  unfold dT;rw[<-m,<-o];rfl
 rw[HW.out];have P:Hid (Fr sb w (w.alloc (.cells #[.int .i64 0,.string ⟨#[]⟩,.int .i64 0,.int .i64 0] 150))):=(Fr.refl _ _).alloc _;have HG:=aA Z;have ab:(bs d).size=k:=by rw[eS];exact j
 clear h U m o HW Z j D;obtain⟨rr,C⟩:∃rr:gF,rr={ sort:=48,x_:=d,size:=k,ok:=(bY 0 d).isSome }:=⟨_,rfl⟩;rw[<-C];have K:=aA C;clear C;go_enter func177,ntmps177;go_wp2_with fail;go_cut [3] (λv wc=>v=.string (bs d)/\SC sb a (n+k) L wc/\Fr sb w wc/\ZTok wc w.heap.size)
 case first=>
  go_region_law (first|(go_simp;go_at_call 172;refine(z.out _).mono ?_;rintro e w1 ⟨rfl,S⟩;obtain rfl:=S.symm)|(go_simp;go_at_call 214;refine y.out.mono ?_;rintro e w2 ⟨rfl,q,f⟩;have l:=aA q;have t:=aA (P.out.drew.trans f);have r:=aA (f.keepS E.out J);clear q f))
  all_goals
   go_wp2_with fail;go_meet
   case rel=>exact⟨rfl,l.out,t.out,r.out⟩
 case rest=>
  obtain⟨rfl,q,f,H⟩:=hcut;have l:=aA q;have t:=aA f;have r:=aA H;have A:=aA (G.out wc (HG.out.fr f F));clear c0 c1 V f1 X h0 q f H y z E G;go_wp2_with fail;refine A.out.mono ?_;rintro e M ⟨g,⟨v,I,rfl⟩|⟨I,x,T,p,rfl⟩⟩
  ·have s:Hid (SC sb a (n+k) L M):=(g.block sb (aD l.out)).trans l.out;have b:Hid (ZTok M w.heap.size):=(g.block _ (aD r.out)).trans r.out;have B:=aA (t.out.trans (Fr.below g));obtain⟨h0,c0,c1,V,f1,X⟩:=s.out.cells;have z0:=aB b.out (i:=0) rfl;have z1:=aB b.out (i:=1) rfl;have z2:=aB b.out (i:=2) rfl;have z3:=aB b.out (i:=3) rfl;have y0:=aI (i:=0) b.out;have y1:=aI (i:=1) b.out;have y2:=aI (i:=2) b.out;have y3:=aI (i:=3) b.out;have ad:=aD b.out;have N:=aA I;clear g I A;go_wp2_with fail;rw[K.out];refine bodyPost_ret (v:=.agg #[.int .i64 2,.string (bs d),.int .i64 v,.int .i64 L]) (by simp[results,results177,go_sem,z0,z1,z2,z3]) rfl ?_
   have u:=gH B.out s.out (JS _) J (.int .i64 2) (.string (bs d)) (.int .i64 v) (.int .i64 L);refine⟨u.1,JX ⟨by show (bY 0 d).isSome=true;rw[N.out];rfl,?_,u.2⟩⟩
   show _=Ending.returned (.agg #[.int .i64 2,.string (bs d),.int .i64 (pval ⟨48,d,L⟩),.int .i64 L])
   have e:pval ⟨48,d,L⟩=v:=by unfold pval;rw[if_pos rfl,N.out];rfl
   rw[e]
  ·have s:Hid (SC sb a (n+k) L M):=(g.block sb (aD l.out)).trans l.out;have B:=aA (t.out.trans (Fr.below g));have O:=aA (kC sb a (n+k) L M s.out);have N:=aA I;clear g I A;go_wp2_with fail;refine O.out.mono ?_;rintro e w4 ⟨rfl,S⟩;obtain rfl:=S.symm;go_wp2_with fail;rw[K.out];exact⟨rfl,B.out,JR ⟨by show (bY 0 d).isSome=false;rw[N.out];rfl,rfl⟩⟩
def AK(sb:Nat)(b:ByteArray)(n L:Nat)(w:World)(h:SC sb b n L w)(hg:NTabs w)(hm:PTabs w)(z:11<=sb)(hs:b.size<=100000)(S:n<b.size):
 Calls prog 121 #[.pointer (some ⟨sb,0,none⟩)] w (EY sb b n L w (aT (b.data.toList.drop n))):=by
 have W:=(SC.cells h).1;have r:w.heap.size≠sb:=o_
 have hb:(b[n].toNat:Int)<=255:=dC _;have V:SC sb b n L (w.alloc (.cells #[.int .i64 0,.string ⟨#[]⟩,.int .i64 0,.int .i64 0] 150)):=by unfold SC;rw[JZ _ _ _ W];exact h
 obtain⟨h0,c0,c1,c2,f1,f2⟩:=V.cells;have p:Hid (∀q,ZTok ((w.alloc (.cells #[.int .i64 0,.string ⟨#[]⟩,.int .i64 0,.int .i64 0] 150)).drewN q) w.heap.size):=λ_=>aW _ _ rfl _
 have D:Fr sb w (w.alloc (.cells #[.int .i64 0,.string ⟨#[]⟩,.int .i64 0,.int .i64 0] 150)):=(Fr.refl _ _).alloc _;have l:=aA D;have O:Hid (∀q,NTabs ((w.alloc (.cells #[.int .i64 0,.string ⟨#[]⟩,.int .i64 0,.int .i64 0] 150)).drewN q)):=λq=>hg.fr (D.drewN q) z
 have A:Hid (∀q,PTabs ((w.alloc (.cells #[.int .i64 0,.string ⟨#[]⟩,.int .i64 0,.int .i64 0] 150)).drewN q)):=λq=>hm.fr (D.drewN q) z
 have Q:=aA V;obtain⟨c,I⟩:=E_ (aT (b.data.toList.drop n));rw[<-I];have F:c=if bF b[n] || bJ b[n] then dT (b.data.toList.drop n) (bJ b[n]) else if b[n].toNat=34 then iQ (b.data.toList.drop (n+1)) else dZ (b.data.toList.drop n):=by rw[I,cM b n S];rfl
 have t:=aA F;have s:=aA (nP b[n]);have u:=aA (lE b[n]);clear h V hg hm I F D;cases y:bJ b[n]
 ·cases B:bF b[n]
  ·by_cases E:b[n].toNat=34
   ·have e:c=iQ (b.data.toList.drop (n+1)):=by rw[t.out,y,B];simp[E]
    have C:=aA (λq=>AH sb b n L ((w.alloc (.cells #[.int .i64 0,.string ⟨#[]⟩,.int .i64 0,.int .i64 0] 150)).drewN q) Q.out o_ S)
    rw[<-e] at C;rw[y] at s;rw[B] at u;have P:((b[n].toNat:Int)==34)=true:=t_
    clear y B e t E;go_enter func121,ntmps121;go_wp2_with fail;go_quiet (fail)
    go_wp2_with fail;refine(s.out _).mono ?_;rintro e N ⟨rfl,x⟩;obtain rfl:=x.symm;go_wp2_with fail;refine(u.out _).mono ?_;rintro e N ⟨rfl,x⟩;obtain rfl:=x.symm;go_wp2_with fail;refine(C.out _).mono ?_;rintro e w2 ⟨f,⟨d,rfl,o⟩|⟨d,rfl⟩⟩
    ·have j:=aA ((l.out.drewN _).trans f);have m:=aA o;have a:=aA (f.keepS (p.out _) r);have g:=aA d;have K:=aB a.out (i:=0) rfl;have H:=aB a.out (i:=1) rfl;have G:=aB a.out (i:=2) rfl;have J:=aB a.out (i:=3) rfl;have Y:=aI (i:=0) a.out;have T:=aI (i:=1) a.out;have y2:=aI (i:=2) a.out;have U:=aI (i:=3) a.out;have M:=aD a.out;clear f o d;simp only[iI];go_wp2_with fail;refine bodyPost_ret (v:=.agg #[.int .i64 (psort c.sort),.string (bs c.x_),.int .i64 (pval ⟨c.sort,c.x_,L⟩),.int .i64 L]) (by clear O A p l j m a g;generalize psort c.sort=Z;generalize pval ⟨c.sort,c.x_,L⟩=X;simp[results,results121,go_sem,K,H,G,J]) rfl ?_
     have k:=gH j.out m.out (JS _) r (.int .i64 (psort c.sort)) (.string (bs c.x_)) (.int .i64 (pval ⟨c.sort,c.x_,L⟩)) (.int .i64 L);exact⟨k.1,JX ⟨g.out,rfl,k.2⟩⟩
    ·have j:=aA ((l.out.drewN _).trans f);have g:=aA d;clear f d;go_wp2_with fail;exact⟨rfl,j.out,JR ⟨g.out,rfl⟩⟩
   ·have e:dZ (b.data.toList.drop n)=c:=by rw[t.out,y,B];simp[E]
    have C:=aA (λq=>AN sb b n L ((w.alloc (.cells #[.int .i64 0,.string ⟨#[]⟩,.int .i64 0,.int .i64 0] 150)).drewN q) Q.out (A.out q) o_ S c e)
    rw[y] at s;rw[B] at u;have P:((b[n].toNat:Int)==34)=false:=t_
    clear y B e t E;go_enter func121,ntmps121;go_wp2_with fail;go_quiet (fail)
    go_wp2_with fail;refine(s.out _).mono ?_;rintro e N ⟨rfl,x⟩;obtain rfl:=x.symm;go_wp2_with fail;refine(u.out _).mono ?_;rintro e N ⟨rfl,x⟩;obtain rfl:=x.symm;go_wp2_with fail;refine(C.out _).mono ?_;rintro e w2 ⟨f,⟨d,rfl,o⟩|⟨d,rfl⟩⟩
    ·have j:=aA ((l.out.drewN _).trans f);have m:=aA o;have a:=aA (f.keepS (p.out _) r);have g:=aA d;have K:=aB a.out (i:=0) rfl;have H:=aB a.out (i:=1) rfl;have G:=aB a.out (i:=2) rfl;have J:=aB a.out (i:=3) rfl;have Y:=aI (i:=0) a.out;have T:=aI (i:=1) a.out;have y2:=aI (i:=2) a.out;have U:=aI (i:=3) a.out;have M:=aD a.out;clear f o d;simp only[iI];go_wp2_with fail;refine bodyPost_ret (v:=.agg #[.int .i64 (psort c.sort),.string (bs c.x_),.int .i64 (pval ⟨c.sort,c.x_,L⟩),.int .i64 L]) (by clear O A p l j m a g;generalize psort c.sort=Z;generalize pval ⟨c.sort,c.x_,L⟩=X;simp[results,results121,go_sem,K,H,G,J]) rfl ?_
     have k:=gH j.out m.out (JS _) r (.int .i64 (psort c.sort)) (.string (bs c.x_)) (.int .i64 (pval ⟨c.sort,c.x_,L⟩)) (.int .i64 L);exact⟨k.1,JX ⟨g.out,rfl,k.2⟩⟩
    ·have j:=aA ((l.out.drewN _).trans f);have g:=aA d;clear f d;go_wp2_with fail;exact⟨rfl,j.out,JR ⟨g.out,rfl⟩⟩
  ·have e:c=dT (b.data.toList.drop n) false:=by rw[t.out,y,B];rfl
   have C:=aA (λq=>uV sb b n L ((w.alloc (.cells #[.int .i64 0,.string ⟨#[]⟩,.int .i64 0,.int .i64 0] 150)).drewN q) Q.out (O.out q) z hs S B)
   rw[<-e] at C;rw[y] at s;rw[B] at u;clear y B e t;go_enter func121,ntmps121;go_wp2_with fail;go_quiet (fail)
   go_wp2_with fail;refine(s.out _).mono ?_;rintro e N ⟨rfl,x⟩;obtain rfl:=x.symm;go_wp2_with fail;refine(u.out _).mono ?_;rintro e N ⟨rfl,x⟩;obtain rfl:=x.symm;go_wp2_with fail;refine(C.out _).mono ?_;rintro e w2 ⟨f,⟨d,rfl,o⟩|⟨d,rfl⟩⟩
   ·have j:=aA ((l.out.drewN _).trans f);have m:=aA o;have a:=aA (f.keepS (p.out _) r);have g:=aA d;have K:=aB a.out (i:=0) rfl;have H:=aB a.out (i:=1) rfl;have G:=aB a.out (i:=2) rfl;have J:=aB a.out (i:=3) rfl;have Y:=aI (i:=0) a.out;have T:=aI (i:=1) a.out;have y2:=aI (i:=2) a.out;have U:=aI (i:=3) a.out;have M:=aD a.out;clear f o d;simp only[iI];go_wp2_with fail;refine bodyPost_ret (v:=.agg #[.int .i64 (psort c.sort),.string (bs c.x_),.int .i64 (pval ⟨c.sort,c.x_,L⟩),.int .i64 L]) (by clear O A p l j m a g;generalize psort c.sort=Z;generalize pval ⟨c.sort,c.x_,L⟩=X;simp[results,results121,go_sem,K,H,G,J]) rfl ?_
    have k:=gH j.out m.out (JS _) r (.int .i64 (psort c.sort)) (.string (bs c.x_)) (.int .i64 (pval ⟨c.sort,c.x_,L⟩)) (.int .i64 L);exact⟨k.1,JX ⟨g.out,rfl,k.2⟩⟩
   ·have j:=aA ((l.out.drewN _).trans f);have g:=aA d;clear f d;go_wp2_with fail;exact⟨rfl,j.out,JR ⟨g.out,rfl⟩⟩
 ·have e:c=dT (b.data.toList.drop n) true:=by rw[t.out,y,Bool.or_true];rfl
  have C:=aA (λq=>AM sb b n L ((w.alloc (.cells #[.int .i64 0,.string ⟨#[]⟩,.int .i64 0,.int .i64 0] 150)).drewN q) Q.out o_ o_)
  rw[<-e] at C;rw[y] at s;clear y e t u;go_enter func121,ntmps121;go_wp2_with fail;go_quiet (fail)
  go_wp2_with fail;refine(s.out _).mono ?_;rintro e N ⟨rfl,x⟩;obtain rfl:=x.symm;go_wp2_with fail;refine(C.out _).mono ?_;rintro e w2 ⟨f,⟨d,rfl,o⟩|⟨d,rfl⟩⟩
  ·have j:=aA ((l.out.drewN _).trans f);have m:=aA o;have a:=aA (f.keepS (p.out _) r);have g:=aA d;have K:=aB a.out (i:=0) rfl;have H:=aB a.out (i:=1) rfl;have G:=aB a.out (i:=2) rfl;have J:=aB a.out (i:=3) rfl;have Y:=aI (i:=0) a.out;have T:=aI (i:=1) a.out;have y2:=aI (i:=2) a.out;have U:=aI (i:=3) a.out;have M:=aD a.out;clear f o d;simp only[iI];go_wp2_with fail;refine bodyPost_ret (v:=.agg #[.int .i64 (psort c.sort),.string (bs c.x_),.int .i64 (pval ⟨c.sort,c.x_,L⟩),.int .i64 L]) (by clear O A p l j m a g;generalize psort c.sort=Z;generalize pval ⟨c.sort,c.x_,L⟩=X;simp[results,results121,go_sem,K,H,G,J]) rfl ?_
   have k:=gH j.out m.out (JS _) r (.int .i64 (psort c.sort)) (.string (bs c.x_)) (.int .i64 (pval ⟨c.sort,c.x_,L⟩)) (.int .i64 L);exact⟨k.1,JX ⟨g.out,rfl,k.2⟩⟩
  ·have j:=aA ((l.out.drewN _).trans f);have g:=aA d;clear f d;go_wp2_with fail;exact⟨rfl,j.out,JR ⟨g.out,rfl⟩⟩
def DZ:(prog.info? 150).map (λi=>(i.zero,i.size,i.bytes))=some (some (.agg #[.int .i64 0,.string (bs []),.int .i64 0,.int .i64 0]),4,40):=k_
def sO(w:World)(a b c d:Value):∀j u,([a,b,c,d]:List Value)[j]?=some u->(w.alloc (.cells #[a,b,c,d] 150)).cell? ((⟨w.heap.size,0,none⟩:Addr).add j)=some u:=by
 intro j u e;match j,e with
 |0,e=>simp at e;subst e;simp[Addr.add,go_sem]
 |1,e=>simp at e;subst e;simp[Addr.add,go_sem]
 |2,e=>simp at e;subst e;simp[Addr.add,go_sem]
 |3,e=>simp at e;subst e;simp[Addr.add,go_sem]
 |j+4,e=>simp at e
def vQ(l m n:Int)(b:ByteArray):∀u∈([.int .i64 l,.string b,.int .i64 m,.int .i64 n]:List Value),u.oneCell'=true:=by
 intro u a;simp at a;rcases a with rfl|rfl|rfl|rfl<;>rfl
def AO{a:Nat}{n:Nat}{k:List Value}(h:w.ownsRow b e a v n k):∃x c,v=.slice x n c:=by
 rcases h.2 with ⟨d,i⟩|⟨g,f,j,d,_⟩
 ·exact⟨none,0,by rw[d,i]⟩
 ·exact⟨_,f,d⟩
def lH(h:∀c∈l,c≠10):l.count 10=0:=List.count_eq_zero.2 λa=>h 10 a rfl
def wW(l:List UInt8)(h:(aT l).ok=true):(l.take (aT l).size).count 10=0:=by
 cases l with
 |nil=>simp[aT] at h
 |cons c r=>
  rw[aT] at h ⊢
  split
  ·rename_i i;rw[kN];refine lH λx a=>?_
   have:=iH _ _ x a;intro e;subst e;revert this
   cases bJ c<;>decide
  ·rename_i i;rw[if_neg i] at h;split
   ·rename_i b;rw[if_pos b] at h;have d:(decide (r[aP cL r]?=some 34) && decide (aP cL r<=100))=true:=h;rw[KQ,decide_eq_true_eq] at d
    have k:aP cL r<r.length:=by
     by_cases a:aP cL r<r.length
     ·exact a
     ·rw[KI o_] at d;exact absurd d.1 s_
    show ((c::r).take (aP cL r+1+1)).count 10=0
    rw[LJ,List.take_add_one,d.1];refine lH λx a=>?_
    rcases KE.1 a with rfl|a
    ·intro e;rw[e] at b;exact absurd b d_
    rcases LB.1 a with a|a
    ·have:=iH _ _ x a;intro e;subst e;exact absurd this d_
    ·intro e;rw[e] at a;exact absurd a d_
   ·rename_i b;rw[if_neg b] at h;unfold dZ at h ⊢
    cases f:bC.find? (λo=>bD (c::r) o) with
    |none=>rw[f] at h;simp at h
    |some o=>
     have j:=List.find?_some f;have m:=KP f
     have n:(c::r).take o.length=o:=by
      have g:=j;unfold bD at g;rw[fE _ _ (fL j)] at g;simpa using g
     show ((c::r).take o.length).count 10=0
     rw[n];have:∀o∈bC,o.count 10=0:=d_
     exact this o m
def CV(x:Except Nat (List aM))(w:World)(e:Ending)(w':World):Prop:=
 Below w.heap.size w w'/\
  match x with
  |.error n=>e=cA 3 n
  |.ok ts=>∃v,e=.returned v/\w'.ownsRow (w.heap.size+1) 150 4 v ts.length (ptoks ts)
def EZ(src:ByteArray)(w:World)(TS:Except Nat (List aM))(gk:Nat)(v:Value)(wr:World):Prop:=
 ∃(k f:Nat) (ts:List aM),k<=src.size/\src.size+1<=k+f/\src.size<=k+gk/\ts.length<=k/\SC w.heap.size src k (aL (src.data.toList.take k)) wr/\Fr w.heap.size w wr/\wr.ownsRow (w.heap.size+1) 150 4 v ts.length (ptoks ts)/\TS=eC ts (cP f (src.data.toList.take k) (src.data.toList.drop k))
def Fr.to_below(h:Fr w.heap.size w w'):Below w.heap.size w w':=⟨h.os,h.tape,h.output,h.size,λk a=>h.block k a o_⟩
def CU(a:ByteArray)(w:World)(hg:NTabs w)(V:PTabs w)(hs:a.size<=2000):
 Calls prog 79 #[.string a] w (CV (cR a.data.toList) w):=by
 obtain⟨i0,I,aa,al,ag⟩:=info_parts DZ;have C:=hg.big;have h0:SC w.heap.size a 0 (aL (a.data.toList.take 0)) (w.alloc (.cells #[.string a,.int .i64 0,.int .i64 1] 216)):=aW _ _ rfl _;have n:=aA (vE w.heap.size a 0 (w.alloc (.cells #[.string a,.int .i64 0,.int .i64 1] 216)) h0 o_ (LC _))
 simp only[List.drop_zero,Nat.zero_add] at n;obtain⟨U,G⟩:=E_ (Hs.blankL a.size a.data.toList);have am:U<=a.size:=by have:=gL a.size a.data.toList;rw[G];simpa using this
 rw[<-G] at n;obtain⟨E,t⟩:=E_ (cR a.data.toList)
 have o:Hid (E=cP (a.size+1) (a.data.toList.take U) (a.data.toList.drop U)):=by
  show _=_
  rw[t];unfold cR;rw[show a.data.toList.length=a.size by simp,<-G]
 rw[<-t];have ae:Hid (Fr w.heap.size w (w.alloc (.cells #[.string a,.int .i64 0,.int .i64 1] 216))):=(Fr.refl _ _).alloc _;have HG:=aA hg;have HM:=aA V;clear h0 hg V G t;go_enter func79,ntmps79;go_wp2_with fail;refine n.out.mono ?_;rintro e w1 ⟨rfl,ah,ao⟩;have HI:Hid (EZ a w E a.size (.slice none 0 0) w1):=⟨U,a.size+1,[],am,o_,o_,s_,ah,ae.out.trans ao,World.ownsRow_nil _ _ _ _,by rw[o.out,jT]⟩
 clear ah ao n o ae;go_wp2_with fail;go_loopg [4] a.size (λgk v wr=>EZ a w E gk v wr)
 case atStart=>exact HI.out
 case round=>
  obtain⟨k,f,y,hk,hf,bc,bb,M,S,g,t⟩:=hrel
  have hL:aL (a.data.toList.take k)<=k+1:=by
   have:=gJ (a.data.toList.take k);have:=LQ k a.data.toList;omega
  obtain⟨h0,c0,c1,c2,f1,f2⟩:=M.cells;have ba:=S.size;have aw:=aA M;have z:=aA S;have o:=aA t;obtain⟨x,c,rfl⟩:=AO g;have H:∀k,(Value.slice x y.length c).ownBlock=some k->w.heap.size+1<=k:=bA g;clear HI M S t;by_cases Z:k<a.size
  ·obtain⟨f,rfl⟩:∃f',f=f'+1:=⟨f-1,o_⟩
   obtain⟨j,rfl⟩:∃j,gk=j+1:=⟨gk-1,o_⟩
   have ak:decide ((k:Int)<(a.size:Int))=true:=decide_eq_true o_
   have hl:(a.data.toList.drop k).length=a.size-k:=s_
   have F:=aA (AK w.heap.size a k (aL (a.data.toList.take k)) wr aw.out (HG.out.fr z.out C) (HM.out.fr z.out C) C o_ Z)
   cases p:(aT (a.data.toList.drop k)).ok
   ·have HF:Hid (E=.error (aL (a.data.toList.take k))):=by
     show _=_
     rw[o.out,fJ _ _ _ o_ p];rfl
    have Q:=aA p;clear o hl p;generalize aL (a.data.toList.take k)=L at*;go_wp2_with fail;refine F.out.mono ?_;rintro e w2 ⟨s,⟨l,_,_⟩|⟨l,rfl⟩⟩
    ·rw[Q.out] at l;cases l
    have B:=aA (z.out.trans s);clear s l F;go_wp2_with fail;rw[HF.out];exact⟨rfl,B.out.to_below,rfl⟩
   ·have ap:=gI _ p;rw[hl] at ap;have an:=wW _ p;obtain⟨m,V⟩:=E_ (k+(aT (a.data.toList.drop k)).size+Hs.blankL a.size (a.data.toList.drop (k+(aT (a.data.toList.drop k)).size)))
    have ar:m<=a.size:=by
     have:=gL a.size (a.data.toList.drop (k+(aT (a.data.toList.drop k)).size));rw[KS,show a.data.toList.length=a.size by simp] at this
     omega
    have HT:=uT a k f Z p m V
    have HF:Hid (E=eC (y++[{ sort:=(aT (a.data.toList.drop k)).sort,x_:=(aT (a.data.toList.drop k)).x_,l_:=aL (a.data.toList.take k) }]) (cP f (a.data.toList.take m) (a.data.toList.drop m))):=by
     show _=_
     rw[o.out,HT,jG]
    have Y:aL (a.data.toList.take (k+(aT (a.data.toList.drop k)).size))=aL (a.data.toList.take k):=by
     rw[List.take_add,eY,an];rfl
    have n:=aA (λW (hW:SC w.heap.size a (k+(aT (a.data.toList.drop k)).size) (aL (a.data.toList.take (k+(aT (a.data.toList.drop k)).size))) W)=>vE w.heap.size a _ W hW o_ o_)
    rw[Y] at n;simp only[<-V] at n;have Q:=aA p;have az:k<m:=o_
    clear o hl p HT an Y V;generalize aT (a.data.toList.drop k)=r at*;obtain⟨pa,T⟩:=E_ (psort r.sort);obtain⟨pb,J⟩:=E_ (pval ⟨r.sort,r.x_,aL (a.data.toList.take k)⟩);have ad:Hid (iI ⟨r.sort,r.x_,aL (a.data.toList.take k)⟩=.agg #[.int .i64 pa,.string (bs r.x_),.int .i64 pb,.int .i64 (aL (a.data.toList.take k))]):=by show _=_;rw[T,J];rfl
    have aq:Hid (ptok ⟨r.sort,r.x_,aL (a.data.toList.take k)⟩=[.int .i64 pa,.string (bs r.x_),.int .i64 pb,.int .i64 (aL (a.data.toList.take k))]):=by show _=_;rw[T,J];rfl
    clear T J;generalize aL (a.data.toList.take k)=L at*;have P:=aA H;have ai:=aA g;clear g H;go_wp2_with fail;refine F.out.mono ?_;rintro e w2 ⟨s,⟨l,rfl,K⟩|⟨l,rfl⟩⟩
    rotate_left
    ·rw[Q.out] at l;cases l
    rw[ad.out];have u:=bX (w1:=w2) ai.out λi I=>s.block i (cH ai.out i I) (by have:=P.out i I;omega)
    have B:=aA (z.out.trans s);have ab:=aA K;have ay:=B.out.size;have af:=aD K;clear s l K F ad;go_wp2_with (at_builtin;refine wpList_append_lies _ r_ _ _ 99 r_ (w.heap.size+1) 150 i0 _ 4 40 underlying99 I aa al ag rfl d_ _ _ _ r_ (u.alloc _) ⟨w2.heap.size,0,none⟩ 1 1 [.int .i64 pa,.string (bs r.x_),.int .i64 pb,.int .i64 L] r_ r_ (sO _ _ _ _ _) (vQ _ _ _ _) d_ (by unfold maxLen;omega) o_ t_ (w2.heap.size+1) s_ ?_)
    intro g7 q X d b D au;have O:=aA ((B.out.alloc _).grown b (λk hk=>by have:=P.out k hk;omega))
    have ax:Hid (SC w.heap.size a (k+r.size) L X):=by
     show _=_
     rw[b.block _ t_ (λe=>by have:=P.out _ e.symm;omega),JZ _ _ _ af]
     exact ab.out
    have A:Hid (X.ownsRow (w.heap.size+1) 150 4 (.slice (some ⟨g7,0,none⟩) (y.length+1) q) (y++[(⟨r.sort,r.x_,L⟩:aM)]).length (ptoks (y++[⟨r.sort,r.x_,L⟩]))):=by
     rw[qB,aq.out,KN];exact d
    have aj:=aA (n.out X ax.out);clear u d b D ab B n;go_wp2_with fail;refine aj.out.mono ?_;rintro e w8 ⟨rfl,ac,N⟩
    have av:Hid (EZ a w E j (.slice (some ⟨g7,0,none⟩) (y.length+1) q) w8):=by
     refine⟨m,f,y++[⟨r.sort,r.x_,L⟩],ar,o_,o_,t_,ac,O.out.trans N,?_,HF.out⟩
     exact bX A.out λi I=>N.block i (cH A.out i I) (by have:=bA A.out i I;omega)
    clear ac N aj;go_wp2_with fail;go_roundg j
    case measure=>omega
    case rel=>exact av.out
  ·obtain⟨f,rfl⟩:∃f',f=f'+1:=⟨f-1,o_⟩
   have HF:Hid (E=.ok (y++[{ sort:=101,x_:=[],l_:=aL (a.data.toList.take k) }])):=by
    show _=_
    rw[o.out,fI _ _ _ t_];rfl
   have ak:decide ((k:Int)<(a.size:Int))=false:=decide_eq_false o_
   clear o;generalize aL (a.data.toList.take k)=L at*;go_wp2_with (at_builtin;refine wpList_append_lies _ r_ _ _ 99 r_ (w.heap.size+1) 150 i0 _ 4 40 underlying99 I aa al ag rfl d_ _ _ _ r_ (g.alloc _) ⟨wr.heap.size,0,none⟩ 1 1 [.int .i64 4,.string ⟨#[]⟩,.int .i64 0,.int .i64 L] r_ r_ (sO _ _ _ _ _) (vQ _ _ _ _) d_ (by unfold maxLen;omega) o_ t_ (wr.heap.size+1) s_ ?_)
   intro g7 q X d b D au;have O:=aA ((z.out.alloc _).grown b (λk hk=>by have:=H k hk;omega))
   have A:Hid (X.ownsRow (w.heap.size+1) 150 4 (.slice (some ⟨g7,0,none⟩) (y.length+1) q) (y++[(⟨101,[],L⟩:aM)]).length (ptoks (y++[⟨101,[],L⟩]))):=by
    rw[qB,KN];exact d
   clear g d b D H;go_wp2_with fail;go_ret;rw[HF.out];exact⟨O.out.to_below,_,rfl,A.out⟩
def yO(a:ByteArray)(w:World)(_hs:a.size<=maxLen):
 Calls prog 77 #[.string a] w λe d=>d=w/\((a.size<=2000/\e=.returned (.tuple #[]))\/(2000<a.size/\e=cA 1 0)):=by
 by_cases h:a.size<=2000
 ·have c:decide ((2000:Int)<(a.size:Int))=false:=decide_eq_false o_
  go_enter func77,ntmps77;go_wp2_with fail;go_end0;exact⟨rfl,JX ⟨h,rfl⟩⟩
 ·have c:decide ((2000:Int)<(a.size:Int))=true:=decide_eq_true o_
  go_enter func77,ntmps77;go_wp2_with (go_at_call 83;refine(eG 1 0 _).mono ?_;rintro e f ⟨rfl,b⟩;obtain rfl:=b.symm)
  exact⟨rfl,rfl,JR ⟨o_,rfl⟩⟩
def uH{c:Nat}{x:UInt8}(h:x∈l.take c):∃i,i<c/\l[i]?=some x:=by
 obtain⟨i,b,e⟩:=List.mem_iff_getElem.1 h;have a:=b;rw[KH] at a;refine⟨i,o_,?_⟩
 rw[List.getElem_take] at e;rw[KR o_,e]
def nB{lo a:Nat}(h:bK l i lo a=true){x:UInt8}(b:l[i]?=some x):lo<=x.toNat:=by
 unfold bK at h;rw[b] at h;simp at h;exact h.1
def wH(h:2<=cJ l):(l.take (cJ l)).count 10=0:=by
 refine lH λx o=>?_
 obtain⟨i,c,e⟩:=uH o;suffices 128<=x.toNat by intro e;rw[e] at this;exact absurd this d_
 revert h c
 unfold cJ;cases m:l[0]? with
 |none=>simp
 |some b=>
  simp only;have d:i=0->x=b:=λg=>by subst g;rw[m] at e;exact(Option.some.inj e).symm
  split
  ·intro h;omega
  ·rename_i k;split
   ·rename_i f;split
    ·rename_i a;intro _ c;match i,c with
     |0,_=>rw[d rfl];omega
     |1,_=>exact nB a e
    ·intro h;omega
   ·split
    ·rename_i n;by_cases a:(bK l 1 (if b.toNat=224 then 160 else 128) (if b.toNat=237 then 159 else 191) && bK l 2 128 191)=true
     ·rw[if_pos a];rw[KQ] at a;intro _ c;match i,c with
      |0,_=>rw[d rfl];omega
      |1,_=>have:=nB a.1 e;split at this<;>omega
      |2,_=>exact nB a.2 e
     ·rw[if_neg a];intro h;omega
    ·split
     ·rename_i j;by_cases a:(bK l 1 (if b.toNat=240 then 144 else 128) (if b.toNat=244 then 143 else 191) && bK l 2 128 191 && bK l 3 128 191)=true
      ·rw[if_pos a];rw[KQ,KQ] at a;intro _ c;match i,c with
       |0,_=>rw[d rfl];omega
       |1,_=>have:=nB a.1.1 e;split at this<;>omega
       |2,_=>exact nB a.1.2 e
       |3,_=>exact nB a.2 e
      ·rw[if_neg a];intro h;omega
     ·intro h;omega
def GQ(n a b c d:Nat)(e:a<256):(Lib.decodeN n a b c d).1<=1114111:=by
 unfold Lib.decodeN;repeat' split
 all_goals (simp only;omega)
def IQ(a:ByteArray)(k:Nat)(p:k<a.size):∃r z,Lib.decodeGo (a.extract k a.size)=(r,z)/\r<=1114111/\
 ((cJ (a.data.toList.drop k)=0/\r=65533/\z=1)\/(cJ (a.data.toList.drop k)≠0/\z=cJ (a.data.toList.drop k)/\¬(r=65533/\z=1)/\(r=10↔a[k].toNat=10))):=by
 have m:(a.extract k a.size).size=a.size-k:=s_
 have b:0<(a.extract k a.size).size:=o_
 have j:((a.extract k a.size).get! 0).toNat=a[k].toNat:=by rw[qP _ 0 b];simp[ByteArray.getElem_extract]
 have f:=GU (a.extract k a.size) b;rw[gY] at f
 have h:Lib.decodeGo (a.extract k a.size)=Lib.decodeN (a.extract k a.size).size ((a.extract k a.size).get! 0).toNat ((a.extract k a.size).get! 1).toNat ((a.extract k a.size).get! 2).toNat ((a.extract k a.size).get! 3).toNat:=by
  unfold Lib.decodeGo;rw[if_neg o_,Lib.decode_at];rfl
 obtain⟨g,d⟩:=EN (a.extract k a.size).size ((a.extract k a.size).get! 0).toNat ((a.extract k a.size).get! 1).toNat ((a.extract k a.size).get! 2).toNat ((a.extract k a.size).get! 3).toNat (LS _) (LS _) (LS _) (LS _);have i:=GQ (a.extract k a.size).size ((a.extract k a.size).get! 0).toNat ((a.extract k a.size).get! 1).toNat ((a.extract k a.size).get! 2).toNat ((a.extract k a.size).get! 3).toNat (LS _);rw[<-f] at g d;rw[<-h] at g d i;rw[j] at d;clear h f;generalize Lib.decodeGo (a.extract k a.size)=D at*;obtain⟨r,z⟩:=D;refine⟨r,z,rfl,i,?_⟩;by_cases e:cJ (a.data.toList.drop k)=0
 ·have:=g e;cases this;exact JX ⟨e,rfl,rfl⟩
 ·obtain⟨n,l,o⟩:=d e;have c:z=cJ (a.data.toList.drop k):=n;exact JR ⟨e,c,by rw[c];exact l,o⟩
def oY(h:Lib.Utf8Tabs 4 5 w)(a:Below w.heap.size w w')(e:11<=w.heap.size):Lib.Utf8Tabs 4 5 w':=
 ⟨λc d=>(a.cell (p:=⟨4,c,none⟩) (by show 4<_;omega)).trans (h.1 c d),λi b=>⟨(a.cell (p:=⟨5,2*i,none⟩) (by show 5<_;omega)).trans (h.2 i b).1,(a.cell (p:=⟨5,2*i+1,none⟩) (by show 5<_;omega)).trans (h.2 i b).2⟩⟩
def GO(x:Option Nat)(l:List UInt8)(w:World)(e:Ending)(w':World):Prop:=
 Below w.heap.size w w'/\
  match x with
  |none=>e=.returned (.tuple #[])
  |some k=>e=cA 2 (aL (l.take k))
def GN(a:ByteArray)(w:World)(O:Lib.Utf8Tabs 4 5 w)(Z:11<=w.heap.size)(hs:a.size<=2000):
 Calls prog 78 #[.string a] w (GO (bH a.size a.data.toList 0) a.data.toList w):=by
 have S:=aA O;obtain⟨X,G⟩:=E_ (bH a.size a.data.toList 0);rw[<-G];have I:Hid (X=bH a.size (a.data.toList.drop 0) 0):=G;clear O G;go_enter func78,ntmps78;go_wp2_with fail;go_loopg [2,3,4,5] a.size (λgk lv iv _ _ wr=>∃k f:Nat,k<=a.size/\a.size<=k+f/\a.size<=k+gk/\iv=.int .i64 k/\lv=.int .i64 (aL (a.data.toList.take k))/\Below w.heap.size w wr/\Hid (X=bH f (a.data.toList.drop k) k))
 case atStart=>exact⟨0,a.size,LC _,o_,o_,rfl,rfl,JU _ _,I⟩
 case round=>
  obtain⟨k,f,hk,hf,W,rfl,rfl,D,x⟩:=hrel
  have hL:aL (a.data.toList.take k)<=k+1:=by
   have:=gJ (a.data.toList.take k);have:=LQ k a.data.toList;omega
  have t:=aA D;by_cases q:k<a.size
  ·obtain⟨f,rfl⟩:∃f',f=f'+1:=⟨f-1,o_⟩
   obtain⟨j,rfl⟩:∃j,gk=j+1:=⟨gk-1,o_⟩
   have d:0<(a.data.toList.drop k).length:=t_
   obtain⟨r,z,M,hr,hc⟩:=IQ a k q;have u:=aA (utf8_DecodeRuneInString (a.extract k a.size) wr (oY S.out D Z));rw[M] at u;clear M D;rcases hc with ⟨g,rfl,rfl⟩|⟨g,o,B,c⟩
   ·have v:Hid (X=some k):=by show _=_;rw[x.out,nL _ _ _ d g]
    generalize A:aL (a.data.toList.take k)=L at*;have H:=aA A;clear x g d A;go_wp2_with fail;refine u.out.mono ?_;rintro e K ⟨rfl,b⟩;have i:=aA (t.out.trans (b.mono t.out.size));clear b u;go_wp2_with (go_at_call 83;refine(eG 2 L _).mono ?_;rintro e w3 ⟨rfl,hw⟩;obtain rfl:=hw.symm)
    rw[v.out];exact⟨rfl,i.out,congrArg (cA 2) H.out.symm⟩
   ·have v:Hid (X=bH f (a.data.toList.drop (k+z)) (k+z)):=by
     show _=_
     rw[x.out,lU _ _ _ d g,LM,<-o]
    have Y:z<=a.size-k:=by rw[o];have:=nD (a.data.toList.drop k);simpa using this
    have V:1<=z:=o_
    have C:aL (a.data.toList.take (k+z))=aL (a.data.toList.take k)+if r=10 then 1 else 0:=by
     by_cases h2:2<=z
     ·have J:=wH (l:=a.data.toList.drop k) o_
      rw[<-o] at J;rw[List.take_add,eY,J];rw[if_neg];intro e;have T:=c.1 e
      have P:a[k]∈(a.data.toList.drop k).take z:=by
       rw[cM a k q];obtain⟨y,rfl⟩:∃y,z=y+1:=⟨z-1,o_⟩
       rw[LJ];exact KW ..
      exact List.count_eq_zero.1 J (by have:a[k]=10:=LR.1 T;rw[this] at P;exact P)
     ·obtain rfl:z=1:=o_
      rw[sT a k q];congr 1
      by_cases E:r=10
      ·rw[if_pos E,if_pos (LR.1 (c.1 E))]
      ·rw[if_neg E,if_neg (λe=>E (c.2 (by rw[e];rfl)))]
    have m:=aA C;generalize aL (a.data.toList.take k)=L at*
    have p:((r:Int)==65533)=false\/((r:Int)==65533)=true/\((z:Int)==1)=false:=by
     by_cases U:r=65533
     ·refine JR ⟨t_,?_⟩
      simp;intro e;exact B ⟨U,o_⟩
     ·exact JX t_
    have F:(a.data.toList.drop k).length=a.size-k:=s_
    clear x g d o c C B F;by_cases n:r=10
    ·have e1:((r:Int)==10)=true:=t_
     have Q:((r:Int)==65533)=false:=t_
     have s:Hid (aL (a.data.toList.take (k+z))=L+1):=by show _=_;rw[m.out,if_pos n]
     clear p n m;go_wp2_with fail;refine u.out.mono ?_;rintro e K ⟨rfl,b⟩;have i:=aA (t.out.trans (b.mono t.out.size));clear b u;go_wp2_with fail;go_roundg j
     case measure=>omega
     case rel=>exact⟨k+z,f,o_,o_,o_,by go_num,by rw[s.out];go_num,i.out,v⟩
    ·have e1:((r:Int)==10)=false:=t_
     have s:Hid (aL (a.data.toList.take (k+z))=L):=by show _=_;rw[m.out,if_neg n];rfl
     clear n m;rcases p with Q|⟨Q,e3⟩
     all_goals
      go_wp2_with fail;refine u.out.mono ?_;rintro e K ⟨rfl,b⟩;have i:=aA (t.out.trans (b.mono t.out.size));clear b u;go_wp2_with fail;go_roundg j
      case measure=>omega
      case rel=>exact⟨k+z,f,o_,o_,o_,by go_num,by rw[s.out],i.out,v⟩
  ·have v:Hid (X=none):=by show _=_;rw[x.out,nK _ _ _ t_]
   have N:decide ((k:Int)<(a.size:Int))=false:=decide_eq_false o_
   clear x D;generalize aL (a.data.toList.take k)=L at*;go_wp2_with fail;go_end0;rw[v.out];exact⟨t.out,rfl⟩
structure gO(w:World):Prop where
 n:NTabs w
 p:PTabs w
 u:Lib.Utf8Tabs 4 5 w
def gO.below(h:gO w)(a:Below w.heap.size w w'):gO w':=
 ⟨h.n.fr (sb:=w.heap.size) ⟨a.os,a.tape,a.output,a.size,λk b _=>a.block k b⟩ h.n.big,h.p.fr (sb:=w.heap.size) ⟨a.os,a.tape,a.output,a.size,λk b _=>a.block k b⟩ h.n.big,oY h.u a h.n.big⟩
def FineA.kid{m:Nat}{f k:aC}(h:Hs.FineA m f)(a:k∈f.y_):Hs.FineA m k:=λd=>by
 have b:=h (d+1);refine⟨?_,b.2.2 k a⟩;have c:=b.1;rw[aX] at c;have:=lB (f:=aX d) a;omega
def FineA.y_{m:Nat}{f:aC}(h:Hs.FineA m f)(d:Nat):f.y_.length<=m/\(f.y_.map (aX d)).sum<=m:=by
 have b:=(h (d+1)).1;have a:=(h 2).1;rw[aX] at b a;have c:f.y_.length<=(f.y_.map (aX 1)).sum:=fW 0 f.y_;exact⟨o_,o_⟩
def kK(l:List UInt8):Except (Nat × Nat) (List aM):=
 if 2000<l.length then .error (1,0)
 else match bH l.length l 0 with
  |some k=>.error (2,aL (l.take k))
  |none=>
   match cR l with
   |.error n=>.error (3,n)
   |.ok ts=>.ok ts
def qF(l:List UInt8):cU l=match kK l with
 |.error f=>.error f
 |.ok a=>match eN a with
  |.error n=>.error (4,n)
  |.ok (b,_)=>.ok b:=by
 unfold cU kK;by_cases h:2000<l.length
 ·rw[if_pos h,if_pos h]
 ·rw[if_neg h,if_neg h];cases bH l.length l 0 with
  |some k=>rfl
  |none=>
   cases cR l with
   |error n=>rfl
   |ok a=>rfl
def zN{ts:List aM}(h:kK l=.ok ts):cR l=.ok ts/\l.length<=2000:=by
 unfold kK at h;split at h
 ·cases h
 ·split at h
  ·cases h
  ·split at h
   ·cases h
   ·cases h;exact⟨by assumption,o_⟩
def AL{f:Nat × Nat}(h:kK l=.error f):f.1≠0:=by
 unfold kK at h;split at h
 ·cases h;simp
 ·split at h
  ·cases h;simp
  ·split at h
   ·cases h;simp
   ·cases h
def xP(l:List UInt8)(w:World)(e:Ending)(w':World):Prop:=
 Below w.heap.size w w'/\
  match kK l with
  |.error f=>e=cA f.1 f.2
  |.ok ts=>∃v,e=.returned (.agg #[v,.int .i64 0])/\w'.ownsRow w.heap.size 150 4 v ts.length (ptoks ts)
def sI(l:List UInt8)(w:World)(e:Ending)(w':World):Prop:=
 Below w.heap.size w w'/\((bL l=(0,0)/\∃v ks,e=.returned v/\cU l=.ok ks/\FSl (Btw w.heap.size w'.heap.size) w' v ks)\/((bL l).1≠0/\e=cA (bL l).1 (bL l).2))
def xY{ks:List aC}(d:Nat)(h:jX ks=false)(b:∀f∈ks,1<=f.y_.length):eR d ks=(5,0):=by
 unfold eR;unfold jX fO at h;cases a:bN ks [109,97,105,110] with
 |none=>rfl
 |some m=>
  rw[a] at h;have g:=b m (KP a)
  have c:¬m.y_.length-1=0:=by
   intro e;rw[show (([109,97,105,110]:List UInt8)==[108,101,110])=false by decide,show (([109,97,105,110]:List UInt8)==[114,101,97,100])=false by decide] at h
   simp[e] at h
  show (if 1<m.y_.length then _ else _)=_
  rw[if_pos o_]
def DT{ks:List aC}(d:Nat)(h:jX ks=true):eR d ks=((cD ks d [] ks ⟨[],0,0⟩).kind,(cD ks d [] ks ⟨[],0,0⟩).l_):=by
 unfold eR;unfold jX fO at h;rw[show (([109,97,105,110]:List UInt8)==[108,101,110])=false by decide,show (([109,97,105,110]:List UInt8)==[114,101,97,100])=false by decide] at h
 cases a:bN ks [109,97,105,110] with
 |none=>rw[a] at h;simp at h
 |some m=>
  rw[a] at h;simp at h;show (if 1<m.y_.length then _ else _)=_
  rw[if_neg o_]
def FSl.grow{G:Nat->Prop}{i:List aC}(h:FSl F w v i)(e:∀b,F b->w'.heap[b]?=w.heap[b]?)(f:∀b,F b->G b):FSl G w' v i:=by
 rcases h with h|⟨g,a,c,o,k,d,m,j,l,n⟩
 ·exact JX h
 ·exact JR ⟨g,a,c,o,k,f g d,by rw[e g d];exact m,j,l,n.mono λ_ _ h=>h.keep e f⟩
def IK{ts:List aM}(h:w.ownsRow b 150 4 v ts.length (ptoks ts))(k:0<ts.length):∃g c a,v=.slice (some ⟨g,0,none⟩) ts.length c/\b<=g/\ts.length<=c/\w.heap[g]?=some (.cells a 150 (0,0))/\a.toList.take (ts.length*4)=ptoks ts:=by
 rcases h.2 with ⟨e,d⟩|⟨g,c,a,e,d,i,f,m,l,j⟩
 ·omega
 ·exact⟨g,c,a,e,d,f,i,j⟩
def uD(b:ByteArray)(w:World)(Y:gO w)(hs:b.size<=maxLen):
 Calls prog 42 #[.string b] w (xP b.data.toList w):=by
 have K:b.data.toList.length=b.size:=s_
 obtain⟨l,U⟩:=E_ (b.data.toList);rw[<-U] at K ⊢
 obtain⟨E,s⟩:=E_ (w.alloc (.cells #[.slice none 0 0,.int .i64 0] 101));have D:Below w.heap.size w E:=by rw[s];exact(JU _ _).alloc (JS _) _
 have q:E.heap[w.heap.size]?=some (.cells #[.slice none 0 0,.int .i64 0] 101 (0,0)):=by rw[s];exact aW _ _ rfl _
 have Z:E.heap.size=w.heap.size+1:=by rw[s];simp
 have H:=aA (yO b E hs);have HL:=aA U;have O:=aA (Y.below D);have f:=aA D;have V:=aA q;have P:=aA s;clear U Y D q s;go_enter func42,ntmps42;go_wp2_with fail;rw[<-P.out];refine H.out.mono ?_;rintro e W ⟨S,⟨C,rfl⟩|⟨C,rfl⟩⟩
 rotate_left
 ·obtain rfl:=S.symm
  have B:Hid (kK l=.error (1,0)):=by
   show _=_
   unfold kK;rw[if_pos o_]
  go_wp2_with fail;exact⟨rfl,f.out,by rw[B.out];rfl⟩
 obtain rfl:=S.symm;have N:=aA (GN b E O.out.u O.out.n.big C);rw[<-HL.out,<-K] at N;have A:¬2000<l.length:=o_
 clear S H;go_wp2_with fail;refine N.out.mono ?_;rintro e W ⟨o,z⟩;cases m:bH l.length l 0 with
 |some k=>
  rw[m] at z;obtain rfl:e=cA 2 (aL (l.take k)):=z;have B:Hid (kK l=.error (2,aL (l.take k))):=by show _=_;unfold kK;rw[if_neg A,m]
  have d:=aA (f.out.trans (o.mono f.out.size));clear o N m;go_wp2_with fail;exact⟨rfl,d.out,by rw[B.out];rfl⟩
 |none=>
  rw[m] at z;obtain rfl:e=.returned (.tuple #[]):=z;have t:=aA (CU b W (O.out.below o).n (O.out.below o).p C);rw[<-HL.out] at t;have d:=aA o
  have M:kK l=match cR l with
   |.error n=>.error (3,n)
   |.ok L=>.ok L:=by unfold kK;rw[if_neg A,m]
  have u:=aA M;clear o N m M;go_wp2_with fail;refine t.out.mono ?_;rintro e w2 ⟨r,y⟩;cases j:cR l with
  |error n=>
   rw[j] at y;obtain rfl:e=cA 3 n:=y;have B:Hid (kK l=.error (3,n)):=by show _=_;rw[u.out,j]
   have F:=aA (f.out.trans ((d.out.trans (r.mono d.out.size)).mono f.out.size));clear r t j u;go_wp2_with fail;exact⟨rfl,F.out,by rw[B.out];rfl⟩
  |ok L=>
   rw[j] at y;obtain⟨v,rfl,p⟩:=y
   obtain⟨x,c,rfl⟩:∃x c,v=.slice x L.length c:=by
    rcases p.2 with ⟨G,r2⟩|⟨g,I,J,G,_⟩
    ·exact⟨none,0,by rw[G,r2]⟩
    ·exact⟨_,_,G⟩
   have B:Hid (kK l=.ok L):=by show _=_;rw[u.out,j]
   have X:=d.out.size
   have a:w2.heap[w.heap.size]?=some (.cells #[.slice none 0 0,.int .i64 0] 101 (0,0)):=by
    rw[r.block _ o_,d.out.block _ o_];exact V.out
   have aa:=aD a;have m0:=aB a (i:=0) rfl;have m1:=aB a (i:=1) rfl;have fz:=aI a (i:=0);have ab:=aI a (i:=1);have F:=aA (f.out.trans ((d.out.trans (r.mono d.out.size)).mono f.out.size));have Q:=aA p;clear p r t j u a;go_wp2_with fail;refine bodyPost_ret (v:=.agg #[.slice x L.length c,.int .i64 0]) (by simp[results,results42,go_sem,m0,m1]) rfl ?_
   refine⟨(F.out.setCell s_ _).setCell s_ _,?_⟩
   rw[B.out];refine⟨_,rfl,?_⟩;have T:=Q.out;rcases T.2 with hn|⟨g,I,J,G,r2,r3,r4⟩
   ·exact⟨T.1,JX hn⟩
   ·refine⟨T.1,JR ⟨g,I,J,G,o_,?_,r4⟩⟩
    rw[JW _ _ _ _ (by show g≠w.heap.size;omega),JW _ _ _ _ (by show g≠w.heap.size;omega)]
    exact r3
def AT(B:ByteArray)(w:World)(hT:gO w)(hs:B.size<=maxLen):
 Calls prog 24 #[.string B] w (sI B.data.toList w):=by
 have H:=aA (uD B w hT hs);obtain⟨l,hl⟩:=E_ (B.data.toList);rw[<-hl] at H ⊢
 clear hl hT;go_enter func24,ntmps24;go_wp2_with fail;refine H.out.mono ?_;rintro e F ⟨K,O⟩
 cases j:kK l with
  |error f=>
   rw[j] at O;obtain rfl:e=cA f.1 f.2:=O;have S:Hid (bL l=f):=by show _=_;unfold bL;rw[qF,j]
   have HK:=aA (AL j);have z:=aA K;clear K H j;go_wp2_with fail;exact⟨rfl,z.out,by rw[S.out];exact JR ⟨HK.out,rfl⟩⟩
  |ok I=>
   rw[j] at O;obtain⟨v,rfl,P⟩:=O;have V:=(zN j).1;have aq:=(zN j).2;have i:=iA V
   have ad:cU l=match eN I with
    |.error n=>.error (4,n)
    |.ok (d,_)=>.ok d:=by rw[qF,j]
   have J:=aA ad;obtain⟨g,p,aj,rfl,hg,Z,E,Q⟩:=IK P i.1.some_;have ak:=aD E
   have ag:PAt ⟨F.heap.size,g,p,I⟩ (F.alloc (.cells #[.slice (some ⟨g,0,none⟩) I.length p,.int .i64 0] 101)) 0:=
    ⟨aW _ _ rfl _,⟨aj,dO _ _ ak _ E,Q⟩,by show g≠F.heap.size;omega,i.1.some_,by show I.length<=3000;omega,Z,i.1,uU V⟩
   have HP:=aA (vH ⟨F.heap.size,g,p,I⟩ (F.alloc (.cells #[.slice (some ⟨g,0,none⟩) I.length p,.int .i64 0] 101)) ag (aY.prog i.1.ok i.1.some_));have z:=aA K;clear P K H j V ad ag E Q i;go_wp2_with fail;refine HP.out.mono ?_;rintro e w3 ⟨o,M⟩;have T:Below F.heap.size F w3:=⟨o.os.trans rfl,o.tape.trans rfl,o.output.trans rfl,KM s_ o.size,λk hk=>by rw[o.block k t_ (by show k≠F.heap.size;omega)];exact JZ _ _ _ hk⟩
   have C:=aA (z.out.trans (T.mono z.out.size));cases s:eN I with
   |error n=>
    rw[s] at M;obtain rfl:e=cA 4 n:=M;have S:Hid (bL l=(4,n)):=by show _=_;unfold bL;rw[J.out,s]
    clear o T HP s J;go_wp2_with fail;exact⟨rfl,C.out,by rw[S.out];exact JR ⟨s_,rfl⟩⟩
   |ok kq=>
    obtain⟨d,q⟩:=kq;rw[s] at M;obtain⟨_,v3,rfl,af⟩:=M;have L:cU l=.ok d:=by rw[J.out,s]
    have a:=lT L;have S:Hid (bL l=eR 2001 d):=by show _=_;unfold bL;rw[L]
    have ar:=FineL.len a;have U:∀f∈d,f.y_.length<=90000:=λf hf=>by have:=(FineA.y_ (FineL.mem a hf) 0).1;omega
    have ae:∀f∈d,∀k∈f.y_,dD 2001 k:=λf hf k hk=>iC 2001 k (FineA.kid (FineL.mem a hf) hk)
    have ab:∀f∈d,f.y_.length+(f.y_.map (aX 2001)).sum<=90000:=λf hf=>by have:=FineA.y_ (FineL.mem a hf) 2001;omega
    have y:FSl (Btw (F.alloc (.cells #[.slice (some ⟨g,0,none⟩) I.length p,.int .i64 0] 101)).heap.size w3.heap.size) w3 v3 d:=af
    obtain⟨fx,fc,rfl⟩:∃x c,v3=.slice x d.length c:=by
     rcases y.cells with ⟨h1,h2⟩|⟨g,p,h1,_⟩
     ·exact⟨none,0,by rw[h1,h2];rfl⟩
     ·exact⟨_,_,h1⟩
    have Y:=aA y.y_;have HM:=aA (zA d _ _ w3 o_ U y)
    have X:=aA y;have ac:=aA U;have ai:=aA ae;have aa:=aA ab;have al:=aA L;clear o T HP s J af L a U ae ab y;go_wp2_with fail;refine HM.out.mono ?_;rintro e w4 ⟨m,⟨A,rfl⟩|⟨A,rfl⟩⟩
    rotate_left
    ·have t:=aA (C.out.trans (m.mono C.out.size));have N:Hid (bL l=(5,0)):=by show _=_;rw[S.out,xY 2001 A Y.out]
     clear m A HM;go_wp2_with fail;exact⟨rfl,t.out,by rw[N.out];exact JR ⟨d_,rfl⟩⟩
    have t:=aA (C.out.trans (m.mono C.out.size));have N:Hid (bL l=((cD d 2001 [] d ⟨[],0,0⟩).kind,(cD d 2001 [] d ⟨[],0,0⟩).l_)):=by show _=_;rw[S.out,DT 2001 A]
    have HN:=aA (wG (F.alloc (.cells #[.slice (some ⟨g,0,none⟩) I.length p,.int .i64 0] 101)).heap.size d (.slice fx d.length fc) w4 2001 o_ ac.out (X.out.grow (λb r=>m.block b r.2) λb r=>⟨r.1,JY r.2 m.size⟩) ai.out aa.out)
    have am:=aA (X.out.grow (G:=Btw w.heap.size w4.heap.size) (λb r=>m.block b r.2) λb r=>⟨by have h1:=r.1;have h2:=z.out.size;simp at h1;omega,JY r.2 m.size⟩)
    clear m A HM S ac ai aa Y X;generalize (cD d 2001 [] d ⟨[],0,0⟩).kind=kd at*;generalize (cD d 2001 [] d ⟨[],0,0⟩).l_=ld at*;go_wp2_with fail;refine HN.out.mono ?_;rintro e w5 ⟨u,⟨D,ah,rfl⟩|⟨D,rfl⟩⟩
    ·have W:=aA (t.out.trans (u.mono t.out.size));have ap:Hid (bL l=(0,0)):=by show _=_;rw[N.out,D,ah]
     have an:=aA (am.out.grow (G:=Btw w.heap.size w5.heap.size) (λb r=>u.block b r.2) λb r=>⟨r.1,JY r.2 u.size⟩)
     clear u D ah HN;go_wp2_with fail;go_ret;exact⟨W.out,JX ⟨ap.out,_,d,rfl,al.out,an.out⟩⟩
    ·have W:=aA (t.out.trans (u.mono t.out.size));have ao:=aA D;clear u D HN;go_wp2_with fail;exact⟨rfl,W.out,by rw[N.out];exact JR ⟨ao.out,rfl⟩⟩
def zC(a:ByteArray)(b:Nat)(w:World)(i:gO w)(l:a.size<=maxLen)(o:w.cell? ⟨b,0,none⟩=some (.string a))(_hbl:b<w.heap.size):
 Calls prog 23 #[.pointer (some ⟨b,0,none⟩)] w λe k=>Below w.heap.size w k/\((bL a.data.toList=(0,0)/\e=.returned (.tuple #[]))\/((bL a.data.toList).1≠0/\e=cA (bL a.data.toList).1 (bL a.data.toList).2)):=by
 have j:=aA (AT a w i l);unfold sI at j;clear i;generalize bL a.data.toList=n at*;go_enter func23,ntmps23;go_wp2_with fail;refine j.out.mono ?_;rintro e m ⟨c,⟨d,v,_,rfl,_,_⟩|⟨d,rfl⟩⟩
 ·have g:=aA c;have f:=aA d;clear c d;go_wp2_with fail;go_end0;exact⟨g.out,JX ⟨f.out,rfl⟩⟩
 ·have g:=aA c;have f:=aA d;clear c d;go_wp2_with fail;exact⟨rfl,g.out,JR ⟨f.out,rfl⟩⟩
def jY{o:Obj}(h:w.heap[b]?=some o):b<w.heap.size:=by
 rcases Nat.lt_or_ge b w.heap.size with a|a
 ·exact a
 ·rw[LD a] at h;cases h
def gC{c:Array Value}(h:w.heap[b]?=some (.cells c e (0,0)))(a:c[i]?=some v):w.cell? ⟨b,i,none⟩=some v:=by
 simp[World.cell?,h,a]
def iX{c:Array Value}(h:w.heap[b]?=some (.cells c e (0,0))):w.frozen? ⟨b,i,none⟩=false:=by
 simp[World.frozen?,h]
def FW(p q k n:Nat)(w:World)(b:w.heap[p]?=some (.cells #[.int .i64 0] 22 (0,0)))(c:w.heap[q]?=some (.cells #[.int .i64 0] 3 (0,0)))(a:p<q):
 Below p w (((w.setCell ⟨p,0,none⟩ (.int .i64 k)).setCell ⟨q,0,none⟩ (.int .i64 n)).alloc (.cells #[.int .i64 k,.int .i64 n] 98)).drew
 /\(((w.setCell ⟨p,0,none⟩ (.int .i64 k)).setCell ⟨q,0,none⟩ (.int .i64 n)).alloc (.cells #[.int .i64 k,.int .i64 n] 98)).drew.cell? ⟨p,0,none⟩=some (.int .i64 k)
 /\(((w.setCell ⟨p,0,none⟩ (.int .i64 k)).setCell ⟨q,0,none⟩ (.int .i64 n)).alloc (.cells #[.int .i64 k,.int .i64 n] 98)).drew.cell? ⟨q,0,none⟩=some (.int .i64 n):=by
 have j:w.cell? ⟨p,0,none⟩=some (.int .i64 0):=gC b rfl;have m:w.cell? ⟨q,0,none⟩=some (.int .i64 0):=gC c rfl;have e:=jY b;have g:=jY c;have i:¬p=q:=o_
 have l:¬q=p:=o_
 have f:¬p=w.heap.size:=o_
 have d:¬q=w.heap.size:=o_
 refine⟨((((JU p w).setCell (JS p) _).setCell (Nat.le_of_lt a) _).alloc t_ _).drew,?_,?_⟩
 ·simp[go_sem,j,e]
 ·simp[go_sem,m,g]
def CS(p q k n:Nat)(w:World)(b:w.heap[p]?=some (.cells #[.int .i64 0] 22 (0,0)))(c:w.heap[q]?=some (.cells #[.int .i64 0] 3 (0,0)))(a:p<q):
 Below p w (((w.setCell ⟨q,0,none⟩ (.int .i64 n)).setCell ⟨p,0,none⟩ (.int .i64 k)).alloc (.cells #[.int .i64 k,.int .i64 n] 98)).drew
 /\(((w.setCell ⟨q,0,none⟩ (.int .i64 n)).setCell ⟨p,0,none⟩ (.int .i64 k)).alloc (.cells #[.int .i64 k,.int .i64 n] 98)).drew.cell? ⟨p,0,none⟩=some (.int .i64 k)
 /\(((w.setCell ⟨q,0,none⟩ (.int .i64 n)).setCell ⟨p,0,none⟩ (.int .i64 k)).alloc (.cells #[.int .i64 k,.int .i64 n] 98)).drew.cell? ⟨q,0,none⟩=some (.int .i64 n):=by
 have j:w.cell? ⟨p,0,none⟩=some (.int .i64 0):=gC b rfl;have m:w.cell? ⟨q,0,none⟩=some (.int .i64 0):=gC c rfl;have e:=jY b;have g:=jY c;have i:¬p=q:=o_
 have l:¬q=p:=o_
 have f:¬p=w.heap.size:=o_
 have d:¬q=w.heap.size:=o_
 refine⟨((((JU p w).setCell (Nat.le_of_lt a) _).setCell (JS p) _).alloc t_ _).drew,?_,?_⟩
 ·simp[go_sem,j,e]
 ·simp[go_sem,m,g]
def GE(v:Value)(w:World):(typeAssert (.iface 98 v) 20 98 true).run prog w=.ok (.tuple #[v,.bool true]) w:=k_
def wJ(p q k n:Nat)(a:List PanicEntry)(w:World)(c:w.heap[p]?=some (.cells #[.int .i64 0] 22 (0,0)))(b:w.heap[q]?=some (.cells #[.int .i64 0] 3 (0,0)))(d:p<q):
 CallsD prog 41 #[.pointer (some ⟨p,0,none⟩),.pointer (some ⟨q,0,none⟩)] (.panicking ({ v:=.iface 98 (.agg #[.int .i64 k,.int .i64 n]),recovered:=false }::a)) w λe x f=>
  e=.returned (.tuple #[])/\x=.panicking ({ v:=.iface 98 (.agg #[.int .i64 k,.int .i64 n]),recovered:=true }::a)/\Below p w f/\f.cell? ⟨p,0,none⟩=some (.int .i64 k)/\f.cell? ⟨q,0,none⟩=some (.int .i64 n):=by
 have I:=gC c (i:=0) rfl;have F:=gC b (i:=0) rfl;have C:=iX (i:=0) c;have D:=iX (i:=0) b;have G:=jY c;have H:=jY b;have B:=GE;refine callsD_of_wpS func41 rfl λs E z=>?_
 apply wpS_seq
 apply wpS_region
 simp[wpOpsS,go_sem,recoverD,z,ntmps41,Exit.thenS];refine wpS_of_wp ?_;have u:¬p=q:=o_
 have A:¬q=p:=o_
 have y:¬p=w.heap.size:=o_
 have t:¬q=w.heap.size:=o_
 obtain⟨r,l,o⟩:=FW p q k n w c b d;obtain⟨g,m,j⟩:=CS p q k n w c b d;clear c b;go_wp2_with fail;go_region
 all_goals
  go_wp2_with fail;first
  |exact⟨rfl,_,rfl,.tuple #[],by simp[results,results41],rfl,rfl,r,l,o⟩
  |exact⟨rfl,_,rfl,.tuple #[],by simp[results,results41],rfl,rfl,g,m,j⟩
def zE(p q:Addr)(w:World):
 CallsD prog 41 #[.pointer (some p),.pointer (some q)] .returning w λe d c=>e=.returned (.tuple #[])/\d=.returning/\c=w:=by
 refine callsD_of_wpS func41 rfl λa f b=>?_
 apply wpS_seq
 apply wpS_region
 simp[wpOpsS,go_sem,recoverD,b,ntmps41,Exit.thenS];refine wpS_of_wp ?_;go_wp2_with fail;exact⟨rfl,a.mode,rfl,.tuple #[],by simp[results,results41],rfl,b,rfl⟩
def BW(w:World)(o a:Obj):((w.alloc o).alloc a).heap[w.heap.size]?=some o:=by
 rw[JZ _ _ _ s_]
 show (w.heap.push o)[w.heap.size]?=_
 rw[Array.getElem?_push,if_pos rfl]
def xL(w:World)(o a:Obj):((w.alloc o).alloc a).heap[w.heap.size+1]?=some a:=by
 show ((w.alloc o).heap.push a)[w.heap.size+1]?=_
 rw[Array.getElem?_push,if_pos s_]
def DW(b:Fn)(first a:Array Value)(w:World):(Instr.makeFunc b first a).run prog w=.ok (.func b first a) w:=rfl
def wC(a:Nat × Nat)(b:Nat)(w:World)
 (r:∀c,Below w.heap.size w c->Calls prog 23 #[.pointer (some ⟨b,0,none⟩)] c λe n=>Below c.heap.size c n/\((a=(0,0)/\e=.returned (.tuple #[]))\/(a.1≠0/\e=.panicked [{ v:=.iface 98 (.agg #[.int .i64 a.1,.int .i64 a.2]),recovered:=false }]))):
 Calls prog 22 #[.func (.func 23) #[] #[.pointer (some ⟨b,0,none⟩)]] w λe n=>Below w.heap.size w n/\(a.1=0->a=(0,0))/\e=.returned (.tuple #[.int .i64 a.1,.int .i64 a.2]):=by
 have u:=DW;have j:Below w.heap.size w ((w.alloc (.cells #[.int .i64 0] 22)).alloc (.cells #[.int .i64 0] 3)):=((JU _ w).alloc (JS _) _).alloc s_ _
 have t:=r _ j;clear r;go_enter_defers func22,ntmps22
 go_wp2_with fail;refine t.mono ?_;rintro e c ⟨d,k⟩;have m:c.heap[w.heap.size]?=some (.cells #[.int .i64 0] 22 (0,0)):=by rw[d.block _ t_];exact BW _ _ _
 have l:c.heap[w.heap.size+1]?=some (.cells #[.int .i64 0] 3 (0,0)):=by rw[d.block _ s_];exact xL _ _ _
 have s:Below w.heap.size w c:=j.trans (d.mono t_)
 clear d j t;rcases k with ⟨k,rfl⟩|⟨k,rfl⟩
 ·have q:=gC m (i:=0) rfl;have o:=gC l (i:=0) rfl;have A:=iX (i:=0) m;have B:=iX (i:=0) l;have C:=jY m;have D:=jY l;go_wp2_with fail;refine leaves_cons (f:=41) (args:= #[.pointer (some ⟨w.heap.size,0,none⟩),.pointer (some ⟨w.heap.size+1,0,none⟩)]) s_ (by simp[go_sem]) ?_
  refine(zE ⟨w.heap.size,0,none⟩ ⟨w.heap.size+1,0,none⟩ _).mono ?_;rintro e x z ⟨rfl,rfl,rfl⟩;subst k;have g:Below w.heap.size w ((c.setCell ⟨w.heap.size,0,none⟩ (.int .i64 0)).setCell ⟨w.heap.size+1,0,none⟩ (.int .i64 0)):=(s.setCell (JS _) _).setCell (Nat.le_succ _) _;simp[Leaves,settle,results,results22,go_sem,q,o];exact g
 ·have y:Hid (a.1=0->a=(0,0)):=λh=>absurd h k
  clear k;go_wp2_with fail;refine leaves_cons (f:=41) (args:= #[.pointer (some ⟨w.heap.size,0,none⟩),.pointer (some ⟨w.heap.size+1,0,none⟩)]) s_ (by simp[go_sem]) ?_
  refine(wJ w.heap.size (w.heap.size+1) a.1 a.2 [] _ m l (Nat.lt_succ_self _)).mono ?_;rintro e x E ⟨rfl,rfl,p,q,o⟩;have g:=s.trans p;simp[Leaves,settle,results,results22,go_sem,q,o];exact⟨g,y.out⟩
def EM(a:Nat × Nat)(c:ByteArray)(w:World)
 (k:∀b,Below w.heap.size w b->b.cell? ⟨w.heap.size,0,none⟩=some (.string c)->w.heap.size<b.heap.size->Calls prog 23 #[.pointer (some ⟨w.heap.size,0,none⟩)] b λe j=>Below b.heap.size b j/\((a=(0,0)/\e=.returned (.tuple #[]))\/(a.1≠0/\e=.panicked [{ v:=.iface 98 (.agg #[.int .i64 a.1,.int .i64 a.2]),recovered:=false }]))):
 Calls prog 7 #[.string c] w λe j=>Below w.heap.size w j/\(a.1=0->a=(0,0))/\e=.returned (.tuple #[.int .i64 a.1,.int .i64 a.2]):=by
 have o:=DW;have d:Below w.heap.size w (w.alloc (.cells #[.string c] 9)):=(JU _ w).alloc (JS _) _
 have l:=wC a w.heap.size (w.alloc (.cells #[.string c] 9)) λb f=>k b (d.trans (f.mono s_)) (by
  rw[f.cell s_]
  simp[go_sem]) (JY s_ f.size)
 clear k;go_enter func7,ntmps7;go_wp2_with fail;refine l.mono ?_;rintro e b ⟨g,m,rfl⟩;have i:=d.trans (g.mono s_)
 have n:Hid (a.1=0->a=(0,0)):=m;clear d g l m;go_wp2_with fail;go_ret2
 exact⟨i,n.out,rfl⟩
end Go.Proofs.YthbffcmfmjpncaaGreatDoor
