/- Contracts of the program: a fault is caught, whatever is done (2 variables are shared with it). -/
import Derived.Test.YtblbkfdhjfppkaaGreatDoorP13
import Derived.Test.YtblbkfdhjfppkaaGreatDoorP16
import Derived.Test.YtblbkfdhjfppkaaGreatDoorP10
set_option maxRecDepth 100000
set_option maxHeartbeats 4000000
namespace Go.Proofs.YtblbkfdhjfppkaaGreatDoor
open Hs
open Tryz(prog)
open Go.RowKit
theorem PL(fno:Nat)(p q:Option Addr)(w:World)(Q:World->Prop)(E:Nat->Nat->Prop)
 (hent:∀W,(callFunc fno #[.pointer p,.pointer q]).run prog W=.ok (.enter fno #[.pointer p,.pointer q]) W)
 (hC:∀w2,w2=(w.alloc (.cells #[.int .i64 0] 22)).alloc (.cells #[.int .i64 0] 3)->Calls prog fno #[.pointer p,.pointer q] w2 fun e w'=>
   (e=.returned (.tuple #[])/\w'.heap[w.heap.size]?=some (.cells #[.int .i64 0] 22 (0,0))/\w'.heap[w.heap.size+1]?=some (.cells #[.int .i64 0] 3 (0,0))/\Q w')\/
   ∃k n,k≠0/\e=.panicked [{ v:=.iface 141 (.agg #[.int .i64 (k:Nat),.int .i64 (n:Nat)]),recovered:=false }]/\Below w2.heap.size w2 w'/\E k n):
 Calls prog 42 #[.func (.func fno) #[] #[.pointer p,.pointer q]] w fun e w'=>
  (e=.returned (.tuple #[.int .i64 0,.int .i64 0])/\∃w1,Q w1/\w'=(w1.setCell ⟨w.heap.size,0,none⟩ (.int .i64 0)).setCell ⟨w.heap.size+1,0,none⟩ (.int .i64 0))\/
  ∃k n,k≠0/\e=.returned (.tuple #[.int .i64 (k:Nat),.int .i64 (n:Nat)])/\Below w.heap.size w w'/\E k n:=by
 have hmf:=J8;have hb2:Below w.heap.size w ((w.alloc (.cells #[.int .i64 0] 22)).alloc (.cells #[.int .i64 0] 3)):=((m8 _ w).alloc (l9 _) _).alloc (by simp) _
 have HC:=aB (hC _ rfl);have hen:=hent ((w.alloc (.cells #[.int .i64 0] 22)).alloc (.cells #[.int .i64 0] 3));clear hC hent;go_enter_defers Tryz.func42,Tryz.ntmps42
 go_wp2_with fail;refine HC.out.mono ?_;rintro e w1 (⟨rfl,hp,hq,hQ⟩|⟨k,n,hk,rfl,hb1,hE⟩)
 ·have HQ:=aB hQ;clear hQ;have c0:=lS hp (i:=0) rfl;have c1:=lS hq (i:=0) rfl;have f0:=oT (i:=0) hp;have f1:=oT (i:=0) hq;have l0:=qO hp;have l1:=qO hq;go_wp2_with fail;refine leaves_cons (f:=75) (args:= #[.pointer (some ⟨w.heap.size,0,none⟩),.pointer (some ⟨w.heap.size+1,0,none⟩)]) (by simp) (by simp[go_sem]) ?_
  refine(VF ⟨w.heap.size,0,none⟩ ⟨w.heap.size+1,0,none⟩ _).mono ?_;rintro e u' w'' ⟨rfl,rfl,rfl⟩;simp[Leaves,settle,results,Tryz.results42,go_sem,c0,c1];exact Or.inl ⟨w1,HQ.out,rfl⟩
 ·have hp:w1.heap[w.heap.size]?=some (.cells #[.int .i64 0] 22 (0,0)):=by rw[hb1.block _ (by simp;omega)];exact oC _ _ _
  have hq:w1.heap[w.heap.size+1]?=some (.cells #[.int .i64 0] 3 (0,0)):=by rw[hb1.block _ (by simp)];exact lG _ _ _
  have HB:Below w.heap.size w w1:=hb2.trans (hb1.mono (by simp;omega))
  have HE:=aB (And.intro hk hE);clear hb1 hb2 HC hE hk;go_wp2_with fail;refine leaves_cons (f:=75) (args:= #[.pointer (some ⟨w.heap.size,0,none⟩),.pointer (some ⟨w.heap.size+1,0,none⟩)]) (by simp) (by simp[go_sem]) ?_
  refine(QW w.heap.size (w.heap.size+1) k n [] _ hp hq (ac_ _)).mono ?_;rintro e u' w2 ⟨rfl,rfl,hb3,c0,c1⟩;have hbb:=HB.trans hb3;simp[Leaves,settle,results,Tryz.results42,go_sem,c0,c1];obtain⟨j,rfl⟩:∃j,k=j+1:=⟨k-1,by have:=HE.out.1;omega⟩
  exact Or.inr ⟨j,n,⟨by simp,rfl⟩,hbb,HE.out.2⟩
def RI(fp:Nat->Value)(F:Nat->Prop)(w:World)(xs:List Value)(code:List (Option aH)):Prop:=
 xs.length=code.length/\∀(i:Nat) o,code[i]?=some o->∃u,xs[i]?=some u/\(match o with|none=>u=.nilIface|some i=>lA fp F w u i)
theorem RI.keep{fp:Nat->Value}{F G:Nat->Prop}{w w':World}{xs:List Value}{code:List (Option aH)}(h:RI fp F w xs code)(hk:∀b,F b->w'.heap[b]?=w.heap[b]?)(hF:∀b,F b->G b):RI fp G w' xs code:=
 ⟨h.1,fun i o ho=>by
   obtain⟨u,h1,h2⟩:=h.2 i o ho;refine⟨u,h1,?_⟩;cases o with
   |none=>exact h2
   |some j=>exact lA.keep h2 hk hF⟩
def JB(fp:Nat->Value)(fb:Nat->Nat)(nms:List (List UInt8))(F:Nat->Prop)(w:World)(fv:Value):Prop:=
 (nms=[]/\fv=.slice none 0 0)\/∃g cap,fv=.slice (some ⟨g,0,none⟩) nms.length cap/\F g/\nms.length<=cap/\g<w.heap.size/\∀k (h:k<nms.length),w.cell? ⟨g,k,none⟩=some (fp k)/\fp k=.pointer (some ⟨fb k,0,none⟩)/\F (fb k)/\∃x,w.heap[fb k]?=some (.cells #[.string (bs nms[k]),x] 250 (0,0))
theorem JB.keep{fp:Nat->Value}{fb:Nat->Nat}{nms:List (List UInt8)}{F G:Nat->Prop}{w w':World}{fv:Value}(h:JB fp fb nms F w fv)(hk:∀b,F b->w'.heap[b]?=w.heap[b]?)(hF:∀b,F b->G b)(hs:w.heap.size<=w'.heap.size):JB fp fb nms G w' fv:=by
 rcases h with h|⟨g,cap,h1,h2,h3,h4,h5⟩
 ·exact Or.inl h
 ·refine Or.inr ⟨g,cap,h1,hF g h2,h3,m9 h4 hs,fun k hk'=>?_⟩
  obtain⟨e1,e2,e3,x,e4⟩:=h5 k hk';exact⟨by rw[World.cell?_of_block (hk g h2)];exact e1,e2,hF _ e3,x,by rw[hk _ e3];exact e4⟩
structure CP(fp:Nat->Value)(fb:Nat->Nat)(nms:List (List UInt8))(cb:Nat)(F:Nat->Prop)(w:World)(code:List (Option aH))(seen:List (List UInt8)):Prop where
 blk:∃fv cv sp,w.heap[cb]?=some (.cells #[fv,cv,sp] 276 (0,0))/\(∃xs,w.ownsRow (cb+1) 355 1 cv code.length xs/\RI fp F w xs code)/\eV F w sp seen/\JB fp fb nms F w fv
 fix:∀k,F k->k<w.heap.size/\k≠cb/\kT cb w≠some k
section
variable {fp:Nat->Value} {fb:Nat->Nat} {nms:List (List UInt8)} {cb:Nat} {F:Nat->Prop} {w w':World} {code:List (Option aH)} {seen:List (List UInt8)}
theorem CP.lt(h:CP fp fb nms cb F w code seen):cb<w.heap.size:=by
 obtain⟨_,_,_,h1,_⟩:=h.blk;exact aD h1
theorem iY{v0 v1 v2:Value}(h:w.heap[cb]?=some (.cells #[v0,v1,v2] 276 (0,0))):kT cb w=v1.ownBlock:=by unfold kT;rw[h];rfl
theorem CP.grow(h:CP fp fb nms cb F w code seen)(hb:Below w.heap.size w w'):CP fp fb nms cb F w' code seen:=by
 have hlt:=h.lt;obtain⟨fv,cv,sp,h1,⟨xs,h2,h3⟩,h4,h5⟩:=h.blk;have hF:∀b,F b->w'.heap[b]?=w.heap[b]?:=fun b hb'=>hb.block b (h.fix b hb').1
 refine⟨⟨fv,cv,sp,by rw[hb.block _ hlt];exact h1,⟨xs,iP h2 hb,h3.keep hF fun _ h=>h⟩,eV.keep hF (fun _ h=>h) h4,h5.keep hF (fun _ h=>h) hb.size⟩,fun k hk=>?_⟩
 obtain⟨e1,e2,e3⟩:=h.fix k hk;exact⟨m9 e1 hb.size,e2,by rw[nW (hb.block cb hlt)];exact e3⟩
theorem CP.new(h:CP fp fb nms cb F w code seen)(o:Obj):Loc cb w w.heap.size o (w.alloc o)/\CP fp fb nms cb F (w.alloc o) code seen:=by
 have hcb:=h.lt;have hb:Below w.heap.size w (w.alloc o):=(m8 _ _).alloc (l9 _) _;refine⟨⟨FB.of_below hb hcb,aT _ _ rfl _,fun e=>?_,by omega⟩,h.grow hb⟩
 obtain⟨fv,cv,sp,h1,⟨xs,h2,_⟩,_⟩:=h.blk;rw[nW (hb.block cb hcb),iY h1] at e;have:=cK h2 _ e;omega
theorem S8:(prog.info? 355).map (fun i=>(i.zero,i.size,i.bytes))=some (some .nilIface,1,16):=by kernel_rfl
theorem I7(w:World)(u:Value):∀j v,([u]:List Value)[j]?=some v->(w.alloc (.cells #[u] 355)).cell? ((⟨w.heap.size,0,none⟩:Addr).add j)=some v:=by
 intro j v hj;match j,hj with
 |0,hj=>simp at hj;subst hj;simp[Addr.add,go_sem]
 |j+1,hj=>simp at hj
def X3(fp:Nat->Value)(F:Nat->Prop)(w:World)(u:Value):Option aH->Prop
 |none=>u=.nilIface
 |some i=>lA fp F w u i
theorem X3.one{u:Value}{o:Option aH}(h:X3 fp F w u o):u.oneCell'=true/\(u=.nilIface\/∃t z,u=.iface t z):=by
 cases o with
 |none=>rw[show u=.nilIface from h];exact⟨rfl,Or.inl rfl⟩
 |some i=>obtain⟨t,z,rfl⟩:=lA.form h;exact⟨rfl,Or.inr ⟨t,z,rfl⟩⟩
theorem ZV(cb n:Nat)(fv cv sp u:Value)(xs:List Value)(w:World)(hblk:w.heap[cb]?=some (.cells #[fv,cv,sp] 276 (0,0)))(hown:w.ownsRow (cb+1) 355 1 cv n xs)(hu1:u.oneCell'=true)(hu:u=.nilIface\/∃t z,u=.iface t z)(hn:n<=1000000):
 Calls prog 238 #[.pointer (some ⟨cb,0,none⟩),u] w fun e w'=>e=.returned (.int .i64 n)/\∃cv',w'.heap[cb]?=some (.cells #[fv,cv',sp] 276 (0,0))/\w'.ownsRow (cb+1) 355 1 cv' (n+1) (xs++[u])/\FB cb w w':=by
 obtain⟨i0,hi,hz0,hz1,hz2⟩:=info_parts S8;obtain⟨x,c,rfl⟩:=cV hown;have hgl:=aD hblk;have c1:w.cell? ⟨cb,1,none⟩=some (.slice x n c):=aA hblk rfl;have HO:=aB hown;have HB:=aB hblk;have hone:∀v∈([u]:List Value),v.oneCell'=true:=fun v hv=>by simp at hv;rw[hv];exact hu1
 have HONE:=aB hone;clear hown hblk hone hu1
 have main:∀u':Value,u=u'->(u'=.nilIface\/∃t z,u'=.iface t z)->Calls prog 238 #[.pointer (some ⟨cb,0,none⟩),u'] w fun e w'=>e=.returned (.int .i64 n)/\∃cv',w'.heap[cb]?=some (.cells #[fv,cv',sp] 276 (0,0))/\w'.ownsRow (cb+1) 355 1 cv' (n+1) (xs++[u'])/\FB cb w w':=by
  intro u' e hu';subst e;rcases hu' with rfl|⟨t,z,rfl⟩
  all_goals
   go_enter Tryz.func238,Tryz.ntmps238;go_wp2_with (at_builtin;refine wpList_append_lies _ (by rfl) _ _ 248 (by rfl) (cb+1) 355 i0 _ 1 16 Tryz.underlying248 hi hz0 hz1 hz2 rfl (by decide) (.slice x n c) n xs (by rfl) (HO.out.alloc _) ⟨w.heap.size,0,none⟩ 1 1 [_] (by rfl) (by rfl) (I7 w _) HONE.out (by decide) (by unfold maxLen;omega) (by omega) (by simp;omega) (w.heap.size+1) (by simp) ?_)
   intro g4 cap4 w4 hown4 hgrow4 hat4 hg4;have hne:some cb≠(Value.slice x n c).ownBlock:=fun e=>by have:=(HO.out.lt cb e.symm).1;omega
   have hblk4:w4.heap[cb]?=some (.cells #[fv,.slice x n c,sp] 276 (0,0)):=by
    rw[hgrow4.block cb (by simp;omega) hne,o9 _ _ _ hgl];exact HB.out
   have c1':w4.cell? ⟨cb,1,none⟩=some (.slice x n c):=aA hblk4 rfl;have f1':=aE hblk4 (i:=1);have hgl4:=aD hblk4
   have hgg:g4≠cb:=by
    have:=(hown4.lt g4 rfl).1;omega
   have HOWN:=aB hown4;have HG:=aB hgrow4;have HAT:=aB hat4;have HBL:=aB hblk4;clear hown4 hgrow4 hat4 hblk4;go_wp2_with fail;go_ret;refine⟨by go_num,.slice (some ⟨g4,0,none⟩) (n+1) cap4,aS HBL.out,bA HOWN.out fun k hk=>m7 _ _ _ _ (by cases hk;exact hgg),⟨?_,fun k hk h1 h2=>?_,fun k hk=>?_⟩⟩
   ·exact(((m8 cb w).alloc (by omega) _).grown HG.out (by simp;omega) (fun k hk=>by have:=(HO.out.lt k hk).1;omega)).setCell (by exact l9 cb) _
   ·rw[iY HB.out] at h2;rw[m7 _ _ _ _ h1,HG.out.block k (by simp;omega) (fun e=>h2 e.symm),o9 _ _ _ hk]
   ·rw[iY (aS HBL.out),iY HB.out] at*;cases hk;rcases HAT.out with h|h
    ·exact Or.inl h
    ·exact Or.inr (by show w.heap.size<=g4;omega)
 exact main u rfl hu
theorem CP.step{code':List (Option aH)}{fv cv' sp:Value}{xs':List Value}(h:CP fp fb nms cb F w code seen)(hfb:FB cb w w')(hblk:w'.heap[cb]?=some (.cells #[fv,cv',sp] 276 (0,0)))(hrow:w'.ownsRow (cb+1) 355 1 cv' code'.length xs')(hc:RI fp F w' xs' code')(hsp:eV F w' sp seen)(hfv:JB fp fb nms F w' fv):CP fp fb nms cb F w' code' seen:=
 ⟨⟨fv,cv',sp,hblk,⟨xs',hrow,hc⟩,hsp,hfv⟩,fun k hk=>by
   obtain⟨e1,e2,e3⟩:=h.fix k hk;refine⟨m9 e1 hfb.bel.size,e2,fun e=>?_⟩
   rcases hfb.row k e with h1|h1
   ·exact e3 h1
   ·omega⟩
theorem CP.fixed(h:CP fp fb nms cb F w code seen)(hfb:FB cb w w'):∀b,F b->w'.heap[b]?=w.heap[b]?:=fun b hb=>by
 obtain⟨e1,e2,e3⟩:=h.fix b hb;exact hfb.blk b e1 e2 e3
theorem qT{u:Value}{o:Option aH}(h:CP fp fb nms cb F w code seen)(hu:X3 fp F w u o)(hn:code.length<=1000000):
 Calls prog 238 #[.pointer (some ⟨cb,0,none⟩),u] w fun e w'=>e=.returned (.int .i64 code.length)/\CP fp fb nms cb F w' (code++[o]) seen/\FB cb w w':=by
 obtain⟨fv,cv,sp,h1,⟨xs,h2,h3⟩,h4,h5⟩:=h.blk;obtain⟨o1,o2⟩:=hu.one;refine(ZV cb code.length fv cv sp u xs w h1 h2 o1 o2 hn).mono ?_;rintro e w' ⟨he,cv',q1,q2,q3⟩;have hF:=h.fixed q3;refine⟨he,h.step q3 q1 (by rw[m6];exact q2) ?_ (eV.keep hF (fun _ h=>h) h4) (h5.keep hF (fun _ h=>h) q3.bel.size),q3⟩
 have h3':=h3.keep hF fun _ h=>h
 refine⟨by simp[h3.1],fun i o' ho=>?_⟩
 rcases ag_ i code.length with hi|hi
 ·rw[ad_ hi] at ho;obtain⟨u',e1,e2⟩:=h3'.2 i o' ho;exact⟨u',by rw[ad_ (by rw[h3.1];exact hi)];exact e1,e2⟩
 ·rw[y8 hi] at ho
  have hi0:i-code.length=0:=by
   have:=(z6.1 ho).1;simp at this;omega
  rw[hi0] at ho;simp at ho;subst ho;refine⟨u,by rw[y8 (by rw[h3.1];exact hi),h3.1,hi0];rfl,?_⟩
  cases o with
  |none=>exact hu
  |some j=>exact lA.keep hu hF fun _ h=>h
theorem PJ(h:CP fp fb nms cb F w code seen)(hn:seen.length<=1000000):
 Calls prog 290 #[.pointer (some ⟨cb,0,none⟩)] w fun e w'=>e=.returned (.int .i64 seen.length)/\w'=w:=by
 obtain⟨fv,cv,sp,h1, -,h4, -⟩:=h.blk;have hl:=aD h1;have c2:w.cell? ⟨cb,2,none⟩=some sp:=aA h1 rfl;cases seen with
 |nil=>
  obtain rfl:sp=.pointer none:=h4;clear h h1;go_enter Tryz.func290,Tryz.ntmps290;go_wp2_with fail;go_ret;exact⟨rfl,rfl⟩
 |cons x l=>
  obtain⟨b,o,rfl,hb,hbb,hso⟩:=h4;have c1:w.cell? ⟨b,1,none⟩=some (.int .i64 l.length):=aA hbb rfl;have hbl:=aD hbb;simp only[n8] at hn;clear h h1 hbb hso;go_enter Tryz.func290,Tryz.ntmps290;go_wp2_with fail;go_ret;exact⟨by go_num,rfl⟩
end
section
variable {fp:Nat->Value} {fb:Nat->Nat} {nms:List (List UInt8)} {cb:Nat} {F:Nat->Prop} {w w':World} {code:List (Option aH)} {seen:List (List UInt8)}
theorem F6(w:World)(cb n:Nat)(x:List UInt8)(p:Option Addr)(hl:cb<w.heap.size)(c2:w.cell? ⟨cb,2,none⟩=some (.pointer p))(f2:w.frozen? ⟨cb,2,none⟩=false)
 (HF:Hid (Calls prog 290 #[.pointer (some ⟨cb,0,none⟩)] w.drew fun e w'=>e=.returned (.int .i64 n)/\w'=w.drew)):
 Calls prog 236 #[.pointer (some ⟨cb,0,none⟩),.string (bs x)] w fun e w'=>e=.returned (.tuple #[])/\aY ((w.setCell ⟨cb,2,none⟩ (.pointer (some ⟨w.heap.size,0,none⟩))).alloc (.cells #[.string (bs x),.int .i64 n,.pointer p] 253)) w':=by
 go_enter Tryz.func236,Tryz.ntmps236;go_wp2_with fail;go_region_law (go_simp;go_at_call 290;refine HF.out.mono ?_;rintro e w1 ⟨rfl,rfl⟩)
 all_goals
  go_wp2_with fail;go_end0;exact⟨rfl,aY.drew _⟩
theorem VQ(x:List UInt8)(h:CP fp fb nms cb F w code seen)(hn:seen.length<=1000000):
 Calls prog 236 #[.pointer (some ⟨cb,0,none⟩),.string (bs x)] w fun e w'=>e=.returned (.tuple #[])/\CP fp fb nms cb (fun k=>F k\/k=w.heap.size) w' code (x::seen)/\FB cb w w':=by
 have hlt:=h.lt;obtain⟨fv,cv,sp,h1,⟨xs,h2,h3⟩,h4,h5⟩:=h.blk;obtain⟨p,rfl⟩:=h4.form;have hd:CP fp fb nms cb F w.drew code seen:=h.grow (aY.drew w).below;refine(F6 w cb seen.length x p hlt (aA h1 rfl) (aE h1) (PJ hd hn)).mono ?_;rintro e w' ⟨he,hS⟩;generalize hW:(w.setCell ⟨cb,2,none⟩ (.pointer (some ⟨w.heap.size,0,none⟩))).alloc (.cells #[.string (bs x),.int .i64 seen.length,.pointer p] 253)=W at hS
 have hk:∀k,k<w.heap.size->k≠cb->w'.heap[k]?=w.heap[k]?:=fun k h1 h2=>by
  rw[hS.heap,<-hW,o9 _ _ _ (by simpa using h1),m7 _ _ _ _ h2]
 have hcb:w'.heap[cb]?=some (.cells #[fv,cv,.pointer (some ⟨w.heap.size,0,none⟩)] 276 (0,0)):=by
  rw[hS.heap,<-hW,o9 _ _ _ (by simpa using hlt)];exact aS h1
 have hnew:w'.heap[w.heap.size]?=some (.cells #[.string (bs x),.int .i64 seen.length,.pointer p] 253 (0,0)):=by
  rw[hS.heap,<-hW];exact aT _ _ (by simp) _
 have hsz:w'.heap.size=w.heap.size+1:=by rw[hS.heap,<-hW];simp
 have hro:kT cb w'=kT cb w:=by rw[iY hcb,iY h1]
 have hF:∀b,F b->w'.heap[b]?=w.heap[b]?:=fun b hb=>hk b (h.fix b hb).1 (h.fix b hb).2.1
 have hrl:=fun k (e:cv.ownBlock=some k)=>h2.lt k e
 refine⟨he,⟨⟨fv,cv,_,hcb,⟨xs,bA h2 fun k e=>hk k (hrl k e).2 (by have:=(hrl k e).1;omega),h3.keep hF fun _ h=>Or.inl h⟩,⟨w.heap.size,.pointer p,rfl,Or.inr rfl,hnew,eV.keep hF (fun _ h=>Or.inl h) h4⟩,h5.keep hF (fun _ h=>Or.inl h) (by omega)⟩,fun k hk'=>?_⟩,⟨?_,fun k h1 h2 _=>hk k h1 h2,fun k e=>Or.inl (by rw[<-hro];exact e)⟩⟩
 ·rcases hk' with hk'|rfl
  ·obtain⟨e1,e2,e3⟩:=h.fix k hk';exact⟨by omega,e2,by rw[hro];exact e3⟩
  ·refine⟨by omega,by omega,fun e=>?_⟩
   rw[hro,iY h1] at e;have:=(hrl _ e).2;omega
 ·refine⟨by rw[hS.os,<-hW];rfl,by rw[hS.tape,<-hW];rfl,by rw[hS.output,<-hW];rfl,by omega,fun k hk'=>hk k (by omega) (by omega)⟩
theorem E7{x y:List UInt8}{l:List (List UInt8)}(h:y∈x::l)(hn:x≠y):y∈l/\eA (x::l) y=eA l y:=by
 refine⟨?_,by rw[eA,if_neg hn]⟩
 rcases p8.1 h with e|e
 ·exact absurd e.symm hn
 ·exact e
theorem NK(name:List UInt8)(h:CP fp fb nms cb F w code seen)(hm:name∈seen)(_hn:seen.length<=1000000):
 Calls prog 286 #[.pointer (some ⟨cb,0,none⟩),.string (bs name)] w fun e w'=>e=.returned (.int .i64 (eA seen name))/\w'=w:=by
 obtain⟨fv,cv,sp,h1, -,h4, -⟩:=h.blk;have hl:=aD h1;have c2:w.cell? ⟨cb,2,none⟩=some sp:=aA h1 rfl;have H4:Hid (eV F w sp seen/\name∈seen):=⟨h4,hm⟩;obtain⟨p,rfl⟩:=h4.form;clear h h1 h4 hm;go_enter Tryz.func286,Tryz.ntmps286;go_wp2_with fail;go_loopg [5] seen.length (fun gk v wr=>∃l,l.length=gk/\eV F w v l/\name∈l/\eA l name=eA seen name/\wr=w)
 case atStart=>exact⟨seen,rfl,H4.out.1,H4.out.2,rfl,rfl⟩
 case round=>
  obtain⟨l,hl',hs,hml,hsl,rfl⟩:=hrel;cases l with
  |nil=>cases hml
  |cons x l=>
   obtain⟨b,o,rfl,hb,hbb,hso⟩:=hs;obtain⟨p',rfl⟩:=hso.form;have d0:wr.cell? ⟨b,0,none⟩=some (.string (bs x)):=aA hbb rfl;have d1:wr.cell? ⟨b,1,none⟩=some (.int .i64 l.length):=aA hbb rfl;have d2:wr.cell? ⟨b,2,none⟩=some (.pointer p'):=aA hbb rfl;have hbl:=aD hbb;by_cases hx:x=name
   ·subst hx;have hr:eA (x::l) x=l.length:=by rw[eA,if_pos rfl]
    rw[hr] at hsl;clear hbb hso hml;go_wp2_with fail;go_ret;exact⟨by rw[<-hsl];rfl,rfl⟩
   ·obtain⟨q1,q2⟩:=E7 hml hx;have hne:((bs x).toList==(bs name).toList)=false:=by rw[cB,cB];simpa using hx
    have HS:Hid (eV F wr (.pointer p') l):=hso;rw[q2] at hsl;clear hbb hso hml;go_wp2_with fail;go_roundg l.length
    case measure=>simp at hl';omega
    case rel=>exact⟨l,rfl,HS.out,q1,hsl,rfl⟩
theorem sT(name:List UInt8)(h:CP fp fb nms cb F w code seen)(hm:name∈nms)(hn:nms.length<=1000000):
 Calls prog 174 #[.pointer (some ⟨cb,0,none⟩),.string (bs name)] w fun e w'=>e=.returned (fp (nms.findIdx fun x=>x==name))/\w'=w:=by
 obtain⟨fv,cv,sp,h1, -, -,h5⟩:=h.blk;rcases h5 with ⟨rfl,_⟩|⟨g,cap,rfl,hFg,hcap,hgl,hall⟩
 ·cases hm
 have hl:=aD h1;have c0:w.cell? ⟨cb,0,none⟩=some (.slice (some ⟨g,0,none⟩) nms.length cap):=aA h1 rfl;have HA:=aB hall;clear h h1 hall;go_enter Tryz.func174,Tryz.ntmps174;go_wp2_with fail;go_loopg [6,12] nms.length (fun gk _ i wr=>∃j:Nat,j+gk=nms.length/\i=.int .i64 j/\j<=nms.findIdx (fun x=>x==name)/\wr=w)
 case atStart=>exact⟨0,by omega,rfl,aj_ _,rfl⟩
 case round=>
  obtain⟨j,hj,rfl,hle,rfl⟩:=hrel;have hfi:nms.findIdx (fun x=>x==name)<nms.length:=List.findIdx_lt_length_of_exists ⟨name,hm,by simp⟩
  have hlt:j<nms.length:=by omega
  obtain⟨m,rfl⟩:∃m,gk=m+1:=⟨gk-1,by omega⟩
  obtain⟨e1,e2,e3,x,e4⟩:=HA.out j hlt;rw[e2] at e1;have d0:wr.cell? ⟨fb j,0,none⟩=some (.string (bs nms[j])):=aA e4 rfl;have hbl:=aD e4;have i1:(0:Int)<=(j:Int):=by omega
  have i2:(j:Int)<(nms.length:Int):=by omega
  by_cases hx:nms[j]=name
  ·have hje:nms.findIdx (fun x=>x==name)=j:=by
    refine Nat.le_antisymm (Nat.not_lt.1 fun hlt'=>?_) hle
    have:=List.not_of_lt_findIdx hlt';simp[hx] at this
   have E2:=aB e2;rw[hx] at d0;clear e4 e2 HA;go_wp2_with fail;go_ret;exact⟨by rw[hje,E2.out];rfl,rfl⟩
  ·have hne:((bs nms[j]).toList==(bs name).toList)=false:=by rw[cB,cB];simpa using hx
   have hle':j+1<=nms.findIdx (fun x=>x==name):=by
    rcases as_ hle with e|e
    ·have:=aR_ (w:=hfi);simp only[<-e] at this;simp at this;exact absurd this hx
    ·exact e
   generalize nms[j]=y at*;clear e4 e2;go_wp2_with fail;go_roundg m
   case measure=>omega
   case rel=>exact⟨j+1,by omega,by go_num,hle',rfl⟩
end
theorem wP(v:Value)(w:World):(Instr.typeAssert (.iface 397 v) 122 397 true).run prog w=.ok (.tuple #[v,.bool true]) w:=by kernel_rfl
theorem wO(v:Value)(w:World):(Instr.typeAssert (.iface 398 v) 122 397 true).run prog w=.ok (.tuple #[.agg #[.int .i64 0,.int .i64 0],.bool false]) w:=by kernel_rfl
theorem wN(v:Value)(w:World):(Instr.typeAssert (.iface 398 v) 122 398 true).run prog w=.ok (.tuple #[v,.bool true]) w:=by kernel_rfl
theorem DO(v:Value)(w:World):(Instr.typeAssert (.iface 400 v) 122 397 true).run prog w=.ok (.tuple #[.agg #[.int .i64 0,.int .i64 0],.bool false]) w:=by kernel_rfl
theorem DN(v:Value)(w:World):(Instr.typeAssert (.iface 400 v) 122 398 true).run prog w=.ok (.tuple #[.agg #[.int .i64 0,.string ⟨#[]⟩],.bool false]) w:=by kernel_rfl
theorem LP(v:Value)(w:World):(Instr.typeAssert (.iface 400 v) 122 400 true).run prog w=.ok (.tuple #[v,.bool true]) w:=by kernel_rfl
theorem tO(v:Value)(w:World):(Instr.typeAssert (.iface 344 v) 122 397 true).run prog w=.ok (.tuple #[.agg #[.int .i64 0,.int .i64 0],.bool false]) w:=by kernel_rfl
theorem tN(v:Value)(w:World):(Instr.typeAssert (.iface 344 v) 122 398 true).run prog w=.ok (.tuple #[.agg #[.int .i64 0,.string ⟨#[]⟩],.bool false]) w:=by kernel_rfl
theorem wM(v:Value)(w:World):(Instr.typeAssert (.iface 344 v) 122 400 true).run prog w=.ok (.tuple #[.agg #[.int .i64 0,.bool false],.bool false]) w:=by kernel_rfl
theorem qU(v:Value)(w:World):(Instr.typeAssert (.iface 344 v) 122 344 true).run prog w=.ok (.tuple #[v,.bool true]) w:=by kernel_rfl
theorem DI(v:Value)(w:World):(Instr.typeAssert (.iface 346 v) 122 397 true).run prog w=.ok (.tuple #[.agg #[.int .i64 0,.int .i64 0],.bool false]) w:=by kernel_rfl
theorem DH(v:Value)(w:World):(Instr.typeAssert (.iface 346 v) 122 398 true).run prog w=.ok (.tuple #[.agg #[.int .i64 0,.string ⟨#[]⟩],.bool false]) w:=by kernel_rfl
theorem LL(v:Value)(w:World):(Instr.typeAssert (.iface 346 v) 122 400 true).run prog w=.ok (.tuple #[.agg #[.int .i64 0,.bool false],.bool false]) w:=by kernel_rfl
theorem wQ(v:Value)(w:World):(Instr.typeAssert (.iface 346 v) 122 344 true).run prog w=.ok (.tuple #[.agg #[.int .i64 0,.string ⟨#[]⟩],.bool false]) w:=by kernel_rfl
theorem LK(v:Value)(w:World):(Instr.typeAssert (.iface 346 v) 122 346 true).run prog w=.ok (.tuple #[v,.bool true]) w:=by kernel_rfl
theorem zT(v:Value)(w:World):(Instr.typeAssert (.iface 348 v) 122 397 true).run prog w=.ok (.tuple #[.agg #[.int .i64 0,.int .i64 0],.bool false]) w:=by kernel_rfl
theorem zS(v:Value)(w:World):(Instr.typeAssert (.iface 348 v) 122 398 true).run prog w=.ok (.tuple #[.agg #[.int .i64 0,.string ⟨#[]⟩],.bool false]) w:=by kernel_rfl
theorem FR(v:Value)(w:World):(Instr.typeAssert (.iface 348 v) 122 400 true).run prog w=.ok (.tuple #[.agg #[.int .i64 0,.bool false],.bool false]) w:=by kernel_rfl
theorem uX(v:Value)(w:World):(Instr.typeAssert (.iface 348 v) 122 344 true).run prog w=.ok (.tuple #[.agg #[.int .i64 0,.string ⟨#[]⟩],.bool false]) w:=by kernel_rfl
theorem FQ(v:Value)(w:World):(Instr.typeAssert (.iface 348 v) 122 346 true).run prog w=.ok (.tuple #[.agg #[.int .i64 0,.slice none 0 0],.bool false]) w:=by kernel_rfl
theorem DJ(v:Value)(w:World):(Instr.typeAssert (.iface 348 v) 122 348 true).run prog w=.ok (.tuple #[v,.bool true]) w:=by kernel_rfl
theorem zR(v:Value)(w:World):(Instr.typeAssert (.iface 350 v) 122 397 true).run prog w=.ok (.tuple #[.agg #[.int .i64 0,.int .i64 0],.bool false]) w:=by kernel_rfl
theorem zQ(v:Value)(w:World):(Instr.typeAssert (.iface 350 v) 122 398 true).run prog w=.ok (.tuple #[.agg #[.int .i64 0,.string ⟨#[]⟩],.bool false]) w:=by kernel_rfl
theorem FP(v:Value)(w:World):(Instr.typeAssert (.iface 350 v) 122 400 true).run prog w=.ok (.tuple #[.agg #[.int .i64 0,.bool false],.bool false]) w:=by kernel_rfl
theorem uW(v:Value)(w:World):(Instr.typeAssert (.iface 350 v) 122 344 true).run prog w=.ok (.tuple #[.agg #[.int .i64 0,.string ⟨#[]⟩],.bool false]) w:=by kernel_rfl
theorem FO(v:Value)(w:World):(Instr.typeAssert (.iface 350 v) 122 346 true).run prog w=.ok (.tuple #[.agg #[.int .i64 0,.slice none 0 0],.bool false]) w:=by kernel_rfl
theorem DG(v:Value)(w:World):(Instr.typeAssert (.iface 350 v) 122 348 true).run prog w=.ok (.tuple #[.agg #[.int .i64 0,.nilIface,.nilIface],.bool false]) w:=by kernel_rfl
theorem DF(v:Value)(w:World):(Instr.typeAssert (.iface 350 v) 122 350 true).run prog w=.ok (.tuple #[v,.bool true]) w:=by kernel_rfl
theorem wT(v:Value)(w:World):(Instr.typeAssert (.iface 352 v) 122 397 true).run prog w=.ok (.tuple #[.agg #[.int .i64 0,.int .i64 0],.bool false]) w:=by kernel_rfl
theorem wS(v:Value)(w:World):(Instr.typeAssert (.iface 352 v) 122 398 true).run prog w=.ok (.tuple #[.agg #[.int .i64 0,.string ⟨#[]⟩],.bool false]) w:=by kernel_rfl
theorem DQ(v:Value)(w:World):(Instr.typeAssert (.iface 352 v) 122 400 true).run prog w=.ok (.tuple #[.agg #[.int .i64 0,.bool false],.bool false]) w:=by kernel_rfl
theorem tP(v:Value)(w:World):(Instr.typeAssert (.iface 352 v) 122 344 true).run prog w=.ok (.tuple #[.agg #[.int .i64 0,.string ⟨#[]⟩],.bool false]) w:=by kernel_rfl
theorem DP(v:Value)(w:World):(Instr.typeAssert (.iface 352 v) 122 346 true).run prog w=.ok (.tuple #[.agg #[.int .i64 0,.slice none 0 0],.bool false]) w:=by kernel_rfl
theorem zV(v:Value)(w:World):(Instr.typeAssert (.iface 352 v) 122 348 true).run prog w=.ok (.tuple #[.agg #[.int .i64 0,.nilIface,.nilIface],.bool false]) w:=by kernel_rfl
theorem zU(v:Value)(w:World):(Instr.typeAssert (.iface 352 v) 122 350 true).run prog w=.ok (.tuple #[.agg #[.int .i64 0,.string ⟨#[]⟩,.nilIface],.bool false]) w:=by kernel_rfl
theorem wU(v:Value)(w:World):(Instr.typeAssert (.iface 352 v) 122 352 true).run prog w=.ok (.tuple #[v,.bool true]) w:=by kernel_rfl
theorem DL(v:Value)(w:World):(Instr.typeAssert (.iface 341 v) 122 397 true).run prog w=.ok (.tuple #[.agg #[.int .i64 0,.int .i64 0],.bool false]) w:=by kernel_rfl
theorem DK(v:Value)(w:World):(Instr.typeAssert (.iface 341 v) 122 398 true).run prog w=.ok (.tuple #[.agg #[.int .i64 0,.string ⟨#[]⟩],.bool false]) w:=by kernel_rfl
theorem LO(v:Value)(w:World):(Instr.typeAssert (.iface 341 v) 122 400 true).run prog w=.ok (.tuple #[.agg #[.int .i64 0,.bool false],.bool false]) w:=by kernel_rfl
theorem wR(v:Value)(w:World):(Instr.typeAssert (.iface 341 v) 122 344 true).run prog w=.ok (.tuple #[.agg #[.int .i64 0,.string ⟨#[]⟩],.bool false]) w:=by kernel_rfl
theorem LM(v:Value)(w:World):(Instr.typeAssert (.iface 341 v) 122 346 true).run prog w=.ok (.tuple #[.agg #[.int .i64 0,.slice none 0 0],.bool false]) w:=by kernel_rfl
theorem FU(v:Value)(w:World):(Instr.typeAssert (.iface 341 v) 122 348 true).run prog w=.ok (.tuple #[.agg #[.int .i64 0,.nilIface,.nilIface],.bool false]) w:=by kernel_rfl
theorem FT(v:Value)(w:World):(Instr.typeAssert (.iface 341 v) 122 350 true).run prog w=.ok (.tuple #[.agg #[.int .i64 0,.string ⟨#[]⟩,.nilIface],.bool false]) w:=by kernel_rfl
theorem DM(v:Value)(w:World):(Instr.typeAssert (.iface 341 v) 122 352 true).run prog w=.ok (.tuple #[.agg #[.int .i64 0,.string ⟨#[]⟩,.nilIface,.nilIface],.bool false]) w:=by kernel_rfl
theorem LN(v:Value)(w:World):(Instr.typeAssert (.iface 341 v) 122 341 true).run prog w=.ok (.tuple #[v,.bool true]) w:=by kernel_rfl
theorem sI(w:World)(cb:Nat)(l k:Int)(P:World->Prop)
 (HE:Hid (Calls prog 238 #[.pointer (some ⟨cb,0,none⟩),.iface 361 (.agg #[.iface 315 (.int .i64 k)])] (w.alloc (.cells #[.int .i64 l,.int .i64 k] 397)) fun e w'=>(∃k:Nat,e=.returned (.int .i64 k))/\P w')):
 Calls prog 233 #[.pointer (some ⟨cb,0,none⟩),.iface 397 (.agg #[.int .i64 l,.int .i64 k])] w fun e w'=>e=.returned (.tuple #[])/\P w':=by
 have q0:=wP;go_enter Tryz.func233,Tryz.ntmps233;go_wp2_with fail;refine HE.out.mono ?_;rintro e w1 ⟨⟨m,rfl⟩,h1⟩;go_wp2_with fail;go_end0;exact⟨rfl,h1⟩
theorem FN(w:World)(cb:Nat)(l:Int)(s:ByteArray)(P:World->Prop)
 (HE:Hid (Calls prog 238 #[.pointer (some ⟨cb,0,none⟩),.iface 361 (.agg #[.iface 318 (.string s)])] (w.alloc (.cells #[.int .i64 l,.string s] 398)) fun e w'=>(∃k:Nat,e=.returned (.int .i64 k))/\P w')):
 Calls prog 233 #[.pointer (some ⟨cb,0,none⟩),.iface 398 (.agg #[.int .i64 l,.string s])] w fun e w'=>e=.returned (.tuple #[])/\P w':=by
 have q0:=wO;have q1:=wN;go_enter Tryz.func233,Tryz.ntmps233;go_wp2_with fail;refine HE.out.mono ?_;rintro e w1 ⟨⟨m,rfl⟩,h1⟩;go_wp2_with fail;go_end0;exact⟨rfl,h1⟩
theorem PR(w:World)(cb:Nat)(l:Int)(b:Bool)(P:World->Prop)
 (HE:Hid (Calls prog 238 #[.pointer (some ⟨cb,0,none⟩),.iface 361 (.agg #[.iface 316 (.bool b)])] (w.alloc (.cells #[.int .i64 l,.bool b] 400)) fun e w'=>(∃k:Nat,e=.returned (.int .i64 k))/\P w')):
 Calls prog 233 #[.pointer (some ⟨cb,0,none⟩),.iface 400 (.agg #[.int .i64 l,.bool b])] w fun e w'=>e=.returned (.tuple #[])/\P w':=by
 have q0:=DO;have q1:=DN;have q2:=LP;go_enter Tryz.func233,Tryz.ntmps233;go_wp2_with fail;refine HE.out.mono ?_;rintro e w1 ⟨⟨m,rfl⟩,h1⟩;go_wp2_with fail;go_end0;exact⟨rfl,h1⟩
theorem zP(w:World)(cb:Nat)(l:Int)(s:ByteArray)(k:Nat)(P:World->Prop)
 (HS:Hid (Calls prog 286 #[.pointer (some ⟨cb,0,none⟩),.string s] (w.alloc (.cells #[.int .i64 l,.string s] 344)) fun e w'=>e=.returned (.int .i64 k)/\w'=w.alloc (.cells #[.int .i64 l,.string s] 344)))
 (HE:Hid (Calls prog 238 #[.pointer (some ⟨cb,0,none⟩),.iface 402 (.agg #[.int .i64 k])] (w.alloc (.cells #[.int .i64 l,.string s] 344)) fun e w'=>(∃k:Nat,e=.returned (.int .i64 k))/\P w')):
 Calls prog 233 #[.pointer (some ⟨cb,0,none⟩),.iface 344 (.agg #[.int .i64 l,.string s])] w fun e w'=>e=.returned (.tuple #[])/\P w':=by
 have q0:=tO;have q1:=tN;have q2:=wM;have q3:=qU;go_enter Tryz.func233,Tryz.ntmps233;go_wp2_with fail;refine HS.out.mono ?_;rintro e w1 ⟨rfl,rfl⟩;go_wp2_with fail;refine HE.out.mono ?_;rintro e w2 ⟨⟨m,rfl⟩,h1⟩;go_wp2_with fail;go_end0;exact⟨rfl,h1⟩
theorem PQ(w:World)(cb n c:Nat)(l:Int)(x:Option Addr)(P Q:World->Prop)
 (HX:Hid (Calls prog 287 #[.pointer (some ⟨cb,0,none⟩),.slice x n c] (w.alloc (.cells #[.int .i64 l,.slice x n c] 346)) fun e w'=>e=.returned (.tuple #[])/\Q w'))
 (HB:Hid (∀W,Q W->W.cell? ⟨w.heap.size,1,none⟩=some (.slice x n c)/\w.heap.size<W.heap.size))
 (HE:Hid (∀W,Q W->Calls prog 238 #[.pointer (some ⟨cb,0,none⟩),.iface 404 (.agg #[.int .i64 n])] W fun e w'=>(∃k:Nat,e=.returned (.int .i64 k))/\P w')):
 Calls prog 233 #[.pointer (some ⟨cb,0,none⟩),.iface 346 (.agg #[.int .i64 l,.slice x n c])] w fun e w'=>e=.returned (.tuple #[])/\P w':=by
 have q0:=DI;have q1:=DH;have q2:=LL;have q3:=wQ;have q4:=LK;go_enter Tryz.func233,Tryz.ntmps233;go_wp2_with fail;refine HX.out.mono ?_;rintro e w1 ⟨rfl,h1⟩;obtain⟨b1,b2⟩:=HB.out _ h1;have HEE:=aB (HE.out _ h1);clear h1;go_wp2_with fail;refine HEE.out.mono ?_;rintro e w2 ⟨⟨m,rfl⟩,h2⟩;go_wp2_with fail;go_end0;exact⟨rfl,h2⟩
theorem LG(w:World)(cb:Nat)(l:Int)(t1 t2:TypeId)(z1 z2:Value)(P Q R:World->Prop)
 (HX:Hid (Calls prog 233 #[.pointer (some ⟨cb,0,none⟩),.iface t1 z1] (w.alloc (.cells #[.int .i64 l,.iface t1 z1,.iface t2 z2] 348)) fun e w'=>e=.returned (.tuple #[])/\Q w'))
 (HB:Hid (∀W,Q W->W.cell? ⟨w.heap.size,2,none⟩=some (.iface t2 z2)/\w.heap.size<W.heap.size))
 (HY:Hid (∀W,Q W->Calls prog 233 #[.pointer (some ⟨cb,0,none⟩),.iface t2 z2] W fun e w'=>e=.returned (.tuple #[])/\R w'))
 (HE:Hid (∀W,R W->Calls prog 238 #[.pointer (some ⟨cb,0,none⟩),.iface 405 (.agg #[])] W fun e w'=>(∃k:Nat,e=.returned (.int .i64 k))/\P w')):
 Calls prog 233 #[.pointer (some ⟨cb,0,none⟩),.iface 348 (.agg #[.int .i64 l,.iface t1 z1,.iface t2 z2])] w fun e w'=>e=.returned (.tuple #[])/\P w':=by
 have q0:=zT;have q1:=zS;have q2:=FR;have q3:=uX;have q4:=FQ;have q5:=DJ;go_enter Tryz.func233,Tryz.ntmps233;go_wp2_with fail;refine HX.out.mono ?_;rintro e w1 ⟨rfl,h1⟩;obtain⟨b1,b2⟩:=HB.out _ h1;have HYY:=aB (HY.out _ h1);clear h1;go_wp2_with fail;refine HYY.out.mono ?_;rintro e w2 ⟨rfl,h2⟩;have HEE:=aB (HE.out _ h2);clear h2;go_wp2_with fail;refine HEE.out.mono ?_;rintro e w3 ⟨⟨m,rfl⟩,h3⟩;go_wp2_with fail;go_end0;exact⟨rfl,h3⟩
theorem LF(w:World)(cb:Nat)(l:Int)(op:ByteArray)(t1:TypeId)(z1:Value)(P Q:World->Prop)
 (HX:Hid (Calls prog 233 #[.pointer (some ⟨cb,0,none⟩),.iface t1 z1] (w.alloc (.cells #[.int .i64 l,.string op,.iface t1 z1] 350)) fun e w'=>e=.returned (.tuple #[])/\Q w'))
 (HB:Hid (∀W,Q W->W.cell? ⟨w.heap.size,1,none⟩=some (.string op)/\w.heap.size<W.heap.size))
 (HE:Hid (∀W,Q W->Calls prog 238 #[.pointer (some ⟨cb,0,none⟩),.iface 407 (.agg #[.string op])] W fun e w'=>(∃k:Nat,e=.returned (.int .i64 k))/\P w')):
 Calls prog 233 #[.pointer (some ⟨cb,0,none⟩),.iface 350 (.agg #[.int .i64 l,.string op,.iface t1 z1])] w fun e w'=>e=.returned (.tuple #[])/\P w':=by
 have q0:=zR;have q1:=zQ;have q2:=FP;have q3:=uW;have q4:=FO;have q5:=DG;have q6:=DF;go_enter Tryz.func233,Tryz.ntmps233;go_wp2_with fail;refine HX.out.mono ?_;rintro e w1 ⟨rfl,h1⟩;obtain⟨b1,b2⟩:=HB.out _ h1;have HEE:=aB (HE.out _ h1);clear h1;go_wp2_with fail;refine HEE.out.mono ?_;rintro e w3 ⟨⟨m,rfl⟩,h3⟩;go_wp2_with fail;go_end0;exact⟨rfl,h3⟩
theorem sJ(w:World)(cb:Nat)(l:Int)(op:ByteArray)(t1 t2:TypeId)(z1 z2:Value)(P:World->Prop)
 (HX:Hid (Calls prog 288 #[.pointer (some ⟨cb,0,none⟩),.agg #[.int .i64 l,.string op,.iface t1 z1,.iface t2 z2]] (w.alloc (.cells #[.int .i64 l,.string op,.iface t1 z1,.iface t2 z2] 352)) fun e w'=>e=.returned (.tuple #[])/\P w')):
 Calls prog 233 #[.pointer (some ⟨cb,0,none⟩),.iface 352 (.agg #[.int .i64 l,.string op,.iface t1 z1,.iface t2 z2])] w fun e w'=>e=.returned (.tuple #[])/\P w':=by
 have q0:=wT;have q1:=wS;have q2:=DQ;have q3:=tP;have q4:=DP;have q5:=zV;have q6:=zU;have q7:=wU;go_enter Tryz.func233,Tryz.ntmps233;go_wp2_with fail;refine HX.out.mono ?_;rintro e w1 ⟨rfl,h1⟩;go_wp2_with fail;go_end0;exact⟨rfl,h1⟩
theorem qS(w:World)(cb n c:Nat)(l:Int)(s:ByteArray)(x:Option Addr)(P:World->Prop)
 (HX:Hid (Calls prog 289 #[.pointer (some ⟨cb,0,none⟩),.agg #[.int .i64 l,.string s,.slice x n c]] (w.alloc (.cells #[.int .i64 l,.string s,.slice x n c] 341)) fun e w'=>e=.returned (.tuple #[])/\P w')):
 Calls prog 233 #[.pointer (some ⟨cb,0,none⟩),.iface 341 (.agg #[.int .i64 l,.string s,.slice x n c])] w fun e w'=>e=.returned (.tuple #[])/\P w':=by
 have q0:=DL;have q1:=DK;have q2:=LO;have q3:=wR;have q4:=LM;have q5:=FU;have q6:=FT;have q7:=DM;have q8:=LN;go_enter Tryz.func233,Tryz.ntmps233;go_wp2_with fail;refine HX.out.mono ?_;rintro e w1 ⟨rfl,h1⟩;go_wp2_with fail;go_end0;exact⟨rfl,h1⟩
theorem UK(w:World)(cb g n cap:Nat)(C:Nat->World->Prop)(hn:n<=1000000)(h0:C 0 w)
 (HC:Hid (∀j W,C j W->j<n->g<W.heap.size/\∃t z,W.cell? ⟨g,j,none⟩=some (.iface t z)/\Calls prog 233 #[.pointer (some ⟨cb,0,none⟩),.iface t z] W fun e w'=>e=.returned (.tuple #[])/\C (j+1) w')):
 Calls prog 287 #[.pointer (some ⟨cb,0,none⟩),.slice (some ⟨g,0,none⟩) n cap] w fun e w'=>e=.returned (.tuple #[])/\C n w':=by
 have H0:=aB h0;clear h0;go_enter Tryz.func287,Tryz.ntmps287;go_wp2_with fail;go_loopg [5,8] n (fun gk _ i wr=>∃j:Nat,j+gk=n/\i=.int .i64 j/\C j wr)
 case atStart=>exact⟨0,by omega,rfl,H0.out⟩
 case round=>
  obtain⟨j,hj,rfl,hC⟩:=hrel;by_cases hlt:j<n
  ·obtain⟨m,rfl⟩:∃m,gk=m+1:=⟨gk-1,by omega⟩
   obtain⟨hg,t,z,c1,hcl⟩:=HC.out _ _ hC hlt;have HX:=aB hcl;have e1:(0:Int)<=(j:Int):=by omega
   have e2:(j:Int)<(n:Int):=by omega
   clear hC hcl;go_wp2_with fail;refine HX.out.mono ?_;rintro e w1 ⟨rfl,h1⟩;go_wp2_with fail;go_roundg m
   case measure=>omega
   case rel=>exact⟨j+1,by omega,by go_num,h1⟩
  ·have hjn:j=n:=by omega
   subst hjn;have HC':=aB hC;clear hC;go_wp2_with fail;go_end0;exact⟨rfl,HC'.out⟩
theorem ZR(w:World)(cb:Nat):Calls prog 287 #[.pointer (some ⟨cb,0,none⟩),.slice none 0 0] w fun e w'=>e=.returned (.tuple #[])/\w'=w:=by
 go_enter Tryz.func287,Tryz.ntmps287;go_wp2_with fail;go_loopg [5,8] 0 (fun _ _ i wr=>i=.int .i64 0/\wr=w)
 case atStart=>exact⟨rfl,rfl⟩
 case round=>
  obtain⟨rfl,rfl⟩:=hrel;go_wp2_with fail;go_end0;exact⟨rfl,rfl⟩
theorem QX(w:World)(cb n c:Nat)(l:Int)(x:Option Addr)(P Q:World->Prop)
 (HX:Hid (Calls prog 287 #[.pointer (some ⟨cb,0,none⟩),.slice x n c] (w.alloc (.cells #[.int .i64 l,.string (bs [108,101,110]),.slice x n c] 341)) fun e w'=>e=.returned (.tuple #[])/\Q w'))
 (HB:Hid (∀W,Q W->W.cell? ⟨w.heap.size,1,none⟩=some (.string (bs [108,101,110]))/\w.heap.size<W.heap.size))
 (HE:Hid (∀W,Q W->Calls prog 238 #[.pointer (some ⟨cb,0,none⟩),.iface 439 (.agg #[])] W fun e w'=>(∃k:Nat,e=.returned (.int .i64 k))/\P w')):
 Calls prog 289 #[.pointer (some ⟨cb,0,none⟩),.agg #[.int .i64 l,.string (bs [108,101,110]),.slice x n c]] w fun e w'=>e=.returned (.tuple #[])/\P w':=by
 have e1:((bs [108,101,110]).toList==[108,101,110])=true:=by rw[cB];rfl
 generalize bs [108,101,110]=tx at*;go_enter Tryz.func289,Tryz.ntmps289;go_wp2_with fail;refine HX.out.mono ?_;rintro e w1 ⟨rfl,h1⟩;obtain⟨b1,b2⟩:=HB.out _ h1;have HEE:=aB (HE.out _ h1);clear h1;go_wp2_with fail;refine HEE.out.mono ?_;rintro e w2 ⟨⟨m,rfl⟩,h2⟩;go_wp2_with fail;go_end0;exact⟨rfl,h2⟩
theorem IV(w:World)(cb n c:Nat)(l:Int)(x:Option Addr)(P Q:World->Prop)
 (HX:Hid (Calls prog 287 #[.pointer (some ⟨cb,0,none⟩),.slice x n c] (w.alloc (.cells #[.int .i64 l,.string (bs [114,101,97,100]),.slice x n c] 341)) fun e w'=>e=.returned (.tuple #[])/\Q w'))
 (HB:Hid (∀W,Q W->W.cell? ⟨w.heap.size,1,none⟩=some (.string (bs [114,101,97,100]))/\w.heap.size<W.heap.size))
 (HE:Hid (∀W,Q W->Calls prog 238 #[.pointer (some ⟨cb,0,none⟩),.iface 440 (.agg #[])] W fun e w'=>(∃k:Nat,e=.returned (.int .i64 k))/\P w')):
 Calls prog 289 #[.pointer (some ⟨cb,0,none⟩),.agg #[.int .i64 l,.string (bs [114,101,97,100]),.slice x n c]] w fun e w'=>e=.returned (.tuple #[])/\P w':=by
 have e1:((bs [114,101,97,100]).toList==[108,101,110])=false:=by rw[cB];rfl
 have e2:((bs [114,101,97,100]).toList==[114,101,97,100])=true:=by rw[cB];rfl
 generalize bs [114,101,97,100]=tx at*;go_enter Tryz.func289,Tryz.ntmps289;go_wp2_with fail;refine HX.out.mono ?_;rintro e w1 ⟨rfl,h1⟩;obtain⟨b1,b2⟩:=HB.out _ h1;have HEE:=aB (HE.out _ h1);clear h1;go_wp2_with fail;refine HEE.out.mono ?_;rintro e w2 ⟨⟨m,rfl⟩,h2⟩;go_wp2_with fail;go_end0;exact⟨rfl,h2⟩
theorem DV(w:World)(cb n c fb:Nat)(l:Int)(tx:List UInt8)(x:Option Addr)(P Q:World->Prop)(h1:tx≠[108,101,110])(h2:tx≠[114,101,97,100])
 (HX:Hid (Calls prog 287 #[.pointer (some ⟨cb,0,none⟩),.slice x n c] (w.alloc (.cells #[.int .i64 l,.string (bs tx),.slice x n c] 341)) fun e w'=>e=.returned (.tuple #[])/\Q w'))
 (HB:Hid (∀W,Q W->W.cell? ⟨w.heap.size,1,none⟩=some (.string (bs tx))/\W.cell? ⟨w.heap.size,2,none⟩=some (.slice x n c)/\w.heap.size<W.heap.size))
 (HF:Hid (∀W W',Q W->aY W W'->Calls prog 174 #[.pointer (some ⟨cb,0,none⟩),.string (bs tx)] W' fun e w'=>e=.returned (.pointer (some ⟨fb,0,none⟩))/\w'=W'))
 (HE:Hid (∀W W',Q W->aY W W'->Calls prog 238 #[.pointer (some ⟨cb,0,none⟩),.iface 442 (.agg #[.pointer (some ⟨fb,0,none⟩),.int .i64 n])] W' fun e w'=>(∃k:Nat,e=.returned (.int .i64 k))/\P w')):
 Calls prog 289 #[.pointer (some ⟨cb,0,none⟩),.agg #[.int .i64 l,.string (bs tx),.slice x n c]] w fun e w'=>e=.returned (.tuple #[])/\P w':=by
 have e1:((bs tx).toList==[108,101,110])=false:=by rw[cB];simpa using h1
 have e2:((bs tx).toList==[114,101,97,100])=false:=by rw[cB];simpa using h2
 clear h1 h2;go_enter Tryz.func289,Tryz.ntmps289;go_wp2_with fail;refine HX.out.mono ?_;rintro e w1 ⟨rfl,h1⟩;obtain⟨b1,b2,b3⟩:=HB.out _ h1;have HQ:=aB h1;clear h1;go_wp2_with fail;go_region_law (go_simp;first|(go_at_call 174;refine(HF.out _ _ HQ.out (aY.drew _)).mono ?_;rintro e w2 ⟨rfl,rfl⟩)|(go_at_call 238;refine(HE.out _ _ HQ.out (aY.drew _)).mono ?_;rintro e w3 ⟨⟨m,rfl⟩,h3⟩))
 all_goals
  go_wp2_with fail;go_end0;exact⟨rfl,h3⟩
theorem MC(w:World)(cb:Nat)(l:Int)(op:List UInt8)(t1 t2:TypeId)(z1 z2:Value)(P Q R:World->Prop)(h1:op≠[38,38])(h2:op≠[124,124])
 (HX:Hid (Calls prog 233 #[.pointer (some ⟨cb,0,none⟩),.iface t1 z1] (w.alloc (.cells #[.int .i64 l,.string (bs op),.iface t1 z1,.iface t2 z2] 352)) fun e w'=>e=.returned (.tuple #[])/\Q w'))
 (HB:Hid (∀W,Q W->W.cell? ⟨w.heap.size,1,none⟩=some (.string (bs op))/\W.cell? ⟨w.heap.size,3,none⟩=some (.iface t2 z2)/\w.heap.size<W.heap.size))
 (HY:Hid (∀W,Q W->Calls prog 233 #[.pointer (some ⟨cb,0,none⟩),.iface t2 z2] W fun e w'=>e=.returned (.tuple #[])/\R w'))
 (HB2:Hid (∀W,R W->W.cell? ⟨w.heap.size,1,none⟩=some (.string (bs op))/\w.heap.size<W.heap.size))
 (HE:Hid (∀W,R W->Calls prog 238 #[.pointer (some ⟨cb,0,none⟩),.iface 435 (.agg #[.string (bs op)])] W fun e w'=>(∃k:Nat,e=.returned (.int .i64 k))/\P w')):
 Calls prog 288 #[.pointer (some ⟨cb,0,none⟩),.agg #[.int .i64 l,.string (bs op),.iface t1 z1,.iface t2 z2]] w fun e w'=>e=.returned (.tuple #[])/\P w':=by
 have e1:((bs op).toList==[38,38])=false:=by rw[cB];simpa using h1
 have e2:((bs op).toList==[124,124])=false:=by rw[cB];simpa using h2
 clear h1 h2;generalize bs op=ob at*;go_enter Tryz.func288,Tryz.ntmps288;go_wp2_with fail;refine HX.out.mono ?_;rintro e w1 ⟨rfl,h1⟩;obtain⟨b1,b2,b3⟩:=HB.out _ h1;have HYY:=aB (HY.out _ h1);clear h1;go_wp2_with fail;refine HYY.out.mono ?_;rintro e w2 ⟨rfl,h2⟩;obtain⟨d1,d2⟩:=HB2.out _ h2;have HEE:=aB (HE.out _ h2);clear h2;go_wp2_with fail;refine HEE.out.mono ?_;rintro e w3 ⟨⟨m,rfl⟩,h3⟩;go_wp2_with fail;exact⟨rfl,_,results_none (by rfl) _ _ _,rfl,h3⟩
theorem MB(w:World)(cb k:Nat)(l:Int)(b:Bool)(op:List UInt8)(t1 t2:TypeId)(z1 z2:Value)(P Q Q2 R S:World->Prop)(hop:op=if b then [124,124] else [38,38])
 (HX:Hid (Calls prog 233 #[.pointer (some ⟨cb,0,none⟩),.iface t1 z1] (w.alloc (.cells #[.int .i64 l,.string (bs op),.iface t1 z1,.iface t2 z2] 352)) fun e w'=>e=.returned (.tuple #[])/\Q w'))
 (HB:Hid (∀W,Q W->W.cell? ⟨w.heap.size,1,none⟩=some (.string (bs op))/\w.heap.size<W.heap.size))
 (HN:Hid (∀W,Q W->Calls prog 238 #[.pointer (some ⟨cb,0,none⟩),.nilIface] W fun e w'=>e=.returned (.int .i64 k)/\Q2 w'))
 (HB1:Hid (∀W,Q2 W->W.cell? ⟨w.heap.size,3,none⟩=some (.iface t2 z2)/\w.heap.size<W.heap.size))
 (HY:Hid (∀W,Q2 W->Calls prog 233 #[.pointer (some ⟨cb,0,none⟩),.iface t2 z2] W fun e w'=>e=.returned (.tuple #[])/\R w'))
 (HE:Hid (∀W,R W->Calls prog 238 #[.pointer (some ⟨cb,0,none⟩),.iface 436 (.agg #[])] W fun e w'=>(∃k:Nat,e=.returned (.int .i64 k))/\S w'))
 (HB2:Hid (∀W,S W->W.cell? ⟨w.heap.size,1,none⟩=some (.string (bs op))/\w.heap.size<W.heap.size/\cb<W.heap.size/\∃g n c,W.cell? ⟨cb,1,none⟩=some (.slice (some ⟨g,0,none⟩) n c)/\k<n/\n<=1000000/\(∃u,W.cell? ⟨g,k,none⟩=some u)/\W.frozen? ⟨g,k,none⟩=false/\g<W.heap.size/\∀W',aY (W.setCell ⟨g,k,none⟩ (.iface 438 (.agg #[.bool b,.int .i64 n]))) W'->P W')):
 Calls prog 288 #[.pointer (some ⟨cb,0,none⟩),.agg #[.int .i64 l,.string (bs op),.iface t1 z1,.iface t2 z2]] w fun e w'=>e=.returned (.tuple #[])/\P w':=by
 have hm:∃ob:ByteArray,ob=bs op/\(ob.toList==[38,38])= !b/\(ob.toList==[124,124])=b:=⟨bs op,rfl,by rw[cB,hop];cases b<;>rfl,by rw[cB,hop];cases b<;>rfl⟩
 obtain⟨ob,ho,e1,e2⟩:=hm;rw[<-ho] at HX HB HB2 ⊢
 clear ho hop;cases b
 all_goals
  simp only[Bool.not_true,Bool.not_false] at e1;go_enter Tryz.func288,Tryz.ntmps288;go_wp2_with fail;refine HX.out.mono ?_;rintro e w1 ⟨rfl,h1⟩;obtain⟨b1,b2⟩:=HB.out _ h1;have HNN:=aB (HN.out _ h1);clear h1;go_wp2_with fail;refine HNN.out.mono ?_;rintro e w2 ⟨rfl,h2⟩;obtain⟨d1,d2⟩:=HB1.out _ h2;have HYY:=aB (HY.out _ h2);clear h2;go_wp2_with fail;refine HYY.out.mono ?_;rintro e w3 ⟨rfl,h3⟩;have HEE:=aB (HE.out _ h3);clear h3;go_wp2_with fail;refine HEE.out.mono ?_;rintro e w4 ⟨⟨m,rfl⟩,h4⟩;obtain⟨f1,f2,f3,g,n,c,f4,f5,f6,⟨u,f7⟩,f8,f9,f10⟩:=HB2.out _ h4;have HP:=aB f10;have i1:(0:Int)<=(k:Int):=by omega
  have i2:(k:Int)<(n:Int):=by omega
  clear h4 f10;go_wp2_with fail;go_region
  all_goals
   go_wp2_with fail;go_end0;exact⟨rfl,HP.out _ (aY.drew _)⟩
theorem nD(c:aC->Nat->List aH):∀(l m:List aC) (p:Nat),bP c (l++m) p=bP c l p++bP c m (p+(bP c l p).length)
 |[],m,p=>by simp[bP]
 |a::l,m,p=>by
  rw[s9,bP,bP,nD c l m,y7,m6,bc_]
theorem BV(c:aC->Nat->List aH)(a:aC)(p:Nat):bP c [a] p=c a p:=by simp[bP]
theorem NN(c:aC->Nat->List aH)(a b:aC)(p:Nat):bP c [a,b] p=c a p++c b (p+(c a p).length):=by simp[bP]
section
variable (fs:List aC) (seen:List (List UInt8)) (d:Nat) (a:aC) (p:Nat)
theorem ZU(h:a.op=[48]):aG fs seen (d+1) a p=[.push (aV (((cA 0 a.text).getD 0:Nat):Int))]:=by rw[aG];simp[h]
theorem ZT(h:a.op=[115]):aG fs seen (d+1) a p=[.push (bI a.text)]:=by rw[aG];simp[h]
theorem UM(h:a.op=[98,111,111,108]):aG fs seen (d+1) a p=[.push (bM (a.text==[116,114,117,101]))]:=by rw[aG];simp[h]
theorem ZS(h:a.op=[110,97,109,101]):aG fs seen (d+1) a p=[.load (eA seen a.text)]:=by rw[aG];simp[h]
theorem UL(h:a.op=[108,105,115,116]):aG fs seen (d+1) a p=bP (aG fs seen d) a.kids p++[.list a.kids.length]:=by rw[aG];simp[h]
theorem PP(h:a.op=[105,110,100,101,120]):aG fs seen (d+1) a p=bP (aG fs seen d) a.kids p++[.index]:=by rw[aG];simp[h]
theorem PM(o:UInt8)(ho:o=45\/o=33)(h:a.op=[o,120]):aG fs seen (d+1) a p=bP (aG fs seen d) a.kids p++[.unary [o]]:=by
 rw[aG];rcases ho with rfl|rfl<;>simp[h]
theorem DC(h:a.op=[99,97,108,108]):aG fs seen (d+1) a p=bP (aG fs seen d) a.kids p++[if a.text==[108,101,110] then .length else if a.text==[114,101,97,100] then .read else .call (dA fs a.text) a.kids.length]:=by rw[aG];simp[h]
theorem PO(b:Bool)(l r:aC)(h:a.op=if b then [124,124] else [38,38])(hk:a.kids=[l,r]):aG fs seen (d+1) a p=
 aG fs seen d l p++[.shortcut b (p+(aG fs seen d l p).length+1+(aG fs seen d r (p+(aG fs seen d l p).length+1)).length+1)]++aG fs seen d r (p+(aG fs seen d l p).length+1)++[.truth]:=by
 rw[aG];cases b<;>simp[h,hk]
theorem LE(h:bV a.op≠9)(h1:a.op≠[38,38])(h2:a.op≠[124,124]):aG fs seen (d+1) a p=bP (aG fs seen d) a.kids p++[.binary a.op]:=by
 rcases mO h with e|e|e|e|e|e|e|e|e|e|e
 all_goals first|exact absurd e h2|exact absurd e h1|(rw[aG];simp[e])
end
theorem GO:∀(l:List UInt8) (n k:Nat),n<=9223372036854775807->cA n l=some k->k<=9223372036854775807
 |[],n,k,hn,h=>by rw[cA] at h;cases h;exact hn
 |c::r,n,k,hn,h=>by
  rw[cA] at h;split at h
  ·cases h
  ·rename_i hlt;refine GO r _ k ?_ h;have hc:=aT_ c;have hm:hJ=9223372036854775807:=rfl;rw[hm] at hlt;omega
section
variable {fp:Nat->Value} {fb:Nat->Nat} {nms:List (List UInt8)} {cb:Nat} {F:Nat->Prop} {w w':World} {code:List (Option aH)} {seen:List (List UInt8)}
theorem CP.patch{pre post:List (Option aH)}(h:CP fp fb nms cb F w (pre++none::post) seen):
 ∃g c,w.cell? ⟨cb,1,none⟩=some (.slice (some ⟨g,0,none⟩) (pre++none::post).length c)/\(∃x,w.cell? ⟨g,pre.length,none⟩=some x)/\w.frozen? ⟨g,pre.length,none⟩=false/\g<w.heap.size/\
  ∀u i W',lA fp F w u i->aY (w.setCell ⟨g,pre.length,none⟩ u) W'->CP fp fb nms cb F W' (pre++some i::post) seen/\FB cb w W':=by
 obtain⟨fv,cv,sp,h1,⟨xs,h2,h3⟩,h4,h5⟩:=h.blk;have hlt:=h.lt;have hl:(pre++none::post).length=pre.length+post.length+1:=by simp;omega
 rcases h2.2 with ⟨_,r2⟩|⟨g,c,cur,rfl,r2,r3,r4,r5,r6,r7⟩
 ·omega
 have hgl:=aD r3;have hget:∃x,cur[pre.length]?=some x:=⟨_,n9 (by rw[r6];omega)⟩
 obtain⟨x,hx⟩:=hget;refine⟨g,c,aA h1 rfl,⟨x,aA r3 hx⟩,aE r3,hgl,fun u i W' hu hS=>?_⟩
 have hk:∀k,k≠g->W'.heap[k]?=w.heap[k]?:=fun k hk=>by rw[hS.heap,m7 _ _ _ _ hk]
 have hro:kT cb w=some g:=iY h1;have hcb:W'.heap[cb]?=_:=(hk cb (by omega)).trans h1
 have hfb:FB cb w W':=⟨⟨hS.os.trans rfl,hS.tape.trans rfl,hS.output.trans rfl,by rw[hS.heap];simp,fun k hk'=>hk k (by omega)⟩,fun k _ _ h3=>hk k fun e=>h3 (by rw[hro,e]),fun k e=>Or.inl (by rw[nW (hk cb (by omega))] at e;exact e)⟩
 have hF:=h.fixed hfb;refine⟨h.step (xs':=xs.set pre.length u) hfb hcb ⟨by rw[aC_,h2.1];simp,Or.inr ⟨g,c,cur.setIfInBounds pre.length u,by simp,r2,by rw[hS.heap];exact aS r3,by simpa using r4,r5,by simpa using r6,?_⟩⟩ ?_ (eV.keep hF (fun _ h=>h) h4) (h5.keep hF (fun _ h=>h) hfb.bel.size),hfb⟩
 ·rw[aG_,bd_,<-r7];simp
 ·have h3':=h3.keep hF fun _ h=>h
  refine⟨by simp[h3.1],fun j o ho=>?_⟩
  by_cases hj:j=pre.length
  ·subst hj;rw[y8 (l9 _)] at ho;simp at ho;subst ho;exact⟨u,by rw[List.getElem?_set_self (by rw[h3.1];omega)],lA.keep hu hF fun _ h=>h⟩
  ·have ho':(pre++none::post)[j]?=some o:=by
    rcases ag_ j pre.length with h6|h6
    ·rw[ad_ h6] at ho ⊢;exact ho
    ·rw[y8 h6] at ho ⊢
     obtain⟨m,hm⟩:∃m,j-pre.length=m+1:=⟨j-pre.length-1,by omega⟩
     rw[hm] at ho ⊢
     simpa using ho
   obtain⟨u',e1,e2⟩:=h3'.2 j o ho';exact⟨u',by rw[List.getElem?_set_ne (fun e=>hj e.symm)];exact e1,e2⟩
end
def gB(fp:Nat->Value)(fb:Nat->Nat)(nms:List (List UInt8))(cb:Nat)(F:Nat->Prop)(w:World)(code:List (Option aH))(seen:List (List UInt8))(w':World):Prop:=
 CP fp fb nms cb F w' code seen/\FB cb w w'
def EC(fp:Nat->Value)(fb:Nat->Nat)(fs:List aC)(cb lo:Nat)(F:Nat->Prop)(alone:Bool)(seen:List (List UInt8))(d:Nat):Prop:=
 ∀(v:Value) (a:aC) (code:List (Option aH)) (w:World),CP fp fb (fs.map (·.text)) cb F w code seen->PN (Btw lo cb) w v a->Hs.ExOk fs alone seen d a->pN d a->code.length+(aG fs seen d a code.length).length<=1000000->
  Calls prog 233 #[.pointer (some ⟨cb,0,none⟩),v] w fun e w'=>e=.returned (.tuple #[])/\gB fp fb (fs.map (·.text)) cb F w (code++(aG fs seen d a code.length).map some) seen w'
section
variable {fp:Nat->Value} {fb:Nat->Nat} {fs:List aC} {cb lo:Nat} {F:Nat->Prop} {alone:Bool} {seen:List (List UInt8)} {d:Nat}
theorem gB.then{w w1 w':World}{nms:List (List UInt8)}{code:List (Option aH)}(h1:FB cb w w1)(h:gB fp fb nms cb F w1 code seen w'):gB fp fb nms cb F w code seen w':=⟨h.1,h1.trans h.2⟩
theorem PKid.sliceC{F:Nat->Prop}{w:World}{v:Value}{l:List aC}(h:PKid F w v l):∃x c,v=.slice x l.length c:=by
 rcases h.get with ⟨rfl,rfl⟩|⟨g,cap,rfl,_⟩
 ·exact⟨none,0,rfl⟩
 ·exact⟨_,_,rfl⟩
theorem ExOk.op{fs:List aC}{alone:Bool}{seen:List (List UInt8)}{d:Nat}{a:aC}(h:Hs.ExOk fs alone seen (d+1) a):
 (∀k∈a.kids,Hs.ExOk fs alone seen d k)/\(a.op=[110,97,109,101]->a.text∈seen)/\
   (a.op=[99,97,108,108]->a.text=[108,101,110]\/a.text=[114,101,97,100]\/(a.text≠[108,101,110]/\a.text≠[114,101,97,100]/\fO fs (dA fs a.text)=some a.kids.length)):=by
 have two:∀{l r:aC},a.kids=[l,r]->Hs.ExOk fs alone seen d l->Hs.ExOk fs alone seen d r->∀k∈a.kids,Hs.ExOk fs alone seen d k:=fun e h1 h2 k hk=>by
  rw[e] at hk;simp at hk;rcases hk with rfl|rfl
  ·exact h1
  ·exact h2
 have no:∀{x y:List UInt8} {p:Prop},a.op=x->x≠y->a.op=y->p:=fun e1 e2 e3=>absurd (e1.symm.trans e3) e2
 rcases h with ⟨h1,h0⟩|⟨h1,h0,h2⟩|⟨h1,h2⟩|⟨h1,l,r,h0,h2,h3⟩|⟨h1,l,h0,h2⟩|⟨h1,h2,h3⟩|⟨h1,l,r,h0,h2,h3⟩
 ·refine⟨fun k hk=>absurd hk (by rw[h0];simp),?_,?_⟩<;>rcases h1 with h1|h1|h1<;>exact no h1 (by decide)
 ·exact⟨fun k hk=>absurd hk (by rw[h0];simp),fun _=>h2,no h1 (by decide)⟩
 ·exact⟨h2,no h1 (by decide),no h1 (by decide)⟩
 ·exact⟨two h0 h2 h3,no h1 (by decide),no h1 (by decide)⟩
 ·refine⟨fun k hk=>?_,?_,?_⟩
  ·rw[h0] at hk;simp at hk;rw[hk];exact h2
  all_goals rcases h1 with h1|h1<;>exact no h1 (by decide)
 ·refine⟨h2,no h1 (by decide),fun _=>?_⟩
  rcases h3 with ⟨h3,_⟩|⟨h3,_⟩|⟨h3,h4,_,h5⟩
  ·exact Or.inl h3
  ·exact Or.inr (Or.inl h3)
  ·exact Or.inr (Or.inr ⟨h3,h4,h5⟩)
 ·refine⟨two h0 h2 h3,fun e=>?_,fun e=>?_⟩<;>(exfalso;rw[e] at h1;exact h1 rfl)
theorem rM(IH:EC fp fb fs cb lo F alone seen d)(v:Value)(l:List aC)(code:List (Option aH))(w:World)(h:CP fp fb (fs.map (·.text)) cb F w code seen)(hv:PKid (Btw lo cb) w v l)(ho:∀a∈l,Hs.ExOk fs alone seen d a)(hli:∀a∈l,pN d a)(hl:l.length<=1000000)(hn:code.length+(bP (aG fs seen d) l code.length).length<=1000000):
 Calls prog 287 #[.pointer (some ⟨cb,0,none⟩),v] w fun e w'=>e=.returned (.tuple #[])/\gB fp fb (fs.map (·.text)) cb F w (code++(bP (aG fs seen d) l code.length).map some) seen w':=by
 rcases hv.get with ⟨rfl,rfl⟩|⟨g,cap,rfl,hg,hgl,hcap,hc⟩
 ·refine(ZR w cb).mono ?_;rintro e w' ⟨rfl,rfl⟩;exact⟨rfl,by simpa [bP] using h,FB.refl _⟩
 ·refine(UK w cb g l.length cap (fun j W=>j<=l.length/\gB fp fb (fs.map (·.text)) cb F w (code++(bP (aG fs seen d) (l.take j) code.length).map some) seen W) hl ⟨aj_ _,by simpa [bP] using h,FB.refl _⟩ (fun j W hq hj=>?_)).mono ?_
  ·obtain⟨_,hcp,hfb⟩:=hq;obtain⟨u,hu,hn'⟩:=hc j hj;obtain⟨T,cs,rfl⟩:=hn'.form;have htk:l.take (j+1)=l.take j++[l[j]]:=v7 hj;have hsp:bP (aG fs seen d) (l.take (j+1)) code.length=bP (aG fs seen d) (l.take j) code.length++aG fs seen d l[j] (code.length+(bP (aG fs seen d) (l.take j) code.length).length):=by rw[htk,nD,BV]
   have hall:(bP (aG fs seen d) (l.take (j+1)) code.length).length<=(bP (aG fs seen d) l code.length).length:=by
    have e:l=l.take (j+1)++l.drop (j+1):=(ae_ _ _).symm;have:=congrArg (fun x=>(bP (aG fs seen d) x code.length).length) e
    simp only[nD,m6] at this;omega
   have hcl:(code++(bP (aG fs seen d) (l.take j) code.length).map some).length=code.length+(bP (aG fs seen d) (l.take j) code.length).length:=by simp
   refine⟨m9 hgl hfb.bel.size,T,.agg cs,by rw[hfb.bel.cell (p:=⟨g,j,none⟩) hg.2];exact hu,(IH _ l[j] _ W hcp (hn'.below hfb.bel) (ho _ (u_9 hj)) (hli _ (u_9 hj)) ?_).mono ?_⟩
   ·rw[hcl];rw[hsp,m6] at hall;omega
   ·rintro e w' ⟨he,hto⟩;refine⟨he,hj,?_⟩;rw[hcl] at hto;rw[hsp,af_,<-y7];exact hto.then hfb
  ·rintro e w' ⟨he,_,hto⟩;rw[z8 (l9 _)] at hto;exact⟨he,hto⟩
theorem emits{nms:List (List UInt8)}{w W:World}{code:List (Option aH)}{u:Value}{i:aH}(hto:gB fp fb nms cb F w code seen W)(hu:lA fp F W u i)(hn:code.length+1<=1000000):
 Calls prog 238 #[.pointer (some ⟨cb,0,none⟩),u] W fun e w'=>(∃k:Nat,e=.returned (.int .i64 k))/\gB fp fb nms cb F w (code++[some i]) seen w':=by
 refine(qT (o:=some i) hto.1 hu (by omega)).mono ?_
 rintro e w' ⟨he,h1,h2⟩;exact⟨⟨_,he⟩,h1,hto.2.trans h2⟩
theorem CZ(fs:List aC)(x:List UInt8):(fs.map (·.text)).findIdx (fun y=>y==x)=dA fs x:=by
 unfold dA;induction fs with
 |nil=>rfl
 |cons f fs ih=>simp only[s5,List.findIdx_cons,ih]
theorem fN(code:List (Option aH))(c:List aH):(code++c.map some).length=code.length+c.length:=by simp
theorem VB(IH:EC fp fb fs cb lo F alone seen d)(hsn:seen.length<=1000000)(hfn:fs.length<=1000000)(hfp:∀k,k<fs.length->fp k=.pointer (some ⟨fb k,0,none⟩)):EC fp fb fs cb lo F alone seen (d+1):=by
 intro v a code w h hpn hok hli hlen;obtain⟨T,cs,ps,rfl,hsh,hps⟩:=hpn.parts;obtain⟨hlit,hk1,hlik⟩:=hli;have hops:=ExOk.op hok;obtain⟨hloc,hcp⟩:=h.new (.cells cs T)
 have hpsb:∀p∈ps,Prt.ok (Btw lo cb) (w.alloc (.cells cs T)) p:=fun p hp=>by
  rcases hps p hp with ⟨h1,b,h2,h3⟩|⟨h1,h2⟩
  ·exact Or.inl ⟨h1,b,h2,h3.below hloc.fb.bel⟩
  ·exact Or.inr ⟨h1,PKid.below h2 hloc.fb.bel⟩
 have blk:∀{W:World} {c:List (Option aH)},gB fp fb (fs.map (·.text)) cb F (w.alloc (.cells cs T)) c seen W->W.heap[w.heap.size]?=some (.cells cs T (0,0)):=fun hto=>(hloc.step hto.2).blk
 have fin:∀{c:List (Option aH)} {e:Ending} {W:World},(e=.returned (.tuple #[])/\gB fp fb (fs.map (·.text)) cb F (w.alloc (.cells cs T)) c seen W)->(e=.returned (.tuple #[])/\gB fp fb (fs.map (·.text)) cb F w c seen W):=fun hq=>⟨hq.1,hq.2.then hloc.fb⟩
 have hto0:gB fp fb (fs.map (·.text)) cb F (w.alloc (.cells cs T)) code seen (w.alloc (.cells cs T)):=⟨hcp,FB.refl _⟩
 have hsz:(w.alloc (.cells cs T)).heap.size=w.heap.size+1:=by simp
 have kid:∀{W:World} {v:Value} {k:aC} {c:List (Option aH)},gB fp fb (fs.map (·.text)) cb F (w.alloc (.cells cs T)) c seen W->Prt.ok (Btw lo cb) (w.alloc (.cells cs T)) ⟨v,[k],true⟩->Hs.ExOk fs alone seen d k->pN d k->c.length+(aG fs seen d k c.length).length<=1000000->
  Calls prog 233 #[.pointer (some ⟨cb,0,none⟩),v] W fun e w'=>e=.returned (.tuple #[])/\gB fp fb (fs.map (·.text)) cb F (w.alloc (.cells cs T)) (c++(aG fs seen d k c.length).map some) seen w':=fun hto hp hx hl hn=>
  (IH _ _ _ _ hto.1 (hp.one'.below hto.2.bel) hx hl hn).mono fun e w' hq=>⟨hq.1,hq.2.then hto.2⟩
 have kids:∀{W:World} {v:Value} {l:List aC} {c:List (Option aH)},gB fp fb (fs.map (·.text)) cb F (w.alloc (.cells cs T)) c seen W->Prt.ok (Btw lo cb) (w.alloc (.cells cs T)) ⟨v,l,false⟩->(∀k∈l,Hs.ExOk fs alone seen d k)->(∀k∈l,pN d k)->l.length<=1000000->c.length+(bP (aG fs seen d) l c.length).length<=1000000->
  Calls prog 287 #[.pointer (some ⟨cb,0,none⟩),v] W fun e w'=>e=.returned (.tuple #[])/\gB fp fb (fs.map (·.text)) cb F (w.alloc (.cells cs T)) (c++(bP (aG fs seen d) l c.length).map some) seen w':=fun hto hp hx hl hll hn=>
  (rM IH _ _ _ _ hto.1 (hp.many.below hto.2.bel) hx hl hll hn).mono fun e w' hq=>⟨hq.1,hq.2.then hto.2⟩
 rcases hsh with ⟨rfl,k,rfl,hop,hwh,hkd,rfl⟩|⟨rfl,rfl,hop,hkd,rfl⟩|⟨rfl,rfl,hop,hkd,rfl⟩|⟨rfl,sv,rfl,hop,rfl⟩|⟨rfl,sv,rfl,hop,rfl⟩|⟨rfl,rfl,hop,hkd,rfl⟩|⟨rfl,l,v1,v2,a1,a2,rfl,hop,hkd,rfl⟩|⟨rfl,o,v1,a1,rfl,hoo,hop,hkd,rfl⟩|⟨rfl,l,v1,v2,a1,a2,rfl,hop,hkd,rfl⟩|hrest
 ·-- a number
  rw[ZU fs seen d a _ hop,hwh] at hlen ⊢
  have hk:=GO _ _ _ (by omega) hwh
  exact(sI w cb a.line k _ (emits (i:=.push (aV k)) hto0 ⟨_,rfl,PV.num _ _ _ (by omega) (by omega),by rw[kA];omega⟩ (by simp at hlen;omega))).mono fun _ _=>fin
 ·rw[ZT fs seen d a _ hop] at hlen ⊢
  exact(FN w cb a.line _ _ (emits (i:=.push (bI a.text)) hto0 ⟨_,rfl,PV.str _ _ _,by rw[kM];have:=(hlit hop).1;omega⟩ (by simp at hlen;omega))).mono fun _ _=>fin
 ·rw[UM fs seen d a _ hop] at hlen ⊢
  exact(PR w cb a.line _ _ (emits (i:=.push (bM (a.text==[116,114,117,101]))) hto0 ⟨_,rfl,PV.tru _ _ _,by rw[lI];omega⟩ (by simp at hlen;omega))).mono fun _ _=>fin
 ·-- a list
  rw[UL fs seen d a _ hop] at hlen ⊢
  rw[m6,ax_] at hlen;have hkx:=hops.1;have hp:=hpsb ⟨sv,a.kids,false⟩ (by simp)
  obtain⟨x,c,rfl⟩:=hp.many.sliceC;refine(PQ w cb a.kids.length c a.line x _ _ (kids hto0 hp hkx hlik hk1 (by omega)) (fun W hq=>⟨aA (blk hq) rfl,aD (blk hq)⟩) (fun W hq=>emits (i:=.list a.kids.length) hq rfl (by rw[fN];omega))).mono ?_
  intro e W hq;rw[af_,<-y7];exact fin hq
 ·-- a call
  rw[DC fs seen d a _ hop] at hlen ⊢
  rw[m6,ax_] at hlen;have hkx:=hops.1;have hcase:=hops.2.2 hop;have hp:=hpsb ⟨sv,a.kids,false⟩ (by simp)
  obtain⟨x,c,rfl⟩:=hp.many.sliceC;obtain⟨hloc2,hcp2⟩:=hcp.new (.cells #[.int .i64 a.line,.string (bs a.text),.slice x a.kids.length c] 341);generalize hw1:w.alloc (.cells #[.int .i64 a.line,.string (bs a.text),.slice x a.kids.length c] 341)=w1 at*;have hto2:gB fp fb (fs.map (·.text)) cb F w1 code seen (w1.alloc (.cells #[.int .i64 a.line,.string (bs a.text),.slice x a.kids.length c] 341)):=⟨hcp2,hloc2.fb⟩
  have hx:=kids hto2 hp hkx hlik hk1 (by omega)
  have hw2:w1.heap.size<w1.heap.size+1:=ac_ _;have blk2:∀{W:World},FB cb (w1.alloc (.cells #[.int .i64 a.line,.string (bs a.text),.slice x a.kids.length c] 341)) W->W.heap[w1.heap.size]?=some (.cells #[.int .i64 a.line,.string (bs a.text),.slice x a.kids.length c] 341 (0,0)):=fun hfb=>(hloc2.step hfb).blk
  have hx2:Calls prog 287 #[.pointer (some ⟨cb,0,none⟩),.slice x a.kids.length c] (w1.alloc (.cells #[.int .i64 a.line,.string (bs a.text),.slice x a.kids.length c] 341)) fun e w'=>e=.returned (.tuple #[])/\(gB fp fb (fs.map (·.text)) cb F w1 (code++(bP (aG fs seen d) a.kids code.length).map some) seen w'/\w'.heap[w1.heap.size]?=some (.cells #[.int .i64 a.line,.string (bs a.text),.slice x a.kids.length c] 341 (0,0))):=by
   refine(rM IH _ _ _ _ hcp2 (hp.many.below hloc2.fb.bel) hkx hlik hk1 (by omega)).mono ?_
   rintro e w' ⟨he,hto⟩;exact⟨he,hto.then hloc2.fb,blk2 hto.2⟩
  have hfin:∀{i:aH} {e:Ending} {W:World},(e=.returned (.tuple #[])/\gB fp fb (fs.map (·.text)) cb F w1 ((code++(bP (aG fs seen d) a.kids code.length).map some)++[some i]) seen W)->e=.returned (.tuple #[])/\gB fp fb (fs.map (·.text)) cb F w (code++(bP (aG fs seen d) a.kids code.length++[i]).map some) seen W:=fun hq=>by
   rw[af_,<-y7];exact fin hq
  have hbd:(code++(bP (aG fs seen d) a.kids code.length).map some).length+1<=1000000:=by rw[fN];omega
  rcases hcase with htx|htx|⟨ht1,ht2,har⟩
  ·rw[htx] at hx2 hw1 ⊢
   refine(qS w cb a.kids.length c a.line _ x (fun W=>gB fp fb (fs.map (·.text)) cb F w1 ((code++(bP (aG fs seen d) a.kids code.length).map some)++[some .length]) seen W) (by rw[hw1];exact QX w1 cb a.kids.length c a.line x _ _ hx2 (fun W hq=>⟨aA hq.2 rfl,aD hq.2⟩) (fun W hq=>emits (i:=.length) hq.1 rfl hbd))).mono ?_
   intro e W hq;exact hfin hq
  ·rw[htx] at hx2 hw1 ⊢
   refine(qS w cb a.kids.length c a.line _ x (fun W=>gB fp fb (fs.map (·.text)) cb F w1 ((code++(bP (aG fs seen d) a.kids code.length).map some)++[some .read]) seen W) (by rw[hw1];exact IV w1 cb a.kids.length c a.line x _ _ hx2 (fun W hq=>⟨aA hq.2 rfl,aD hq.2⟩) (fun W hq=>emits (i:=.read) hq.1 rfl hbd))).mono ?_
   intro e W hq;exact hfin hq
  ·have hfl:dA fs a.text<fs.length:=by
    unfold fO at har;cases hf:fs[dA fs a.text]? with
    |none=>rw[hf] at har;cases har
    |some f=>exact(z6.1 hf).1
   have hmem:a.text∈fs.map (·.text):=by
    have h9:=hfl;unfold dA at h9;have:=aR_ (w:=h9);exact aO_.2 ⟨_,u_9 h9,by simpa using this⟩
   have e1:(a.text==[108,101,110])=false:=by simpa using ht1
   have e2:(a.text==[114,101,97,100])=false:=by simpa using ht2
   rw[e1,e2];refine(qS w cb a.kids.length c a.line _ x (fun W=>gB fp fb (fs.map (·.text)) cb F w1 ((code++(bP (aG fs seen d) a.kids code.length).map some)++[some (.call (dA fs a.text) a.kids.length)]) seen W) ?_).mono ?_
   ·rw[hw1];refine DV w1 cb a.kids.length c (fb (dA fs a.text)) a.line a.text x _ _ ht1 ht2 hx2 (fun W hq=>⟨aA hq.2 rfl,aA hq.2 rfl,aD hq.2⟩) (fun W W' hq hS=>?_) (fun W W' hq hS=>?_)
    ·refine(sT a.text (hq.1.1.grow hS.below) hmem (by simpa using hfn)).mono ?_
     rintro e w' ⟨he,hw'⟩;rw[CZ,hfp _ hfl] at he;exact⟨he,hw'⟩
    ·have hq':gB fp fb (fs.map (·.text)) cb F w1 (code++(bP (aG fs seen d) a.kids code.length).map some) seen W':=⟨hq.1.1.grow hS.below,hq.1.2.trans (FB.of_below hS.below hq.1.1.lt)⟩
     exact emits (i:=.call (dA fs a.text) a.kids.length) hq' (by show _=_;rw[hfp _ hfl]) hbd
   ·intro e W hq;exact hfin hq
 ·-- a variable
  rw[ZS fs seen d a _ hop] at hlen ⊢
  have hm:=hops.2.1 hop;exact(zP w cb a.line _ (eA seen a.text) _ (NK a.text hcp hm hsn) (emits (i:=.load (eA seen a.text)) hto0 rfl (by simp at hlen;omega))).mono fun _ _=>fin
 ·-- an index
  rw[PP fs seen d a _ hop,hkd,NN] at hlen ⊢
  rw[m6,m6,ax_] at hlen;have hkx:=hops.1;have hp1:=hpsb ⟨v1,[a1],true⟩ (by simp)
  have hp2:=hpsb ⟨v2,[a2],true⟩ (by simp)
  obtain⟨T1,cs1,rfl⟩:=hp1.one'.form;obtain⟨T2,cs2,rfl⟩:=hp2.one'.form;refine(LG w cb l T1 T2 _ _ _ _ _ (kid hto0 hp1 (hkx a1 (by rw[hkd];simp)) (hlik a1 (by rw[hkd];simp)) (by omega)) (fun W hq=>⟨aA (blk hq) rfl,aD (blk hq)⟩) (fun W hq=>kid hq hp2 (hkx a2 (by rw[hkd];simp)) (hlik a2 (by rw[hkd];simp)) (by rw[fN];omega)) (fun W hq=>emits (i:=.index) hq rfl (by simp only[fN];omega))).mono ?_
  intro e W hq;rw[fN] at hq;rw[af_,af_,<-y7,<-y7];exact fin hq
 ·-- one operand
  rw[PM fs seen d a _ o hoo hop,hkd,BV] at hlen ⊢
  rw[m6,ax_] at hlen;have hkx:=hops.1;have hp1:=hpsb ⟨v1,[a1],true⟩ (by simp)
  obtain⟨T1,cs1,rfl⟩:=hp1.one'.form;refine(LF w cb a.line _ T1 _ _ _ (kid hto0 hp1 (hkx a1 (by rw[hkd];simp)) (hlik a1 (by rw[hkd];simp)) (by omega)) (fun W hq=>⟨aA (blk hq) rfl,aD (blk hq)⟩) (fun W hq=>emits (i:=.unary [o]) hq rfl (by rw[fN];omega))).mono ?_
  intro e W hq;rw[af_,<-y7];exact fin hq
 ·-- two operands
  have hkx:=hops.1;have hp1:=hpsb ⟨v1,[a1],true⟩ (by simp)
  have hp2:=hpsb ⟨v2,[a2],true⟩ (by simp)
  obtain⟨T1,cs1,rfl⟩:=hp1.one'.form;obtain⟨T2,cs2,rfl⟩:=hp2.one'.form;have hx1:=hkx a1 (by rw[hkd];simp)
  have hx2:=hkx a2 (by rw[hkd];simp)
  have hl1:=hlik a1 (by rw[hkd];simp)
  have hl2:=hlik a2 (by rw[hkd];simp)
  generalize hcs:(#[.int .i64 (l:Nat),.string (bs a.op),.iface T1 (.agg cs1),.iface T2 (.agg cs2)]:Array Value)=cs at*;obtain⟨hloc2,hcp2⟩:=hcp.new (.cells cs 352);have hto2:gB fp fb (fs.map (·.text)) cb F (w.alloc (.cells cs 352)) code seen ((w.alloc (.cells cs 352)).alloc (.cells cs 352)):=⟨hcp2,hloc2.fb⟩
  generalize hw1:w.alloc (.cells cs 352)=w1 at*
  have kid2:∀{W:World} {v:Value} {k:aC} {c:List (Option aH)},(gB fp fb (fs.map (·.text)) cb F w1 c seen W/\Loc cb w1 w1.heap.size (.cells cs 352) W)->Prt.ok (Btw lo cb) w1 ⟨v,[k],true⟩->Hs.ExOk fs alone seen d k->pN d k->c.length+(aG fs seen d k c.length).length<=1000000->
   Calls prog 233 #[.pointer (some ⟨cb,0,none⟩),v] W fun e w'=>e=.returned (.tuple #[])/\(gB fp fb (fs.map (·.text)) cb F w1 (c++(aG fs seen d k c.length).map some) seen w'/\Loc cb w1 w1.heap.size (.cells cs 352) w'):=fun hto hp hx hl hn=>
   (IH _ _ _ _ hto.1.1 (hp.one'.below hto.1.2.bel) hx hl hn).mono fun e w' hq=>⟨hq.1,hq.2.then hto.1.2,hto.2.step hq.2.2⟩
  have hcell:∀{W:World},Loc cb w1 w1.heap.size (.cells cs 352) W->W.cell? ⟨w1.heap.size,1,none⟩=some (.string (bs a.op))/\W.cell? ⟨w1.heap.size,3,none⟩=some (.iface T2 (.agg cs2))/\w1.heap.size<W.heap.size:=fun hL=>⟨aA hL.blk (by rw[<-hcs];rfl),aA hL.blk (by rw[<-hcs];rfl),aD hL.blk⟩
  by_cases hsho:a.op=[38,38]\/a.op=[124,124]
  ·obtain⟨b,hb⟩:∃b:Bool,a.op=if b then [124,124] else [38,38]:=by
    rcases hsho with e|e
    ·exact⟨false,e⟩
    ·exact⟨true,e⟩
   rw[PO fs seen d a _ b a1 a2 hb hkd] at hlen ⊢
   generalize hcl:aG fs seen d a1 code.length=cl at*;generalize hcr:aG fs seen d a2 (code.length+cl.length+1)=cr at*;simp only[m6,ax_] at hlen
   have hbin:=MB w1 cb (code.length+cl.length) l b a.op T1 T2 (.agg cs1) (.agg cs2) (fun W=>gB fp fb (fs.map (·.text)) cb F w1 (code++cl.map some++some (.shortcut b (code.length+cl.length+1+cr.length+1))::(cr.map some++[some .truth])) seen W)
    (fun W=>gB fp fb (fs.map (·.text)) cb F w1 (code++cl.map some) seen W/\Loc cb w1 w1.heap.size (.cells cs 352) W)
    (fun W=>gB fp fb (fs.map (·.text)) cb F w1 (code++cl.map some++[none]) seen W/\Loc cb w1 w1.heap.size (.cells cs 352) W)
    (fun W=>gB fp fb (fs.map (·.text)) cb F w1 (code++cl.map some++[none]++cr.map some) seen W/\Loc cb w1 w1.heap.size (.cells cs 352) W)
    (fun W=>gB fp fb (fs.map (·.text)) cb F w1 (code++cl.map some++[none]++cr.map some++[some .truth]) seen W/\Loc cb w1 w1.heap.size (.cells cs 352) W) hb
    (by
      rw[hcs];have:=kid2 (c:=code) ⟨hto2,hloc2⟩ hp1 hx1 hl1 (by rw[hcl];omega)
      rw[hcl] at this;exact this)
    (fun W hq=>⟨(hcell hq.2).1,(hcell hq.2).2.2⟩)
    (fun W hq=>(qT (o:=none) hq.1.1 rfl (by rw[fN];omega)).mono fun e w' hr=>⟨by rw[hr.1,fN],⟨hr.2.1,hq.1.2.trans hr.2.2⟩,hq.2.step hr.2.2⟩)
    (fun W hq=>⟨(hcell hq.2).2.1,(hcell hq.2).2.2⟩)
    (fun W hq=>by
      have hlc:(code++cl.map some++[none]).length=code.length+cl.length+1:=by simp;omega
      have:=kid2 hq hp2 hx2 hl2 (by rw[hlc,hcr];omega)
      rw[hlc,hcr] at this;exact this)
    (fun W hq=>(qT (o:=some .truth) hq.1.1 rfl (by simp;omega)).mono fun e w' hr=>⟨⟨_,hr.1⟩,⟨hr.2.1,hq.1.2.trans hr.2.2⟩,hq.2.step hr.2.2⟩)
    (fun W hq=>by
      obtain⟨⟨hc1,hc2⟩,hL⟩:=hq;have e0:code++cl.map some++[none]++cr.map some++[some aH.truth]=(code++cl.map some)++none::(cr.map some++[some aH.truth]):=by simp
      rw[e0] at hc1;have hlt:=hc1.lt;obtain⟨g,c,p1,p2,p3,p4,p5⟩:=hc1.patch;have hpl:(code++cl.map some).length=code.length+cl.length:=fN _ _;have hnl:((code++cl.map some)++none::(cr.map some++[some aH.truth])).length=code.length+cl.length+1+cr.length+1:=by simp;omega
      rw[hpl] at p2 p3 p5;rw[hnl] at p1;refine⟨(hcell hL).1,(hcell hL).2.2,hlt,g,_,c,p1,by omega,by omega,p2,p3,p4,fun W' hS=>?_⟩
      obtain⟨q1,q2⟩:=p5 _ (.shortcut b (code.length+cl.length+1+cr.length+1)) W' rfl hS;exact⟨q1,hc2.trans q2⟩)
   rw[hcs] at hbin;rw[<-hcs];refine(sJ w cb l (bs a.op) T1 T2 (.agg cs1) (.agg cs2) _ (by rw[hcs,hw1];exact hbin)).mono ?_
   intro e W hq;have e9:code++(cl++[aH.shortcut b (code.length+cl.length+1+cr.length+1)]++cr++[aH.truth]).map some=code++cl.map some++some (.shortcut b (code.length+cl.length+1+cr.length+1))::(cr.map some++[some .truth]):=by simp
   rw[e9];exact fin hq
  ·have hn1:a.op≠[38,38]:=fun e=>hsho (Or.inl e)
   have hn2:a.op≠[124,124]:=fun e=>hsho (Or.inr e)
   rw[LE fs seen d a _ hop hn1 hn2,hkd,NN] at hlen ⊢
   simp only[m6,ax_] at hlen
   have hbin:=MC w1 cb l a.op T1 T2 (.agg cs1) (.agg cs2) (fun W=>gB fp fb (fs.map (·.text)) cb F w1 (code++(aG fs seen d a1 code.length).map some++(aG fs seen d a2 (code.length+(aG fs seen d a1 code.length).length)).map some++[some (.binary a.op)]) seen W) _ _ hn1 hn2
    (by rw[hcs];exact kid2 (c:=code) ⟨hto2,hloc2⟩ hp1 hx1 hl1 (by omega))
    (fun W hq=>hcell hq.2)
    (fun W hq=>kid2 hq hp2 hx2 hl2 (by rw[fN];omega))
    (fun W hq=>⟨(hcell hq.2).1,(hcell hq.2).2.2⟩)
    (fun W hq=>by
      obtain⟨hq1,hq2⟩:=hq;rw[fN] at hq1;exact emits (i:=.binary a.op) hq1 rfl (by simp only[fN];omega))
   rw[hcs] at hbin;rw[<-hcs];refine(sJ w cb l (bs a.op) T1 T2 (.agg cs1) (.agg cs2) _ (by rw[hcs,hw1];exact hbin)).mono ?_
   intro e W hq;rw[af_,af_,<-y7,<-y7];exact fin hq
 ·-- no expression
  exfalso
  have hno:∀x∈([[118,97,114],[115,101,116],[105,102],[119,104,105,108,101],[114,101,116,117,114,110],[112,114,105,110,116],[100,111]]:List (List UInt8)),a.op≠x:=fun x hx e=>by
   have hc:∀y∈([[48],[115],[98,111,111,108],[110,97,109,101],[108,105,115,116],[105,110,100,101,120],[45,120],[33,120],[99,97,108,108],[124,124],[38,38],[61,61],[33,61],[60],[60,61],[43],[45],[42],[47],[37]]:List (List UInt8)),a.op≠y:=fun y hy e2=>by
    rw[e] at e2;subst e2;simp at hx hy;rcases hx with rfl|rfl|rfl|rfl|rfl|rfl|rfl<;>simp at hy
   rcases hok with ⟨h1,_⟩|⟨h1,_⟩|⟨h1,_⟩|⟨h1,_⟩|⟨h1,_⟩|⟨h1,_⟩|⟨h1,_⟩
   ·rcases h1 with h1|h1|h1<;>exact hc _ (by simp) h1
   ·exact hc _ (by simp) h1
   ·exact hc _ (by simp) h1
   ·exact hc _ (by simp) h1
   ·rcases h1 with h1|h1<;>exact hc _ (by simp) h1
   ·exact hc _ (by simp) h1
   ·rcases mO h1 with e|e|e|e|e|e|e|e|e|e|e<;>exact hc _ (by simp) e
  rcases hrest with ⟨_,_,_,_,_,h1,_⟩|⟨_,_,_,_,_,_,h1,_⟩|⟨_,_,_,_,_,_,h1,_⟩|⟨_,_,_,_,_,_,_,_,h1,_⟩|⟨_,_,_,_,_,_,h1,_⟩|⟨_,_,_,h1,_⟩|⟨_,_,_,_,h1,_⟩|⟨_,_,_,_,h1,_⟩|⟨_,_,_,_,h1,_⟩
  all_goals exact hno _ (by simp) h1
theorem rN(hsn:seen.length<=1000000)(hfn:fs.length<=1000000)(hfp:∀k,k<fs.length->fp k=.pointer (some ⟨fb k,0,none⟩)):∀d,EC fp fb fs cb lo F alone seen d
 |0=>fun _ _ _ _ _ _ h=>h.elim
 |d+1=>VB (rN hsn hfn hfp d) hsn hfn hfp
end
end Go.Proofs.YtblbkfdhjfppkaaGreatDoor
