/- How the program's compiler lies in memory; what it emits. -/
import Derived.Test.YtblbkfdhjfppkaaGreatDoorB07
import Derived.Test.YtblbkfdhjfppkaaGreatDoorP07
import Derived.Test.YtblbkfdhjfppkaaGreatDoorP15
set_option maxRecDepth 100000
set_option maxHeartbeats 4000000
namespace Go.Proofs.YtblbkfdhjfppkaaGreatDoor
open Hs
open Go.RowKit
def OV(fp:Nat→Value)(F:Nat→Prop)(w:World)(xs:List Value)(code:List (Option aH)):Prop:=
 xs.length=code.length∧∀(i:Nat) o,code[i]?=some o→∃u,xs[i]?=some u∧(match o with|none=>u=.nilIface|some i=>kL fp F w u i)
theorem OV.keep{fp:Nat→Value}{F G:Nat→Prop}{w w':World}{xs:List Value}{code:List (Option aH)}(h:OV fp F w xs code)(hk:∀b,F b→w'.heap[b]?=w.heap[b]?)(hF:∀b,F b→G b):OV fp G w' xs code:=
 ⟨h.1,fun i o ho=>by
   obtain⟨u,h1,h2⟩:=h.2 i o ho;refine⟨u,h1,?_⟩;cases o with
   |none=>exact h2
   |some j=>exact kL.keep h2 hk hF⟩
def GB(fp:Nat→Value)(fb:Nat→Nat)(nms:List (List UInt8))(F:Nat→Prop)(w:World)(fv:Value):Prop:=
 (nms=[]∧fv=.slice none 0 0)∨∃g cap,fv=.slice (some ⟨g,0,none⟩) nms.length cap∧F g∧nms.length≤cap∧g<w.heap.size∧∀k (h:k<nms.length),w.cell? ⟨g,k,none⟩=some (fp k)∧fp k=.pointer (some ⟨fb k,0,none⟩)∧F (fb k)∧∃x,w.heap[fb k]?=some (.cells #[.string (bs nms[k]),x] 250 (0,0))
theorem GB.keep{fp:Nat→Value}{fb:Nat→Nat}{nms:List (List UInt8)}{F G:Nat→Prop}{w w':World}{fv:Value}(h:GB fp fb nms F w fv)(hk:∀b,F b→w'.heap[b]?=w.heap[b]?)(hF:∀b,F b→G b)(hs:w.heap.size≤w'.heap.size):GB fp fb nms G w' fv:=by
 rcases h with h|⟨g,cap,h1,h2,h3,h4,h5⟩
 ·exact Or.inl h
 ·refine Or.inr ⟨g,cap,h1,hF g h2,h3,Nat.lt_of_lt_of_le h4 hs,fun k hk'=>?_⟩
  obtain⟨e1,e2,e3,x,e4⟩:=h5 k hk';exact⟨by rw[World.cell?_of_block (hk g h2)];exact e1,e2,hF _ e3,x,by rw[hk _ e3];exact e4⟩
structure CP(fp:Nat→Value)(fb:Nat→Nat)(nms:List (List UInt8))(cb:Nat)(F:Nat→Prop)(w:World)(code:List (Option aH))(seen:List (List UInt8)):Prop where
 blk:∃fv cv sp,w.heap[cb]?=some (.cells #[fv,cv,sp] 276 (0,0))∧(∃xs,w.ownsRow (cb+1) 355 1 cv code.length xs∧OV fp F w xs code)∧eO F w sp seen∧GB fp fb nms F w fv
 fix:∀k,F k→k<w.heap.size∧k≠cb∧kE cb w≠some k
section
variable {fp:Nat→Value} {fb:Nat→Nat} {nms:List (List UInt8)} {cb:Nat} {F:Nat→Prop} {w w':World} {code:List (Option aH)} {seen:List (List UInt8)}
theorem CP.lt(h:CP fp fb nms cb F w code seen):cb<w.heap.size:=by
 obtain⟨_,_,_,h1,_⟩:=h.blk;exact aD h1
theorem iI{v0 v1 v2:Value}(h:w.heap[cb]?=some (.cells #[v0,v1,v2] 276 (0,0))):kE cb w=v1.ownBlock:=by unfold kE;rw[h];rfl
theorem CP.grow(h:CP fp fb nms cb F w code seen)(hb:Below w.heap.size w w'):CP fp fb nms cb F w' code seen:=by
 have hlt:=h.lt;obtain⟨fv,cv,sp,h1,⟨xs,h2,h3⟩,h4,h5⟩:=h.blk;have hF:∀b,F b→w'.heap[b]?=w.heap[b]?:=fun b hb'=>hb.block b (h.fix b hb').1
 refine⟨⟨fv,cv,sp,by rw[hb.block _ hlt];exact h1,⟨xs,iA h2 hb,h3.keep hF fun _ h=>h⟩,eO.keep hF (fun _ h=>h) h4,h5.keep hF (fun _ h=>h) hb.size⟩,fun k hk=>?_⟩
 obtain⟨e1,e2,e3⟩:=h.fix k hk;exact⟨Nat.lt_of_lt_of_le e1 hb.size,e2,by rw[nD (hb.block cb hlt)];exact e3⟩
theorem CP.new(h:CP fp fb nms cb F w code seen)(o:Obj):Loc cb w w.heap.size o (w.alloc o)∧CP fp fb nms cb F (w.alloc o) code seen:=by
 have hcb:=h.lt;have hb:Below w.heap.size w (w.alloc o):=(Below.refl _ _).alloc (Nat.le_refl _) _;refine⟨⟨FB.of_below hb hcb,aR _ _ rfl _,fun e=>?_,by omega⟩,h.grow hb⟩
 obtain⟨fv,cv,sp,h1,⟨xs,h2,_⟩,_⟩:=h.blk;rw[nD (hb.block cb hcb),iI h1] at e;have:=cG h2 _ e;omega
theorem L1:(Tryz.prog.info? 355).map (fun i=>(i.zero,i.size,i.bytes))=some (some .nilIface,1,16):=by kernel_rfl
theorem A7(w:World)(u:Value):∀j v,([u]:List Value)[j]?=some v→(w.alloc (.cells #[u] 355)).cell? ((⟨w.heap.size,0,none⟩:Addr).add j)=some v:=by
 intro j v hj;match j,hj with
 |0,hj=>simp at hj;subst hj;simp[Addr.add,go_sem]
 |j+1,hj=>simp at hj
def O2(fp:Nat→Value)(F:Nat→Prop)(w:World)(u:Value):Option aH→Prop
 |none=>u=.nilIface
 |some i=>kL fp F w u i
theorem O2.one{u:Value}{o:Option aH}(h:O2 fp F w u o):u.oneCell'=true∧(u=.nilIface∨∃t z,u=.iface t z):=by
 cases o with
 |none=>rw[show u=.nilIface from h];exact⟨rfl,Or.inl rfl⟩
 |some i=>obtain⟨t,z,rfl⟩:=kL.form h;exact⟨rfl,Or.inr ⟨t,z,rfl⟩⟩
theorem XN(cb n:Nat)(fv cv sp u:Value)(xs:List Value)(w:World)(hblk:w.heap[cb]?=some (.cells #[fv,cv,sp] 276 (0,0)))(hown:w.ownsRow (cb+1) 355 1 cv n xs)(hu1:u.oneCell'=true)(hu:u=.nilIface∨∃t z,u=.iface t z)(hn:n≤1000000):
 Calls Tryz.prog 238 #[.pointer (some ⟨cb,0,none⟩),u] w fun e w'=>e=.returned (.int .i64 n)∧∃cv',w'.heap[cb]?=some (.cells #[fv,cv',sp] 276 (0,0))∧w'.ownsRow (cb+1) 355 1 cv' (n+1) (xs++[u])∧FB cb w w':=by
 obtain⟨i0,hi,hz0,hz1,hz2⟩:=info_parts L1;obtain⟨x,c,rfl⟩:=cP hown;have hgl:=aD hblk;have c1:w.cell? ⟨cb,1,none⟩=some (.slice x n c):=aA hblk rfl;have HO:=aB hown;have HB:=aB hblk;have hone:∀v∈([u]:List Value),v.oneCell'=true:=fun v hv=>by simp at hv;rw[hv];exact hu1
 have HONE:=aB hone;clear hown hblk hone hu1
 have main:∀u':Value,u=u'→(u'=.nilIface∨∃t z,u'=.iface t z)→Calls Tryz.prog 238 #[.pointer (some ⟨cb,0,none⟩),u'] w fun e w'=>e=.returned (.int .i64 n)∧∃cv',w'.heap[cb]?=some (.cells #[fv,cv',sp] 276 (0,0))∧w'.ownsRow (cb+1) 355 1 cv' (n+1) (xs++[u'])∧FB cb w w':=by
  intro u' e hu';subst e;rcases hu' with rfl|⟨t,z,rfl⟩
  all_goals
   go_enter Tryz.func238,Tryz.ntmps238;go_wp2_with (at_builtin;refine wpList_append_lies _ (by rfl) _ _ 248 (by rfl) (cb+1) 355 i0 _ 1 16 Tryz.underlying248 hi hz0 hz1 hz2 rfl (by decide) (.slice x n c) n xs (by rfl) (HO.out.alloc _) ⟨w.heap.size,0,none⟩ 1 1 [_] (by rfl) (by rfl) (A7 w _) HONE.out (by decide) (by unfold maxLen;omega) (by omega) (by simp;omega) (w.heap.size+1) (by simp) ?_)
   intro g4 cap4 w4 hown4 hgrow4 hat4 hg4;have hne:some cb≠(Value.slice x n c).ownBlock:=fun e=>by have:=(HO.out.lt cb e.symm).1;omega
   have hblk4:w4.heap[cb]?=some (.cells #[fv,.slice x n c,sp] 276 (0,0)):=by
    rw[hgrow4.block cb (by simp;omega) hne,Below.heap_alloc _ _ _ hgl];exact HB.out
   have c1':w4.cell? ⟨cb,1,none⟩=some (.slice x n c):=aA hblk4 rfl;have f1':=aE hblk4 (i:=1);have hgl4:=aD hblk4
   have hgg:g4≠cb:=by
    have:=(hown4.lt g4 rfl).1;omega
   have HOWN:=aB hown4;have HG:=aB hgrow4;have HAT:=aB hat4;have HBL:=aB hblk4;clear hown4 hgrow4 hat4 hblk4;go_wp2_with fail;go_ret;refine⟨by go_num,.slice (some ⟨g4,0,none⟩) (n+1) cap4,aQ HBL.out,aY HOWN.out fun k hk=>Below.heap_setCell _ _ _ _ (by cases hk;exact hgg),⟨?_,fun k hk h1 h2=>?_,fun k hk=>?_⟩⟩
   ·exact(((Below.refl cb w).alloc (by omega) _).grown HG.out (by simp;omega) (fun k hk=>by have:=(HO.out.lt k hk).1;omega)).setCell (by exact Nat.le_refl cb) _
   ·rw[iI HB.out] at h2;rw[Below.heap_setCell _ _ _ _ h1,HG.out.block k (by simp;omega) (fun e=>h2 e.symm),Below.heap_alloc _ _ _ hk]
   ·rw[iI (aQ HBL.out),iI HB.out] at*;cases hk;rcases HAT.out with h|h
    ·exact Or.inl h
    ·exact Or.inr (by show w.heap.size≤g4;omega)
 exact main u rfl hu
theorem CP.step{code':List (Option aH)}{fv cv' sp:Value}{xs':List Value}(h:CP fp fb nms cb F w code seen)(hfb:FB cb w w')(hblk:w'.heap[cb]?=some (.cells #[fv,cv',sp] 276 (0,0)))(hrow:w'.ownsRow (cb+1) 355 1 cv' code'.length xs')(hc:OV fp F w' xs' code')(hsp:eO F w' sp seen)(hfv:GB fp fb nms F w' fv):CP fp fb nms cb F w' code' seen:=
 ⟨⟨fv,cv',sp,hblk,⟨xs',hrow,hc⟩,hsp,hfv⟩,fun k hk=>by
   obtain⟨e1,e2,e3⟩:=h.fix k hk;refine⟨Nat.lt_of_lt_of_le e1 hfb.bel.size,e2,fun e=>?_⟩
   rcases hfb.row k e with h1|h1
   ·exact e3 h1
   ·omega⟩
theorem CP.fixed(h:CP fp fb nms cb F w code seen)(hfb:FB cb w w'):∀b,F b→w'.heap[b]?=w.heap[b]?:=fun b hb=>by
 obtain⟨e1,e2,e3⟩:=h.fix b hb;exact hfb.blk b e1 e2 e3
theorem pU{u:Value}{o:Option aH}(h:CP fp fb nms cb F w code seen)(hu:O2 fp F w u o)(hn:code.length≤1000000):
 Calls Tryz.prog 238 #[.pointer (some ⟨cb,0,none⟩),u] w fun e w'=>e=.returned (.int .i64 code.length)∧CP fp fb nms cb F w' (code++[o]) seen∧FB cb w w':=by
 obtain⟨fv,cv,sp,h1,⟨xs,h2,h3⟩,h4,h5⟩:=h.blk;obtain⟨o1,o2⟩:=hu.one;refine(XN cb code.length fv cv sp u xs w h1 h2 o1 o2 hn).mono ?_;rintro e w' ⟨he,cv',q1,q2,q3⟩;have hF:=h.fixed q3;refine⟨he,h.step q3 q1 (by rw[List.length_append];exact q2) ?_ (eO.keep hF (fun _ h=>h) h4) (h5.keep hF (fun _ h=>h) q3.bel.size),q3⟩
 have h3':=h3.keep hF fun _ h=>h
 refine⟨by simp[h3.1],fun i o' ho=>?_⟩
 rcases Nat.lt_or_ge i code.length with hi|hi
 ·rw[List.getElem?_append_left hi] at ho;obtain⟨u',e1,e2⟩:=h3'.2 i o' ho;exact⟨u',by rw[List.getElem?_append_left (by rw[h3.1];exact hi)];exact e1,e2⟩
 ·rw[List.getElem?_append_right hi] at ho
  have hi0:i-code.length=0:=by
   have:=(List.getElem?_eq_some_iff.1 ho).1;simp at this;omega
  rw[hi0] at ho;simp at ho;subst ho;refine⟨u,by rw[List.getElem?_append_right (by rw[h3.1];exact hi),h3.1,hi0];rfl,?_⟩
  cases o with
  |none=>exact hu
  |some j=>exact kL.keep hu hF fun _ h=>h
theorem NB(h:CP fp fb nms cb F w code seen)(hn:seen.length≤1000000):
 Calls Tryz.prog 290 #[.pointer (some ⟨cb,0,none⟩)] w fun e w'=>e=.returned (.int .i64 seen.length)∧w'=w:=by
 obtain⟨fv,cv,sp,h1, -,h4, -⟩:=h.blk;have hl:=aD h1;have c2:w.cell? ⟨cb,2,none⟩=some sp:=aA h1 rfl;cases seen with
 |nil=>
  obtain rfl:sp=.pointer none:=h4;clear h h1;go_enter Tryz.func290,Tryz.ntmps290;go_wp2_with fail;go_ret;exact⟨rfl,rfl⟩
 |cons x l=>
  obtain⟨b,o,rfl,hb,hbb,hso⟩:=h4;have c1:w.cell? ⟨b,1,none⟩=some (.int .i64 l.length):=aA hbb rfl;have hbl:=aD hbb;simp only[List.length_cons] at hn;clear h h1 hbb hso;go_enter Tryz.func290,Tryz.ntmps290;go_wp2_with fail;go_ret;exact⟨by go_num,rfl⟩
end
section
variable {fp:Nat→Value} {fb:Nat→Nat} {nms:List (List UInt8)} {cb:Nat} {F:Nat→Prop} {w w':World} {code:List (Option aH)} {seen:List (List UInt8)}
theorem ZO(w:World)(cb n:Nat)(x:List UInt8)(p:Option Addr)(hl:cb<w.heap.size)(c2:w.cell? ⟨cb,2,none⟩=some (.pointer p))(f2:w.frozen? ⟨cb,2,none⟩=false)
 (HF:Hid (Calls Tryz.prog 290 #[.pointer (some ⟨cb,0,none⟩)] w.drew fun e w'=>e=.returned (.int .i64 n)∧w'=w.drew)):
 Calls Tryz.prog 236 #[.pointer (some ⟨cb,0,none⟩),.string (bs x)] w fun e w'=>e=.returned (.tuple #[])∧aW ((w.setCell ⟨cb,2,none⟩ (.pointer (some ⟨w.heap.size,0,none⟩))).alloc (.cells #[.string (bs x),.int .i64 n,.pointer p] 253)) w':=by
 go_enter Tryz.func236,Tryz.ntmps236;go_wp2_with fail;go_region_law (go_simp;go_at_call 290;refine HF.out.mono ?_;rintro e w1 ⟨rfl,rfl⟩)
 all_goals
  go_wp2_with fail;go_end0;exact⟨rfl,aW.drew _⟩
theorem TC(x:List UInt8)(h:CP fp fb nms cb F w code seen)(hn:seen.length≤1000000):
 Calls Tryz.prog 236 #[.pointer (some ⟨cb,0,none⟩),.string (bs x)] w fun e w'=>e=.returned (.tuple #[])∧CP fp fb nms cb (fun k=>F k∨k=w.heap.size) w' code (x::seen)∧FB cb w w':=by
 have hlt:=h.lt;obtain⟨fv,cv,sp,h1,⟨xs,h2,h3⟩,h4,h5⟩:=h.blk;obtain⟨p,rfl⟩:=h4.form;have hd:CP fp fb nms cb F w.drew code seen:=h.grow (aW.drew w).below;refine(ZO w cb seen.length x p hlt (aA h1 rfl) (aE h1) (NB hd hn)).mono ?_;rintro e w' ⟨he,hS⟩;generalize hW:(w.setCell ⟨cb,2,none⟩ (.pointer (some ⟨w.heap.size,0,none⟩))).alloc (.cells #[.string (bs x),.int .i64 seen.length,.pointer p] 253)=W at hS
 have hk:∀k,k<w.heap.size→k≠cb→w'.heap[k]?=w.heap[k]?:=fun k h1 h2=>by
  rw[hS.heap,←hW,Below.heap_alloc _ _ _ (by simpa using h1),Below.heap_setCell _ _ _ _ h2]
 have hcb:w'.heap[cb]?=some (.cells #[fv,cv,.pointer (some ⟨w.heap.size,0,none⟩)] 276 (0,0)):=by
  rw[hS.heap,←hW,Below.heap_alloc _ _ _ (by simpa using hlt)];exact aQ h1
 have hnew:w'.heap[w.heap.size]?=some (.cells #[.string (bs x),.int .i64 seen.length,.pointer p] 253 (0,0)):=by
  rw[hS.heap,←hW];exact aR _ _ (by simp) _
 have hsz:w'.heap.size=w.heap.size+1:=by rw[hS.heap,←hW];simp
 have hro:kE cb w'=kE cb w:=by rw[iI hcb,iI h1]
 have hF:∀b,F b→w'.heap[b]?=w.heap[b]?:=fun b hb=>hk b (h.fix b hb).1 (h.fix b hb).2.1
 have hrl:=fun k (e:cv.ownBlock=some k)=>h2.lt k e
 refine⟨he,⟨⟨fv,cv,_,hcb,⟨xs,aY h2 fun k e=>hk k (hrl k e).2 (by have:=(hrl k e).1;omega),h3.keep hF fun _ h=>Or.inl h⟩,⟨w.heap.size,.pointer p,rfl,Or.inr rfl,hnew,eO.keep hF (fun _ h=>Or.inl h) h4⟩,h5.keep hF (fun _ h=>Or.inl h) (by omega)⟩,fun k hk'=>?_⟩,⟨?_,fun k h1 h2 _=>hk k h1 h2,fun k e=>Or.inl (by rw[←hro];exact e)⟩⟩
 ·rcases hk' with hk'|rfl
  ·obtain⟨e1,e2,e3⟩:=h.fix k hk';exact⟨by omega,e2,by rw[hro];exact e3⟩
  ·refine⟨by omega,by omega,fun e=>?_⟩
   rw[hro,iI h1] at e;have:=(hrl _ e).2;omega
 ·refine⟨by rw[hS.os,←hW];rfl,by rw[hS.tape,←hW];rfl,by rw[hS.output,←hW];rfl,by omega,fun k hk'=>hk k (by omega) (by omega)⟩
theorem ZI{x y:List UInt8}{l:List (List UInt8)}(h:y∈x::l)(hn:x≠y):y∈l∧dS (x::l) y=dS l y:=by
 refine⟨?_,by rw[dS,if_neg hn]⟩
 rcases List.mem_cons.1 h with e|e
 ·exact absurd e.symm hn
 ·exact e
theorem LA(name:List UInt8)(h:CP fp fb nms cb F w code seen)(hm:name∈seen)(_hn:seen.length≤1000000):
 Calls Tryz.prog 286 #[.pointer (some ⟨cb,0,none⟩),.string (bs name)] w fun e w'=>e=.returned (.int .i64 (dS seen name))∧w'=w:=by
 obtain⟨fv,cv,sp,h1, -,h4, -⟩:=h.blk;have hl:=aD h1;have c2:w.cell? ⟨cb,2,none⟩=some sp:=aA h1 rfl;have H4:Hid (eO F w sp seen∧name∈seen):=⟨h4,hm⟩;obtain⟨p,rfl⟩:=h4.form;clear h h1 h4 hm;go_enter Tryz.func286,Tryz.ntmps286;go_wp2_with fail;go_loopg [5] seen.length (fun gk v wr=>∃l,l.length=gk∧eO F w v l∧name∈l∧dS l name=dS seen name∧wr=w)
 case atStart=>exact⟨seen,rfl,H4.out.1,H4.out.2,rfl,rfl⟩
 case round=>
  obtain⟨l,hl',hs,hml,hsl,rfl⟩:=hrel;cases l with
  |nil=>cases hml
  |cons x l=>
   obtain⟨b,o,rfl,hb,hbb,hso⟩:=hs;obtain⟨p',rfl⟩:=hso.form;have d0:wr.cell? ⟨b,0,none⟩=some (.string (bs x)):=aA hbb rfl;have d1:wr.cell? ⟨b,1,none⟩=some (.int .i64 l.length):=aA hbb rfl;have d2:wr.cell? ⟨b,2,none⟩=some (.pointer p'):=aA hbb rfl;have hbl:=aD hbb;by_cases hx:x=name
   ·subst hx;have hr:dS (x::l) x=l.length:=by rw[dS,if_pos rfl]
    rw[hr] at hsl;clear hbb hso hml;go_wp2_with fail;go_ret;exact⟨by rw[←hsl];rfl,rfl⟩
   ·obtain⟨q1,q2⟩:=ZI hml hx;have hne:((bs x).toList==(bs name).toList)=false:=by rw[bZ,bZ];simpa using hx
    have HS:Hid (eO F wr (.pointer p') l):=hso;rw[q2] at hsl;clear hbb hso hml;go_wp2_with fail;go_roundg l.length
    case measure=>simp at hl';omega
    case rel=>exact⟨l,rfl,HS.out,q1,hsl,rfl⟩
theorem rQ(name:List UInt8)(h:CP fp fb nms cb F w code seen)(hm:name∈nms)(hn:nms.length≤1000000):
 Calls Tryz.prog 174 #[.pointer (some ⟨cb,0,none⟩),.string (bs name)] w fun e w'=>e=.returned (fp (nms.findIdx fun x=>x==name))∧w'=w:=by
 obtain⟨fv,cv,sp,h1, -, -,h5⟩:=h.blk;rcases h5 with ⟨rfl,_⟩|⟨g,cap,rfl,hFg,hcap,hgl,hall⟩
 ·cases hm
 have hl:=aD h1;have c0:w.cell? ⟨cb,0,none⟩=some (.slice (some ⟨g,0,none⟩) nms.length cap):=aA h1 rfl;have HA:=aB hall;clear h h1 hall;go_enter Tryz.func174,Tryz.ntmps174;go_wp2_with fail;go_loopg [6,12] nms.length (fun gk _ i wr=>∃j:Nat,j+gk=nms.length∧i=.int .i64 j∧j≤nms.findIdx (fun x=>x==name)∧wr=w)
 case atStart=>exact⟨0,by omega,rfl,Nat.zero_le _,rfl⟩
 case round=>
  obtain⟨j,hj,rfl,hle,rfl⟩:=hrel;have hfi:nms.findIdx (fun x=>x==name)<nms.length:=List.findIdx_lt_length_of_exists ⟨name,hm,by simp⟩
  have hlt:j<nms.length:=by omega
  obtain⟨m,rfl⟩:∃m,gk=m+1:=⟨gk-1,by omega⟩
  obtain⟨e1,e2,e3,x,e4⟩:=HA.out j hlt;rw[e2] at e1;have d0:wr.cell? ⟨fb j,0,none⟩=some (.string (bs nms[j])):=aA e4 rfl;have hbl:=aD e4;have i1:(0:Int)≤(j:Int):=by omega
  have i2:(j:Int)<(nms.length:Int):=by omega
  by_cases hx:nms[j]=name
  ·have hje:nms.findIdx (fun x=>x==name)=j:=by
    refine Nat.le_antisymm (Nat.not_lt.1 fun hlt'=>?_) hle
    have:=List.not_of_lt_findIdx hlt';simp[hx] at this
   have E2:=aB e2;rw[hx] at d0;clear e4 e2 HA;go_wp2_with fail;go_ret;exact⟨by rw[hje,E2.out];rfl,rfl⟩
  ·have hne:((bs nms[j]).toList==(bs name).toList)=false:=by rw[bZ,bZ];simpa using hx
   have hle':j+1≤nms.findIdx (fun x=>x==name):=by
    rcases Nat.eq_or_lt_of_le hle with e|e
    ·have:=List.findIdx_getElem (w:=hfi);simp only[←e] at this;simp at this;exact absurd this hx
    ·exact e
   generalize nms[j]=y at*;clear e4 e2;go_wp2_with fail;go_roundg m
   case measure=>omega
   case rel=>exact⟨j+1,by omega,by go_num,hle',rfl⟩
end
theorem vG(v:Value)(w:World):(Instr.typeAssert (.iface 397 v) 122 397 true).run Tryz.prog w=.ok (.tuple #[v,.bool true]) w:=by kernel_rfl
theorem vF(v:Value)(w:World):(Instr.typeAssert (.iface 398 v) 122 397 true).run Tryz.prog w=.ok (.tuple #[.agg #[.int .i64 0,.int .i64 0],.bool false]) w:=by kernel_rfl
theorem vE(v:Value)(w:World):(Instr.typeAssert (.iface 398 v) 122 398 true).run Tryz.prog w=.ok (.tuple #[v,.bool true]) w:=by kernel_rfl
theorem BQ(v:Value)(w:World):(Instr.typeAssert (.iface 400 v) 122 397 true).run Tryz.prog w=.ok (.tuple #[.agg #[.int .i64 0,.int .i64 0],.bool false]) w:=by kernel_rfl
theorem BP(v:Value)(w:World):(Instr.typeAssert (.iface 400 v) 122 398 true).run Tryz.prog w=.ok (.tuple #[.agg #[.int .i64 0,.string ⟨#[]⟩],.bool false]) w:=by kernel_rfl
theorem JK(v:Value)(w:World):(Instr.typeAssert (.iface 400 v) 122 400 true).run Tryz.prog w=.ok (.tuple #[v,.bool true]) w:=by kernel_rfl
theorem sL(v:Value)(w:World):(Instr.typeAssert (.iface 344 v) 122 397 true).run Tryz.prog w=.ok (.tuple #[.agg #[.int .i64 0,.int .i64 0],.bool false]) w:=by kernel_rfl
theorem sK(v:Value)(w:World):(Instr.typeAssert (.iface 344 v) 122 398 true).run Tryz.prog w=.ok (.tuple #[.agg #[.int .i64 0,.string ⟨#[]⟩],.bool false]) w:=by kernel_rfl
theorem vD(v:Value)(w:World):(Instr.typeAssert (.iface 344 v) 122 400 true).run Tryz.prog w=.ok (.tuple #[.agg #[.int .i64 0,.bool false],.bool false]) w:=by kernel_rfl
theorem pV(v:Value)(w:World):(Instr.typeAssert (.iface 344 v) 122 344 true).run Tryz.prog w=.ok (.tuple #[v,.bool true]) w:=by kernel_rfl
theorem BK(v:Value)(w:World):(Instr.typeAssert (.iface 346 v) 122 397 true).run Tryz.prog w=.ok (.tuple #[.agg #[.int .i64 0,.int .i64 0],.bool false]) w:=by kernel_rfl
theorem BJ(v:Value)(w:World):(Instr.typeAssert (.iface 346 v) 122 398 true).run Tryz.prog w=.ok (.tuple #[.agg #[.int .i64 0,.string ⟨#[]⟩],.bool false]) w:=by kernel_rfl
theorem JG(v:Value)(w:World):(Instr.typeAssert (.iface 346 v) 122 400 true).run Tryz.prog w=.ok (.tuple #[.agg #[.int .i64 0,.bool false],.bool false]) w:=by kernel_rfl
theorem vH(v:Value)(w:World):(Instr.typeAssert (.iface 346 v) 122 344 true).run Tryz.prog w=.ok (.tuple #[.agg #[.int .i64 0,.string ⟨#[]⟩],.bool false]) w:=by kernel_rfl
theorem JF(v:Value)(w:World):(Instr.typeAssert (.iface 346 v) 122 346 true).run Tryz.prog w=.ok (.tuple #[v,.bool true]) w:=by kernel_rfl
theorem yD(v:Value)(w:World):(Instr.typeAssert (.iface 348 v) 122 397 true).run Tryz.prog w=.ok (.tuple #[.agg #[.int .i64 0,.int .i64 0],.bool false]) w:=by kernel_rfl
theorem yC(v:Value)(w:World):(Instr.typeAssert (.iface 348 v) 122 398 true).run Tryz.prog w=.ok (.tuple #[.agg #[.int .i64 0,.string ⟨#[]⟩],.bool false]) w:=by kernel_rfl
theorem DR(v:Value)(w:World):(Instr.typeAssert (.iface 348 v) 122 400 true).run Tryz.prog w=.ok (.tuple #[.agg #[.int .i64 0,.bool false],.bool false]) w:=by kernel_rfl
theorem tS(v:Value)(w:World):(Instr.typeAssert (.iface 348 v) 122 344 true).run Tryz.prog w=.ok (.tuple #[.agg #[.int .i64 0,.string ⟨#[]⟩],.bool false]) w:=by kernel_rfl
theorem DQ(v:Value)(w:World):(Instr.typeAssert (.iface 348 v) 122 346 true).run Tryz.prog w=.ok (.tuple #[.agg #[.int .i64 0,.slice none 0 0],.bool false]) w:=by kernel_rfl
theorem BL(v:Value)(w:World):(Instr.typeAssert (.iface 348 v) 122 348 true).run Tryz.prog w=.ok (.tuple #[v,.bool true]) w:=by kernel_rfl
theorem yB(v:Value)(w:World):(Instr.typeAssert (.iface 350 v) 122 397 true).run Tryz.prog w=.ok (.tuple #[.agg #[.int .i64 0,.int .i64 0],.bool false]) w:=by kernel_rfl
theorem yA(v:Value)(w:World):(Instr.typeAssert (.iface 350 v) 122 398 true).run Tryz.prog w=.ok (.tuple #[.agg #[.int .i64 0,.string ⟨#[]⟩],.bool false]) w:=by kernel_rfl
theorem DP(v:Value)(w:World):(Instr.typeAssert (.iface 350 v) 122 400 true).run Tryz.prog w=.ok (.tuple #[.agg #[.int .i64 0,.bool false],.bool false]) w:=by kernel_rfl
theorem tR(v:Value)(w:World):(Instr.typeAssert (.iface 350 v) 122 344 true).run Tryz.prog w=.ok (.tuple #[.agg #[.int .i64 0,.string ⟨#[]⟩],.bool false]) w:=by kernel_rfl
theorem DO(v:Value)(w:World):(Instr.typeAssert (.iface 350 v) 122 346 true).run Tryz.prog w=.ok (.tuple #[.agg #[.int .i64 0,.slice none 0 0],.bool false]) w:=by kernel_rfl
theorem BI(v:Value)(w:World):(Instr.typeAssert (.iface 350 v) 122 348 true).run Tryz.prog w=.ok (.tuple #[.agg #[.int .i64 0,.nilIface,.nilIface],.bool false]) w:=by kernel_rfl
theorem BH(v:Value)(w:World):(Instr.typeAssert (.iface 350 v) 122 350 true).run Tryz.prog w=.ok (.tuple #[v,.bool true]) w:=by kernel_rfl
theorem vK(v:Value)(w:World):(Instr.typeAssert (.iface 352 v) 122 397 true).run Tryz.prog w=.ok (.tuple #[.agg #[.int .i64 0,.int .i64 0],.bool false]) w:=by kernel_rfl
theorem vJ(v:Value)(w:World):(Instr.typeAssert (.iface 352 v) 122 398 true).run Tryz.prog w=.ok (.tuple #[.agg #[.int .i64 0,.string ⟨#[]⟩],.bool false]) w:=by kernel_rfl
theorem BS(v:Value)(w:World):(Instr.typeAssert (.iface 352 v) 122 400 true).run Tryz.prog w=.ok (.tuple #[.agg #[.int .i64 0,.bool false],.bool false]) w:=by kernel_rfl
theorem sM(v:Value)(w:World):(Instr.typeAssert (.iface 352 v) 122 344 true).run Tryz.prog w=.ok (.tuple #[.agg #[.int .i64 0,.string ⟨#[]⟩],.bool false]) w:=by kernel_rfl
theorem BR(v:Value)(w:World):(Instr.typeAssert (.iface 352 v) 122 346 true).run Tryz.prog w=.ok (.tuple #[.agg #[.int .i64 0,.slice none 0 0],.bool false]) w:=by kernel_rfl
theorem yF(v:Value)(w:World):(Instr.typeAssert (.iface 352 v) 122 348 true).run Tryz.prog w=.ok (.tuple #[.agg #[.int .i64 0,.nilIface,.nilIface],.bool false]) w:=by kernel_rfl
theorem yE(v:Value)(w:World):(Instr.typeAssert (.iface 352 v) 122 350 true).run Tryz.prog w=.ok (.tuple #[.agg #[.int .i64 0,.string ⟨#[]⟩,.nilIface],.bool false]) w:=by kernel_rfl
theorem vL(v:Value)(w:World):(Instr.typeAssert (.iface 352 v) 122 352 true).run Tryz.prog w=.ok (.tuple #[v,.bool true]) w:=by kernel_rfl
theorem BN(v:Value)(w:World):(Instr.typeAssert (.iface 341 v) 122 397 true).run Tryz.prog w=.ok (.tuple #[.agg #[.int .i64 0,.int .i64 0],.bool false]) w:=by kernel_rfl
theorem BM(v:Value)(w:World):(Instr.typeAssert (.iface 341 v) 122 398 true).run Tryz.prog w=.ok (.tuple #[.agg #[.int .i64 0,.string ⟨#[]⟩],.bool false]) w:=by kernel_rfl
theorem JJ(v:Value)(w:World):(Instr.typeAssert (.iface 341 v) 122 400 true).run Tryz.prog w=.ok (.tuple #[.agg #[.int .i64 0,.bool false],.bool false]) w:=by kernel_rfl
theorem vI(v:Value)(w:World):(Instr.typeAssert (.iface 341 v) 122 344 true).run Tryz.prog w=.ok (.tuple #[.agg #[.int .i64 0,.string ⟨#[]⟩],.bool false]) w:=by kernel_rfl
theorem JH(v:Value)(w:World):(Instr.typeAssert (.iface 341 v) 122 346 true).run Tryz.prog w=.ok (.tuple #[.agg #[.int .i64 0,.slice none 0 0],.bool false]) w:=by kernel_rfl
theorem DT(v:Value)(w:World):(Instr.typeAssert (.iface 341 v) 122 348 true).run Tryz.prog w=.ok (.tuple #[.agg #[.int .i64 0,.nilIface,.nilIface],.bool false]) w:=by kernel_rfl
theorem DS(v:Value)(w:World):(Instr.typeAssert (.iface 341 v) 122 350 true).run Tryz.prog w=.ok (.tuple #[.agg #[.int .i64 0,.string ⟨#[]⟩,.nilIface],.bool false]) w:=by kernel_rfl
theorem BO(v:Value)(w:World):(Instr.typeAssert (.iface 341 v) 122 352 true).run Tryz.prog w=.ok (.tuple #[.agg #[.int .i64 0,.string ⟨#[]⟩,.nilIface,.nilIface],.bool false]) w:=by kernel_rfl
theorem JI(v:Value)(w:World):(Instr.typeAssert (.iface 341 v) 122 341 true).run Tryz.prog w=.ok (.tuple #[v,.bool true]) w:=by kernel_rfl
theorem rD(w:World)(cb:Nat)(l k:Int)(P:World→Prop)
 (HE:Hid (Calls Tryz.prog 238 #[.pointer (some ⟨cb,0,none⟩),.iface 361 (.agg #[.iface 315 (.int .i64 k)])] (w.alloc (.cells #[.int .i64 l,.int .i64 k] 397)) fun e w'=>(∃k:Nat,e=.returned (.int .i64 k))∧P w')):
 Calls Tryz.prog 233 #[.pointer (some ⟨cb,0,none⟩),.iface 397 (.agg #[.int .i64 l,.int .i64 k])] w fun e w'=>e=.returned (.tuple #[])∧P w':=by
 have q0:=vG;go_enter Tryz.func233,Tryz.ntmps233;go_wp2_with fail;refine HE.out.mono ?_;rintro e w1 ⟨⟨m,rfl⟩,h1⟩;go_wp2_with fail;go_end0;exact⟨rfl,h1⟩
theorem DN(w:World)(cb:Nat)(l:Int)(s:ByteArray)(P:World→Prop)
 (HE:Hid (Calls Tryz.prog 238 #[.pointer (some ⟨cb,0,none⟩),.iface 361 (.agg #[.iface 318 (.string s)])] (w.alloc (.cells #[.int .i64 l,.string s] 398)) fun e w'=>(∃k:Nat,e=.returned (.int .i64 k))∧P w')):
 Calls Tryz.prog 233 #[.pointer (some ⟨cb,0,none⟩),.iface 398 (.agg #[.int .i64 l,.string s])] w fun e w'=>e=.returned (.tuple #[])∧P w':=by
 have q0:=vF;have q1:=vE;go_enter Tryz.func233,Tryz.ntmps233;go_wp2_with fail;refine HE.out.mono ?_;rintro e w1 ⟨⟨m,rfl⟩,h1⟩;go_wp2_with fail;go_end0;exact⟨rfl,h1⟩
theorem NI(w:World)(cb:Nat)(l:Int)(b:Bool)(P:World→Prop)
 (HE:Hid (Calls Tryz.prog 238 #[.pointer (some ⟨cb,0,none⟩),.iface 361 (.agg #[.iface 316 (.bool b)])] (w.alloc (.cells #[.int .i64 l,.bool b] 400)) fun e w'=>(∃k:Nat,e=.returned (.int .i64 k))∧P w')):
 Calls Tryz.prog 233 #[.pointer (some ⟨cb,0,none⟩),.iface 400 (.agg #[.int .i64 l,.bool b])] w fun e w'=>e=.returned (.tuple #[])∧P w':=by
 have q0:=BQ;have q1:=BP;have q2:=JK;go_enter Tryz.func233,Tryz.ntmps233;go_wp2_with fail;refine HE.out.mono ?_;rintro e w1 ⟨⟨m,rfl⟩,h1⟩;go_wp2_with fail;go_end0;exact⟨rfl,h1⟩
theorem xZ(w:World)(cb:Nat)(l:Int)(s:ByteArray)(k:Nat)(P:World→Prop)
 (HS:Hid (Calls Tryz.prog 286 #[.pointer (some ⟨cb,0,none⟩),.string s] (w.alloc (.cells #[.int .i64 l,.string s] 344)) fun e w'=>e=.returned (.int .i64 k)∧w'=w.alloc (.cells #[.int .i64 l,.string s] 344)))
 (HE:Hid (Calls Tryz.prog 238 #[.pointer (some ⟨cb,0,none⟩),.iface 402 (.agg #[.int .i64 k])] (w.alloc (.cells #[.int .i64 l,.string s] 344)) fun e w'=>(∃k:Nat,e=.returned (.int .i64 k))∧P w')):
 Calls Tryz.prog 233 #[.pointer (some ⟨cb,0,none⟩),.iface 344 (.agg #[.int .i64 l,.string s])] w fun e w'=>e=.returned (.tuple #[])∧P w':=by
 have q0:=sL;have q1:=sK;have q2:=vD;have q3:=pV;go_enter Tryz.func233,Tryz.ntmps233;go_wp2_with fail;refine HS.out.mono ?_;rintro e w1 ⟨rfl,rfl⟩;go_wp2_with fail;refine HE.out.mono ?_;rintro e w2 ⟨⟨m,rfl⟩,h1⟩;go_wp2_with fail;go_end0;exact⟨rfl,h1⟩
theorem NH(w:World)(cb n c:Nat)(l:Int)(x:Option Addr)(P Q:World→Prop)
 (HX:Hid (Calls Tryz.prog 287 #[.pointer (some ⟨cb,0,none⟩),.slice x n c] (w.alloc (.cells #[.int .i64 l,.slice x n c] 346)) fun e w'=>e=.returned (.tuple #[])∧Q w'))
 (HB:Hid (∀W,Q W→W.cell? ⟨w.heap.size,1,none⟩=some (.slice x n c)∧w.heap.size<W.heap.size))
 (HE:Hid (∀W,Q W→Calls Tryz.prog 238 #[.pointer (some ⟨cb,0,none⟩),.iface 404 (.agg #[.int .i64 n])] W fun e w'=>(∃k:Nat,e=.returned (.int .i64 k))∧P w')):
 Calls Tryz.prog 233 #[.pointer (some ⟨cb,0,none⟩),.iface 346 (.agg #[.int .i64 l,.slice x n c])] w fun e w'=>e=.returned (.tuple #[])∧P w':=by
 have q0:=BK;have q1:=BJ;have q2:=JG;have q3:=vH;have q4:=JF;go_enter Tryz.func233,Tryz.ntmps233;go_wp2_with fail;refine HX.out.mono ?_;rintro e w1 ⟨rfl,h1⟩;obtain⟨b1,b2⟩:=HB.out _ h1;have HEE:=aB (HE.out _ h1);clear h1;go_wp2_with fail;refine HEE.out.mono ?_;rintro e w2 ⟨⟨m,rfl⟩,h2⟩;go_wp2_with fail;go_end0;exact⟨rfl,h2⟩
theorem JC(w:World)(cb:Nat)(l:Int)(t1 t2:TypeId)(z1 z2:Value)(P Q R:World→Prop)
 (HX:Hid (Calls Tryz.prog 233 #[.pointer (some ⟨cb,0,none⟩),.iface t1 z1] (w.alloc (.cells #[.int .i64 l,.iface t1 z1,.iface t2 z2] 348)) fun e w'=>e=.returned (.tuple #[])∧Q w'))
 (HB:Hid (∀W,Q W→W.cell? ⟨w.heap.size,2,none⟩=some (.iface t2 z2)∧w.heap.size<W.heap.size))
 (HY:Hid (∀W,Q W→Calls Tryz.prog 233 #[.pointer (some ⟨cb,0,none⟩),.iface t2 z2] W fun e w'=>e=.returned (.tuple #[])∧R w'))
 (HE:Hid (∀W,R W→Calls Tryz.prog 238 #[.pointer (some ⟨cb,0,none⟩),.iface 405 (.agg #[])] W fun e w'=>(∃k:Nat,e=.returned (.int .i64 k))∧P w')):
 Calls Tryz.prog 233 #[.pointer (some ⟨cb,0,none⟩),.iface 348 (.agg #[.int .i64 l,.iface t1 z1,.iface t2 z2])] w fun e w'=>e=.returned (.tuple #[])∧P w':=by
 have q0:=yD;have q1:=yC;have q2:=DR;have q3:=tS;have q4:=DQ;have q5:=BL;go_enter Tryz.func233,Tryz.ntmps233;go_wp2_with fail;refine HX.out.mono ?_;rintro e w1 ⟨rfl,h1⟩;obtain⟨b1,b2⟩:=HB.out _ h1;have HYY:=aB (HY.out _ h1);clear h1;go_wp2_with fail;refine HYY.out.mono ?_;rintro e w2 ⟨rfl,h2⟩;have HEE:=aB (HE.out _ h2);clear h2;go_wp2_with fail;refine HEE.out.mono ?_;rintro e w3 ⟨⟨m,rfl⟩,h3⟩;go_wp2_with fail;go_end0;exact⟨rfl,h3⟩
theorem JB(w:World)(cb:Nat)(l:Int)(op:ByteArray)(t1:TypeId)(z1:Value)(P Q:World→Prop)
 (HX:Hid (Calls Tryz.prog 233 #[.pointer (some ⟨cb,0,none⟩),.iface t1 z1] (w.alloc (.cells #[.int .i64 l,.string op,.iface t1 z1] 350)) fun e w'=>e=.returned (.tuple #[])∧Q w'))
 (HB:Hid (∀W,Q W→W.cell? ⟨w.heap.size,1,none⟩=some (.string op)∧w.heap.size<W.heap.size))
 (HE:Hid (∀W,Q W→Calls Tryz.prog 238 #[.pointer (some ⟨cb,0,none⟩),.iface 407 (.agg #[.string op])] W fun e w'=>(∃k:Nat,e=.returned (.int .i64 k))∧P w')):
 Calls Tryz.prog 233 #[.pointer (some ⟨cb,0,none⟩),.iface 350 (.agg #[.int .i64 l,.string op,.iface t1 z1])] w fun e w'=>e=.returned (.tuple #[])∧P w':=by
 have q0:=yB;have q1:=yA;have q2:=DP;have q3:=tR;have q4:=DO;have q5:=BI;have q6:=BH;go_enter Tryz.func233,Tryz.ntmps233;go_wp2_with fail;refine HX.out.mono ?_;rintro e w1 ⟨rfl,h1⟩;obtain⟨b1,b2⟩:=HB.out _ h1;have HEE:=aB (HE.out _ h1);clear h1;go_wp2_with fail;refine HEE.out.mono ?_;rintro e w3 ⟨⟨m,rfl⟩,h3⟩;go_wp2_with fail;go_end0;exact⟨rfl,h3⟩
theorem rF(w:World)(cb:Nat)(l:Int)(op:ByteArray)(t1 t2:TypeId)(z1 z2:Value)(P:World→Prop)
 (HX:Hid (Calls Tryz.prog 288 #[.pointer (some ⟨cb,0,none⟩),.agg #[.int .i64 l,.string op,.iface t1 z1,.iface t2 z2]] (w.alloc (.cells #[.int .i64 l,.string op,.iface t1 z1,.iface t2 z2] 352)) fun e w'=>e=.returned (.tuple #[])∧P w')):
 Calls Tryz.prog 233 #[.pointer (some ⟨cb,0,none⟩),.iface 352 (.agg #[.int .i64 l,.string op,.iface t1 z1,.iface t2 z2])] w fun e w'=>e=.returned (.tuple #[])∧P w':=by
 have q0:=vK;have q1:=vJ;have q2:=BS;have q3:=sM;have q4:=BR;have q5:=yF;have q6:=yE;have q7:=vL;go_enter Tryz.func233,Tryz.ntmps233;go_wp2_with fail;refine HX.out.mono ?_;rintro e w1 ⟨rfl,h1⟩;go_wp2_with fail;go_end0;exact⟨rfl,h1⟩
theorem pT(w:World)(cb n c:Nat)(l:Int)(s:ByteArray)(x:Option Addr)(P:World→Prop)
 (HX:Hid (Calls Tryz.prog 289 #[.pointer (some ⟨cb,0,none⟩),.agg #[.int .i64 l,.string s,.slice x n c]] (w.alloc (.cells #[.int .i64 l,.string s,.slice x n c] 341)) fun e w'=>e=.returned (.tuple #[])∧P w')):
 Calls Tryz.prog 233 #[.pointer (some ⟨cb,0,none⟩),.iface 341 (.agg #[.int .i64 l,.string s,.slice x n c])] w fun e w'=>e=.returned (.tuple #[])∧P w':=by
 have q0:=BN;have q1:=BM;have q2:=JJ;have q3:=vI;have q4:=JH;have q5:=DT;have q6:=DS;have q7:=BO;have q8:=JI;go_enter Tryz.func233,Tryz.ntmps233;go_wp2_with fail;refine HX.out.mono ?_;rintro e w1 ⟨rfl,h1⟩;go_wp2_with fail;go_end0;exact⟨rfl,h1⟩
end Go.Proofs.YtblbkfdhjfppkaaGreatDoor
