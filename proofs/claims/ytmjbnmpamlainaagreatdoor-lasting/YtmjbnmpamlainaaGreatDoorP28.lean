/- Stacks: a session begins: the walk. -/
import Derived.Test.YtmjbnmpamlainaaGreatDoorP23
import Derived.Test.YtmjbnmpamlainaaGreatDoorP24
set_option linter.defProp false
set_option maxRecDepth 100000
set_option maxHeartbeats 4000000
namespace Go.Proofs.YtmjbnmpamlainaaGreatDoor
open Hs
open _root_.Go.Proofs.Tryz
open Go.RowKit
def Z5:(prog.info? 3).map (fun i=>(i.zero,i.size,i.bytes))=some (some (Iv0 0),1,8):=by kernel_rfl
def YI(w:aG)(u:ByteArray)(tx:Option Addr)(c:Nat)(cs:List Value)(hn:cs.length<=17592186044416)(h1:∀v∈cs,v.oneCell'=true)(A:World->Prop)(S:Option Addr->Nat->Nat->World->Prop)(R:Option Addr->World->Prop)
 (N:Hid (Calls prog 11 #[] w fun e w'=>e=aZ (.bool true)/\A w'))
 (X:Hid (∀W,A W->Below w.heap.size w W/\(0<cs.length->∃d,tx=some d/\d.block<w.heap.size/\∀j v,cs[j]?=some v->w.cell? (d.add j)=some v)))
 (T:Hid (∀W V g,A W->Below W.heap.size W V->V.heap[g]?=some (.cells cs.toArray 3 (0,0))->W.heap.size<=g->Calls prog 12 #[.string u,.slice (some (aH g 0)) cs.length cs.length] V fun e w'=>∃(p:Option Addr) (k l:Nat),e=aZ (.tuple #[.pointer p,Iv0 k,Iv0 l])/\S p k l w'))
 (O:Hid (∀(p:Option Addr) (k l:Nat) W,S p k l W->(p=none↔k≠0)/\Calls prog 13 #[.string u] W fun e w'=>e=aZ (.tuple #[Iv0 k,Iv0 l])/\R p w')):
 Calls prog 4 #[.string u,.slice tx cs.length c] w fun e w'=>∃p,e=aZ (.tuple #[.pointer p,.bool true])/\R p w':=by
 go_in
 go_wp2_with fail;refine N.mono ?_;rintro e b ⟨rfl,C⟩;have Q:=aB C;clear C N
 have D:(Instr.makeSlice 22 (Iv0 (cs.length:Int)) (Iv0 (cs.length:Int))).run prog b=.ok (.slice (some (aH b.heap.size 0)) cs.length cs.length) (b.alloc (.cells (madeCells #[Iv0 0] cs.length) 3)):=by
  obtain⟨i0,hi,H,I,J⟩:=info_parts Z5;have:=run_make (P:=prog) b 22 3 i0 _ underlying22 hi H .i64 .i64 cs.length cs.length (by omega) (Int.le_refl _) (by rw[J];omega) (by omega)
  rw[I,dW_] at this;exact this
 obtain⟨a,m,t⟩:∃a:List Value,madeCells #[Value.int .i64 0] cs.length=a.toArray/\a.length=cs.length:=⟨(madeCells #[Value.int .i64 0] cs.length).toList,by simp,by simp[size_madeCells]⟩
 rw[m] at D;obtain⟨s,o⟩:=X _ Q;have r:Below b.heap.size b (b.alloc (.cells a.toArray 3)):=(co_ _ _).alloc cL _;have h:(b.alloc (.cells a.toArray 3)).heap[b.heap.size]?=some (.cells a.toArray 3 (0,0)):=aO _ _ rfl _
 have i:0<cs.length->(some ⟨b.heap.size,0,none⟩:Option Addr)=some (aH b.heap.size 0)/\∃d,tx=some d/\∀j v,cs[j]?=some v->(b.alloc (.cells a.toArray 3)).cell? (d.add j)=some v:=fun hp=>by
  obtain⟨d,q1,q2,q3⟩:=o hp;refine⟨rfl,d,q1,fun j v hv=>?_⟩
  have x:(d.add j).block=d.block:=by unfold Addr.add;split<;>rfl
  rw[World.cell?_of_block (w:=b) (cq_ _ _ _ (by rw[x];have:=s.size;omega)),World.cell?_of_block (w:=w) (s.block _ (by rw[x];exact q2))]
  exact q3 j v hv
 have n:(prog.info? 3).map (·.size)=some 1:=by kernel_rfl
 obtain⟨G,Y,y,E⟩:∃G:aG,(Builtin.copy_ #[22,22] 3 #[.slice (some (aH b.heap.size 0)) cs.length cs.length,.slice tx cs.length c]).run prog (b.alloc (.cells a.toArray 3))=.ok (goInt cs.length) G/\G.heap[b.heap.size]?=some (.cells cs.toArray 3 (0,0))/\Below b.heap.size b G:=by
  by_cases Z:cs.length=0
  ·obtain rfl:cs=[]:=cF_ Z;obtain rfl:a=[]:=cF_ t;exact⟨_,run_copy_none (P:=prog) _ 22 22 3 3 _ tx 0 0 0 c underlying22 n rfl,h,r⟩
  ·obtain⟨_,d,rfl,hs⟩:=i (by omega)
   refine⟨_,run_copy_row (P:=prog) (b.alloc (.cells a.toArray 3)) 22 22 3 3 b.heap.size 0 cs.length cs.length d cs.length c a.toArray 3 cs underlying22 n h (Nat.min_self _).symm hs (by simp;omega) h1,?_,below_setRow r cL _⟩
   have:=setRow_heap (b.alloc (.cells a.toArray 3)) b.heap.size a.toArray (a.take 0++cs++a.drop (0+cs.length)).toArray 3 _ h;simp only[List.take_zero,dk_,c8_,c2_ (dR_ t),dz_] at this ⊢
   simpa [c2_ (dR_ t)] using this
 clear s o m i r h X;go_wp2_with fail;have B:=aB (T _ _ _ Q E y cL);clear y E D T;go_wp2_with fail;refine B.mono ?_;rintro e w3 ⟨p,k,l,rfl,U⟩;obtain⟨f,F⟩:=O _ _ _ _ U;have z:=aB F;clear U F O B;go_wp2_with fail;refine z.mono ?_;rintro e w4 ⟨rfl,M⟩;have K:=aB M;clear M z;by_cases L:k=0
 ·subst L
  obtain⟨q,rfl⟩:∃q,p=some q:=by
   cases p with
   |none=>exact absurd rfl (f.1 rfl)
   |some q=>exact⟨q,rfl⟩
  clear f;go_wp2
  go_ret2
  exact⟨_,rfl,K⟩
 ·obtain rfl:=f.2 L;have e0:((k:Int) != 0)=true:=by simp;omega
  clear f;go_wp2
  go_ret2
  exact⟨_,rfl,K⟩
noncomputable def bi_(s:bC):List (cD × cD):=match s.m.frames.getLast? with
 |none=>[]
 |some f=>(lU f.seen).map fun x=>(x,UC f x)
structure Short(s:bC):Prop where
 deep:s.m.frames.length<=16
 out:s.m.out.length<=1000000
 vars:(bi_ s).length<=1000000
 time:s.time<=500
def EM(a:ByteArray)(w:aG)(d:gS w)(g:a.size<=maxLen):
 Calls prog 13 #[.string a] w fun e w'=>Below w.heap.size w w'/\((cI a.data.toList).1=0->cI a.data.toList=(0,0))/\e=aZ (.tuple #[Iv0 (cI a.data.toList).1,Iv0 (cI a.data.toList).2]):=
 j5 (cI a.data.toList) a w fun b f i c=>(XZ a w.heap.size b (d.below f) g i c).mono fun _ _ h=>h
def YK(w:aG)(A:Nat->World->Prop)(B:World->Prop)
 (h:Hid (Calls prog 20 #[.string ⟨#[102,117,110,99,32,102,40,120,41,32,123,32,114,101,116,117,114,110,32,91,120,44,32,34,195,169,34,93,59,32,125,10,102,117,110,99,32,109,97,105,110,40,41,32,123,32,118,97,114,32,97,32,61,32,102,40,50,41,59,32,112,114,105,110,116,32,97,59,32,112,114,105,110,116,32,108,101,110,40,97,91,49,93,41,59,32,125]⟩] w fun e w'=>∃g c,e=aZ (.tuple #[.slice (some (aH g 0)) 2 c,Iv0 4,.bool true])/\A g w'))
 (f:Hid (∀g W,A g W->Calls prog 13 #[.string ⟨#[102,117,110,99,32,109,97,105,110,40,41,32,123,10,32,112,114,105,110,116,32,120,59,32,125]⟩] W fun e w'=>e=aZ (.tuple #[Iv0 6,Iv0 2])/\w'.cell? (aH g 0)=some (.string ⟨#[91,50,44,32,34,195,169,34,93]⟩)/\w'.cell? (aH g 1)=some (.string ⟨#[49]⟩)/\g<w'.heap.size/\B w')):
 Calls prog 11 #[] w fun e w'=>e=aZ (.bool true)/\B w':=by
 go_in
 go_wp2_with fail;refine h.mono ?_;rintro e j ⟨g,c,rfl,d⟩;have a:=aB (f _ _ d);clear d h f;go_wp2_with fail;refine a.mono ?_;rintro e m ⟨rfl,k,n,l,b⟩;have i:=aB b;clear b a;go_wp2
 go_ret;exact⟨rfl,i⟩
def P2(w:aG)(j:gS w)(o:kM w)(d:9<=w.heap.size):Calls prog 11 #[] w fun e w'=>e=aZ (.bool true)/\Below w.heap.size w w':=by
 refine YK w (fun g W=>Below w.heap.size w W/\W.cell? (aH g 0)=some (.string ⟨#[91,50,44,32,34,195,169,34,93]⟩)/\W.cell? (aH g 1)=some (.string ⟨#[49]⟩)/\g<W.heap.size) (fun W=>Below w.heap.size w W) ?_ (fun g W m=>?_)
 ·refine(QI w YR 4 _ UD j o d).mono ?_;rintro e w' ⟨x,n,c,rfl,⟨s,r,b,f⟩,a⟩;obtain⟨g,rfl,i,h,k⟩:=f 0 (by simp)
  obtain⟨t,l,q,_,_⟩:=f 1 (by simp)
  cases l;simp only[Value.slice.injEq] at b;obtain⟨rfl,rfl,rfl⟩:=b;exact⟨g,_,rfl,a,i,q,k⟩
 ·obtain⟨b,f,i,h⟩:=m;refine(EM (bs YS) W (j.below b) (by rw[gR];decide)).mono ?_
  rintro e w' ⟨a,_,rfl⟩;rw[fX,VW];exact⟨rfl,(a.cell (p:=(aH g 0)) h).trans f,(a.cell (p:=(aH g 1)) h).trans i,cn_ h a.size,b.trans (a.mono b.size)⟩
def P0(w:aG)(d:cD)(tx:Option Addr)(c:Nat)(a:List Int)(D:gS w)(F:kM w)(u:9<=w.heap.size)(hs:d.length<=140737488355328)(r:a.length<=17592186044416)(hi:∀x∈a, -9223372036854775808<=x/\x<=9223372036854775807)
 (H:0<a.length->∃E,tx=some E/\E.block<w.heap.size/\∀j v,(a.map (Value.int .i64))[j]?=some v->w.cell? (E.add j)=some v):
 Calls prog 4 #[.string (bs d),.slice tx a.length c] w fun e w'=>∃p,e=aZ (.tuple #[.pointer p,.bool true])/\Below w.heap.size w w'/\((p=none/\(cI d).1≠0)\/∃sb ks fp G mb s,p=some (aH sb 0)/\Good ks/\Live fp G w' sb mb (.map #[] 0) ks a s 1 []/\s.time=0/\w.heap.size<=sb/\w.heap.size<=mb/\cW d=.ok ks/\cI d=(0,0)):=by
 have m:(a.map (Value.int .i64)).length=a.length:=by simp
 have P:gR d=gR d:=rfl;rw[<-m]
 refine YI w (bs d) tx c (a.map (Value.int .i64)) (by rw[m];exact r) (fun v z=>?_) (fun W=>Below w.heap.size w W)
  (fun p k l W=>Below w.heap.size w W/\cI d=(k,l)/\(p=none↔k≠0)/\(p=none\/∃sb ks fp G mb s,p=some (aH sb 0)/\Good ks/\Live fp G W sb mb (.map #[] 0) ks a s 1 []/\s.time=0/\w.heap.size<=sb/\w.heap.size<=mb/\cW d=.ok ks/\cI d=(0,0)))
  (fun p W=>Below w.heap.size w W/\((p=none/\(cI d).1≠0)\/∃sb ks fp G mb s,p=some (aH sb 0)/\Good ks/\Live fp G W sb mb (.map #[] 0) ks a s 1 []/\s.time=0/\w.heap.size<=sb/\w.heap.size<=mb/\cW d=.ok ks/\cI d=(0,0)))
  (P2 w D F u) (fun W A=>⟨A,fun h=>H (by rw[<-m];exact h)⟩) (fun W V g A hV K aa=>?_) (fun p k l W hS=>?_)
 ·simp only[dn_] at z;obtain⟨x,_,rfl⟩:=z;rfl
 ·have f:Below w.heap.size w V:=A.trans (hV.mono A.size);refine(EX (bs d) (.slice (some (aH g 0)) (a.map (Value.int .i64)).length (a.map (Value.int .i64)).length) a V (D.below f) (F.below f) (by rw[gR];omega) (ck_ ⟨g,0,_,by rw[m],aC K,fun i C=>⟨?_,hi _ (cG_ _)⟩⟩) r (fun ks M I=>?_)).mono ?_
  ·rw[c8_];exact aA K (by simp[C])
  ·rw[fX] at M I;exact CD M I
  ·rintro e w' ⟨v,rfl,n,z⟩;rw[fX] at z;have o:Below w.heap.size w w':=f.trans (n.mono f.size);have J:w.heap.size<=V.heap.size:=f.size;rcases z with ⟨q,ks,fp,G,sb,mb,L,rfl,q2,q3,Y,s,X,S⟩|⟨q,rfl⟩
   ·refine⟨some (aH sb 0),0,0,rfl,o,q,by simp,ck_ ⟨sb,ks,fp,G,mb,s,rfl,CD L q,⟨X,Y,F.below o,⟨by omega,by omega⟩,by omega,fun b n=>by cases n⟩,S,by omega,by omega,L,q⟩⟩
   ·exact⟨none,_,_,rfl,o,rfl,by simpa using q,cl_ rfl⟩
 ·obtain⟨n,N,t,B⟩:=hS;refine⟨t,(EM (bs d) W (D.below n) (by rw[gR];unfold maxLen;omega)).mono ?_⟩
  rintro e w' ⟨y,_,rfl⟩;rw[fX,N];refine⟨rfl,n.trans (y.mono n.size),?_⟩;rcases B with B|⟨sb,ks,fp,G,mb,s,e1,U,e3,e4,O,T,Q,Z⟩
  ·exact cl_ ⟨B,t.1 B⟩
  ·exact ck_ ⟨sb,ks,fp,G,mb,s,e1,U,e3.but (But.below y []) pV,e4,O,T,Q,by rw[<-N];exact Z⟩
def sU(m:SV):List Nat:=(if m.n1=0 then [] else (m.x1.map (·.block)).toList)++((if m.n2=0 then [] else (m.x2.map (·.block)).toList)++(if m.n3=0 then [] else (m.x3.map (·.block)).toList))
def vN.keepL{b:Nat}{W d:aG}{m:SV}{s:bC}(h:vN b W m s)(j:∀g∈sU m,d.heap[g]?=W.heap[g]?)(A:W.heap.size<=d.heap.size):vN b d m s:=by
 have v:∀{x:Option Addr} {n c:Nat} {l:List (Value × Value)},jB b W (.slice x n c) l->(∀g,n≠0->x=some (aH g 0)->d.heap[g]?=W.heap[g]?)->jB b d (.slice x n c) l:=by
  rintro x n c l ⟨u,t,e,f⟩ y;cases e;refine⟨_,_,rfl,fun i o=>?_⟩
  obtain⟨g,a,k,q,w,z⟩:=f i o;have:=y g (by omega) a
  exact⟨g,a,(World.cell?_of_block this).trans k,(World.cell?_of_block this).trans q,w,by omega⟩
 refine⟨h.t,h.q,v h.stack fun g p e=>j g ?_,v h.vars fun g p e=>j g ?_,?_⟩
 ·unfold sU;rw[if_neg p,e];simp
 ·unfold sU;rw[if_neg p,e];simp
 ·obtain⟨u,t,e,f⟩:=h.out;have r:=e;simp only[Value.slice.injEq] at r;refine⟨u,t,e,fun i o=>?_⟩
  obtain⟨g,a,k,q,w⟩:=f i o;have:=j g (by unfold sU;rw[if_neg (show ¬m.n3=0 by omega),r.1,a];simp)
  exact⟨g,a,(World.cell?_of_block this).trans k,q,by omega⟩
def vN.blks{b:Nat}{W:aG}{m:SV}{s:bC}(h:vN b W m s):∀g∈sU m,b<=g/\g<W.heap.size:=by
 have k:∀{x:Option Addr} {n c:Nat} {l:List (Value × Value)} {g:Nat},jB b W (.slice x n c) l->n≠0->g∈(x.map (·.block)).toList->b<=g/\g<W.heap.size:=by
  rintro x n c l g ⟨p,o,e,f⟩ r a;cases e;obtain⟨q,i,_,_,j,d⟩:=f 0 (by omega)
  rw[i] at a;simp at a;subst a;exact⟨j,d⟩
 intro g a;unfold sU at a;simp only[cu_] at a;rcases a with a|a|a
 ·split at a
  ·cases a
  ·exact k h.stack (by assumption) a
 ·split at a
  ·cases a
  ·exact k h.vars (by assumption) a
 ·split at a
  ·cases a
  ·rename_i r;obtain⟨p,o,e,f⟩:=h.out;simp only[Value.slice.injEq] at e;obtain⟨q,i,_,j,d⟩:=f 0 (by omega)
   rw[e.1,i] at a;simp at a;subst a;exact⟨j,d⟩
structure nM(w:aG)(ks:List aE)(tape:List Int)(sb:Nat)(W:aG)(L:List Nat)(s:bC):Prop where
 live:∃fp F mb mo n,Live fp F W sb mb mo ks tape s n L
 sb:w.heap.size<=sb
 low:Below w.heap.size w W
structure Mom(L:List Nat)(W:aG)(m:SV)(ab:Nat)(s:bC):Prop where
 mom:vN 0 W m s
 blk:∀b∈sU m,b∈L
 box:W.heap[ab]?=some (.cells m.cells 39 (0,0))
 mem:ab∈L
section
variable {w:aG} {ks:List aE} {tape:List Int} {sb:Nat} {W W':aG} {L L':List Nat} {s s':bC} {m:SV} {ab:Nat}
def nM.st(h:nM w ks tape sb W L s):bU ks tape s.time=some s:=by
 obtain⟨d,F,c,b,n,a⟩:=h.live;exact a.ses.now
def nM.below(h:nM w ks tape sb W L s)(a:Below W.heap.size W W'):nM w ks tape sb W' L s:=by
 obtain⟨e,F,c,b,n,d⟩:=h.live;exact⟨⟨e,F,c,b,n,d.but (But.below a []) pV⟩,h.sb,h.low.trans (a.mono h.low.size)⟩
def nM.short(c:Good ks)(h:nM w ks tape sb W L s):Short s/\mD s.m/\(∀x∈s.m.frames,x.seen.length<=x.vars.length):=by
 obtain⟨b,g,e,i⟩:=c.sta h.st;have a:=DV c.ok c.kl tape s.time s h.st;refine⟨⟨b.deep,by have:=e.out;omega,?_,b.time⟩,a,b.told⟩
 unfold bi_;cases d:s.m.frames.getLast? with
 |none=>simp
 |some f=>
  have:=(a f (do_ d)).1.2;simp[nO];omega
def nM.now(j:Good ks)(h:nM w ks tape sb W L s):
 Calls prog 10 #[bH sb] W fun e w'=>∃m:SV,e=aZ m.val/\Below W.heap.size W (w'.alloc (.cells m.cells 39))/\nM w ks tape sb (w'.alloc (.cells m.cells 39)) (w'.heap.size::(sU m++L)) s/\Mom (w'.heap.size::(sU m++L)) (w'.alloc (.cells m.cells 39)) m w'.heap.size s/\W.heap.size<=w'.heap.size/\∀b∈sU m,W.heap.size<=b:=by
 obtain⟨i,o,v⟩:=h.short j;obtain⟨r,F,t,q,n,f⟩:=h.live;refine(al_ f.ses i.deep f.pow o v i.out).mono ?_;rintro e w' ⟨m,rfl,a,u⟩;have c:=u.blks;have p:Live r F w' sb t q ks tape s n L:=f.but (But.below a []) pV;have k:=f.freshL p (a.block _ f.ses.lt) (sU m) c;have l:=k.alloc (.cells m.cells 39);have d:Below W.heap.size W (w'.alloc (.cells m.cells 39)):=a.alloc a.size _;refine⟨m,rfl,d,⟨⟨r,F,t,q,n,l⟩,h.sb,h.low.trans (d.mono h.low.size)⟩,⟨?_,fun b a=>by simp[a],aO _ _ rfl _,by simp⟩,a.size,fun b a=>(c b a).1⟩
 exact(u.low (cU_ _)).keepL (fun g j=>cq_ _ _ _ (c g j).2) (by simp)
end
section
variable {fp:eQ} {F:bX} {w w':aG} {sb mb n:Nat} {mo:Obj} {st:Nat->Option bC} {s:bC}
def atOf(n:Nat)(key:Int):Nat:=if key<=0 then 0 else min n ((key.toNat-1)/20+1)
def RZ(n:Nat)(key:Int):Bool:=decide (0<=key/\key.toNat%20=0/\key.toNat/20<n)
def bb_{n:Nat}{a:Int}{b:Nat}{d:Bool}(h:bP_ n a b d):b=atOf n a/\d=RZ n a:=by
 have g:=h.le
 have e:b=atOf n a:=by
  unfold atOf;rcases Nat.lt_trichotomy b (if a<=0 then 0 else min n ((a.toNat-1)/20+1)) with q|q|q
  ·split at q
   ·omega
   ·have:=h.hi b (by omega) cL;omega
  ·exact q
  ·have:=h.lo _ q;split at q
   ·rename_i c;rw[if_pos c] at this;omega
   ·rename_i c;rw[if_neg c] at this;omega
 refine⟨e,?_⟩;have f:=h.fnd;unfold RZ;rw[dA_,decide_eq_true_iff,f,e];unfold atOf;split<;>omega
def WU(h:kL fp F w sb mb mo st s n)(a:Int)(M:n<=1000)(h0:0<n):
 Calls prog 28 #[.pointer (some (aH sb 5)),Iv0 a] w fun e w'=>∃(v:SV) (ok:Bool),e=aZ (.tuple #[v.val,.bool ok])/\Below w.heap.size w w'/\(ok=false->a<0)/\(ok=true->∃(j:Nat) (τ:bC),j<n/\((20*j:Nat):Int)<=a/\st (20*j)=some τ/\jT fp F w' v.val τ):=by
 have x:Below w.heap.size w (w.alloc (.cells #[Iv0 0,bF,bF,bF,Iv0 0] 49)):=(co_ _ w).alloc cL _;have V:=h.grow x dX fun _ h=>cl_ h
 have c:Calls prog 53 #[.pointer (some (aH sb 5)),Iv0 a] (w.alloc (.cells #[Iv0 0,bF,bF,bF,Iv0 0] 49)) fun e w'=>e=aZ (.tuple #[Iv0 (atOf n a:Nat),.bool (RZ n a)])/\Below (w.heap.size+1) (w.alloc (.cells #[Iv0 0,bF,bF,bF,Iv0 0] 49)) w':=by
  refine(tC V a M).mono ?_;rintro e w' ⟨Q,fd,rfl,f,hA⟩;obtain⟨rfl,rfl⟩:=bb_ hA;rw[World.size_alloc] at f;exact⟨rfl,f⟩
 by_cases X:a<0
 ·have e1:atOf n a=0:=if_pos (by omega)
  have e2:RZ n a=false:=by unfold RZ;simp;omega
  rw[e1,e2] at c;refine(NC w sb a c).mono ?_;rintro e w' ⟨rfl,f⟩;exact⟨mF,false,rfl,f,fun _=>X,fun h=>by cases h⟩
 ·obtain⟨j,hj,o,r⟩:∃j,((RZ n a=true/\atOf n a=j)\/(RZ n a=false/\atOf n a=j+1))/\j<n/\((20*j:Nat):Int)<=a:=by
   by_cases u:0<=a/\a.toNat%20=0/\a.toNat/20<n
   ·refine⟨a.toNat/20,cl_ ⟨decide_eq_true u,?_⟩,u.2.2,by omega⟩
    unfold atOf;split<;>omega
   ·refine⟨min n ((a.toNat-1)/20+1)-1,ck_ ⟨decide_eq_false u,?_⟩,by omega,?_⟩
    ·unfold atOf;split<;>omega
    ·omega
  obtain⟨fv,tv,ov,W,d,Z,h2,K,Y,E,h6,h7⟩:=h.blk;have q:=h.lt;have p:j<d.length:=by omega
  obtain⟨k0,τ,z,m⟩:=E j p;obtain⟨v,l,T,U⟩:=m.sv;have c5:w.cell? (aH sb 5)=some W:=aA Z rfl;rcases K.2 with ⟨C,r2⟩|⟨g,t,aa,C,r2,S,r4,r5⟩
  ·omega
  ·subst C;have k:=NR (es:=d) (by rw[Y];exact K) fun i hi=>(E i hi).ok
   obtain⟨_,a0,N,O,G,I,H⟩:=k j p;simp only[SV.val,Value.agg.injEq] at l;simp at l;obtain⟨A,J,D,L,B⟩:=l;rw[A] at N;rw[J] at O;rw[D] at G;rw[L] at I;rw[B] at H;refine(zY w sb g n t (atOf n a) j (RZ n a) a v q (aC S) M c5 N O G I H hj o c).mono ?_;rintro e w' ⟨rfl,f⟩;refine⟨v,true,rfl,f,fun h=>(by cases h),fun _=>⟨j,τ,o,r,z,?_⟩⟩
   have P:v.val=.agg #[Iv0 d[j].a,d[j].b,d[j].c,d[j].d,Iv0 d[j].e]:=by
    rw[A,J,D,L,B];rfl
   rw[P];exact m.keep (fun b y=>f.block b (h.fix b y).1) fun _ h=>h
end
section
variable {fp:eQ} {F G:bX} {w w':aG} {sb mb n n':Nat} {mo:Obj} {ks:List aE} {tape:List Int} {s:bC} {L:List Nat}
structure AtI(fp:eQ)(sb mb:Nat)(mo:Obj)(ks:List aE)(tape:List Int)(s:bC)(L:List Nat)(w:aG)(F0:bX)(n0:Nat)(time:Int)(gk b:Nat)(v:SV)(ok:Bool)(W:aG):Prop where
 blk:W.heap[b]?=some (.cells v.cells 49 (0,0))
 hb:w.heap.size<b
 z:W.heap[w.heap.size]?=some (.cells ME 49 (0,0))
 fs:FS sb w W
 now:∃F n,Ext F0 F w.heap.size/\n0<=n/\Live fp F W sb mb mo ks tape s n (b::w.heap.size::L)/\(ok=true->∃τ,bU ks tape τ.time=some τ/\jT fp F W v.val τ/\τ.time/20<n/\(τ.time:Int)<=time/\501<=gk+τ.time)
 no:ok=false->time<0\/bU ks tape time.toNat=none
def AtP(fp:eQ)(F:bX)(w:aG)(sb mb:Nat)(mo:Obj)(ks:List aE)(tape:List Int)(s:bC)(n:Nat)(L:List Nat)(time:Int)(v:SV)(ok:Bool)(W:aG):Prop:=
 ∃G n',n<=n'/\Ext F G w.heap.size/\FS sb w W/\Live fp G W sb mb mo ks tape s n' L/\(ok=true->∃τ,(τ.time:Int)=time/\bU ks tape τ.time=some τ/\jT fp G W v.val τ/\τ.time/20<n')/\(ok=false->time<0\/bU ks tape time.toNat=none)
def bH_(Q:Good ks)(ab:tape.length<=17592186044416)(h:Live fp F w sb mb mo ks tape s n L)(a:Int):
 Calls prog 14 #[bH sb,Iv0 a] w fun e w'=>∃v ok,e=aZ (.tuple #[SV.val v,.bool ok])/\AtP fp F w sb mb mo ks tape s n L a v ok w':=by
 have l:=h.ses.lt;have ae:=h.count Q;have Y:0<n:=by have:=h.hn;omega
 have E:=h.alloc (.cells ME 49);have X:Below w.heap.size w (w.alloc (.cells ME 49)):=(co_ _ w).alloc cL _;refine ba_ w sb 501 a (AtI fp sb mb mo ks tape s L w F n a) (AtP fp F w sb mb mo ks tape s n L a) ((WU E.ses a (by omega) Y).mono ?_) (fun gk b v ok W d=>?_) (fun gk b v W d hv=>?_) (fun gk b v W d hv=>?_) (fun gk b v W d=>?_)
 ·rintro e K ⟨v,ok,rfl,p,D,h2⟩;rw[World.size_alloc] at p;have f:But [] (w.alloc (.cells ME 49)) K:=⟨p.os,p.tape,p.output,by have:=p.size;simpa using this,fun k hk _=>p.block k (by simpa using hk)⟩
  have H:Live fp F K sb mb mo ks tape s n (w.heap.size::L):=E.but f pV;have ag:w.heap.size+1<=K.heap.size:=by have:=p.size;simpa using this
  have q:Below w.heap.size w K:=X.trans (p.mono (by omega))
  have hz:K.heap[w.heap.size]?=some (.cells ME 49 (0,0)):=(p.block _ (by omega)).trans (aO _ _ rfl _)
  refine⟨v,ok,rfl,aO _ _ rfl _,by omega,by rw[cq_ _ _ _ (aC hz)];exact hz,FS.of_below (q.alloc q.size _) l,⟨F,n,Ext.refl _ _,cL,H.alloc _,fun g=>?_⟩,fun g=>cl_ (D g)⟩
  obtain⟨j,r,j1,j2,j3,j4⟩:=h2 g;have ht:=(Q.sta j3).2.1;exact⟨r,by rw[ht];exact j3,j4.but H (But.alloc _ _ []) pV,by omega,by omega,by omega⟩
 ·obtain⟨C,B,_,_,u,_⟩:=d.now;have:=d.hb;exact⟨d.blk,by omega,d.z⟩
 ·obtain⟨C,B,c,o,u,D⟩:=d.now;obtain⟨r,J,M,t3,t4,t5⟩:=D rfl
  have aa:v.t=r.time:=by
   obtain⟨s2,T,e2,_⟩:=M.sv;obtain rfl:=SV.val_inj T;exact e2
  have af:=(Q.sta J).1.time;have ad:=aC d.blk;have q:=d.hb;have U:=aC d.z;have A:Live fp C (W.alloc (.cells v.cells 49)) sb mb mo ks tape s B (b::w.heap.size::L):=u.but (But.alloc _ _ []) pV;refine⟨gk-1,by omega,(xY Q A ab v r (M.but u (But.alloc _ _ []) pV) J t3).mono ?_⟩
  rintro e P ⟨v',ok,rfl,G,m,k1,k2,Z,k4,k5,k6⟩;have I:P.heap[b]?=some (.cells v.cells 49 (0,0)):=by rw[A.blk Z (by simp),cq_ _ _ _ ad];exact d.blk
  have V:P.heap[w.heap.size]?=some (.cells ME 49 (0,0)):=by rw[A.blk Z (by simp),cq_ _ _ _ U];exact d.z
  have z:But [b] P (eC P b v'):=But.set5 _ _ _;have i:∀x∈[b],x∈(b::w.heap.size::L):=fun x c=>by rw[cs_.1 c];simp
  have O:FS sb w (W.alloc (.cells v.cells 49)):=d.fs.but (But.alloc _ _ []) pV l;refine⟨v',ok,rfl,⟨_,I,by simp[SV.cells]⟩,rT I rfl,q,by rw[dH _ _ _ _ (by omega)];exact V,(O.trans Z).but z (fun x c=>by rw[cs_.1 c];omega) l,⟨G,m,c.trans k2 O.size,cw_ o k1,k4.but z i,fun g=>?_⟩,fun g=>?_⟩
  ·obtain⟨_,ac,a1,a2,a3,a4⟩:=k5 g;exact⟨ac,by rw[a2];exact a1,a3.but k4 z i,a4,by omega,by omega⟩
  ·right
   cases hq:bU ks tape a.toNat with
   |none=>rfl
   |some y=>
    obtain⟨x,N,S⟩:=DR hq (t:=r.time) (by omega)
    rw[J] at N;cases N;exact absurd S (k6 g)
 ·obtain⟨C,B,c,o,u,D⟩:=d.now;obtain⟨r,J,M,t3,t4,t5⟩:=D rfl
  have aa:v.t=r.time:=by
   obtain⟨s2,T,e2,_⟩:=M.sv;obtain rfl:=SV.val_inj T;exact e2
  have f:But [w.heap.size] W (eC (W.alloc (.cells v.cells 49)) w.heap.size v):=by simpa using (But.alloc W _ []).trans (But.set5 _ _ _)
  have i:∀x∈[w.heap.size],x∈(b::w.heap.size::L):=fun x c=>by rw[cs_.1 c];simp
  exact⟨C,B,o,c,d.fs.but f (fun x c=>by rw[cs_.1 c];exact cy_ _) l,(u.but f i).drop fun x c=>cx_ _ (cx_ _ c),fun _=>⟨r,by omega,J,M.but u f i,t3⟩,fun h=>by cases h⟩
 ·obtain⟨C,B,c,o,u,D⟩:=d.now;have f:But [w.heap.size] W (eC W w.heap.size v):=But.set5 _ _ _;have i:∀x∈[w.heap.size],x∈(b::w.heap.size::L):=fun x c=>by rw[cs_.1 c];simp
  exact⟨C,B,o,c,d.fs.but f (fun x c=>by rw[cs_.1 c];exact cy_ _) l,(u.but f i).drop fun x c=>cx_ _ (cx_ _ c),fun h=>(by cases h),fun _=>d.no rfl⟩
def bL_(st:Nat->Option bC)(time:Int)(s τ:bC)(fd:Bool):Prop:=
 (fd=true/\(τ.time:Int)=time/\st τ.time=some τ)\/(fd=false/\τ=s/\(time<0\/st time.toNat=none))
def QA(q:Good ks)(j:tape.length<=17592186044416)(h:Live fp F w sb mb mo ks tape s n L)(a:Int):
 Calls prog 7 #[bH sb,Iv0 a] w fun e w'=>∃b,e=aZ (.bool b)/\ZR fp sb mb mo ks tape L (bL_ (bU ks tape) a s) w b w':=by
 have i:=h.ses.lt;refine C5 w sb a _ ((bH_ q j h a).mono ?_);rintro e w' ⟨v,ok,rfl,G,g,E,B,z,l,t,A⟩;have c:Live fp G (w'.alloc (.cells v.cells 49)) sb mb mo ks tape s g L:=l.but (But.alloc _ _ []) pV;have f:FS sb w (w'.alloc (.cells v.cells 49)):=z.but (But.alloc _ _ []) pV i;refine⟨v,ok,rfl,fun d=>?_,fun d=>⟨G,g,s,c,ck_ ⟨rfl,rfl,A d⟩,f⟩⟩
 obtain⟨y,u,k,m,p⟩:=t d;obtain⟨J,D,I,C,H,o,_⟩:=c.ses.blk;obtain⟨x,r⟩:=c.go (m.but l (But.alloc _ _ []) pV) k p;exact⟨⟨_,o,by simp⟩,G,g,y,x,cl_ ⟨rfl,u,k⟩,f.trans r⟩
end
end Go.Proofs.YtmjbnmpamlainaaGreatDoor
