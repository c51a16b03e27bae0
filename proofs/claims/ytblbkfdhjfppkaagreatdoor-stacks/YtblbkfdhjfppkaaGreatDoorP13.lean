/- Contracts of the program: what is deferred at the face: a fault is caught. -/
import Derived.Test.YtblbkfdhjfppkaaGreatDoorB02
set_option linter.defProp false
set_option maxRecDepth 100000
set_option maxHeartbeats 4000000
namespace Go.Proofs.YtblbkfdhjfppkaaGreatDoor
open _root_.Go.Proofs.Tryz
open Instr(typeAssert)
open Go.RowKit
def nU{w:World}{b:Nat}{o:Obj}(h:w.heap[b]?=some o):b<w.heap.size:=by
 rcases a6_ b w.heap.size with a|a
 ·exact a
 ·rw[bj_ a] at h;cases h
def jT{w:World}{b i:Nat}{c:Array Value}{e:TypeId}(h:w.heap[b]?=some (.cells c e (0,0))){v:Value}(a:c[i]?=some v):w.cell? ⟨b,i,none⟩=some v:=by
 simp[World.cell?,h,a]
def lL{w:World}{b i:Nat}{c:Array Value}{e:TypeId}(h:w.heap[b]?=some (.cells c e (0,0))):w.frozen? ⟨b,i,none⟩=false:=by
 simp[World.frozen?,h]
def U1(p q k n:Nat)(w:World)(b:w.heap[p]?=some (.cells #[.int .i64 0] 22 (0,0)))(c:w.heap[q]?=some (.cells #[.int .i64 0] 3 (0,0)))(a:p<q):
 Below p w (((w.setCell ⟨p,0,none⟩ (.int .i64 k)).setCell ⟨q,0,none⟩ (.int .i64 n)).alloc (.cells #[.int .i64 k,.int .i64 n] 141)).drew
 /\(((w.setCell ⟨p,0,none⟩ (.int .i64 k)).setCell ⟨q,0,none⟩ (.int .i64 n)).alloc (.cells #[.int .i64 k,.int .i64 n] 141)).drew.cell? ⟨p,0,none⟩=some (.int .i64 k)
 /\(((w.setCell ⟨p,0,none⟩ (.int .i64 k)).setCell ⟨q,0,none⟩ (.int .i64 n)).alloc (.cells #[.int .i64 k,.int .i64 n] 141)).drew.cell? ⟨q,0,none⟩=some (.int .i64 n):=by
 have i:w.cell? ⟨p,0,none⟩=some (.int .i64 0):=jT b rfl;have l:w.cell? ⟨q,0,none⟩=some (.int .i64 0):=jT c rfl;have e:=nU b;have g:=nU c;have h:¬p=q:=by omega
 have j:¬q=p:=by omega
 have f:¬p=w.heap.size:=by omega
 have d:¬q=w.heap.size:=by omega
 refine⟨((((ay_ p w).setCell (au_ p) _).setCell (bW_ a) _).alloc (by simp;omega) _).drew,?_,?_⟩
 ·simp[go_sem,i,e]
 ·simp[go_sem,l,g]
def J4(p q k n:Nat)(w:World)(b:w.heap[p]?=some (.cells #[.int .i64 0] 22 (0,0)))(c:w.heap[q]?=some (.cells #[.int .i64 0] 3 (0,0)))(a:p<q):
 Below p w (((w.setCell ⟨q,0,none⟩ (.int .i64 n)).setCell ⟨p,0,none⟩ (.int .i64 k)).alloc (.cells #[.int .i64 k,.int .i64 n] 141)).drew
 /\(((w.setCell ⟨q,0,none⟩ (.int .i64 n)).setCell ⟨p,0,none⟩ (.int .i64 k)).alloc (.cells #[.int .i64 k,.int .i64 n] 141)).drew.cell? ⟨p,0,none⟩=some (.int .i64 k)
 /\(((w.setCell ⟨q,0,none⟩ (.int .i64 n)).setCell ⟨p,0,none⟩ (.int .i64 k)).alloc (.cells #[.int .i64 k,.int .i64 n] 141)).drew.cell? ⟨q,0,none⟩=some (.int .i64 n):=by
 have i:w.cell? ⟨p,0,none⟩=some (.int .i64 0):=jT b rfl;have l:w.cell? ⟨q,0,none⟩=some (.int .i64 0):=jT c rfl;have e:=nU b;have g:=nU c;have h:¬p=q:=by omega
 have j:¬q=p:=by omega
 have f:¬p=w.heap.size:=by omega
 have d:¬q=w.heap.size:=by omega
 refine⟨((((ay_ p w).setCell (bW_ a) _).setCell (au_ p) _).alloc (by simp;omega) _).drew,?_,?_⟩
 ·simp[go_sem,i,e]
 ·simp[go_sem,l,g]
def X8(v:Value)(w:World):(typeAssert (.iface 141 v) 20 141 true).run prog w=.ok (.tuple #[v,.bool true]) w:=by kernel_rfl
def yK(p q k n:Nat)(a:List PanicEntry)(w:World)(c:w.heap[p]?=some (.cells #[.int .i64 0] 22 (0,0)))(b:w.heap[q]?=some (.cells #[.int .i64 0] 3 (0,0)))(d:p<q):
 CallsD prog 75 #[.pointer (some ⟨p,0,none⟩),.pointer (some ⟨q,0,none⟩)] (.panicking ({ v:=.iface 141 (.agg #[.int .i64 k,.int .i64 n]),recovered:=false }::a)) w fun e u f=>
  e=.returned (.tuple #[])/\u=.panicking ({ v:=.iface 141 (.agg #[.int .i64 k,.int .i64 n]),recovered:=true }::a)/\Below p w f/\f.cell? ⟨p,0,none⟩=some (.int .i64 k)/\f.cell? ⟨q,0,none⟩=some (.int .i64 n):=by
 have H:=jT c (i:=0) rfl;have E:=jT b (i:=0) rfl;have B:=lL (i:=0) c;have C:=lL (i:=0) b;have F:=nU c;have G:=nU b;have A:=X8;refine callsD_of_wpS func75 rfl fun r D y=>?_
 apply wpS_seq
 apply wpS_region
 simp[wpOpsS,go_sem,recoverD,y,ntmps75,Exit.thenS];refine wpS_of_wp ?_;have t:¬p=q:=by omega
 have z:¬q=p:=by omega
 have x:¬p=w.heap.size:=by omega
 have s:¬q=w.heap.size:=by omega
 obtain⟨o,j,m⟩:=U1 p q k n w c b d;obtain⟨g,l,h⟩:=J4 p q k n w c b d;clear c b;go_wp2_with fail;go_region
 all_goals
  go_wp2_with fail;first
  |exact⟨rfl,_,rfl,.tuple #[],by simp[results,results75],rfl,rfl,o,j,m⟩
  |exact⟨rfl,_,rfl,.tuple #[],by simp[results,results75],rfl,rfl,g,l,h⟩
def DW(p q:Addr)(w:World):
 CallsD prog 75 #[.pointer (some p),.pointer (some q)] .returning w fun e d c=>e=.returned (.tuple #[])/\d=.returning/\c=w:=by
 refine callsD_of_wpS func75 rfl fun a f b=>?_
 apply wpS_seq
 apply wpS_region
 simp[wpOpsS,go_sem,recoverD,b,ntmps75,Exit.thenS];refine wpS_of_wp ?_;go_wp2_with fail;exact⟨rfl,a.mode,rfl,.tuple #[],by simp[results,results75],rfl,b,rfl⟩
def jM(w:World)(o a:Obj):((w.alloc o).alloc a).heap[w.heap.size]?=some o:=by
 rw[aA_ _ _ _ (by simp)]
 show (w.heap.push o)[w.heap.size]?=_
 rw[Array.getElem?_push,if_pos rfl]
def gO(w:World)(o a:Obj):((w.alloc o).alloc a).heap[w.heap.size+1]?=some a:=by
 show ((w.alloc o).heap.push a)[w.heap.size+1]?=_
 rw[Array.getElem?_push,if_pos (by simp)]
def KW(b:Fn)(first a:Array Value)(w:World):(Instr.makeFunc b first a).run prog w=.ok (.func b first a) w:=rfl
def PX(a:Nat × Nat)(b:Nat)(w:World)
 (r:∀c,Below w.heap.size w c->Calls prog 43 #[.pointer (some ⟨b,0,none⟩)] c fun e n=>Below c.heap.size c n/\((a=(0,0)/\e=.returned (.tuple #[]))\/(a.1≠0/\e=.panicked [{ v:=.iface 141 (.agg #[.int .i64 a.1,.int .i64 a.2]),recovered:=false }]))):
 Calls prog 42 #[.func (.func 43) #[] #[.pointer (some ⟨b,0,none⟩)]] w fun e n=>Below w.heap.size w n/\(a.1=0->a=(0,0))/\e=.returned (.tuple #[.int .i64 a.1,.int .i64 a.2]):=by
 have u:=KW;have j:Below w.heap.size w ((w.alloc (.cells #[.int .i64 0] 22)).alloc (.cells #[.int .i64 0] 3)):=((ay_ _ w).alloc (au_ _) _).alloc (by simp) _
 have t:=r _ j;clear r;go_enter_defers func42,ntmps42
 go_wp2_with fail;refine t.mono ?_;rintro e c ⟨d,k⟩;have m:c.heap[w.heap.size]?=some (.cells #[.int .i64 0] 22 (0,0)):=by rw[d.block _ (by simp;omega)];exact jM _ _ _
 have l:c.heap[w.heap.size+1]?=some (.cells #[.int .i64 0] 3 (0,0)):=by rw[d.block _ (by simp)];exact gO _ _ _
 have s:Below w.heap.size w c:=j.trans (d.mono (by simp;omega))
 clear d j t;rcases k with ⟨k,rfl⟩|⟨k,rfl⟩
 ·have q:=jT m (i:=0) rfl;have o:=jT l (i:=0) rfl;have A:=lL (i:=0) m;have B:=lL (i:=0) l;have C:=nU m;have D:=nU l;go_wp2_with fail;refine leaves_cons (f:=75) (args:= #[.pointer (some ⟨w.heap.size,0,none⟩),.pointer (some ⟨w.heap.size+1,0,none⟩)]) (by simp) (by simp[go_sem]) ?_
  refine(DW ⟨w.heap.size,0,none⟩ ⟨w.heap.size+1,0,none⟩ _).mono ?_;rintro e x z ⟨rfl,rfl,rfl⟩;subst k;have g:Below w.heap.size w ((c.setCell ⟨w.heap.size,0,none⟩ (.int .i64 0)).setCell ⟨w.heap.size+1,0,none⟩ (.int .i64 0)):=(s.setCell (au_ _) _).setCell (Nat.le_succ _) _;simp[Leaves,settle,results,results42,go_sem,q,o];exact g
 ·have y:Hid (a.1=0->a=(0,0)):=fun h=>absurd h k
  clear k;go_wp2_with fail;refine leaves_cons (f:=75) (args:= #[.pointer (some ⟨w.heap.size,0,none⟩),.pointer (some ⟨w.heap.size+1,0,none⟩)]) (by simp) (by simp[go_sem]) ?_
  refine(yK w.heap.size (w.heap.size+1) a.1 a.2 [] _ m l (a2_ _)).mono ?_;rintro e x E ⟨rfl,rfl,p,q,o⟩;have g:=s.trans p;simp[Leaves,settle,results,results42,go_sem,q,o];exact⟨g,y.out⟩
def P0(a:Nat × Nat)(c:ByteArray)(w:World)
 (j:∀b,Below w.heap.size w b->b.cell? ⟨w.heap.size,0,none⟩=some (.string c)->w.heap.size<b.heap.size->Calls prog 43 #[.pointer (some ⟨w.heap.size,0,none⟩)] b fun e i=>Below b.heap.size b i/\((a=(0,0)/\e=.returned (.tuple #[]))\/(a.1≠0/\e=.panicked [{ v:=.iface 141 (.agg #[.int .i64 a.1,.int .i64 a.2]),recovered:=false }]))):
 Calls prog 15 #[.string c] w fun e i=>Below w.heap.size w i/\(a.1=0->a=(0,0))/\e=.returned (.tuple #[.int .i64 a.1,.int .i64 a.2]):=by
 have n:=KW;have d:Below w.heap.size w (w.alloc (.cells #[.string c] 9)):=(ay_ _ w).alloc (au_ _) _
 have k:=PX a w.heap.size (w.alloc (.cells #[.string c] 9)) fun b f=>j b (d.trans (f.mono (by simp))) (by
  rw[f.cell (by simp)]
  simp[go_sem]) (az_ (by simp) f.size)
 clear j;go_enter func15,ntmps15;go_wp2_with fail;refine k.mono ?_;rintro e b ⟨g,l,rfl⟩;have h:=d.trans (g.mono (by simp))
 have m:Hid (a.1=0->a=(0,0)):=l;clear d g k l;go_wp2_with fail;go_ret2
 exact⟨h,m.out,rfl⟩
end Go.Proofs.YtblbkfdhjfppkaaGreatDoor
