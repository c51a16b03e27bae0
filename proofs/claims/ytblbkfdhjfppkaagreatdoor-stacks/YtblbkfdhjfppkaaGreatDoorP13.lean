/- Contracts of the program: what is deferred at the face: a fault is caught. -/
import Derived.Test.YtblbkfdhjfppkaaGreatDoorB02
set_option linter.defProp false
set_option maxRecDepth 100000
set_option maxHeartbeats 4000000
namespace Go.Proofs.YtblbkfdhjfppkaaGreatDoor
open _root_.Go.Proofs.Tryz(prog)
open Instr(typeAssert)
open Go.RowKit
def nU{w:World}{b:Nat}{o:Obj}(h:w.heap[b]?=some o):b<w.heap.size:=by
 rcases a6_ b w.heap.size with a|a
 ·exact a
 ·rw[bj_ a] at h;cases h
def jT{w:World}{b i:Nat}{c:Array Value}{e:TypeId}(h:w.heap[b]?=some (.cells c e (0,0))){v:Value}(a:c[i]?=some v):w.cell? ⟨b,i,none⟩=some v:=by
 simp[World.cell?,h,a]
def lL{w:World}{b i:Nat}{c:Array Value}{e:TypeId}(h:w.heap[b]?=some (.cells c e (0,0))):w.frozen? ⟨b,i,none⟩=false:=by
 simp[World.frozen?,h]
def U1(p q k n:Nat)(w:World)(b:w.heap[p]?=some (.cells #[.int .i64 0] 22 (0,0)))(c:w.heap[q]?=some (.cells #[.int .i64 0] 3 (0,0)))(a:p<q):
 Below p w (((w.setCell ⟨p,0,none⟩ (.int .i64 k)).setCell ⟨q,0,none⟩ (.int .i64 n)).alloc (.cells #[.int .i64 k,.int .i64 n] 141)).drew
 /\(((w.setCell ⟨p,0,none⟩ (.int .i64 k)).setCell ⟨q,0,none⟩ (.int .i64 n)).alloc (.cells #[.int .i64 k,.int .i64 n] 141)).drew.cell? ⟨p,0,none⟩=some (.int .i64 k)
 /\(((w.setCell ⟨p,0,none⟩ (.int .i64 k)).setCell ⟨q,0,none⟩ (.int .i64 n)).alloc (.cells #[.int .i64 k,.int .i64 n] 141)).drew.cell? ⟨q,0,none⟩=some (.int .i64 n):=by
 have f:w.cell? ⟨p,0,none⟩=some (.int .i64 0):=jT b rfl;have i:w.cell? ⟨q,0,none⟩=some (.int .i64 0):=jT c rfl;have e:=nU b;have g:=nU c;have j:¬p=q:=by omega
 have d:¬q=p:=by omega
 have h:¬p=w.heap.size:=by omega
 have l:¬q=w.heap.size:=by omega
 refine⟨((((ay_ p w).setCell (au_ p) _).setCell (bW_ a) _).alloc (by simp;omega) _).drew,?_,?_⟩
 ·simp[go_sem,f,e]
 ·simp[go_sem,i,g]
def J4(p q k n:Nat)(w:World)(b:w.heap[p]?=some (.cells #[.int .i64 0] 22 (0,0)))(c:w.heap[q]?=some (.cells #[.int .i64 0] 3 (0,0)))(a:p<q):
 Below p w (((w.setCell ⟨q,0,none⟩ (.int .i64 n)).setCell ⟨p,0,none⟩ (.int .i64 k)).alloc (.cells #[.int .i64 k,.int .i64 n] 141)).drew
 /\(((w.setCell ⟨q,0,none⟩ (.int .i64 n)).setCell ⟨p,0,none⟩ (.int .i64 k)).alloc (.cells #[.int .i64 k,.int .i64 n] 141)).drew.cell? ⟨p,0,none⟩=some (.int .i64 k)
 /\(((w.setCell ⟨q,0,none⟩ (.int .i64 n)).setCell ⟨p,0,none⟩ (.int .i64 k)).alloc (.cells #[.int .i64 k,.int .i64 n] 141)).drew.cell? ⟨q,0,none⟩=some (.int .i64 n):=by
 have f:w.cell? ⟨p,0,none⟩=some (.int .i64 0):=jT b rfl;have i:w.cell? ⟨q,0,none⟩=some (.int .i64 0):=jT c rfl;have e:=nU b;have g:=nU c;have j:¬p=q:=by omega
 have d:¬q=p:=by omega
 have h:¬p=w.heap.size:=by omega
 have l:¬q=w.heap.size:=by omega
 refine⟨((((ay_ p w).setCell (bW_ a) _).setCell (au_ p) _).alloc (by simp;omega) _).drew,?_,?_⟩
 ·simp[go_sem,f,e]
 ·simp[go_sem,i,g]
def X8(v:Value)(w:World):(typeAssert (.iface 141 v) 20 141 true).run prog w=.ok (.tuple #[v,.bool true]) w:=by kernel_rfl
def yK(p q k n:Nat)(a:List PanicEntry)(w:World)(b:w.heap[p]?=some (.cells #[.int .i64 0] 22 (0,0)))(c:w.heap[q]?=some (.cells #[.int .i64 0] 3 (0,0)))(d:p<q):
 CallsD prog 75 #[.pointer (some ⟨p,0,none⟩),.pointer (some ⟨q,0,none⟩)] (.panicking ({ v:=.iface 141 (.agg #[.int .i64 k,.int .i64 n]),recovered:=false }::a)) w fun e y f=>
  e=.returned (.tuple #[])/\y=.panicking ({ v:=.iface 141 (.agg #[.int .i64 k,.int .i64 n]),recovered:=true }::a)/\Below p w f/\f.cell? ⟨p,0,none⟩=some (.int .i64 k)/\f.cell? ⟨q,0,none⟩=some (.int .i64 n):=by
 have H:=jT b (i:=0) rfl;have C:=jT c (i:=0) rfl;have B:=lL (i:=0) b;have D:=lL (i:=0) c;have G:=nU b;have E:=nU c;have u:=X8;refine callsD_of_wpS Tryz.func75 rfl fun r F x=>?_
 apply wpS_seq
 apply wpS_region
 simp[wpOpsS,go_sem,recoverD,x,Tryz.ntmps75,Exit.thenS];refine wpS_of_wp ?_;have t:¬p=q:=by omega
 have s:¬q=p:=by omega
 have A:¬p=w.heap.size:=by omega
 have z:¬q=w.heap.size:=by omega
 obtain⟨o,h,m⟩:=U1 p q k n w b c d;obtain⟨g,j,l⟩:=J4 p q k n w b c d;clear b c;go_wp2_with fail;go_region
 all_goals
  go_wp2_with fail;first
  |exact⟨rfl,_,rfl,.tuple #[],by simp[results,Tryz.results75],rfl,rfl,o,h,m⟩
  |exact⟨rfl,_,rfl,.tuple #[],by simp[results,Tryz.results75],rfl,rfl,g,j,l⟩
def DW(p q:Addr)(w:World):
 CallsD prog 75 #[.pointer (some p),.pointer (some q)] .returning w fun e d c=>e=.returned (.tuple #[])/\d=.returning/\c=w:=by
 refine callsD_of_wpS Tryz.func75 rfl fun a f b=>?_
 apply wpS_seq
 apply wpS_region
 simp[wpOpsS,go_sem,recoverD,b,Tryz.ntmps75,Exit.thenS];refine wpS_of_wp ?_;go_wp2_with fail;exact⟨rfl,a.mode,rfl,.tuple #[],by simp[results,Tryz.results75],rfl,b,rfl⟩
def jM(w:World)(o a:Obj):((w.alloc o).alloc a).heap[w.heap.size]?=some o:=by
 rw[aA_ _ _ _ (by simp)]
 show (w.heap.push o)[w.heap.size]?=_
 rw[Array.getElem?_push,if_pos rfl]
def gO(w:World)(o a:Obj):((w.alloc o).alloc a).heap[w.heap.size+1]?=some a:=by
 show ((w.alloc o).heap.push a)[w.heap.size+1]?=_
 rw[Array.getElem?_push,if_pos (by simp)]
def KW(b:Fn)(first a:Array Value)(w:World):(Instr.makeFunc b first a).run prog w=.ok (.func b first a) w:=rfl
def PX(a:Nat × Nat)(b:Nat)(w:World)
 (s:∀d,Below w.heap.size w d->Calls prog 43 #[.pointer (some ⟨b,0,none⟩)] d fun e n=>Below d.heap.size d n/\((a=(0,0)/\e=.returned (.tuple #[]))\/(a.1≠0/\e=.panicked [{ v:=.iface 141 (.agg #[.int .i64 a.1,.int .i64 a.2]),recovered:=false }]))):
 Calls prog 42 #[.func (.func 43) #[] #[.pointer (some ⟨b,0,none⟩)]] w fun e n=>Below w.heap.size w n/\(a.1=0->a=(0,0))/\e=.returned (.tuple #[.int .i64 a.1,.int .i64 a.2]):=by
 have y:=KW;have g:Below w.heap.size w ((w.alloc (.cells #[.int .i64 0] 22)).alloc (.cells #[.int .i64 0] 3)):=((ay_ _ w).alloc (au_ _) _).alloc (by simp) _
 have r:=s _ g;clear s;go_enter_defers Tryz.func42,Tryz.ntmps42
 go_wp2_with fail;refine r.mono ?_;rintro e d ⟨c,k⟩;have l:d.heap[w.heap.size]?=some (.cells #[.int .i64 0] 22 (0,0)):=by rw[c.block _ (by simp;omega)];exact jM _ _ _
 have m:d.heap[w.heap.size+1]?=some (.cells #[.int .i64 0] 3 (0,0)):=by rw[c.block _ (by simp)];exact gO _ _ _
 have t:Below w.heap.size w d:=g.trans (c.mono (by simp;omega))
 clear c g r;rcases k with ⟨k,rfl⟩|⟨k,rfl⟩
 ·have q:=jT l (i:=0) rfl;have o:=jT m (i:=0) rfl;have A:=lL (i:=0) l;have B:=lL (i:=0) m;have E:=nU l;have C:=nU m;go_wp2_with fail;refine leaves_cons (f:=75) (args:= #[.pointer (some ⟨w.heap.size,0,none⟩),.pointer (some ⟨w.heap.size+1,0,none⟩)]) (by simp) (by simp[go_sem]) ?_
  refine(DW ⟨w.heap.size,0,none⟩ ⟨w.heap.size+1,0,none⟩ _).mono ?_;rintro e z u ⟨rfl,rfl,rfl⟩;subst k;have j:Below w.heap.size w ((d.setCell ⟨w.heap.size,0,none⟩ (.int .i64 0)).setCell ⟨w.heap.size+1,0,none⟩ (.int .i64 0)):=(t.setCell (au_ _) _).setCell (Nat.le_succ _) _;simp[Leaves,settle,results,Tryz.results42,go_sem,q,o];exact j
 ·have x:Hid (a.1=0->a=(0,0)):=fun h=>absurd h k
  clear k;go_wp2_with fail;refine leaves_cons (f:=75) (args:= #[.pointer (some ⟨w.heap.size,0,none⟩),.pointer (some ⟨w.heap.size+1,0,none⟩)]) (by simp) (by simp[go_sem]) ?_
  refine(yK w.heap.size (w.heap.size+1) a.1 a.2 [] _ l m (a2_ _)).mono ?_;rintro e z D ⟨rfl,rfl,p,q,o⟩;have j:=t.trans p;simp[Leaves,settle,results,Tryz.results42,go_sem,q,o];exact⟨j,x.out⟩
def P0(a:Nat × Nat)(c:ByteArray)(w:World)
 (j:∀b,Below w.heap.size w b->b.cell? ⟨w.heap.size,0,none⟩=some (.string c)->w.heap.size<b.heap.size->Calls prog 43 #[.pointer (some ⟨w.heap.size,0,none⟩)] b fun e h=>Below b.heap.size b h/\((a=(0,0)/\e=.returned (.tuple #[]))\/(a.1≠0/\e=.panicked [{ v:=.iface 141 (.agg #[.int .i64 a.1,.int .i64 a.2]),recovered:=false }]))):
 Calls prog 15 #[.string c] w fun e h=>Below w.heap.size w h/\(a.1=0->a=(0,0))/\e=.returned (.tuple #[.int .i64 a.1,.int .i64 a.2]):=by
 have n:=KW;have f:Below w.heap.size w (w.alloc (.cells #[.string c] 9)):=(ay_ _ w).alloc (au_ _) _
 have l:=PX a w.heap.size (w.alloc (.cells #[.string c] 9)) fun b d=>j b (f.trans (d.mono (by simp))) (by
  rw[d.cell (by simp)]
  simp[go_sem]) (az_ (by simp) d.size)
 clear j;go_enter Tryz.func15,Tryz.ntmps15;go_wp2_with fail;refine l.mono ?_;rintro e b ⟨g,k,rfl⟩;have i:=f.trans (g.mono (by simp))
 have m:Hid (a.1=0->a=(0,0)):=k;clear f g l k;go_wp2_with fail;go_ret2
 exact⟨i,m.out,rfl⟩
end Go.Proofs.YtblbkfdhjfppkaaGreatDoor
