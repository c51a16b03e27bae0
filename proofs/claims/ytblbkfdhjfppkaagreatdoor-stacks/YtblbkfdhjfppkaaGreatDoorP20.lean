/- Contracts of the program: the compiler's statements: the walks. -/
import Derived.Test.YtblbkfdhjfppkaaGreatDoorP16
set_option linter.defProp false
set_option maxRecDepth 100000
set_option maxHeartbeats 4000000
namespace Go.Proofs.YtblbkfdhjfppkaaGreatDoor
open _root_.Go.Proofs.Tryz(prog)
open Instr(typeAssert)
open Go.RowKit
def tQ(v:Value)(w:World):(typeAssert (.iface 329 v) 122 329 true).run prog w=.ok (.tuple #[v,.bool true]) w:=by kernel_rfl
def uU(v:Value)(w:World):(typeAssert (.iface 332 v) 122 329 true).run prog w=.ok (.tuple #[.agg #[.int .i64 0,.int .i64 0,.string ⟨#[]⟩,.nilIface],.bool false]) w:=by kernel_rfl
def wM(v:Value)(w:World):(typeAssert (.iface 332 v) 122 332 true).run prog w=.ok (.tuple #[v,.bool true]) w:=by kernel_rfl
def FA(v:Value)(w:World):(typeAssert (.iface 334 v) 122 329 true).run prog w=.ok (.tuple #[.agg #[.int .i64 0,.int .i64 0,.string ⟨#[]⟩,.nilIface],.bool false]) w:=by kernel_rfl
def KF(v:Value)(w:World):(typeAssert (.iface 334 v) 122 332 true).run prog w=.ok (.tuple #[.agg #[.int .i64 0,.string ⟨#[]⟩,.slice none 0 0,.nilIface],.bool false]) w:=by kernel_rfl
def J9(v:Value)(w:World):(typeAssert (.iface 334 v) 122 334 true).run prog w=.ok (.tuple #[v,.bool true]) w:=by kernel_rfl
def wI(v:Value)(w:World):(typeAssert (.iface 336 v) 122 329 true).run prog w=.ok (.tuple #[.agg #[.int .i64 0,.int .i64 0,.string ⟨#[]⟩,.nilIface],.bool false]) w:=by kernel_rfl
def zL(v:Value)(w:World):(typeAssert (.iface 336 v) 122 332 true).run prog w=.ok (.tuple #[.agg #[.int .i64 0,.string ⟨#[]⟩,.slice none 0 0,.nilIface],.bool false]) w:=by kernel_rfl
def NU(v:Value)(w:World):(typeAssert (.iface 336 v) 122 334 true).run prog w=.ok (.tuple #[.agg #[.int .i64 0,.nilIface,.slice none 0 0,.slice none 0 0],.bool false]) w:=by kernel_rfl
def BU(v:Value)(w:World):(typeAssert (.iface 336 v) 122 336 true).run prog w=.ok (.tuple #[v,.bool true]) w:=by kernel_rfl
def uT(v:Value)(w:World):(typeAssert (.iface 338 v) 122 329 true).run prog w=.ok (.tuple #[.agg #[.int .i64 0,.int .i64 0,.string ⟨#[]⟩,.nilIface],.bool false]) w:=by kernel_rfl
def wK(v:Value)(w:World):(typeAssert (.iface 338 v) 122 332 true).run prog w=.ok (.tuple #[.agg #[.int .i64 0,.string ⟨#[]⟩,.slice none 0 0,.nilIface],.bool false]) w:=by kernel_rfl
def KE(v:Value)(w:World):(typeAssert (.iface 338 v) 122 334 true).run prog w=.ok (.tuple #[.agg #[.int .i64 0,.nilIface,.slice none 0 0,.slice none 0 0],.bool false]) w:=by kernel_rfl
def zM(v:Value)(w:World):(typeAssert (.iface 338 v) 122 336 true).run prog w=.ok (.tuple #[.agg #[.int .i64 0,.nilIface,.slice none 0 0],.bool false]) w:=by kernel_rfl
def wJ(v:Value)(w:World):(typeAssert (.iface 338 v) 122 338 true).run prog w=.ok (.tuple #[v,.bool true]) w:=by kernel_rfl
def wL(v:Value)(w:World):(typeAssert (.iface 339 v) 122 329 true).run prog w=.ok (.tuple #[.agg #[.int .i64 0,.int .i64 0,.string ⟨#[]⟩,.nilIface],.bool false]) w:=by kernel_rfl
def zO(v:Value)(w:World):(typeAssert (.iface 339 v) 122 332 true).run prog w=.ok (.tuple #[.agg #[.int .i64 0,.string ⟨#[]⟩,.slice none 0 0,.nilIface],.bool false]) w:=by kernel_rfl
def NV(v:Value)(w:World):(typeAssert (.iface 339 v) 122 334 true).run prog w=.ok (.tuple #[.agg #[.int .i64 0,.nilIface,.slice none 0 0,.slice none 0 0],.bool false]) w:=by kernel_rfl
def BV(v:Value)(w:World):(typeAssert (.iface 339 v) 122 336 true).run prog w=.ok (.tuple #[.agg #[.int .i64 0,.nilIface,.slice none 0 0],.bool false]) w:=by kernel_rfl
def zN(v:Value)(w:World):(typeAssert (.iface 339 v) 122 338 true).run prog w=.ok (.tuple #[.agg #[.int .i64 0,.nilIface],.bool false]) w:=by kernel_rfl
def BW(v:Value)(w:World):(typeAssert (.iface 339 v) 122 339 true).run prog w=.ok (.tuple #[v,.bool true]) w:=by kernel_rfl
def zP(v:Value)(w:World):(typeAssert (.iface 341 v) 122 329 true).run prog w=.ok (.tuple #[.agg #[.int .i64 0,.int .i64 0,.string ⟨#[]⟩,.nilIface],.bool false]) w:=by kernel_rfl
def BY(v:Value)(w:World):(typeAssert (.iface 341 v) 122 332 true).run prog w=.ok (.tuple #[.agg #[.int .i64 0,.string ⟨#[]⟩,.slice none 0 0,.nilIface],.bool false]) w:=by kernel_rfl
def TB(v:Value)(w:World):(typeAssert (.iface 341 v) 122 334 true).run prog w=.ok (.tuple #[.agg #[.int .i64 0,.nilIface,.slice none 0 0,.slice none 0 0],.bool false]) w:=by kernel_rfl
def FC(v:Value)(w:World):(typeAssert (.iface 341 v) 122 336 true).run prog w=.ok (.tuple #[.agg #[.int .i64 0,.nilIface,.slice none 0 0],.bool false]) w:=by kernel_rfl
def BX(v:Value)(w:World):(typeAssert (.iface 341 v) 122 338 true).run prog w=.ok (.tuple #[.agg #[.int .i64 0,.nilIface],.bool false]) w:=by kernel_rfl
def FD(v:Value)(w:World):(typeAssert (.iface 341 v) 122 339 true).run prog w=.ok (.tuple #[.agg #[.int .i64 0,.nilIface],.bool false]) w:=by kernel_rfl
def KG(v:Value)(w:World):(typeAssert (.iface 341 v) 122 341 true).run prog w=.ok (.tuple #[v,.bool true]) w:=by kernel_rfl
def ST(l:Int)(a b c:Value)(w:World):(Go.method 616 329 (.agg #[.int .i64 l,a,b,c]) "Line").run prog w=.ok (188,.agg #[.int .i64 l]) w:=by kernel_rfl
def YF(l:Int)(a b c:Value)(w:World):(Go.method 616 332 (.agg #[.int .i64 l,a,b,c]) "Line").run prog w=.ok (188,.agg #[.int .i64 l]) w:=by kernel_rfl
def z6(l:Int)(a b c:Value)(w:World):(Go.method 616 334 (.agg #[.int .i64 l,a,b,c]) "Line").run prog w=.ok (188,.agg #[.int .i64 l]) w:=by kernel_rfl
def J0(l:Int)(a b:Value)(w:World):(Go.method 616 336 (.agg #[.int .i64 l,a,b]) "Line").run prog w=.ok (188,.agg #[.int .i64 l]) w:=by kernel_rfl
def YE(l:Int)(a:Value)(w:World):(Go.method 616 338 (.agg #[.int .i64 l,a]) "Line").run prog w=.ok (188,.agg #[.int .i64 l]) w:=by kernel_rfl
def J2(l:Int)(a:Value)(w:World):(Go.method 616 339 (.agg #[.int .i64 l,a]) "Line").run prog w=.ok (188,.agg #[.int .i64 l]) w:=by kernel_rfl
def U0(l:Int)(a b:Value)(w:World):(Go.method 616 341 (.agg #[.int .i64 l,a,b]) "Line").run prog w=.ok (188,.agg #[.int .i64 l]) w:=by kernel_rfl
def mQ(a:Value)(w:World):(callFunc 188 #[a]).run prog w=.ok (.enter 188 #[a]) w:=by kernel_rfl
def gQ(l:Int)(w:World):Calls prog 188 #[.agg #[.int .i64 l]] w fun e a=>e=.returned (.int .i64 l)/\a=w.alloc (.cells #[.int .i64 l] 209):=by
 go_enter Tryz.func188,Tryz.ntmps188;go_wp2_with fail;go_ret;exact⟨rfl,rfl⟩
def sO(w:World)(cb b:Nat)(l:Int)(p:Option Addr)(d:TypeId)(f:Value)(P:World->Prop)(Q:World->Prop)(R:World->Prop)(x:cb<w.heap.size)(E:w.cell? ⟨cb,2,none⟩=some (.pointer p))
 (o:Hid (Calls prog 238 #[.pointer (some ⟨cb,0,none⟩),.iface 365 (.agg #[.int .i64 l,.pointer p])] (w.drew.alloc (.cells #[.int .i64 l] 209)) fun e a=>e=.returned (.int .i64 b)/\Q a))
 (j:Hid (∀W,Q W->Calls prog 233 #[.pointer (some ⟨cb,0,none⟩),.iface d f] (W.alloc (.cells #[.int .i64 l,.iface d f] 338)) fun e a=>e=.returned (.tuple #[])/\R a))
 (q:Hid (∀W,R W->Calls prog 238 #[.pointer (some ⟨cb,0,none⟩),.iface 363 (.agg #[])] W fun e a=>(∃k:Nat,e=.returned (.int .i64 k))/\P a)):
 Calls prog 291 #[.pointer (some ⟨cb,0,none⟩),.iface 338 (.agg #[.int .i64 l,.iface d f])] w fun e a=>e=.returned (.tuple #[])/\P a:=by
 have D:=uT;have B:=wK;have A:=KE;have z:=zM;have t:=wJ;have v:=YE;have n:=mQ;go_enter Tryz.func291,Tryz.ntmps291;go_wp2_with fail;go_region_law (go_simp;first|(go_at_call 188;refine(gQ l _).mono ?_;rintro e C ⟨rfl,rfl⟩)|(go_at_call 238;refine o.out.mono ?_;rintro e y ⟨rfl,h⟩))
 all_goals
  have c:=aB (j.out _ h);clear h;go_wp2_with fail;refine c.out.mono ?_;rintro e u ⟨rfl,i⟩;have g:=aB (q.out _ i);clear i;go_wp2_with fail;refine g.out.mono ?_;rintro e s ⟨⟨m,rfl⟩,r⟩;go_wp2_with fail;go_end0;exact⟨rfl,r⟩
def KA(w:World)(cb b:Nat)(l:Int)(p:Option Addr)(d:TypeId)(f:Value)(P:World->Prop)(Q:World->Prop)(R:World->Prop)(x:cb<w.heap.size)(F:w.cell? ⟨cb,2,none⟩=some (.pointer p))
 (o:Hid (Calls prog 238 #[.pointer (some ⟨cb,0,none⟩),.iface 365 (.agg #[.int .i64 l,.pointer p])] (w.drew.alloc (.cells #[.int .i64 l] 209)) fun e a=>e=.returned (.int .i64 b)/\Q a))
 (j:Hid (∀W,Q W->Calls prog 233 #[.pointer (some ⟨cb,0,none⟩),.iface d f] (W.alloc (.cells #[.int .i64 l,.iface d f] 339)) fun e a=>e=.returned (.tuple #[])/\R a))
 (q:Hid (∀W,R W->Calls prog 238 #[.pointer (some ⟨cb,0,none⟩),.iface 448 (.agg #[])] W fun e a=>(∃k:Nat,e=.returned (.int .i64 k))/\P a)):
 Calls prog 291 #[.pointer (some ⟨cb,0,none⟩),.iface 339 (.agg #[.int .i64 l,.iface d f])] w fun e a=>e=.returned (.tuple #[])/\P a:=by
 have D:=wL;have B:=zO;have A:=NV;have z:=BV;have t:=zN;have E:=BW;have v:=J2;have n:=mQ;go_enter Tryz.func291,Tryz.ntmps291;go_wp2_with fail;go_region_law (go_simp;first|(go_at_call 188;refine(gQ l _).mono ?_;rintro e C ⟨rfl,rfl⟩)|(go_at_call 238;refine o.out.mono ?_;rintro e y ⟨rfl,h⟩))
 all_goals
  have c:=aB (j.out _ h);clear h;go_wp2_with fail;refine c.out.mono ?_;rintro e u ⟨rfl,i⟩;have g:=aB (q.out _ i);clear i;go_wp2_with fail;refine g.out.mono ?_;rintro e s ⟨⟨m,rfl⟩,r⟩;go_wp2_with fail;go_end0;exact⟨rfl,r⟩
def NG(w:World)(cb b:Nat)(l:Int)(p:Option Addr)(tx:ByteArray)(x:Option Addr)(n c:Nat)(P:World->Prop)(Q:World->Prop)(R:World->Prop)(y:cb<w.heap.size)(H:w.cell? ⟨cb,2,none⟩=some (.pointer p))
 (o:Hid (Calls prog 238 #[.pointer (some ⟨cb,0,none⟩),.iface 365 (.agg #[.int .i64 l,.pointer p])] (w.drew.alloc (.cells #[.int .i64 l] 209)) fun e a=>e=.returned (.int .i64 b)/\Q a))
 (i:Hid (∀W,Q W->Calls prog 289 #[.pointer (some ⟨cb,0,none⟩),.agg #[.int .i64 l,.string tx,.slice x n c]] (W.alloc (.cells #[.int .i64 l,.string tx,.slice x n c] 341)) fun e a=>e=.returned (.tuple #[])/\R a))
 (q:Hid (∀W,R W->Calls prog 238 #[.pointer (some ⟨cb,0,none⟩),.iface 449 (.agg #[])] W fun e a=>(∃k:Nat,e=.returned (.int .i64 k))/\P a)):
 Calls prog 291 #[.pointer (some ⟨cb,0,none⟩),.iface 341 (.agg #[.int .i64 l,.string tx,.slice x n c])] w fun e a=>e=.returned (.tuple #[])/\P a:=by
 have E:=zP;have C:=BY;have B:=TB;have A:=FC;have t:=BX;have F:=FD;have G:=KG;have v:=U0;have j:=mQ;go_enter Tryz.func291,Tryz.ntmps291;go_wp2_with fail;go_region_law (go_simp;first|(go_at_call 188;refine(gQ l _).mono ?_;rintro e D ⟨rfl,rfl⟩)|(go_at_call 238;refine o.out.mono ?_;rintro e z ⟨rfl,g⟩))
 all_goals
  have d:=aB (i.out _ g);clear g;go_wp2_with fail;refine d.out.mono ?_;rintro e u ⟨rfl,h⟩;have f:=aB (q.out _ h);clear h;go_wp2_with fail;refine f.out.mono ?_;rintro e s ⟨⟨m,rfl⟩,r⟩;go_wp2_with fail;go_end0;exact⟨rfl,r⟩
def GU(w:World)(cb b:Nat)(l:Int)(p:Option Addr)(g:TypeId)(h:Value)(j i:Option Addr)(k d c1 a:Nat)(P:World->Prop)(Q:World->Prop)(u:cb<w.heap.size)(B:w.cell? ⟨cb,2,none⟩=some (.pointer p))
 (q:Hid (Calls prog 238 #[.pointer (some ⟨cb,0,none⟩),.iface 365 (.agg #[.int .i64 l,.pointer p])] (w.drew.alloc (.cells #[.int .i64 l] 209)) fun e c=>e=.returned (.int .i64 b)/\Q c))
 (n:Hid (∀W,Q W->Calls prog 324 #[.pointer (some ⟨cb,0,none⟩),.agg #[.int .i64 l,.iface g h,.slice j k c1,.slice i d a]] (W.alloc (.cells #[.int .i64 l,.iface g h,.slice j k c1,.slice i d a] 334)) fun e c=>e=.returned (.tuple #[])/\P c)):
 Calls prog 291 #[.pointer (some ⟨cb,0,none⟩),.iface 334 (.agg #[.int .i64 l,.iface g h,.slice j k c1,.slice i d a])] w fun e c=>e=.returned (.tuple #[])/\P c:=by
 have A:=FA;have y:=KF;have x:=J9;have t:=z6;have o:=mQ;go_enter Tryz.func291,Tryz.ntmps291;go_wp2_with fail;go_region_law (go_simp;first|(go_at_call 188;refine(gQ l _).mono ?_;rintro e z ⟨rfl,rfl⟩)|(go_at_call 238;refine q.out.mono ?_;rintro e v ⟨rfl,m⟩))
 all_goals
  have f:=aB (n.out _ m);clear m;go_wp2_with fail;refine f.out.mono ?_;rintro e s ⟨rfl,r⟩;go_wp2_with fail;go_end0;exact⟨rfl,r⟩
def JZ(w:World)(cb a:Nat)(l:Int)(p:Option Addr)(d:TypeId)(f:Value)(g:Option Addr)(h c1:Nat)(P:World->Prop)(Q:World->Prop)(r:cb<w.heap.size)(z:w.cell? ⟨cb,2,none⟩=some (.pointer p))
 (m:Hid (Calls prog 238 #[.pointer (some ⟨cb,0,none⟩),.iface 365 (.agg #[.int .i64 l,.pointer p])] (w.drew.alloc (.cells #[.int .i64 l] 209)) fun e b=>e=.returned (.int .i64 a)/\Q b))
 (j:Hid (∀W,Q W->Calls prog 325 #[.pointer (some ⟨cb,0,none⟩),.agg #[.int .i64 l,.iface d f,.slice g h c1],.int .i64 a] (W.alloc (.cells #[.int .i64 l,.iface d f,.slice g h c1] 336)) fun e b=>e=.returned (.tuple #[])/\P b)):
 Calls prog 291 #[.pointer (some ⟨cb,0,none⟩),.iface 336 (.agg #[.int .i64 l,.iface d f,.slice g h c1])] w fun e b=>e=.returned (.tuple #[])/\P b:=by
 have y:=wI;have v:=zL;have u:=NU;have t:=BU;have q:=J0;have k:=mQ;go_enter Tryz.func291,Tryz.ntmps291;go_wp2_with fail;go_region_law (go_simp;first|(go_at_call 188;refine(gQ l _).mono ?_;rintro e x ⟨rfl,rfl⟩)|(go_at_call 238;refine m.out.mono ?_;rintro e s ⟨rfl,i⟩))
 all_goals
  have c:=aB (j.out _ i);clear i;go_wp2_with fail;refine c.out.mono ?_;rintro e o ⟨rfl,n⟩;go_wp2_with fail;go_end0;exact⟨rfl,n⟩
def BP(w:World)(cb c:Nat)(l:Int)(p:Option Addr)(t:Int)(f:ByteArray)(i:TypeId)(o:Value)(n:Nat)(P:World->Prop)(Q:World->Prop)(R s:Nat->World->Prop)(L:cb<w.heap.size)(T:w.cell? ⟨cb,2,none⟩=some (.pointer p))
 (B:Hid (Calls prog 238 #[.pointer (some ⟨cb,0,none⟩),.iface 365 (.agg #[.int .i64 l,.pointer p])] (w.drew.alloc (.cells #[.int .i64 l] 209)) fun e a=>e=.returned (.int .i64 c)/\Q a))
 (x:Hid (∀W,Q W->Calls prog 233 #[.pointer (some ⟨cb,0,none⟩),.iface i o] (W.alloc (.cells #[.int .i64 l,.int .i64 t,.string f,.iface i o] 329)) fun e a=>e=.returned (.tuple #[])/\R W.heap.size a))
 (v:Hid (∀b W,R b W->Calls prog 290 #[.pointer (some ⟨cb,0,none⟩)] W fun e a=>e=.returned (.int .i64 n)/\a=W))
 (D:Hid (∀b W,R b W->Calls prog 238 #[.pointer (some ⟨cb,0,none⟩),.iface 443 (.agg #[.int .i64 n])] W fun e a=>(∃k:Nat,e=.returned (.int .i64 k))/\s b a))
 (E:Hid (∀b W,s b W->W.cell? ⟨b,2,none⟩=some (.string f)/\b<W.heap.size))
 (C:Hid (∀b W,s b W->Calls prog 236 #[.pointer (some ⟨cb,0,none⟩),.string f] W fun e a=>e=.returned (.tuple #[])/\P a)):
 Calls prog 291 #[.pointer (some ⟨cb,0,none⟩),.iface 329 (.agg #[.int .i64 l,.int .i64 t,.string f,.iface i o])] w fun e a=>e=.returned (.tuple #[])/\P a:=by
 have S:=tQ;have K:=ST;have A:=mQ;go_enter Tryz.func291,Tryz.ntmps291;go_wp2_with fail;go_region_law (go_simp;first|(go_at_call 188;refine(gQ l _).mono ?_;rintro e O ⟨rfl,rfl⟩)|(go_at_call 238;refine B.out.mono ?_;rintro e z ⟨rfl,u⟩))
 all_goals
  have d:=aB (x.out _ u);generalize F:z.heap.size=b at d;clear u;go_wp2_with fail;refine d.out.mono ?_;rintro e J ⟨rfl,r⟩;have h:=aB (v.out _ _ r);have q:=aB (D.out _ _ r);clear r;go_wp2_with fail;refine h.out.mono ?_;rintro e G ⟨rfl,rfl⟩;go_wp2_with fail;refine q.out.mono ?_;rintro e H ⟨⟨m,rfl⟩,g⟩;obtain⟨N,M⟩:=E.out _ _ g;have j:=aB (C.out _ _ g);clear g;go_wp2_with fail;refine j.out.mono ?_;rintro e I ⟨rfl,y⟩;go_wp2_with fail;go_end0;exact⟨rfl,y⟩
def EZ(w:World)(cb d:Nat)(l:Int)(p:Option Addr)(j:ByteArray)(x:Option Addr)(n c k:Nat)(h:TypeId)(i:Value)(P:World->Prop)(Q:World->Prop)(R o:Nat->World->Prop)(T:cb<w.heap.size)(c2:w.cell? ⟨cb,2,none⟩=some (.pointer p))
 (C:Hid (Calls prog 238 #[.pointer (some ⟨cb,0,none⟩),.iface 365 (.agg #[.int .i64 l,.pointer p])] (w.drew.alloc (.cells #[.int .i64 l] 209)) fun e a=>e=.returned (.int .i64 d)/\Q a))
 (y:Hid (∀W,Q W->Calls prog 287 #[.pointer (some ⟨cb,0,none⟩),.slice x n c] (W.alloc (.cells #[.int .i64 l,.string j,.slice x n c,.iface h i] 332)) fun e a=>e=.returned (.tuple #[])/\R W.heap.size a))
 (F:Hid (∀b W,R b W->W.cell? ⟨b,3,none⟩=some (.iface h i)/\b<W.heap.size))
 (G:Hid (∀b W,R b W->Calls prog 233 #[.pointer (some ⟨cb,0,none⟩),.iface h i] W fun e a=>e=.returned (.tuple #[])/\o b a))
 (r:Hid (∀b W,o b W->W.cell? ⟨b,1,none⟩=some (.string j)/\W.cell? ⟨b,2,none⟩=some (.slice x n c)/\b<W.heap.size))
 (D:Hid (∀b W f,o b W->aQ W f->Calls prog 286 #[.pointer (some ⟨cb,0,none⟩),.string j] f fun e a=>e=.returned (.int .i64 k)/\a=f))
 (E:Hid (∀b W f,o b W->aQ W f->Calls prog 238 #[.pointer (some ⟨cb,0,none⟩),.iface 445 (.agg #[.int .i64 k,.int .i64 n])] f fun e a=>(∃k:Nat,e=.returned (.int .i64 k))/\P a)):
 Calls prog 291 #[.pointer (some ⟨cb,0,none⟩),.iface 332 (.agg #[.int .i64 l,.string j,.slice x n c,.iface h i])] w fun e a=>e=.returned (.tuple #[])/\P a:=by
 have Z:=uU;have V:=wM;have S:=YF;have B:=mQ;go_enter Tryz.func291,Tryz.ntmps291;go_wp2_with fail;go_region_law (go_simp;first|(go_at_call 188;refine(gQ l _).mono ?_;rintro e Y ⟨rfl,rfl⟩)|(go_at_call 238;refine C.out.mono ?_;rintro e A ⟨rfl,v⟩))
 all_goals
  have g:=aB (y.out _ v);generalize H:A.heap.size=b at g;clear v;go_wp2_with fail;refine g.out.mono ?_;rintro e M ⟨rfl,s⟩;obtain⟨X,U⟩:=F.out _ _ s;have q:=aB (G.out _ _ s);clear s;go_wp2_with fail;refine q.out.mono ?_;rintro e I ⟨rfl,t⟩;obtain⟨N,L,O⟩:=r.out _ _ t;have u:=aB t;clear t;go_wp2_with fail;go_region_law (go_simp;first|(go_at_call 286;refine(D.out _ _ _ u.out (aQ.drew _)).mono ?_;rintro e J ⟨rfl,rfl⟩)|(go_at_call 238;refine(E.out _ _ _ u.out (aQ.drew _)).mono ?_;rintro e K ⟨⟨m,rfl⟩,z⟩))
  all_goals
   go_wp2_with fail;go_end0;exact⟨rfl,z⟩
end Go.Proofs.YtblbkfdhjfppkaaGreatDoor
