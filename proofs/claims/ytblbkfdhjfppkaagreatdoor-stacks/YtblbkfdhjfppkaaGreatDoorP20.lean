/- Contracts of the program: the compiler's statements: the walks. -/
import Derived.Test.YtblbkfdhjfppkaaGreatDoorP16
set_option linter.defProp false
set_option maxRecDepth 100000
set_option maxHeartbeats 4000000
namespace Go.Proofs.YtblbkfdhjfppkaaGreatDoor
open _root_.Go.Proofs.Tryz
open Instr(typeAssert)
open Go.RowKit
def tQ(v:Value)(w:World):(typeAssert (.iface 329 v) 122 329 true).run prog w=.ok (.tuple #[v,.bool true]) w:=by kernel_rfl
def uU(v:Value)(w:World):(typeAssert (.iface 332 v) 122 329 true).run prog w=.ok (.tuple #[.agg #[.int .i64 0,.int .i64 0,.string ⟨#[]⟩,.nilIface],.bool false]) w:=by kernel_rfl
def wM(v:Value)(w:World):(typeAssert (.iface 332 v) 122 332 true).run prog w=.ok (.tuple #[v,.bool true]) w:=by kernel_rfl
def FA(v:Value)(w:World):(typeAssert (.iface 334 v) 122 329 true).run prog w=.ok (.tuple #[.agg #[.int .i64 0,.int .i64 0,.string ⟨#[]⟩,.nilIface],.bool false]) w:=by kernel_rfl
def KF(v:Value)(w:World):(typeAssert (.iface 334 v) 122 332 true).run prog w=.ok (.tuple #[.agg #[.int .i64 0,.string ⟨#[]⟩,.slice none 0 0,.nilIface],.bool false]) w:=by kernel_rfl
def J9(v:Value)(w:World):(typeAssert (.iface 334 v) 122 334 true).run prog w=.ok (.tuple #[v,.bool true]) w:=by kernel_rfl
def wI(v:Value)(w:World):(typeAssert (.iface 336 v) 122 329 true).run prog w=.ok (.tuple #[.agg #[.int .i64 0,.int .i64 0,.string ⟨#[]⟩,.nilIface],.bool false]) w:=by kernel_rfl
def zL(v:Value)(w:World):(typeAssert (.iface 336 v) 122 332 true).run prog w=.ok (.tuple #[.agg #[.int .i64 0,.string ⟨#[]⟩,.slice none 0 0,.nilIface],.bool false]) w:=by kernel_rfl
def NU(v:Value)(w:World):(typeAssert (.iface 336 v) 122 334 true).run prog w=.ok (.tuple #[.agg #[.int .i64 0,.nilIface,.slice none 0 0,.slice none 0 0],.bool false]) w:=by kernel_rfl
def BU(v:Value)(w:World):(typeAssert (.iface 336 v) 122 336 true).run prog w=.ok (.tuple #[v,.bool true]) w:=by kernel_rfl
def uT(v:Value)(w:World):(typeAssert (.iface 338 v) 122 329 true).run prog w=.ok (.tuple #[.agg #[.int .i64 0,.int .i64 0,.string ⟨#[]⟩,.nilIface],.bool false]) w:=by kernel_rfl
def wK(v:Value)(w:World):(typeAssert (.iface 338 v) 122 332 true).run prog w=.ok (.tuple #[.agg #[.int .i64 0,.string ⟨#[]⟩,.slice none 0 0,.nilIface],.bool false]) w:=by kernel_rfl
def KE(v:Value)(w:World):(typeAssert (.iface 338 v) 122 334 true).run prog w=.ok (.tuple #[.agg #[.int .i64 0,.nilIface,.slice none 0 0,.slice none 0 0],.bool false]) w:=by kernel_rfl
def zM(v:Value)(w:World):(typeAssert (.iface 338 v) 122 336 true).run prog w=.ok (.tuple #[.agg #[.int .i64 0,.nilIface,.slice none 0 0],.bool false]) w:=by kernel_rfl
def wJ(v:Value)(w:World):(typeAssert (.iface 338 v) 122 338 true).run prog w=.ok (.tuple #[v,.bool true]) w:=by kernel_rfl
def wL(v:Value)(w:World):(typeAssert (.iface 339 v) 122 329 true).run prog w=.ok (.tuple #[.agg #[.int .i64 0,.int .i64 0,.string ⟨#[]⟩,.nilIface],.bool false]) w:=by kernel_rfl
def zO(v:Value)(w:World):(typeAssert (.iface 339 v) 122 332 true).run prog w=.ok (.tuple #[.agg #[.int .i64 0,.string ⟨#[]⟩,.slice none 0 0,.nilIface],.bool false]) w:=by kernel_rfl
def NV(v:Value)(w:World):(typeAssert (.iface 339 v) 122 334 true).run prog w=.ok (.tuple #[.agg #[.int .i64 0,.nilIface,.slice none 0 0,.slice none 0 0],.bool false]) w:=by kernel_rfl
def BV(v:Value)(w:World):(typeAssert (.iface 339 v) 122 336 true).run prog w=.ok (.tuple #[.agg #[.int .i64 0,.nilIface,.slice none 0 0],.bool false]) w:=by kernel_rfl
def zN(v:Value)(w:World):(typeAssert (.iface 339 v) 122 338 true).run prog w=.ok (.tuple #[.agg #[.int .i64 0,.nilIface],.bool false]) w:=by kernel_rfl
def BW(v:Value)(w:World):(typeAssert (.iface 339 v) 122 339 true).run prog w=.ok (.tuple #[v,.bool true]) w:=by kernel_rfl
def zP(v:Value)(w:World):(typeAssert (.iface 341 v) 122 329 true).run prog w=.ok (.tuple #[.agg #[.int .i64 0,.int .i64 0,.string ⟨#[]⟩,.nilIface],.bool false]) w:=by kernel_rfl
def BY(v:Value)(w:World):(typeAssert (.iface 341 v) 122 332 true).run prog w=.ok (.tuple #[.agg #[.int .i64 0,.string ⟨#[]⟩,.slice none 0 0,.nilIface],.bool false]) w:=by kernel_rfl
def TB(v:Value)(w:World):(typeAssert (.iface 341 v) 122 334 true).run prog w=.ok (.tuple #[.agg #[.int .i64 0,.nilIface,.slice none 0 0,.slice none 0 0],.bool false]) w:=by kernel_rfl
def FC(v:Value)(w:World):(typeAssert (.iface 341 v) 122 336 true).run prog w=.ok (.tuple #[.agg #[.int .i64 0,.nilIface,.slice none 0 0],.bool false]) w:=by kernel_rfl
def BX(v:Value)(w:World):(typeAssert (.iface 341 v) 122 338 true).run prog w=.ok (.tuple #[.agg #[.int .i64 0,.nilIface],.bool false]) w:=by kernel_rfl
def FD(v:Value)(w:World):(typeAssert (.iface 341 v) 122 339 true).run prog w=.ok (.tuple #[.agg #[.int .i64 0,.nilIface],.bool false]) w:=by kernel_rfl
def KG(v:Value)(w:World):(typeAssert (.iface 341 v) 122 341 true).run prog w=.ok (.tuple #[v,.bool true]) w:=by kernel_rfl
def ST(l:Int)(a b c:Value)(w:World):(Go.method 616 329 (.agg #[.int .i64 l,a,b,c]) "Line").run prog w=.ok (188,.agg #[.int .i64 l]) w:=by kernel_rfl
def YF(l:Int)(a b c:Value)(w:World):(Go.method 616 332 (.agg #[.int .i64 l,a,b,c]) "Line").run prog w=.ok (188,.agg #[.int .i64 l]) w:=by kernel_rfl
def z6(l:Int)(a b c:Value)(w:World):(Go.method 616 334 (.agg #[.int .i64 l,a,b,c]) "Line").run prog w=.ok (188,.agg #[.int .i64 l]) w:=by kernel_rfl
def J0(l:Int)(a b:Value)(w:World):(Go.method 616 336 (.agg #[.int .i64 l,a,b]) "Line").run prog w=.ok (188,.agg #[.int .i64 l]) w:=by kernel_rfl
def YE(l:Int)(a:Value)(w:World):(Go.method 616 338 (.agg #[.int .i64 l,a]) "Line").run prog w=.ok (188,.agg #[.int .i64 l]) w:=by kernel_rfl
def J2(l:Int)(a:Value)(w:World):(Go.method 616 339 (.agg #[.int .i64 l,a]) "Line").run prog w=.ok (188,.agg #[.int .i64 l]) w:=by kernel_rfl
def U0(l:Int)(a b:Value)(w:World):(Go.method 616 341 (.agg #[.int .i64 l,a,b]) "Line").run prog w=.ok (188,.agg #[.int .i64 l]) w:=by kernel_rfl
def mQ(a:Value)(w:World):(callFunc 188 #[a]).run prog w=.ok (.enter 188 #[a]) w:=by kernel_rfl
def gQ(l:Int)(w:World):Calls prog 188 #[.agg #[.int .i64 l]] w fun e a=>e=.returned (.int .i64 l)/\a=w.alloc (.cells #[.int .i64 l] 209):=by
 go_enter func188,ntmps188;go_wp2_with fail;go_ret;exact⟨rfl,rfl⟩
def sO(w:World)(cb b:Nat)(l:Int)(p:Option Addr)(g:TypeId)(f:Value)(P:World->Prop)(Q:World->Prop)(R:World->Prop)(C:cb<w.heap.size)(A:w.cell? ⟨cb,2,none⟩=some (.pointer p))
 (j:Hid (Calls prog 238 #[.pointer (some ⟨cb,0,none⟩),.iface 365 (.agg #[.int .i64 l,.pointer p])] (w.drew.alloc (.cells #[.int .i64 l] 209)) fun e a=>e=.returned (.int .i64 b)/\Q a))
 (r:Hid (∀W,Q W->Calls prog 233 #[.pointer (some ⟨cb,0,none⟩),.iface g f] (W.alloc (.cells #[.int .i64 l,.iface g f] 338)) fun e a=>e=.returned (.tuple #[])/\R a))
 (q:Hid (∀W,R W->Calls prog 238 #[.pointer (some ⟨cb,0,none⟩),.iface 363 (.agg #[])] W fun e a=>(∃k:Nat,e=.returned (.int .i64 k))/\P a)):
 Calls prog 291 #[.pointer (some ⟨cb,0,none⟩),.iface 338 (.agg #[.int .i64 l,.iface g f])] w fun e a=>e=.returned (.tuple #[])/\P a:=by
 have u:=uT;have y:=wK;have E:=KE;have z:=zM;have B:=wJ;have x:=YE;have o:=mQ;go_enter func291,ntmps291;go_wp2_with fail;go_region_law (go_simp;first|(go_at_call 188;refine(gQ l _).mono ?_;rintro e t ⟨rfl,rfl⟩)|(go_at_call 238;refine j.out.mono ?_;rintro e D ⟨rfl,h⟩))
 all_goals
  have d:=aB (r.out _ h);clear h;go_wp2_with fail;refine d.out.mono ?_;rintro e v ⟨rfl,i⟩;have c:=aB (q.out _ i);clear i;go_wp2_with fail;refine c.out.mono ?_;rintro e s ⟨⟨m,rfl⟩,n⟩;go_wp2_with fail;go_end0;exact⟨rfl,n⟩
def KA(w:World)(cb b:Nat)(l:Int)(p:Option Addr)(g:TypeId)(f:Value)(P:World->Prop)(Q:World->Prop)(R:World->Prop)(D:cb<w.heap.size)(B:w.cell? ⟨cb,2,none⟩=some (.pointer p))
 (j:Hid (Calls prog 238 #[.pointer (some ⟨cb,0,none⟩),.iface 365 (.agg #[.int .i64 l,.pointer p])] (w.drew.alloc (.cells #[.int .i64 l] 209)) fun e a=>e=.returned (.int .i64 b)/\Q a))
 (r:Hid (∀W,Q W->Calls prog 233 #[.pointer (some ⟨cb,0,none⟩),.iface g f] (W.alloc (.cells #[.int .i64 l,.iface g f] 339)) fun e a=>e=.returned (.tuple #[])/\R a))
 (q:Hid (∀W,R W->Calls prog 238 #[.pointer (some ⟨cb,0,none⟩),.iface 448 (.agg #[])] W fun e a=>(∃k:Nat,e=.returned (.int .i64 k))/\P a)):
 Calls prog 291 #[.pointer (some ⟨cb,0,none⟩),.iface 339 (.agg #[.int .i64 l,.iface g f])] w fun e a=>e=.returned (.tuple #[])/\P a:=by
 have u:=wL;have y:=zO;have F:=NV;have z:=BV;have C:=zN;have A:=BW;have x:=J2;have o:=mQ;go_enter func291,ntmps291;go_wp2_with fail;go_region_law (go_simp;first|(go_at_call 188;refine(gQ l _).mono ?_;rintro e t ⟨rfl,rfl⟩)|(go_at_call 238;refine j.out.mono ?_;rintro e E ⟨rfl,h⟩))
 all_goals
  have d:=aB (r.out _ h);clear h;go_wp2_with fail;refine d.out.mono ?_;rintro e v ⟨rfl,i⟩;have c:=aB (q.out _ i);clear i;go_wp2_with fail;refine c.out.mono ?_;rintro e s ⟨⟨m,rfl⟩,n⟩;go_wp2_with fail;go_end0;exact⟨rfl,n⟩
def NG(w:World)(cb b:Nat)(l:Int)(p:Option Addr)(tx:ByteArray)(x:Option Addr)(n c:Nat)(P:World->Prop)(Q:World->Prop)(R:World->Prop)(F:cb<w.heap.size)(D:w.cell? ⟨cb,2,none⟩=some (.pointer p))
 (i:Hid (Calls prog 238 #[.pointer (some ⟨cb,0,none⟩),.iface 365 (.agg #[.int .i64 l,.pointer p])] (w.drew.alloc (.cells #[.int .i64 l] 209)) fun e a=>e=.returned (.int .i64 b)/\Q a))
 (r:Hid (∀W,Q W->Calls prog 289 #[.pointer (some ⟨cb,0,none⟩),.agg #[.int .i64 l,.string tx,.slice x n c]] (W.alloc (.cells #[.int .i64 l,.string tx,.slice x n c] 341)) fun e a=>e=.returned (.tuple #[])/\R a))
 (q:Hid (∀W,R W->Calls prog 238 #[.pointer (some ⟨cb,0,none⟩),.iface 449 (.agg #[])] W fun e a=>(∃k:Nat,e=.returned (.int .i64 k))/\P a)):
 Calls prog 291 #[.pointer (some ⟨cb,0,none⟩),.iface 341 (.agg #[.int .i64 l,.string tx,.slice x n c])] w fun e a=>e=.returned (.tuple #[])/\P a:=by
 have u:=zP;have A:=BY;have H:=TB;have B:=FC;have E:=BX;have C:=FD;have z:=KG;have y:=U0;have o:=mQ;go_enter func291,ntmps291;go_wp2_with fail;go_region_law (go_simp;first|(go_at_call 188;refine(gQ l _).mono ?_;rintro e t ⟨rfl,rfl⟩)|(go_at_call 238;refine i.out.mono ?_;rintro e G ⟨rfl,g⟩))
 all_goals
  have f:=aB (r.out _ g);clear g;go_wp2_with fail;refine f.out.mono ?_;rintro e v ⟨rfl,h⟩;have d:=aB (q.out _ h);clear h;go_wp2_with fail;refine d.out.mono ?_;rintro e s ⟨⟨m,rfl⟩,j⟩;go_wp2_with fail;go_end0;exact⟨rfl,j⟩
def GU(w:World)(cb b:Nat)(l:Int)(p:Option Addr)(g:TypeId)(f:Value)(j h:Option Addr)(i k c1 a:Nat)(P:World->Prop)(Q:World->Prop)(z:cb<w.heap.size)(y:w.cell? ⟨cb,2,none⟩=some (.pointer p))
 (n:Hid (Calls prog 238 #[.pointer (some ⟨cb,0,none⟩),.iface 365 (.agg #[.int .i64 l,.pointer p])] (w.drew.alloc (.cells #[.int .i64 l] 209)) fun e c=>e=.returned (.int .i64 b)/\Q c))
 (r:Hid (∀W,Q W->Calls prog 324 #[.pointer (some ⟨cb,0,none⟩),.agg #[.int .i64 l,.iface g f,.slice j i c1,.slice h k a]] (W.alloc (.cells #[.int .i64 l,.iface g f,.slice j i c1,.slice h k a] 334)) fun e c=>e=.returned (.tuple #[])/\P c)):
 Calls prog 291 #[.pointer (some ⟨cb,0,none⟩),.iface 334 (.agg #[.int .i64 l,.iface g f,.slice j i c1,.slice h k a])] w fun e c=>e=.returned (.tuple #[])/\P c:=by
 have t:=FA;have x:=KF;have B:=J9;have v:=z6;have o:=mQ;go_enter func291,ntmps291;go_wp2_with fail;go_region_law (go_simp;first|(go_at_call 188;refine(gQ l _).mono ?_;rintro e s ⟨rfl,rfl⟩)|(go_at_call 238;refine n.out.mono ?_;rintro e A ⟨rfl,m⟩))
 all_goals
  have d:=aB (r.out _ m);clear m;go_wp2_with fail;refine d.out.mono ?_;rintro e u ⟨rfl,q⟩;go_wp2_with fail;go_end0;exact⟨rfl,q⟩
def JZ(w:World)(cb a:Nat)(l:Int)(p:Option Addr)(f:TypeId)(d:Value)(h:Option Addr)(g c1:Nat)(P:World->Prop)(Q:World->Prop)(x:cb<w.heap.size)(v:w.cell? ⟨cb,2,none⟩=some (.pointer p))
 (j:Hid (Calls prog 238 #[.pointer (some ⟨cb,0,none⟩),.iface 365 (.agg #[.int .i64 l,.pointer p])] (w.drew.alloc (.cells #[.int .i64 l] 209)) fun e b=>e=.returned (.int .i64 a)/\Q b))
 (n:Hid (∀W,Q W->Calls prog 325 #[.pointer (some ⟨cb,0,none⟩),.agg #[.int .i64 l,.iface f d,.slice h g c1],.int .i64 a] (W.alloc (.cells #[.int .i64 l,.iface f d,.slice h g c1] 336)) fun e b=>e=.returned (.tuple #[])/\P b)):
 Calls prog 291 #[.pointer (some ⟨cb,0,none⟩),.iface 336 (.agg #[.int .i64 l,.iface f d,.slice h g c1])] w fun e b=>e=.returned (.tuple #[])/\P b:=by
 have q:=wI;have t:=zL;have z:=NU;have u:=BU;have s:=J0;have k:=mQ;go_enter func291,ntmps291;go_wp2_with fail;go_region_law (go_simp;first|(go_at_call 188;refine(gQ l _).mono ?_;rintro e o ⟨rfl,rfl⟩)|(go_at_call 238;refine j.out.mono ?_;rintro e y ⟨rfl,i⟩))
 all_goals
  have c:=aB (n.out _ i);clear i;go_wp2_with fail;refine c.out.mono ?_;rintro e r ⟨rfl,m⟩;go_wp2_with fail;go_end0;exact⟨rfl,m⟩
def BP(w:World)(cb c:Nat)(l:Int)(p:Option Addr)(u:Int)(f:ByteArray)(q:TypeId)(i:Value)(n:Nat)(P:World->Prop)(Q:World->Prop)(R h:Nat->World->Prop)(S:cb<w.heap.size)(O:w.cell? ⟨cb,2,none⟩=some (.pointer p))
 (v:Hid (Calls prog 238 #[.pointer (some ⟨cb,0,none⟩),.iface 365 (.agg #[.int .i64 l,.pointer p])] (w.drew.alloc (.cells #[.int .i64 l] 209)) fun e a=>e=.returned (.int .i64 c)/\Q a))
 (E:Hid (∀W,Q W->Calls prog 233 #[.pointer (some ⟨cb,0,none⟩),.iface q i] (W.alloc (.cells #[.int .i64 l,.int .i64 u,.string f,.iface q i] 329)) fun e a=>e=.returned (.tuple #[])/\R W.heap.size a))
 (x:Hid (∀b W,R b W->Calls prog 290 #[.pointer (some ⟨cb,0,none⟩)] W fun e a=>e=.returned (.int .i64 n)/\a=W))
 (C:Hid (∀b W,R b W->Calls prog 238 #[.pointer (some ⟨cb,0,none⟩),.iface 443 (.agg #[.int .i64 n])] W fun e a=>(∃k:Nat,e=.returned (.int .i64 k))/\h b a))
 (y:Hid (∀b W,h b W->W.cell? ⟨b,2,none⟩=some (.string f)/\b<W.heap.size))
 (A:Hid (∀b W,h b W->Calls prog 236 #[.pointer (some ⟨cb,0,none⟩),.string f] W fun e a=>e=.returned (.tuple #[])/\P a)):
 Calls prog 291 #[.pointer (some ⟨cb,0,none⟩),.iface 329 (.agg #[.int .i64 l,.int .i64 u,.string f,.iface q i])] w fun e a=>e=.returned (.tuple #[])/\P a:=by
 have I:=tQ;have M:=ST;have z:=mQ;go_enter func291,ntmps291;go_wp2_with fail;go_region_law (go_simp;first|(go_at_call 188;refine(gQ l _).mono ?_;rintro e G ⟨rfl,rfl⟩)|(go_at_call 238;refine v.out.mono ?_;rintro e D ⟨rfl,t⟩))
 all_goals
  have d:=aB (E.out _ t);generalize L:D.heap.size=b at d;clear t;go_wp2_with fail;refine d.out.mono ?_;rintro e J ⟨rfl,r⟩;have s:=aB (x.out _ _ r);have g:=aB (C.out _ _ r);clear r;go_wp2_with fail;refine s.out.mono ?_;rintro e F ⟨rfl,rfl⟩;go_wp2_with fail;refine g.out.mono ?_;rintro e T ⟨⟨m,rfl⟩,j⟩;obtain⟨N,H⟩:=y.out _ _ j;have o:=aB (A.out _ _ j);clear j;go_wp2_with fail;refine o.out.mono ?_;rintro e K ⟨rfl,B⟩;go_wp2_with fail;go_end0;exact⟨rfl,B⟩
def EZ(w:World)(cb d:Nat)(l:Int)(p:Option Addr)(h:ByteArray)(x:Option Addr)(n c k:Nat)(o:TypeId)(j:Value)(P:World->Prop)(Q:World->Prop)(R i:Nat->World->Prop)(X:cb<w.heap.size)(V:w.cell? ⟨cb,2,none⟩=some (.pointer p))
 (y:Hid (Calls prog 238 #[.pointer (some ⟨cb,0,none⟩),.iface 365 (.agg #[.int .i64 l,.pointer p])] (w.drew.alloc (.cells #[.int .i64 l] 209)) fun e a=>e=.returned (.int .i64 d)/\Q a))
 (G:Hid (∀W,Q W->Calls prog 287 #[.pointer (some ⟨cb,0,none⟩),.slice x n c] (W.alloc (.cells #[.int .i64 l,.string h,.slice x n c,.iface o j] 332)) fun e a=>e=.returned (.tuple #[])/\R W.heap.size a))
 (z:Hid (∀b W,R b W->W.cell? ⟨b,3,none⟩=some (.iface o j)/\b<W.heap.size))
 (A:Hid (∀b W,R b W->Calls prog 233 #[.pointer (some ⟨cb,0,none⟩),.iface o j] W fun e a=>e=.returned (.tuple #[])/\i b a))
 (t:Hid (∀b W,i b W->W.cell? ⟨b,1,none⟩=some (.string h)/\W.cell? ⟨b,2,none⟩=some (.slice x n c)/\b<W.heap.size))
 (C:Hid (∀b W f,i b W->aQ W f->Calls prog 286 #[.pointer (some ⟨cb,0,none⟩),.string h] f fun e a=>e=.returned (.int .i64 k)/\a=f))
 (E:Hid (∀b W f,i b W->aQ W f->Calls prog 238 #[.pointer (some ⟨cb,0,none⟩),.iface 445 (.agg #[.int .i64 k,.int .i64 n])] f fun e a=>(∃k:Nat,e=.returned (.int .i64 k))/\P a)):
 Calls prog 291 #[.pointer (some ⟨cb,0,none⟩),.iface 332 (.agg #[.int .i64 l,.string h,.slice x n c,.iface o j])] w fun e a=>e=.returned (.tuple #[])/\P a:=by
 have K:=uU;have T:=wM;have O:=YF;have B:=mQ;go_enter func291,ntmps291;go_wp2_with fail;go_region_law (go_simp;first|(go_at_call 188;refine(gQ l _).mono ?_;rintro e I ⟨rfl,rfl⟩)|(go_at_call 238;refine y.out.mono ?_;rintro e F ⟨rfl,u⟩))
 all_goals
  have g:=aB (G.out _ u);generalize N:F.heap.size=b at g;clear u;go_wp2_with fail;refine g.out.mono ?_;rintro e L ⟨rfl,s⟩;obtain⟨U,J⟩:=z.out _ _ s;have r:=aB (A.out _ _ s);clear s;go_wp2_with fail;refine r.out.mono ?_;rintro e H ⟨rfl,q⟩;obtain⟨S,Y,Z⟩:=t.out _ _ q;have v:=aB q;clear q;go_wp2_with fail;go_region_law (go_simp;first|(go_at_call 286;refine(C.out _ _ _ v.out (aQ.drew _)).mono ?_;rintro e w5 ⟨rfl,rfl⟩)|(go_at_call 238;refine(E.out _ _ _ v.out (aQ.drew _)).mono ?_;rintro e M ⟨⟨m,rfl⟩,D⟩))
  all_goals
   go_wp2_with fail;go_end0;exact⟨rfl,D⟩
end Go.Proofs.YtblbkfdhjfppkaaGreatDoor
