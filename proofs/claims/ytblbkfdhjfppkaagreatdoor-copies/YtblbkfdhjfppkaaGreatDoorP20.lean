/- Contracts of the program: the compiler's statements: the walks. -/
import Derived.Test.YtblbkfdhjfppkaaGreatDoorP16
set_option maxRecDepth 100000
set_option maxHeartbeats 4000000
namespace Go.Proofs.YtblbkfdhjfppkaaGreatDoor
open Tryz(prog)
open Go.RowKit
theorem tG(v:Value)(w:World):(Instr.typeAssert (.iface 329 v) 122 329 true).run prog w=.ok (.tuple #[v,.bool true]) w:=by kernel_rfl
theorem uL(v:Value)(w:World):(Instr.typeAssert (.iface 332 v) 122 329 true).run prog w=.ok (.tuple #[.agg #[.int .i64 0,.int .i64 0,.string ⟨#[]⟩,.nilIface],.bool false]) w:=by kernel_rfl
theorem wF(v:Value)(w:World):(Instr.typeAssert (.iface 332 v) 122 332 true).run prog w=.ok (.tuple #[v,.bool true]) w:=by kernel_rfl
theorem FA(v:Value)(w:World):(Instr.typeAssert (.iface 334 v) 122 329 true).run prog w=.ok (.tuple #[.agg #[.int .i64 0,.int .i64 0,.string ⟨#[]⟩,.nilIface],.bool false]) w:=by kernel_rfl
theorem KD(v:Value)(w:World):(Instr.typeAssert (.iface 334 v) 122 332 true).run prog w=.ok (.tuple #[.agg #[.int .i64 0,.string ⟨#[]⟩,.slice none 0 0,.nilIface],.bool false]) w:=by kernel_rfl
theorem F9(v:Value)(w:World):(Instr.typeAssert (.iface 334 v) 122 334 true).run prog w=.ok (.tuple #[v,.bool true]) w:=by kernel_rfl
theorem wB(v:Value)(w:World):(Instr.typeAssert (.iface 336 v) 122 329 true).run prog w=.ok (.tuple #[.agg #[.int .i64 0,.int .i64 0,.string ⟨#[]⟩,.nilIface],.bool false]) w:=by kernel_rfl
theorem zG(v:Value)(w:World):(Instr.typeAssert (.iface 336 v) 122 332 true).run prog w=.ok (.tuple #[.agg #[.int .i64 0,.string ⟨#[]⟩,.slice none 0 0,.nilIface],.bool false]) w:=by kernel_rfl
theorem NP(v:Value)(w:World):(Instr.typeAssert (.iface 336 v) 122 334 true).run prog w=.ok (.tuple #[.agg #[.int .i64 0,.nilIface,.slice none 0 0,.slice none 0 0],.bool false]) w:=by kernel_rfl
theorem BW(v:Value)(w:World):(Instr.typeAssert (.iface 336 v) 122 336 true).run prog w=.ok (.tuple #[v,.bool true]) w:=by kernel_rfl
theorem uK(v:Value)(w:World):(Instr.typeAssert (.iface 338 v) 122 329 true).run prog w=.ok (.tuple #[.agg #[.int .i64 0,.int .i64 0,.string ⟨#[]⟩,.nilIface],.bool false]) w:=by kernel_rfl
theorem wD(v:Value)(w:World):(Instr.typeAssert (.iface 338 v) 122 332 true).run prog w=.ok (.tuple #[.agg #[.int .i64 0,.string ⟨#[]⟩,.slice none 0 0,.nilIface],.bool false]) w:=by kernel_rfl
theorem KC(v:Value)(w:World):(Instr.typeAssert (.iface 338 v) 122 334 true).run prog w=.ok (.tuple #[.agg #[.int .i64 0,.nilIface,.slice none 0 0,.slice none 0 0],.bool false]) w:=by kernel_rfl
theorem zH(v:Value)(w:World):(Instr.typeAssert (.iface 338 v) 122 336 true).run prog w=.ok (.tuple #[.agg #[.int .i64 0,.nilIface,.slice none 0 0],.bool false]) w:=by kernel_rfl
theorem wC(v:Value)(w:World):(Instr.typeAssert (.iface 338 v) 122 338 true).run prog w=.ok (.tuple #[v,.bool true]) w:=by kernel_rfl
theorem wE(v:Value)(w:World):(Instr.typeAssert (.iface 339 v) 122 329 true).run prog w=.ok (.tuple #[.agg #[.int .i64 0,.int .i64 0,.string ⟨#[]⟩,.nilIface],.bool false]) w:=by kernel_rfl
theorem zJ(v:Value)(w:World):(Instr.typeAssert (.iface 339 v) 122 332 true).run prog w=.ok (.tuple #[.agg #[.int .i64 0,.string ⟨#[]⟩,.slice none 0 0,.nilIface],.bool false]) w:=by kernel_rfl
theorem NQ(v:Value)(w:World):(Instr.typeAssert (.iface 339 v) 122 334 true).run prog w=.ok (.tuple #[.agg #[.int .i64 0,.nilIface,.slice none 0 0,.slice none 0 0],.bool false]) w:=by kernel_rfl
theorem BX(v:Value)(w:World):(Instr.typeAssert (.iface 339 v) 122 336 true).run prog w=.ok (.tuple #[.agg #[.int .i64 0,.nilIface,.slice none 0 0],.bool false]) w:=by kernel_rfl
theorem zI(v:Value)(w:World):(Instr.typeAssert (.iface 339 v) 122 338 true).run prog w=.ok (.tuple #[.agg #[.int .i64 0,.nilIface],.bool false]) w:=by kernel_rfl
theorem BY(v:Value)(w:World):(Instr.typeAssert (.iface 339 v) 122 339 true).run prog w=.ok (.tuple #[v,.bool true]) w:=by kernel_rfl
theorem zK(v:Value)(w:World):(Instr.typeAssert (.iface 341 v) 122 329 true).run prog w=.ok (.tuple #[.agg #[.int .i64 0,.int .i64 0,.string ⟨#[]⟩,.nilIface],.bool false]) w:=by kernel_rfl
theorem CA(v:Value)(w:World):(Instr.typeAssert (.iface 341 v) 122 332 true).run prog w=.ok (.tuple #[.agg #[.int .i64 0,.string ⟨#[]⟩,.slice none 0 0,.nilIface],.bool false]) w:=by kernel_rfl
theorem SO(v:Value)(w:World):(Instr.typeAssert (.iface 341 v) 122 334 true).run prog w=.ok (.tuple #[.agg #[.int .i64 0,.nilIface,.slice none 0 0,.slice none 0 0],.bool false]) w:=by kernel_rfl
theorem FC(v:Value)(w:World):(Instr.typeAssert (.iface 341 v) 122 336 true).run prog w=.ok (.tuple #[.agg #[.int .i64 0,.nilIface,.slice none 0 0],.bool false]) w:=by kernel_rfl
theorem BZ(v:Value)(w:World):(Instr.typeAssert (.iface 341 v) 122 338 true).run prog w=.ok (.tuple #[.agg #[.int .i64 0,.nilIface],.bool false]) w:=by kernel_rfl
theorem FD(v:Value)(w:World):(Instr.typeAssert (.iface 341 v) 122 339 true).run prog w=.ok (.tuple #[.agg #[.int .i64 0,.nilIface],.bool false]) w:=by kernel_rfl
theorem KE(v:Value)(w:World):(Instr.typeAssert (.iface 341 v) 122 341 true).run prog w=.ok (.tuple #[v,.bool true]) w:=by kernel_rfl
theorem SH(l:Int)(a b c:Value)(w:World):(Go.method 616 329 (.agg #[.int .i64 l,a,b,c]) "Line").run prog w=.ok (188,.agg #[.int .i64 l]) w:=by kernel_rfl
theorem XH(l:Int)(a b c:Value)(w:World):(Go.method 616 332 (.agg #[.int .i64 l,a,b,c]) "Line").run prog w=.ok (188,.agg #[.int .i64 l]) w:=by kernel_rfl
theorem d9(l:Int)(a b c:Value)(w:World):(Go.method 616 334 (.agg #[.int .i64 l,a,b,c]) "Line").run prog w=.ok (188,.agg #[.int .i64 l]) w:=by kernel_rfl
theorem E8(l:Int)(a b:Value)(w:World):(Go.method 616 336 (.agg #[.int .i64 l,a,b]) "Line").run prog w=.ok (188,.agg #[.int .i64 l]) w:=by kernel_rfl
theorem XG(l:Int)(a:Value)(w:World):(Go.method 616 338 (.agg #[.int .i64 l,a]) "Line").run prog w=.ok (188,.agg #[.int .i64 l]) w:=by kernel_rfl
theorem E9(l:Int)(a:Value)(w:World):(Go.method 616 339 (.agg #[.int .i64 l,a]) "Line").run prog w=.ok (188,.agg #[.int .i64 l]) w:=by kernel_rfl
theorem O8(l:Int)(a b:Value)(w:World):(Go.method 616 341 (.agg #[.int .i64 l,a,b]) "Line").run prog w=.ok (188,.agg #[.int .i64 l]) w:=by kernel_rfl
theorem mL(a:Value)(w:World):(callFunc 188 #[a]).run prog w=.ok (.enter 188 #[a]) w:=by kernel_rfl
theorem gU(l:Int)(w:World):Calls prog 188 #[.agg #[.int .i64 l]] w fun e w'=>e=.returned (.int .i64 l)/\w'=w.alloc (.cells #[.int .i64 l] 209):=by
 go_enter Tryz.func188,Tryz.ntmps188;go_wp2_with fail;go_ret;exact⟨rfl,rfl⟩
theorem sD(w:World)(cb start:Nat)(l:Int)(p:Option Addr)(t1:TypeId)(z1:Value)(P:World->Prop)(Q:World->Prop)(R:World->Prop)(hl:cb<w.heap.size)(c2:w.cell? ⟨cb,2,none⟩=some (.pointer p))
 (HQ:Hid (Calls prog 238 #[.pointer (some ⟨cb,0,none⟩),.iface 365 (.agg #[.int .i64 l,.pointer p])] (w.drew.alloc (.cells #[.int .i64 l] 209)) fun e w'=>e=.returned (.int .i64 start)/\Q w'))
 (HX:Hid (∀W,Q W->Calls prog 233 #[.pointer (some ⟨cb,0,none⟩),.iface t1 z1] (W.alloc (.cells #[.int .i64 l,.iface t1 z1] 338)) fun e w'=>e=.returned (.tuple #[])/\R w'))
 (HE:Hid (∀W,R W->Calls prog 238 #[.pointer (some ⟨cb,0,none⟩),.iface 363 (.agg #[])] W fun e w'=>(∃k:Nat,e=.returned (.int .i64 k))/\P w')):
 Calls prog 291 #[.pointer (some ⟨cb,0,none⟩),.iface 338 (.agg #[.int .i64 l,.iface t1 z1])] w fun e w'=>e=.returned (.tuple #[])/\P w':=by
 have q0:=uK;have q1:=wD;have q2:=KC;have q3:=zH;have q4:=wC;have sl:=XG;have sle:=mL;go_enter Tryz.func291,Tryz.ntmps291;go_wp2_with fail;go_region_law (go_simp;first|(go_at_call 188;refine(gU l _).mono ?_;rintro e w1 ⟨rfl,rfl⟩)|(go_at_call 238;refine HQ.out.mono ?_;rintro e w2 ⟨rfl,h2⟩))
 all_goals
  have HXX:=aB (HX.out _ h2);clear h2;go_wp2_with fail;refine HXX.out.mono ?_;rintro e w3 ⟨rfl,h3⟩;have HEE:=aB (HE.out _ h3);clear h3;go_wp2_with fail;refine HEE.out.mono ?_;rintro e w4 ⟨⟨m,rfl⟩,h4⟩;go_wp2_with fail;go_end0;exact⟨rfl,h4⟩
theorem JV(w:World)(cb start:Nat)(l:Int)(p:Option Addr)(t1:TypeId)(z1:Value)(P:World->Prop)(Q:World->Prop)(R:World->Prop)(hl:cb<w.heap.size)(c2:w.cell? ⟨cb,2,none⟩=some (.pointer p))
 (HQ:Hid (Calls prog 238 #[.pointer (some ⟨cb,0,none⟩),.iface 365 (.agg #[.int .i64 l,.pointer p])] (w.drew.alloc (.cells #[.int .i64 l] 209)) fun e w'=>e=.returned (.int .i64 start)/\Q w'))
 (HX:Hid (∀W,Q W->Calls prog 233 #[.pointer (some ⟨cb,0,none⟩),.iface t1 z1] (W.alloc (.cells #[.int .i64 l,.iface t1 z1] 339)) fun e w'=>e=.returned (.tuple #[])/\R w'))
 (HE:Hid (∀W,R W->Calls prog 238 #[.pointer (some ⟨cb,0,none⟩),.iface 448 (.agg #[])] W fun e w'=>(∃k:Nat,e=.returned (.int .i64 k))/\P w')):
 Calls prog 291 #[.pointer (some ⟨cb,0,none⟩),.iface 339 (.agg #[.int .i64 l,.iface t1 z1])] w fun e w'=>e=.returned (.tuple #[])/\P w':=by
 have q0:=wE;have q1:=zJ;have q2:=NQ;have q3:=BX;have q4:=zI;have q5:=BY;have sl:=E9;have sle:=mL;go_enter Tryz.func291,Tryz.ntmps291;go_wp2_with fail;go_region_law (go_simp;first|(go_at_call 188;refine(gU l _).mono ?_;rintro e w1 ⟨rfl,rfl⟩)|(go_at_call 238;refine HQ.out.mono ?_;rintro e w2 ⟨rfl,h2⟩))
 all_goals
  have HXX:=aB (HX.out _ h2);clear h2;go_wp2_with fail;refine HXX.out.mono ?_;rintro e w3 ⟨rfl,h3⟩;have HEE:=aB (HE.out _ h3);clear h3;go_wp2_with fail;refine HEE.out.mono ?_;rintro e w4 ⟨⟨m,rfl⟩,h4⟩;go_wp2_with fail;go_end0;exact⟨rfl,h4⟩
theorem NB(w:World)(cb start:Nat)(l:Int)(p:Option Addr)(tx:ByteArray)(x:Option Addr)(n c:Nat)(P:World->Prop)(Q:World->Prop)(R:World->Prop)(hl:cb<w.heap.size)(c2:w.cell? ⟨cb,2,none⟩=some (.pointer p))
 (HQ:Hid (Calls prog 238 #[.pointer (some ⟨cb,0,none⟩),.iface 365 (.agg #[.int .i64 l,.pointer p])] (w.drew.alloc (.cells #[.int .i64 l] 209)) fun e w'=>e=.returned (.int .i64 start)/\Q w'))
 (HX:Hid (∀W,Q W->Calls prog 289 #[.pointer (some ⟨cb,0,none⟩),.agg #[.int .i64 l,.string tx,.slice x n c]] (W.alloc (.cells #[.int .i64 l,.string tx,.slice x n c] 341)) fun e w'=>e=.returned (.tuple #[])/\R w'))
 (HE:Hid (∀W,R W->Calls prog 238 #[.pointer (some ⟨cb,0,none⟩),.iface 449 (.agg #[])] W fun e w'=>(∃k:Nat,e=.returned (.int .i64 k))/\P w')):
 Calls prog 291 #[.pointer (some ⟨cb,0,none⟩),.iface 341 (.agg #[.int .i64 l,.string tx,.slice x n c])] w fun e w'=>e=.returned (.tuple #[])/\P w':=by
 have q0:=zK;have q1:=CA;have q2:=SO;have q3:=FC;have q4:=BZ;have q5:=FD;have q6:=KE;have sl:=O8;have sle:=mL;go_enter Tryz.func291,Tryz.ntmps291;go_wp2_with fail;go_region_law (go_simp;first|(go_at_call 188;refine(gU l _).mono ?_;rintro e w1 ⟨rfl,rfl⟩)|(go_at_call 238;refine HQ.out.mono ?_;rintro e w2 ⟨rfl,h2⟩))
 all_goals
  have HXX:=aB (HX.out _ h2);clear h2;go_wp2_with fail;refine HXX.out.mono ?_;rintro e w3 ⟨rfl,h3⟩;have HEE:=aB (HE.out _ h3);clear h3;go_wp2_with fail;refine HEE.out.mono ?_;rintro e w4 ⟨⟨m,rfl⟩,h4⟩;go_wp2_with fail;go_end0;exact⟨rfl,h4⟩
theorem GR(w:World)(cb start:Nat)(l:Int)(p:Option Addr)(t1:TypeId)(z1:Value)(x1 x2:Option Addr)(n1 n2 c1 c2':Nat)(P:World->Prop)(Q:World->Prop)(hl:cb<w.heap.size)(c2:w.cell? ⟨cb,2,none⟩=some (.pointer p))
 (HQ:Hid (Calls prog 238 #[.pointer (some ⟨cb,0,none⟩),.iface 365 (.agg #[.int .i64 l,.pointer p])] (w.drew.alloc (.cells #[.int .i64 l] 209)) fun e w'=>e=.returned (.int .i64 start)/\Q w'))
 (HX:Hid (∀W,Q W->Calls prog 324 #[.pointer (some ⟨cb,0,none⟩),.agg #[.int .i64 l,.iface t1 z1,.slice x1 n1 c1,.slice x2 n2 c2']] (W.alloc (.cells #[.int .i64 l,.iface t1 z1,.slice x1 n1 c1,.slice x2 n2 c2'] 334)) fun e w'=>e=.returned (.tuple #[])/\P w')):
 Calls prog 291 #[.pointer (some ⟨cb,0,none⟩),.iface 334 (.agg #[.int .i64 l,.iface t1 z1,.slice x1 n1 c1,.slice x2 n2 c2'])] w fun e w'=>e=.returned (.tuple #[])/\P w':=by
 have q0:=FA;have q1:=KD;have q2:=F9;have sl:=d9;have sle:=mL;go_enter Tryz.func291,Tryz.ntmps291;go_wp2_with fail;go_region_law (go_simp;first|(go_at_call 188;refine(gU l _).mono ?_;rintro e w1 ⟨rfl,rfl⟩)|(go_at_call 238;refine HQ.out.mono ?_;rintro e w2 ⟨rfl,h2⟩))
 all_goals
  have HXX:=aB (HX.out _ h2);clear h2;go_wp2_with fail;refine HXX.out.mono ?_;rintro e w3 ⟨rfl,h3⟩;go_wp2_with fail;go_end0;exact⟨rfl,h3⟩
theorem JU(w:World)(cb start:Nat)(l:Int)(p:Option Addr)(t1:TypeId)(z1:Value)(x1:Option Addr)(n1 c1:Nat)(P:World->Prop)(Q:World->Prop)(hl:cb<w.heap.size)(c2:w.cell? ⟨cb,2,none⟩=some (.pointer p))
 (HQ:Hid (Calls prog 238 #[.pointer (some ⟨cb,0,none⟩),.iface 365 (.agg #[.int .i64 l,.pointer p])] (w.drew.alloc (.cells #[.int .i64 l] 209)) fun e w'=>e=.returned (.int .i64 start)/\Q w'))
 (HX:Hid (∀W,Q W->Calls prog 325 #[.pointer (some ⟨cb,0,none⟩),.agg #[.int .i64 l,.iface t1 z1,.slice x1 n1 c1],.int .i64 start] (W.alloc (.cells #[.int .i64 l,.iface t1 z1,.slice x1 n1 c1] 336)) fun e w'=>e=.returned (.tuple #[])/\P w')):
 Calls prog 291 #[.pointer (some ⟨cb,0,none⟩),.iface 336 (.agg #[.int .i64 l,.iface t1 z1,.slice x1 n1 c1])] w fun e w'=>e=.returned (.tuple #[])/\P w':=by
 have q0:=wB;have q1:=zG;have q2:=NP;have q3:=BW;have sl:=E8;have sle:=mL;go_enter Tryz.func291,Tryz.ntmps291;go_wp2_with fail;go_region_law (go_simp;first|(go_at_call 188;refine(gU l _).mono ?_;rintro e w1 ⟨rfl,rfl⟩)|(go_at_call 238;refine HQ.out.mono ?_;rintro e w2 ⟨rfl,h2⟩))
 all_goals
  have HXX:=aB (HX.out _ h2);clear h2;go_wp2_with fail;refine HXX.out.mono ?_;rintro e w3 ⟨rfl,h3⟩;go_wp2_with fail;go_end0;exact⟨rfl,h3⟩
theorem BN(w:World)(cb start:Nat)(l:Int)(p:Option Addr)(l2:Int)(nm:ByteArray)(t1:TypeId)(z1:Value)(n:Nat)(P:World->Prop)(Q:World->Prop)(R R2:Nat->World->Prop)(hl:cb<w.heap.size)(c2:w.cell? ⟨cb,2,none⟩=some (.pointer p))
 (HQ:Hid (Calls prog 238 #[.pointer (some ⟨cb,0,none⟩),.iface 365 (.agg #[.int .i64 l,.pointer p])] (w.drew.alloc (.cells #[.int .i64 l] 209)) fun e w'=>e=.returned (.int .i64 start)/\Q w'))
 (HX:Hid (∀W,Q W->Calls prog 233 #[.pointer (some ⟨cb,0,none⟩),.iface t1 z1] (W.alloc (.cells #[.int .i64 l,.int .i64 l2,.string nm,.iface t1 z1] 329)) fun e w'=>e=.returned (.tuple #[])/\R W.heap.size w'))
 (HF:Hid (∀b W,R b W->Calls prog 290 #[.pointer (some ⟨cb,0,none⟩)] W fun e w'=>e=.returned (.int .i64 n)/\w'=W))
 (HE:Hid (∀b W,R b W->Calls prog 238 #[.pointer (some ⟨cb,0,none⟩),.iface 443 (.agg #[.int .i64 n])] W fun e w'=>(∃k:Nat,e=.returned (.int .i64 k))/\R2 b w'))
 (HB:Hid (∀b W,R2 b W->W.cell? ⟨b,2,none⟩=some (.string nm)/\b<W.heap.size))
 (HS:Hid (∀b W,R2 b W->Calls prog 236 #[.pointer (some ⟨cb,0,none⟩),.string nm] W fun e w'=>e=.returned (.tuple #[])/\P w')):
 Calls prog 291 #[.pointer (some ⟨cb,0,none⟩),.iface 329 (.agg #[.int .i64 l,.int .i64 l2,.string nm,.iface t1 z1])] w fun e w'=>e=.returned (.tuple #[])/\P w':=by
 have q0:=tG;have sl:=SH;have sle:=mL;go_enter Tryz.func291,Tryz.ntmps291;go_wp2_with fail;go_region_law (go_simp;first|(go_at_call 188;refine(gU l _).mono ?_;rintro e w1 ⟨rfl,rfl⟩)|(go_at_call 238;refine HQ.out.mono ?_;rintro e w2 ⟨rfl,h2⟩))
 all_goals
  have HXX:=aB (HX.out _ h2);generalize hb:w2.heap.size=b at HXX;clear h2;go_wp2_with fail;refine HXX.out.mono ?_;rintro e w3 ⟨rfl,h3⟩;have HFF:=aB (HF.out _ _ h3);have HEE:=aB (HE.out _ _ h3);clear h3;go_wp2_with fail;refine HFF.out.mono ?_;rintro e w4 ⟨rfl,rfl⟩;go_wp2_with fail;refine HEE.out.mono ?_;rintro e w5 ⟨⟨m,rfl⟩,h5⟩;obtain⟨d1,d2⟩:=HB.out _ _ h5;have HSS:=aB (HS.out _ _ h5);clear h5;go_wp2_with fail;refine HSS.out.mono ?_;rintro e w6 ⟨rfl,h6⟩;go_wp2_with fail;go_end0;exact⟨rfl,h6⟩
theorem EY(w:World)(cb start:Nat)(l:Int)(p:Option Addr)(nm:ByteArray)(x:Option Addr)(n c k:Nat)(t1:TypeId)(z1:Value)(P:World->Prop)(Q:World->Prop)(R R2:Nat->World->Prop)(hl:cb<w.heap.size)(c2:w.cell? ⟨cb,2,none⟩=some (.pointer p))
 (HQ:Hid (Calls prog 238 #[.pointer (some ⟨cb,0,none⟩),.iface 365 (.agg #[.int .i64 l,.pointer p])] (w.drew.alloc (.cells #[.int .i64 l] 209)) fun e w'=>e=.returned (.int .i64 start)/\Q w'))
 (HX:Hid (∀W,Q W->Calls prog 287 #[.pointer (some ⟨cb,0,none⟩),.slice x n c] (W.alloc (.cells #[.int .i64 l,.string nm,.slice x n c,.iface t1 z1] 332)) fun e w'=>e=.returned (.tuple #[])/\R W.heap.size w'))
 (HB:Hid (∀b W,R b W->W.cell? ⟨b,3,none⟩=some (.iface t1 z1)/\b<W.heap.size))
 (HY:Hid (∀b W,R b W->Calls prog 233 #[.pointer (some ⟨cb,0,none⟩),.iface t1 z1] W fun e w'=>e=.returned (.tuple #[])/\R2 b w'))
 (HB2:Hid (∀b W,R2 b W->W.cell? ⟨b,1,none⟩=some (.string nm)/\W.cell? ⟨b,2,none⟩=some (.slice x n c)/\b<W.heap.size))
 (HS:Hid (∀b W W',R2 b W->aY W W'->Calls prog 286 #[.pointer (some ⟨cb,0,none⟩),.string nm] W' fun e w'=>e=.returned (.int .i64 k)/\w'=W'))
 (HE:Hid (∀b W W',R2 b W->aY W W'->Calls prog 238 #[.pointer (some ⟨cb,0,none⟩),.iface 445 (.agg #[.int .i64 k,.int .i64 n])] W' fun e w'=>(∃k:Nat,e=.returned (.int .i64 k))/\P w')):
 Calls prog 291 #[.pointer (some ⟨cb,0,none⟩),.iface 332 (.agg #[.int .i64 l,.string nm,.slice x n c,.iface t1 z1])] w fun e w'=>e=.returned (.tuple #[])/\P w':=by
 have q0:=uL;have q1:=wF;have sl:=XH;have sle:=mL;go_enter Tryz.func291,Tryz.ntmps291;go_wp2_with fail;go_region_law (go_simp;first|(go_at_call 188;refine(gU l _).mono ?_;rintro e w1 ⟨rfl,rfl⟩)|(go_at_call 238;refine HQ.out.mono ?_;rintro e w2 ⟨rfl,h2⟩))
 all_goals
  have HXX:=aB (HX.out _ h2);generalize hb:w2.heap.size=b at HXX;clear h2;go_wp2_with fail;refine HXX.out.mono ?_;rintro e w3 ⟨rfl,h3⟩;obtain⟨d1,d2⟩:=HB.out _ _ h3;have HYY:=aB (HY.out _ _ h3);clear h3;go_wp2_with fail;refine HYY.out.mono ?_;rintro e w4 ⟨rfl,h4⟩;obtain⟨f1,f2,f3⟩:=HB2.out _ _ h4;have HH:=aB h4;clear h4;go_wp2_with fail;go_region_law (go_simp;first|(go_at_call 286;refine(HS.out _ _ _ HH.out (aY.drew _)).mono ?_;rintro e w5 ⟨rfl,rfl⟩)|(go_at_call 238;refine(HE.out _ _ _ HH.out (aY.drew _)).mono ?_;rintro e w6 ⟨⟨m,rfl⟩,h6⟩))
  all_goals
   go_wp2_with fail;go_end0;exact⟨rfl,h6⟩
end Go.Proofs.YtblbkfdhjfppkaaGreatDoor
