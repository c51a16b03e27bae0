/- Contracts of the program: the compiler's statements: the walks. -/
import Derived.Test.YtddnpoiiimjpcaaGreatDoorP25
set_option linter.defProp false
set_option maxRecDepth 100000
set_option maxHeartbeats 4000000
namespace Go.Proofs.YtddnpoiiimjpcaaGreatDoor
open _root_.Go.Proofs.Tryz
open Instr(typeAssert)
open Go.RowKit
def sT(v:aQ)(w:aH):(typeAssert (.iface 210 v) 74 210 true).run prog w=.ok (.tuple #[v,.bool true]) w:=by kernel_rfl
def tW(v:aQ)(w:aH):(typeAssert (.iface 213 v) 74 210 true).run prog w=.ok (.tuple #[.agg #[Iv0 0,Iv0 0,.string ⟨#[]⟩,.nilIface],.bool false]) w:=by kernel_rfl
def vM(v:aQ)(w:aH):(typeAssert (.iface 213 v) 74 213 true).run prog w=.ok (.tuple #[v,.bool true]) w:=by kernel_rfl
def DT(v:aQ)(w:aH):(typeAssert (.iface 217 v) 74 210 true).run prog w=.ok (.tuple #[.agg #[Iv0 0,Iv0 0,.string ⟨#[]⟩,.nilIface],.bool false]) w:=by kernel_rfl
def IN(v:aQ)(w:aH):(typeAssert (.iface 217 v) 74 213 true).run prog w=.ok (.tuple #[.agg #[Iv0 0,.string ⟨#[]⟩,bV,.nilIface],.bool false]) w:=by kernel_rfl
def B3(v:aQ)(w:aH):(typeAssert (.iface 217 v) 74 217 true).run prog w=.ok (.tuple #[v,.bool true]) w:=by kernel_rfl
def vI(v:aQ)(w:aH):(typeAssert (.iface 219 v) 74 210 true).run prog w=.ok (.tuple #[.agg #[Iv0 0,Iv0 0,.string ⟨#[]⟩,.nilIface],.bool false]) w:=by kernel_rfl
def yH(v:aQ)(w:aH):(typeAssert (.iface 219 v) 74 213 true).run prog w=.ok (.tuple #[.agg #[Iv0 0,.string ⟨#[]⟩,bV,.nilIface],.bool false]) w:=by kernel_rfl
def LV(v:aQ)(w:aH):(typeAssert (.iface 219 v) 74 217 true).run prog w=.ok (.tuple #[.agg #[Iv0 0,.nilIface,bV,bV],.bool false]) w:=by kernel_rfl
def AT(v:aQ)(w:aH):(typeAssert (.iface 219 v) 74 219 true).run prog w=.ok (.tuple #[v,.bool true]) w:=by kernel_rfl
def tV(v:aQ)(w:aH):(typeAssert (.iface 221 v) 74 210 true).run prog w=.ok (.tuple #[.agg #[Iv0 0,Iv0 0,.string ⟨#[]⟩,.nilIface],.bool false]) w:=by kernel_rfl
def vK(v:aQ)(w:aH):(typeAssert (.iface 221 v) 74 213 true).run prog w=.ok (.tuple #[.agg #[Iv0 0,.string ⟨#[]⟩,bV,.nilIface],.bool false]) w:=by kernel_rfl
def IM(v:aQ)(w:aH):(typeAssert (.iface 221 v) 74 217 true).run prog w=.ok (.tuple #[.agg #[Iv0 0,.nilIface,bV,bV],.bool false]) w:=by kernel_rfl
def yI(v:aQ)(w:aH):(typeAssert (.iface 221 v) 74 219 true).run prog w=.ok (.tuple #[.agg #[Iv0 0,.nilIface,bV],.bool false]) w:=by kernel_rfl
def vJ(v:aQ)(w:aH):(typeAssert (.iface 221 v) 74 221 true).run prog w=.ok (.tuple #[v,.bool true]) w:=by kernel_rfl
def vL(v:aQ)(w:aH):(typeAssert (.iface 222 v) 74 210 true).run prog w=.ok (.tuple #[.agg #[Iv0 0,Iv0 0,.string ⟨#[]⟩,.nilIface],.bool false]) w:=by kernel_rfl
def yK(v:aQ)(w:aH):(typeAssert (.iface 222 v) 74 213 true).run prog w=.ok (.tuple #[.agg #[Iv0 0,.string ⟨#[]⟩,bV,.nilIface],.bool false]) w:=by kernel_rfl
def LW(v:aQ)(w:aH):(typeAssert (.iface 222 v) 74 217 true).run prog w=.ok (.tuple #[.agg #[Iv0 0,.nilIface,bV,bV],.bool false]) w:=by kernel_rfl
def AU(v:aQ)(w:aH):(typeAssert (.iface 222 v) 74 219 true).run prog w=.ok (.tuple #[.agg #[Iv0 0,.nilIface,bV],.bool false]) w:=by kernel_rfl
def yJ(v:aQ)(w:aH):(typeAssert (.iface 222 v) 74 221 true).run prog w=.ok (.tuple #[.agg #[Iv0 0,.nilIface],.bool false]) w:=by kernel_rfl
def AV(v:aQ)(w:aH):(typeAssert (.iface 222 v) 74 222 true).run prog w=.ok (.tuple #[v,.bool true]) w:=by kernel_rfl
def yL(v:aQ)(w:aH):(typeAssert (.iface 224 v) 74 210 true).run prog w=.ok (.tuple #[.agg #[Iv0 0,Iv0 0,.string ⟨#[]⟩,.nilIface],.bool false]) w:=by kernel_rfl
def AX(v:aQ)(w:aH):(typeAssert (.iface 224 v) 74 213 true).run prog w=.ok (.tuple #[.agg #[Iv0 0,.string ⟨#[]⟩,bV,.nilIface],.bool false]) w:=by kernel_rfl
def QR(v:aQ)(w:aH):(typeAssert (.iface 224 v) 74 217 true).run prog w=.ok (.tuple #[.agg #[Iv0 0,.nilIface,bV,bV],.bool false]) w:=by kernel_rfl
def DU(v:aQ)(w:aH):(typeAssert (.iface 224 v) 74 219 true).run prog w=.ok (.tuple #[.agg #[Iv0 0,.nilIface,bV],.bool false]) w:=by kernel_rfl
def AW(v:aQ)(w:aH):(typeAssert (.iface 224 v) 74 221 true).run prog w=.ok (.tuple #[.agg #[Iv0 0,.nilIface],.bool false]) w:=by kernel_rfl
def DV(v:aQ)(w:aH):(typeAssert (.iface 224 v) 74 222 true).run prog w=.ok (.tuple #[.agg #[Iv0 0,.nilIface],.bool false]) w:=by kernel_rfl
def IP(v:aQ)(w:aH):(typeAssert (.iface 224 v) 74 224 true).run prog w=.ok (.tuple #[v,.bool true]) w:=by kernel_rfl
def QK(l:Int)(a b c:aQ)(w:aH):(Go.method 499 210 (.agg #[Iv0 l,a,b,c]) "Line").run prog w=.ok (145,.agg #[Iv0 l]) w:=by kernel_rfl
def VP(l:Int)(a b c:aQ)(w:aH):(Go.method 499 213 (.agg #[Iv0 l,a,b,c]) "Line").run prog w=.ok (145,.agg #[Iv0 l]) w:=by kernel_rfl
def V9(l:Int)(a b c:aQ)(w:aH):(Go.method 499 217 (.agg #[Iv0 l,a,b,c]) "Line").run prog w=.ok (145,.agg #[Iv0 l]) w:=by kernel_rfl
def A5(l:Int)(a b:aQ)(w:aH):(Go.method 499 219 (.agg #[Iv0 l,a,b]) "Line").run prog w=.ok (145,.agg #[Iv0 l]) w:=by kernel_rfl
def VO(l:Int)(a:aQ)(w:aH):(Go.method 499 221 (.agg #[Iv0 l,a]) "Line").run prog w=.ok (145,.agg #[Iv0 l]) w:=by kernel_rfl
def A6(l:Int)(a:aQ)(w:aH):(Go.method 499 222 (.agg #[Iv0 l,a]) "Line").run prog w=.ok (145,.agg #[Iv0 l]) w:=by kernel_rfl
def L1(l:Int)(a b:aQ)(w:aH):(Go.method 499 224 (.agg #[Iv0 l,a,b]) "Line").run prog w=.ok (145,.agg #[Iv0 l]) w:=by kernel_rfl
def mN(a:aQ)(w:aH):(callFunc 145 #[a]).run prog w=.ok (.enter 145 #[a]) w:=by kernel_rfl
def gY(l:Int)(w:aH):Calls prog 145 #[.agg #[Iv0 l]] w fun e a=>e=bE (Iv0 l)/\a=w.alloc (.cells #[Iv0 l] 177):=by
 go_in
 go_wp2
 go_ret;exact⟨rfl,rfl⟩
def rS(w:aH)(cb b:Nat)(l:Int)(p:Option Addr)(g:TypeId)(f:aQ)(P:World->Prop)(Q:World->Prop)(R:World->Prop)(C:cb<w.heap.size)(A:w.cell? (aL cb 2)=some (.pointer p))
 (j:Hid (Calls prog 149 #[bO cb,.iface 260 (.agg #[Iv0 l,.pointer p])] (w.drew.alloc (.cells #[Iv0 l] 177)) fun e a=>e=bE (Iv0 b)/\Q a))
 (r:Hid (∀W,Q W->Calls prog 130 #[bO cb,.iface g f] (W.alloc (.cells #[Iv0 l,.iface g f] 221)) fun e a=>e=bE (.tuple #[])/\R a))
 (q:Hid (∀W,R W->Calls prog 149 #[bO cb,.iface 258 (.agg #[])] W fun e a=>(∃k:Nat,e=bE (Iv0 k))/\P a)):
 Calls prog 190 #[bO cb,.iface 221 (.agg #[Iv0 l,.iface g f])] w fun e a=>e=bE (.tuple #[])/\P a:=by
 have u:=tV;have y:=vK;have E:=IM;have z:=yI;have B:=vJ;have x:=VO;have o:=mN;go_in
 go_wp2_with fail;go_region_law (go_simp;first|(go_at_call 145;refine(gY l _).mono ?_;rintro e t ⟨rfl,rfl⟩)|(go_at_call 149;refine j.mono ?_;rintro e D ⟨rfl,h⟩))
 all_goals
  have d:=aB (r _ h);clear h;go_wp2_with fail;refine d.mono ?_;rintro e v ⟨rfl,i⟩;have c:=aB (q _ i);clear i;go_wp2_with fail;refine c.mono ?_;rintro e s ⟨⟨m,rfl⟩,n⟩;go_wp2
  go_end0;exact⟨rfl,n⟩
def IJ(w:aH)(cb b:Nat)(l:Int)(p:Option Addr)(g:TypeId)(f:aQ)(P:World->Prop)(Q:World->Prop)(R:World->Prop)(D:cb<w.heap.size)(B:w.cell? (aL cb 2)=some (.pointer p))
 (j:Hid (Calls prog 149 #[bO cb,.iface 260 (.agg #[Iv0 l,.pointer p])] (w.drew.alloc (.cells #[Iv0 l] 177)) fun e a=>e=bE (Iv0 b)/\Q a))
 (r:Hid (∀W,Q W->Calls prog 130 #[bO cb,.iface g f] (W.alloc (.cells #[Iv0 l,.iface g f] 222)) fun e a=>e=bE (.tuple #[])/\R a))
 (q:Hid (∀W,R W->Calls prog 149 #[bO cb,.iface 335 (.agg #[])] W fun e a=>(∃k:Nat,e=bE (Iv0 k))/\P a)):
 Calls prog 190 #[bO cb,.iface 222 (.agg #[Iv0 l,.iface g f])] w fun e a=>e=bE (.tuple #[])/\P a:=by
 have u:=vL;have y:=yK;have F:=LW;have z:=AU;have C:=yJ;have A:=AV;have x:=A6;have o:=mN;go_in
 go_wp2_with fail;go_region_law (go_simp;first|(go_at_call 145;refine(gY l _).mono ?_;rintro e t ⟨rfl,rfl⟩)|(go_at_call 149;refine j.mono ?_;rintro e E ⟨rfl,h⟩))
 all_goals
  have d:=aB (r _ h);clear h;go_wp2_with fail;refine d.mono ?_;rintro e v ⟨rfl,i⟩;have c:=aB (q _ i);clear i;go_wp2_with fail;refine c.mono ?_;rintro e s ⟨⟨m,rfl⟩,n⟩;go_wp2
  go_end0;exact⟨rfl,n⟩
def LJ(w:aH)(cb b:Nat)(l:Int)(p:Option Addr)(tx:ByteArray)(x:Option Addr)(n c:Nat)(P:World->Prop)(Q:World->Prop)(R:World->Prop)(F:cb<w.heap.size)(D:w.cell? (aL cb 2)=some (.pointer p))
 (i:Hid (Calls prog 149 #[bO cb,.iface 260 (.agg #[Iv0 l,.pointer p])] (w.drew.alloc (.cells #[Iv0 l] 177)) fun e a=>e=bE (Iv0 b)/\Q a))
 (r:Hid (∀W,Q W->Calls prog 174 #[bO cb,.agg #[Iv0 l,.string tx,.slice x n c]] (W.alloc (.cells #[Iv0 l,.string tx,.slice x n c] 224)) fun e a=>e=bE (.tuple #[])/\R a))
 (q:Hid (∀W,R W->Calls prog 149 #[bO cb,.iface 336 (.agg #[])] W fun e a=>(∃k:Nat,e=bE (Iv0 k))/\P a)):
 Calls prog 190 #[bO cb,.iface 224 (.agg #[Iv0 l,.string tx,.slice x n c])] w fun e a=>e=bE (.tuple #[])/\P a:=by
 have u:=yL;have A:=AX;have H:=QR;have B:=DU;have E:=AW;have C:=DV;have z:=IP;have y:=L1;have o:=mN;go_in
 go_wp2_with fail;go_region_law (go_simp;first|(go_at_call 145;refine(gY l _).mono ?_;rintro e t ⟨rfl,rfl⟩)|(go_at_call 149;refine i.mono ?_;rintro e G ⟨rfl,g⟩))
 all_goals
  have f:=aB (r _ g);clear g;go_wp2_with fail;refine f.mono ?_;rintro e v ⟨rfl,h⟩;have d:=aB (q _ h);clear h;go_wp2_with fail;refine d.mono ?_;rintro e s ⟨⟨m,rfl⟩,j⟩;go_wp2
  go_end0;exact⟨rfl,j⟩
def FH(w:aH)(cb b:Nat)(l:Int)(p:Option Addr)(g:TypeId)(f:aQ)(j h:Option Addr)(i k c1 a:Nat)(P:World->Prop)(Q:World->Prop)(z:cb<w.heap.size)(y:w.cell? (aL cb 2)=some (.pointer p))
 (n:Hid (Calls prog 149 #[bO cb,.iface 260 (.agg #[Iv0 l,.pointer p])] (w.drew.alloc (.cells #[Iv0 l] 177)) fun e c=>e=bE (Iv0 b)/\Q c))
 (r:Hid (∀W,Q W->Calls prog 212 #[bO cb,.agg #[Iv0 l,.iface g f,.slice j i c1,.slice h k a]] (W.alloc (.cells #[Iv0 l,.iface g f,.slice j i c1,.slice h k a] 217)) fun e c=>e=bE (.tuple #[])/\P c)):
 Calls prog 190 #[bO cb,.iface 217 (.agg #[Iv0 l,.iface g f,.slice j i c1,.slice h k a])] w fun e c=>e=bE (.tuple #[])/\P c:=by
 have t:=DT;have x:=IN;have B:=B3;have v:=V9;have o:=mN;go_in
 go_wp2_with fail;go_region_law (go_simp;first|(go_at_call 145;refine(gY l _).mono ?_;rintro e s ⟨rfl,rfl⟩)|(go_at_call 149;refine n.mono ?_;rintro e A ⟨rfl,m⟩))
 all_goals
  have d:=aB (r _ m);clear m;go_wp2_with fail;refine d.mono ?_;rintro e u ⟨rfl,q⟩;go_wp2
  go_end0;exact⟨rfl,q⟩
def II(w:aH)(cb a:Nat)(l:Int)(p:Option Addr)(f:TypeId)(d:aQ)(h:Option Addr)(g c1:Nat)(P:World->Prop)(Q:World->Prop)(x:cb<w.heap.size)(v:w.cell? (aL cb 2)=some (.pointer p))
 (j:Hid (Calls prog 149 #[bO cb,.iface 260 (.agg #[Iv0 l,.pointer p])] (w.drew.alloc (.cells #[Iv0 l] 177)) fun e b=>e=bE (Iv0 a)/\Q b))
 (n:Hid (∀W,Q W->Calls prog 213 #[bO cb,.agg #[Iv0 l,.iface f d,.slice h g c1],Iv0 a] (W.alloc (.cells #[Iv0 l,.iface f d,.slice h g c1] 219)) fun e b=>e=bE (.tuple #[])/\P b)):
 Calls prog 190 #[bO cb,.iface 219 (.agg #[Iv0 l,.iface f d,.slice h g c1])] w fun e b=>e=bE (.tuple #[])/\P b:=by
 have q:=vI;have t:=yH;have z:=LV;have u:=AT;have s:=A5;have k:=mN;go_in
 go_wp2_with fail;go_region_law (go_simp;first|(go_at_call 145;refine(gY l _).mono ?_;rintro e o ⟨rfl,rfl⟩)|(go_at_call 149;refine j.mono ?_;rintro e y ⟨rfl,i⟩))
 all_goals
  have c:=aB (n _ i);clear i;go_wp2_with fail;refine c.mono ?_;rintro e r ⟨rfl,m⟩;go_wp2
  go_end0;exact⟨rfl,m⟩
def AM(w:aH)(cb c:Nat)(l:Int)(p:Option Addr)(u:Int)(f:ByteArray)(q:TypeId)(i:aQ)(n:Nat)(P:World->Prop)(Q:World->Prop)(R h:Nat->World->Prop)(S:cb<w.heap.size)(O:w.cell? (aL cb 2)=some (.pointer p))
 (v:Hid (Calls prog 149 #[bO cb,.iface 260 (.agg #[Iv0 l,.pointer p])] (w.drew.alloc (.cells #[Iv0 l] 177)) fun e a=>e=bE (Iv0 c)/\Q a))
 (E:Hid (∀W,Q W->Calls prog 130 #[bO cb,.iface q i] (W.alloc (.cells #[Iv0 l,Iv0 u,.string f,.iface q i] 210)) fun e a=>e=bE (.tuple #[])/\R W.heap.size a))
 (x:Hid (∀b W,R b W->Calls prog 189 #[bO cb] W fun e a=>e=bE (Iv0 n)/\a=W))
 (C:Hid (∀b W,R b W->Calls prog 149 #[bO cb,.iface 330 (.agg #[Iv0 n])] W fun e a=>(∃k:Nat,e=bE (Iv0 k))/\h b a))
 (y:Hid (∀b W,h b W->W.cell? (aL b 2)=some (.string f)/\b<W.heap.size))
 (A:Hid (∀b W,h b W->Calls prog 147 #[bO cb,.string f] W fun e a=>e=bE (.tuple #[])/\P a)):
 Calls prog 190 #[bO cb,.iface 210 (.agg #[Iv0 l,Iv0 u,.string f,.iface q i])] w fun e a=>e=bE (.tuple #[])/\P a:=by
 have I:=sT;have M:=QK;have z:=mN;go_in
 go_wp2_with fail;go_region_law (go_simp;first|(go_at_call 145;refine(gY l _).mono ?_;rintro e G ⟨rfl,rfl⟩)|(go_at_call 149;refine v.mono ?_;rintro e D ⟨rfl,t⟩))
 all_goals
  have d:=aB (E _ t);generalize L:D.heap.size=b at d;clear t;go_wp2_with fail;refine d.mono ?_;rintro e J ⟨rfl,r⟩;have s:=aB (x _ _ r);have g:=aB (C _ _ r);clear r;go_wp2_with fail;refine s.mono ?_;rintro e F ⟨rfl,rfl⟩;go_wp2_with fail;refine g.mono ?_;rintro e T ⟨⟨m,rfl⟩,j⟩;obtain⟨N,H⟩:=y _ _ j;have o:=aB (A _ _ j);clear j;go_wp2_with fail;refine o.mono ?_;rintro e K ⟨rfl,B⟩;go_wp2
  go_end0;exact⟨rfl,B⟩
def DS(w:aH)(cb d:Nat)(l:Int)(p:Option Addr)(h:ByteArray)(x:Option Addr)(n c k:Nat)(o:TypeId)(j:aQ)(P:World->Prop)(Q:World->Prop)(R i:Nat->World->Prop)(X:cb<w.heap.size)(V:w.cell? (aL cb 2)=some (.pointer p))
 (y:Hid (Calls prog 149 #[bO cb,.iface 260 (.agg #[Iv0 l,.pointer p])] (w.drew.alloc (.cells #[Iv0 l] 177)) fun e a=>e=bE (Iv0 d)/\Q a))
 (G:Hid (∀W,Q W->Calls prog 172 #[bO cb,.slice x n c] (W.alloc (.cells #[Iv0 l,.string h,.slice x n c,.iface o j] 213)) fun e a=>e=bE (.tuple #[])/\R W.heap.size a))
 (z:Hid (∀b W,R b W->W.cell? (aL b 3)=some (.iface o j)/\b<W.heap.size))
 (A:Hid (∀b W,R b W->Calls prog 130 #[bO cb,.iface o j] W fun e a=>e=bE (.tuple #[])/\i b a))
 (t:Hid (∀b W,i b W->W.cell? (aL b 1)=some (.string h)/\W.cell? (aL b 2)=some (.slice x n c)/\b<W.heap.size))
 (C:Hid (∀b W f,i b W->aY W f->Calls prog 171 #[bO cb,.string h] f fun e a=>e=bE (Iv0 k)/\a=f))
 (E:Hid (∀b W f,i b W->aY W f->Calls prog 149 #[bO cb,.iface 332 (.agg #[Iv0 k,Iv0 n])] f fun e a=>(∃k:Nat,e=bE (Iv0 k))/\P a)):
 Calls prog 190 #[bO cb,.iface 213 (.agg #[Iv0 l,.string h,.slice x n c,.iface o j])] w fun e a=>e=bE (.tuple #[])/\P a:=by
 have K:=tW;have T:=vM;have O:=VP;have B:=mN;go_in
 go_wp2_with fail;go_region_law (go_simp;first|(go_at_call 145;refine(gY l _).mono ?_;rintro e I ⟨rfl,rfl⟩)|(go_at_call 149;refine y.mono ?_;rintro e F ⟨rfl,u⟩))
 all_goals
  have g:=aB (G _ u);generalize N:F.heap.size=b at g;clear u;go_wp2_with fail;refine g.mono ?_;rintro e L ⟨rfl,s⟩;obtain⟨U,J⟩:=z _ _ s;have r:=aB (A _ _ s);clear s;go_wp2_with fail;refine r.mono ?_;rintro e H ⟨rfl,q⟩;obtain⟨S,Y,Z⟩:=t _ _ q;have v:=aB q;clear q;go_wp2_with fail;go_region_law (go_simp;first|(go_at_call 171;refine(C _ _ _ v (aY.drew _)).mono ?_;rintro e w5 ⟨rfl,rfl⟩)|(go_at_call 149;refine(E _ _ _ v (aY.drew _)).mono ?_;rintro e M ⟨⟨m,rfl⟩,D⟩))
  all_goals
   go_wp2
   go_end0;exact⟨rfl,D⟩
end Go.Proofs.YtddnpoiiimjpcaaGreatDoor
