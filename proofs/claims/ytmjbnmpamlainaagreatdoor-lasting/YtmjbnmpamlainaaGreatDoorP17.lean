/- Contracts of the program: the compiler's statements: the walks. -/
import Derived.Test.YtmjbnmpamlainaaGreatDoorB07
import Derived.Test.YtmjbnmpamlainaaGreatDoorP12
set_option linter.defProp false
set_option maxRecDepth 100000
set_option maxHeartbeats 4000000
namespace Go.Proofs.YtmjbnmpamlainaaGreatDoor
open _root_.Go.Proofs.Tryz
open Instr(typeAssert)
open Go.RowKit
def uX(v:aQ)(w:aG):(typeAssert (.iface 178 v) 59 178 true).run prog w=.ok (.tuple #[v,.bool true]) w:=by kernel_rfl
def wH(v:aQ)(w:aG):(typeAssert (.iface 181 v) 59 178 true).run prog w=.ok (.tuple #[.agg #[Iv0 0,Iv0 0,.string ⟨#[]⟩,.nilIface],.bool false]) w:=by kernel_rfl
def yF(v:aQ)(w:aG):(typeAssert (.iface 181 v) 59 181 true).run prog w=.ok (.tuple #[v,.bool true]) w:=by kernel_rfl
def IF(v:aQ)(w:aG):(typeAssert (.iface 185 v) 59 178 true).run prog w=.ok (.tuple #[.agg #[Iv0 0,Iv0 0,.string ⟨#[]⟩,.nilIface],.bool false]) w:=by kernel_rfl
def MK(v:aQ)(w:aG):(typeAssert (.iface 185 v) 59 181 true).run prog w=.ok (.tuple #[.agg #[Iv0 0,.string ⟨#[]⟩,bF,.nilIface],.bool false]) w:=by kernel_rfl
def U4(v:aQ)(w:aG):(typeAssert (.iface 185 v) 59 185 true).run prog w=.ok (.tuple #[v,.bool true]) w:=by kernel_rfl
def yB(v:aQ)(w:aG):(typeAssert (.iface 187 v) 59 178 true).run prog w=.ok (.tuple #[.agg #[Iv0 0,Iv0 0,.string ⟨#[]⟩,.nilIface],.bool false]) w:=by kernel_rfl
def BI(v:aQ)(w:aG):(typeAssert (.iface 187 v) 59 181 true).run prog w=.ok (.tuple #[.agg #[Iv0 0,.string ⟨#[]⟩,bF,.nilIface],.bool false]) w:=by kernel_rfl
def QB(v:aQ)(w:aG):(typeAssert (.iface 187 v) 59 185 true).run prog w=.ok (.tuple #[.agg #[Iv0 0,.nilIface,bF,bF],.bool false]) w:=by kernel_rfl
def EB(v:aQ)(w:aG):(typeAssert (.iface 187 v) 59 187 true).run prog w=.ok (.tuple #[v,.bool true]) w:=by kernel_rfl
def wG(v:aQ)(w:aG):(typeAssert (.iface 189 v) 59 178 true).run prog w=.ok (.tuple #[.agg #[Iv0 0,Iv0 0,.string ⟨#[]⟩,.nilIface],.bool false]) w:=by kernel_rfl
def yD(v:aQ)(w:aG):(typeAssert (.iface 189 v) 59 181 true).run prog w=.ok (.tuple #[.agg #[Iv0 0,.string ⟨#[]⟩,bF,.nilIface],.bool false]) w:=by kernel_rfl
def MJ(v:aQ)(w:aG):(typeAssert (.iface 189 v) 59 185 true).run prog w=.ok (.tuple #[.agg #[Iv0 0,.nilIface,bF,bF],.bool false]) w:=by kernel_rfl
def BJ(v:aQ)(w:aG):(typeAssert (.iface 189 v) 59 187 true).run prog w=.ok (.tuple #[.agg #[Iv0 0,.nilIface,bF],.bool false]) w:=by kernel_rfl
def yC(v:aQ)(w:aG):(typeAssert (.iface 189 v) 59 189 true).run prog w=.ok (.tuple #[v,.bool true]) w:=by kernel_rfl
def yE(v:aQ)(w:aG):(typeAssert (.iface 190 v) 59 178 true).run prog w=.ok (.tuple #[.agg #[Iv0 0,Iv0 0,.string ⟨#[]⟩,.nilIface],.bool false]) w:=by kernel_rfl
def BL(v:aQ)(w:aG):(typeAssert (.iface 190 v) 59 181 true).run prog w=.ok (.tuple #[.agg #[Iv0 0,.string ⟨#[]⟩,bF,.nilIface],.bool false]) w:=by kernel_rfl
def QC(v:aQ)(w:aG):(typeAssert (.iface 190 v) 59 185 true).run prog w=.ok (.tuple #[.agg #[Iv0 0,.nilIface,bF,bF],.bool false]) w:=by kernel_rfl
def EC(v:aQ)(w:aG):(typeAssert (.iface 190 v) 59 187 true).run prog w=.ok (.tuple #[.agg #[Iv0 0,.nilIface,bF],.bool false]) w:=by kernel_rfl
def BK(v:aQ)(w:aG):(typeAssert (.iface 190 v) 59 189 true).run prog w=.ok (.tuple #[.agg #[Iv0 0,.nilIface],.bool false]) w:=by kernel_rfl
def ED(v:aQ)(w:aG):(typeAssert (.iface 190 v) 59 190 true).run prog w=.ok (.tuple #[v,.bool true]) w:=by kernel_rfl
def BM(v:aQ)(w:aG):(typeAssert (.iface 192 v) 59 178 true).run prog w=.ok (.tuple #[.agg #[Iv0 0,Iv0 0,.string ⟨#[]⟩,.nilIface],.bool false]) w:=by kernel_rfl
def EF(v:aQ)(w:aG):(typeAssert (.iface 192 v) 59 181 true).run prog w=.ok (.tuple #[.agg #[Iv0 0,.string ⟨#[]⟩,bF,.nilIface],.bool false]) w:=by kernel_rfl
def VG(v:aQ)(w:aG):(typeAssert (.iface 192 v) 59 185 true).run prog w=.ok (.tuple #[.agg #[Iv0 0,.nilIface,bF,bF],.bool false]) w:=by kernel_rfl
def IG(v:aQ)(w:aG):(typeAssert (.iface 192 v) 59 187 true).run prog w=.ok (.tuple #[.agg #[Iv0 0,.nilIface,bF],.bool false]) w:=by kernel_rfl
def EE(v:aQ)(w:aG):(typeAssert (.iface 192 v) 59 189 true).run prog w=.ok (.tuple #[.agg #[Iv0 0,.nilIface],.bool false]) w:=by kernel_rfl
def II(v:aQ)(w:aG):(typeAssert (.iface 192 v) 59 190 true).run prog w=.ok (.tuple #[.agg #[Iv0 0,.nilIface],.bool false]) w:=by kernel_rfl
def ML(v:aQ)(w:aG):(typeAssert (.iface 192 v) 59 192 true).run prog w=.ok (.tuple #[v,.bool true]) w:=by kernel_rfl
def UW(l:Int)(a b c:aQ)(w:aG):(Go.method 487 178 (.agg #[Iv0 l,a,b,c]) "Line").run prog w=.ok (113,.agg #[Iv0 l]) w:=by kernel_rfl
def C1(l:Int)(a b c:aQ)(w:aG):(Go.method 487 181 (.agg #[Iv0 l,a,b,c]) "Line").run prog w=.ok (113,.agg #[Iv0 l]) w:=by kernel_rfl
def bS_(l:Int)(a b c:aQ)(w:aG):(Go.method 487 185 (.agg #[Iv0 l,a,b,c]) "Line").run prog w=.ok (113,.agg #[Iv0 l]) w:=by kernel_rfl
def S9(l:Int)(a b:aQ)(w:aG):(Go.method 487 187 (.agg #[Iv0 l,a,b]) "Line").run prog w=.ok (113,.agg #[Iv0 l]) w:=by kernel_rfl
def C0(l:Int)(a:aQ)(w:aG):(Go.method 487 189 (.agg #[Iv0 l,a]) "Line").run prog w=.ok (113,.agg #[Iv0 l]) w:=by kernel_rfl
def T0(l:Int)(a:aQ)(w:aG):(Go.method 487 190 (.agg #[Iv0 l,a]) "Line").run prog w=.ok (113,.agg #[Iv0 l]) w:=by kernel_rfl
def ab_(l:Int)(a b:aQ)(w:aG):(Go.method 487 192 (.agg #[Iv0 l,a,b]) "Line").run prog w=.ok (113,.agg #[Iv0 l]) w:=by kernel_rfl
def nW(a:aQ)(w:aG):(callFunc 113 #[a]).run prog w=.ok (.enter 113 #[a]) w:=by kernel_rfl
def iL(l:Int)(w:aG):Calls prog 113 #[.agg #[Iv0 l]] w fun e a=>e=aZ (Iv0 l)/\a=w.alloc (.cells #[Iv0 l] 153):=by
 go_in
 go_wp2
 go_ret;exact⟨rfl,rfl⟩
def tU(w:aG)(cb b:Nat)(l:Int)(p:Option Addr)(g:TypeId)(f:aQ)(P:World->Prop)(Q:World->Prop)(R:World->Prop)(C:cb<w.heap.size)(A:w.cell? (aH cb 2)=some (.pointer p))
 (j:Hid (Calls prog 117 #[bH cb,.iface 233 (.agg #[Iv0 l,.pointer p])] (w.drew.alloc (.cells #[Iv0 l] 153)) fun e a=>e=aZ (Iv0 b)/\Q a))
 (r:Hid (∀W,Q W->Calls prog 96 #[bH cb,.iface g f] (W.alloc (.cells #[Iv0 l,.iface g f] 189)) fun e a=>e=aZ (.tuple #[])/\R a))
 (q:Hid (∀W,R W->Calls prog 117 #[bH cb,.iface 231 (.agg #[])] W fun e a=>(∃k:Nat,e=aZ (Iv0 k))/\P a)):
 Calls prog 158 #[bH cb,.iface 189 (.agg #[Iv0 l,.iface g f])] w fun e a=>e=aZ (.tuple #[])/\P a:=by
 have u:=wG;have y:=yD;have E:=MJ;have z:=BJ;have B:=yC;have x:=C0;have o:=nW;go_in
 go_wp2_with fail;go_region_law (go_simp;first|(go_at_call 113;refine(iL l _).mono ?_;rintro e t ⟨rfl,rfl⟩)|(go_at_call 117;refine j.mono ?_;rintro e D ⟨rfl,h⟩))
 all_goals
  have d:=aB (r _ h);clear h;go_wp2_with fail;refine d.mono ?_;rintro e v ⟨rfl,i⟩;have c:=aB (q _ i);clear i;go_wp2_with fail;refine c.mono ?_;rintro e s ⟨⟨m,rfl⟩,n⟩;go_wp2
  go_end0;exact⟨rfl,n⟩
def MD(w:aG)(cb b:Nat)(l:Int)(p:Option Addr)(g:TypeId)(f:aQ)(P:World->Prop)(Q:World->Prop)(R:World->Prop)(D:cb<w.heap.size)(B:w.cell? (aH cb 2)=some (.pointer p))
 (j:Hid (Calls prog 117 #[bH cb,.iface 233 (.agg #[Iv0 l,.pointer p])] (w.drew.alloc (.cells #[Iv0 l] 153)) fun e a=>e=aZ (Iv0 b)/\Q a))
 (r:Hid (∀W,Q W->Calls prog 96 #[bH cb,.iface g f] (W.alloc (.cells #[Iv0 l,.iface g f] 190)) fun e a=>e=aZ (.tuple #[])/\R a))
 (q:Hid (∀W,R W->Calls prog 117 #[bH cb,.iface 314 (.agg #[])] W fun e a=>(∃k:Nat,e=aZ (Iv0 k))/\P a)):
 Calls prog 158 #[bH cb,.iface 190 (.agg #[Iv0 l,.iface g f])] w fun e a=>e=aZ (.tuple #[])/\P a:=by
 have u:=yE;have y:=BL;have F:=QC;have z:=EC;have C:=BK;have A:=ED;have x:=T0;have o:=nW;go_in
 go_wp2_with fail;go_region_law (go_simp;first|(go_at_call 113;refine(iL l _).mono ?_;rintro e t ⟨rfl,rfl⟩)|(go_at_call 117;refine j.mono ?_;rintro e E ⟨rfl,h⟩))
 all_goals
  have d:=aB (r _ h);clear h;go_wp2_with fail;refine d.mono ?_;rintro e v ⟨rfl,i⟩;have c:=aB (q _ i);clear i;go_wp2_with fail;refine c.mono ?_;rintro e s ⟨⟨m,rfl⟩,n⟩;go_wp2
  go_end0;exact⟨rfl,n⟩
def PK(w:aG)(cb b:Nat)(l:Int)(p:Option Addr)(tx:ByteArray)(x:Option Addr)(n c:Nat)(P:World->Prop)(Q:World->Prop)(R:World->Prop)(F:cb<w.heap.size)(D:w.cell? (aH cb 2)=some (.pointer p))
 (i:Hid (Calls prog 117 #[bH cb,.iface 233 (.agg #[Iv0 l,.pointer p])] (w.drew.alloc (.cells #[Iv0 l] 153)) fun e a=>e=aZ (Iv0 b)/\Q a))
 (r:Hid (∀W,Q W->Calls prog 130 #[bH cb,.agg #[Iv0 l,.string tx,.slice x n c]] (W.alloc (.cells #[Iv0 l,.string tx,.slice x n c] 192)) fun e a=>e=aZ (.tuple #[])/\R a))
 (q:Hid (∀W,R W->Calls prog 117 #[bH cb,.iface 315 (.agg #[])] W fun e a=>(∃k:Nat,e=aZ (Iv0 k))/\P a)):
 Calls prog 158 #[bH cb,.iface 192 (.agg #[Iv0 l,.string tx,.slice x n c])] w fun e a=>e=aZ (.tuple #[])/\P a:=by
 have u:=BM;have A:=EF;have H:=VG;have B:=IG;have E:=EE;have C:=II;have z:=ML;have y:=ab_;have o:=nW;go_in
 go_wp2_with fail;go_region_law (go_simp;first|(go_at_call 113;refine(iL l _).mono ?_;rintro e t ⟨rfl,rfl⟩)|(go_at_call 117;refine i.mono ?_;rintro e G ⟨rfl,g⟩))
 all_goals
  have f:=aB (r _ g);clear g;go_wp2_with fail;refine f.mono ?_;rintro e v ⟨rfl,h⟩;have d:=aB (q _ h);clear h;go_wp2_with fail;refine d.mono ?_;rintro e s ⟨⟨m,rfl⟩,j⟩;go_wp2
  go_end0;exact⟨rfl,j⟩
def KE(w:aG)(cb b:Nat)(l:Int)(p:Option Addr)(g:TypeId)(f:aQ)(j h:Option Addr)(i k c1 a:Nat)(P:World->Prop)(Q:World->Prop)(z:cb<w.heap.size)(y:w.cell? (aH cb 2)=some (.pointer p))
 (n:Hid (Calls prog 117 #[bH cb,.iface 233 (.agg #[Iv0 l,.pointer p])] (w.drew.alloc (.cells #[Iv0 l] 153)) fun e c=>e=aZ (Iv0 b)/\Q c))
 (r:Hid (∀W,Q W->Calls prog 184 #[bH cb,.agg #[Iv0 l,.iface g f,.slice j i c1,.slice h k a]] (W.alloc (.cells #[Iv0 l,.iface g f,.slice j i c1,.slice h k a] 185)) fun e c=>e=aZ (.tuple #[])/\P c)):
 Calls prog 158 #[bH cb,.iface 185 (.agg #[Iv0 l,.iface g f,.slice j i c1,.slice h k a])] w fun e c=>e=aZ (.tuple #[])/\P c:=by
 have t:=IF;have x:=MK;have B:=U4;have v:=bS_;have o:=nW;go_in
 go_wp2_with fail;go_region_law (go_simp;first|(go_at_call 113;refine(iL l _).mono ?_;rintro e s ⟨rfl,rfl⟩)|(go_at_call 117;refine n.mono ?_;rintro e A ⟨rfl,m⟩))
 all_goals
  have d:=aB (r _ m);clear m;go_wp2_with fail;refine d.mono ?_;rintro e u ⟨rfl,q⟩;go_wp2
  go_end0;exact⟨rfl,q⟩
def MC(w:aG)(cb a:Nat)(l:Int)(p:Option Addr)(f:TypeId)(d:aQ)(h:Option Addr)(g c1:Nat)(P:World->Prop)(Q:World->Prop)(x:cb<w.heap.size)(v:w.cell? (aH cb 2)=some (.pointer p))
 (j:Hid (Calls prog 117 #[bH cb,.iface 233 (.agg #[Iv0 l,.pointer p])] (w.drew.alloc (.cells #[Iv0 l] 153)) fun e b=>e=aZ (Iv0 a)/\Q b))
 (n:Hid (∀W,Q W->Calls prog 185 #[bH cb,.agg #[Iv0 l,.iface f d,.slice h g c1],Iv0 a] (W.alloc (.cells #[Iv0 l,.iface f d,.slice h g c1] 187)) fun e b=>e=aZ (.tuple #[])/\P b)):
 Calls prog 158 #[bH cb,.iface 187 (.agg #[Iv0 l,.iface f d,.slice h g c1])] w fun e b=>e=aZ (.tuple #[])/\P b:=by
 have q:=yB;have t:=BI;have z:=QB;have u:=EB;have s:=S9;have k:=nW;go_in
 go_wp2_with fail;go_region_law (go_simp;first|(go_at_call 113;refine(iL l _).mono ?_;rintro e o ⟨rfl,rfl⟩)|(go_at_call 117;refine j.mono ?_;rintro e y ⟨rfl,i⟩))
 all_goals
  have c:=aB (n _ i);clear i;go_wp2_with fail;refine c.mono ?_;rintro e r ⟨rfl,m⟩;go_wp2
  go_end0;exact⟨rfl,m⟩
def DS(w:aG)(cb c:Nat)(l:Int)(p:Option Addr)(u:Int)(f:ByteArray)(q:TypeId)(i:aQ)(n:Nat)(P:World->Prop)(Q:World->Prop)(R h:Nat->World->Prop)(S:cb<w.heap.size)(O:w.cell? (aH cb 2)=some (.pointer p))
 (v:Hid (Calls prog 117 #[bH cb,.iface 233 (.agg #[Iv0 l,.pointer p])] (w.drew.alloc (.cells #[Iv0 l] 153)) fun e a=>e=aZ (Iv0 c)/\Q a))
 (E:Hid (∀W,Q W->Calls prog 96 #[bH cb,.iface q i] (W.alloc (.cells #[Iv0 l,Iv0 u,.string f,.iface q i] 178)) fun e a=>e=aZ (.tuple #[])/\R W.heap.size a))
 (x:Hid (∀b W,R b W->Calls prog 157 #[bH cb] W fun e a=>e=aZ (Iv0 n)/\a=W))
 (C:Hid (∀b W,R b W->Calls prog 117 #[bH cb,.iface 309 (.agg #[Iv0 n])] W fun e a=>(∃k:Nat,e=aZ (Iv0 k))/\h b a))
 (y:Hid (∀b W,h b W->W.cell? (aH b 2)=some (.string f)/\b<W.heap.size))
 (A:Hid (∀b W,h b W->Calls prog 115 #[bH cb,.string f] W fun e a=>e=aZ (.tuple #[])/\P a)):
 Calls prog 158 #[bH cb,.iface 178 (.agg #[Iv0 l,Iv0 u,.string f,.iface q i])] w fun e a=>e=aZ (.tuple #[])/\P a:=by
 have I:=uX;have M:=UW;have z:=nW;go_in
 go_wp2_with fail;go_region_law (go_simp;first|(go_at_call 113;refine(iL l _).mono ?_;rintro e G ⟨rfl,rfl⟩)|(go_at_call 117;refine v.mono ?_;rintro e D ⟨rfl,t⟩))
 all_goals
  have d:=aB (E _ t);generalize L:D.heap.size=b at d;clear t;go_wp2_with fail;refine d.mono ?_;rintro e J ⟨rfl,r⟩;have s:=aB (x _ _ r);have g:=aB (C _ _ r);clear r;go_wp2_with fail;refine s.mono ?_;rintro e F ⟨rfl,rfl⟩;go_wp2_with fail;refine g.mono ?_;rintro e T ⟨⟨m,rfl⟩,j⟩;obtain⟨N,H⟩:=y _ _ j;have o:=aB (A _ _ j);clear j;go_wp2_with fail;refine o.mono ?_;rintro e K ⟨rfl,B⟩;go_wp2
  go_end0;exact⟨rfl,B⟩
def IE(w:aG)(cb d:Nat)(l:Int)(p:Option Addr)(h:ByteArray)(x:Option Addr)(n c k:Nat)(o:TypeId)(j:aQ)(P:World->Prop)(Q:World->Prop)(R i:Nat->World->Prop)(X:cb<w.heap.size)(V:w.cell? (aH cb 2)=some (.pointer p))
 (y:Hid (Calls prog 117 #[bH cb,.iface 233 (.agg #[Iv0 l,.pointer p])] (w.drew.alloc (.cells #[Iv0 l] 153)) fun e a=>e=aZ (Iv0 d)/\Q a))
 (G:Hid (∀W,Q W->Calls prog 128 #[bH cb,.slice x n c] (W.alloc (.cells #[Iv0 l,.string h,.slice x n c,.iface o j] 181)) fun e a=>e=aZ (.tuple #[])/\R W.heap.size a))
 (z:Hid (∀b W,R b W->W.cell? (aH b 3)=some (.iface o j)/\b<W.heap.size))
 (A:Hid (∀b W,R b W->Calls prog 96 #[bH cb,.iface o j] W fun e a=>e=aZ (.tuple #[])/\i b a))
 (t:Hid (∀b W,i b W->W.cell? (aH b 1)=some (.string h)/\W.cell? (aH b 2)=some (.slice x n c)/\b<W.heap.size))
 (C:Hid (∀b W f,i b W->aV W f->Calls prog 127 #[bH cb,.string h] f fun e a=>e=aZ (Iv0 k)/\a=f))
 (E:Hid (∀b W f,i b W->aV W f->Calls prog 117 #[bH cb,.iface 311 (.agg #[Iv0 k,Iv0 n])] f fun e a=>(∃k:Nat,e=aZ (Iv0 k))/\P a)):
 Calls prog 158 #[bH cb,.iface 181 (.agg #[Iv0 l,.string h,.slice x n c,.iface o j])] w fun e a=>e=aZ (.tuple #[])/\P a:=by
 have K:=wH;have T:=yF;have O:=C1;have B:=nW;go_in
 go_wp2_with fail;go_region_law (go_simp;first|(go_at_call 113;refine(iL l _).mono ?_;rintro e I ⟨rfl,rfl⟩)|(go_at_call 117;refine y.mono ?_;rintro e F ⟨rfl,u⟩))
 all_goals
  have g:=aB (G _ u);generalize N:F.heap.size=b at g;clear u;go_wp2_with fail;refine g.mono ?_;rintro e L ⟨rfl,s⟩;obtain⟨U,J⟩:=z _ _ s;have r:=aB (A _ _ s);clear s;go_wp2_with fail;refine r.mono ?_;rintro e H ⟨rfl,q⟩;obtain⟨S,Y,Z⟩:=t _ _ q;have v:=aB q;clear q;go_wp2_with fail;go_region_law (go_simp;first|(go_at_call 127;refine(C _ _ _ v (aV.drew _)).mono ?_;rintro e w5 ⟨rfl,rfl⟩)|(go_at_call 117;refine(E _ _ _ v (aV.drew _)).mono ?_;rintro e M ⟨⟨m,rfl⟩,D⟩))
  all_goals
   go_wp2
   go_end0;exact⟨rfl,D⟩
end Go.Proofs.YtmjbnmpamlainaaGreatDoor
