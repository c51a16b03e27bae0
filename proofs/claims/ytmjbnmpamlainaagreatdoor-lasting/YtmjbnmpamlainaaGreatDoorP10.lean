/- What a program prints: the walk. -/
import Derived.Test.YtmjbnmpamlainaaGreatDoorB08
import Derived.Test.YtmjbnmpamlainaaGreatDoorP09
set_option linter.defProp false
set_option maxRecDepth 100000
set_option maxHeartbeats 4000000
namespace Go.Proofs.YtmjbnmpamlainaaGreatDoor
open _root_.Go.Proofs.Tryz
open Go.RowKit
def MQ(w:aG)(g:ByteArray)(T:Nat)(D:T<=500)(P:SV->World->Prop)(L:Nat->Nat->World->Prop)(M:Nat->World->Prop)
 (r:Hid (Calls prog 12 #[.string g,bF] w fun e b=>∃a,e=aZ (.tuple #[bH a,Iv0 0,Iv0 0])/\L 0 a b))
 (p:Hid (∀t a W,L t a W->Calls prog 42 #[bH a] W fun e b=>(t<T/\e=aZ (.bool true)/\L (t+1) a b)\/(t=T/\e=aZ (.bool false)/\M a b)))
 (h:Hid (∀a W,M a W->Calls prog 10 #[bH a] W fun e b=>∃m:SV,e=aZ m.val/\m.t=T/\m.q=1/\m.n1=0/\∀q,P m ((b.alloc (.cells m.cells 39)).drewN q))):
 Calls prog 20 #[.string g] w fun e b=>∃m:SV,e=aZ (.tuple #[.slice m.x3 m.n3 m.c3,Iv0 T,.bool true])/\P m b:=by
 go_in
 go_wp2_with fail;refine r.mono ?_;rintro e B ⟨a,rfl,k⟩;have z:=aB k;clear k r;go_wp2_with fail;go_loopg [8] (T+1) (fun gk v wr=>∃t:Nat,v=Iv0 t/\gk+t=T+1/\t<=T/\L t a wr)
 case atStart=>exact⟨0,rfl,by omega,by omega,z⟩
 case round=>
  obtain⟨t,rfl,y,A,o⟩:=hrel
  ·have c:=aB (p _ _ _ o);have E:(t:Int)<=500:=by omega
   clear o p;go_wp2_with fail;refine c.mono ?_;rintro e F (⟨i,rfl,f⟩|⟨i,rfl,f⟩)
   ·have x:=aB f;clear f c h;go_wp2
    go_roundg (gk-1)
    case measure=>omega
    case rel=>exact⟨t+1,by simp,by omega,by omega,x⟩
   ·have d:=aB (h _ _ f);unfold SV.val SV.cells at d;clear f h c;go_wp2_with fail;refine d.mono ?_;rintro e C ⟨m,rfl,s,l,u,n⟩;have j:=aB n;clear n d;subst i;rw[s,l,u] at j;rw[s,l,u];go_wp2_with fail;go_quiet (fail)
    go_wp2
    go_ret3
    exact⟨m,rfl,j _⟩
def E4(c:Int)(N:Nat)(a:0<N)(f:N<=1000)(h: -9223372036854775808<=c)(g:c<=9223372036854775807):
 ∃k:Nat,k<N/\∀w,Calls prog 5 #[Iv0 c,Iv0 N] w fun e b=>e=aZ (Iv0 k)/\b=w:=by
 have j:¬(N:Int)=0:=by omega
 by_cases p:c<0
 ·have l:wrap64 (c+1)=c+1:=by unfold wrap64;omega
  have i:wrap64 (-(c+1))= -(c+1):=by unfold wrap64;omega
  obtain⟨m,d⟩:∃m:Nat, -(c+1)=(m:Int):=⟨(-(c+1)).toNat,by omega⟩
  have n:(-(c+1)).tmod N=((m%N:Nat):Int):=by rw[d];rfl
  refine⟨m%N,Nat.mod_lt _ a,fun w=>?_⟩
  go_in
  go_wp2
  refine bodyPost_ret (v:=Iv0 ((m%N:Nat):Int)) ?_ rfl ⟨rfl,rfl⟩;have o:(c+1).tmod N= -((m%N:Nat):Int):=by rw[show c+1= -(m:Int) by omega,Int.neg_tmod];rfl
  simp[results,results5,go_sem]
 ·obtain⟨m,rfl⟩:∃m:Nat,c=(m:Int):=⟨c.toNat,by omega⟩
  refine⟨m%N,Nat.mod_lt _ a,fun w=>?_⟩
  go_in
  go_wp2
  refine bodyPost_ret (v:=Iv0 ((m%N:Nat):Int)) (by simp[results,results5,go_sem]) rfl ⟨rfl,rfl⟩
def ND(w:World)(M X:ByteArray)(tx:Option Addr)(n c:Nat)(F:Int)(B:Option Addr->World->Prop)(R:World->Prop)(I0:Nat->Nat->World->Prop)(I1:Nat->Nat->World->Prop)(I2:Nat->Nat->(List UInt8 × Nat) × Nat × Nat->World->Prop)(I3 I4:Nat->Nat->(List UInt8 × Nat) × Nat × Nat->Nat->World->Prop)(J K:Nat->Nat->(List UInt8 × Nat) × Nat × Nat->Nat->Nat->World->Prop)
 (HB:Hid (Calls prog 4 #[.string M,.slice tx n c] w fun e g=>∃p,e=.returned (.tuple #[.pointer p,.bool true])/\B p g))
 (HZ:Hid (∀p W,B p W->(p=none/\R W)\/∃d,p=some ⟨d,0,none⟩/\Calls prog 6 #[.pointer (some ⟨d,0,none⟩)] W fun e g=>∃m:Nat,e=.returned (.int .i64 m)/\m<=500/\∃u:Nat,u<=m/\Calls prog 5 #[.int .i64 F,.int .i64 ((m:Int)+1)] g fun e w2=>e=.returned (.int .i64 u)/\I0 d u w2))
 (A:Hid (∀d u W,I0 d u W->u<=500/\Calls prog 7 #[.pointer (some ⟨d,0,none⟩),.int .i64 u] W fun e g=>(∃b,e=.returned (.bool b))/\I1 d u g))
 (s:Hid (∀d u W,I1 d u W->Calls prog 8 #[.pointer (some ⟨d,0,none⟩),.string X] W fun e g=>∃r:(List UInt8 × Nat) × Nat × Nat,e=.returned (.tuple #[.string (bs r.1.1),.int .i64 r.1.2,.int .i64 r.2.1,.int .i64 r.2.2])/\I2 d u r g))
 (x:Hid (∀d u r W,I2 d u r W->Calls prog 9 #[.pointer (some ⟨d,0,none⟩),.string X] W fun e g=>∃i:Nat,e=.returned (.tuple #[.int .i64 i,.int .i64 r.2.1,.int .i64 r.2.2])/\i<=u/\(r.2.1≠0->i=0)/\I3 d u r i g))
 (y:Hid (∀d u r i W,I3 d u r i W->Calls prog 10 #[.pointer (some ⟨d,0,none⟩)] W fun e g=>∃a:SV,e=.returned a.val/\a.t=u/\I4 d u r i (g.alloc (.cells a.cells 39))))
 (l:Hid (∀d u r i W,I4 d u r i W->(r.2.1≠0->R W)/\(r.2.1=0->J d u r i u W)))
 (HJ:Hid (∀d u r i t W,J d u r i t W->(t=0\/t<i->R W)/\(∀Y,t=Y+1->i<=t->Calls prog 7 #[.pointer (some ⟨d,0,none⟩),.int .i64 Y] W fun e g=>(∃b,e=.returned (.bool b))/\K d u r i Y g)))
 (HK:Hid (∀d u r i t W,K d u r i t W->∃f:(List UInt8 × Nat) × Nat × Nat,Calls prog 8 #[.pointer (some ⟨d,0,none⟩),.string X] W fun e g=>e=.returned (.tuple #[.string (bs f.1.1),.int .i64 f.1.2,.int .i64 f.2.1,.int .i64 f.2.2])/\(decide (f.1.1=r.1.1/\f.1.2=r.1.2/\f.2.1=0)=decide (i<=t))/\J d u r i t g)):
 Calls prog 3 #[.string M,.slice tx n c,.int .i64 F,.string X] w fun e g=>e=.returned (.bool true)/\R g:=by
 go_enter func3,ntmps3;go_wp2_with fail;refine HB.out.mono ?_;rintro e w1 ⟨p,rfl,h1⟩;clear HB;rcases HZ.out _ _ h1 with ⟨rfl,hr⟩|⟨d,rfl,hl⟩
 ·have E:=aB hr;clear hr h1 HZ A s x y l HJ HK;go_wp2_with fail;go_ret;exact⟨rfl,E.out⟩
 ·have HL:=aB hl;clear hl h1 HZ;go_wp2_with fail;refine HL.out.mono ?_;rintro e w2 ⟨m,rfl,hm,u,hu,h2⟩;have HP:=aB h2;have e0:(m:Int)+1<=9223372036854775807:=by omega
  clear HL h2;go_wp2_with fail;refine HP.out.mono ?_;rintro e w3 ⟨rfl,h3⟩;obtain⟨ac,h4⟩:=A.out _ _ _ h3;have HS:=aB h4;clear HP h3 h4 e0 hm hu A;go_wp2_with fail;refine HS.out.mono ?_;rintro e w4 ⟨⟨b,rfl⟩,h5⟩;have HE:=aB (s.out _ _ _ h5);clear HS h5 s;go_wp2_with fail;refine HE.out.mono ?_;rintro e w5 ⟨r,rfl,h6⟩;have HN:=aB (x.out _ _ _ _ h6);clear HE h6 x;go_wp2_with fail;refine HN.out.mono ?_;rintro e w6 ⟨i,rfl,hi,P,h7⟩;have HW:=aB (y.out _ _ _ _ _ h7);clear HN h7 y;go_wp2_with fail;refine HW.out.mono ?_;rintro e w7 ⟨⟨z1,x1,x2,x3,k1,k2,k3,d1,d2,d3,q⟩,rfl,ht,O⟩;simp only at ht;subst ht;have L:=aB (l.out _ _ _ _ _ O);unfold SV.val;unfold SV.cells at L;clear HW O l;have e1:¬((i:Nat):Int)<0:=by omega
  have e2:¬z1<i:=by omega
  by_cases H:r.2.1=0
  ·have G:(r.2.1:Int)=0:=by omega
   have o:=aB (L.out.2 H);clear L P H;go_wp2_with fail;go_loopg [20] z1 (fun gk ab wr=>gk<=500/\ab=.int .i64 ((gk:Int)-1)/\J d z1 r i gk wr)
   case atStart=>exact⟨ac,by go_num,o.out⟩
   case round=>
    obtain⟨hg,rfl,hj⟩:=hrel;obtain⟨z,v⟩:=HJ.out _ _ _ _ _ _ hj;by_cases j:gk=0\/gk<i
    ·have E:=aB (z j);clear hj z v o G;rcases j with rfl|j
     ·go_wp2_with fail;go_ret;exact⟨rfl,E.out⟩
     ·have f1:¬((i:Int)-1<=(gk:Int)-1):=by omega
      go_wp2_with fail
      all_goals
       go_ret;exact⟨rfl,E.out⟩
    ·obtain⟨t,rfl⟩:∃t,gk=t+1:=⟨gk-1,by omega⟩
     have aa:i<=t+1:=by omega
     have I:=aB (v t rfl aa);have U:((t+1:Nat):Int)-1=(t:Int):=by omega
     rw[U];have f1:(i:Int)-1<=(t:Int):=by omega
     clear hj z v o j;go_wp2_with fail;refine I.out.mono ?_;rintro e w8 ⟨⟨b8,rfl⟩,O⟩;obtain⟨f,hE⟩:=HK.out _ _ _ _ _ _ O;have S:=aB hE;clear I O hE;go_wp2_with fail;refine S.out.mono ?_;rintro e w9 ⟨rfl,D,h9⟩;have V:=aB h9;clear S h9;by_cases k:f.1.1=r.1.1/\f.1.2=r.1.2/\f.2.1=0
     ·obtain⟨Q,C,U⟩:=k
      have N:i<=t:=by
       rw[decide_eq_true ⟨Q,C,U⟩] at D;exact of_decide_eq_true D.symm
      have f2:(i:Int)<=(t:Int):=by omega
      have T:(f.1.2:Int)=(r.1.2:Int):=by omega
      have Z:(f.2.1:Int)=0:=by omega
      clear D C U;go_wp2_with fail;go_roundg t
      case measure=>omega
      case rel=>exact⟨by omega,by go_num,V.out⟩
     ·have N:¬i<=t:=by
       rw[decide_eq_false k] at D;exact of_decide_eq_false D.symm
      have f2:¬(i:Int)<=(t:Int):=by omega
      clear D;by_cases Q:f.1.1=r.1.1
      ·by_cases C:f.1.2=r.1.2
       ·have Z:¬(f.2.1:Int)=0:=fun h=>k ⟨Q,C,by omega⟩
        have T:(f.1.2:Int)=(r.1.2:Int):=by omega
        clear k C;go_wp2_with fail;go_roundg t
        case measure=>omega
        case rel=>exact⟨by omega,by go_num,V.out⟩
       ·have T:¬(f.1.2:Int)=(r.1.2:Int):=by omega
        clear k C;go_wp2_with fail;go_roundg t
        case measure=>omega
        case rel=>exact⟨by omega,by go_num,V.out⟩
      ·have ad:¬(bs f.1.1).toList=(bs r.1.1).toList:=by rw[cE,cE];exact Q
       clear k Q;go_wp2_with fail;go_roundg t
       case measure=>omega
       case rel=>exact⟨by omega,by go_num,V.out⟩
  ·have G:¬(r.2.1:Int)=0:=by omega
   have E:=aB (L.out.1 H);obtain rfl:=P H;clear L H;go_wp2_with fail;go_ret;exact⟨rfl,E.out⟩
def bc_(a b:cD)(e d h g c f:Int)(w:aG):(binOp .neq 63 (.agg #[.string (bs a),Iv0 e,Iv0 d,Iv0 h]) (.agg #[.string (bs b),Iv0 g,Iv0 c,Iv0 f])).run prog w=.ok (.bool (!((a==b) && ((e==g) && ((d==c) && (h==f)))))) w:=by
 cases l:a==b<;>cases i:e==g<;>cases k:d==c<;>cases j:h==f<;>try (go_simp;done)
 all_goals
  simp only[beq_iff_eq] at i k j;subst i k j;go_simp;rw[cE,cE];simpa using l
def bI_(a b:cD)(e d h g c f:Int)(w:aG):(binOp .eql 63 (.agg #[.string (bs a),Iv0 e,Iv0 d,Iv0 h]) (.agg #[.string (bs b),Iv0 g,Iv0 c,Iv0 f])).run prog w=.ok (.bool ((a==b) && ((e==g) && ((d==c) && (h==f))))) w:=by
 cases l:a==b<;>cases i:e==g<;>cases k:d==c<;>cases j:h==f<;>try (go_simp;done)
 all_goals
  simp only[beq_iff_eq] at i k j;subst i k j;go_simp;rw[cE,cE];simpa using l
end Go.Proofs.YtmjbnmpamlainaaGreatDoor
