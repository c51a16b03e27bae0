/- Stacks: a session begins: the walk. -/
import Derived.Test.YtddnpoiiimjpcaaGreatDoorP21
set_option linter.defProp false
set_option maxRecDepth 100000
set_option maxHeartbeats 4000000
namespace Go.Proofs.YtddnpoiiimjpcaaGreatDoor
open Hs
open _root_.Go.Proofs.Tryz
open Go.RowKit
def o9:(prog.info? 3).map (λi=>(i.zero,i.size,i.bytes))=some (some (I_ 0),1,8):=k_
def ZJ(w:aG)(x:ByteArray)(tx:Option Addr)(c:Nat)(cs:List Value)(hn:cs.length<=17592186044416)(h1:∀v∈cs,v.oneCell'=true)(A:World->Prop)(S:Option Addr->Nat->Nat->World->Prop)(R:Option Addr->World->Prop)
 (O:Hid (Calls prog 21 #[] w λe r=>e=aX (.bool true)/\A r))
 (Y:Hid (∀W,A W->Below w.heap.size w W/\(0<cs.length->∃d,tx=some d/\d.block<w.heap.size/\∀j v,cs[j]?=some v->w.cell? (d.add j)=some v)))
 (U:Hid (∀W V g,A W->Below W.heap.size W V->V.heap[g]?=some (.cells cs.toArray 3 (0,0))->W.heap.size<=g->Calls prog 22 #[.string x,.slice (some (aI g 0)) cs.length cs.length] V λe r=>∃(p:Option Addr) (k l:Nat),e=aX (.tuple #[.pointer p,I_ k,I_ l])/\S p k l r))
 (Q:Hid (∀(p:Option Addr) (k l:Nat) W,S p k l W->(p=none↔k≠0)/\Calls prog 23 #[.string x] W λe r=>e=aX (.tuple #[I_ k,I_ l])/\R p r)):
 Calls prog 6 #[.string x,.slice tx cs.length c] w λe r=>∃p,e=aX (.tuple #[.pointer p,.bool true])/\R p r:=by
 go_in
 go_wp2_with fail;refine O.mono ?_;rintro e b ⟨rfl,D⟩;have T:=aB D;clear D O
 have E:(Instr.makeSlice 22 (I_ (cs.length:Int)) (I_ (cs.length:Int))).run prog b=.ok (.slice (some (aI b.heap.size 0)) cs.length cs.length) (b.alloc (.cells (madeCells #[I_ 0] cs.length) 3)):=by
  obtain⟨i0,hi,I,J,K⟩:=info_parts o9;have:=run_make (P:=prog) b 22 3 i0 _ underlying22 hi I .i64 .i64 cs.length cs.length o_ (Int.le_refl _) (by rw[K];omega) o_
  rw[J,jm] at this;exact this
 obtain⟨a,m,u⟩:∃a:List Value,madeCells #[Value.int .i64 0] cs.length=a.toArray/\a.length=cs.length:=⟨(madeCells #[Value.int .i64 0] cs.length).toList,s_,by simp[size_madeCells]⟩
 rw[m] at E;obtain⟨t,o⟩:=Y _ T;have s:Below b.heap.size b (b.alloc (.cells a.toArray 3)):=(eh _ _).alloc cK _;have h:(b.alloc (.cells a.toArray 3)).heap[b.heap.size]?=some (.cells a.toArray 3 (0,0)):=aN _ _ rfl _
 have i:0<cs.length->(some ⟨b.heap.size,0,none⟩:Option Addr)=some (aI b.heap.size 0)/\∃d,tx=some d/\∀j v,cs[j]?=some v->(b.alloc (.cells a.toArray 3)).cell? (d.add j)=some v:=λhp=>by
  obtain⟨d,q1,q2,q3⟩:=o hp;refine⟨rfl,d,q1,λj v hv=>?_⟩
  have y:(d.add j).block=d.block:=by unfold Addr.add;split<;>rfl
  rw[World.cell?_of_block (w:=b) (em _ _ _ (by rw[y];have:=t.size;omega)),World.cell?_of_block (w:=w) (t.block _ (by rw[y];exact q2))]
  exact q3 j v hv
 have n:(prog.info? 3).map (·.size)=some 1:=k_
 obtain⟨H,Z,z,F⟩:∃H:aG,(Builtin.copy_ #[22,22] 3 #[.slice (some (aI b.heap.size 0)) cs.length cs.length,.slice tx cs.length c]).run prog (b.alloc (.cells a.toArray 3))=.ok (goInt cs.length) H/\H.heap[b.heap.size]?=some (.cells cs.toArray 3 (0,0))/\Below b.heap.size b H:=by
  by_cases h0:cs.length=0
  ·obtain rfl:cs=[]:=gd h0;obtain rfl:a=[]:=gd u;exact⟨_,run_copy_none (P:=prog) _ 22 22 3 3 _ tx 0 0 0 c underlying22 n rfl,h,s⟩
  ·obtain⟨_,d,rfl,hs⟩:=i o_
   refine⟨_,run_copy_row (P:=prog) (b.alloc (.cells a.toArray 3)) 22 22 3 3 b.heap.size 0 cs.length cs.length d cs.length c a.toArray 3 cs underlying22 n h (Nat.min_self _).symm hs t_ h1,?_,below_setRow s cK _⟩
   have:=setRow_heap (b.alloc (.cells a.toArray 3)) b.heap.size a.toArray (a.take 0++cs++a.drop (0+cs.length)).toArray 3 _ h;simp only[List.take_zero,ip,gb,ia (jj u),ix] at this ⊢
   simpa [ia (jj u)] using this
 clear t o m i s h Y;go_wp2_with fail;have C:=aB (U _ _ _ T F z cK);clear z F E U;go_wp2_with fail;refine C.mono ?_;rintro e w3 ⟨p,k,l,rfl,X⟩;obtain⟨f,G⟩:=Q _ _ _ _ X;have B:=aB G;clear X G Q C;go_wp2_with fail;refine B.mono ?_;rintro e w4 ⟨rfl,N⟩;have L:=aB N;clear N B;by_cases M:k=0
 ·subst M
  obtain⟨q,rfl⟩:∃q,p=some q:=by
   cases p with
   |none=>exact absurd rfl (f.1 rfl)
   |some q=>exact⟨q,rfl⟩
  clear f;go_wp2
  go_ret2
  exact⟨_,rfl,L⟩
 ·obtain rfl:=f.2 M;have e0:((k:Int) != 0)=true:=t_
  clear f;go_wp2
  go_ret2
  exact⟨_,rfl,L⟩
noncomputable def bJ_(s:aU):List (cE × cE):=match s.m.f_.getLast? with
 |none=>[]
 |some f=>(lS f.e_).map λx=>(x,UZ f x)
structure Short(s:aU):Prop where
 deep:s.m.f_.length<=16
 out:s.m.out.length<=1000000
 g_:(bJ_ s).length<=1000000
 m_:s.m_<=500
def EN(a:ByteArray)(w:aG)(f:gE w)(i:a.size<=maxLen):
 Calls prog 23 #[.string a] w λe c=>Below w.heap.size w c/\((cI a.data.toList).1=0->cI a.data.toList=(0,0))/\e=aX (.tuple #[I_ (cI a.data.toList).1,I_ (cI a.data.toList).2]):=
 x6 (cI a.data.toList) a w λb g j d=>(YZ a w.heap.size b (f.below g) i j d).mono λ_ _ h=>h
def ZL(w:aG)(A:Nat->World->Prop)(B:World->Prop)
 (i:Hid (Calls prog 13 #[.string ⟨#[102,117,110,99,32,102,40,120,41,32,123,32,114,101,116,117,114,110,32,91,120,44,32,34,195,169,34,93,59,32,125,10,102,117,110,99,32,109,97,105,110,40,41,32,123,32,118,97,114,32,97,32,61,32,102,40,50,41,59,32,112,114,105,110,116,32,97,59,32,112,114,105,110,116,32,108,101,110,40,97,91,49,93,41,59,32,125]⟩] w λe a=>∃g c,e=aX (.tuple #[.slice (some (aI g 0)) 2 c,I_ 4,.bool true])/\A g a))
 (h:Hid (∀g W,A g W->Calls prog 23 #[.string ⟨#[102,117,110,99,32,109,97,105,110,40,41,32,123,10,32,112,114,105,110,116,32,120,59,32,125]⟩] W λe a=>e=aX (.tuple #[I_ 6,I_ 2])/\a.cell? (aI g 0)=some (.string ⟨#[91,50,44,32,34,195,169,34,93]⟩)/\a.cell? (aI g 1)=some (.string ⟨#[49]⟩)/\g<a.heap.size/\B a)):
 Calls prog 21 #[] w λe a=>e=aX (.bool true)/\B a:=by
 go_in
 go_wp2_with fail;refine i.mono ?_;rintro e k ⟨g,c,rfl,f⟩;have b:=aB (h _ _ f);clear f i h;go_wp2_with fail;refine b.mono ?_;rintro e n ⟨rfl,l,o,m,d⟩;have j:=aB d;clear d b;go_wp2
 go_ret;exact⟨rfl,j⟩
def S7(w:aG)(k:gE w)(q:kJ w)(d:9<=w.heap.size):Calls prog 21 #[] w λe i=>e=aX (.bool true)/\Below w.heap.size w i:=by
 refine ZL w (λg W=>Below w.heap.size w W/\W.cell? (aI g 0)=some (.string ⟨#[91,50,44,32,34,195,169,34,93]⟩)/\W.cell? (aI g 1)=some (.string ⟨#[49]⟩)/\g<W.heap.size) (λW=>Below w.heap.size w W) ?_ (λg W o=>?_)
 ·refine(QZ w ZU 4 _ VA k q d).mono ?_;rintro e i ⟨x,n,c,rfl,⟨t,s,b,f⟩,a⟩;obtain⟨g,rfl,j,h,l⟩:=f 0 s_
  obtain⟨u,m,r,_,_⟩:=f 1 s_
  cases m;simp only[Value.slice.injEq] at b;obtain⟨rfl,rfl,rfl⟩:=b;exact⟨g,_,rfl,a,j,r,l⟩
 ·obtain⟨b,f,j,h⟩:=o;refine(EN (bs ZV) W (k.below b) (by rw[gJ];decide)).mono ?_
  rintro e i ⟨a,_,rfl⟩;rw[gD,WS];exact⟨rfl,(a.cell (p:=(aI g 0)) h).trans f,(a.cell (p:=(aI g 1)) h).trans j,ej h a.size,b.trans (a.mono b.size)⟩
def LZ(w:aG)(d:cE)(tx:Option Addr)(c:Nat)(a:List Int)(H:gE w)(J:kJ w)(B:9<=w.heap.size)(hs:d.length<=140737488355328)(z:a.length<=17592186044416)(hi:∀x∈a, -9223372036854775808<=x/\x<=9223372036854775807)
 (K:0<a.length->∃I,tx=some I/\I.block<w.heap.size/\∀j v,(a.map (Value.int .i64))[j]?=some v->w.cell? (I.add j)=some v):
 Calls prog 6 #[.string (bs d),.slice tx a.length c] w λe u=>∃p,e=aX (.tuple #[.pointer p,.bool true])/\Below w.heap.size w u/\((p=none/\(cI d).1≠0)\/∃sb ks n G m s,p=some (aI sb 0)/\Good ks/\Live n G u sb m (.map #[] 0) ks a s 1 []/\s.m_=0/\w.heap.size<=sb/\w.heap.size<=m/\cW d=.ok ks/\cI d=(0,0)/\∀b,G b->Nw w b):=by
 have o:(a.map (Value.int .i64)).length=a.length:=s_
 have T:gJ d=gJ d:=rfl;rw[<-o]
 refine ZJ w (bs d) tx c (a.map (Value.int .i64)) (by rw[o];exact z) (λv C=>?_) (λW=>Below w.heap.size w W)
  (λp k l W=>Below w.heap.size w W/\cI d=(k,l)/\(p=none↔k≠0)/\(p=none\/∃sb ks n G m s,p=some (aI sb 0)/\Good ks/\Live n G W sb m (.map #[] 0) ks a s 1 []/\s.m_=0/\w.heap.size<=sb/\w.heap.size<=m/\cW d=.ok ks/\cI d=(0,0)/\∀b,G b->Nw w b))
  (λp W=>Below w.heap.size w W/\((p=none/\(cI d).1≠0)\/∃sb ks n G m s,p=some (aI sb 0)/\Good ks/\Live n G W sb m (.map #[] 0) ks a s 1 []/\s.m_=0/\w.heap.size<=sb/\w.heap.size<=m/\cW d=.ok ks/\cI d=(0,0)/\∀b,G b->Nw w b))
  (S7 w H J B) (λW D=>⟨D,λh=>K (by rw[<-o];exact h)⟩) (λW V g D hV N aa=>?_) (λp k l W hS=>?_)
 ·simp only[hQ] at C;obtain⟨x,_,rfl⟩:=C;rfl
 ·have f:Below w.heap.size w V:=D.trans (hV.mono D.size);refine(EY (bs d) (.slice (some (aI g 0)) (a.map (Value.int .i64)).length (a.map (Value.int .i64)).length) a V (H.below f) (J.below f) (by rw[gJ];omega) (d6 ⟨g,0,_,by rw[o],aD N,λi F=>⟨?_,hi _ (fi _)⟩⟩) z (λks P M=>?_)).mono ?_
  ·rw[gb];exact aA N (by simp[F])
  ·rw[gD] at P M;exact CF P M
  ·rintro e u ⟨v,rfl,r,C⟩;rw[gD] at C;have t:Below w.heap.size w u:=f.trans (r.mono f.size);have L:w.heap.size<=V.heap.size:=f.size;rcases C with ⟨y,ks,n,G,sb,m,O,rfl,q2,q3,q4,s,q5,Z,U⟩|⟨y,rfl⟩
   ·refine⟨some (aI sb 0),0,0,rfl,t,y,s_,d6 ⟨sb,ks,n,G,m,s,rfl,CF O y,⟨q5,q4,J.below t,⟨o_,o_⟩,o_,λb r=>by cases r⟩,Z,o_,o_,O,y,λb q=>(U b q).of f⟩⟩
   ·exact⟨none,_,_,rfl,t,rfl,by simpa using y,d7 rfl⟩
 ·obtain⟨r,Q,A,E⟩:=hS;refine⟨A,(EN (bs d) W (H.below r) (by rw[gJ];unfold maxLen;omega)).mono ?_⟩
  rintro e u ⟨q,_,rfl⟩;rw[gD,Q];refine⟨rfl,r.trans (q.mono r.size),?_⟩;rcases E with E|⟨sb,ks,n,G,m,s,e1,e2,e3,e4,S,e6,X,e8,Y⟩
  ·exact d7 ⟨E,A.1 E⟩
  ·exact d6 ⟨sb,ks,n,G,m,s,e1,e2,e3.but (But.below q []) oY,e4,S,e6,X,by rw[<-Q];exact e8,Y⟩
structure T0(w:aG)(ks:List aC)(tape:List Int)(sb:Nat)(W:aG)(L:List Nat)(s:aU):Prop where
 live:∃fp F mb mo n,Live fp F W sb mb mo ks tape s n L
 sb:w.heap.size<=sb
 low:Below w.heap.size w W
section
variable {w:aG} {ks:List aC} {tape:List Int} {sb:Nat} {W W':aG} {L L':List Nat} {s s':aU} {m:SV} {ab:Nat}
def T0.st(h:T0 w ks tape sb W L s):bI ks tape s.m_=some s:=by
 obtain⟨d,F,c,b,n,a⟩:=h.live;exact a.ses.now
def T0.short(c:Good ks)(h:T0 w ks tape sb W L s):Short s/\mC s.m/\(∀x∈s.m.f_,x.e_.length<=x.g_.length):=by
 obtain⟨b,g,e,i⟩:=c.sta h.st;have a:=DW c.ok c.kl tape s.m_ s h.st;refine⟨⟨b.deep,by have:=e.out;omega,?_,b.m_⟩,a,b.told⟩
 unfold bJ_;cases d:s.m.f_.getLast? with
 |none=>simp
 |some f=>
  have:=(a f (jd d)).1.2;simp[nP];omega
end
end Go.Proofs.YtddnpoiiimjpcaaGreatDoor
