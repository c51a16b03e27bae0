/- Contracts of the program: Over, Out, BackOver, Go, GoBack, Back. -/
import Derived.Test.YtlflgmdcghfngaaGreatDoorB10
import Derived.Test.YtlflgmdcghfngaaGreatDoorP29
import Derived.Test.YtlflgmdcghfngaaGreatDoorP30
import Derived.Test.YtlflgmdcghfngaaGreatDoorP27
set_option linter.defProp false
set_option maxRecDepth 100000
set_option maxHeartbeats 4000000
namespace Go.Proofs.YtlflgmdcghfngaaGreatDoor
open Hs
open _root_.Go.Proofs.Tryz
open Go.RowKit
section
variable {fp:eK} {F:bY} {w:aG} {sb mb n:Nat} {mo:Obj} {ks:List aE} {tape:List Int} {s:aW} {L:List Nat}
def Live.made(h:Live fp F w sb mb mo ks tape s n L){W:aG}(a:Below w.heap.size w W)(M:List Nat)(c:∀b∈M,w.heap.size<=b/\b<W.heap.size):Live fp F W sb mb mo ks tape s n (M++L):=
 h.freshL (h.but (But.below a []) nY) (a.block _ h.ses.lt) M c
def nB.made{T:aW->Bool->Prop}{W w':aG}{b:Bool}{M:List Nat}(h:nB fp sb mb mo ks tape (M++L) T W b w')(a:Below w.heap.size w W)(i:sb<w.heap.size):nB fp sb mb mo ks tape L T w b w':=by
 obtain⟨G,c,f,e,d,g⟩:=h;exact⟨G,c,f,e.drop λb a=>fq _ a,d,(FS.of_below a i).trans g⟩
def z8(o:Good ks)(c:tape.length<=17592186044416)(h:Live fp F w sb mb mo ks tape s n L):
 Calls prog 15 #[aZ sb] w λe g=>∃b,e=aX (.bool b)/\nB fp sb mb mo ks tape L (QG (bT ks tape) (shallow s.m.f_.length) s) w b g:=by
 obtain⟨t,f,q,l,v,p,x,_⟩:=h.ses.cells;refine N8 w sb t _ h.ses.lt q l v p x λi j W a r m k d=>?_
 rw[f.deep] at d;refine(pA o c (h.made a [i,j] λb a=>by simp at a;rcases a with rfl|rfl;exact⟨r,aC k⟩;exact⟨m,aC d⟩) i s_ k _ 69 #[] _ PU (sY j _ s_ d)).mono ?_
 rintro e g ⟨b,rfl,u⟩;exact⟨b,rfl,u.made a h.ses.lt⟩
def bA_(o:Good ks)(c:tape.length<=17592186044416)(h:Live fp F w sb mb mo ks tape s n L):
 Calls prog 16 #[aZ sb] w λe g=>∃b,e=aX (.bool b)/\nB fp sb mb mo ks tape L (QG (bT ks tape) (shallow (IntKind.i64.wrap ((s.m.f_.length:Int)-1))) s) w b g:=by
 obtain⟨t,f,q,l,v,p,x,_⟩:=h.ses.cells;refine aa_ w sb t _ h.ses.lt q l v p x λi j W a r m k d=>?_
 rw[f.deep] at d;refine(pA o c (h.made a [i,j] λb a=>by simp at a;rcases a with rfl|rfl;exact⟨r,aC k⟩;exact⟨m,aC d⟩) i s_ k _ 69 #[] _ PU (sY j _ s_ d)).mono ?_
 rintro e g ⟨b,rfl,u⟩;exact⟨b,rfl,u.made a h.ses.lt⟩
def QB(o:Good ks)(c:tape.length<=17592186044416)(h:Live fp F w sb mb mo ks tape s n L):
 Calls prog 17 #[aZ sb] w λe g=>∃b,e=aX (.bool b)/\nB fp sb mb mo ks tape L (Z4 (bT ks tape) (shallow s.m.f_.length) s) w b g:=by
 obtain⟨t,f,q,l,v,p,x,_⟩:=h.ses.cells;refine KR w sb t _ h.ses.lt q l v p x λi j W a r m k d=>?_
 rw[f.deep] at d;refine(pO o c (h.made a [i,j] λb a=>by simp at a;rcases a with rfl|rfl;exact⟨r,aC k⟩;exact⟨m,aC d⟩) i s_ k _ 69 #[] _ PU (sY j _ s_ d)).mono ?_
 rintro e g ⟨b,rfl,u⟩;exact⟨b,rfl,u.made a h.ses.lt⟩
def Y9(g:Good ks)(c:tape.length<=17592186044416)(h:Live fp F w sb mb mo ks tape s n L):
 Calls prog 14 #[aZ sb] w λe d=>∃b,e=aX (.bool b)/\nB fp sb mb mo ks tape L (Z4 (bT ks tape) (λ_=>true) s) w b d:=by
 have a:Below w.heap.size w (w.alloc (.cells #[aZ sb] 24)):=(eh _ w).alloc cL _;refine Y8 sb w _ ((pO g c (h.made a [w.heap.size] λb a=>by simp at a;subst a;simp) w.heap.size s_ (aN _ _ rfl _) (λ_=>true) 37 #[] #[] G9 λF n L W v i _ _ _ _ _=>xT v W).mono ?_)
 rintro e d ⟨b,rfl,f⟩;exact⟨b,rfl,f.made a h.ses.lt⟩
end
def b5_(sb:Nat)(w:aG)(P:Bool->World->Prop)
 (d:Hid (Calls prog 35 #[aZ sb,.func (.func 65) #[] #[aZ w.heap.size],.func (.func 41) #[aZ sb] #[]] (w.alloc (.cells #[aZ sb] 24)) λe c=>∃b,e=aX (.bool b)/\P b c)):
 Calls prog 18 #[aZ sb] w λe c=>∃b,e=aX (.bool b)/\P b c:=by
 have g:=aB (tY sb w);have i:∀(a:aQ) (w:aG),(Instr.makeFunc (.func 41) #[a] #[]).run prog w=.ok (.func (.func 41) #[a] #[]) w:=λ_ _=>rfl
 go_in
 go_wp2_with fail;refine g.mono ?_;rintro e j ⟨rfl,rfl⟩;clear g;go_wp2_with fail;refine d.mono ?_;rintro e k ⟨b,rfl,f⟩;have h:=aB f;clear f d;go_wp2
 go_ret;exact⟨b,rfl,h⟩
def TQ(sb:Nat)(w:aG)(P:Bool->World->Prop)
 (d:Hid (Calls prog 35 #[aZ sb,.func (.func 66) #[] #[aZ w.heap.size],.func (.func 41) #[aZ sb] #[]] (w.alloc (.cells #[aZ sb] 24)) λe c=>∃b,e=aX (.bool b)/\P b c)):
 Calls prog 19 #[aZ sb] w λe c=>∃b,e=aX (.bool b)/\P b c:=by
 have g:=aB (pF sb w);have i:∀(a:aQ) (w:aG),(Instr.makeFunc (.func 41) #[a] #[]).run prog w=.ok (.func (.func 41) #[a] #[]) w:=λ_ _=>rfl
 go_in
 go_wp2_with fail;refine g.mono ?_;rintro e j ⟨rfl,rfl⟩;clear g;go_wp2_with fail;refine d.mono ?_;rintro e k ⟨b,rfl,f⟩;have h:=aB f;clear f d;go_wp2
 go_ret;exact⟨b,rfl,h⟩
section
variable {fp:eK} {F:bY} {w:aG} {sb mb n:Nat} {mo:Obj} {ks:List aE} {tape:List Int} {s:aW} {L:List Nat} {m:Bps}
def cR_(j:Good ks)(g:tape.length<=17592186044416)(h:Live fp F w sb mb mo ks tape s n L)(c:QN L w mo m):
 Calls prog 18 #[aZ sb] w λe i=>∃b,e=aX (.bool b)/\nB fp sb mb mo ks tape L (QG (bT ks tape) (FZ m) s) w b i:=by
 have a:Below w.heap.size w (w.alloc (.cells #[aZ sb] 24)):=(eh _ w).alloc cL _;have d:=c.keep (L':=[w.heap.size]++L) (λb f=>a.block b (h.loc b f).2.1) a.size λb a=>fq _ a
 refine b5_ sb w _ ((pA j g (h.made a [w.heap.size] λb a=>by simp at a;subst a;simp) w.heap.size s_ (aN _ _ rfl _) (FZ m) 41 _ #[] G8 (TZ j d)).mono ?_)
 rintro e i ⟨b,rfl,c⟩;exact⟨b,rfl,c.made a h.ses.lt⟩
def TR(j:Good ks)(g:tape.length<=17592186044416)(h:Live fp F w sb mb mo ks tape s n L)(c:QN L w mo m):
 Calls prog 19 #[aZ sb] w λe i=>∃b,e=aX (.bool b)/\nB fp sb mb mo ks tape L (Z4 (bT ks tape) (FZ m) s) w b i:=by
 have a:Below w.heap.size w (w.alloc (.cells #[aZ sb] 24)):=(eh _ w).alloc cL _;have d:=c.keep (L':=[w.heap.size]++L) (λb f=>a.block b (h.loc b f).2.1) a.size λb a=>fq _ a
 refine TQ sb w _ ((pO j g (h.made a [w.heap.size] λb a=>by simp at a;subst a;simp) w.heap.size s_ (aN _ _ rfl _) (FZ m) 41 _ #[] G8 (TZ j d)).mono ?_)
 rintro e i ⟨b,rfl,c⟩;exact⟨b,rfl,c.made a h.ses.lt⟩
def DA(src:cC):Except (Nat × Nat) (Option aE):=if src=[] then .ok none else match iQ src with
 |.error f=>.error f
 |.ok A=>.ok (some A)
def Y4(h:Live fp F w sb mb mo ks tape s n L)(hm:QN L w mo m)(hT:fX w)(q:Int)(g:ByteArray)(hl:g.size<=281474976710656):
 Calls prog 20 #[aZ sb,I_ q,.string g] w λe u=>∃k l:Nat,e=aX (.tuple #[I_ k,I_ l])/\
  ((k≠0/\DA g.data.toList=.error (k,l)/\Below w.heap.size w u)\/(k=0/\l=0/\∃o x C,DA g.data.toList=.ok o/\Live fp F u sb mb x ks tape s n C/\QN C u x (XL q o m)/\(∃N,C=N++L/\∀b∈N,w.heap.size<=b)/\But [mb] w u)):=by
 have K:=h.ses.lt;obtain⟨T,i,l0,rfl,hE,hB⟩:=hm;have Z:=aC h.ses.map.1;refine C1 w sb mb q g (λk l u=>(k≠0/\DA g.data.toList=.error (k,l)/\Below w.heap.size w u)\/(k=0/\l=0/\∃o x C,DA g.data.toList=.ok o/\Live fp F u sb mb x ks tape s n C/\QN C u x (XL q o m)/\(∃N,C=N++L/\∀b∈N,w.heap.size<=b)/\But [mb] w u)) ?_
 show Calls _ _ _ _ _
 have H:∀(W:aG) (v:aQ) (o:Option aE),Below w.heap.size w W->tL (List.range' w.heap.size (W.heap.size-w.heap.size)) W v o->DA g.data.toList=.ok o->sb<W.heap.size/\W.cell? (aH sb 6)=some (.map (some mb))/\∃T i r d,W.heap[mb]?=some (.map T i)/\(∀(mb:Nat) (V:aG),V.heap[mb]?=some (.map T i)->(Instr.mapUpdate 57 (.map (some mb)) (I_ q) (.agg #[v])).run prog V=.ok () (V.putObj mb (.map r d)))/\
  ∀V,aU ((W.alloc (.cells #[v] 90)).putObj mb (.map r d)) V->((0:Nat)≠0/\DA g.data.toList=.error (0,0)/\Below w.heap.size w V)\/((0:Nat)=0/\(0:Nat)=0/\∃o x C,DA g.data.toList=.ok o/\Live fp F V sb mb x ks tape s n C/\QN C V x (XL q o m)/\(∃N,C=N++L/\∀b∈N,w.heap.size<=b)/\But [mb] w V):=by
  intro W v o p hN G;obtain⟨r,d,aa,Y⟩:=r8 (clock:=i) hE q v;have ab:=(World.cell?_of_block (p.block sb K)).trans h.ses.cell6;refine⟨ej K p.size,ab,T,i,r,d,(p.block mb Z).trans h.ses.map.1,aa,λV D=>d6 ⟨rfl,rfl,o,.map r d,List.range' w.heap.size (W.heap.size-w.heap.size)++L,G,?_,?_,⟨_,rfl,λb p=>(js.1 p).1⟩,?_⟩⟩
  ·have I:=h.made p (List.range' w.heap.size (W.heap.size-w.heap.size)) λb j=>by
    rw[js] at j;have:=p.size;omega
   have h2:=(I.but (L':=[]) (But.alloc W (.cells #[v] 90) []) nY).remap (.map r d);exact h2.keep [] nY (by rw[D.heap];exact en _) λk _ _=>by rw[D.heap]
  ·have O:∀b,b<W.heap.size->b≠mb->V.heap[b]?=W.heap[b]?:=λb B y=>by
    rw[D.heap];exact(World.putObj_heap_other y).trans (ek _ _ _ B)
   have M:W.heap.size<=V.heap.size:=by rw[D.heap];simp
   refine⟨r,d,_,rfl,Y,KV.put ?_ (KV.keep (λb j=>?_) (em p.size M) (λb p=>fq _ p) hB)⟩
   ·refine hN.keep (λb j=>O b ?_ ?_) M λb p=>fk _ p
    ·rw[js] at j;have:=p.size;omega
    ·rw[js] at j;omega
   ·obtain⟨_,y,_,_,_,q6⟩:=h.loc b j;rw[O b (ej y p.size) q6,p.block b y]
  ·have P:But [mb] w ((W.alloc (.cells #[v] 90)).putObj mb (.map r d)):=by
    have:=((But.below p []).trans (But.alloc W (.cells #[v] 90) [])).trans (But.put _ mb (.map r d));simpa using this
   exact⟨D.os.trans P.os,D.tape.trans P.tape,D.output.trans P.output,by rw[D.heap];exact P.size,λk B y=>by rw[D.heap];exact P.blk k B y⟩
 by_cases Q:g.data.toList=[]
 ·obtain rfl:g=⟨#[]⟩:=by
   obtain⟨⟨l⟩⟩:=g;simp at Q;subst Q;rfl
  refine(RZ w).mono ?_;rintro e u ⟨rfl,p⟩;exact⟨.nilIface,0,0,rfl,d7 rfl,λh=>absurd rfl h,λ_=>H u .nilIface none p rfl (by unfold DA;rw[if_pos Q])⟩
 ·have G:DA g.data.toList=match iQ g.data.toList with|.error f=>.error f|.ok A=>.ok (some A):=by unfold DA;rw[if_neg Q]
  have U:g.toList.isEmpty=false:=by
   rw[show g=bs g.data.toList from rfl,cI]
   cases hq:g.data.toList with
   |nil=>exact absurd hq Q
   |cons a l=>rfl
  refine(RY w g (λv k l W=>(k≠0/\DA g.data.toList=.error (k,l)/\Below w.heap.size w W/\v=.nilIface)\/(k=0/\∃o,Below w.heap.size w W/\tL (List.range' w.heap.size (W.heap.size-w.heap.size)) W v o/\DA g.data.toList=.ok o)) U hl λW p E=>(qJ g W (hT.below p) (by unfold maxLen;omega)).mono ?_).mono ?_
  ·rintro e u ⟨j,⟨f,B,y,rfl⟩|⟨A,t,z,B,rfl,y⟩⟩
   ·have J:Below w.heap.size w u:=p.trans (j.mono p.size);exact⟨.nilIface,f.1,f.2,rfl,d7 rfl,rfl,(j.block _ (aC E)).trans E,d7 ⟨y,by rw[G,B],J.setCell cL _,rfl⟩⟩
   ·have J:Below w.heap.size w u:=p.trans (j.mono p.size);have X:=aC E;have ac:=j.size;refine⟨.iface t z,0,0,rfl,d6 ⟨t,z,rfl⟩,rfl,(j.block _ X).trans E,d6 ⟨rfl,some A,J.setCell cL _,⟨t,z,W.heap.size,u.heap.size,rfl,uA B,s_,y.grow (λk a _=>ei _ _ _ _ (by show k≠w.heap.size;omega)) cL cL,λb a c=>?_⟩,by rw[G,B]⟩⟩
    rw[js];simp only[World.size_setCell];omega
  ·rintro e u ⟨v,k,l,rfl,⟨B,y,S,rfl⟩|⟨rfl,o,B,y,S⟩⟩
   ·exact⟨.nilIface,k,l,rfl,d7 rfl,λ_=>d7 ⟨B,y,S.alloc S.size _⟩,λh=>absurd h B⟩
   ·exact⟨v,0,l,rfl,y.form,λh=>absurd rfl h,λ_=>H u v o B y S⟩
def X2(h:Live fp F w sb mb mo ks tape s n L)(G:QN L w mo m)(d:Int):
 Calls prog 21 #[aZ sb,I_ d] w λe k=>e=aX (.bool (AR m d).isSome)/\∃i,Live fp F k sb mb i ks tape s n L/\QN L k i (W9 d m)/\But [mb] w k:=by
 have p:=h.ses.lt;obtain⟨D,f,l,rfl,y,B⟩:=G;have E:=aC h.ses.map.1;obtain⟨g,u,q⟩:=r9 (clock:=f) y d;have r:=yX h.ses.map.1 y d
 have A:((nF l d).getD .nilIface=.nilIface\/∃t z,(nF l d).getD .nilIface=.iface t z)/\(nF l d).isSome=(AR m d).isSome:=by
  rcases B.look d with ⟨a,b⟩|⟨v,o,a,b,c⟩
  ·rw[a,b];exact⟨d7 rfl,rfl⟩
  ·rw[a,b];exact⟨c.form,rfl⟩
 rw[<-A.2]
 have j:But [mb] w ((w.alloc (.cells #[(nF l d).getD .nilIface] 90)).putObj mb (.map g f)):=by
  have:=(But.alloc w (.cells #[(nF l d).getD .nilIface] 90) []).trans (But.put _ mb (.map g f));simpa using this
 refine A9 w sb mb f D g d _ _ (λk=>∃i,Live fp F k sb mb i ks tape s n L/\QN L k i (W9 d m)/\But [mb] w k) p h.ses.cell6 A.1 h.ses.map.1 r u ⟨.map g f,(h.but (L':=[]) (But.alloc w _ []) nY).remap _,⟨g,f,_,rfl,q,KV.del (KV.keep (λb x=>?_) j.size dP B)⟩,j⟩
 obtain⟨_,H,_,_,_,C⟩:=h.loc b x;exact j.blk b H (by simpa using C)
end
attribute [local go_sem] Oper.semAt_some
def NN(sb:Nat)(a:Int)(src:ByteArray):List (Nat × Array Value):=
 [(7,#[aZ sb,I_ a]),(13,#[aZ sb]),(14,#[aZ sb]),(15,#[aZ sb]),
  (16,#[aZ sb]),(17,#[aZ sb]),(18,#[aZ sb]),(19,#[aZ sb]),
  (20,#[aZ sb,I_ a,.string src]),(21,#[aZ sb,I_ a]),(9,#[aZ sb,.string src]),(22,#[aZ sb,.string src]),(6,#[aZ sb])]
def YJ(w:aG)(sb:Nat)(k a:Int)(b:ByteArray)(I:World->Prop)(g:I (w.alloc (.cells #[I_ k,I_ a,.string b] 29)))
 (i:Hid (∀l c,(l,c)∈NN sb a b->Calls prog l c (w.alloc (.cells #[I_ k,I_ a,.string b] 29)) λe d=>(∃v,e=aX v)/\I d)):
 Calls prog 5 #[aZ sb,.agg #[I_ k,I_ a,.string b]] w λe d=>e=aX (.tuple #[])/\I d:=by
 have f:=aB g;clear g;by_cases h:1<=k/\k<=13
 ·have:k=1\/k=2\/k=3\/k=4\/k=5\/k=6\/k=7\/k=8\/k=9\/k=10\/k=11\/k=12\/k=13:=o_
  clear h f;rcases this with rfl|rfl|rfl|rfl|rfl|rfl|rfl|rfl|rfl|rfl|rfl|rfl|rfl
  all_goals
   go_in
   go_wp2_with fail;refine(i _ _ (by simp[NN])).mono ?_
   rintro e r ⟨⟨v,rfl⟩,j⟩;have q:=aB j;clear j i;go_wp2
   go_end0;exact⟨rfl,q⟩
 ·have B:¬k=1:=o_
  have C:¬k=2:=o_
  have t:¬k=3:=o_
  have u:¬k=4:=o_
  have s:¬k=5:=o_
  have y:¬k=6:=o_
  have z:¬k=7:=o_
  have A:¬k=8:=o_
  have x:¬k=9:=o_
  have m:¬k=10:=o_
  have n:¬k=11:=o_
  have o:¬k=12:=o_
  have p:¬k=13:=o_
  clear h;go_in
  go_wp2
  go_end0;exact⟨rfl,f⟩
def QT(w:World)(y U:ByteArray)(tx ox:Option Addr)(n c m oc:Nat)(op:Nat->Int × Int × ByteArray)(B:Option Addr->World->Prop)(R:World->Prop)(I:Nat->Nat->World->Prop)(A:Nat->SV->Nat->World->Prop)(A2 A3:Nat->SV->Nat->Nat->World->Prop)(A4:Nat->SV->Nat->Nat->SV->Nat->World->Prop)(A5:Nat->Nat->World->Prop)(hm:m<=1000000000000000)
 (HB:Hid (Calls prog 4 #[.string y,.slice tx n c] w λe d=>∃p,e=.returned (.tuple #[.pointer p,.bool true])/\B p d))
 (M:Hid (∀p W,B p W->(p=none/\R W)\/∃sb,p=some ⟨sb,0,none⟩/\I sb 0 W))
 (Q:Hid (∀sb i W,I sb i W->i<m->∃h,ox=some h/\h.block<W.heap.size/\W.cell? (h.add (i*3))=some (.int .i64 (op i).1)/\W.cell? ((h.add (i*3)).add 1)=some (.int .i64 (op i).2.1)/\W.cell? ((h.add (i*3)).add 2)=some (.string (op i).2.2)/\
   Calls prog 5 #[.pointer (some ⟨sb,0,none⟩),.agg #[.int .i64 (op i).1,.int .i64 (op i).2.1,.string (op i).2.2]] W λe d=>e=.returned (.tuple #[])/\I sb (i+1) d))
 (S:Hid (∀sb W,I sb m W->Calls prog 6 #[.pointer (some ⟨sb,0,none⟩)] W λe d=>∃a:SV,e=.returned a.val/\A sb a d.heap.size (d.alloc (.cells a.cells 35))))
 (L:Hid (∀sb a g W,A sb a g W->Calls prog 4 #[.string y,.slice tx n c] W λe d=>∃f,e=.returned (.tuple #[.pointer (some ⟨f,0,none⟩),.bool true])/\A2 sb a g f d))
 (x:Hid (∀sb a g f W,A2 sb a g f W->W.heap[g]?=some (.cells a.cells 35 (0,0))/\Calls prog 7 #[.pointer (some ⟨f,0,none⟩),.int .i64 a.t] W λe d=>e=.returned (.bool true)/\A3 sb a g f d))
 (z:Hid (∀sb a g f W,A3 sb a g f W->Calls prog 6 #[.pointer (some ⟨f,0,none⟩)] W λe d=>∃b:SV,e=.returned b.val/\A4 sb a g f b d.heap.size (d.alloc (.cells b.cells 35))))
 (r:Hid (∀sb a g f b bb W,A4 sb a g f b bb W->W.heap[g]?=some (.cells a.cells 35 (0,0))/\W.heap[bb]?=some (.cells b.cells 35 (0,0))/\Calls prog 8 #[a.val,b.val] W λe d=>e=.returned (.bool true)/\A5 sb f d))
 (v:Hid (∀sb f W,A5 sb f W->∃(t:List UInt8) (s k l:Nat),Calls prog 9 #[.pointer (some ⟨sb,0,none⟩),.string U] W λe d=>e=.returned (.tuple #[.string (bs t),.int .i64 s,.int .i64 k,.int .i64 l])/\
   Calls prog 9 #[.pointer (some ⟨f,0,none⟩),.string U] d λe d=>e=.returned (.tuple #[.string (bs t),.int .i64 s,.int .i64 k,.int .i64 l])/\R d)):
 Calls prog 3 #[.string y,.slice tx n c,.slice ox m oc,.string U] w λe d=>e=.returned (.bool true)/\R d:=by
 go_enter func3,ntmps3;go_wp2_with fail;refine HB.out.mono ?_;rintro e w1 ⟨p,rfl,X⟩;clear HB;rcases M.out _ _ X with ⟨rfl,hr⟩|⟨sb,rfl,hi⟩
 ·have Y:=aB hr;clear hr X M Q S L x z r v;go_wp2_with fail;go_ret;exact⟨rfl,Y.out⟩
 ·have N:=aB hi;clear hi X M;go_wp2_with fail;go_loopg [11] m (λgk i wr=>∃k:Nat,i=.int .i64 k/\gk+k=m/\I sb k wr)
  case atStart=>exact⟨0,rfl,rfl,N.out⟩
  case round=>
   obtain⟨k,rfl,O,K⟩:=hrel;by_cases P:k<m
   ·obtain⟨V,rfl⟩:∃V,gk=V+1:=⟨gk-1,o_⟩
    obtain⟨h,rfl,hl,c0,H,E,hM⟩:=Q.out _ _ _ K P;have c1:wr.cell? ⟨(h.add (k*3)).block,(h.add (k*3)).off+1,none⟩=_:=H;have c2:wr.cell? ⟨(h.add (k*3)).block,(h.add (k*3)).off+2,none⟩=_:=E;have HM:=aB hM;have e1:(k:Int)<(m:Int):=o_
    have e2:(0:Int)<=(k:Int):=o_
    have e3:(k:Int)+1<=9223372036854775807:=o_
    have HG:=aB O;clear K hM N O P H E;go_wp2_with fail;refine HM.out.mono ?_;rintro e w2 ⟨rfl,F⟩;have H2:=aB F;clear F HM c0 c1 c2 hl;go_wp2_with fail;go_roundg V
    case measure=>omega
    case rel=>exact⟨k+1,by go_num,by have:=HG.out;omega,H2.out⟩
   ·obtain rfl:k=m:=o_
    have G:=aB (S.out _ _ K);clear K N O P Q S;go_wp2_with fail;refine G.out.mono ?_;rintro e w2 ⟨a,rfl,F⟩;have u:=aB (L.out _ _ _ _ F);unfold SV.val;unfold SV.cells at u;clear G F L;go_wp2_with fail;refine u.out.mono ?_;rintro e w3 ⟨f,rfl,h3⟩;obtain⟨D,h4⟩:=x.out _ _ _ _ _ h3;have HS:=aB h4;have Y1:=aB D;unfold SV.cells at D;have T:=aA (i:=0) D rfl;have Z:=aC D;clear u h3 h4 D x;go_wp2_with fail;refine HS.out.mono ?_;rintro e w4 ⟨rfl,h5⟩;have C:=aB (z.out _ _ _ _ _ h5);clear HS h5 z T Z Y1;go_wp2_with fail;refine C.out.mono ?_;rintro e w5 ⟨b,rfl,h6⟩;obtain⟨o,q,hs⟩:=r.out _ _ _ _ _ _ _ h6;have j:=aB hs;unfold SV.cells at o q;unfold SV.val at j;unfold SV.cells at j;have T:=aA (i:=0) o rfl;have a1:=aA (i:=1) o rfl;have a2:=aA (i:=2) o rfl;have a3:=aA (i:=3) o rfl;have a4:=aA (i:=4) o rfl;have Z:=aC o;have b0:=aA (i:=0) q rfl;have b1:=aA (i:=1) q rfl;have b2:=aA (i:=2) q rfl;have b3:=aA (i:=3) q rfl;have b4:=aA (i:=4) q rfl;have bl:=aC q;unfold SV.val;clear C h6 hs o q r;go_wp2_with fail;refine j.out.mono ?_;rintro e w6 ⟨rfl,h7⟩;obtain⟨t,s,k,l,hE⟩:=v.out _ _ _ h7;have HE:=aB hE;clear j h7 hE v T a1 a2 a3 a4 Z b0 b1 b2 b3 b4 bl;go_wp2_with fail;refine HE.out.mono ?_;rintro e w7 ⟨rfl,h8⟩;have J:=aB h8;clear HE h8;go_wp2_with fail;refine J.out.mono ?_;rintro e w8 ⟨rfl,h9⟩;have Y:=aB h9;clear J h9;go_wp2_with fail;go_ret;exact⟨rfl,Y.out⟩
structure zV(w:aG)(ks:List aE)(tape:List Int)(sb:Nat)(W:aG):Prop where
 live:∃fp F mb mo n s L m,Live fp F W sb mb mo ks tape s n L/\QN L W mo m/\w.heap.size<=mb
 sb:w.heap.size<=sb
 low:Below w.heap.size w W
section
variable {w:aG} {ks:List aE} {tape:List Int} {sb:Nat} {W W':aG}
def zV.below(h:zV w ks tape sb W)(a:Below W.heap.size W W'):zV w ks tape sb W':=by
 obtain⟨j,F,i,g,n,s,L,m,e,f,c⟩:=h.live;exact⟨⟨j,F,i,g,n,s,L,m,e.but (But.below a []) nY,f.keep (λb d=>a.block b (e.loc b d).2.1) a.size dP,c⟩,h.sb,h.low.trans (a.mono h.low.size)⟩
def zV.fs{fp:eK}{F G:bY}{d n h:Nat}{c:Obj}{s τ:aW}{L:List Nat}{m:Bps}(i:Live fp F W sb d c ks tape s n L)(l:QN L W c m)(f:w.heap.size<=d)(b:w.heap.size<=sb)(a:Below w.heap.size w W)(g:Live fp G W' sb d c ks tape τ h L)(e:FS sb W W'):zV w ks tape sb W':=
 ⟨⟨fp,G,d,c,h,τ,L,m,g,l.keep (λ_ j=>i.blk e j) e.size dP,f⟩,b,Below.fs a e b λ_ k=>(i.row k).1⟩
def But.low{lo c:Nat}{a:aG}(h:Below lo a W)(b:But [c] W W')(e:lo<=c)(f:lo<=W.heap.size):Below lo a W':=
 ⟨b.os.trans h.os,b.tape.trans h.tape,b.output.trans h.output,em h.size b.size,λk d=>by rw[b.blk k o_ t_];exact h.block k d⟩
def zV.step(t:Good ks)(f:tape.length<=17592186044416)(J:fX w)(h:zV w ks tape sb W)(a:Int)(r:ByteArray)(hs:r.size<=140737488355328)(fn:Nat)(args:Array Value)(x:(fn,args)∈NN sb a r):
 Calls prog fn args W λe d=>(∃v,e=aX v)/\zV w ks tape sb d:=by
 have N:=h;obtain⟨⟨A,F,C,H,n,s,L,m,j,z,q⟩,u,c⟩:=h;have D:r.size<=maxLen:=by unfold maxLen;omega
 have Y:∀{T:aW->Bool->Prop} {b:Bool} {d:aG},nB A sb C H ks tape L T W b d->zV w ks tape sb d:=λ{T b d} g=>by
  obtain⟨G,S,τ,K,q2,X⟩:=g;exact zV.fs j z q u c K X
 have p:∀{T:aW->Bool->Prop} {e:Ending} {d:aG},(∃b,e=aX (.bool b)/\nB A sb C H ks tape L T W b d)->(∃v,e=aX v)/\zV w ks tape sb d:=λ{T e d} ⟨b,Z,g⟩=>⟨⟨_,Z⟩,Y g⟩
 simp only[NN,eo,Prod.mk.injEq,fi,or_false] at x;rcases x with ⟨rfl,rfl⟩|⟨rfl,rfl⟩|⟨rfl,rfl⟩|⟨rfl,rfl⟩|⟨rfl,rfl⟩|⟨rfl,rfl⟩|⟨rfl,rfl⟩|⟨rfl,rfl⟩|⟨rfl,rfl⟩|⟨rfl,rfl⟩|⟨rfl,rfl⟩|⟨rfl,rfl⟩|⟨rfl,rfl⟩
 ·exact(RT t f j a).mono λe d g=>p g
 ·exact(RE t f j).mono λe d g=>p g
 ·exact(Y9 t f j).mono λe d g=>p g
 ·exact(z8 t f j).mono λe d g=>p g
 ·exact(bA_ t f j).mono λe d g=>p g
 ·exact(QB t f j).mono λe d g=>p g
 ·exact(cR_ t f j z).mono λe d g=>p g
 ·exact(TR t f j z).mono λe d g=>p g
 ·refine(Y4 j z (J.below c) a r o_).mono ?_
  rintro e d ⟨k,l,rfl,⟨_,_,B⟩|⟨_,_,o,y,U,_,M,I,_,O⟩⟩
  ·exact⟨⟨_,rfl⟩,N.below B⟩
  ·exact⟨⟨_,rfl⟩,⟨A,F,C,y,n,s,U,_,M,I,q⟩,u,But.low c O q c.size⟩
 ·refine(X2 j z a).mono ?_;rintro e d ⟨rfl,y,M,I,O⟩;exact⟨⟨_,rfl⟩,⟨A,F,C,y,n,s,L,_,M,I,q⟩,u,But.low c O q c.size⟩
 ·refine(yW j.ses (IM.of t j.ses.now) j.pow (J.below c) r D).mono ?_;rintro e d ⟨rfl,B⟩;exact⟨⟨_,rfl⟩,N.below B⟩
 ·refine(L6 t f j (J.below c) r D).mono ?_;rintro e d ⟨i,k,l,rfl,Q⟩;obtain⟨G,S,K⟩:=Q.live;exact⟨⟨_,rfl⟩,zV.fs j z q u c K Q.fs⟩
 ·obtain⟨E,P,V⟩:=(show nR w ks tape sb W L s from ⟨⟨A,F,C,H,n,j⟩,u,c⟩).short t
  refine(E9 j.ses E.deep j.pow P V E.out).mono ?_;rintro e d ⟨a,rfl,B,_⟩;exact⟨⟨_,rfl⟩,N.below B⟩
end
def cw_(a:Addr)(i j:Nat):(a.add i).add j=a.add (i+j):=by
 unfold Addr.add;by_cases c:i=0
 ·subst c;simp
 ·by_cases b:j=0
  ·subst b;simp
  ·rw[if_neg c,if_neg b,if_neg o_]
   simp[jk]
def XV(l:List (Int × Int × cC)):List Value:=l.flatMap λx=>[I_ x.1,I_ x.2.1,.string (bs x.2.2)]
def FQ:∀(l:List (Int × Int × cC)) (i j:Nat) (x:Int × Int × cC),l[i]?=some x->j<3->(XV l)[i*3+j]?=([I_ x.1,I_ x.2.1,.string (bs x.2.2)]:List Value)[j]?
 |[],_,_,_,h,_=>by simp at h
 |y::l,0,j,x,h,a=>by
  simp at h;subst h;simp only[XV,kc,Nat.zero_mul,ge];rw[hQ t_]
 |y::l,i+1,j,x,h,a=>by
  have:=FQ l i j x (by simpa using h) a
  rw[<-this];simp only[XV,kc];rw[gl t_]
  congr 1
  simp;omega
def WG(w:aG)(r N:cC)(tx ox:Option Addr)(c oc:Nat)(d:List Int)(h:List (Int × Int × cC))(hT:fX w)(hp:kE w)(X:9<=w.heap.size)(hs:r.length<=140737488355328)(bf:N.length<=140737488355328)(T:d.length<=17592186044416)(hi:∀x∈d, -9223372036854775808<=x/\x<=9223372036854775807)
 (am:0<d.length->∃t,tx=some t/\t.block<w.heap.size/\∀j v,(d.map (Value.int .i64))[j]?=some v->w.cell? (t.add j)=some v)
 (ap:h.length<=1000000000000000) (ar:∀x∈h,x.2.2.length<=140737488355328) (aw:0<h.length->∃t,ox=some t/\t.block<w.heap.size/\∀j v,(XV h)[j]?=some v->w.cell? (t.add j)=some v):
 Calls prog 3 #[.string (bs r),.slice tx d.length c,.slice ox h.length oc,.string (bs N)] w λe S=>e=aX (.bool true)/\Below w.heap.size w S:=by
 have U:(bs N).size<=maxLen:=by rw[gJ];unfold maxLen;omega
 have ae:∀W,Below w.heap.size w W->0<d.length->∃t,tx=some t/\t.block<W.heap.size/\∀j v,(d.map (Value.int .i64))[j]?=some v->W.cell? (t.add j)=some v:=λW C h0=>by
  obtain⟨t,e1,V,e3⟩:=am h0;refine⟨t,e1,ej V C.size,λj v hv=>?_⟩
  have Z:(t.add j).block=t.block:=by unfold Addr.add;split<;>rfl
  rw[World.cell?_of_block (w:=w) (by rw[Z];exact C.block _ V)]
  exact e3 j v hv
 refine QT w (bs r) (bs N) tx ox d.length c h.length oc (λi=>((h[i]?.getD (0,0,[])).1,(h[i]?.getD (0,0,[])).2.1,bs (h[i]?.getD (0,0,[])).2.2))
  (λp W=>Below w.heap.size w W/\((p=none/\(cE r).1≠0)\/∃l f M G K s,p=some (aH l 0)/\Good f/\Live M G W l K (.map #[] 0) f d s 1 []/\s.m_=0/\w.heap.size<=l/\w.heap.size<=K/\cO r=.ok f/\cE r=(0,0))) (λW=>Below w.heap.size w W)
  (λl i W=>∃f,Good f/\(cO r=.ok f/\cE r=(0,0))/\zV w f d l W)
  (λl a J W=>∃f L s,Good f/\(cO r=.ok f/\cE r=(0,0))/\nR w f d l W L s/\Mom L W a J s)
  (λl a J E W=>∃z f L s sf,Good f/\nR w f d l z L s/\Mom L z a J s/\nR z f d E W [] sf)
  (λl a J E W=>∃z f L s,Good f/\nR w f d l z L s/\Mom L z a J s/\nR z f d E W [] s)
  (λl a J E b bb W=>∃z f L L2 s,Good f/\nR w f d l z L s/\Mom L z a J s/\nR z f d E W L2 s/\Mom L2 W b bb s)
  (λl E W=>∃z f L L2 s,Good f/\nR w f d l z L s/\nR z f d E W L2 s)
  ap (MS w r tx c d hT hp X hs T hi am) (λp W hB=>?_) (λl i W hI ak=>?_) (λl W hI=>?_) (λl a J W P=>?_) (λl a J E W P=>?_) (λl a J E W P=>?_) (λl a J E b bb W P=>?_) (λl E W P=>?_)
 ·obtain⟨C,⟨rfl,_⟩|⟨l,f,M,G,K,s,rfl,y,I,ht,A,aa,B⟩⟩:=hB
  ·exact d7 ⟨rfl,C⟩
  ·exact d6 ⟨l,rfl,f,y,B,⟨M,G,K,_,1,s,[],[],I,QN.none _ _,aa⟩,A,C⟩
 ·obtain⟨f,y,B,u⟩:=hI;obtain⟨t,e1,V,e3⟩:=aw o_
  have g:=u.low;have hx:h[i]?=some h[i]:=fh ak
  have hc:∀j v,j<3->([I_ (h[i]).1,I_ (h[i]).2.1,.string (bs (h[i]).2.2)]:List Value)[j]?=some v->W.cell? ((t.add (i*3)).add j)=some v:=λj v hj hv=>by
   have al:(t.add (i*3)).add j=t.add (i*3+j):=cw_ t (i*3) j;have Z:(t.add (i*3+j)).block=t.block:=by unfold Addr.add;split<;>rfl
   rw[al,World.cell?_of_block (w:=w) (by rw[Z];exact g.block _ V)]
   exact e3 _ _ (by rw[FQ h i j _ hx hj];exact hv)
  have ah:∀o,Below W.heap.size W (W.alloc o):=λo=>(eh _ W).alloc cL _
  simp only[hx,jt];refine⟨t,e1,ej V g.size,hc 0 _ o_ rfl,hc 1 _ o_ rfl,hc 2 _ o_ rfl,YJ W l _ _ _ _ ⟨f,y,B,u.below (ah _)⟩ λfn af ai=>?_⟩
  refine((u.below (ah _)).step y T hT _ _ (by rw[gJ];exact ar _ (fo ak)) fn af ai).mono ?_
  rintro e S ⟨hv,ac⟩;exact⟨hv,f,y,B,ac⟩
 ·obtain⟨f,y,B,u⟩:=hI;obtain⟨⟨M,F,K,mo,n,s,L,m,I,hm,aa⟩,A,g⟩:=u;refine((show nR w f d l W L s from ⟨⟨M,F,K,mo,n,I⟩,A,g⟩).now y).mono ?_
  rintro e S ⟨a,rfl,h1,h2,h3,h4,_⟩;exact⟨a,rfl,f,_,s,y,B,h2,h3⟩
 ·obtain⟨f,L,s,y,B,u,Q⟩:=P;refine(MS W r tx c d (hT.below u.low) (hp.below u.low) (em X u.low.size) hs T hi (ae W u.low)).mono ?_;rintro e S ⟨p,rfl,C,⟨rfl,hz⟩|⟨E,be,M,G,K,sf,rfl,az,I,ht,A,aa,D⟩⟩
  ·rw[B.2] at hz;exact absurd rfl hz
  ·obtain⟨D,_⟩:=D;rw[B.1] at D;cases D;exact⟨E,rfl,W,f,L,s,sf,y,u,Q,⟨M,G,K,_,1,I⟩,A,C⟩
 ·obtain⟨z,f,L,s,sf,y,u,Q,H⟩:=P;have O:=Q.keep (W':=W) (λb C=>H.low.block b (u.lt C)) H.low.size dP
  refine⟨O.box,?_⟩;obtain⟨⟨M,F,K,mo,n,I⟩,A,g⟩:=H;refine(RT y T I a.t).mono ?_;rintro e S ⟨b,rfl,G,n',τ,q1,q2,q3⟩;have ag:=u.st;have av:=Q.mom.t;rcases q2 with ⟨rfl,e1,V⟩|⟨_,_,q|q⟩
  ·have:τ.m_=s.m_:=o_
   rw[this,ag] at V;cases V;exact⟨rfl,z,f,L,s,y,u,Q,⟨M,G,K,mo,n',q1⟩,A,Below.fs g q3 A λk hk=>(I.row hk).1⟩
  ·omega
  ·rw[av,Int.toNat_natCast,ag] at q;cases q
 ·obtain⟨z,f,L,s,y,u,Q,H⟩:=P;refine(H.now y).mono ?_;rintro e S ⟨b,rfl,h1,h2,h3,h4,_⟩;exact⟨b,rfl,z,f,L,_,s,y,u,Q,h2,h3⟩
 ·obtain⟨z,f,L,L2,s,y,u,Q,H,ao⟩:=P;have O:=Q.keep (W':=W) (λb C=>H.low.block b (u.lt C)) H.low.size dP
  refine⟨O.box,ao.box,(p8 O.mom ao.mom (u.short y).1).mono ?_⟩;rintro e S ⟨rfl,C⟩;exact⟨rfl,z,f,L,L2,s,y,u,H.below C⟩
 ·obtain⟨z,f,L,L2,s,y,u,H⟩:=P;have ac:nR w f d l W L s:=u.below H.low;obtain⟨⟨M,F,K,mo,n,I⟩,A,g⟩:=ac;have an:=IM.of y I.ses.now;refine⟨(kM s N).1.1,(kM s N).1.2,(kM s N).2.1,(kM s N).2.2,(yW I.ses an I.pow (hT.below g) (bs N) U).mono ?_⟩;rintro e S ⟨rfl,C⟩;obtain⟨⟨ba,F2,ay,bd,n2,aj⟩,ax,au⟩:=H.below C;have Y:Below w.heap.size w S:=g.trans (C.mono g.size);refine⟨rfl,(yW aj.ses an aj.pow (hT.below Y) (bs N) U).mono ?_⟩;rintro e bc ⟨rfl,aq⟩;exact⟨rfl,Y.trans (aq.mono Y.size)⟩
def G6:prog.cellsOf 3=1:=k_
def ck_:prog.cellsOf 9=1:=k_
section
variable {H:Type} {enc:TypeId × Value->H} {W:aG} {b_ fuel n c:Nat} {spare:Nat->Bool} {held:Bool} {y:Option Addr} {x:DataW H × List MemPlace} {ts:List TypeId} {ds:List (DataW H)} {j:Nat}
def N9(h:DataW.trod enc prog W b_ spare held fuel 22 [.slice y n c]=some x)(L:(DataW.weightsEach prog ts ds).all (·<=reachBytes)=true)(E:ts[j]?=some 22)(B:ds[j]?=some x.1):
 ∃tape:List Int,tape.length=n/\n<=17592186044416/\(∀z∈tape, -9223372036854775808<=z/\z<=9223372036854775807)/\(0<n->∃l,y=some l/\l.block<W.heap.size/\∀j v,(tape.map (Value.int .i64))[j]?=some v->W.cell? (l.add j)=some v):=by
 have I:=reachBytes_lt;rcases Deep.open_slice1 underlying22 G6 h with ⟨d,O⟩|⟨a,N,G,m,k,V,D,Pl,d,r,P,Q,f,rfl,M⟩
 ·simp at d;obtain⟨rfl,rfl,rfl⟩:=d;exact⟨[],rfl,o_,(λo e=>by cases e),λh=>by omega⟩
 ·simp at d;obtain⟨rfl,rfl,rfl⟩:=d;have K:n<=m:=by rw[f];split<;>omega
  have b:∀i,i<n->∃q:Int,W.cell? (a.add i)=some (I_ q)/\(-9223372036854775808<=q/\q<=9223372036854775807):=by
   intro i w;obtain⟨t,C⟩:=M i o_
   obtain⟨J,s,_,u⟩:=DataW.trod_int underlying3 C;simp at s;rw[s] at t;refine⟨J,t,?_⟩;simp[Lit.wf] at u;exact u
  obtain⟨q,g⟩:=Deep.choose_lt b;refine⟨(List.range n).map q,s_,?_,λo e=>?_,λF=>⟨a,rfl,?_,λj v p=>?_⟩⟩
  ·have:=sized_slice L E B underlying22;have r:prog.bytesOf 3=8:=k_
   rw[r] at this;simp at this;omega
  ·simp only[gz,List.mem_range] at e;obtain⟨i,w,rfl⟩:=e;exact(g i w).2
  ·rcases fu a.block W.heap.size with h|h
   ·exact h
   ·have H:=(g 0 F).1;simp[World.cell?,Addr.add,ik h] at H
  ·have A:j<n:=by
    have:=(gq.1 p).1;simpa using this
   simp[A] at p;rw[(g j A).1,<-p]
end
def ab_(l:List (Int × Int × cC)):(XV l).length=l.length*3:=by
 induction l with
 |nil=>rfl
 |cons x l a=>simp only[XV,kc,el,ep,ey] at a ⊢;omega
def rV{H:Type}{P:Program}{e:TypeId}{d:DataW H}{n:Nat}:∀{l:List (DataW H)},d∈l->n∈d.weights P e->n∈DataW.weightsAll P e l
 |x::l,h,a=>by
  simp only[DataW.weightsAll,eu];rcases eo.1 h with rfl|h
  ·exact d7 a
  ·exact d6 (rV h a)
def cl_:prog.cellsOf 29=3:=k_
section
variable {H:Type} {enc:TypeId × Value->H} {W:aG} {b_ fuel n c:Nat} {spare:Nat->Bool} {held:Bool} {y:Option Addr} {x:DataW H × List MemPlace} {ts:List TypeId} {ds:List (DataW H)} {j:Nat}
def ac_(h:DataW.trod enc prog W b_ spare held fuel 23 [.slice y n c]=some x)(hZ:(DataW.weightsEach prog ts ds).all (·<=reachBytes)=true)(Z:ts[j]?=some 23)(X:ds[j]?=some x.1):
 ∃l:List (Int × Int × List UInt8),l.length=n/\n<=1000000000000000/\(∀o∈l,o.2.2.length<=140737488355328)/\(0<n->∃E,y=some E/\E.block<W.heap.size/\∀j v,(XV l)[j]?=some v->W.cell? (E.add j)=some v):=by
 have ab:=reachBytes_lt;rcases Deep.open_slice underlying23 h with ⟨g,C⟩|⟨a,ae,aa,m,k,D,Pl,g,M,hl,hm,A,rfl,hx⟩
 ·simp at g;obtain⟨rfl,rfl,rfl⟩:=g;exact⟨[],rfl,o_,(λo u=>by cases u),λh=>by omega⟩
 ·simp at g;obtain⟨rfl,rfl,rfl⟩:=g;have ac:n<=m:=by rw[A];split<;>omega
  have t:∀i,i<n->∃q:Int × Int × ByteArray,W.cell? (a.add (i*3))=some (.int .i64 q.1)/\W.cell? (a.add (i*3+1))=some (.int .i64 q.2.1)/\W.cell? (a.add (i*3+2))=some (.string q.2.2)/\D i=.agg [.lit (.int .i64 q.1),.lit (.int .i64 q.2.1),.lit (.string q.2.2.data.toList)]:=by
   intro i f;obtain⟨I,Q,Y⟩:=hx i o_
   rw[cl_] at Q;obtain⟨_,r,b⟩:=World.cells?_some Q;obtain⟨xs,k',hk,s,_,w,F⟩:=DataW.trod_struct underlying29 Y;match xs,w,I,r with
   |[y0,y1,y2],_,[v0,v1,v2],_=>
    have O:=F 0 _ rfl;have T:=F 1 _ rfl;have N:=F 2 _ rfl;simp[G6,ck_] at O T N;obtain⟨n0,P,rfl,_⟩:=DataW.trod_int underlying3 O;obtain⟨n1,L,rfl,_⟩:=DataW.trod_int underlying3 T;obtain⟨s2,U,rfl,_⟩:=DataW.trod_string underlying9 N;have K:=b 0 o_
    have g:=b 1 o_
    have C:=b 2 o_
    rw[Deep.add_add] at K g C;simp at P L U;subst P L U;simp only[Prod.mk.injEq] at s;exact⟨(n0,n1,s2),by simpa using K,by simpa using g,by simpa using C,by simpa using s.1⟩
  obtain⟨q,B⟩:=Deep.choose_lt t
  have S:∀z∈(DataW.slice ((List.range n).map D) ((List.range (m-n)).map λj=>D (n+j)):DataW H).weights prog 23,z<=reachBytes:=λz hz=>by
   have:=List.all_eq_true.1 hZ _ (DataW.weights_mem_each Z X z hz);simpa using this
  have p:∀i,i<n->((List.range n).map λi=>((q i).1,(q i).2.1,(q i).2.2.data.toList))[i]?=some ((q i).1,(q i).2.1,(q i).2.2.data.toList):=λi f=>by simp[f]
  refine⟨(List.range n).map λi=>((q i).1,(q i).2.1,(q i).2.2.data.toList),s_,?_,λo u=>?_,λh0=>⟨a,rfl,?_,λj v V=>?_⟩⟩
  ·have:=S ((((List.range n).map D).length+((List.range (m-n)).map λj=>D (n+j)).length)*prog.bytesOf 29) (by simp[DataW.weights,underlying23])
   have M:prog.bytesOf 29=32:=k_
   rw[M] at this;simp at this;omega
  ·simp only[gz,List.mem_range] at u;obtain⟨i,f,rfl⟩:=u
   have G:(q i).2.2.data.toList.length∈(DataW.slice ((List.range n).map D) ((List.range (m-n)).map λj=>D (n+j)):DataW H).weights prog 23:=by
    simp only[DataW.weights,underlying23,eo,eu];refine d6 (d7 (rV (gz.2 ⟨i,List.mem_range.2 f,rfl⟩) ?_));rw[(B i f).2.2.2];simp[DataW.weights,underlying29,DataW.weightsEach]
   have:=S _ G;show (q i).2.2.data.toList.length<=_
   omega
  ·rcases fu a.block W.heap.size with h|h
   ·exact h
   ·have h7:=(B 0 h0).1;simp[World.cell?,Addr.add,ik h] at h7
  ·have hj:j<n*3:=by
    have:=(gq.1 V).1;rw[ab_] at this;simpa using this
   have f:j/3<n:=o_
   have d:=FQ _ (j/3) (j%3) _ (p (j/3) f) o_
   rw[show j/3*3+j%3=j by omega,V] at d
   obtain⟨c0,c1,c2,_⟩:=B (j/3) f;have J:j%3=0\/j%3=1\/j%3=2:=o_
   rcases J with e|e|e
   ·rw[e] at d;simp at d;subst d;rw[show j=j/3*3 by omega,Nat.mul_div_cancel _ o_];exact c0
   ·rw[e] at d;simp at d;subst d;rw[show a.add j=a.add (j/3*3+1) by congr 1;omega];exact c1
   ·rw[e] at d;simp at d;subst d;rw[show a.add j=a.add (j/3*3+2) by congr 1;omega];exact c2
end
end Go.Proofs.YtlflgmdcghfngaaGreatDoor
