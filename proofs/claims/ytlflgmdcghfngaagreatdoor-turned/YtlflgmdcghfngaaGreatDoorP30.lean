/- Contracts of the program: how deep a state is; its line. -/
import Derived.Test.YtlflgmdcghfngaaGreatDoorP22
import Derived.Test.YtlflgmdcghfngaaGreatDoorP25
set_option linter.defProp false
set_option maxRecDepth 100000
set_option maxHeartbeats 4000000
namespace Go.Proofs.YtlflgmdcghfngaaGreatDoor
open Hs
open _root_.Go.Proofs.Tryz
open Go.RowKit
variable{es:Array MapEntry}{l:List (Int × Value)}{L:List Nat}{ks:List aE}{clock n sb:Nat}{W w:aG}{s:aW}{F:bY}{fp:eK}
attribute [local go_sem] Oper.semAt_some
def uC(v:SV)(W:aG):Calls prog 40 #[v.val] W λe W'=>e=aX (I_ v.n1)/\W'=W.alloc (.cells v.cells 53):=by
 unfold SV.val SV.cells;go_in
 go_wp2
 go_ret;exact⟨rfl,rfl⟩
def qM(d:Int)(W:aG):Calls prog 39 #[I_ d] W λe W'=>e=aX (.func (.func 69) #[] #[aZ W.heap.size])/\W'=W.alloc (.cells #[I_ d] 3):=by
 have b:∀(a:aQ) (w:aG),(Instr.makeFunc (.func 69) #[] #[a]).run prog w=.ok (.func (.func 69) #[] #[a]) w:=λ_ _=>rfl
 go_in
 go_wp2
 go_ret;exact⟨rfl,rfl⟩
def PU(args:Array Value)(W:aG):(callFunc 69 args).run prog W=.ok (.enter 69 args) W:=(enters_of func69 k_ rfl) args W
def JO(v:SV)(cb:Nat)(d:Int)(W:aG)(h:W.cell? (aH cb 0)=some (I_ d))(c:cb<W.heap.size):Calls prog 69 #[v.val,aZ cb] W λe W'=>e=aX (.bool (decide ((v.n1:Int)<=d)))/\Below W.heap.size W W':=by
 have b:=aB (uC v);unfold SV.val SV.cells at b;unfold SV.val;have a:Below W.heap.size W (W.alloc (.cells #[I_ v.t,.slice v.x1 v.n1 v.c1,.slice v.x2 v.n2 v.c2,.slice v.x3 v.n3 v.c3,I_ v.q] 53)):=(eh _ W).alloc cL _;have g:(W.alloc (.cells #[I_ v.t,.slice v.x1 v.n1 v.c1,.slice v.x2 v.n2 v.c2,.slice v.x3 v.n3 v.c3,I_ v.q] 53)).cell? (aH cb 0)=some (I_ d):=(World.cell?_of_block (a.block cb c)).trans h
 have f:Hid (∀o,Below W.heap.size W ((W.alloc (.cells #[I_ v.t,.slice v.x1 v.n1 v.c1,.slice v.x2 v.n2 v.c2,.slice v.x3 v.n3 v.c3,I_ v.q] 53)).drew.alloc o)):=λo=>by
  have:=a.alloc a.size o;exact⟨this.os,this.tape,this.output,this.size,this.block⟩
 go_in
 go_wp2_with fail;go_region_law (go_simp;go_at_call 40;refine(b _).mono ?_;rintro e i ⟨rfl,rfl⟩)
 all_goals
  dsimp only[Exit.then]
  go_wp2
  go_ret;exact⟨rfl,f _⟩
section
variable {fp:eK} {F:bY} {w:aG} {s1:SV} {s:aW}
def jC.deep(h:jC fp F w s1.val s):s1.n1=s.m.f_.length:=by
 by_cases a:s.m.f_=[]
 ·rw[h.none a,a];rfl
 ·obtain⟨_,_,_,e,_⟩:=h.frame 0 (gx.2 a);exact e
end
def shallow(d:Int)(σ:aW):Bool:=decide ((σ.m.f_.length:Int)<=d)
def sY{i:Nat}{g:Obj}{a:List Int}{f:List Nat}(cb:Nat)(d:Int)(c:cb∈f)(m:w.heap[cb]?=some (.cells #[I_ d] 3 (0,0))):
 I4 fp sb i g ks a s f w (shallow d) 69 #[] #[aZ cb]:=by
 intro F n L W v q j h p l k;have b:=(h cb c).trans m;refine(show Calls prog 69 #[v.val,aZ cb] W _ from JO v cb d W (aA b rfl) (aC b)).mono ?_
 rintro e o ⟨rfl,b⟩;exact⟨by unfold shallow;rw[l.deep],b⟩
def rL(s:aW):Option Nat:=s.m.f_.getLast?.map (·.l_)
def WW(w:aG)(s:SV)(gf n c:Nat)(f:s.x1=some (aH gf 0))(g:s.n1=n+1)(b:n<=1000)(u:w.cell? (aH gf (n*6+2))=some (I_ c))(a:gf<w.heap.size):
 Calls prog 70 #[s.val] w λe h=>e=aX (.tuple #[I_ c,.bool true])/\Below w.heap.size w h:=by
 obtain⟨t,B,p,i,A,r,j,d,m,o,q⟩:=s;simp only at f g;subst f g;unfold SV.val;have z:(((n+1:Nat):Int)==0)=false:=t_
 have x:=aB λ(W:aG) k=>nG w.heap.size gf n d W k b
 go_in
 go_wp2_with fail;refine(x _ ?_).mono ?_
 ·simp[go_sem]
 rintro e y ⟨rfl,l,rfl⟩
 have v:((w.alloc (.cells #[I_ t,.slice (some (aH gf 0)) (n+1) d,.slice p r m,.slice i j o,I_ q] 53)).drewN l).cell? (aH gf (n*6+2))=some (I_ c):=by
  show (w.alloc _).cell? _=_
  rw[World.cell?_of_block (ek _ _ _ a)];exact u
 go_wp2
 go_ret2
 refine⟨rfl,((eh w.heap.size w).alloc cL _).trans ⟨rfl,rfl,rfl,cL,λ_ _=>rfl⟩⟩
def WX(w:aG)(t q:Int)(f c g:Option Addr)(c1 h a i d:Nat):
 Calls prog 70 #[.agg #[I_ t,.slice f 0 c1,.slice c h a,.slice g i d,I_ q]] w λe b=>e=aX (.tuple #[I_ 0,.bool false])/\Below w.heap.size w b:=by
 go_in
 go_wp2
 go_ret2
 exact⟨rfl,(eh w.heap.size w).alloc cL _⟩
def LJ{s1:SV}(h:jC fp F w s1.val s)(l:∀b,F b->b<w.heap.size)(B:s.m.f_.length<=16):
 Calls prog 70 #[s1.val] w λe f=>e=aX (.tuple #[I_ ((rL s).getD 0:Nat),.bool (rL s).isSome])/\Below w.heap.size w f:=by
 by_cases c:s.m.f_=[]
 ·have d:=h.none c;obtain⟨t,z,u,g,E,A,i,k,o,r,q⟩:=s1;simp only at d;subst d;unfold rL;rw[c];exact WX w t q z u g k A o i r
 ·obtain⟨n,D⟩:∃n,s.m.f_.length=n+1:=⟨s.m.f_.length-1,by have:=gx.2 c;omega⟩
  have a:s.m.f_.getLast?=some (s.m.f_[n]'(by omega)):=by
   rw[ko,show s.m.f_.length-1=n by omega];exact fh _
  obtain⟨p,v,x,C,y,m,j⟩:=h.frame n o_
  unfold rL;rw[a];exact WW w s1 p n _ x o_ o_ (j 2 _ o_ (by show v.cells[2]?=some (I_ (s.m.f_[n]'(by omega)).l_);rw[<-m.ln];rfl)) (l _ y)
attribute [local go_sem] Oper.semAt_some
def aZ_(w:aG)(a b c:Obj):Below w.heap.size w (((w.alloc a).alloc b).alloc c).drew:=by
 have:=(qW w a b).alloc (qW w a b).size c;exact⟨this.os,this.tape,this.output,this.size,this.block⟩
def a0_(w:aG)(c:Array Value)(T:TypeId)(a b:Obj):(((w.alloc (.cells c T)).alloc a).alloc b).drew.heap[w.heap.size]?=some (.cells c T (0,0)):=
 (ek _ _ _ (by simp only[World.size_alloc];omega)).trans (iF w _ _)
def MU(w:aG)(c:Array Value)(T:TypeId)(a b:Obj):(((w.alloc a).alloc (.cells c T)).alloc b).drew.heap[w.heap.size+1]?=some (.cells c T (0,0)):=
 (ek _ _ _ (by simp only[World.size_alloc];omega)).trans (fR w _ _)
def MT(w:aG)(c:Array Value)(T:TypeId)(a b:Obj):(((w.alloc a).alloc b).alloc (.cells c T)).drew.heap[w.heap.size+1+1]?=some (.cells c T (0,0)):=aN ((w.alloc a).alloc b) _ s_ _
def N8(w:aG)(sb:Nat)(s:SV)(P:Bool->World->Prop)(m:sb<w.heap.size)
 (k0:w.cell? (aH sb 0)=some (I_ s.t)) (n:w.cell? (aH sb 1)=some (.slice s.x1 s.n1 s.c1)) (p:w.cell? (aH sb 2)=some (.slice s.x2 s.n2 s.c2)) (o:w.cell? (aH sb 3)=some (.slice s.x3 s.n3 s.c3)) (q:w.cell? (aH sb 4)=some (I_ s.q))
 (i:Hid (∀c d W,Below w.heap.size w W->w.heap.size<=c->w.heap.size<=d->W.heap[c]?=some (.cells #[aZ sb] 24 (0,0))->W.heap[d]?=some (.cells #[I_ s.n1] 3 (0,0))->
   Calls prog 35 #[aZ sb,.func (.func 65) #[] #[aZ c],.func (.func 69) #[] #[aZ d]] W λe a=>∃b,e=aX (.bool b)/\P b a)):
 Calls prog 15 #[aZ sb] w λe a=>∃b,e=aX (.bool b)/\P b a:=by
 have k:=aB (tY sb);have h:=aB (uC s);have j:=aB qM;unfold SV.val SV.cells at h;go_in
 go_wp2_with fail;go_region_law (go_simp;first|(go_at_call 36;refine(k _).mono ?_;rintro e f ⟨rfl,rfl⟩)|(go_at_call 40;refine(h _).mono ?_;rintro e f ⟨rfl,rfl⟩)|(go_at_call 39;refine(j _ _).mono ?_;rintro e f ⟨rfl,rfl⟩)|(go_at_call 35;refine(i _ _ _ (aZ_ _ _ _ _) o_ o_ (by first|exact a0_ _ _ _ _ _|exact MU _ _ _ _ _|exact MT _ _ _ _ _) (by first|exact MU _ _ _ _ _|exact MT _ _ _ _ _)).mono ?_;rintro e f ⟨b,rfl,g⟩))
 all_goals
  have l:=aB g;clear g;dsimp only[Exit.then]
  go_wp2
  go_ret;exact⟨b,rfl,l⟩
def aa_(w:aG)(sb:Nat)(s:SV)(P:Bool->World->Prop)(m:sb<w.heap.size)
 (k0:w.cell? (aH sb 0)=some (I_ s.t)) (n:w.cell? (aH sb 1)=some (.slice s.x1 s.n1 s.c1)) (p:w.cell? (aH sb 2)=some (.slice s.x2 s.n2 s.c2)) (o:w.cell? (aH sb 3)=some (.slice s.x3 s.n3 s.c3)) (q:w.cell? (aH sb 4)=some (I_ s.q))
 (i:Hid (∀c d W,Below w.heap.size w W->w.heap.size<=c->w.heap.size<=d->W.heap[c]?=some (.cells #[aZ sb] 24 (0,0))->W.heap[d]?=some (.cells #[I_ (IntKind.i64.wrap ((s.n1:Int)-1))] 3 (0,0))->
   Calls prog 35 #[aZ sb,.func (.func 65) #[] #[aZ c],.func (.func 69) #[] #[aZ d]] W λe a=>∃b,e=aX (.bool b)/\P b a)):
 Calls prog 16 #[aZ sb] w λe a=>∃b,e=aX (.bool b)/\P b a:=by
 have k:=aB (tY sb);have h:=aB (uC s);have j:=aB qM;unfold SV.val SV.cells at h;go_in
 go_wp2_with fail;go_region_law (go_simp;first|(go_at_call 36;refine(k _).mono ?_;rintro e f ⟨rfl,rfl⟩)|(go_at_call 40;refine(h _).mono ?_;rintro e f ⟨rfl,rfl⟩)|(go_at_call 39;refine(j _ _).mono ?_;rintro e f ⟨rfl,rfl⟩)|(go_at_call 35;refine(i _ _ _ (aZ_ _ _ _ _) o_ o_ (by first|exact a0_ _ _ _ _ _|exact MU _ _ _ _ _|exact MT _ _ _ _ _) (by first|exact MU _ _ _ _ _|exact MT _ _ _ _ _)).mono ?_;rintro e f ⟨b,rfl,g⟩))
 all_goals
  have l:=aB g;clear g;dsimp only[Exit.then]
  go_wp2
  go_ret;exact⟨b,rfl,l⟩
def KR(w:aG)(sb:Nat)(s:SV)(P:Bool->World->Prop)(m:sb<w.heap.size)
 (k0:w.cell? (aH sb 0)=some (I_ s.t)) (n:w.cell? (aH sb 1)=some (.slice s.x1 s.n1 s.c1)) (p:w.cell? (aH sb 2)=some (.slice s.x2 s.n2 s.c2)) (o:w.cell? (aH sb 3)=some (.slice s.x3 s.n3 s.c3)) (q:w.cell? (aH sb 4)=some (I_ s.q))
 (i:Hid (∀c d W,Below w.heap.size w W->w.heap.size<=c->w.heap.size<=d->W.heap[c]?=some (.cells #[aZ sb] 24 (0,0))->W.heap[d]?=some (.cells #[I_ s.n1] 3 (0,0))->
   Calls prog 35 #[aZ sb,.func (.func 66) #[] #[aZ c],.func (.func 69) #[] #[aZ d]] W λe a=>∃b,e=aX (.bool b)/\P b a)):
 Calls prog 17 #[aZ sb] w λe a=>∃b,e=aX (.bool b)/\P b a:=by
 have k:=aB (pF sb);have h:=aB (uC s);have j:=aB qM;unfold SV.val SV.cells at h;go_in
 go_wp2_with fail;go_region_law (go_simp;first|(go_at_call 38;refine(k _).mono ?_;rintro e f ⟨rfl,rfl⟩)|(go_at_call 40;refine(h _).mono ?_;rintro e f ⟨rfl,rfl⟩)|(go_at_call 39;refine(j _ _).mono ?_;rintro e f ⟨rfl,rfl⟩)|(go_at_call 35;refine(i _ _ _ (aZ_ _ _ _ _) o_ o_ (by first|exact a0_ _ _ _ _ _|exact MU _ _ _ _ _|exact MT _ _ _ _ _) (by first|exact MU _ _ _ _ _|exact MT _ _ _ _ _)).mono ?_;rintro e f ⟨b,rfl,g⟩))
 all_goals
  have l:=aB g;clear g;dsimp only[Exit.then]
  go_wp2
  go_ret;exact⟨b,rfl,l⟩
def J2:prog.underlying 57=some (.map 3 90):=k_
def dm_:prog.underlying 3=some (.int .i64):=k_
def zS(e:Bool)(k:Int)(w:aG):(Instr.checkKey e 10000 3 (I_ k)).run prog w=.ok () w:=k_
def mA(es:List MapEntry)(l:List (Int × Value)):Prop:=es.map (λe=>(e.key,e.val))=l.map λp=>(Value.int .i64 p.1,Value.agg #[p.2])
def nF(l:List (Int × Value))(k:Int):Option Value:=(l.find? (·.1==k)).map (·.2)
def rS(k:Int):List (Int × Value)->Nat->Option (Nat × Value)
 |[],_=>none
 |p::l,i=>if k==p.1 then some (i,.agg #[p.2]) else rS k l (i+1)
def JM(k:Int)(v:aQ):List (Int × Value)->List (Int × Value)
 |[]=>[(k,v)]
 |p::l=>if k==p.1 then (k,v)::l else p::JM k v l
def KH(k:Int):List (Int × Value)->List (Int × Value)
 |[]=>[]
 |p::l=>if k==p.1 then l else p::KH k l
def mA.cons{e:MapEntry}{es:List MapEntry}(h:mA (e::es) l):∃p m,l=p::m/\e.key=I_ p.1/\e.val=.agg #[p.2]/\mA es m:=by
 cases l with
 |nil=>simp[mA] at h
 |cons p m=>
  simp only[mA,fg,List.cons.injEq,Prod.mk.injEq] at h;exact⟨p,m,rfl,h.1.1,h.1.2,h.2⟩
def mA.nil(h:mA [] l):l=[]:=by
 cases l with
 |nil=>rfl
 |cons p m=>simp[mA] at h
def GF(k:Int):∀(es:List MapEntry) (l:List (Int × Value)) (i:Nat),mA es l->Instr.findNow (.int .i64) (I_ k) es i=some (rS k l i)
 |[],l,i,h=>by rw[h.nil];rfl
 |e::es,l,i,h=>by
  obtain⟨p,m,rfl,c,b,d⟩:=h.cons;simp only[Instr.findNow,c,Instr.sameNow,rS];by_cases a:k==p.1
  ·simp[a,b]
  ·simp[a,GF k es m (i+1) d]
def mO(k:Int){es:List MapEntry}(h:mA es l)(w:aG):(Instr.findKey 3 (I_ k) es).run prog w=.ok (rS k l 0) w:=by
 simp[Instr.findKey,run_underlying dm_,GF k es l 0 h,Result.andThen]
def MA(k:Int):∀(l:List (Int × Value)) (i:Nat),(rS k l i).map (·.2)=(nF l k).map λv=>.agg #[v]
 |[],_=>rfl
 |p::l,i=>by
  have b:=MA k l (i+1);unfold nF at b ⊢
  by_cases a:k=p.1
  ·subst a;simp[rS]
  ·have d:(k==p.1)=false:=by simpa using a
   have c:(p.1==k)=false:=by simpa using λe=>a e.symm
   simp only[rS,d,List.find?_cons,c];exact b
def yX{c:Nat}(e:w.heap[c]?=some (.map es clock))(h:mA es.toList l)(k:Int):
 (Instr.lookup 57 (.map (some c)) (I_ k) true).run prog w=.ok (.tuple #[.agg #[(nF l k).getD .nilIface],.bool (nF l k).isSome]) w:=by
 have a:=MA k l 0;cases b:rS k l 0 with
 |none=>
  rw[b] at a;have:nF l k=none:=by simpa using a.symm
  simp[Instr.lookup,run_underlying J2,MapKept.run_getObj_map e,zS,mO k h,b,Result.andThen,this]
 |some x=>
  obtain⟨i,v⟩:=x;rw[b] at a;cases d:nF l k with
  |none=>rw[d] at a;simp at a
  |some u=>
   rw[d] at a;have:v=.agg #[u]:=by simpa using a
   subst this;simp[Instr.lookup,run_underlying J2,MapKept.run_getObj_map e,zS,mO k h,b,Result.andThen]
def TM(k:Int)(v:aQ):∀(l:List (Int × Value)) (i:Nat),(rS k l i=none/\JM k v l=l++[(k,v)])\/∃j u,rS k l i=some (i+j,u)/\j<l.length/\JM k v l=l.set j (k,v)/\(l[j]?).map (·.1)=some k
 |[],_=>d7 ⟨rfl,rfl⟩
 |p::l,i=>by
  by_cases f:k=p.1
  ·subst f;exact d6 ⟨0,.agg #[p.2],by simp[rS],s_,by simp[JM],s_⟩
  ·have e:(k==p.1)=false:=by simpa using f
   rcases TM k v l (i+1) with ⟨a,b⟩|⟨j,u,a,b,c,d⟩
   ·exact d7 ⟨by simp[rS,e,a],by simp[JM,e,b]⟩
   ·exact d6 ⟨j+1,u,by simp[rS,e,a];omega,by simpa using b,by simp[JM,e,c],by simpa using d⟩
def TN(k:Int):∀(l:List (Int × Value)) (i:Nat),(rS k l i=none/\KH k l=l)\/∃j u,rS k l i=some (i+j,u)/\j<l.length/\KH k l=l.eraseIdx j
 |[],_=>d7 ⟨rfl,rfl⟩
 |p::l,i=>by
  by_cases e:k=p.1
  ·subst e;exact d6 ⟨0,.agg #[p.2],by simp[rS],s_,by simp[KH]⟩
  ·have d:(k==p.1)=false:=by simpa using e
   rcases TN k l (i+1) with ⟨a,b⟩|⟨j,u,a,b,c⟩
   ·exact d7 ⟨by simp[rS,d,a],by simp[KH,d,b]⟩
   ·exact d6 ⟨j+1,u,by simp[rS,d,a];omega,by simpa using b,by simp[KH,d,c]⟩
def r8(h:mA es.toList l)(k:Int)(v:aQ):
 ∃o f,(∀(m:Nat) (w:aG),w.heap[m]?=some (.map es clock)->(Instr.mapUpdate 57 (.map (some m)) (I_ k) (.agg #[v])).run prog w=.ok () (w.putObj m (.map o f)))/\mA o.toList (JM k v l):=by
 rcases TM k v l 0 with ⟨a,b⟩|⟨j,u,a,b,c,d⟩
 ·refine⟨es.push ⟨I_ k,.agg #[v],clock⟩,clock+1,λm w g=>?_,?_⟩
  ·simp[Instr.mapUpdate,run_underlying J2,MapKept.run_getObj_map g,zS,mO k h,a,MapKept.run_setObj_map _ g,Result.andThen,World.putObj]
  ·rw[b];unfold mA at h ⊢;simp[h]
 ·rw[ge] at a;have n:es.toList.length=l.length:=by have:=congrArg List.length h;simpa using this
  have q:j<es.size:=by have:=n;simp at this;omega
  have x:es[j].key=I_ k:=by
   have r:(es.toList.map λe=>(e.key,e.val))[j]?=(l.map λp=>(Value.int .i64 p.1,Value.agg #[p.2]))[j]?:=by rw[h]
   have t:l[j]?=some (l[j]):=fh b;rw[t] at d;simp[q,b] at r d;rw[r.1,d]
  have y:Instr.sameBits 10000 (I_ k) (I_ k)=true:=by simp[Instr.sameBits]
  refine⟨es.modify j λe=>{ e with key:=I_ k,val:=.agg #[v] },clock,λm w g=>?_,?_⟩
  ·simp[Instr.mapUpdate,run_underlying J2,MapKept.run_getObj_map g,zS,mO k h,a,q,x,Instr.keyThatStays,y,MapKept.run_setObj_map _ g,Result.andThen,World.putObj]
  ·rw[c];unfold mA at h ⊢
   apply List.ext_getElem?
   intro i;have s:(es.toList.map λe=>(e.key,e.val))[i]?=(l.map λp=>(Value.int .i64 p.1,Value.agg #[p.2]))[i]?:=by rw[h]
   by_cases e:j=i
   ·subst e;simp[q,b]
   ·simp[e] at s ⊢
    exact s
def r9(h:mA es.toList l)(k:Int):
 ∃g,(∀(d:Nat) (w:aG) (i:TypeId),w.heap[d]?=some (.map es clock)->(Builtin.delete_ #[57,3] i #[.map (some d),I_ k]).run prog w=.ok (.tuple #[]) (w.putObj d (.map g clock)))/\mA g.toList (KH k l):=by
 rcases TN k l 0 with ⟨a,b⟩|⟨j,u,a,b,c⟩
 ·refine⟨es,λd w i e=>?_,by rw[b];exact h⟩
  simp[Builtin.delete_,run_underlying J2,MapKept.run_getObj_map e,zS,mO k h,a,MapKept.run_setObj_map _ e,Result.andThen,World.putObj]
 ·rw[ge] at a;have f:es.toList.length=l.length:=by have:=congrArg List.length h;simpa using this
  have m:j<es.size:=by have:=f;simp at this;omega
  refine⟨es.eraseIdxIfInBounds j,λd w i e=>?_,?_⟩
  ·simp[Builtin.delete_,run_underlying J2,MapKept.run_getObj_map e,zS,mO k h,a,MapKept.run_setObj_map _ e,Result.andThen,World.putObj]
  ·rw[c];unfold mA at h ⊢
   unfold Array.eraseIdxIfInBounds;rw[dif_pos m];simp only[Array.toList_eraseIdx];rw[ChangeMaps.map_eraseIdx,ChangeMaps.map_eraseIdx,h]
attribute [local go_sem] Oper.semAt_some
def RZ(w:aG):Calls prog 42 #[.string ⟨#[]⟩] w λe b=>e=aX (.tuple #[.agg #[.nilIface],I_ 0,I_ 0])/\Below w.heap.size w b:=by
 have a:=aB ((eh w.heap.size w).alloc cL (.cells #[.nilIface] 90));go_in
 go_wp2
 exact bodyPost_ret (v:=.tuple #[.agg #[.nilIface],I_ 0,I_ 0]) (by simp[results,results42,go_sem]) rfl ⟨rfl,a⟩
def RY(w:World)(b:ByteArray)(R:Value->Nat->Nat->World->Prop)(u:b.toList.isEmpty=false)(B:b.size<=281474976710656)
 (p:Hid (∀W,Below w.heap.size w W->W.heap[w.heap.size]?=some (.cells #[.nilIface] 90 (0,0))->Calls prog 25 #[.string b] W λe j=>∃(v:Value) (k l:Nat),v.oneCell'=true/\(v=.nilIface\/∃t z,v=.iface t z)/\e=.returned (.tuple #[v,.int .i64 k,.int .i64 l])/\j.heap[w.heap.size]?=some (.cells #[.nilIface] 90 (0,0))/\R v k l (j.setCell ⟨w.heap.size,0,none⟩ v))):
 Calls prog 42 #[.string b] w λe j=>∃(v:Value) (k l:Nat),e=.returned (.tuple #[.agg #[v],.int .i64 k,.int .i64 l])/\R v k l j:=by
 have q:=aB λW=>MM b W B
 have s:(w.alloc (.cells #[.nilIface] 90)).heap[w.heap.size]?=some (.cells #[.nilIface] 90 (0,0)):=aN _ _ rfl _;have c:Below w.heap.size w (w.alloc (.cells #[.nilIface] 90)):=(eh _ w).alloc (en _) _;have o:=aB s;have HBel:=aB c;clear s c;go_enter func42,ntmps42;go_wp2_with fail;refine(q.out _).mono ?_;rintro e n ⟨rfl,d⟩;have g:Below w.heap.size w n:=HBel.out.trans (d.mono HBel.out.size);have f:n.heap[w.heap.size]?=some (.cells #[.nilIface] 90 (0,0)):=(d.block _ (aC o.out)).trans o.out;have h:=aB (p.out n g f);clear d g f p q HBel o;go_wp2_with fail;refine h.out.mono ?_;rintro e D ⟨v,k,l,F,C,rfl,a,r⟩;have y:=aA (i:=0) a rfl;have x:=aD (i:=0) a;have G:=aC a;have m:(D.setCell ⟨w.heap.size,0,none⟩ v).cell? ⟨w.heap.size,0,none⟩=some v:=aA (aK a) rfl;have E:=aB r;have A:=aB m;clear r h a m;rcases C with rfl|⟨t,z,rfl⟩
 all_goals
  go_wp2_with fail;have m:=A.out;clear y x;exact bodyPost_ret (v:=.tuple #[.agg #[_],.int .i64 k,.int .i64 l]) (by simp[results,results42,go_sem,m]) rfl ⟨_,k,l,rfl,E.out⟩
def C1(w:aG)(sb d:Nat)(f:Int)(j:ByteArray)(P:Nat->Nat->World->Prop)
 (p:Hid (Calls prog 42 #[.string j] w λe g=>∃(v:aQ) (k l:Nat),e=aX (.tuple #[.agg #[v],I_ k,I_ l])/\(v=.nilIface\/∃t z,v=.iface t z)/\(k≠0->P k l (g.alloc (.cells #[v] 90)))/\
   (k=0->sb<g.heap.size/\g.cell? (aH sb 6)=some (.map (some d))/\∃m b h a,g.heap[d]?=some (.map m b)/\(∀(d:Nat) (V:aG),V.heap[d]?=some (.map m b)->(Instr.mapUpdate 57 (.map (some d)) (I_ f) (.agg #[v])).run prog V=.ok () (V.putObj d (.map h a)))/\
     ∀V,aU ((g.alloc (.cells #[v] 90)).putObj d (.map h a)) V->P 0 0 V))):
 Calls prog 20 #[aZ sb,I_ f,.string j] w λe g=>∃k l:Nat,e=aX (.tuple #[I_ k,I_ l])/\P k l g:=by
 go_in
 go_wp2_with fail;refine p.mono ?_;rintro e y ⟨v,k,l,rfl,u,o,n⟩;by_cases s:k=0
 ·subst s;obtain⟨E,F,m,b,h,a,r,c,x⟩:=n rfl;have HRun:=aB c;have B:=aB x;have q:=(ie.1 r).1;have i:(y.alloc (.cells #[v] 90)).drew.heap[d]?=some (.map m b):=(ek _ _ _ q).trans r;have D:=c d _ i;clear o n c x p r i;rcases u with rfl|⟨t,z,rfl⟩
  all_goals
   go_upto_region 4 with fail
   go_region
   all_goals
    dsimp only[Exit.then]
    go_wp2
    exact bodyPost_ret (v:=.tuple #[I_ 0,I_ 0]) (by simp[results,results20,go_sem]) rfl ⟨0,0,rfl,B _ ⟨rfl,rfl,rfl,rfl⟩⟩
 ·have A:¬(k:Int)=0:=o_
  have C:=aB (o s);clear o n p;rcases u with rfl|⟨t,z,rfl⟩
  all_goals
   go_wp2
   exact bodyPost_ret (v:=.tuple #[I_ k,I_ l]) (by simp[results,results20,go_sem]) rfl ⟨k,l,rfl,C⟩
def A9(w:aG)(sb c clock:Nat)(es f:Array MapEntry)(b:Int)(v:aQ)(a:Bool)(P:World->Prop)(q:sb<w.heap.size)(p:w.cell? (aH sb 6)=some (.map (some c)))(n:v=.nilIface\/∃t z,v=.iface t z)(i:w.heap[c]?=some (.map es clock))
 (l:(Instr.lookup 57 (.map (some c)) (I_ b) true).run prog w=.ok (.tuple #[.agg #[v],.bool a]) w)
 (j:Hid (∀(c:Nat) (V:aG) (h:TypeId),V.heap[c]?=some (.map es clock)->(Builtin.delete_ #[57,3] h #[.map (some c),I_ b]).run prog V=.ok (.tuple #[]) (V.putObj c (.map f clock))))
 (o:Hid (P ((w.alloc (.cells #[v] 90)).putObj c (.map f clock)))):
 Calls prog 21 #[aZ sb,I_ b] w λe k=>e=aX (.bool a)/\P k:=by
 have g:=(ie.1 i).1;have d:(w.alloc (.cells #[v] 90)).heap[c]?=some (.map es clock):=(ek _ _ _ g).trans i;have m:=λh=>j c _ h d
 clear i d j g;rcases n with rfl|⟨t,z,rfl⟩
 all_goals
  go_in
  go_wp2
  go_ret;exact⟨rfl,o⟩
def ZJ(v:SV)(W:aG):Calls prog 71 #[.agg #[.nilIface],v.val] W λe W'=>e=aX (.bool true)/\Below W.heap.size W W':=by
 have c:=aB λ(a b:Obj)=>((eh W.heap.size W).alloc cL a).alloc s_ b
 unfold SV.val;go_in
 go_wp2
 go_ret;exact⟨rfl,c _ _⟩
def ZI(v:SV)(W:aG)(t:TypeId)(z:aQ)(r:(cC × Nat) × Nat × Nat)(b:Bool)(i:b=decide (r=((([116,114,117,101]:cC),0),0,0)))
 (j:Hid (∀f,Below W.heap.size W f->Calls prog 26 #[v.val,.iface t z] f λe k=>e=aX (.agg #[.string (bs r.1.1),I_ r.1.2,I_ r.2.1,I_ r.2.2])/\Below f.heap.size f k)):
 Calls prog 71 #[.agg #[.iface t z],v.val] W λe W'=>e=aX (.bool b)/\Below W.heap.size W W':=by
 have h:∀(x y:Obj),Below W.heap.size W ((W.alloc x).alloc y):=λa b=>((eh W.heap.size W).alloc cL a).alloc s_ b
 have c:=aB λ(x y:Obj)=>j _ (h x y)
 have g:=aB h;unfold SV.val at c
 have s:∀V,(binOp .eql 71 (.agg #[.string (bs r.1.1),I_ r.1.2,I_ r.2.1,I_ r.2.2]) (.agg #[.string ⟨#[116,114,117,101]⟩,I_ 0,I_ 0,I_ 0])).run prog V=.ok (.bool b) V:=λV=>by
  have:=aY_ r.1.1 [116,114,117,101] r.1.2 r.2.1 r.2.2 0 0 0 V;rw[i];refine this.trans ?_;congr 2
  obtain⟨⟨A,w⟩,u,q⟩:=r;rw[iw];simp only[Prod.mk.injEq,fy,beq_iff_eq,decide_eq_true_eq];constructor
  ·rintro⟨d,l,o,m⟩;exact⟨⟨d,o_⟩,o_,o_⟩
  ·rintro⟨⟨d,l⟩,o,m⟩;exact⟨d,o_,o_,o_⟩
 unfold SV.val;clear h j i;go_in
 go_wp2_with fail;refine(c _ _).mono ?_;rintro e p ⟨rfl,d⟩;have n:=aB ((g _ _).trans (d.mono (g _ _).size));clear d c g;go_wp2
 go_ret;exact⟨rfl,n⟩
attribute [local go_sem] Oper.semAt_some
def MB(W:aG)(sb w E:Nat)(v:SV)(u:aQ)(m ok b:Bool)(x:sb<W.heap.size)(F:W.cell? (aH sb 6)=some (.map (some w)))(D:u=.nilIface\/∃t z,u=.iface t z)
 (B:Hid (∀f,Below W.heap.size W f->Calls prog 70 #[v.val] f λe q=>e=aX (.tuple #[I_ E,.bool m])/\Below f.heap.size f q))
 (C:Hid (∀f,Below W.heap.size W f->(Instr.lookup 57 (.map (some w)) (I_ E) true).run prog f=.ok (.tuple #[.agg #[u],.bool ok]) f))
 (y:Hid (ok=true->∀f,Below W.heap.size W f->Calls prog 71 #[.agg #[u],v.val] f λe q=>e=aX (.bool b)/\Below f.heap.size f q)):
 Calls prog 41 #[aZ sb,v.val] W λe q=>e=aX (.bool (m && (ok && b)))/\Below W.heap.size W q:=by
 have l:Below W.heap.size W (W.alloc (.cells v.cells 53)):=(eh _ W).alloc cL _;have r:(W.alloc (.cells v.cells 53)).heap[W.heap.size]?=some (.cells v.cells 53 (0,0)):=aN _ _ rfl _;have h:=aB (B _ l);have d:=aB l;have k:=aB r;unfold SV.val SV.cells at h;unfold SV.cells at d k;unfold SV.val at y;unfold SV.val;clear B l r;cases m
 ·go_in
  go_wp2_with fail;refine h.mono ?_;rintro e n ⟨rfl,p⟩;have J:=aB (d.trans (p.mono d.size));clear p h;go_wp2
  go_ret;exact⟨rfl,J⟩
 ·go_in
  go_wp2_with fail;refine h.mono ?_;rintro e n ⟨rfl,p⟩;have g:=d.trans (p.mono d.size);have K:=ej x g.size;have O:n.cell? (aH sb 6)=some (.map (some w)):=(World.cell?_of_block (g.block sb x)).trans F;have P:=C n g;have s:∀o,Below W.heap.size W (n.alloc o):=λo=>g.alloc g.size o
  have c:n.heap[W.heap.size]?=_:=(p.block _ (aC k)).trans k;have a:∀o,(n.alloc o).heap[W.heap.size]?=some (.cells #[I_ v.t,.slice v.x1 v.n1 v.c1,.slice v.x2 v.n2 v.c2,.slice v.x3 v.n3 v.c3,I_ v.q] 53 (0,0)):=λo=>(ek _ _ _ (aC c)).trans c
  have j:=aB s;have G:=λo=>aA (i:=0) (a o) rfl
  have H:=λo=>aA (i:=1) (a o) rfl
  have I:=λo=>aA (i:=2) (a o) rfl
  have L:=λo=>aA (i:=3) (a o) rfl
  have N:=λo=>aA (i:=4) (a o) rfl
  have Q:=aC c;clear p h g C s c a d k x F;cases ok
  ·rcases D with rfl|⟨t,z,rfl⟩
   all_goals
    go_wp2
    go_ret;exact⟨rfl,j _⟩
  ·rcases D with rfl|⟨t,z,rfl⟩
   all_goals
    go_wp2_with fail;refine(y s_ _ (j _)).mono ?_
    rintro e S ⟨rfl,A⟩;have M:=aB ((j _).trans (A.mono (j _).size));clear A y j G H I L N;go_wp2
    go_ret;exact⟨rfl,M⟩
def tL(L:List Nat)(W:aG)(v:aQ):Option aE->Prop
 |none=>v=.nilIface
 |some A=>∃t z lo hi,v=.iface t z/\qF A/\hi<=W.heap.size/\PN (Btw lo hi) W v A/\∀b,lo<=b->b<hi->b∈L
def tL.keep{L':List Nat}{W':aG}{v:aQ}{o:Option aE}(h:tL L W v o)(f:∀b∈L,W'.heap[b]?=W.heap[b]?)(p:W.heap.size<=W'.heap.size)(j:∀b∈L,b∈L'):tL L' W' v o:=by
 cases o with
 |none=>exact h
 |some A=>
  obtain⟨t,z,m,l,i,e,n,g,d⟩:=h;exact⟨t,z,m,l,i,e,o_,g.grow (λk a b=>f k (d k a b)) cL cL,λb a c=>j b (d b a c)⟩
def tL.form{v:aQ}{o:Option aE}(h:tL L W v o):v=.nilIface\/∃t z,v=.iface t z:=by
 cases o with
 |none=>exact d7 h
 |some A=>obtain⟨t,z,b,c,a,_⟩:=h;exact d6 ⟨t,z,a⟩
abbrev Bps:=List (Int × Option aE)
def AR(l:Bps)(k:Int):Option (Option aE):=(l.find? (·.1==k)).map (·.2)
def XL(k:Int)(v:Option aE):Bps->Bps
 |[]=>[(k,v)]
 |p::l=>if k==p.1 then (k,v)::l else p::XL k v l
def W9(k:Int):Bps->Bps
 |[]=>[]
 |p::l=>if k==p.1 then l else p::W9 k l
def KV(L:List Nat)(W:aG):List (Int × Value)->Bps->Prop
 |[],[]=>True
 |p::l,q::m=>p.1=q.1/\tL L W p.2 q.2/\KV L W l m
 |_,_=>False
section
variable {L L':List Nat} {W W':aG}
def KV.keep(a:∀b∈L,W'.heap[b]?=W.heap[b]?)(c:W.heap.size<=W'.heap.size)(d:∀b∈L,b∈L'):∀{l:List (Int × Value)} {m:Bps},KV L W l m->KV L' W' l m
 |[],[],_=>trivial
 |_::_,_::_,⟨f,e,g⟩=>⟨f,e.keep a c d,KV.keep a c d g⟩
 |[],_::_,h=>h.elim
 |_::_,[],h=>h.elim
def KV.look(k:Int):∀{l:List (Int × Value)} {m:Bps},KV L W l m->(nF l k=none/\AR m k=none)\/∃v o,nF l k=some v/\AR m k=some o/\tL L W v o
 |[],[],_=>d7 ⟨rfl,rfl⟩
 |p::l,q::m,⟨f,g,i⟩=>by
  by_cases e:q.1=k
  ·exact d6 ⟨p.2,q.2,by simp[nF,f,e],by simp[AR,e],g⟩
  ·have d:(q.1==k)=false:=by simpa using e
   rcases KV.look k i with ⟨a,b⟩|⟨v,o,a,b,c⟩
   ·exact d7 ⟨by simpa [nF,f,d] using a,by simpa [AR,d] using b⟩
   ·exact d6 ⟨v,o,by simpa [nF,f,d] using a,by simpa [AR,d] using b,c⟩
 |[],_::_,h=>h.elim
 |_::_,[],h=>h.elim
def KV.put{k:Int}{v:aQ}{o:Option aE}(a:tL L W v o):∀{l:List (Int × Value)} {m:Bps},KV L W l m->KV L W (JM k v l) (XL k o m)
 |[],[],_=>⟨rfl,a,trivial⟩
 |p::l,q::m,⟨b,e,d⟩=>by
  by_cases c:k==q.1
  ·simp only[JM,XL,b,c,if_true];exact⟨rfl,a,d⟩
  ·simp only[JM,XL,b,c];exact⟨b,e,KV.put a d⟩
 |[],_::_,h=>h.elim
 |_::_,[],h=>h.elim
def KV.del{k:Int}:∀{l:List (Int × Value)} {m:Bps},KV L W l m->KV L W (KH k l) (W9 k m)
 |[],[],_=>trivial
 |p::l,q::m,⟨a,d,c⟩=>by
  by_cases b:k==q.1
  ·simp only[KH,W9,a,b,if_true];exact c
  ·simp only[KH,W9,a,b];exact⟨a,d,KV.del c⟩
 |[],_::_,h=>h.elim
 |_::_,[],h=>h.elim
end
def QN(L:List Nat)(W:aG)(mo:Obj)(m:Bps):Prop:=∃es clock l,mo=.map es clock/\mA es.toList l/\KV L W l m
def QN.keep{L':List Nat}{W':aG}{c:Obj}{m:Bps}(h:QN L W c m)(d:∀b∈L,W'.heap[b]?=W.heap[b]?)(k:W.heap.size<=W'.heap.size)(f:∀b∈L,b∈L'):QN L' W' c m:=by
 obtain⟨i,a,l,g,e,j⟩:=h;exact⟨i,a,l,g,e,j.keep d k f⟩
def QN.none(L:List Nat)(W:aG):QN L W (.map #[] 0) []:=⟨#[],0,[],rfl,rfl,trivial⟩
noncomputable def FZ(m:Bps)(s:aW):Bool:=match rL s with
 |none=>false
 |some ln=>match AR m ln with
  |none=>false
  |some none=>true
  |some (some A)=>decide (eQ s A=((([116,114,117,101]:cC),0),0,0))
def jD.cell6{a:Nat}{c:Obj}{d:Nat->Option aW}(h:jD fp F w sb a c d s n):w.cell? (aH sb 6)=some (.map (some a)):=by
 obtain⟨j,f,i,e,g,b,_⟩:=h.blk;exact aA b rfl
def G8(args:Array Value)(W:aG):(callFunc 41 args).run prog W=.ok (.enter 41 args) W:=(enters_of func41 k_ rfl) args W
def TZ{E:Nat}{mo:Obj}{K:List Int}{L0:List Nat}{m:Bps}(hg:Good ks)(hm:QN L0 w mo m):
 I4 fp sb E mo ks K s L0 w (FZ m) 41 #[aZ sb] #[]:=by
 intro F n L W v p U hk y hv J;obtain⟨es,B,l,rfl,hE,hB⟩:=hm.keep hk U dP;have H:∀b,F b->b<W.heap.size:=λb f=>(y.ses.fix b f).1
 have P:=IM.of hg J;have g:=(hg.sta J).1.deep;have r:=y.ses.map.1;have I:=aC (w:=W) (b:=E) (by exact r)
 show Calls prog 41 #[aZ sb,v.val] W _
 have G:∀d,Below W.heap.size W d->d.heap[E]?=some (.map es B):=λd f=>(f.block E I).trans r
 have i:∀d,Below W.heap.size W d->jC fp F d v.val p:=λd f=>hv.keep (λb C=>f.block b (H b C)) dP
 have u:∀d,Below W.heap.size W d->∀b,F b->b<d.heap.size:=λd f b C=>ej (H b C) f.size
 rcases hB.look ((rL p).getD 0:Nat) with ⟨a,b⟩|⟨N,o,a,b,c⟩
 ·refine(MB W sb E ((rL p).getD 0) v .nilIface (rL p).isSome false false y.ses.lt y.ses.cell6 (d7 rfl) (λd f=>LJ (i d f) (u d f) g) (λd f=>by rw[yX (G d f) hE,a];rfl) (λh=>by cases h)).mono ?_
  rintro e W' ⟨rfl,f⟩;refine⟨?_,f⟩;unfold FZ;cases x:rL p with
  |none=>rfl
  |some ln=>rw[x] at b;simp only[jt] at b;simp only[b];rfl
 ·have Y:=c.form
  have aa:∀d,Below W.heap.size W d->tL L0 d N o:=λd f=>by
   cases o with
   |none=>exact c
   |some A=>
    obtain⟨t,z,S,hi,h1,O,X,T,h5⟩:=c;exact⟨t,z,S,hi,h1,O,em X f.size,T.grow (λk _ q=>f.block k o_) cL cL,h5⟩
  have V:∃M:Bool,(M=match o with|none=>true|some A=>decide (eQ p A=((([116,114,117,101]:cC),0),0,0)))/\∀d,Below W.heap.size W d->Calls prog 71 #[.agg #[N],v.val] d λe w'=>e=aX (.bool M)/\Below d.heap.size d w':=by
   cases o with
   |none=>
    have hn:N=.nilIface:=c;subst hn;exact⟨true,rfl,λd _=>ZJ v d⟩
   |some A=>
    obtain⟨t,z,S,hi,rfl,O,X,T,h5⟩:=c;refine⟨_,rfl,λd f=>ZI v d t z (eQ p A) _ rfl λW2 Z=>?_⟩
    have j:Below W.heap.size W W2:=f.trans (Z.mono f.size);refine nQ (i W2 j) (u W2 j) P O (T.grow (λk _ q=>j.block k o_) (en S) (em X j.size)) (y.pow.below j)
  obtain⟨M,Q,D⟩:=V;refine(MB W sb E ((rL p).getD 0) v N (rL p).isSome true M y.ses.lt y.ses.cell6 Y (λd f=>LJ (i d f) (u d f) g) (λd f=>by rw[yX (G d f) hE,a];rfl) (λ_=>D)).mono ?_
  rintro e W' ⟨rfl,f⟩;refine⟨?_,f⟩;unfold FZ;cases x:rL p with
  |none=>rfl
  |some ln=>
   rw[x] at b;simp only[jt] at b;simp only[b,Q];cases o<;>simp
def jD.remap{d:Nat}{o:Obj}{m:Nat->Option aW}(h:jD fp F w sb d o m s n)(a:Obj):jD fp F (w.putObj d a) sb d a m s n:=by
 obtain⟨D,t,A,r,y,v,p,z,u,x,C,j⟩:=h.blk;have f:∀k,k≠d->(w.putObj d a).heap[k]?=w.heap[k]?:=λk f=>World.putObj_heap_other f
 have l:∀b,F b->(w.putObj d a).heap[b]?=w.heap[b]?:=λb q=>f b (h.fix b q).2.2
 have g:=aC (w:=w) (b:=d) (by exact h.map.1)
 refine⟨⟨D,t,A,r,y,by rw[f sb (λe=>h.map.2 e.symm)];exact v,p.keep l dP,aY z λk c=>f k (λe=>j (e▸c)),u,λi B=>(x i B).keep l dP,C,j⟩,h.now,λk c=>⟨by simpa using (h.fix k c).1,(h.fix k c).2⟩,?_,h.map.2⟩
 show (w.heap.setIfInBounds d a)[d]?=_
 rw[Array.getElem?_setIfInBounds_self_of_lt g]
def Live.remap{d:Nat}{j:Obj}{c:List Int}(h:Live fp F w sb d j ks c s n L)(a:Obj):Live fp F (w.putObj d a) sb d a ks c s n L:=by
 have i:=h.low;have g:(w.putObj d a).heap[sb]?=w.heap[sb]?:=World.putObj_heap_other λe=>h.ses.map.2 e.symm
 refine⟨h.ses.remap a,h.tab.keep (λb f=>World.putObj_heap_other (h.ses.fix b f).2.2) dP,h.pow.low λk r=>World.putObj_heap_other o_,h.low,h.hn,λb f=>?_⟩
 obtain⟨p,q,l,o,m⟩:=h.loc b f;exact⟨p,by simpa using q,l,by rw[nL g];exact o,m⟩
end Go.Proofs.YtlflgmdcghfngaaGreatDoor
