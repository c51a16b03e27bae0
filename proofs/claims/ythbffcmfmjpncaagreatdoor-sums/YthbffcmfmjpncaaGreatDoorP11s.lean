/- Contracts of the program: which method an instruction's do is; is it a begin? -/
import Derived.Test.YthbffcmfmjpncaaGreatDoorP10s
set_option linter.defProp false
set_option maxRecDepth 100000
set_option maxHeartbeats 4000000
namespace Go.Proofs.YthbffcmfmjpncaaGreatDoor
open Hs
open _root_.Go.Proofs.Tryz
open Instr(typeAssert)
open Go.RowKit
variable{o:List (List UInt8)}{t:List Int}{a:List aF}{b:List dN}{b_:Nat}{F G:Nat->Prop}{fp:Nat->Value}{v:Value}{w w':World}{f:aF}{i:aJ}
def Disp(t:TypeId)(f:Nat):Prop:=(∀recv w,(Go.method 524 t recv "hindsight/machine.do").run prog w=.ok (f,recv) w)/\∀a b w,(callFunc f #[a,b]).run prog w=.ok (.enter f #[a,b]) w
def AM(t:TypeId):Prop:=∀v w,(typeAssert (.iface t v) 247 251 true).run prog w=.ok (.tuple #[.agg #[.int .i64 0,.pointer none],.bool false]) w
def WP(v:Value)(w:World):(typeAssert (.iface 251 v) 247 251 true).run prog w=.ok (.tuple #[v,.bool true]) w:=k_
def EA:Disp 242 280:=⟨λ_ _=>by kernel_rfl,λ_ _ _=>by kernel_rfl⟩
def OH:Disp 317 293:=⟨λ_ _=>by kernel_rfl,λ_ _ _=>by kernel_rfl⟩
def KL:Disp 350 305:=⟨λ_ _=>by kernel_rfl,λ_ _ _=>by kernel_rfl⟩
def TV:Disp 244 282:=⟨λ_ _=>by kernel_rfl,λ_ _ _=>by kernel_rfl⟩
def YR:AM 242:=λ_ _=>by kernel_rfl
def YS:AM 244:=λ_ _=>by kernel_rfl
def A9(t:TypeId)(z:Value)(b:Bool):Prop:=(t=251/\(∃l p,z=.agg #[.int .i64 l,.pointer p])/\b=true)\/(AM t/\b=false)
def UT(w:World)(sb:Nat)(L:Nat->World->Prop)(P:World->Prop)(S:Nat->World->Prop)(M:Nat->Nat->Nat->World->Prop)(N:Nat->TypeId->Value->Nat->Bool->World->Prop)(J:Nat)(m:L J w)
 (HL:Hid (∀k W,L k W->∃x n c,W.cell? ⟨sb,1,none⟩=some (.slice x n c)/\sb<W.heap.size/\n<=16/\(n=0->S 1 W)/\(n≠0->∃j,k=j+1/\∃f g,M j f g W)))
 (V:Hid (∀j f g W,M j f g W->Calls prog 95 #[.pointer (some ⟨sb,0,none⟩)] W λe d=>e=.returned (.pointer (some ⟨f,g,none⟩))/\M j f g d))
 (Y:Hid (∀j f g W,M j f g W->Calls prog 152 #[.pointer (some ⟨f,g,none⟩)] W λe d=>∃t z a b,e=.returned (.iface t z)/\Disp t a/\A9 t z b/\N j t z a b d))
 (Z:Hid (∀j t z a b W,N j t z a b W->Calls prog a #[z,.pointer (some ⟨sb,0,none⟩)] W λe d=>(e=.returned (.tuple #[])/\(b=true->∀B,P (d.alloc B))/\(b=false->∀B,L j (d.alloc B)))\/(∃q,e=jQ q/\S q d))):
 Calls prog 105 #[.pointer (some ⟨sb,0,none⟩)] w λe d=>(e=.returned (.tuple #[])/\P d)\/(∃q,e=jQ q/\S q d):=by
 have U:=aB m;clear m;go_enter func105,ntmps105;go_wp2_with fail;go_loopg [2,3,4] J (λgk _ _ _ wr=>L gk wr)
 case atStart=>exact U.out
 case round=>
  obtain⟨x,n,c,c1,hl,hn,C,E⟩:=HL.out _ _ hrel;by_cases m:n=0
  ·subst m;have HZ:=aB (C rfl);clear hrel C E;go_wp2_with fail;exact⟨rfl,F5 ⟨1,rfl,HZ.out⟩⟩
  ·obtain⟨j,rfl,f,g,Q⟩:=E m;have D:=aB (V.out _ _ _ _ Q);have O:(0:Int)<(n:Int):=o_
   clear hrel C E Q;go_wp2_with fail;refine D.out.mono ?_;rintro e w1 ⟨rfl,K⟩;have F:=aB (Y.out _ _ _ _ K);clear K;go_wp2_with fail;refine F.out.mono ?_;rintro e T ⟨t,z,a,b,rfl,u,X,H⟩;have G:=aB (Z.out _ _ _ _ _ _ H);have o:=u.1 z T;have i:=u.2 z (.pointer (some ⟨sb,0,none⟩)) T;clear H u;go_wp2_with fail;refine G.out.mono ?_;rintro e I (⟨rfl,r,v⟩|⟨q,rfl,r⟩)
   ·rcases X with ⟨rfl,⟨l,p,rfl⟩,rfl⟩|⟨s,rfl⟩
    ·have y:=WP (.agg #[.int .i64 l,.pointer p]) I;have A:=aB (r rfl);clear r v o i;go_wp2_with fail;exact⟨rfl,_,results_none r_ _ _ _,F7 ⟨rfl,A.out _⟩⟩
    ·have y:=s z I;have A:=aB (v rfl);clear r v o i s;go_wp2_with fail;go_roundg j
     case measure=>omega
     case rel=>exact A.out _
   ·go_wp2_with fail;exact⟨rfl,F5 ⟨q,rfl,r⟩⟩
def UU{j:Nat}{e:aF}{r:bO × Nat}(h:eQ b (j+1) ⟨a++[e],t,o⟩=some r)(g:e.fetch=some (i,f)):
 ((bU b i a f t o).2≠0->r=bU b i a f t o)/\((bU b i a f t o).2=0->i.isBegin=true->r=bU b i a f t o)/\((bU b i a f t o).2=0->i.isBegin=false->eQ b j (bU b i a f t o).1=some r):=by
 rw[eQ] at h;simp only[fI,g,fY] at h;refine⟨λc=>?_,λc d=>?_,λc d=>?_⟩
 ·rw[if_pos c] at h;cases h;rfl
 ·rw[if_neg (by rw[c];simp),if_pos d] at h;cases h;rfl
 ·rw[if_neg (by rw[c];simp),d] at h;exact h
def ZH(c:o.length<=50):(bU b i a f t o).1.out.length<=50:=by
 cases i<;>simp only[bU]<;>(repeat' split)<;>first|exact c|(simp;omega)
def XD:(bU b i a f t o).1.tape.length<=t.length:=by
 cases i<;>simp only[bU]<;>(repeat' split)<;>first|exact F6 _|simp
section
variable {fp:Nat->Value} {F:Nat->Prop} {b_:Nat} {w:World} {sb gf cap:Nat} {t0 tv u_ s0:Value} {v_:List FVal} {w_:List aF} {f0 f:aF} {tape:List Int} {out:List (List UInt8)}
def dI.fetched{i:aJ}(h:dI fp F b_ w sb gf cap t0 tv u_ s0 v_ ⟨w_++[f0],tape,out⟩)(d:f0.fetch=some (i,f))(K:f0.fn.code.length<=1000000):
 Calls prog 152 #[.pointer (some ⟨gf,w_.length*6,none⟩)] w λe n=>∃v c,e=.returned v/\iX fp F n v i/\dI fp F b_ n sb gf cap t0 tv u_ s0 c ⟨w_++[f],tape,out⟩/\Kept (aI sb gf u_ v_) w n/\aI sb gf u_ c=aI sb gf u_ v_:=by
 obtain⟨M,v,r,rfl,s,t,E,g,C,B,A,Y,V,k4,W⟩:=h.top;rw[<-s]
 obtain⟨N,rfl⟩:f0.fn.code[f0.next]?=some i/\f={ f0 with next:=f0.next+1 }:=by
  unfold aF.fetch at d;cases D:f0.fn.code[f0.next]? with
  |none=>rw[D] at d;cases d
  |some j=>rw[D] at d;simp at d;exact⟨by rw[d.1],d.2.symm⟩
 obtain⟨l,y⟩:=K6.1 N;obtain⟨o,L,T,S,O,X,P,Z,G,I⟩:=t.fn;obtain⟨u,u1,u2⟩:=I f0.next l
 rw[y] at u2;rw[O] at B;rw[t.nx] at A;refine(TO gf (M.length*6) o L f0.fn.code.length T f0.next r _ u w g B A P (aA G u1) u2.form l K).mono ?_
 rintro e n ⟨Q,q,rfl⟩;have m:=bV.drewN w q;have z:=h.grow m.below (λ_ h=>h) (λ_ h=>F7 h)
 have a:KZ fp F b_ (w.drewN q) v f0:=t.keep (λb _=>by rw[m.heap]) (λ_ h=>h) λk _=>by rw[m.heap]
 have p:KZ fp F b_ (w.drewN q) { v with nx:=.int .i64 ((f0.next+1:Nat):Int) } { f0 with next:=f0.next+1 }:=⟨a.fn,rfl,a.ln,a.sp,a.g_,a.ops⟩
 obtain⟨J,U⟩:=z.setTop (j:=1) (x:=.int .i64 ((f0.next+1:Nat):Int)) (v':={ v with nx:=.int .i64 ((f0.next+1:Nat):Int) }) o_ rfl rfl p
 refine⟨u,_,Q,u2.keep (λb H=>?_) (λ_ h=>h),J,(Kept.of_below m.below).trans U λ_ h=>F7 h,by simp[aI,bJ,FVal.owns]⟩
 rw[G0 _ _ _ _ λe=>(h.apart b H).2 (by simp[aI,e]),m.heap]
end
def B3(v:Value)(w:World):(typeAssert (.iface 245 v) 20 245 true).run prog w=.ok (.tuple #[v,.bool true]) w:=k_
def PW(b:Fn)(first a:Array Value)(w:World):(Instr.makeFunc b first a).run prog w=.ok (.func b first a) w:=rfl
def ON(p k:Nat)(a:List PanicEntry)(w:World)(b:w.heap[p]?=some (.cells #[.int .i64 0] 38 (0,0))):
 CallsD prog 151 #[.pointer (some ⟨p,0,none⟩)] (.panicking ({ v:=.iface 245 (.int .i64 k),recovered:=false }::a)) w λe j d=>
  e=.returned (.tuple #[])/\j=.panicking ({ v:=.iface 245 (.int .i64 k),recovered:=true }::a)/\d=w.setCell ⟨p,0,none⟩ (.int .i64 k):=by
 have n:w.cell? ⟨p,0,none⟩=some (.int .i64 0):=aA b rfl;have o:=aE (i:=0) b;have l:=aD b;have f:=B3;refine callsD_of_wpS func151 rfl λc m g=>?_
 apply wpS_seq
 apply wpS_region
 simp[wpOpsS,go_sem,recoverD,g,ntmps151,Exit.thenS];refine wpS_of_wp ?_;clear b;go_wp2_with fail;exact⟨rfl,_,rfl,.tuple #[],by simp[results,results151],rfl,rfl,rfl⟩
def OO(p:Addr)(w:World):
 CallsD prog 151 #[.pointer (some p)] .returning w λe d c=>e=.returned (.tuple #[])/\d=.returning/\c=w:=by
 refine callsD_of_wpS func151 rfl λa f b=>?_
 apply wpS_seq
 apply wpS_region
 simp[wpOpsS,go_sem,recoverD,b,ntmps151,Exit.thenS];refine wpS_of_wp ?_;go_wp2_with fail;exact⟨rfl,a.mode,rfl,.tuple #[],by simp[results,results151],rfl,b,rfl⟩
def yK(b:Nat)(p:Addr)(w:World)(R:Nat->World->Prop)(c:∀a W,(callFunc b #[a]).run prog W=.ok (.enter b #[a]) W)
 (j:Calls prog b #[.pointer (some p)] (w.alloc (.cells #[.int .i64 0] 38)) λe d=>∃k,XX k e/\R k d/\d.heap[w.heap.size]?=some (.cells #[.int .i64 0] 38 (0,0))):
 Calls prog 104 #[.func (.func b) #[.pointer (some p)] #[]] w λe d=>∃(k:Nat) (w1:World),e=.returned (.int .i64 k)/\R k w1/\d=w1.setCell ⟨w.heap.size,0,none⟩ (.int .i64 k):=by
 have r:=PW;have s:=c (.pointer (some p)) (w.alloc (.cells #[.int .i64 0] 38));have m:=aB j;clear j c;go_enter_defers func104,ntmps104
 go_wp2_with fail;refine m.out.mono ?_;rintro e w1 ⟨k,o,q,g⟩;have n:=aB q;have l:w1.cell? ⟨w.heap.size,0,none⟩=some (.int .i64 0):=aA g rfl;have v:=aE (i:=0) g;have x:=aD g;clear q m;rcases o with ⟨rfl,rfl⟩|⟨o,rfl⟩
 ·go_wp2_with fail;refine leaves_cons (f:=151) (args:= #[.pointer (some ⟨w.heap.size,0,none⟩)]) s_ (by simp[go_sem]) ?_
  refine(OO ⟨w.heap.size,0,none⟩ _).mono ?_;rintro e t u ⟨rfl,rfl,rfl⟩;simp[Leaves,settle,results,results104,go_sem,l];exact⟨0,rfl,w1,n.out,rfl⟩
 ·go_wp2_with fail;refine leaves_cons (f:=151) (args:= #[.pointer (some ⟨w.heap.size,0,none⟩)]) s_ (by simp[go_sem]) ?_
  refine(ON w.heap.size k [] _ g).mono ?_;rintro e t y ⟨rfl,rfl,rfl⟩;simp[Leaves,settle,results,results104,go_sem,l];exact⟨k,rfl,w1,n.out,rfl⟩
def WS:(prog.info? 3).map (λi=>(i.zero,i.size,i.bytes))=some (some (.int .i64 0),1,8):=k_
def BZ(g i n c:Nat)(b:List Value)(w:World)(C:b.length=n*1)(H:n<=17592186044416)(s:∀j u,b[j]?=some u->w.cell? ⟨g,i+j,none⟩=some u)(y:∀u∈b,u.oneCell'=true):
 Calls prog 67 #[.slice (some ⟨g,i,none⟩) n c] w λe r=>∃v',e=.returned v'/\r.ownsRow w.heap.size 3 1 v' n b/\Below w.heap.size w r:=by
 obtain⟨A,D,o,p,q⟩:=info_parts WS;have z:=aB s;clear s;have x:∀(w:World) (a:Option Addr) (n c m l:Nat),(binOp .eql 31 (.slice a n c) (.slice none m l)).run prog w=.ok (.bool a.isNone) w:=λw a n c m l=>Lib.run_eql_slice_nil w _ _ a n c m l underlying31
 go_enter func67,ntmps67;go_wp2_with (at_builtin;refine wpList_append_own _ r_ _ _ 31 r_ w.heap.size 3 A _ 1 8 underlying31 D o p q rfl d_ (.slice (some ⟨w.heap.size,0,none⟩) 0 0) 0 [] r_ (World.ownsRow_made w #[] 0 (F6 _) (K5 _) s_) ⟨g,i,none⟩ n c b r_ C (λj u E=>by rw[Addr.add_lit];exact oK _ (z.out j u E)) y (by unfold maxLen;omega) o_ s_ ?_)
 intro v' F d f _;have B:=aB d;have v:=aB f;obtain⟨G,l,rfl⟩:=dV d;clear d f;go_wp2_with fail;go_ret;refine⟨_,rfl,by simpa using B.out,?_⟩
 exact((F9 _ w).alloc (F6 _) _).grown v.out s_ (by intro k t;simp[Value.ownBlock] at t;omega)
def BY(w:World):
 Calls prog 67 #[.slice none 0 0] w λe f=>e=.returned (.slice none 0 0)/\f=w:=by
 have g:∀(w:World) (a:Option Addr) (n c b d:Nat),(binOp .eql 31 (.slice a n c) (.slice none b d)).run prog w=.ok (.bool a.isNone) w:=λw a n c b d=>Lib.run_eql_slice_nil w _ _ a n c b d underlying31
 go_enter func67,ntmps67;go_wp2_with fail;go_ret;exact⟨rfl,rfl⟩
def TK(w:World)(sb a:Nat)(R:Nat->World->Prop)(P:World->Prop)(q:a<=1000000)
 (m:Hid (Calls prog 104 #[.func (.func 105) #[.pointer (some ⟨sb,0,none⟩)] #[]] w λe d=>∃k:Nat,k<=1000/\e=.returned (.int .i64 k)/\R k d))
 (l:Hid (∀k W,R k W->(∃u,W.cell? ⟨sb,4,none⟩=some u)/\W.frozen? ⟨sb,4,none⟩=false/\sb<W.heap.size/\W.cell? ⟨sb,0,none⟩=some (.int .i64 a)))
 (i:Hid (∀k W,R k W->¬(k=0/\a=500)->P (W.setCell ⟨sb,4,none⟩ (.int .i64 k))))
 (o:Hid (∀W,R 0 W->a=500->P ((W.setCell ⟨sb,4,none⟩ (.int .i64 0)).setCell ⟨sb,4,none⟩ (.int .i64 9)))):
 Calls prog 68 #[.pointer (some ⟨sb,0,none⟩)] w λe d=>e=.returned (.tuple #[])/\P d:=by
 have j:=PW;go_enter func68,ntmps68;go_wp2_with fail;refine m.out.mono ?_;rintro e p ⟨k,r,rfl,b⟩;obtain⟨⟨u,v⟩,s,x,t⟩:=l.out _ _ b;by_cases f:k=0
 ·subst f;by_cases g:a=500
  ·subst g;have c:=aB (o.out _ b rfl);clear b;go_wp2_with fail;go_end0;exact⟨rfl,c.out⟩
  ·have c:=aB (i.out _ _ b (λh=>g h.2))
   have n:¬(a:Int)=500:=o_
   clear b;go_wp2_with fail;go_end0;exact⟨rfl,c.out⟩
 ·have c:=aB (i.out _ _ b (λh=>f h.1))
  have n:¬(k:Int)=0:=o_
  clear b;go_wp2_with fail;go_end0;exact⟨rfl,c.out⟩
section
variable {fp:Nat->Value} {F:Nat->Prop} {b_:Nat} {w:World} {sb gf cap:Nat} {t0 tv u_ s0:Value} {v_:List FVal}
def dI.setStop{m:bO}(h:dI fp F b_ w sb gf cap t0 tv u_ s0 v_ m)(x:Value):dI fp F b_ (w.setCell ⟨sb,4,none⟩ x) sb gf cap t0 tv u_ x v_ m/\Kept (aI sb gf u_ v_) w (w.setCell ⟨sb,4,none⟩ x):=by
 obtain⟨d,o⟩:=I5.1 h.nodup;have a:∀k,k≠sb->(w.setCell ⟨sb,4,none⟩ x).heap[k]?=w.heap[k]?:=λk a=>G0 _ _ _ _ a
 have c:∀b,F b->(w.setCell ⟨sb,4,none⟩ x).heap[b]?=w.heap[b]?:=λb j=>a b λe=>(h.apart b j).2 (by simp[aI,e])
 refine⟨⟨aO h.blk,bB h.row λk e=>a k ?_,h.frs.keep c (λ_ h=>h) λv i k f=>a k ?_,h.tape.keep c (λ_ h=>h),bB h.out λk e=>a k ?_,h.nodup,λk a=>by simpa using h.lt k a,λk a=>by simpa using h.apart k a⟩,⟨rfl,rfl,rfl,s_,λk _ n=>a k λe=>n (by simp[aI,e])⟩⟩
 ·cases e;exact λe=>d (by simp[<-e])
 ·have g:k∈bJ v_:=M2.2 ⟨v,i,f⟩;exact λe=>d (by simp[<-e,g])
 ·exact λl=>d (by simp[<-l,e])
def ZN(a:Value)(W:World):(callFunc 105 #[a]).run prog W=.ok (.enter 105 #[a]) W:=k_
end
structure D6(fp:Nat->Value)(F:Nat->Prop)(w:World)(v:FVal)(f:aF):Prop where
 fn:UI fp F w v.fp f.fn
 nx:v.nx=.int .i64 f.next
 ln:v.ln=.int .i64 f.l_
 sp:eS F w v.sp f.e_
 g_:PVs F w v.vv f.g_
 varsB:∀a∈f.g_,aT a<=200
 ops:PVs F w v.ov f.ops
 opsB:∀a∈f.ops,aT a<=200
def D6.keep{v:FVal}(h:D6 fp F w v f)(a:∀b,F b->w'.heap[b]?=w.heap[b]?)(c:∀b,F b->G b):D6 fp G w' v f:=
 ⟨h.fn.keep a c,h.nx,h.ln,eS.keep a c h.sp,(h.g_.keep a).mono c,h.varsB,(h.ops.keep a).mono c,h.opsB⟩
def uY(fp:Nat->Value)(F:Nat->Prop)(w:World):List FVal->List aF->Prop
 |[],[]=>True
 |v::vs,f::fs=>D6 fp F w v f/\uY fp F w vs fs
 |_,_=>False
def uY.keep(a:∀b,F b->w'.heap[b]?=w.heap[b]?)(c:∀b,F b->G b):∀{vs:List FVal} {fs:List aF},uY fp F w vs fs->uY fp G w' vs fs
 |[],[],_=>trivial
 |_::_,_::_,⟨e,d⟩=>⟨e.keep a c,uY.keep a c d⟩
 |[],_::_,h=>h.elim
 |_::_,[],h=>h.elim
def uY.length:∀{vs:List FVal} {fs:List aF},uY fp F w vs fs->vs.length=fs.length
 |[],[],_=>rfl
 |_::_,_::_,⟨_,h⟩=>by simp[uY.length h]
 |[],_::_,h=>h.elim
 |_::_,[],h=>h.elim
def uY.get:∀{vs:List FVal} {fs:List aF},uY fp F w vs fs->∀(i:Nat) v f,vs[i]?=some v->fs[i]?=some f->D6 fp F w v f
 |[],[],_,i,v,f,a,_=>by simp at a
 |_::_,_::_,⟨h,_⟩,0,v,f,a,b=>by simp at a b;subst a;subst b;exact h
 |_::_,_::_,⟨_,h⟩,i+1,v,f,a,b=>uY.get h i v f (by simpa using a) (by simpa using b)
 |[],_::_,h,_,_,_,_,_=>h.elim
 |_::_,[],h,_,_,_,_,_=>h.elim
def QJ(F:Nat->Prop)(w:World)(v:Value)(v_:List FVal):Prop:=
 (v_=[]/\∃x c,v=.slice x 0 c)\/∃g c cur,v=.slice (some ⟨g,0,none⟩) v_.length c/\F g/\w.heap[g]?=some (.cells cur 136 (0,0))/\v_.length<=c/\cur.toList.take (v_.length*6)=fV v_
def QJ.keep{a:List FVal}(h:QJ F w v a)(f:∀b,F b->w'.heap[b]?=w.heap[b]?)(l:∀b,F b->G b):QJ G w' v a:=by
 rcases h with h|⟨g,c,d,j,e,k,i⟩
 ·exact F7 h
 ·exact F5 ⟨g,c,d,j,l g e,by rw[f g e];exact k,i⟩
def QH(F:Nat->Prop)(w:World)(v:Value)(l:List (List UInt8)):Prop:=
 (l=[]/\v=.slice none 0 0)\/∃g c cur,v=.slice (some ⟨g,0,none⟩) l.length c/\F g/\w.heap[g]?=some (.cells cur 9 (0,0))/\l.length<=c/\cur.toList.take l.length=VC l
def QH.keep{l:List (List UInt8)}(h:QH F w v l)(e:∀b,F b->w'.heap[b]?=w.heap[b]?)(k:∀b,F b->G b):QH G w' v l:=by
 rcases h with h|⟨g,c,a,i,d,j,f⟩
 ·exact F7 h
 ·exact F5 ⟨g,c,a,i,k g d,by rw[e g d];exact j,f⟩
def LC(fp:Nat->Value)(F:Nat->Prop)(w:World)(v:Value)(s:fU):Prop:=
 ∃fv tv u_ v_,v=.agg #[.int .i64 s.m_,fv,tv,u_,.int .i64 s.stop]/\QJ F w fv v_/\uY fp F w v_ s.m.f_/\vY F w tv s.m.tape/\QH F w u_ s.m.out
def LC.keep{s:fU}(h:LC fp F w v s)(c:∀b,F b->w'.heap[b]?=w.heap[b]?)(d:∀b,F b->G b):LC fp G w' v s:=by
 obtain⟨m,g,a,e,j,f,l,i,k⟩:=h;exact⟨m,g,a,e,j,f.keep c d,l.keep c d,i.keep c d,k.keep c d⟩
def iY.kept(b:∀k,F k->G k):∀{vs:List FVal} {fs:List aF},iY fp F b_ w vs fs->(∀v∈vs,∀k∈v.owns,G k)->uY fp G w vs fs
 |[],[],_,_=>trivial
 |v::_,_::_,⟨a,g⟩,c=>by
  have d:=c v (K8 ..);obtain⟨⟨p,n,o⟩,j⟩:=a.g_;obtain⟨⟨q,f,m⟩,i⟩:=a.ops;exact⟨⟨a.fn.keep (λ_ _=>rfl) b,a.nx,a.ln,eS.keep (λ_ _=>rfl) b a.sp,PVs.ofRow n (o.mono b) λk e=>d k (by simp[FVal.owns,e]),j,PVs.ofRow f (m.mono b) λk e=>d k (by simp[FVal.owns,e]),i⟩,iY.kept b g λu l=>c u (L6 _ l)⟩
 |[],_::_,h,_=>h.elim
 |_::_,[],h,_=>h.elim
def dI.kept{sb l i d c:Nat}{s a:Value}{b:List FVal}{m:bO}(h:dI fp F b_ w sb l i (.int .i64 d) s a (.int .i64 c) b m)(y:∀k,F k->G k)(B:∀k∈aI sb l a b,k≠sb->G k):
 LC fp G w (.agg #[.int .i64 d,.slice (some ⟨l,0,none⟩) b.length i,s,a,.int .i64 c]) ⟨d,m,c⟩:=by
 obtain⟨E,H⟩:=I5.1 h.nodup;have p:∀k,k∈l::(a.ownBlock.toList++bJ b)->k≠sb:=λk n e=>E (by rw[<-e];exact n)
 have q:∀k,k∈l::(a.ownBlock.toList++bJ b)->G k:=λk n=>B k (L6 _ n) (p k n)
 refine⟨_,s,a,b,rfl,?_,iY.kept y h.frs λv D k n=>q k ?_,h.tape.keep (λ_ _=>rfl) y,?_⟩
 ·rcases h.row.2 with ⟨f,_⟩|⟨u,g,j,f,x,o,r,A,z,t⟩
  ·cases f
  ·cases f;exact F5 ⟨l,i,j,rfl,q l s_,o,r,t⟩
 ·have C:k∈bJ b:=M2.2 ⟨v,D,n⟩;simp[C]
 ·rcases h.out.2 with ⟨f,x⟩|⟨u,g,j,f,x,o,r,A,z,t⟩
  ·exact F7 ⟨I4 x,f⟩
  ·exact F5 ⟨u,g,j,f,q u (by rw[f];simp[Value.ownBlock]),o,r,by simpa using t⟩
def Kept.setCell{own:List Nat}{W:World}(h:Kept own w W)(p:Addr)(x:Value)(b:p.block∈own):Kept own w (W.setCell p x):=
 ⟨h.os,h.tape,h.output,by simpa using h.size,λk c a=>by rw[G0 _ _ _ _ λe=>a (by rw[e];exact b),h.block k c a]⟩
def WZ(a b:List FVal)(v:FVal)(i:Nat)(c:i<6):(fV (a++v::b))[a.length*6+i]?=v.cells[i]?:=by
 rw[iS,I3 (by rw[dU];omega),dU,L8]
 show (v.cells++fV b)[i]?=_
 rw[J7 (by exact c)]
def TN(a b:List FVal)(v v':FVal)(i:Nat)(x:Value)(d:i<6)(c:v'.cells=v.cells.set i x):(fV (a++v::b)).set (a.length*6+i) x=fV (a++v'::b):=by
 rw[iS,iS,List.set_append_right _ _ (by rw[dU];omega),dU,L8]
 show fV a++(v.cells++fV b).set i x=fV a++(v'.cells++fV b)
 rw[List.set_append_left _ _ (by exact d),c]
structure CI(w:World)(m_ stop n g cap:Nat)(tv xo:Value)(fvs':List FVal)(own:List Nat)(W:World):Prop where
 row:W.ownsRow (w.heap.size+2) 136 6 (.slice (some ⟨g,0,none⟩) n cap) n (fV fvs')
 nodup:(g::own).Nodup
 rng:∀k∈g::own,w.heap.size+2<=k/\k<W.heap.size
 bel:Below w.heap.size w W
 b1:W.heap[w.heap.size]?=some (.cells #[.int .i64 m_,.slice (some ⟨g,0,none⟩) n cap,tv,xo,.int .i64 stop] 72 (0,0))
 b2:W.heap[w.heap.size+1]?=some (.cells #[.int .i64 0,.slice none 0 0,.slice none 0 0,.slice none 0 0,.int .i64 0] 72 (0,0))
section
variable {w:World} {m_ stop n g cap:Nat} {tv xo:Value} {own:List Nat} {W W':World} {a b:List FVal} {v v':FVal}
def CI.cell(h:CI w m_ stop n g cap tv xo (a++v::b) own W)(i:Nat)(d:i<6):W.cell? ⟨g,a.length*6+i,none⟩=v.cells[i]?/\W.frozen? ⟨g,a.length*6+i,none⟩=false/\g<W.heap.size:=by
 refine⟨?_,h.row.frozenAt _,(h.rng g s_).2⟩
 have c:=h.row.1;rw[dU,F8,G1] at c;rw[h.row.cellAt (a.length*6+i) o_,WZ a b v i d]
def CI.grow{a:List FVal}(h:CI w m_ stop n g cap tv xo a own W)(d:Below W.heap.size W W')(o:Option Nat)(i:∀k,o=some k->W.heap.size<=k/\k<W'.heap.size):CI w m_ stop n g cap tv xo a (own++o.toList) W':=by
 have j:=h.bel.size;have p:=aD h.b1;have l:=aD h.b2;refine⟨gG h.row d,?_,λk b=>?_,h.bel.trans (d.mono j),by rw[d.block _ p];exact h.b1,by rw[d.block _ l];exact h.b2⟩
 ·rw[<-J3];refine K9.2 ⟨h.nodup,by cases o<;>simp,λx q y m e=>?_⟩
  subst e;have f:o=some x:=by simpa using m
  have:=(h.rng x q).2;have:=(i x f).1;omega
 ·rw[<-J3] at b;rcases G8.1 b with b|b
  ·exact⟨(h.rng k b).1,G3 (h.rng k b).2 d.size⟩
  ·have c:o=some k:=by simpa using b
   have:=(i k c).1;exact⟨o_,(i k c).2⟩
def CI.set(h:CI w m_ stop n g cap tv xo (a++v::b) own W)(i:Nat)(e:i<6)(x:Value)(d:v'.cells=v.cells.set i x):CI w m_ stop n g cap tv xo (a++v'::b) own (W.setCell ⟨g,a.length*6+i,none⟩ x):=by
 have f:=(h.rng g s_).1
 have c:∀k,k≠g->(W.setCell ⟨g,a.length*6+i,none⟩ x).heap[k]?=W.heap[k]?:=λk c=>G0 _ _ _ _ c
 refine⟨?_,h.nodup,λk c=>⟨(h.rng k c).1,by simpa using (h.rng k c).2⟩,h.bel.setCell (by show w.heap.size<=g;omega) _,by rw[c _ o_];exact h.b1,by rw[c _ o_];exact h.b2⟩
 rw[<-TN a b v v' i x e d];exact(h.row.stored _ _).1
def CI.keep{a:List FVal}(h:CI w m_ stop n g cap tv xo a own W):w.heap.size<W.heap.size/\w.heap.size+1<W.heap.size:=⟨aD h.b1,aD h.b2⟩
end
structure A7(fp:Nat->Value)(F:Nat->Prop)(b_:Nat)(w:World)(gf cap:Nat)(tv u_:Value)(v_:List FVal)(m:bO):Prop where
 row:w.ownsRow b_ 136 6 (.slice (some ⟨gf,0,none⟩) v_.length cap) v_.length (fV v_)
 frs:iY fp F b_ w v_ m.f_
 tape:vY F w tv m.tape
 out:w.ownsRow b_ 9 1 u_ m.out.length (VC m.out)
 nodup:(gf::(u_.ownBlock.toList++bJ v_)).Nodup
 rng:∀k∈gf::(u_.ownBlock.toList++bJ v_),b_<=k/\k<w.heap.size
def PVs.cells{l:List aH}(h:PVs F w v l)(p:l.length<=1000000):
 ∃x c,v=.slice x l.length c/\Calls prog 199 #[.slice x l.length c] w λe a=>∃d b n,e=.returned (.slice d l.length b)/\a.ownsRow w.heap.size 180 1 (.slice d l.length b) l.length n/\fO F w n l/\Below w.heap.size w a:=by
 rcases h.row with ⟨rfl,rfl⟩|⟨g,f,m,rfl,y,r,i,s⟩
 ·refine⟨none,0,rfl,(BW w).mono ?_⟩;rintro e a ⟨rfl,rfl⟩;exact⟨none,0,[],rfl,World.ownsRow_nil _ _ _ _,fO.nil _ _,F9 _ _⟩
 ·refine⟨_,_,rfl,(BX g 0 l.length f m w (by rw[i.1];omega) p (λj u q=>by rw[O0];exact s j u q) (DK i)).mono ?_⟩
  rintro e a ⟨t,rfl,k,o⟩;obtain⟨d,b,rfl⟩:=dV k;exact⟨d,b,m,rfl,k,i,o⟩
def TL{vs:List FVal}{fs:List aF}(h:iY fp F b_ w vs fs)(e:∀b,F b->w'.heap[b]?=w.heap[b]?)(c:∀k∈bJ vs,w'.heap[k]?=w.heap[k]?):iY fp F b_ w' vs fs:=
 h.keep e (λ_ h=>h) λv d k a=>c k (M2.2 ⟨v,d,a⟩)
def MO{n k:Nat}{t:TypeId}{a:List Value}(h:w.ownsRow b_ t k v n a):∃x l c,v=.slice x l c:=by
 obtain⟨x,c,e⟩:=dV h;exact⟨x,n,c,e⟩
def LC.form{s:fU}(h:LC fp F w v s):∃b tv xo,v=.agg #[.int .i64 s.m_,b,tv,xo,.int .i64 s.stop]/\(∃x l c,b=.slice x l c)/\(∃x l c,tv=.slice x l c)/\(∃x l c,xo=.slice x l c):=by
 obtain⟨b,tv,xo,k,rfl,a,i,f,d⟩:=h;refine⟨b,tv,xo,rfl,?_,?_,?_⟩
 ·rcases a with ⟨_,x,c,e⟩|⟨g,c,j,e,_⟩<;>exact⟨_,_,_,e⟩
 ·rcases f with ⟨_,x,c,e⟩|⟨g,o,c,e,_⟩<;>exact⟨_,_,_,e⟩
 ·rcases d with ⟨_,e⟩|⟨g,c,m,e,_⟩<;>exact⟨_,_,_,e⟩
def A7.run{i g:Nat}{l a:Value}{c:List FVal}{m:bO}(h:A7 fp F b_ w i g l a c m)(v:∀b,F b->b<b_)(f:b_<=w.heap.size)(r q:Value):
 dI fp F b_ (w.alloc (.cells #[r,.slice (some ⟨i,0,none⟩) c.length g,l,a,q] 72)) w.heap.size i g r l a q c m/\∀k∈aI w.heap.size i a c,b_<=k:=by
 generalize s:w.alloc (.cells #[r,.slice (some ⟨i,0,none⟩) c.length g,l,a,q] 72)=W;have u:Below w.heap.size w W:=by rw[<-s];exact(F9 _ w).alloc (F6 _) _
 have x:W.heap.size=w.heap.size+1:=by rw[<-s];simp
 have o:W.heap[w.heap.size]?=some (.cells #[r,.slice (some ⟨i,0,none⟩) c.length g,l,a,q] 72 (0,0)):=by rw[<-s];exact aU _ _ rfl _
 have p:∀b,F b->W.heap[b]?=w.heap[b]?:=λb t=>u.block b (G3 (v b t) f)
 have j:∀k∈i::(a.ownBlock.toList++bJ c),W.heap[k]?=w.heap[k]?:=λk d=>u.block k (h.rng k d).2
 refine⟨⟨o,bB h.row λk e=>by cases e;exact j i s_,TL h.frs p λk d=>j k (by simp[d]),h.tape.keep p (λ_ h=>h),bB h.out λk e=>j k (by simp[e]),?_,λk d=>?_,λk d=>?_⟩,λk d=>?_⟩
 ·exact I5.2 ⟨λn=>by have:=(h.rng _ n).2;omega,h.nodup⟩
 ·rcases G9.1 d with rfl|d
  ·omega
  ·have:=(h.rng k d).2;omega
 ·have y:=v k d;refine⟨o_,λn=>?_⟩
  rcases G9.1 n with rfl|n
  ·omega
  ·have:=(h.rng k n).1;omega
 ·rcases G9.1 d with rfl|d
  ·exact f
  ·exact(h.rng k d).1
end Go.Proofs.YthbffcmfmjpncaaGreatDoor
