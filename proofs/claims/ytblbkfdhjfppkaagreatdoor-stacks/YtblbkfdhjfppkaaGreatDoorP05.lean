/- Contracts of the program: the parser's small steps. -/
import Derived.Test.YtblbkfdhjfppkaaGreatDoorP02
set_option linter.defProp false
set_option maxRecDepth 100000
set_option maxHeartbeats 4000000
namespace Go.Proofs.YtblbkfdhjfppkaaGreatDoor
open Hs
open _root_.Go.Proofs.Tryz
open Go.RowKit
def psort(s:Nat):Nat:=if s=110 then 1 else if s=48 then 2 else if s=115 then 3 else if s=101 then 4 else 0
def pval(t:aX):Nat:=if t.sort=48 then (dG 0 t.text).getD 0 else 0
def ptok(t:aX):List Value:=[.int .i64 (psort t.sort),.string (bs t.text),.int .i64 (pval t),.int .i64 t.line]
def ptoks:List aX->List Value
 |[]=>[]
 |t::ts=>ptok t++ptoks ts
def KJ(ts:List aX):(ptoks ts).length=ts.length*4:=by
 induction ts with
 |nil=>rfl
 |cons t ts a=>simp[ptoks,ptok,a];omega
def CE(ts:List aX)(t:aX):ptoks (ts++[t])=ptoks ts++ptok t:=by
 induction ts with
 |nil=>simp[ptoks]
 |cons x ts a=>simp[ptoks,a]
structure PAt(C:Ctx)(w:World)(p:Nat):Prop where
 blk:w.heap[C.pb]?=some (.cells #[.slice (some ⟨C.g,0,none⟩) C.ts.length C.cap,.int .i64 p] 144 (0,0))
 row:∃cur,w.heap[C.g]?=some (.cells cur 206 (0,0))/\cur.toList.take (C.ts.length*4)=ptoks C.ts
 ne:C.g≠C.pb
 lt:p<C.ts.length
 len:C.ts.length<=3000
 cap:C.ts.length<=C.cap
 all:rG C.ts
 tsk:EB C.ts
def YO(ts:List aX)(p:Nat)(h:p<ts.length):(ptoks ts)[p*4]?=some (.int .i64 (psort (aP ts p).sort))/\(ptoks ts)[p*4+1]?=some (.string (bs (aP ts p).text))/\(ptoks ts)[p*4+1+1]?=some (.int .i64 (pval (aP ts p)))/\(ptoks ts)[p*4+1+1+1]?=some (.int .i64 (aP ts p).line):=by
 induction ts generalizing p with
 |nil=>simp at h
 |cons t ts a=>
  cases p with
  |zero=>simp[ptoks,ptok,aP]
  |succ p=>
   have:=a p (by simpa using h)
   have e:∀j,(ptoks (t::ts))[(p+1)*4+j]?=(ptoks ts)[p*4+j]?:=fun j=>by
    rw[ptoks,aV_ (by simp[ptok];omega)]
    congr 1;simp[ptok];omega
   have b:aP (t::ts) (p+1)=aP ts p:=by simp[aP]
   rw[b];exact⟨(e 0).trans this.1,(e 1).trans this.2.1,(e 2).trans this.2.2.1,(e 3).trans this.2.2.2⟩
def PAt.tok{C:Ctx}{w:World}{p:Nat}(h:PAt C w p):w.cell? ⟨C.g,p*4,none⟩=some (.int .i64 (psort (aP C.ts p).sort))/\w.cell? ⟨C.g,p*4+1,none⟩=some (.string (bs (aP C.ts p).text))/\w.cell? ⟨C.g,p*4+1+1,none⟩=some (.int .i64 (pval (aP C.ts p)))/\w.cell? ⟨C.g,p*4+1+1+1,none⟩=some (.int .i64 (aP C.ts p).line):=by
 obtain⟨c,k,i⟩:=h.row;obtain⟨m,g,d,f⟩:=YO C.ts p h.lt;have n:=KJ C.ts
 have e:∀j v,(ptoks C.ts)[j]?=some v->w.cell? ⟨C.g,j,none⟩=some v:=fun j v a=>by
  have b:j<C.ts.length*4:=by
   by_cases l:j<C.ts.length*4
   ·exact l
   ·rw[a4_ (by omega)] at a;cases a
  refine aA k ?_;rw[<-i,aU_,if_pos b] at a;simpa using a
 exact⟨e _ _ m,e _ _ g,e _ _ d,e _ _ f⟩
def PAt.keep{C:Ctx}{w w':World}{p:Nat}(h:PAt C w p)(e:w'.heap[C.pb]?=w.heap[C.pb]?)(c:w'.heap[C.g]?=w.heap[C.g]?):PAt C w' p:=by
 obtain⟨a,d,b⟩:=h.row;exact⟨by rw[e];exact h.blk,⟨a,by rw[c];exact d,b⟩,h.ne,h.lt,h.len,h.cap,h.all,h.tsk⟩
def PAt.below{C:Ctx}{w w':World}{p:Nat}(h:PAt C w p)(a:Below w.heap.size w w'):PAt C w' p:=by
 obtain⟨b,c,d⟩:=h.row;exact h.keep (a.block _ (aD h.blk)) (a.block _ (aD c))
def PAt.other{C:Ctx}{w:World}{p b i:Nat}{u:Value}(h:PAt C w p)(c:b≠C.pb)(a:b≠C.g):PAt C (w.setCell ⟨b,i,none⟩ u) p:=
 h.keep (ax_ _ _ _ _ (fun e=>c e.symm)) (ax_ _ _ _ _ (fun e=>a e.symm))
def PAt.g_lt{C:Ctx}{w:World}{p:Nat}(h:PAt C w p):C.g<w.heap.size:=by obtain⟨_,a,_⟩:=h.row;exact aD a
def PAt.pb_lt{C:Ctx}{w:World}{p:Nat}(h:PAt C w p):C.pb<w.heap.size:=aD h.blk
def PAt.alloc{C:Ctx}{w:World}{p:Nat}(h:PAt C w p)(o:Obj):PAt C (w.alloc o) p:=h.below ((ay_ _ _).alloc (au_ _) _)
def PAt.drew{C:Ctx}{w:World}{p:Nat}(h:PAt C w p):PAt C w.drew p:=h.below (ay_ _ _).drew
def oE(t:aX):Value:=.agg #[.int .i64 (psort t.sort),.string (bs t.text),.int .i64 (pval t),.int .i64 t.line]
def TP(pb g h p n:Nat)(w:World)(a c d:Int)(b:ByteArray)(x:p<n)(_hn:n<=3000)(_hnc:n<=h)(i:pb<w.heap.size)(f:g<w.heap.size)
 (q:w.cell? ⟨pb,0,none⟩=some (.slice (some ⟨g,0,none⟩) n h)) (c1:w.cell? ⟨pb,1,none⟩=some (.int .i64 p))
 (l:w.cell? ⟨g,p*4,none⟩=some (.int .i64 a)) (m:w.cell? ⟨g,p*4+1,none⟩=some (.string b)) (j:w.cell? ⟨g,p*4+1+1,none⟩=some (.int .i64 c)) (k:w.cell? ⟨g,p*4+1+1+1,none⟩=some (.int .i64 d)):
  Calls prog 133 #[.pointer (some ⟨pb,0,none⟩)] w fun e r=>e=.returned (.agg #[.int .i64 a,.string b,.int .i64 c,.int .i64 d])/\Below w.heap.size w r:=by
 have y:∀o,(w.alloc o).cell? ⟨pb,0,none⟩=some (.slice (some ⟨g,0,none⟩) n h):=fun o=>by rw[World.cell?_alloc_past _ _ _ i];exact q
 have t:∀o,(w.alloc o).cell? ⟨pb,1,none⟩=some (.int .i64 p):=fun o=>by rw[World.cell?_alloc_past _ _ _ i];exact c1
 have s:∀o,(w.alloc o).cell? ⟨g,p*4,none⟩=some (.int .i64 a):=fun o=>by rw[World.cell?_alloc_past _ _ _ f];exact l
 have z:∀o,(w.alloc o).cell? ⟨g,p*4+1,none⟩=some (.string b):=fun o=>by rw[World.cell?_alloc_past _ _ _ f];exact m
 have u:∀o,(w.alloc o).cell? ⟨g,p*4+1+1,none⟩=some (.int .i64 c):=fun o=>by rw[World.cell?_alloc_past _ _ _ f];exact j
 have A:∀o,(w.alloc o).cell? ⟨g,p*4+1+1+1,none⟩=some (.int .i64 d):=fun o=>by rw[World.cell?_alloc_past _ _ _ f];exact k
 clear q c1 l m j k;go_enter func133,ntmps133;go_wp2_with fail;go_region
 go_wp2_with fail;refine bodyPost_ret (v:=.agg #[.int .i64 a,.string b,.int .i64 c,.int .i64 d]) (by simp[results,results133,go_sem]) rfl ⟨rfl,?_⟩
 exact((ay_ _ _).alloc (au_ _) _).drew
def mK(C:Ctx)(w:World)(p:Nat)(h:PAt C w p):
 Calls prog 133 #[.pointer (some ⟨C.pb,0,none⟩)] w fun e a=>e=.returned (oE (aP C.ts p))/\Below w.heap.size w a:=
 TP C.pb C.g C.cap p C.ts.length w _ _ _ _ h.lt h.len h.cap (aD h.blk) (by obtain⟨_,b,_⟩:=h.row;exact aD b) (aA h.blk rfl) (aA h.blk rfl) h.tok.1 h.tok.2.1 h.tok.2.2.1 h.tok.2.2.2
abbrev cX(k n:Nat):Ending:=.panicked [{ v:=.iface 141 (.agg #[.int .i64 k,.int .i64 n]),recovered:=false }]
def gF(k n:Nat)(w:World):
 Calls prog 136 #[.int .i64 k,.int .i64 n] w fun e a=>e=cX k n/\a=w:=by
 go_enter func136,ntmps136;go_wp2_with fail;exact⟨rfl,rfl,rfl⟩
def IB(a c d:Int)(b:ByteArray)(w:World):(Instr.field 206 (.agg #[.int .i64 a,.string b,.int .i64 c,.int .i64 d]) 3).run prog w=.ok (.int .i64 d) w:=by kernel_rfl
def mM(C:Ctx)(w:World)(p:Nat)(h:PAt C w p):
 Calls prog 283 #[.pointer (some ⟨C.pb,0,none⟩)] w fun e f=>e=.returned (.agg #[.int .i64 (aP C.ts p).line])/\Below w.heap.size w f:=by
 have b:=aB (fun o=>mK C (w.alloc o) p (h.below ((ay_ _ _).alloc (au_ _) _)))
 simp only[oE] at b;clear h;go_enter func283,ntmps283;go_wp2_with fail;refine(b.out _).mono ?_;rintro e c ⟨rfl,a⟩;obtain⟨i,j⟩:=bcell a;have k:w.heap.size<c.heap.size:=by have:=a.size;simp at this;omega
 have d:=aB a;have g:=IB;clear a b;go_wp2_with fail;refine bodyPost_ret (v:=.agg #[.int .i64 (aP C.ts p).line]) (by simp[results,results283,go_sem,i]) rfl ⟨rfl,?_⟩
 exact(((ay_ _ _).alloc (au_ _) _).trans (d.out.mono (by simp))).setCell (by simp) _
def PAt.move{C:Ctx}{w w1:World}{p:Nat}(h:PAt C w p)(c:Below w.heap.size w w1)(q:Nat)(e:q<C.ts.length):
 PAt C (w1.setCell ⟨C.pb,1,none⟩ (.int .i64 q)) q/\Fr C.pb w (w1.setCell ⟨C.pb,1,none⟩ (.int .i64 q)):=by
 have b:=h.below c;obtain⟨a,f,d⟩:=b.row;refine⟨⟨?_,⟨a,?_,d⟩,h.ne,e,h.len,h.cap,h.all,h.tsk⟩,Fr.setCell (p:=⟨C.pb,1,none⟩) (Fr.below c) (av_ rfl) _⟩
 ·rw[aS b.blk];rfl
 ·rw[ax_ _ _ _ _ h.ne];exact f
def PAt.cells{C:Ctx}{w w1:World}{p:Nat}(h:PAt C w p)(b:Below w.heap.size w w1):
 C.pb<w1.heap.size/\w1.cell? ⟨C.pb,1,none⟩=some (.int .i64 p)/\w1.frozen? ⟨C.pb,1,none⟩=false:=by
 have a:=h.below b;exact⟨aD a.blk,aA a.blk rfl,aE a.blk⟩
def z8{C:Ctx}{w:World}{p:Nat}(h:PAt C w p)(x:List UInt8):aV C.ts p x=(decide (psort (aP C.ts p).sort=0) && (aP C.ts p).text==x):=by
 unfold aV psort;have:=h.tsk.tk p h.lt;generalize aP C.ts p=t at*;rcases this with h|⟨h,_⟩|h|⟨h,_⟩|h|h<;>simp[h]
def dF(C:Ctx)(w:World)(p:Nat)(x:ByteArray)(h:PAt C w p):
 Calls prog 256 #[.pointer (some ⟨C.pb,0,none⟩),.string x] w fun e m=>e=.returned (.bool (aV C.ts p x.data.toList))/\PAt C m (if aV C.ts p x.data.toList then p+1 else p)/\Fr C.pb w m:=by
 have i:=aB (z8 h x.data.toList);have g:=aB (mK C w p h);simp only[oE] at g;have v:Hid (aV C.ts p x.data.toList=true->p+1<C.ts.length):=fun e=>h.all.ok.isT h.lt e
 have l:Hid (((bs (aP C.ts p).text).toList==x.toList)=((aP C.ts p).text==x.data.toList)):=by show _=_;rw[cA,Lib.toList_data]
 have r:p<=3000:=by have:=h.lt;have:=h.len;omega
 have H:=aB h;clear h;generalize aV C.ts p x.data.toList=k at*;generalize aP C.ts p=t at*;obtain⟨c,f,s⟩:=t;simp only at i g l;generalize pval ⟨c,f,s⟩=z at*;go_enter func256,ntmps256;go_wp2_with fail;refine g.out.mono ?_;rintro e y ⟨rfl,j⟩;obtain⟨D,B,A⟩:=H.out.cells j;have b:=aB j;clear j g;by_cases n:psort c=0
 ·have q:((psort c:Int) != 0)=false:=by simp;omega
  cases d:(f==x.data.toList)
  ·have u:((bs f).toList==x.toList)=false:=by rw[l.out,d]
   have a:k=false:=by have:=i.out;rw[d] at this;simpa using this
   subst a;go_wp2_with fail;go_ret;exact⟨iY rfl,H.out.below (b.out.alloc b.out.size _),Fr.below (b.out.alloc b.out.size _)⟩
  ·have u:((bs f).toList==x.toList)=true:=by rw[l.out,d]
   have a:k=true:=by have:=i.out;rw[d,n] at this;simpa using this
   subst a;go_wp2_with fail;go_ret;have o:=H.out.move b.out (p+1) (v.out trivial);exact⟨iY rfl,o.1.below ((ay_ _ _).alloc (au_ _) _),o.2.alloc _⟩
 ·have q:((psort c:Int) != 0)=true:=by simp;omega
  have a:k=false:=by have:=i.out;simp[n] at this;exact this
  subst a;go_wp2_with fail;go_ret;exact⟨iY rfl,H.out.below (b.out.alloc b.out.size _),Fr.below (b.out.alloc b.out.size _)⟩
def fP(C:Ctx)(w:World)(p:Nat)(x:ByteArray)(h:PAt C w p):
 Calls prog 184 #[.pointer (some ⟨C.pb,0,none⟩),.string x] w fun e k=>Fr C.pb w k/\if aV C.ts p x.data.toList then e=.returned (.tuple #[])/\PAt C k (p+1) else e=cX 4 (aP C.ts p).line:=by
 have g:=aB (dF C w p x h);have H:=aB h;clear h;cases d:aV C.ts p x.data.toList
 ·rw[d] at g;go_enter func184,ntmps184;go_wp2_with fail;refine g.out.mono ?_;rintro e j ⟨rfl,a,b⟩;have l:=aB (mK C j p a);simp only[oE] at l;have c:=aB b;have o:=IB;clear b a;go_wp2_with fail;refine l.out.mono ?_;rintro e r ⟨rfl,f⟩;have m:=aB f;clear f;go_wp2_with (go_at_call 136;refine(gF 4 (aP C.ts p).line _).mono ?_;rintro e q ⟨rfl,n⟩;obtain rfl:=n.symm)
  exact⟨rfl,c.out.trans (Fr.below m.out),rfl⟩
 ·rw[d] at g;go_enter func184,ntmps184;go_wp2_with fail;refine g.out.mono ?_;rintro e j ⟨rfl,a,b⟩;have c:=aB b;have i:=aB a;clear b a;go_wp2_with fail;go_end0;exact⟨c.out,rfl,i.out⟩
def YR(t:aX):psort t.sort=1↔t.sort=110:=by
 unfold psort;split<;>(try split)<;>(try split)<;>(try split)<;>simp_all
def mL(C:Ctx)(w:World)(p:Nat)(h:PAt C w p):
 Calls prog 185 #[.pointer (some ⟨C.pb,0,none⟩)] w fun e s=>Fr C.pb w s/\if (aP C.ts p).sort==110 then e=.returned (.agg #[.int .i64 (aP C.ts p).line,.string (bs (aP C.ts p).text)])/\PAt C s (p+1) else e=cX 4 (aP C.ts p).line:=by
 have d:=aB (fun o=>mK C (w.alloc o) p (h.below ((ay_ _ _).alloc (au_ _) _)))
 simp only[oE] at d;have l:Hid ((aP C.ts p).sort=110->p+1<C.ts.length):=fun e=>h.all.ok.next p h.lt (by rw[e];decide)
 have i:=aB (YR (aP C.ts p));have F:p<=3000:=by have:=h.lt;have:=h.len;omega
 have H:=aB h;have B:C.pb<w.heap.size:=aD h.blk;have g:w.heap.size≠C.g:=by have:=h.g_lt;omega
 clear h;generalize aP C.ts p=t at*;obtain⟨f,y,q⟩:=t;simp only at d l i;simp only;generalize pval ⟨f,y,q⟩=M at*;generalize psort f=u at*;by_cases c:f=110
 ·obtain rfl:u=1:=i.out.2 c;have r:=l.out c;rw[show (f==110)=true by simpa using c]
  clear c i l;go_enter func185,ntmps185;go_wp2_with fail;refine(d.out _).mono ?_;rintro e m ⟨rfl,b⟩;have a:=((ay_ _ _).alloc (au_ _) _).trans (b.mono (by simp))
  obtain⟨J,E,D⟩:=H.out.cells a;obtain⟨A,I⟩:=bcell b;have x:w.heap.size<m.heap.size:=by have:=b.size;simp at this;omega
  have k:=aB a;clear b a d;have n:¬C.pb=w.heap.size:=by omega
  have j:¬w.heap.size=C.pb:=by omega
  go_wp2_with fail;have z:=H.out.move k.out (p+1) r;refine bodyPost_ret (v:=.agg #[.int .i64 q,.string (bs y)]) (by simp[results,results185,go_sem,World.cell?_alloc_past,x,A]) rfl ?_
  refine⟨((z.2.setCell (p:=⟨w.heap.size,0,none⟩) (as_ (au_ _)) _).setCell (p:=⟨w.heap.size,1,none⟩) (as_ (au_ _)) _).alloc _,rfl,?_⟩;exact((z.1.other (by omega) g).other (by omega) g).below ((ay_ _ _).alloc (au_ _) _)
 ·have K:((u:Int) != 1)=true:=by simp;intro e;exact c (i.out.1 (by omega))
  rw[show (f==110)=false by simpa using c]
  clear c i l;go_enter func185,ntmps185;go_wp2_with fail;refine(d.out _).mono ?_;rintro e m ⟨rfl,b⟩;have a:=((ay_ _ _).alloc (au_ _) _).trans (b.mono (by simp))
  obtain⟨J,E,D⟩:=H.out.cells a;obtain⟨A,I⟩:=bcell b;have x:w.heap.size<m.heap.size:=by have:=b.size;simp at this;omega
  have k:=aB a;clear b a d;have n:¬C.pb=w.heap.size:=by omega
  have j:¬w.heap.size=C.pb:=by omega
  go_wp2_with (go_at_call 136;refine(gF 4 q _).mono ?_;rintro e L ⟨rfl,G⟩;obtain rfl:=G.symm)
  exact⟨rfl,Fr.below (k.out.alloc k.out.size _),rfl⟩
def vL(R:Value->aC->Prop)(F:Nat->Prop)(w:World)(kv:Value)(ks:List aC):Prop:=
 (kv=.slice none 0 0/\ks=[])\/
 ∃g cap cur vs,kv=.slice (some ⟨g,0,none⟩) ks.length cap/\F g/\w.heap[g]?=some (.cells cur 122 (0,0))/\ks.length<=cap/\cur.toList.take ks.length=vs/\jX R vs ks
structure Prt where
 v:Value
 ks:List aC
 one:Bool
def tC(R:Value->aC->Prop)(F:Nat->Prop)(w:World)(p:Prt):Prop:=
 (p.one=true/\∃a,p.ks=[a]/\R p.v a)\/(p.one=false/\vL R F w p.v p.ks)
def Shape(T:TypeId)(cs:Array Value)(a:aC)(ps:List Prt):Prop:=
 (T=397/\∃k,cs= #[.int .i64 a.line,.int .i64 (k:Nat)]/\a.op=[48]/\dG 0 a.text=some k/\a.kids=[]/\ps=[])\/
 (T=398/\cs= #[.int .i64 a.line,.string (bs a.text)]/\a.op=[115]/\a.kids=[]/\ps=[])\/
 (T=400/\cs= #[.int .i64 a.line,.bool (a.text==[116,114,117,101])]/\a.op=[98,111,111,108]/\a.kids=[]/\ps=[])\/
 (T=346/\∃sv,cs= #[.int .i64 a.line,sv]/\a.op=[108,105,115,116]/\ps=[⟨sv,a.kids,false⟩])\/
 (T=341/\∃sv,cs= #[.int .i64 a.line,.string (bs a.text),sv]/\a.op=[99,97,108,108]/\ps=[⟨sv,a.kids,false⟩])\/
 (T=344/\cs= #[.int .i64 a.line,.string (bs a.text)]/\a.op=[110,97,109,101]/\a.kids=[]/\ps=[])\/
 (T=348/\∃l v1 v2 a1 a2,cs= #[.int .i64 (l:Nat),v1,v2]/\a.op=[105,110,100,101,120]/\a.kids=[a1,a2]/\ps=[⟨v1,[a1],true⟩,⟨v2,[a2],true⟩])\/
 (T=350/\∃o v1 a1,cs= #[.int .i64 a.line,.string (bs [o]),v1]/\(o=45\/o=33)/\a.op=[o,120]/\a.kids=[a1]/\ps=[⟨v1,[a1],true⟩])\/
 (T=352/\∃l v1 v2 a1 a2,cs= #[.int .i64 (l:Nat),.string (bs a.op),v1,v2]/\bZ a.op≠9/\a.kids=[a1,a2]/\ps=[⟨v1,[a1],true⟩,⟨v2,[a2],true⟩])\/
 (T=329/\∃v1 t a1,cs= #[.int .i64 a.line,.int .i64 t.line,.string (bs t.text),v1]/\a.op=[118,97,114]/\a.kids=[t,a1]/\ps=[⟨v1,[a1],true⟩])\/
 (T=332/\∃sv v1 l a1,cs= #[.int .i64 a.line,.string (bs a.text),sv,v1]/\a.op=[115,101,116]/\a.kids=l++[a1]/\ps=[⟨sv,l,false⟩,⟨v1,[a1],true⟩])\/
 (T=334/\∃v1 s1 a1 b1,cs= #[.int .i64 a.line,v1,s1,.slice none 0 0]/\a.op=[105,102]/\b1.op=[98,108,111,99,107]/\a.kids=[a1,b1]/\ps=[⟨v1,[a1],true⟩,⟨s1,b1.kids,false⟩])\/
 (T=334/\∃v1 s1 s2 a1 b1 b2,cs= #[.int .i64 a.line,v1,s1,s2]/\a.op=[105,102]/\b1.op=[98,108,111,99,107]/\b2.op=[98,108,111,99,107]/\a.kids=[a1,b1,b2]/\ps=[⟨v1,[a1],true⟩,⟨s1,b1.kids,false⟩,⟨s2,b2.kids,false⟩])\/
 (T=336/\∃v1 s1 a1 b1,cs= #[.int .i64 a.line,v1,s1]/\a.op=[119,104,105,108,101]/\b1.op=[98,108,111,99,107]/\a.kids=[a1,b1]/\ps=[⟨v1,[a1],true⟩,⟨s1,b1.kids,false⟩])\/
 (T=338/\∃l,cs= #[.int .i64 a.line,.iface 397 (.agg #[.int .i64 (l:Nat),.int .i64 0])]/\a.op=[114,101,116,117,114,110]/\a.kids=[]/\ps=[])\/
 (T=338/\∃v1 a1,cs= #[.int .i64 a.line,v1]/\a.op=[114,101,116,117,114,110]/\a.kids=[a1]/\ps=[⟨v1,[a1],true⟩])\/
 (T=339/\∃v1 a1,cs= #[.int .i64 a.line,v1]/\a.op=[112,114,105,110,116]/\a.kids=[a1]/\ps=[⟨v1,[a1],true⟩])\/
 (T=341/\∃sv c,cs= #[.int .i64 c.line,.string (bs c.text),sv]/\a.op=[100,111]/\a.line=c.line/\a.text=c.text/\a.kids=[c]/\c.op=[99,97,108,108]/\ps=[⟨sv,c.kids,false⟩])
def PND:Nat->(Nat->Prop)->World->Value->aC->Prop
 |0,_,_,_,_=>False
 |d+1,F,w,v,a=>∃T cs ps,v=.iface T (.agg cs)/\Shape T cs a ps/\∀p∈ps,tC (PND d F w) F w p
def PN(F:Nat->Prop)(w:World)(v:Value)(a:aC):Prop:=∃d,PND d F w v a
def vL.mono{R S:Value->aC->Prop}{F G:Nat->Prop}{w:World}{e:Value}{ks:List aC}(h:vL R F w e ks)(p:∀v a,R v a->S v a)(m:∀b,F b->G b):vL S G w e ks:=by
 rcases h with h|⟨g,c,d,i,k,f,n,j,l,o⟩
 ·exact av_ h
 ·exact as_ ⟨g,c,d,i,k,m _ f,n,j,l,o.mono p⟩
def vL.keep{R:Value->aC->Prop}{F:Nat->Prop}{w w':World}{e:Value}{ks:List aC}(h:vL R F w e ks)(f:∀b,F b->w'.heap[b]?=w.heap[b]?):vL R F w' e ks:=by
 rcases h with h|⟨g,a,c,i,k,d,m,j,l,n⟩
 ·exact av_ h
 ·exact as_ ⟨g,a,c,i,k,d,by rw[f g d];exact m,j,l,n⟩
def tC.mono{R S:Value->aC->Prop}{F G:Nat->Prop}{w:World}{p:Prt}(h:tC R F w p)(e:∀v a,R v a->S v a)(g:∀b,F b->G b):tC S G w p:=by
 rcases h with ⟨d,a,c,f⟩|⟨d,c⟩
 ·exact av_ ⟨d,a,c,e _ _ f⟩
 ·exact as_ ⟨d,c.mono e g⟩
def tC.keep{R:Value->aC->Prop}{F:Nat->Prop}{w w':World}{p:Prt}(h:tC R F w p)(a:∀b,F b->w'.heap[b]?=w.heap[b]?):tC R F w' p:=by
 rcases h with h|⟨d,c⟩
 ·exact av_ h
 ·exact as_ ⟨d,c.keep a⟩
def PND.mono{F G:Nat->Prop}{w:World}(c:∀b,F b->G b):∀{d e:Nat} {v a},PND d F w v a->d<=e->PND e G w v a
 |_+1,_+1,_,_,⟨T,k,g,l,j,m⟩,i=>⟨T,k,g,l,j,fun p f=>(m p f).mono (fun _ _ h=>PND.mono c h (by omega)) c⟩
 |0,_,_,_,h,_=>h.elim
def PND.keep{F:Nat->Prop}{w w':World}(c:∀b,F b->w'.heap[b]?=w.heap[b]?):∀{d:Nat} {v a},PND d F w v a->PND d F w' v a
 |_+1,_,_,⟨T,i,f,j,g,k⟩=>⟨T,i,f,j,g,fun p e=>((k p e).mono (fun _ _ h=>PND.keep c h) (fun _ h=>h)).keep c⟩
def PN.mono{F G:Nat->Prop}{w:World}{v:Value}{a:aC}(h:PN F w v a)(c:∀b,F b->G b):PN G w v a:=by
 obtain⟨d,h⟩:=h;exact⟨d,h.mono c (au_ _)⟩
def PN.keep{F:Nat->Prop}{w w':World}{v:Value}{a:aC}(h:PN F w v a)(c:∀b,F b->w'.heap[b]?=w.heap[b]?):PN F w' v a:=by
 obtain⟨d,h⟩:=h;exact⟨d,h.keep c⟩
def PN.form{F:Nat->Prop}{w:World}{v:Value}{a:aC}(h:PN F w v a):∃T b,v=.iface T (.agg b):=by
 obtain⟨d,h⟩:=h;cases d with
 |zero=>exact h.elim
 |succ d=>obtain⟨T,b,_,c,_⟩:=h;exact⟨T,b,c⟩
def jX.pdepth{F:Nat->Prop}{w:World}:∀{vs ks},jX (PN F w) vs ks->∃d,jX (PND d F w) vs ks
 |[],[],_=>⟨0,trivial⟩
 |_::_,_::_,⟨⟨d,b⟩,a⟩=>by
  obtain⟨e,c⟩:=jX.pdepth a;exact⟨max d e,b.mono (fun _ h=>h) (Nat.le_max_left _ _),c.mono fun _ _ h=>h.mono (fun _ h=>h) (Nat.le_max_right _ _)⟩
 |[],_::_,h=>h.elim
 |_::_,[],h=>h.elim
def Prt.ok(F:Nat->Prop)(w:World)(p:Prt):Prop:=tC (PN F w) F w p
def Prt.ok.depth{F:Nat->Prop}{w:World}{p:Prt}(h:p.ok F w):∃d,tC (PND d F w) F w p:=by
 rcases h with ⟨b,a,e,d,i⟩|⟨b,h|⟨g,f,c,l,j,e,i,m,o,k⟩⟩
 ·exact⟨d,av_ ⟨b,a,e,i⟩⟩
 ·exact⟨0,as_ ⟨b,av_ h⟩⟩
 ·obtain⟨d,n⟩:=k.pdepth;exact⟨d,as_ ⟨b,as_ ⟨g,f,c,l,j,e,i,m,o,n⟩⟩⟩
def Prt.ok.all{F:Nat->Prop}{w:World}:∀{ps:List Prt},(∀p∈ps,p.ok F w)->∃d,∀p∈ps,tC (PND d F w) F w p
 |[],_=>⟨0,fun p b=>by cases b⟩
 |p::ps,h=>by
  obtain⟨d,f⟩:=(h p (aS_ ..)).depth;obtain⟨e,c⟩:=Prt.ok.all (ps:=ps) fun q a=>h q (aJ_ _ a)
  refine⟨max d e,fun q a=>?_⟩
  rcases aG_.1 a with rfl|a
  ·exact f.mono (fun _ _ h=>h.mono (fun _ h=>h) (Nat.le_max_left _ _)) (fun _ h=>h)
  ·exact(c q a).mono (fun _ _ h=>h.mono (fun _ h=>h) (Nat.le_max_right _ _)) (fun _ h=>h)
def PN.mk{F:Nat->Prop}{w:World}{T:TypeId}{cs:Array Value}{a:aC}{ps:List Prt}(h:Shape T cs a ps)(b:∀p∈ps,p.ok F w):PN F w (.iface T (.agg cs)) a:=by
 obtain⟨d,c⟩:=Prt.ok.all b;exact⟨d+1,T,cs,ps,rfl,h,c⟩
def Prt.ok.node{F:Nat->Prop}{w:World}{v:Value}{a:aC}(h:PN F w v a):Prt.ok F w ⟨v,[a],true⟩:=av_ ⟨rfl,a,rfl,h⟩
def PKid(F:Nat->Prop)(w:World)(kv:Value)(ks:List aC):Prop:=vL (PN F w) F w kv ks
def Prt.ok.list{F:Nat->Prop}{w:World}{v:Value}{l:List aC}(h:PKid F w v l):Prt.ok F w ⟨v,l,false⟩:=as_ ⟨rfl,h⟩
def PKid.keep{F G:Nat->Prop}{w w':World}{c:Value}{ks:List aC}(h:PKid F w c ks)(a:∀b,F b->w'.heap[b]?=w.heap[b]?)(d:∀b,F b->G b):PKid G w' c ks:=
 (vL.mono h (fun _ _ h=>(h.keep a).mono d) (fun _ h=>h)).keep a |>.mono (fun _ _ h=>h) d
def PN.grow{lo d lo' hi':Nat}{w w':World}{v:Value}{a:aC}(h:PN (Btw lo d) w v a)(e:∀k,lo<=k->k<d->w'.heap[k]?=w.heap[k]?)(g:lo'<=lo)(f:d<=hi'):PN (Btw lo' hi') w' v a:=
 (h.keep fun b c=>e b c.1 c.2).mono fun _ c=>⟨aF_ g c.1,az_ c.2 f⟩
def PKid.grow{lo c lo' hi':Nat}{w w':World}{v:Value}{l:List aC}(h:PKid (Btw lo c) w v l)(d:∀k,lo<=k->k<c->w'.heap[k]?=w.heap[k]?)(f:lo'<=lo)(e:c<=hi'):PKid (Btw lo' hi') w' v l:=
 h.keep (fun b a=>d b a.1 a.2) fun _ a=>⟨aF_ f a.1,az_ a.2 e⟩
def CX:(prog.info? 122).map (fun i=>(i.zero,i.size,i.bytes))=some (some .nilIface,1,16):=by kernel_rfl
def PLst(base:Nat)(w:World)(v:Value)(acc:List aC):Prop:=
 ∃vs F,w.ownsRow base 122 1 v acc.length vs/\jX (PN F w) vs acc/\∀b,F b->base<=b/\b<w.heap.size/\v.ownBlock≠some b
def PLst.nil(base:Nat)(w:World):PLst base w (.slice none 0 0) []:=⟨[],fun _=>False,World.ownsRow_nil _ _ _ _,trivial,fun _ h=>h.elim⟩
def PLst.slice{base:Nat}{w:World}{v:Value}{acc:List aC}(h:PLst base w v acc):∃x c,v=.slice x acc.length c:=by
 obtain⟨i,F,f,_⟩:=h;rcases f.2 with ⟨a,d⟩|⟨g,b,e,a,_⟩
 ·exact⟨none,0,by rw[a,d]⟩
 ·exact⟨_,b,a⟩
def PLst.keep{base pb:Nat}{w w1:World}{v:Value}{acc:List aC}(h:PLst base w v acc)(c:Fr pb w w1)(j:pb<base):PLst base w1 v acc:=by
 obtain⟨g,F,d,i,e⟩:=h;refine⟨g,F,aY d fun k f=>?_,i.mono fun _ _ h=>h.keep fun b a=>?_,fun b a=>?_⟩
 ·have:=cC d k f;exact c.block k (cK d k f) (by omega)
 ·have:=e b a;have:=c.size;exact⟨by omega,by omega,(e b a).2.2⟩
 ·have:=e b a;exact c.block b this.2.1 (by omega)
def PLst.snoc{base lo:Nat}{w r o:World}{v:Value}{acc:List aC}{p:Value}{a:aC}{g m:Nat}{vs:List Value}{F:Nat->Prop}(t:jX (PN F w) vs acc)(z:∀b,F b->base<=b/\b<w.heap.size/\v.ownBlock≠some b)
 (y:PN (Btw lo w.heap.size) w p a) (A:base<=lo) (n:∀k,v.ownBlock=some k->k<lo) (q:∀k,k<w.heap.size->r.heap[k]?=w.heap[k]?) (x:w.heap.size<=r.heap.size)
 (l:o.ownsRow base 122 1 (.slice (some ⟨g,0,none⟩) (acc.length+1) m) (acc.length+1) (vs++[p]))
 (f:r.grownBy o v.ownBlock) (j:v.ownBlock=some g\/w.heap.size<=g):PLst base o (.slice (some ⟨g,0,none⟩) (acc.length+1) m) (acc++[a]):=by
 have s:∀b,(F b\/Btw lo w.heap.size b)->base<=b/\b<w.heap.size/\v.ownBlock≠some b:=by
  rintro b (i|i)
  ·exact z b i
  ·exact⟨by have:=i.1;omega,i.2,fun e=>by have:=n b e;have:=i.1;omega⟩
 have c:∀b,(F b\/Btw lo w.heap.size b)->o.heap[b]?=w.heap[b]?:=fun b i=>by
  have d:=s b i;rw[f.block b (by omega) (fun e=>d.2.2 e.symm),q b d.2.1]
 refine⟨vs++[p],fun b=>F b\/Btw lo w.heap.size b,?_,?_,?_⟩
 ·rw[aw_];exact l
 ·exact jX.snoc (t.mono fun _ _ h=>(h.mono (fun _=>av_)).keep c) ((y.mono (fun _=>as_)).keep c)
 ·intro b i;have d:=s b i;have:=f.size;refine⟨d.1,by omega,fun e=>?_⟩
  have u:g=b:=Option.some.inj e;rcases j with j|j
  ·exact d.2.2 (by rw[j,u])
  ·omega
def PLst.kid{base:Nat}{w:World}{v:Value}{acc:List aC}(h:PLst base w v acc):PKid (Btw base w.heap.size) w v acc:=by
 obtain⟨m,F,o,k,j⟩:=h;rcases o.2 with ⟨a,e⟩|⟨g,c,d,a,e,f,l,q,p,n⟩
 ·exact av_ ⟨a,aN_ e⟩
 ·exact as_ ⟨g,c,d,m,a,⟨e,aD f⟩,f,l,by rw[<-n,b4_],k.mono fun _ _ h=>h.mono fun b i=>⟨(j b i).1,(j b i).2.1⟩⟩
def PAt.grown{C:Ctx}{w w':World}{p:Nat}{a:Option Nat}{base:Nat}(h:PAt C w p)(c:w.grownBy w' a)(b:∀k,a=some k->base<=k)(f:C.pb<base)(d:C.g<base):PAt C w' p:=
 h.keep (c.block _ h.pb_lt fun e=>by have:=b _ e.symm;omega) (c.block _ h.g_lt fun e=>by have:=b _ e.symm;omega)
def Out{α:Type}(C:Ctx)(w:World)(r:bU α)(P:World->Value->α->Prop)(e:Ending)(w':World):Prop:=
 Fr C.pb w w'/\match r with
  |.ok (a,q)=>PAt C w' q/\∃v,e=.returned v/\P w' v a
  |.error l=>e=cX 4 l
def GK(C:Ctx)(w:World)(r:bU aC)(e:Ending)(w':World):Prop:=Out C w r (fun w' v a=>PN (Btw w.heap.size w'.heap.size) w' v a) e w'
def PReads(C:Ctx)(F:Nat)(X:Nat->bU aC):Prop:=∀w p,PAt C w p->X p≠.error 0->Calls prog F #[.pointer (some ⟨C.pb,0,none⟩)] w (GK C w (X p))
def nN(ts:List aX)(p:Nat)(l:List (List UInt8)):List UInt8:=(l.find? fun x=>aV ts p x).getD []
def IC(C:Ctx)(w:World)(p:Nat)(l:List (List UInt8))(g G:Nat)(Q:g<w.heap.size)(I:g≠C.pb)(hl:l.length<=100)(s:∀x∈l,x≠[])(W:∀i (hi:i<l.length),w.cell? ⟨g,i,none⟩=some (.string (bs l[i])))(h:PAt C w p):
 Calls prog 284 #[.pointer (some ⟨C.pb,0,none⟩),.slice (some ⟨g,0,none⟩) l.length G] w fun e P=>e=.returned (.string (bs (nN C.ts p l)))/\PAt C P (if nN C.ts p l=[] then p else p+1)/\Fr C.pb w P:=by
 have HC:=aB W;have H:=aB h;have K:=aB s;clear W h s;generalize r:(if nN C.ts p l=[] then p else p+1)=T
 generalize B:nN C.ts p l=V at*;have S:=aB r;have A:=aB B;clear r B;go_enter func284,ntmps284;go_wp2_with fail;go_loopg [6,9] l.length (fun gk m i wr=>∃k:Nat,k+gk=l.length/\i=.int .i64 k/\Fr C.pb w wr/\PAt C wr p/\Hid (∀x∈l.take k,aV C.ts p x=false))
 case atStart=>exact⟨0,by omega,rfl,Fr.refl _ _,H.out,fun x hx=>by simp at hx⟩
 case round=>
  obtain⟨k,Y,rfl,a,c,q⟩:=hrel;by_cases f:k<l.length
  ·obtain⟨j,rfl⟩:∃j,gk=j+1:=⟨gk-1,by omega⟩
   have J:wr.cell? ⟨g,k,none⟩=some (.string (bs l[k])):=(xE (a.block g Q I)).trans (HC.out k f);have aa:g<wr.heap.size:=az_ Q a.size;have D:=aB (dF C wr p (bs l[k]) c);have O:(bs l[k]).data.toList=l[k]:=by simp[bs]
   rw[O] at D
   have L:Hid (l=l.take k++l[k]::l.drop (k+1)):=by
    show _=_
    rw[bA_,a5_]
   have F:Hid (∀y∈l.take (k+1),y∈l.take k\/y=l[k]):=fun y U=>by
    rw[aT_ f] at U;rcases aE_.1 U with h|h
    ·exact av_ h
    ·exact as_ (aD_.1 h)
   have v:l[k]≠[]:=K.out _ (aR_ f);have N:=aB v;have E:=aB a;clear c a O v;generalize l[k]=y at*;cases b:aV C.ts p y
   ·rw[b] at D
    have M:Hid (∀z∈l.take (k+1),aV C.ts p z=false):=fun z t=>by
     rcases F.out z t with h|h
     ·exact q.out z h
     ·rw[h];exact b
    clear q F L b;go_wp2_with fail;refine D.out.mono ?_;rintro e X ⟨rfl,d,o⟩;go_wp2_with fail;go_roundg j
    case measure=>omega
    case rel=>exact⟨k+1,by omega,by go_num,E.out.trans o,d,M⟩
   ·rw[b] at D
    have u:Hid (V=y):=by
     show _=_
     rw[<-A.out];unfold nN;rw[L.out,List.find?_append,bI_.2 (by intro z t;simpa using q.out z t)]
     simp[b]
    clear q F L b;go_wp2_with fail;refine D.out.mono ?_;rintro e X ⟨rfl,d,o⟩;go_wp2_with fail;go_ret;have n:T=p+1:=by rw[<-S.out,u.out,if_neg N.out]
    rw[u.out,n];exact⟨rfl,d,E.out.trans o⟩
  ·have u:Hid (V=[]):=by
    show _=_
    rw[<-A.out];unfold nN;rw[bI_.2]
    ·rfl
    ·intro z t;simpa using q.out z (by rw[a0_ (by omega)];exact t)
   have E:=aB a;have Z:=aB c;clear q a c;go_wp2_with fail;go_ret;have n:T=p:=by rw[<-S.out,u.out,if_pos rfl]
   rw[u.out,n];exact⟨rfl,Z.out,E.out⟩
def Out.err{a:Type}{C:Ctx}{w w':World}{r:bU a}{P:World->Value->a->Prop}{l:Nat}(c:r=.error l)(b:Fr C.pb w w'):Out C w r P (cX 4 l) w':=by
 subst c;exact⟨b,rfl⟩
def Out.ok{b:Type}{C:Ctx}{w w':World}{r:bU b}{P:World->Value->b->Prop}{a:b}{q:Nat}{v:Value}(f:r=.ok (a,q))(d:Fr C.pb w w')(e:PAt C w' q)(c:P w' v a):Out C w r P (.returned v) w':=by
 subst f;exact⟨d,e,v,rfl,c⟩
def nS{b:Type}{ts:List aX}{x:List UInt8}{a:b}{q:Nat}(h:aV ts q x=true):aN ts x (.ok (a,q):bU b)=.ok (a,q+1):=by
 unfold aN;simp only;rw[if_pos h]
def xL{b:Type}{ts:List aX}{x:List UInt8}{a:b}{q:Nat}(h:aV ts q x=false):aN ts x (.ok (a,q):bU b)=.error (aP ts q).line:=by
 unfold aN;simp only;rw[if_neg (by rw[h];simp)];rfl
def rT(w:World)(v:Value):∀j u,([v]:List Value)[j]?=some u->(w.alloc (.cells #[v] 122)).cell? ((⟨w.heap.size,0,none⟩:Addr).add j)=some u:=by
 intro j u a;match j,a with
 |0,a=>simp at a;subst a;simp[Addr.add,go_sem]
 |j+1,a=>simp at a
def uY(T:TypeId)(cs:Array Value):∀u∈([.iface T (.agg cs)]:List Value),u.oneCell'=true:=by
 intro u a;simp at a;subst a;rfl
def am_(C:Ctx)(w:World)(r:bU (List aC))(e:Ending)(w':World):Prop:=Out C w r (fun w' v l=>PKid (Btw w.heap.size w'.heap.size) w' v l) e w'
def r8(C:Ctx)(E:Nat->bU aC)(w:World)(r0:bU (List aC))(k:Nat)(v:Value)(wr:World):Prop:=
 Fr C.pb w wr/\∃q acc,PAt C wr q/\r0=(if aV C.ts q [44] then dH E C.ts k (q+1) acc else .ok (acc,q))/\acc.length+k<=4000/\PLst w.heap.size wr v acc
def tF(C:Ctx)(E:Nat->bU aC)(HE:PReads C 164 E)(w:World)(p:Nat)(y:ByteArray)(h:PAt C w p)(N r:bU (List aC))(W:Hid (N=gX E C.ts p y.data.toList))(hr:Hid (r=aN C.ts y.data.toList N))(al:N≠.error 0):
 Calls prog 329 #[.pointer (some ⟨C.pb,0,none⟩),.string y] w (am_ C w r):=by
 obtain⟨i0,hi,ap,bd,ba⟩:=info_parts CX;have HA:=aB (dF C w p y h);have H:=aB h;have bc:=aB HE;have ah:=aB al;have bo:=h.len;have x:=h.pb_lt;have bg:=h.g_lt;clear h HE al;cases b:aV C.ts p y.data.toList
 ·rw[b] at HA;have z:Hid (N=dH E C.ts (C.ts.length+1) p []):=by show _=_;rw[W.out];unfold gX;rw[b];rfl
  clear b W;go_enter func329,ntmps329;go_wp2_with fail;refine HA.out.mono ?_;rintro e w1 ⟨rfl,X,aa⟩;have D:E p≠.error 0:=fun e=>ah.out (by rw[z.out,dH,e])
  have HX:=aB (bc.out w1 p X D);have P:=aB aa;clear X aa D;go_wp2_with fail;refine HX.out.mono ?_;rintro e w2 O;cases m:E p with
  |error l=>
   rw[m] at O;obtain⟨B,rfl⟩:=O;have HL:Hid (r=.error l):=by show _=_;rw[hr.out,z.out,dH,m];rfl
   have Z:=aB (P.out.trans B);clear B HX;go_wp2_with fail;exact⟨rfl,Out.err HL.out Z.out⟩
  |ok aq=>
   obtain⟨a,q⟩:=aq;rw[m] at O;obtain⟨B,az,v,rfl,hn⟩:=O;obtain⟨T,cs,rfl⟩:=hn.form;have aw:Hid (N=(if aV C.ts q [44] then dH E C.ts C.ts.length (q+1) [a] else .ok ([a],q))):=by show _=_;rw[z.out,dH,m];rfl
   have Z:=aB (P.out.trans B);have ao:=aB az;have HN:=aB hn;have bz:=P.out.size;have br:=B.size;clear az B hn HX z P;go_wp2_with (at_builtin;refine wpList_append_lies _ (by rfl) _ _ 213 (by rfl) w.heap.size 122 i0 _ 1 16 underlying213 hi ap bd ba rfl (by decide) (.slice none 0 0) 0 [] (by rfl) (World.ownsRow_nil _ _ _ _) ⟨w2.heap.size,0,none⟩ 1 1 [.iface T (.agg cs)] (by rfl) (by rfl) (rT _ _) (uY _ _) (by decide) (by unfold maxLen;omega) (by omega) (by simp;omega) (w2.heap.size+1) (by simp) ?_)
   intro g ca w3 G f ac bv;have bb:=aB (PLst.snoc (base:=w.heap.size) (lo:=w1.heap.size) (F:=fun _=>False) (vs:=[]) (acc:=[]) (v:=.slice none 0 0) trivial (fun _ h=>h.elim) HN.out (by omega) (fun k Q=>by cases Q) (fun k Q=>aA_ _ _ _ Q) (by simp) G f (ac.imp_right (fun e=>by omega)))
   have ar:=aB ((ao.out.alloc _).grown (base:=w.heap.size) f (fun k Q=>by cases Q) x bg)
   have bf:=aB ((Z.out.alloc _).grown f (fun k Q=>by cases Q))
   clear G f ac HN ao Z;go_wp2_with fail;go_loopg [5] C.ts.length (fun k v wr=>r8 C E w N k v wr)
   case atStart=>exact⟨bf.out,q,[a],ar.out,aw.out,by simp;omega,bb.out⟩
   case round=>
    obtain⟨ae,u,j,an,Y,bu,ai⟩:=hrel;obtain⟨x4,c4,rfl⟩:=ai.slice;have A:=aB (dF C wr u ⟨#[44]⟩ an);have ay:=aB ae;have V:=aB ai;have bx:=ae.size;clear ae an ai bb ar bf aw;cases b:aV C.ts u [44]
    ·have o:aV C.ts u (⟨#[44]⟩:ByteArray).data.toList=false:=b;rw[o] at A;have n:Hid (N=.ok (j,u)):=by show _=_;rw[Y,b];rfl
     clear b o Y;go_wp2_with fail;refine A.out.mono ?_;rintro e w5 ⟨rfl,M,i⟩;have af:=aB (fP C w5 u y M);have K:=aB (ay.out.trans i);have s:=aB (V.out.keep i x);have bj:=i.size;clear M i A V;go_wp2_with fail;refine af.out.mono ?_;rintro e w6 ⟨c,U⟩;have t:=aB (K.out.trans c);have au:=aB (s.out.keep c x);cases b:aV C.ts u y.data.toList
     ·rw[b] at U;obtain rfl:e=cX 4 (aP C.ts u).line:=U;have HL:Hid (r=.error (aP C.ts u).line):=by show _=_;rw[hr.out,n.out];exact xL b
      clear c af b au s;go_wp2_with fail;exact⟨rfl,Out.err HL.out t.out⟩
     ·rw[b] at U;obtain⟨rfl,J⟩:=U;have HL:Hid (r=.ok (j,u+1)):=by show _=_;rw[hr.out,n.out];exact nS b
      have S:=aB J;clear c af b J s;go_wp2_with fail;go_ret;exact Out.ok HL.out t.out S.out au.out.kid
    ·have o:aV C.ts u (⟨#[44]⟩:ByteArray).data.toList=true:=b;rw[o] at A;have n:Hid (N=dH E C.ts gk (u+1) j):=by show _=_;rw[Y,b];rfl
     clear b o Y
     obtain⟨k,rfl⟩:∃k,gk=k+1:=by
      cases gk with
      |zero=>exact absurd n.out ah.out
      |succ k=>exact⟨k,rfl⟩
     go_wp2_with fail;refine A.out.mono ?_;rintro e w5 ⟨rfl,M,i⟩;have D:E (u+1)≠.error 0:=fun e=>ah.out (by rw[n.out,dH,e])
     have HX:=aB (bc.out w5 (u+1) M D);have K:=aB (ay.out.trans i);have s:=aB (V.out.keep i x);have bj:=i.size;clear M i A V D;go_wp2_with fail;refine HX.out.mono ?_;rintro e w6 O;cases m:E (u+1) with
     |error l=>
      rw[m] at O;obtain⟨c,rfl⟩:=O;have HL:Hid (r=.error l):=by show _=_;rw[hr.out,n.out,dH,m];rfl
      have t:=aB (K.out.trans c);clear c HX;go_wp2_with fail;exact⟨rfl,Out.err HL.out t.out⟩
     |ok bl=>
      obtain⟨a6,q6⟩:=bl;rw[m] at O;obtain⟨c,J,v6,rfl,ag⟩:=O;obtain⟨T6,bh,rfl⟩:=ag.form;have bn:Hid (N=(if aV C.ts q6 [44] then dH E C.ts k (q6+1) (j++[a6]) else .ok (j++[a6],q6))):=by show _=_;rw[n.out,dH,m]
      obtain⟨vs,F,L,ab,ax⟩:=s.out.keep c x
      have be:∀g,(Value.slice x4 j.length c4).ownBlock=some g->g<w5.heap.size:=by
       obtain⟨bt,F',ak,_⟩:=s.out;exact cK ak
      have am:=aB be;have t:=aB (K.out.trans c);have S:=aB J;have av:=aB ag;have HALL:=aB (aW_ ab ax);have bq:=c.size;have aj:∀k,(Value.slice x4 j.length c4).ownBlock=some k->w.heap.size<=k:=cC L;clear J c ag HX n s K ab ax be;go_wp2_with (at_builtin;refine wpList_append_lies _ (by rfl) _ _ 213 (by rfl) w.heap.size 122 i0 _ 1 16 underlying213 hi ap bd ba rfl (by decide) _ _ _ (by rfl) (L.alloc _) ⟨w6.heap.size,0,none⟩ 1 1 [.iface T6 (.agg bh)] (by rfl) (by rfl) (rT _ _) (uY _ _) (by decide) (by unfold maxLen;omega) (by omega) (by simp;omega) (w6.heap.size+1) (by simp) ?_)
      intro g7 bp w7 I d ad bw;have bm:=aB (PLst.snoc (lo:=w5.heap.size) HALL.out.1 HALL.out.2 av.out (by omega) am.out (fun k Q=>aA_ _ _ _ Q) (by simp) I d (ad.imp_right (fun e=>by omega)))
      have bi:=aB ((S.out.alloc _).grown (base:=w.heap.size) d aj x bg);have bk:=aB ((t.out.alloc _).grown d aj);clear L I d ad av S t HALL am aj;go_wp2_with fail;go_roundg k
      case measure=>omega
      case rel=>exact⟨bk.out,q6,j++[a6],bi.out,bn.out,by simp;omega,bm.out⟩
 ·rw[b] at HA;have z:Hid (r=.ok ([],p+1)):=by show _=_;rw[hr.out,W.out];unfold gX;rw[b];unfold aN;simp[b]
  clear b W;go_enter func329,ntmps329;go_wp2_with fail;refine HA.out.mono ?_;rintro e w1 ⟨rfl,X,aa⟩;go_wp2_with fail;go_ret;exact Out.ok z.out aa X (av_ ⟨rfl,rfl⟩)
structure PS(C:Ctx)(w:World)(t:aX)(tb:Nat)(W:World)(p:Nat):Prop where
 fr:Fr C.pb w W
 at_:PAt C W p
 tk:W.heap[tb]?=some (.cells #[.int .i64 (psort t.sort),.string (bs t.text),.int .i64 (pval t),.int .i64 t.line] 206 (0,0))
 pl:W.heap[tb+1]?=some (.cells #[.int .i64 t.line] 209 (0,0))
 lo:w.heap.size<=tb
 np:C.pb<tb
 ng:C.g<tb
def PS.keep{C:Ctx}{w W c:World}{t:aX}{a p q:Nat}(h:PS C w t a W p)(b:Fr C.pb W c)(d:PAt C c q):PS C w t a c q:=
 ⟨h.fr.trans b,d,by rw[b.block a (aD h.tk) (by have:=h.np;omega)];exact h.tk,by rw[b.block (a+1) (aD h.pl) (by have:=h.np;omega)];exact h.pl,h.lo,h.np,h.ng⟩
def PS.cells{C:Ctx}{w W:World}{t:aX}{a p:Nat}(h:PS C w t a W p):
 a+1<W.heap.size/\W.cell? ⟨a,0,none⟩=some (.int .i64 (psort t.sort))/\W.cell? ⟨a,1,none⟩=some (.string (bs t.text))/\W.cell? ⟨a,2,none⟩=some (.int .i64 (pval t))/\W.cell? ⟨a,3,none⟩=some (.int .i64 t.line)/\W.cell? ⟨a+1,0,none⟩=some (.int .i64 t.line)/\C.pb<W.heap.size/\W.cell? ⟨C.pb,1,none⟩=some (.int .i64 p)/\W.frozen? ⟨C.pb,1,none⟩=false:=
 ⟨aD h.pl,aA h.tk rfl,aA h.tk rfl,aA h.tk rfl,aA h.tk rfl,aA h.pl rfl,h.at_.pb_lt,aA h.at_.blk rfl,aE h.at_.blk⟩
def thrown{P:Program}{b:Array Oper}{o:Oper}{a:Act}{w:World}{K:Act->World->Prop}{Q:Exit->Act->World->Prop}{E:Prop}(c:Value)
 (h:if Region.wanted o (yielded b a.tmps)=true then Oper.wp P o a w K Q else E) (_d:Hid False->K (a.put o.dst c) w):
 if Region.wanted o (yielded b a.tmps)=true then Oper.wp P o a w K Q else E:=h
def Fr.keepB{pb b:Nat}{w w':World}{o:Obj}(a:Fr pb w w')(h:w.heap[b]?=some o)(e:b≠pb):w'.heap[b]?=some o:=by
 have c:b<w.heap.size:=by
  by_cases d:b<w.heap.size
  ·exact d
  ·rw[bj_ (by omega)] at h;cases h
 rw[a.block b c e];exact h
def PKid.slice{F:Nat->Prop}{w:World}{v:Value}{l:List aC}(h:PKid F w v l):∃x c,v=.slice x l.length c:=by
 rcases h with ⟨a,d⟩|⟨g,e,b,f,a,_⟩
 ·exact⟨none,0,by rw[a,d];rfl⟩
 ·exact⟨_,_,a⟩
def T8{t:aX}(h:oF t):(psort t.sort=2↔t.sort=48)/\(psort t.sort=3↔t.sort=115):=by
 unfold psort;rcases h with h|⟨h,_⟩|h|⟨h,_⟩|h|h<;>simp[h]
def OC(C:Ctx)(E:Nat->bU aC)(HE:PReads C 164 E):PReads C 350 (dT E C.ts):=by
 intro w p h bc;have HN:=aB (mK C w p h);simp only[oE] at HN;have br:=aB (fun w1 (hb:Below w.heap.size w w1)=>mM C w1 p (h.below hb))
 have bg:=h.tsk.tk p h.lt;have HS:=aB (T8 bg);have HT:Hid ((aP C.ts p).sort≠101->p+1<C.ts.length):=fun e=>h.all.ok.next p h.lt e
 have cs:p<=3000:=by have:=h.lt;have:=h.len;omega
 have H:=aB h;have bm:=aB HE;have aw:=aB bg;have cr:=h.pb_lt;have cz:=h.g_lt;obtain⟨r,hr⟩:∃r,r=dT E C.ts p:=⟨_,rfl⟩;rw[<-hr] at bc ⊢
 rw[dT] at hr;have HR:=aB hr;have bk:=aB bc;clear h HE bc bg hr;generalize ca:aP C.ts p=t at*;have be:=aB ca;clear ca;go_enter func350,ntmps350;go_wp2_with fail;refine HN.out.mono ?_;rintro e w1 ⟨rfl,cd⟩;have ay:=aB cd;clear cd;go_wp2_with fail;refine(br.out w1 ay.out).mono ?_;rintro e w2 ⟨rfl,bt⟩
 have bi:PS C w t w2.heap.size ((w2.alloc (.cells #[.int .i64 (psort t.sort),.string (bs t.text),.int .i64 (pval t),.int .i64 t.line] 206)).alloc (.cells #[.int .i64 t.line] 209)) p:=by
  have hb:=ay.out.trans (bt.mono ay.out.size);have ch:=hb.size;refine⟨((Fr.below hb).alloc _).alloc _,((H.out.below hb).alloc _).alloc _,?_,?_,ch,by omega,by omega⟩
  ·exact oU _ _ (by simp) _ (aM _ _ rfl _)
  ·exact aM _ _ (by simp) _
 have z:=aB bi;obtain⟨k0,k1,k2,k3,k4,k5,k6,k7,k8⟩:=bi.cells;clear bi bt ay br HN;go_upto_region 2 with fail
 generalize cq:(w2.alloc (.cells #[.int .i64 (psort t.sort),.string (bs t.text),.int .i64 (pval t),.int .i64 t.line] 206)).alloc (.cells #[.int .i64 t.line] 209)=W at*;generalize cp:psort t.sort=ps at*;have cv:=z.out.np;have cx:¬w2.heap.size=C.pb:=by omega
 have cw:¬C.pb=w2.heap.size:=by omega
 by_cases ap:ps=2
 ·have O:t.sort=48:=HS.out.1.1 ap;subst ap
  obtain⟨kk,bd⟩:∃kk,dG 0 t.text=some kk:=by
   rcases aw.out with h|⟨h,_⟩|h|⟨h,h2⟩|h|h
   ·omega
   ·omega
   ·omega
   ·exact Option.isSome_iff_exists.1 h2
   ·omega
   ·omega
  have V:Hid (pval t=kk):=by show _=_;unfold pval;rw[if_pos O,bd];rfl
  have d:Hid (r=.ok (aR [UInt8.ofNat t.sort] t.line t.text [],p+1)):=by show _=_;rw[HR.out,O];rfl
  have Q:Hid (Shape 397 #[.int .i64 t.line,.int .i64 (pval t)] (aR [UInt8.ofNat t.sort] t.line t.text []) []):=av_ ⟨rfl,kk,by rw[V.out];rfl,by rw[O];rfl,bd,rfl,rfl⟩
  have hm:=z.out.at_.move (ay_ _ _) (p+1) (HT.out (by omega))
  have HM:=aB (aW_ (z.out.fr.trans hm.2) hm.1);clear O bd V aw hm HR;go_wp2_with fail;go_ret;exact Out.ok d.out HM.out.1 HM.out.2 (PN.mk Q.out (fun p hp=>by cases hp))
 by_cases T:ps=3
 ·have O:t.sort=115:=HS.out.2.1 T;subst T;have d:Hid (r=.ok (aR [UInt8.ofNat t.sort] t.line t.text [],p+1)):=by show _=_;rw[HR.out,O];rfl
  have Q:Hid (Shape 398 #[.int .i64 t.line,.string (bs t.text)] (aR [UInt8.ofNat t.sort] t.line t.text []) []):=as_ (av_ ⟨rfl,rfl,by rw[O];rfl,rfl,rfl⟩)
  have hm:=z.out.at_.move (ay_ _ _) (p+1) (HT.out (by omega))
  have HM:=aB (aW_ (z.out.fr.trans hm.2) hm.1);clear O aw hm HR ap;go_wp2_with fail;go_ret;exact Out.ok d.out HM.out.1 HM.out.2 (PN.mk Q.out (fun p hp=>by cases hp))
 have cy:((ps:Int)==2)=false:=by simp;omega
 have co:((ps:Int)==3)=false:=by simp;omega
 have az:(t.sort==48 || t.sort==115)=false:=by
  have h1:t.sort≠48:=fun e=>ap (HS.out.1.2 e)
  have h2:t.sort≠115:=fun e=>T (HS.out.2.2 e)
  simp[h1,h2]
 have aa:Hid (r=if aV C.ts p [116,114,117,101] || aV C.ts p [102,97,108,115,101] then .ok (aR [98,111,111,108] t.line t.text [],p+1)
  else if aV C.ts p [40] then aN C.ts [41] (E (p+1))
  else if aV C.ts p [91] then bX (aR [108,105,115,116] t.line t.text) (eK E C.ts p [91] [93])
  else if t.sort==110 then
   if aV C.ts (p+1) [40] then bX (aR [99,97,108,108] t.line t.text) (eK E C.ts (p+1) [40] [41])
   else .ok (aR [110,97,109,101] t.line t.text [],p+1)
  else Hs.bad C.ts p):=by show _=_;rw[HR.out,az];rfl
 have ag:Hid (∀x,aV C.ts p x=true->t.text=x):=fun x hx=>by
  unfold aV at hx;rw[be.out] at hx;simp only[aX_,beq_iff_eq] at hx;exact hx.2
 clear HR az ap T HS aw;have X:=aB (dF C W p ⟨#[116,114,117,101]⟩ z.out.at_);have cb:(⟨#[116,114,117,101]⟩:ByteArray).data.toList=[116,114,117,101]:=rfl;rw[cb] at X;clear cb;cases i1:aV C.ts p [116,114,117,101];rotate_left
 ·have d:Hid (r=.ok (aR [98,111,111,108] t.line t.text [],p+1)):=by show _=_;rw[aa.out,i1];rfl
  have Q:Hid (Shape 400 #[.int .i64 t.line,.bool true] (aR [98,111,111,108] t.line t.text []) []):=as_ (as_ (av_ ⟨rfl,by show _= #[_,Value.bool (t.text==_)];rw[ag.out _ i1];rfl,rfl,rfl,rfl⟩))
  rw[i1] at X;clear i1 aa ag;go_wp2_with fail;refine X.out.mono ?_;rintro e w3 ⟨rfl,bb,ah⟩;have m:=z.out.keep ah bb;have o:=aB m;clear k1 k2 k3 k4 k5 k6 k7 k8 bb ah;obtain⟨k0,k1,k2,k3,k4,k5,k6,k7,k8⟩:=m.cells;clear m;go_wp2_with fail;go_ret;exact Out.ok d.out o.out.fr o.out.at_ (PN.mk Q.out (fun p hp=>by cases hp))
 rw[i1] at X;go_wp2_with fail;refine X.out.mono ?_;rintro e w3 ⟨rfl,an,ah⟩;have m:=z.out.keep ah an;have ab:=aB (dF C w3 p ⟨#[102,97,108,115,101]⟩ an);have bo:(⟨#[102,97,108,115,101]⟩:ByteArray).data.toList=[102,97,108,115,101]:=rfl;rw[bo] at ab;have o:=aB m;clear bo an ah m z X k0 k1 k2 k3 k4 k5 k6 k7 k8;cases i2:aV C.ts p [102,97,108,115,101];rotate_left
 ·have d:Hid (r=.ok (aR [98,111,111,108] t.line t.text [],p+1)):=by show _=_;rw[aa.out,i1,i2];rfl
  have Q:Hid (Shape 400 #[.int .i64 t.line,.bool false] (aR [98,111,111,108] t.line t.text []) []):=as_ (as_ (av_ ⟨rfl,by show _= #[_,Value.bool (t.text==_)];rw[ag.out _ i2];rfl,rfl,rfl,rfl⟩))
  rw[i2] at ab;clear i1 i2 aa ag;go_wp2_with fail;refine ab.out.mono ?_;rintro e w4 ⟨rfl,n,aj⟩;have u:=o.out.keep aj n;have g:=aB u;clear n aj;obtain⟨k0,k1,k2,k3,k4,k5,k6,k7,k8⟩:=u.cells;clear u;go_wp2_with fail;go_ret;exact Out.ok d.out g.out.fr g.out.at_ (PN.mk Q.out (fun p hp=>by cases hp))
 rw[i2] at ab
 have av:Hid (r=if aV C.ts p [40] then aN C.ts [41] (E (p+1))
  else if aV C.ts p [91] then bX (aR [108,105,115,116] t.line t.text) (eK E C.ts p [91] [93])
  else if t.sort==110 then
   if aV C.ts (p+1) [40] then bX (aR [99,97,108,108] t.line t.text) (eK E C.ts (p+1) [40] [41])
   else .ok (aR [110,97,109,101] t.line t.text [],p+1)
  else Hs.bad C.ts p):=by show _=_;rw[aa.out,i1,i2];rfl
 clear aa i1 i2 ag;go_wp2_with fail;refine ab.out.mono ?_;rintro e w4 ⟨rfl,n,aj⟩;have u:=o.out.keep aj n;have P:=aB (dF C w4 p ⟨#[40]⟩ n);have bq:(⟨#[40]⟩:ByteArray).data.toList=[40]:=rfl;rw[bq] at P;have g:=aB u;clear bq n aj u o ab;cases i3:aV C.ts p [40];rotate_left
 ·have A:Hid (r=aN C.ts [41] (E (p+1))):=by show _=_;rw[av.out,i3];rfl
  rw[i3] at P;clear i3 av;go_wp2_with fail;refine P.out.mono ?_;rintro e w5 ⟨rfl,s,ai⟩;have bp:E (p+1)≠.error 0:=fun e=>bk.out (by rw[A.out,e];rfl)
  have HX:=aB (bm.out w5 (p+1) s bp);have bl:=aB (g.out.fr.trans ai);have cu:=bl.out.size;clear s ai bp P g;go_wp2_with fail;refine HX.out.mono ?_;rintro e w6 hO;cases ar:E (p+1) with
  |error l=>
   rw[ar] at hO;obtain⟨f,rfl⟩:=hO;have d:Hid (r=.error l):=by show _=_;rw[A.out,ar];rfl
   have B:=aB (bl.out.trans f);clear f HX;go_wp2_with fail;exact⟨rfl,Out.err d.out B.out⟩
  |ok aq=>
   obtain⟨a,q⟩:=aq;rw[ar] at hO;obtain⟨f,bw,v6,rfl,bx⟩:=hO;have ax:=aB (fP C w6 q ⟨#[41]⟩ bw);have ao:(⟨#[41]⟩:ByteArray).data.toList=[41]:=rfl;rw[ao] at ax;have B:=aB (bl.out.trans f);have ck:=aB bx;have ct:=f.size;clear bw f bx HX ao;go_wp2_with fail;refine ax.out.mono ?_;rintro e w7 ⟨b,G⟩;cases Y:aV C.ts q [41]
   ·rw[Y] at G;obtain rfl:e=cX 4 (aP C.ts q).line:=G;have d:Hid (r=.error (aP C.ts q).line):=by show _=_;rw[A.out,ar];exact xL Y
    have y:=aB (B.out.trans b);clear b ax Y;go_wp2_with fail;exact⟨rfl,Out.err d.out y.out⟩
   ·rw[Y] at G;obtain⟨rfl,ak⟩:=G;have d:Hid (r=.ok (a,q+1)):=by show _=_;rw[A.out,ar];exact nS Y
    have y:=aB (B.out.trans b);have cg:=aB ak;have cm:=aB (ck.out.grow (lo':=w.heap.size) (hi':=w7.heap.size) (fun k h1 h2=>b.block k h2 (by omega)) (by omega) b.size)
    clear b ax Y ak;go_wp2_with fail;go_ret;exact Out.ok d.out y.out cg.out cm.out
 rw[i3] at P
 have A:Hid (r=if aV C.ts p [91] then bX (aR [108,105,115,116] t.line t.text) (eK E C.ts p [91] [93])
  else if t.sort==110 then
   if aV C.ts (p+1) [40] then bX (aR [99,97,108,108] t.line t.text) (eK E C.ts (p+1) [40] [41])
   else .ok (aR [110,97,109,101] t.line t.text [],p+1)
  else Hs.bad C.ts p):=by show _=_;rw[av.out,i3];rfl
 clear av i3;go_wp2_with fail;refine P.out.mono ?_;rintro e w5 ⟨rfl,s,ai⟩;have ba:=g.out.keep ai s;have K:=aB (dF C w5 p ⟨#[91]⟩ s);have ao:(⟨#[91]⟩:ByteArray).data.toList=[91]:=rfl;rw[ao] at K;have S:=aB ba;clear ao s ai ba g P;cases i4:aV C.ts p [91];rotate_left
 ·obtain⟨r1,M⟩:∃r1,r1=gX E C.ts (p+1) [93]:=⟨_,rfl⟩;have F:Hid (r=bX (aR [108,105,115,116] t.line t.text) (aN C.ts [93] r1)):=by show _=_;rw[A.out,i4,M];unfold eK;rw[i4];rfl
  have ac:=aB M;rw[i4] at K;clear i4 A M;go_wp2_with fail;refine K.out.mono ?_;rintro e w6 ⟨rfl,j,f⟩;have af:=S.out.keep f j;have V:=aB (tF C E bm.out w6.drew (p+1) ⟨#[93]⟩ j.drew r1 _ ac rfl (fun e=>bk.out (by rw[F.out,e];rfl)))
  have al:(⟨#[93]⟩:ByteArray).data.toList=[93]:=rfl;rw[al] at V;have ad:=aB af;obtain⟨k0,k1,k2,k3,k4,k5,k6,k7,k8⟩:=af.cells;clear j f af al S K k1 k2 k3 k4 k7 k8;cases hV:aN C.ts [93] r1 with
  |error l=>
   rw[hV] at V;have d:Hid (r=.error l):=by show _=_;rw[F.out,hV];rfl
   clear hV;go_wp2_with fail;go_region_law (refine thrown (.slice none 0 0) ?_ ?_;(focus go_simp;go_at_call 329;refine V.out.mono ?_;rintro e w7 ⟨b,rfl⟩;exact aW_ rfl (Out.err d.out (ad.out.fr.drew.trans b)));intro D)
   all_goals exact D.out.elim
  |ok lq=>
   obtain⟨l,q⟩:=lq;rw[hV] at V;have d:Hid (r=.ok (aR [108,105,115,116] t.line t.text l,q)):=by show _=_;rw[F.out,hV];rfl
   clear hV;have cc:=ad.out.fr.size;go_wp2_with fail;go_region_law (go_simp;go_at_call 329;refine V.out.mono ?_;rintro e w7 ⟨b,ak,v,rfl,hk⟩;obtain⟨x,c,rfl⟩:=hk.slice;have HK:=aB hk;have U:=aB (ad.out.keep ((Fr.refl _ _).drew.trans b) ak);have y:=aB b;have c5:=U.out.cells.2.2.2.2.2.1;have c0:=U.out.cells.1;clear b ak hk)
   all_goals (go_wp2_with fail;go_ret)
   all_goals exact Out.ok d.out U.out.fr U.out.at_ (PN.mk (as_ (as_ (as_ (av_ ⟨rfl,_,rfl,rfl,rfl⟩)))) (fun p hp=>by obtain rfl:=aD_.1 hp;exact Prt.ok.list (HK.out.grow (fun _ _ _=>rfl) cc (au_ _))))
 rw[i4] at K
 have F:Hid (r=if t.sort==110 then
       if aV C.ts (p+1) [40] then bX (aR [99,97,108,108] t.line t.text) (eK E C.ts (p+1) [40] [41])
       else .ok (aR [110,97,109,101] t.line t.text [],p+1)
  else Hs.bad C.ts p):=by show _=_;rw[A.out,i4];rfl
 clear A i4;go_wp2_with fail;refine K.out.mono ?_;rintro e w6 ⟨rfl,j,f⟩;have B:=aB (S.out.fr.trans f);have Z:=aB (mL C w6 p j);rw[be.out] at Z;clear j f S K;cases O:(t.sort==110)
 ·rw[O] at Z;have d:Hid (r=.error t.line):=by show _=_;rw[F.out,O];show Hs.bad _ _=_;unfold Hs.bad;rw[be.out]
  clear O F;go_wp2_with fail;refine Z.out.mono ?_;rintro e w7 ⟨b,G⟩;obtain rfl:e=cX 4 t.line:=G;have y:=aB (B.out.trans b);clear b;go_wp2_with fail;exact⟨rfl,Out.err d.out y.out⟩
 rw[O] at Z
 have ac:Hid (r=if aV C.ts (p+1) [40] then bX (aR [99,97,108,108] t.line t.text) (eK E C.ts (p+1) [40] [41])
       else .ok (aR [110,97,109,101] t.line t.text [],p+1)):=by show _=_;rw[F.out,O];rfl
 clear F O;go_wp2_with fail;refine Z.out.mono ?_;rintro e w7 ⟨b,G⟩;obtain⟨rfl,au⟩:=G;have y:=aB ((B.out.trans b).alloc (.cells #[.int .i64 t.line,.string (bs t.text)] 211));have L:=aB (dF C (w7.alloc (.cells #[.int .i64 t.line,.string (bs t.text)] 211)) (p+1) ⟨#[40]⟩ (au.alloc _));have al:(⟨#[40]⟩:ByteArray).data.toList=[40]:=rfl;rw[al] at L;have bz:Hid ((w7.alloc (.cells #[.int .i64 t.line,.string (bs t.text)] 211)).heap[w7.heap.size]?=some (.cells #[.int .i64 t.line,.string (bs t.text)] 211 (0,0))):=aM _ _ rfl _;have bj:w7.heap.size≠C.pb:=by have:=au.pb_lt;omega
 have cn:=(B.out.trans b).size;clear b au Z B al;cases i5:aV C.ts (p+1) [40]
 ·rw[i5] at L;have d:Hid (r=.ok (aR [110,97,109,101] t.line t.text [],p+1)):=by show _=_;rw[ac.out,i5];rfl
  clear i5 ac;go_wp2_with fail;refine L.out.mono ?_;rintro e w8 ⟨rfl,I,N⟩;have J:=aB (N.keepB bz.out bj);have am:=aB (y.out.trans N);have cf:=aB I;have c0:=aA J.out (i:=0) rfl;have c1:=aA J.out (i:=1) rfl;have ci:=aD J.out;clear I N L;go_wp2_with fail;go_ret;exact Out.ok d.out am.out cf.out (PN.mk (as_ (as_ (as_ (as_ (as_ (av_ ⟨rfl,rfl,rfl,rfl,rfl⟩)))))) (fun p hp=>by cases hp))
 ·rw[i5] at L;obtain⟨r1,M⟩:∃r1,r1=gX E C.ts (p+1+1) [41]:=⟨_,rfl⟩;have bf:Hid (r=bX (aR [99,97,108,108] t.line t.text) (aN C.ts [41] r1)):=by show _=_;rw[ac.out,i5,M];unfold eK;rw[i5];rfl
  have cj:=aB M;clear i5 ac M;go_wp2_with fail;refine L.out.mono ?_;rintro e w8 ⟨rfl,I,N⟩;have J:=aB (N.keepB bz.out bj);have am:=aB (y.out.trans N);have V:=aB (tF C E bm.out w8.drew (p+1+1) ⟨#[41]⟩ I.drew r1 _ cj rfl (fun e=>bk.out (by rw[bf.out,e];rfl)))
  have bn:(⟨#[41]⟩:ByteArray).data.toList=[41]:=rfl;rw[bn] at V;have c0:=aA J.out (i:=0) rfl;have c1:=aA J.out (i:=1) rfl;have ci:=aD J.out;have bv:=am.out.size;clear I N L bn;cases hV:aN C.ts [41] r1 with
  |error l=>
   rw[hV] at V;have d:Hid (r=.error l):=by show _=_;rw[bf.out,hV];rfl
   clear hV;go_wp2_with fail;go_region_law (refine thrown (.slice none 0 0) ?_ ?_;(focus go_simp;go_at_call 329;refine V.out.mono ?_;rintro e w9 ⟨ae,rfl⟩;exact aW_ rfl (Out.err d.out (am.out.drew.trans ae)));intro D)
   all_goals exact D.out.elim
  |ok lq=>
   obtain⟨l,q⟩:=lq;rw[hV] at V;have d:Hid (r=.ok (aR [99,97,108,108] t.line t.text l,q)):=by show _=_;rw[bf.out,hV];rfl
   clear hV;go_wp2_with fail;go_region_law (go_simp;go_at_call 329;refine V.out.mono ?_;rintro e w9 ⟨ae,bu,v,rfl,hk⟩;obtain⟨x,c,rfl⟩:=hk.slice;have HK:=aB hk;have cl:=aB ae;have ce:=aB bu;have bh:=aB (((Fr.refl C.pb w8).drew.trans ae).keepB J.out bj);have d0:=aA bh.out (i:=0) rfl;have d1:=aA bh.out (i:=1) rfl;have da:=aD bh.out;clear ae bu hk)
   all_goals (go_wp2_with fail;go_ret)
   all_goals exact Out.ok d.out (am.out.drew.trans cl.out) ce.out (PN.mk (as_ (as_ (as_ (as_ (av_ ⟨rfl,_,rfl,rfl,rfl⟩))))) (fun p hp=>by obtain rfl:=aD_.1 hp;exact Prt.ok.list (HK.out.grow (fun _ _ _=>rfl) bv (au_ _))))
abbrev S1(W:World)(b l:Nat):Prop:=W.heap[b]?=some (.cells #[.int .i64 l] 209 (0,0))
def S1.new(w:World)(l:Nat):S1 (w.alloc (.cells #[.int .i64 l] 209)) w.heap.size l:=aM _ _ rfl _
def MG(C:Ctx)(E:Nat->bU aC)(w:World)(r:bU aC)(tb l:Nat)(k:Nat)(v:Value)(wr:World):Prop:=
 Fr C.pb w wr/\∃q a,PAt C wr q/\r=cZ E C.ts k a q/\PN (Btw w.heap.size wr.heap.size) wr v a/\S1 wr tb l
def L1(C:Ctx)(E:Nat->bU aC)(HE:PReads C 164 E):PReads C 349 (fun p=>bR (dT E C.ts p) (cZ E C.ts (C.ts.length+1))):=by
 intro w p h K;have Q:=aB (mM C w p h);have J:dT E C.ts p≠.error 0:=fun e=>K (by show bR _ _=_;rw[e];rfl)
 have t:=aB (fun w1 (hb:Below w.heap.size w w1)=>OC C E HE w1 p (h.below hb) J)
 have ax:=aB HE;have ba:=h.pb_lt;obtain⟨r,hr⟩:∃r,r=bR (dT E C.ts p) (cZ E C.ts (C.ts.length+1)):=⟨_,rfl⟩;have I:r≠.error 0:=hr▸K;show Calls _ _ _ _ (GK C w (bR (dT E C.ts p) (cZ E C.ts (C.ts.length+1))))
 rw[<-hr];have HR:=aB hr;have ag:=aB I;clear h HE K hr J I;generalize (aP C.ts p).line=pl at*;cases n:dT E C.ts p with
 |error l=>
  have s:Hid (r=.error l):=by show _=_;rw[HR.out,n];rfl
  rw[n] at t;clear n HR;go_enter func349,ntmps349;go_wp2_with fail;refine Q.out.mono ?_;rintro e w1 ⟨rfl,A⟩;have o:=aB A;clear A;go_wp2_with fail;refine(t.out w1 o.out).mono ?_;rintro e w2 ⟨m,rfl⟩;have az:=aB ((Fr.below o.out).trans m);clear m;go_wp2_with fail;exact⟨rfl,Out.err s.out az.out⟩
 |ok aq=>
  obtain⟨a0,q0⟩:=aq;have s:Hid (r=cZ E C.ts (C.ts.length+1) a0 q0):=by show _=_;rw[HR.out,n];rfl
  rw[n] at t;clear n HR;go_enter func349,ntmps349;go_wp2_with fail;refine Q.out.mono ?_;rintro e w1 ⟨rfl,A⟩;have o:=aB A;clear A;go_wp2_with fail;refine(t.out w1 o.out).mono ?_;rintro e w2 ⟨m,af,v2,rfl,Z⟩;have aw:=o.out.size;have bd:=m.size
  have HI:Hid (MG C E w r w2.heap.size pl (C.ts.length+1) v2 (w2.alloc (.cells #[.int .i64 pl] 209))):=
   ⟨((Fr.below o.out).trans m).alloc _,q0,a0,af.alloc _,s.out,Z.grow (fun k _ B=>aA_ _ _ _ B) aw (by simp),S1.new _ _⟩
  obtain⟨T2,bh,rfl⟩:=Z.form;clear m af Z s t Q;go_wp2_with fail;go_loopg [4] (C.ts.length+1) (fun k v wr=>MG C E w r w2.heap.size pl k v wr)
  case atStart=>exact HI.out
  case round=>
   obtain⟨L,q,a,aa,z,O,G⟩:=hrel;obtain⟨T3,bi,rfl⟩:=O.form
   obtain⟨k,rfl⟩:∃k,gk=k+1:=by
    cases gk with
    |zero=>exact absurd z ag.out
    |succ k=>exact⟨k,rfl⟩
   have HA:=aB (dF C wr q ⟨#[91]⟩ aa);have ed:(⟨#[91]⟩:ByteArray).data.toList=[91]:=rfl;rw[ed] at HA;have Y:=aB L;have P:=aB O;have ac:=aB G;have bb:=L.size;clear L aa O G ed HI;cases b:aV C.ts q [91]
   ·have s:Hid (r=.ok (a,q)):=by show _=_;rw[z,cZ,b];rfl
    rw[b] at HA;clear b z;go_wp2_with fail;refine HA.out.mono ?_;rintro e w4 ⟨rfl,u,c⟩;have f:=aB c;have x:=aB u;clear c u;go_wp2_with fail;go_ret;exact Out.ok s.out (Y.out.trans f.out) x.out (P.out.grow (fun k h1 B=>f.out.block k B (by omega)) (au_ _) f.out.size)
   ·obtain⟨rE,M⟩:∃rE,rE=E (q+1):=⟨_,rfl⟩;have j:Hid (r=match aN C.ts [93] rE with|.error l=>.error l|.ok (i,q')=>cZ E C.ts k (aR [105,110,100,101,120] (aP C.ts q).line [] [a,i]) q'):=by show _=_;rw[z,cZ,b,M];rfl
    rw[b] at HA;have aj:=aB M;clear b z M;have ab:E (q+1)≠.error 0:=fun e=>ag.out (by rw[j.out,aj.out,e];rfl)
    go_wp2_with fail;refine HA.out.mono ?_;rintro e w4 ⟨rfl,u,c⟩;have HX:=aB (ax.out w4.drew (q+1) u.drew ab);rw[<-aj.out] at HX;have ao:=aB (P.out.grow (fun k h1 B=>c.block k B (by omega)) (au_ _) c.size)
    have x:=aB (c.keepB ac.out (by omega))
    have f:=aB (Y.out.trans c);have c0:=aA x.out (i:=0) rfl;have ay:=aD x.out;have bf:=c.size;clear c u P ac Y HA ab;cases rE with
    |error l=>
     have s:Hid (r=.error l):=j.out;go_wp2_with fail;go_region_law (refine thrown .nilIface ?_ ?_;(focus go_simp;go_at_call 164;refine HX.out.mono ?_;rintro e w5 ⟨y,rfl⟩;exact aW_ rfl (Out.err s.out (f.out.drew.trans y)));intro D)
     all_goals exact D.out.elim
    |ok iq=>
     obtain⟨i,F⟩:=iq;have T:=aB (fun w5 (h:PAt C w5 F)=>fP C w5 F ⟨#[93]⟩ h)
     have ed:(⟨#[93]⟩:ByteArray).data.toList=[93]:=rfl;rw[ed] at T;clear ed;go_wp2_with fail;go_cut [4] (fun v wc=>Fr C.pb w wc/\PAt C wc F/\PN (Btw w.heap.size wc.heap.size) wc v (aR [105,110,100,101,120] (aP C.ts q).line [] [a,i])/\S1 wc w2.heap.size pl)
     case first=>
      go_region_law (go_simp;go_at_call 164;refine HX.out.mono ?_;rintro e w5 ⟨y,ai,v5,rfl,S⟩;obtain⟨T5,bg,rfl⟩:=S.form;have am:=aB S;have V:=aB y;have al:=aB ai;have W:=aB (((Fr.refl C.pb w4).drew.trans y).keepB x.out (by omega));have d0:=aA W.out (i:=0) rfl;have be:=aD W.out;clear y ai S)
      all_goals
       go_wp2_with fail;go_meet
       case rel=>
        have ap:=V.out.size
        exact⟨f.out.drew.trans V.out,al.out,PN.mk (as_ (as_ (as_ (as_ (as_ (as_ (av_ ⟨rfl,pl,_,_,a,i,rfl,rfl,rfl,rfl⟩))))))) (fun p hp=>by
         simp only[aG_,aQ_,or_false] at hp;rcases hp with rfl|rfl
         ·exact Prt.ok.node (ao.out.grow (fun k h1 B=>V.out.block k B (by omega)) (au_ _) ap)
         ·exact Prt.ok.node (am.out.grow (fun _ _ _=>rfl) (by have:=f.out.size;exact this) (au_ _))),W.out⟩
     case rest=>
      obtain⟨X,ae,U,H⟩:=hcut;obtain⟨T6,ak,rfl⟩:=U.form;have g:=aB (T.out _ ae);have ah:=aB X;have au:=aB U;have ar:=aB H;have bc:=X.size;clear X ae U H T HX c0 ay;cases b:aV C.ts F [93]
      ·have s:Hid (r=.error (aP C.ts F).line):=by show _=_;rw[j.out,xL b]
       rw[b] at g;clear b j;go_wp2_with fail;refine g.out.mono ?_;rintro e w7 ⟨d,N⟩;obtain rfl:e=cX 4 (aP C.ts F).line:=N;have av:=aB (ah.out.trans d);clear d;go_wp2_with fail;exact⟨rfl,Out.err s.out av.out⟩
      ·have s:Hid (r=cZ E C.ts k (aR [105,110,100,101,120] (aP C.ts q).line [] [a,i]) (F+1)):=by show _=_;rw[j.out,nS b]
       rw[b] at g;clear b j;go_wp2_with fail;refine g.out.mono ?_;rintro e w7 ⟨d,N⟩;obtain⟨rfl,ad⟩:=N
       have an:Hid (MG C E w r w2.heap.size pl k (.iface T6 (.agg ak)) w7):=
        ⟨ah.out.trans d,F+1,_,ad,s.out,au.out.grow (fun k h1 B=>d.block k B (by omega)) (au_ _) d.size,d.keepB ar.out (by omega)⟩
       clear d ad;go_wp2_with fail;go_roundg k
       case measure=>omega
       case rel=>exact an.out
end Go.Proofs.YtblbkfdhjfppkaaGreatDoor
