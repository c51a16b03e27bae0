/- Contracts of the program: the parser's small steps. -/
import Derived.Test.YtblbkfdhjfppkaaGreatDoorP02
set_option linter.defProp false
set_option maxRecDepth 100000
set_option maxHeartbeats 4000000
namespace Go.Proofs.YtblbkfdhjfppkaaGreatDoor
open Hs
open _root_.Go.Proofs.Tryz(prog)
open Go.RowKit
def psort(s:Nat):Nat:=if s=110 then 1 else if s=48 then 2 else if s=115 then 3 else if s=101 then 4 else 0
def pval(t:aX):Nat:=if t.sort=48 then (dG 0 t.text).getD 0 else 0
def ptok(t:aX):List Value:=[.int .i64 (psort t.sort),.string (bs t.text),.int .i64 (pval t),.int .i64 t.line]
def ptoks:List aX->List Value
 |[]=>[]
 |t::ts=>ptok t++ptoks ts
def KJ(ts:List aX):(ptoks ts).length=ts.length*4:=by
 induction ts with
 |nil=>rfl
 |cons t ts a=>simp[ptoks,ptok,a];omega
def CE(ts:List aX)(t:aX):ptoks (ts++[t])=ptoks ts++ptok t:=by
 induction ts with
 |nil=>simp[ptoks]
 |cons x ts a=>simp[ptoks,a]
structure PAt(C:Ctx)(w:World)(p:Nat):Prop where
 blk:w.heap[C.pb]?=some (.cells #[.slice (some ⟨C.g,0,none⟩) C.ts.length C.cap,.int .i64 p] 144 (0,0))
 row:∃cur,w.heap[C.g]?=some (.cells cur 206 (0,0))/\cur.toList.take (C.ts.length*4)=ptoks C.ts
 ne:C.g≠C.pb
 lt:p<C.ts.length
 len:C.ts.length<=3000
 cap:C.ts.length<=C.cap
 all:rG C.ts
 tsk:EB C.ts
def YO(ts:List aX)(p:Nat)(h:p<ts.length):(ptoks ts)[p*4]?=some (.int .i64 (psort (aP ts p).sort))/\(ptoks ts)[p*4+1]?=some (.string (bs (aP ts p).text))/\(ptoks ts)[p*4+1+1]?=some (.int .i64 (pval (aP ts p)))/\(ptoks ts)[p*4+1+1+1]?=some (.int .i64 (aP ts p).line):=by
 induction ts generalizing p with
 |nil=>simp at h
 |cons t ts b=>
  cases p with
  |zero=>simp[ptoks,ptok,aP]
  |succ p=>
   have:=b p (by simpa using h)
   have e:∀j,(ptoks (t::ts))[(p+1)*4+j]?=(ptoks ts)[p*4+j]?:=fun j=>by
    rw[ptoks,aV_ (by simp[ptok];omega)]
    congr 1;simp[ptok];omega
   have a:aP (t::ts) (p+1)=aP ts p:=by simp[aP]
   rw[a];exact⟨(e 0).trans this.1,(e 1).trans this.2.1,(e 2).trans this.2.2.1,(e 3).trans this.2.2.2⟩
def PAt.tok{C:Ctx}{w:World}{p:Nat}(h:PAt C w p):w.cell? ⟨C.g,p*4,none⟩=some (.int .i64 (psort (aP C.ts p).sort))/\w.cell? ⟨C.g,p*4+1,none⟩=some (.string (bs (aP C.ts p).text))/\w.cell? ⟨C.g,p*4+1+1,none⟩=some (.int .i64 (pval (aP C.ts p)))/\w.cell? ⟨C.g,p*4+1+1+1,none⟩=some (.int .i64 (aP C.ts p).line):=by
 obtain⟨k,f,g⟩:=h.row;obtain⟨l,m,c,i⟩:=YO C.ts p h.lt;have n:=KJ C.ts
 have e:∀j v,(ptoks C.ts)[j]?=some v->w.cell? ⟨C.g,j,none⟩=some v:=fun j v a=>by
  have b:j<C.ts.length*4:=by
   by_cases d:j<C.ts.length*4
   ·exact d
   ·rw[a4_ (by omega)] at a;cases a
  refine aA f ?_;rw[<-g,aU_,if_pos b] at a;simpa using a
 exact⟨e _ _ l,e _ _ m,e _ _ c,e _ _ i⟩
def PAt.keep{C:Ctx}{w w':World}{p:Nat}(h:PAt C w p)(b:w'.heap[C.pb]?=w.heap[C.pb]?)(c:w'.heap[C.g]?=w.heap[C.g]?):PAt C w' p:=by
 obtain⟨a,d,e⟩:=h.row;exact⟨by rw[b];exact h.blk,⟨a,by rw[c];exact d,e⟩,h.ne,h.lt,h.len,h.cap,h.all,h.tsk⟩
def PAt.below{C:Ctx}{w w':World}{p:Nat}(h:PAt C w p)(a:Below w.heap.size w w'):PAt C w' p:=by
 obtain⟨c,b,d⟩:=h.row;exact h.keep (a.block _ (aD h.blk)) (a.block _ (aD b))
def PAt.other{C:Ctx}{w:World}{p b i:Nat}{u:Value}(h:PAt C w p)(a:b≠C.pb)(c:b≠C.g):PAt C (w.setCell ⟨b,i,none⟩ u) p:=
 h.keep (ax_ _ _ _ _ (fun e=>a e.symm)) (ax_ _ _ _ _ (fun e=>c e.symm))
def PAt.g_lt{C:Ctx}{w:World}{p:Nat}(h:PAt C w p):C.g<w.heap.size:=by obtain⟨_,a,_⟩:=h.row;exact aD a
def PAt.pb_lt{C:Ctx}{w:World}{p:Nat}(h:PAt C w p):C.pb<w.heap.size:=aD h.blk
def PAt.alloc{C:Ctx}{w:World}{p:Nat}(h:PAt C w p)(o:Obj):PAt C (w.alloc o) p:=h.below ((ay_ _ _).alloc (au_ _) _)
def PAt.drew{C:Ctx}{w:World}{p:Nat}(h:PAt C w p):PAt C w.drew p:=h.below (ay_ _ _).drew
def oE(t:aX):Value:=.agg #[.int .i64 (psort t.sort),.string (bs t.text),.int .i64 (pval t),.int .i64 t.line]
def TP(pb g h p n:Nat)(w:World)(a c d:Int)(b:ByteArray)(x:p<n)(_hn:n<=3000)(_hnc:n<=h)(i:pb<w.heap.size)(f:g<w.heap.size)
 (l:w.cell? ⟨pb,0,none⟩=some (.slice (some ⟨g,0,none⟩) n h)) (c1:w.cell? ⟨pb,1,none⟩=some (.int .i64 p))
 (m:w.cell? ⟨g,p*4,none⟩=some (.int .i64 a)) (j:w.cell? ⟨g,p*4+1,none⟩=some (.string b)) (q:w.cell? ⟨g,p*4+1+1,none⟩=some (.int .i64 c)) (k:w.cell? ⟨g,p*4+1+1+1,none⟩=some (.int .i64 d)):
  Calls prog 133 #[.pointer (some ⟨pb,0,none⟩)] w fun e r=>e=.returned (.agg #[.int .i64 a,.string b,.int .i64 c,.int .i64 d])/\Below w.heap.size w r:=by
 have s:∀o,(w.alloc o).cell? ⟨pb,0,none⟩=some (.slice (some ⟨g,0,none⟩) n h):=fun o=>by rw[World.cell?_alloc_past _ _ _ i];exact l
 have z:∀o,(w.alloc o).cell? ⟨pb,1,none⟩=some (.int .i64 p):=fun o=>by rw[World.cell?_alloc_past _ _ _ i];exact c1
 have u:∀o,(w.alloc o).cell? ⟨g,p*4,none⟩=some (.int .i64 a):=fun o=>by rw[World.cell?_alloc_past _ _ _ f];exact m
 have A:∀o,(w.alloc o).cell? ⟨g,p*4+1,none⟩=some (.string b):=fun o=>by rw[World.cell?_alloc_past _ _ _ f];exact j
 have y:∀o,(w.alloc o).cell? ⟨g,p*4+1+1,none⟩=some (.int .i64 c):=fun o=>by rw[World.cell?_alloc_past _ _ _ f];exact q
 have t:∀o,(w.alloc o).cell? ⟨g,p*4+1+1+1,none⟩=some (.int .i64 d):=fun o=>by rw[World.cell?_alloc_past _ _ _ f];exact k
 clear l c1 m j q k;go_enter Tryz.func133,Tryz.ntmps133;go_wp2_with fail;go_region
 go_wp2_with fail;refine bodyPost_ret (v:=.agg #[.int .i64 a,.string b,.int .i64 c,.int .i64 d]) (by simp[results,Tryz.results133,go_sem]) rfl ⟨rfl,?_⟩
 exact((ay_ _ _).alloc (au_ _) _).drew
def mK(C:Ctx)(w:World)(p:Nat)(h:PAt C w p):
 Calls prog 133 #[.pointer (some ⟨C.pb,0,none⟩)] w fun e a=>e=.returned (oE (aP C.ts p))/\Below w.heap.size w a:=
 TP C.pb C.g C.cap p C.ts.length w _ _ _ _ h.lt h.len h.cap (aD h.blk) (by obtain⟨_,b,_⟩:=h.row;exact aD b) (aA h.blk rfl) (aA h.blk rfl) h.tok.1 h.tok.2.1 h.tok.2.2.1 h.tok.2.2.2
abbrev cX(k n:Nat):Ending:=.panicked [{ v:=.iface 141 (.agg #[.int .i64 k,.int .i64 n]),recovered:=false }]
def gF(k n:Nat)(w:World):
 Calls prog 136 #[.int .i64 k,.int .i64 n] w fun e a=>e=cX k n/\a=w:=by
 go_enter Tryz.func136,Tryz.ntmps136;go_wp2_with fail;exact⟨rfl,rfl,rfl⟩
def IB(a c d:Int)(b:ByteArray)(w:World):(Instr.field 206 (.agg #[.int .i64 a,.string b,.int .i64 c,.int .i64 d]) 3).run prog w=.ok (.int .i64 d) w:=by kernel_rfl
def mM(C:Ctx)(w:World)(p:Nat)(h:PAt C w p):
 Calls prog 283 #[.pointer (some ⟨C.pb,0,none⟩)] w fun e d=>e=.returned (.agg #[.int .i64 (aP C.ts p).line])/\Below w.heap.size w d:=by
 have b:=aB (fun o=>mK C (w.alloc o) p (h.below ((ay_ _ _).alloc (au_ _) _)))
 simp only[oE] at b;clear h;go_enter Tryz.func283,Tryz.ntmps283;go_wp2_with fail;refine(b.out _).mono ?_;rintro e c ⟨rfl,a⟩;obtain⟨f,k⟩:=bcell a;have j:w.heap.size<c.heap.size:=by have:=a.size;simp at this;omega
 have g:=aB a;have i:=IB;clear a b;go_wp2_with fail;refine bodyPost_ret (v:=.agg #[.int .i64 (aP C.ts p).line]) (by simp[results,Tryz.results283,go_sem,f]) rfl ⟨rfl,?_⟩
 exact(((ay_ _ _).alloc (au_ _) _).trans (g.out.mono (by simp))).setCell (by simp) _
def PAt.move{C:Ctx}{w w1:World}{p:Nat}(h:PAt C w p)(b:Below w.heap.size w w1)(q:Nat)(d:q<C.ts.length):
 PAt C (w1.setCell ⟨C.pb,1,none⟩ (.int .i64 q)) q/\Fr C.pb w (w1.setCell ⟨C.pb,1,none⟩ (.int .i64 q)):=by
 have c:=h.below b;obtain⟨a,e,f⟩:=c.row;refine⟨⟨?_,⟨a,?_,f⟩,h.ne,d,h.len,h.cap,h.all,h.tsk⟩,Fr.setCell (p:=⟨C.pb,1,none⟩) (Fr.below b) (av_ rfl) _⟩
 ·rw[aS c.blk];rfl
 ·rw[ax_ _ _ _ _ h.ne];exact e
def PAt.cells{C:Ctx}{w w1:World}{p:Nat}(h:PAt C w p)(b:Below w.heap.size w w1):
 C.pb<w1.heap.size/\w1.cell? ⟨C.pb,1,none⟩=some (.int .i64 p)/\w1.frozen? ⟨C.pb,1,none⟩=false:=by
 have a:=h.below b;exact⟨aD a.blk,aA a.blk rfl,aE a.blk⟩
def z8{C:Ctx}{w:World}{p:Nat}(h:PAt C w p)(x:List UInt8):aV C.ts p x=(decide (psort (aP C.ts p).sort=0) && (aP C.ts p).text==x):=by
 unfold aV psort;have:=h.tsk.tk p h.lt;generalize aP C.ts p=t at*;rcases this with h|⟨h,_⟩|h|⟨h,_⟩|h|h<;>simp[h]
def dF(C:Ctx)(w:World)(p:Nat)(x:ByteArray)(h:PAt C w p):
 Calls prog 256 #[.pointer (some ⟨C.pb,0,none⟩),.string x] w fun e m=>e=.returned (.bool (aV C.ts p x.data.toList))/\PAt C m (if aV C.ts p x.data.toList then p+1 else p)/\Fr C.pb w m:=by
 have g:=aB (z8 h x.data.toList);have c:=aB (mK C w p h);simp only[oE] at c;have r:Hid (aV C.ts p x.data.toList=true->p+1<C.ts.length):=fun e=>h.all.ok.isT h.lt e
 have l:Hid (((bs (aP C.ts p).text).toList==x.toList)=((aP C.ts p).text==x.data.toList)):=by show _=_;rw[cA,Lib.toList_data]
 have u:p<=3000:=by have:=h.lt;have:=h.len;omega
 have H:=aB h;clear h;generalize aV C.ts p x.data.toList=k at*;generalize aP C.ts p=t at*;obtain⟨d,i,v⟩:=t;simp only at g c l;generalize pval ⟨d,i,v⟩=z at*;go_enter Tryz.func256,Tryz.ntmps256;go_wp2_with fail;refine c.out.mono ?_;rintro e B ⟨rfl,j⟩;obtain⟨y,A,D⟩:=H.out.cells j;have b:=aB j;clear j c;by_cases n:psort d=0
 ·have q:((psort d:Int) != 0)=false:=by simp;omega
  cases f:(i==x.data.toList)
  ·have s:((bs i).toList==x.toList)=false:=by rw[l.out,f]
   have a:k=false:=by have:=g.out;rw[f] at this;simpa using this
   subst a;go_wp2_with fail;go_ret;exact⟨iY rfl,H.out.below (b.out.alloc b.out.size _),Fr.below (b.out.alloc b.out.size _)⟩
  ·have s:((bs i).toList==x.toList)=true:=by rw[l.out,f]
   have a:k=true:=by have:=g.out;rw[f,n] at this;simpa using this
   subst a;go_wp2_with fail;go_ret;have o:=H.out.move b.out (p+1) (r.out trivial);exact⟨iY rfl,o.1.below ((ay_ _ _).alloc (au_ _) _),o.2.alloc _⟩
 ·have q:((psort d:Int) != 0)=true:=by simp;omega
  have a:k=false:=by have:=g.out;simp[n] at this;exact this
  subst a;go_wp2_with fail;go_ret;exact⟨iY rfl,H.out.below (b.out.alloc b.out.size _),Fr.below (b.out.alloc b.out.size _)⟩
def fP(C:Ctx)(w:World)(p:Nat)(x:ByteArray)(h:PAt C w p):
 Calls prog 184 #[.pointer (some ⟨C.pb,0,none⟩),.string x] w fun e j=>Fr C.pb w j/\if aV C.ts p x.data.toList then e=.returned (.tuple #[])/\PAt C j (p+1) else e=cX 4 (aP C.ts p).line:=by
 have g:=aB (dF C w p x h);have H:=aB h;clear h;cases d:aV C.ts p x.data.toList
 ·rw[d] at g;go_enter Tryz.func184,Tryz.ntmps184;go_wp2_with fail;refine g.out.mono ?_;rintro e l ⟨rfl,b,a⟩;have k:=aB (mK C l p b);simp only[oE] at k;have c:=aB a;have n:=IB;clear a b;go_wp2_with fail;refine k.out.mono ?_;rintro e r ⟨rfl,f⟩;have o:=aB f;clear f;go_wp2_with (go_at_call 136;refine(gF 4 (aP C.ts p).line _).mono ?_;rintro e q ⟨rfl,m⟩;obtain rfl:=m.symm)
  exact⟨rfl,c.out.trans (Fr.below o.out),rfl⟩
 ·rw[d] at g;go_enter Tryz.func184,Tryz.ntmps184;go_wp2_with fail;refine g.out.mono ?_;rintro e l ⟨rfl,b,a⟩;have c:=aB a;have i:=aB b;clear a b;go_wp2_with fail;go_end0;exact⟨c.out,rfl,i.out⟩
def YR(t:aX):psort t.sort=1↔t.sort=110:=by
 unfold psort;split<;>(try split)<;>(try split)<;>(try split)<;>simp_all
def mL(C:Ctx)(w:World)(p:Nat)(h:PAt C w p):
 Calls prog 185 #[.pointer (some ⟨C.pb,0,none⟩)] w fun e s=>Fr C.pb w s/\if (aP C.ts p).sort==110 then e=.returned (.agg #[.int .i64 (aP C.ts p).line,.string (bs (aP C.ts p).text)])/\PAt C s (p+1) else e=cX 4 (aP C.ts p).line:=by
 have d:=aB (fun o=>mK C (w.alloc o) p (h.below ((ay_ _ _).alloc (au_ _) _)))
 simp only[oE] at d;have k:Hid ((aP C.ts p).sort=110->p+1<C.ts.length):=fun e=>h.all.ok.next p h.lt (by rw[e];decide)
 have i:=aB (YR (aP C.ts p));have J:p<=3000:=by have:=h.lt;have:=h.len;omega
 have H:=aB h;have I:C.pb<w.heap.size:=aD h.blk;have g:w.heap.size≠C.g:=by have:=h.g_lt;omega
 clear h;generalize aP C.ts p=t at*;obtain⟨f,A,r⟩:=t;simp only at d k i;simp only;generalize pval ⟨f,A,r⟩=M at*;generalize psort f=y at*;by_cases c:f=110
 ·obtain rfl:y=1:=i.out.2 c;have n:=k.out c;rw[show (f==110)=true by simpa using c]
  clear c i k;go_enter Tryz.func185,Tryz.ntmps185;go_wp2_with fail;refine(d.out _).mono ?_;rintro e q ⟨rfl,b⟩;have a:=((ay_ _ _).alloc (au_ _) _).trans (b.mono (by simp))
  obtain⟨D,F,G⟩:=H.out.cells a;obtain⟨u,B⟩:=bcell b;have z:w.heap.size<q.heap.size:=by have:=b.size;simp at this;omega
  have l:=aB a;clear b a d;have m:¬C.pb=w.heap.size:=by omega
  have j:¬w.heap.size=C.pb:=by omega
  go_wp2_with fail;have x:=H.out.move l.out (p+1) n;refine bodyPost_ret (v:=.agg #[.int .i64 r,.string (bs A)]) (by simp[results,Tryz.results185,go_sem,World.cell?_alloc_past,z,u]) rfl ?_
  refine⟨((x.2.setCell (p:=⟨w.heap.size,0,none⟩) (as_ (au_ _)) _).setCell (p:=⟨w.heap.size,1,none⟩) (as_ (au_ _)) _).alloc _,rfl,?_⟩;exact((x.1.other (by omega) g).other (by omega) g).below ((ay_ _ _).alloc (au_ _) _)
 ·have L:((y:Int) != 1)=true:=by simp;intro e;exact c (i.out.1 (by omega))
  rw[show (f==110)=false by simpa using c]
  clear c i k;go_enter Tryz.func185,Tryz.ntmps185;go_wp2_with fail;refine(d.out _).mono ?_;rintro e q ⟨rfl,b⟩;have a:=((ay_ _ _).alloc (au_ _) _).trans (b.mono (by simp))
  obtain⟨D,F,G⟩:=H.out.cells a;obtain⟨u,B⟩:=bcell b;have z:w.heap.size<q.heap.size:=by have:=b.size;simp at this;omega
  have l:=aB a;clear b a d;have m:¬C.pb=w.heap.size:=by omega
  have j:¬w.heap.size=C.pb:=by omega
  go_wp2_with (go_at_call 136;refine(gF 4 r _).mono ?_;rintro e K ⟨rfl,E⟩;obtain rfl:=E.symm)
  exact⟨rfl,Fr.below (l.out.alloc l.out.size _),rfl⟩
def vL(R:Value->aC->Prop)(F:Nat->Prop)(w:World)(kv:Value)(ks:List aC):Prop:=
 (kv=.slice none 0 0/\ks=[])\/
 ∃g cap cur vs,kv=.slice (some ⟨g,0,none⟩) ks.length cap/\F g/\w.heap[g]?=some (.cells cur 122 (0,0))/\ks.length<=cap/\cur.toList.take ks.length=vs/\jX R vs ks
structure Prt where
 v:Value
 ks:List aC
 one:Bool
def tC(R:Value->aC->Prop)(F:Nat->Prop)(w:World)(p:Prt):Prop:=
 (p.one=true/\∃a,p.ks=[a]/\R p.v a)\/(p.one=false/\vL R F w p.v p.ks)
def Shape(T:TypeId)(cs:Array Value)(a:aC)(ps:List Prt):Prop:=
 (T=397/\∃k,cs= #[.int .i64 a.line,.int .i64 (k:Nat)]/\a.op=[48]/\dG 0 a.text=some k/\a.kids=[]/\ps=[])\/
 (T=398/\cs= #[.int .i64 a.line,.string (bs a.text)]/\a.op=[115]/\a.kids=[]/\ps=[])\/
 (T=400/\cs= #[.int .i64 a.line,.bool (a.text==[116,114,117,101])]/\a.op=[98,111,111,108]/\a.kids=[]/\ps=[])\/
 (T=346/\∃sv,cs= #[.int .i64 a.line,sv]/\a.op=[108,105,115,116]/\ps=[⟨sv,a.kids,false⟩])\/
 (T=341/\∃sv,cs= #[.int .i64 a.line,.string (bs a.text),sv]/\a.op=[99,97,108,108]/\ps=[⟨sv,a.kids,false⟩])\/
 (T=344/\cs= #[.int .i64 a.line,.string (bs a.text)]/\a.op=[110,97,109,101]/\a.kids=[]/\ps=[])\/
 (T=348/\∃l v1 v2 a1 a2,cs= #[.int .i64 (l:Nat),v1,v2]/\a.op=[105,110,100,101,120]/\a.kids=[a1,a2]/\ps=[⟨v1,[a1],true⟩,⟨v2,[a2],true⟩])\/
 (T=350/\∃o v1 a1,cs= #[.int .i64 a.line,.string (bs [o]),v1]/\(o=45\/o=33)/\a.op=[o,120]/\a.kids=[a1]/\ps=[⟨v1,[a1],true⟩])\/
 (T=352/\∃l v1 v2 a1 a2,cs= #[.int .i64 (l:Nat),.string (bs a.op),v1,v2]/\bZ a.op≠9/\a.kids=[a1,a2]/\ps=[⟨v1,[a1],true⟩,⟨v2,[a2],true⟩])\/
 (T=329/\∃v1 t a1,cs= #[.int .i64 a.line,.int .i64 t.line,.string (bs t.text),v1]/\a.op=[118,97,114]/\a.kids=[t,a1]/\ps=[⟨v1,[a1],true⟩])\/
 (T=332/\∃sv v1 l a1,cs= #[.int .i64 a.line,.string (bs a.text),sv,v1]/\a.op=[115,101,116]/\a.kids=l++[a1]/\ps=[⟨sv,l,false⟩,⟨v1,[a1],true⟩])\/
 (T=334/\∃v1 s1 a1 b1,cs= #[.int .i64 a.line,v1,s1,.slice none 0 0]/\a.op=[105,102]/\b1.op=[98,108,111,99,107]/\a.kids=[a1,b1]/\ps=[⟨v1,[a1],true⟩,⟨s1,b1.kids,false⟩])\/
 (T=334/\∃v1 s1 s2 a1 b1 b2,cs= #[.int .i64 a.line,v1,s1,s2]/\a.op=[105,102]/\b1.op=[98,108,111,99,107]/\b2.op=[98,108,111,99,107]/\a.kids=[a1,b1,b2]/\ps=[⟨v1,[a1],true⟩,⟨s1,b1.kids,false⟩,⟨s2,b2.kids,false⟩])\/
 (T=336/\∃v1 s1 a1 b1,cs= #[.int .i64 a.line,v1,s1]/\a.op=[119,104,105,108,101]/\b1.op=[98,108,111,99,107]/\a.kids=[a1,b1]/\ps=[⟨v1,[a1],true⟩,⟨s1,b1.kids,false⟩])\/
 (T=338/\∃l,cs= #[.int .i64 a.line,.iface 397 (.agg #[.int .i64 (l:Nat),.int .i64 0])]/\a.op=[114,101,116,117,114,110]/\a.kids=[]/\ps=[])\/
 (T=338/\∃v1 a1,cs= #[.int .i64 a.line,v1]/\a.op=[114,101,116,117,114,110]/\a.kids=[a1]/\ps=[⟨v1,[a1],true⟩])\/
 (T=339/\∃v1 a1,cs= #[.int .i64 a.line,v1]/\a.op=[112,114,105,110,116]/\a.kids=[a1]/\ps=[⟨v1,[a1],true⟩])\/
 (T=341/\∃sv c,cs= #[.int .i64 c.line,.string (bs c.text),sv]/\a.op=[100,111]/\a.line=c.line/\a.text=c.text/\a.kids=[c]/\c.op=[99,97,108,108]/\ps=[⟨sv,c.kids,false⟩])
def PND:Nat->(Nat->Prop)->World->Value->aC->Prop
 |0,_,_,_,_=>False
 |d+1,F,w,v,a=>∃T cs ps,v=.iface T (.agg cs)/\Shape T cs a ps/\∀p∈ps,tC (PND d F w) F w p
def PN(F:Nat->Prop)(w:World)(v:Value)(a:aC):Prop:=∃d,PND d F w v a
def vL.mono{R S:Value->aC->Prop}{F G:Nat->Prop}{w:World}{e:Value}{ks:List aC}(h:vL R F w e ks)(m:∀v a,R v a->S v a)(i:∀b,F b->G b):vL S G w e ks:=by
 rcases h with h|⟨g,d,c,p,n,k,l,o,f,j⟩
 ·exact av_ h
 ·exact as_ ⟨g,d,c,p,n,i _ k,l,o,f,j.mono m⟩
def vL.keep{R:Value->aC->Prop}{F:Nat->Prop}{w w':World}{e:Value}{ks:List aC}(h:vL R F w e ks)(j:∀b,F b->w'.heap[b]?=w.heap[b]?):vL R F w' e ks:=by
 rcases h with h|⟨g,c,a,n,l,d,k,m,f,i⟩
 ·exact av_ h
 ·exact as_ ⟨g,c,a,n,l,d,by rw[j g d];exact k,m,f,i⟩
def tC.mono{R S:Value->aC->Prop}{F G:Nat->Prop}{w:World}{p:Prt}(h:tC R F w p)(e:∀v a,R v a->S v a)(f:∀b,F b->G b):tC S G w p:=by
 rcases h with ⟨c,a,d,g⟩|⟨c,d⟩
 ·exact av_ ⟨c,a,d,e _ _ g⟩
 ·exact as_ ⟨c,d.mono e f⟩
def tC.keep{R:Value->aC->Prop}{F:Nat->Prop}{w w':World}{p:Prt}(h:tC R F w p)(d:∀b,F b->w'.heap[b]?=w.heap[b]?):tC R F w' p:=by
 rcases h with h|⟨a,c⟩
 ·exact av_ h
 ·exact as_ ⟨a,c.keep d⟩
def PND.mono{F G:Nat->Prop}{w:World}(c:∀b,F b->G b):∀{d e:Nat} {v a},PND d F w v a->d<=e->PND e G w v a
 |_+1,_+1,_,_,⟨T,l,g,f,i,k⟩,m=>⟨T,l,g,f,i,fun p j=>(k p j).mono (fun _ _ h=>PND.mono c h (by omega)) c⟩
 |0,_,_,_,h,_=>h.elim
def PND.keep{F:Nat->Prop}{w w':World}(c:∀b,F b->w'.heap[b]?=w.heap[b]?):∀{d:Nat} {v a},PND d F w v a->PND d F w' v a
 |_+1,_,_,⟨T,k,g,e,f,j⟩=>⟨T,k,g,e,f,fun p i=>((j p i).mono (fun _ _ h=>PND.keep c h) (fun _ h=>h)).keep c⟩
def PN.mono{F G:Nat->Prop}{w:World}{v:Value}{a:aC}(h:PN F w v a)(c:∀b,F b->G b):PN G w v a:=by
 obtain⟨d,h⟩:=h;exact⟨d,h.mono c (au_ _)⟩
def PN.keep{F:Nat->Prop}{w w':World}{v:Value}{a:aC}(h:PN F w v a)(c:∀b,F b->w'.heap[b]?=w.heap[b]?):PN F w' v a:=by
 obtain⟨d,h⟩:=h;exact⟨d,h.keep c⟩
def PN.form{F:Nat->Prop}{w:World}{v:Value}{a:aC}(h:PN F w v a):∃T b,v=.iface T (.agg b):=by
 obtain⟨d,h⟩:=h;cases d with
 |zero=>exact h.elim
 |succ d=>obtain⟨T,b,_,c,_⟩:=h;exact⟨T,b,c⟩
def jX.pdepth{F:Nat->Prop}{w:World}:∀{a b},jX (PN F w) a b->∃d,jX (PND d F w) a b
 |[],[],_=>⟨0,trivial⟩
 |_::_,_::_,⟨⟨d,c⟩,f⟩=>by
  obtain⟨e,g⟩:=jX.pdepth f;exact⟨max d e,c.mono (fun _ h=>h) (Nat.le_max_left _ _),g.mono fun _ _ h=>h.mono (fun _ h=>h) (Nat.le_max_right _ _)⟩
 |[],_::_,h=>h.elim
 |_::_,[],h=>h.elim
def Prt.ok(F:Nat->Prop)(w:World)(p:Prt):Prop:=tC (PN F w) F w p
def Prt.ok.depth{F:Nat->Prop}{w:World}{p:Prt}(h:p.ok F w):∃d,tC (PND d F w) F w p:=by
 rcases h with ⟨b,a,c,d,f⟩|⟨b,h|⟨g,j,i,o,e,c,f,n,l,m⟩⟩
 ·exact⟨d,av_ ⟨b,a,c,f⟩⟩
 ·exact⟨0,as_ ⟨b,av_ h⟩⟩
 ·obtain⟨d,k⟩:=m.pdepth;exact⟨d,as_ ⟨b,as_ ⟨g,j,i,o,e,c,f,n,l,k⟩⟩⟩
def Prt.ok.all{F:Nat->Prop}{w:World}:∀{ps:List Prt},(∀p∈ps,p.ok F w)->∃d,∀p∈ps,tC (PND d F w) F w p
 |[],_=>⟨0,fun p f=>by cases f⟩
 |p::ps,h=>by
  obtain⟨d,b⟩:=(h p (aS_ ..)).depth;obtain⟨e,c⟩:=Prt.ok.all (ps:=ps) fun q a=>h q (aJ_ _ a)
  refine⟨max d e,fun q a=>?_⟩
  rcases aG_.1 a with rfl|a
  ·exact b.mono (fun _ _ h=>h.mono (fun _ h=>h) (Nat.le_max_left _ _)) (fun _ h=>h)
  ·exact(c q a).mono (fun _ _ h=>h.mono (fun _ h=>h) (Nat.le_max_right _ _)) (fun _ h=>h)
def PN.mk{F:Nat->Prop}{w:World}{T:TypeId}{cs:Array Value}{a:aC}{ps:List Prt}(h:Shape T cs a ps)(b:∀p∈ps,p.ok F w):PN F w (.iface T (.agg cs)) a:=by
 obtain⟨d,c⟩:=Prt.ok.all b;exact⟨d+1,T,cs,ps,rfl,h,c⟩
def Prt.ok.node{F:Nat->Prop}{w:World}{v:Value}{a:aC}(h:PN F w v a):Prt.ok F w ⟨v,[a],true⟩:=av_ ⟨rfl,a,rfl,h⟩
def PKid(F:Nat->Prop)(w:World)(kv:Value)(ks:List aC):Prop:=vL (PN F w) F w kv ks
def Prt.ok.list{F:Nat->Prop}{w:World}{v:Value}{l:List aC}(h:PKid F w v l):Prt.ok F w ⟨v,l,false⟩:=as_ ⟨rfl,h⟩
def PKid.keep{F G:Nat->Prop}{w w':World}{d:Value}{ks:List aC}(h:PKid F w d ks)(c:∀b,F b->w'.heap[b]?=w.heap[b]?)(a:∀b,F b->G b):PKid G w' d ks:=
 (vL.mono h (fun _ _ h=>(h.keep c).mono a) (fun _ h=>h)).keep c |>.mono (fun _ _ h=>h) a
def PN.grow{lo d lo' hi':Nat}{w w':World}{v:Value}{a:aC}(h:PN (Btw lo d) w v a)(g:∀k,lo<=k->k<d->w'.heap[k]?=w.heap[k]?)(e:lo'<=lo)(f:d<=hi'):PN (Btw lo' hi') w' v a:=
 (h.keep fun b c=>g b c.1 c.2).mono fun _ c=>⟨aF_ e c.1,az_ c.2 f⟩
def PKid.grow{lo c lo' hi':Nat}{w w':World}{v:Value}{l:List aC}(h:PKid (Btw lo c) w v l)(f:∀k,lo<=k->k<c->w'.heap[k]?=w.heap[k]?)(d:lo'<=lo)(e:c<=hi'):PKid (Btw lo' hi') w' v l:=
 h.keep (fun b a=>f b a.1 a.2) fun _ a=>⟨aF_ d a.1,az_ a.2 e⟩
def CX:(prog.info? 122).map (fun i=>(i.zero,i.size,i.bytes))=some (some .nilIface,1,16):=by kernel_rfl
def PLst(base:Nat)(w:World)(v:Value)(acc:List aC):Prop:=
 ∃vs F,w.ownsRow base 122 1 v acc.length vs/\jX (PN F w) vs acc/\∀b,F b->base<=b/\b<w.heap.size/\v.ownBlock≠some b
def PLst.nil(base:Nat)(w:World):PLst base w (.slice none 0 0) []:=⟨[],fun _=>False,World.ownsRow_nil _ _ _ _,trivial,fun _ h=>h.elim⟩
def PLst.slice{base:Nat}{w:World}{v:Value}{acc:List aC}(h:PLst base w v acc):∃x c,v=.slice x acc.length c:=by
 obtain⟨i,F,d,_⟩:=h;rcases d.2 with ⟨a,f⟩|⟨g,b,e,a,_⟩
 ·exact⟨none,0,by rw[a,f]⟩
 ·exact⟨_,b,a⟩
def PLst.keep{base pb:Nat}{w w1:World}{v:Value}{acc:List aC}(h:PLst base w v acc)(e:Fr pb w w1)(j:pb<base):PLst base w1 v acc:=by
 obtain⟨i,F,c,g,d⟩:=h;refine⟨i,F,aY c fun k f=>?_,g.mono fun _ _ h=>h.keep fun b a=>?_,fun b a=>?_⟩
 ·have:=cC c k f;exact e.block k (cK c k f) (by omega)
 ·have:=d b a;have:=e.size;exact⟨by omega,by omega,(d b a).2.2⟩
 ·have:=d b a;exact e.block b this.2.1 (by omega)
def PLst.snoc{base lo:Nat}{w q o:World}{v:Value}{acc:List aC}{p:Value}{a:aC}{g n:Nat}{vs:List Value}{F:Nat->Prop}(x:jX (PN F w) vs acc)(y:∀b,F b->base<=b/\b<w.heap.size/\v.ownBlock≠some b)
 (t:PN (Btw lo w.heap.size) w p a) (A:base<=lo) (m:∀k,v.ownBlock=some k->k<lo) (r:∀k,k<w.heap.size->q.heap[k]?=w.heap[k]?) (z:w.heap.size<=q.heap.size)
 (l:o.ownsRow base 122 1 (.slice (some ⟨g,0,none⟩) (acc.length+1) n) (acc.length+1) (vs++[p]))
 (f:q.grownBy o v.ownBlock) (j:v.ownBlock=some g\/w.heap.size<=g):PLst base o (.slice (some ⟨g,0,none⟩) (acc.length+1) n) (acc++[a]):=by
 have s:∀b,(F b\/Btw lo w.heap.size b)->base<=b/\b<w.heap.size/\v.ownBlock≠some b:=by
  rintro b (i|i)
  ·exact y b i
  ·exact⟨by have:=i.1;omega,i.2,fun e=>by have:=m b e;have:=i.1;omega⟩
 have d:∀b,(F b\/Btw lo w.heap.size b)->o.heap[b]?=w.heap[b]?:=fun b i=>by
  have c:=s b i;rw[f.block b (by omega) (fun e=>c.2.2 e.symm),r b c.2.1]
 refine⟨vs++[p],fun b=>F b\/Btw lo w.heap.size b,?_,?_,?_⟩
 ·rw[aw_];exact l
 ·exact jX.snoc (x.mono fun _ _ h=>(h.mono (fun _=>av_)).keep d) ((t.mono (fun _=>as_)).keep d)
 ·intro b i;have c:=s b i;have:=f.size;refine⟨c.1,by omega,fun e=>?_⟩
  have u:g=b:=Option.some.inj e;rcases j with j|j
  ·exact c.2.2 (by rw[j,u])
  ·omega
def PLst.kid{base:Nat}{w:World}{v:Value}{acc:List aC}(h:PLst base w v acc):PKid (Btw base w.heap.size) w v acc:=by
 obtain⟨n,F,m,k,i⟩:=h;rcases m.2 with ⟨a,e⟩|⟨g,d,c,a,e,j,l,q,p,o⟩
 ·exact av_ ⟨a,aN_ e⟩
 ·exact as_ ⟨g,d,c,n,a,⟨e,aD j⟩,j,l,by rw[<-o,b4_],k.mono fun _ _ h=>h.mono fun b f=>⟨(i b f).1,(i b f).2.1⟩⟩
def PAt.grown{C:Ctx}{w w':World}{p:Nat}{a:Option Nat}{base:Nat}(h:PAt C w p)(c:w.grownBy w' a)(b:∀k,a=some k->base<=k)(f:C.pb<base)(d:C.g<base):PAt C w' p:=
 h.keep (c.block _ h.pb_lt fun e=>by have:=b _ e.symm;omega) (c.block _ h.g_lt fun e=>by have:=b _ e.symm;omega)
def Out{α:Type}(C:Ctx)(w:World)(r:bU α)(P:World->Value->α->Prop)(e:Ending)(w':World):Prop:=
 Fr C.pb w w'/\match r with
  |.ok (a,q)=>PAt C w' q/\∃v,e=.returned v/\P w' v a
  |.error l=>e=cX 4 l
def GK(C:Ctx)(w:World)(r:bU aC)(e:Ending)(w':World):Prop:=Out C w r (fun w' v a=>PN (Btw w.heap.size w'.heap.size) w' v a) e w'
def PReads(C:Ctx)(F:Nat)(X:Nat->bU aC):Prop:=∀w p,PAt C w p->X p≠.error 0->Calls prog F #[.pointer (some ⟨C.pb,0,none⟩)] w (GK C w (X p))
def nN(ts:List aX)(p:Nat)(l:List (List UInt8)):List UInt8:=(l.find? fun x=>aV ts p x).getD []
def IC(C:Ctx)(w:World)(p:Nat)(l:List (List UInt8))(g M:Nat)(W:g<w.heap.size)(G:g≠C.pb)(hl:l.length<=100)(t:∀x∈l,x≠[])(S:∀i (hi:i<l.length),w.cell? ⟨g,i,none⟩=some (.string (bs l[i])))(h:PAt C w p):
 Calls prog 284 #[.pointer (some ⟨C.pb,0,none⟩),.slice (some ⟨g,0,none⟩) l.length M] w fun e O=>e=.returned (.string (bs (nN C.ts p l)))/\PAt C O (if nN C.ts p l=[] then p else p+1)/\Fr C.pb w O:=by
 have Y:=aB S;have H:=aB h;have N:=aB t;clear S h t;generalize r:(if nN C.ts p l=[] then p else p+1)=Q
 generalize v:nN C.ts p l=P at*;have U:=aB r;have A:=aB v;clear r v;go_enter Tryz.func284,Tryz.ntmps284;go_wp2_with fail;go_loopg [6,9] l.length (fun gk m i wr=>∃k:Nat,k+gk=l.length/\i=.int .i64 k/\Fr C.pb w wr/\PAt C wr p/\Hid (∀x∈l.take k,aV C.ts p x=false))
 case atStart=>exact⟨0,by omega,rfl,Fr.refl _ _,H.out,fun x hx=>by simp at hx⟩
 case round=>
  obtain⟨k,Z,rfl,b,c,q⟩:=hrel;by_cases o:k<l.length
  ·obtain⟨j,rfl⟩:∃j,gk=j+1:=⟨gk-1,by omega⟩
   have L:wr.cell? ⟨g,k,none⟩=some (.string (bs l[k])):=(xE (b.block g W G)).trans (Y.out k o);have aa:g<wr.heap.size:=az_ W b.size;have u:=aB (dF C wr p (bs l[k]) c);have V:(bs l[k]).data.toList=l[k]:=by simp[bs]
   rw[V] at u
   have J:Hid (l=l.take k++l[k]::l.drop (k+1)):=by
    show _=_
    rw[bA_,a5_]
   have I:Hid (∀y∈l.take (k+1),y∈l.take k\/y=l[k]):=fun y T=>by
    rw[aT_ o] at T;rcases aE_.1 T with h|h
    ·exact av_ h
    ·exact as_ (aD_.1 h)
   have s:l[k]≠[]:=N.out _ (aR_ o);have F:=aB s;have E:=aB b;clear c b V s;generalize l[k]=y at*;cases a:aV C.ts p y
   ·rw[a] at u
    have K:Hid (∀z∈l.take (k+1),aV C.ts p z=false):=fun z D=>by
     rcases I.out z D with h|h
     ·exact q.out z h
     ·rw[h];exact a
    clear q I J a;go_wp2_with fail;refine u.out.mono ?_;rintro e w1 ⟨rfl,n,f⟩;go_wp2_with fail;go_roundg j
    case measure=>omega
    case rel=>exact⟨k+1,by omega,by go_num,E.out.trans f,n,K⟩
   ·rw[a] at u
    have B:Hid (P=y):=by
     show _=_
     rw[<-A.out];unfold nN;rw[J.out,List.find?_append,bI_.2 (by intro z D;simpa using q.out z D)]
     simp[a]
    clear q I J a;go_wp2_with fail;refine u.out.mono ?_;rintro e w1 ⟨rfl,n,f⟩;go_wp2_with fail;go_ret;have d:Q=p+1:=by rw[<-U.out,B.out,if_neg F.out]
    rw[B.out,d];exact⟨rfl,n,E.out.trans f⟩
  ·have B:Hid (P=[]):=by
    show _=_
    rw[<-A.out];unfold nN;rw[bI_.2]
    ·rfl
    ·intro z D;simpa using q.out z (by rw[a0_ (by omega)];exact D)
   have E:=aB b;have X:=aB c;clear q b c;go_wp2_with fail;go_ret;have d:Q=p:=by rw[<-U.out,B.out,if_pos rfl]
   rw[B.out,d];exact⟨rfl,X.out,E.out⟩
def Out.err{a:Type}{C:Ctx}{w w':World}{r:bU a}{P:World->Value->a->Prop}{l:Nat}(b:r=.error l)(c:Fr C.pb w w'):Out C w r P (cX 4 l) w':=by
 subst b;exact⟨c,rfl⟩
def Out.ok{b:Type}{C:Ctx}{w w':World}{r:bU b}{P:World->Value->b->Prop}{a:b}{q:Nat}{v:Value}(d:r=.ok (a,q))(f:Fr C.pb w w')(c:PAt C w' q)(e:P w' v a):Out C w r P (.returned v) w':=by
 subst d;exact⟨f,c,v,rfl,e⟩
def nS{b:Type}{ts:List aX}{x:List UInt8}{a:b}{q:Nat}(h:aV ts q x=true):aN ts x (.ok (a,q):bU b)=.ok (a,q+1):=by
 unfold aN;simp only;rw[if_pos h]
def xL{b:Type}{ts:List aX}{x:List UInt8}{a:b}{q:Nat}(h:aV ts q x=false):aN ts x (.ok (a,q):bU b)=.error (aP ts q).line:=by
 unfold aN;simp only;rw[if_neg (by rw[h];simp)];rfl
def rT(w:World)(v:Value):∀j u,([v]:List Value)[j]?=some u->(w.alloc (.cells #[v] 122)).cell? ((⟨w.heap.size,0,none⟩:Addr).add j)=some u:=by
 intro j u a;match j,a with
 |0,a=>simp at a;subst a;simp[Addr.add,go_sem]
 |j+1,a=>simp at a
def uY(T:TypeId)(cs:Array Value):∀u∈([.iface T (.agg cs)]:List Value),u.oneCell'=true:=by
 intro u a;simp at a;subst a;rfl
def am_(C:Ctx)(w:World)(r:bU (List aC))(e:Ending)(w':World):Prop:=Out C w r (fun w' v l=>PKid (Btw w.heap.size w'.heap.size) w' v l) e w'
def r8(C:Ctx)(E:Nat->bU aC)(w:World)(r0:bU (List aC))(k:Nat)(v:Value)(wr:World):Prop:=
 Fr C.pb w wr/\∃q acc,PAt C wr q/\r0=(if aV C.ts q [44] then dH E C.ts k (q+1) acc else .ok (acc,q))/\acc.length+k<=4000/\PLst w.heap.size wr v acc
def tF(C:Ctx)(E:Nat->bU aC)(HE:PReads C 164 E)(w:World)(p:Nat)(y:ByteArray)(h:PAt C w p)(Y r:bU (List aC))(Z:Hid (Y=gX E C.ts p y.data.toList))(hr:Hid (r=aN C.ts y.data.toList Y))(al:Y≠.error 0):
 Calls prog 329 #[.pointer (some ⟨C.pb,0,none⟩),.string y] w (am_ C w r):=by
 obtain⟨i0,hi,bb,ap,am⟩:=info_parts CX;have HA:=aB (dF C w p y h);have H:=aB h;have ao:=aB HE;have ag:=aB al;have bo:=h.len;have z:=h.pb_lt;have au:=h.g_lt;clear h HE al;cases b:aV C.ts p y.data.toList
 ·rw[b] at HA;have x:Hid (Y=dH E C.ts (C.ts.length+1) p []):=by show _=_;rw[Z.out];unfold gX;rw[b];rfl
  clear b Z;go_enter Tryz.func329,Tryz.ntmps329;go_wp2_with fail;refine HA.out.mono ?_;rintro e w1 ⟨rfl,X,V⟩;have I:E p≠.error 0:=fun e=>ag.out (by rw[x.out,dH,e])
  have HX:=aB (ao.out w1 p X I);have S:=aB V;clear X V I;go_wp2_with fail;refine HX.out.mono ?_;rintro e w2 hO;cases i:E p with
  |error l=>
   rw[i] at hO;obtain⟨B,rfl⟩:=hO;have HL:Hid (r=.error l):=by show _=_;rw[hr.out,x.out,dH,i];rfl
   have Q:=aB (S.out.trans B);clear B HX;go_wp2_with fail;exact⟨rfl,Out.err HL.out Q.out⟩
  |ok aq=>
   obtain⟨a,q⟩:=aq;rw[i] at hO;obtain⟨B,bd,v,rfl,hn⟩:=hO;obtain⟨T,cs,rfl⟩:=hn.form;have bc:Hid (Y=(if aV C.ts q [44] then dH E C.ts C.ts.length (q+1) [a] else .ok ([a],q))):=by show _=_;rw[x.out,dH,i];rfl
   have Q:=aB (S.out.trans B);have ax:=aB bd;have HN:=aB hn;have bq:=S.out.size;have bt:=B.size;clear bd B hn HX x S;go_wp2_with (at_builtin;refine wpList_append_lies _ (by rfl) _ _ 213 (by rfl) w.heap.size 122 i0 _ 1 16 Tryz.underlying213 hi bb ap am rfl (by decide) (.slice none 0 0) 0 [] (by rfl) (World.ownsRow_nil _ _ _ _) ⟨w2.heap.size,0,none⟩ 1 1 [.iface T (.agg cs)] (by rfl) (by rfl) (rT _ _) (uY _ _) (by decide) (by unfold maxLen;omega) (by omega) (by simp;omega) (w2.heap.size+1) (by simp) ?_)
   intro g bv w3 M d ac bx;have av:=aB (PLst.snoc (base:=w.heap.size) (lo:=w1.heap.size) (F:=fun _=>False) (vs:=[]) (acc:=[]) (v:=.slice none 0 0) trivial (fun _ h=>h.elim) HN.out (by omega) (fun k O=>by cases O) (fun k O=>aA_ _ _ _ O) (by simp) M d (ac.imp_right (fun e=>by omega)))
   have ay:=aB ((ax.out.alloc _).grown (base:=w.heap.size) d (fun k O=>by cases O) z au)
   have aw:=aB ((Q.out.alloc _).grown d (fun k O=>by cases O))
   clear M d ac HN ax Q;go_wp2_with fail;go_loopg [5] C.ts.length (fun k v wr=>r8 C E w Y k v wr)
   case atStart=>exact⟨aw.out,q,[a],ay.out,bc.out,by simp;omega,av.out⟩
   case round=>
    obtain⟨ai,u,j,an,W,br,af⟩:=hrel;obtain⟨x4,c4,rfl⟩:=af.slice;have A:=aB (dF C wr u ⟨#[44]⟩ an);have ak:=aB ai;have P:=aB af;have bw:=ai.size;clear ai an af av ay aw bc;cases b:aV C.ts u [44]
    ·have n:aV C.ts u (⟨#[44]⟩:ByteArray).data.toList=false:=b;rw[n] at A;have o:Hid (Y=.ok (j,u)):=by show _=_;rw[W,b];rfl
     clear b n W;go_wp2_with fail;refine A.out.mono ?_;rintro e w5 ⟨rfl,G,m⟩;have aj:=aB (fP C w5 u y G);have K:=aB (ak.out.trans m);have s:=aB (P.out.keep m z);have bj:=m.size;clear G m A P;go_wp2_with fail;refine aj.out.mono ?_;rintro e w6 ⟨c,N⟩;have t:=aB (K.out.trans c);have ba:=aB (s.out.keep c z);cases b:aV C.ts u y.data.toList
     ·rw[b] at N;obtain rfl:e=cX 4 (aP C.ts u).line:=N;have HL:Hid (r=.error (aP C.ts u).line):=by show _=_;rw[hr.out,o.out];exact xL b
      clear c aj b ba s;go_wp2_with fail;exact⟨rfl,Out.err HL.out t.out⟩
     ·rw[b] at N;obtain⟨rfl,L⟩:=N;have HL:Hid (r=.ok (j,u+1)):=by show _=_;rw[hr.out,o.out];exact nS b
      have U:=aB L;clear c aj b L s;go_wp2_with fail;go_ret;exact Out.ok HL.out t.out U.out ba.out.kid
    ·have n:aV C.ts u (⟨#[44]⟩:ByteArray).data.toList=true:=b;rw[n] at A;have o:Hid (Y=dH E C.ts gk (u+1) j):=by show _=_;rw[W,b];rfl
     clear b n W
     obtain⟨k,rfl⟩:∃k,gk=k+1:=by
      cases gk with
      |zero=>exact absurd o.out ag.out
      |succ k=>exact⟨k,rfl⟩
     go_wp2_with fail;refine A.out.mono ?_;rintro e w5 ⟨rfl,G,m⟩;have I:E (u+1)≠.error 0:=fun e=>ag.out (by rw[o.out,dH,e])
     have HX:=aB (ao.out w5 (u+1) G I);have K:=aB (ak.out.trans m);have s:=aB (P.out.keep m z);have bj:=m.size;clear G m A P I;go_wp2_with fail;refine HX.out.mono ?_;rintro e w6 hO;cases i:E (u+1) with
     |error l=>
      rw[i] at hO;obtain⟨c,rfl⟩:=hO;have HL:Hid (r=.error l):=by show _=_;rw[hr.out,o.out,dH,i];rfl
      have t:=aB (K.out.trans c);clear c HX;go_wp2_with fail;exact⟨rfl,Out.err HL.out t.out⟩
     |ok bg=>
      obtain⟨a6,q6⟩:=bg;rw[i] at hO;obtain⟨c,L,v6,rfl,ae⟩:=hO;obtain⟨T6,bi,rfl⟩:=ae.form;have bh:Hid (Y=(if aV C.ts q6 [44] then dH E C.ts k (q6+1) (j++[a6]) else .ok (j++[a6],q6))):=by show _=_;rw[o.out,dH,i]
      obtain⟨vs,F,J,aa,ar⟩:=s.out.keep c z
      have az:∀g,(Value.slice x4 j.length c4).ownBlock=some g->g<w5.heap.size:=by
       obtain⟨bz,F',ah,_⟩:=s.out;exact cK ah
      have bf:=aB az;have t:=aB (K.out.trans c);have U:=aB L;have be:=aB ae;have HALL:=aB (aW_ aa ar);have bp:=c.size;have ad:∀k,(Value.slice x4 j.length c4).ownBlock=some k->w.heap.size<=k:=cC J;clear L c ae HX o s K aa ar az;go_wp2_with (at_builtin;refine wpList_append_lies _ (by rfl) _ _ 213 (by rfl) w.heap.size 122 i0 _ 1 16 Tryz.underlying213 hi bb ap am rfl (by decide) _ _ _ (by rfl) (J.alloc _) ⟨w6.heap.size,0,none⟩ 1 1 [.iface T6 (.agg bi)] (by rfl) (by rfl) (rT _ _) (uY _ _) (by decide) (by unfold maxLen;omega) (by omega) (by simp;omega) (w6.heap.size+1) (by simp) ?_)
      intro g7 bn w7 D f ab bu;have bk:=aB (PLst.snoc (lo:=w5.heap.size) HALL.out.1 HALL.out.2 be.out (by omega) bf.out (fun k O=>aA_ _ _ _ O) (by simp) D f (ab.imp_right (fun e=>by omega)))
      have bm:=aB ((U.out.alloc _).grown (base:=w.heap.size) f ad z au);have bl:=aB ((t.out.alloc _).grown f ad);clear J D f ab be U t HALL bf ad;go_wp2_with fail;go_roundg k
      case measure=>omega
      case rel=>exact⟨bl.out,q6,j++[a6],bm.out,bh.out,by simp;omega,bk.out⟩
 ·rw[b] at HA;have x:Hid (r=.ok ([],p+1)):=by show _=_;rw[hr.out,Z.out];unfold gX;rw[b];unfold aN;simp[b]
  clear b Z;go_enter Tryz.func329,Tryz.ntmps329;go_wp2_with fail;refine HA.out.mono ?_;rintro e w1 ⟨rfl,X,V⟩;go_wp2_with fail;go_ret;exact Out.ok x.out V X (av_ ⟨rfl,rfl⟩)
structure PS(C:Ctx)(w:World)(t:aX)(tb:Nat)(W:World)(p:Nat):Prop where
 fr:Fr C.pb w W
 at_:PAt C W p
 tk:W.heap[tb]?=some (.cells #[.int .i64 (psort t.sort),.string (bs t.text),.int .i64 (pval t),.int .i64 t.line] 206 (0,0))
 pl:W.heap[tb+1]?=some (.cells #[.int .i64 t.line] 209 (0,0))
 lo:w.heap.size<=tb
 np:C.pb<tb
 ng:C.g<tb
def PS.keep{C:Ctx}{w W b:World}{t:aX}{a p q:Nat}(h:PS C w t a W p)(c:Fr C.pb W b)(d:PAt C b q):PS C w t a b q:=
 ⟨h.fr.trans c,d,by rw[c.block a (aD h.tk) (by have:=h.np;omega)];exact h.tk,by rw[c.block (a+1) (aD h.pl) (by have:=h.np;omega)];exact h.pl,h.lo,h.np,h.ng⟩
def PS.cells{C:Ctx}{w W:World}{t:aX}{a p:Nat}(h:PS C w t a W p):
 a+1<W.heap.size/\W.cell? ⟨a,0,none⟩=some (.int .i64 (psort t.sort))/\W.cell? ⟨a,1,none⟩=some (.string (bs t.text))/\W.cell? ⟨a,2,none⟩=some (.int .i64 (pval t))/\W.cell? ⟨a,3,none⟩=some (.int .i64 t.line)/\W.cell? ⟨a+1,0,none⟩=some (.int .i64 t.line)/\C.pb<W.heap.size/\W.cell? ⟨C.pb,1,none⟩=some (.int .i64 p)/\W.frozen? ⟨C.pb,1,none⟩=false:=
 ⟨aD h.pl,aA h.tk rfl,aA h.tk rfl,aA h.tk rfl,aA h.tk rfl,aA h.pl rfl,h.at_.pb_lt,aA h.at_.blk rfl,aE h.at_.blk⟩
def thrown{P:Program}{b:Array Oper}{o:Oper}{a:Act}{w:World}{K:Act->World->Prop}{Q:Exit->Act->World->Prop}{E:Prop}(c:Value)
 (h:if Region.wanted o (yielded b a.tmps)=true then Oper.wp P o a w K Q else E) (_d:Hid False->K (a.put o.dst c) w):
 if Region.wanted o (yielded b a.tmps)=true then Oper.wp P o a w K Q else E:=h
def Fr.keepB{pb b:Nat}{w w':World}{o:Obj}(e:Fr pb w w')(h:w.heap[b]?=some o)(d:b≠pb):w'.heap[b]?=some o:=by
 have c:b<w.heap.size:=by
  by_cases a:b<w.heap.size
  ·exact a
  ·rw[bj_ (by omega)] at h;cases h
 rw[e.block b c d];exact h
def PKid.slice{F:Nat->Prop}{w:World}{v:Value}{l:List aC}(h:PKid F w v l):∃x c,v=.slice x l.length c:=by
 rcases h with ⟨a,b⟩|⟨g,e,d,f,a,_⟩
 ·exact⟨none,0,by rw[a,b];rfl⟩
 ·exact⟨_,_,a⟩
def T8{t:aX}(h:oF t):(psort t.sort=2↔t.sort=48)/\(psort t.sort=3↔t.sort=115):=by
 unfold psort;rcases h with h|⟨h,_⟩|h|⟨h,_⟩|h|h<;>simp[h]
def OC(C:Ctx)(E:Nat->bU aC)(HE:PReads C 164 E):PReads C 350 (dT E C.ts):=by
 intro w p h bc;have HN:=aB (mK C w p h);simp only[oE] at HN;have bv:=aB (fun w1 (hb:Below w.heap.size w w1)=>mM C w1 p (h.below hb))
 have bm:=h.tsk.tk p h.lt;have HS:=aB (T8 bm);have HT:Hid ((aP C.ts p).sort≠101->p+1<C.ts.length):=fun e=>h.all.ok.next p h.lt e
 have da:p<=3000:=by have:=h.lt;have:=h.len;omega
 have H:=aB h;have bf:=aB HE;have av:=aB bm;have cx:=h.pb_lt;have cy:=h.g_lt;obtain⟨r,hr⟩:∃r,r=dT E C.ts p:=⟨_,rfl⟩;rw[<-hr] at bc ⊢
 rw[dT] at hr;have HR:=aB hr;have bh:=aB bc;clear h HE bc bm hr;generalize bt:aP C.ts p=t at*;have be:=aB bt;clear bt;go_enter Tryz.func350,Tryz.ntmps350;go_wp2_with fail;refine HN.out.mono ?_;rintro e w1 ⟨rfl,bz⟩;have ax:=aB bz;clear bz;go_wp2_with fail;refine(bv.out w1 ax.out).mono ?_;rintro e w2 ⟨rfl,br⟩
 have bl:PS C w t w2.heap.size ((w2.alloc (.cells #[.int .i64 (psort t.sort),.string (bs t.text),.int .i64 (pval t),.int .i64 t.line] 206)).alloc (.cells #[.int .i64 t.line] 209)) p:=by
  have hb:=ax.out.trans (br.mono ax.out.size);have ci:=hb.size;refine⟨((Fr.below hb).alloc _).alloc _,((H.out.below hb).alloc _).alloc _,?_,?_,ci,by omega,by omega⟩
  ·exact oU _ _ (by simp) _ (aM _ _ rfl _)
  ·exact aM _ _ (by simp) _
 have z:=aB bl;obtain⟨k0,k1,k2,k3,k4,k5,k6,k7,k8⟩:=bl.cells;clear bl br ax bv HN;go_upto_region 2 with fail
 generalize cz:(w2.alloc (.cells #[.int .i64 (psort t.sort),.string (bs t.text),.int .i64 (pval t),.int .i64 t.line] 206)).alloc (.cells #[.int .i64 t.line] 209)=W at*;generalize cn:psort t.sort=ps at*;have cw:=z.out.np;have cr:¬w2.heap.size=C.pb:=by omega
 have ct:¬C.pb=w2.heap.size:=by omega
 by_cases am:ps=2
 ·have P:t.sort=48:=HS.out.1.1 am;subst am
  obtain⟨kk,bd⟩:∃kk,dG 0 t.text=some kk:=by
   rcases av.out with h|⟨h,_⟩|h|⟨h,h2⟩|h|h
   ·omega
   ·omega
   ·omega
   ·exact Option.isSome_iff_exists.1 h2
   ·omega
   ·omega
  have V:Hid (pval t=kk):=by show _=_;unfold pval;rw[if_pos P,bd];rfl
  have f:Hid (r=.ok (aR [UInt8.ofNat t.sort] t.line t.text [],p+1)):=by show _=_;rw[HR.out,P];rfl
  have L:Hid (Shape 397 #[.int .i64 t.line,.int .i64 (pval t)] (aR [UInt8.ofNat t.sort] t.line t.text []) []):=av_ ⟨rfl,kk,by rw[V.out];rfl,by rw[P];rfl,bd,rfl,rfl⟩
  have hm:=z.out.at_.move (ay_ _ _) (p+1) (HT.out (by omega))
  have HM:=aB (aW_ (z.out.fr.trans hm.2) hm.1);clear P bd V av hm HR;go_wp2_with fail;go_ret;exact Out.ok f.out HM.out.1 HM.out.2 (PN.mk L.out (fun p hp=>by cases hp))
 by_cases S:ps=3
 ·have P:t.sort=115:=HS.out.2.1 S;subst S;have f:Hid (r=.ok (aR [UInt8.ofNat t.sort] t.line t.text [],p+1)):=by show _=_;rw[HR.out,P];rfl
  have L:Hid (Shape 398 #[.int .i64 t.line,.string (bs t.text)] (aR [UInt8.ofNat t.sort] t.line t.text []) []):=as_ (av_ ⟨rfl,rfl,by rw[P];rfl,rfl,rfl⟩)
  have hm:=z.out.at_.move (ay_ _ _) (p+1) (HT.out (by omega))
  have HM:=aB (aW_ (z.out.fr.trans hm.2) hm.1);clear P av hm HR am;go_wp2_with fail;go_ret;exact Out.ok f.out HM.out.1 HM.out.2 (PN.mk L.out (fun p hp=>by cases hp))
 have cs:((ps:Int)==2)=false:=by simp;omega
 have cp:((ps:Int)==3)=false:=by simp;omega
 have az:(t.sort==48 || t.sort==115)=false:=by
  have h1:t.sort≠48:=fun e=>am (HS.out.1.2 e)
  have h2:t.sort≠115:=fun e=>S (HS.out.2.2 e)
  simp[h1,h2]
 have aa:Hid (r=if aV C.ts p [116,114,117,101] || aV C.ts p [102,97,108,115,101] then .ok (aR [98,111,111,108] t.line t.text [],p+1)
  else if aV C.ts p [40] then aN C.ts [41] (E (p+1))
  else if aV C.ts p [91] then bX (aR [108,105,115,116] t.line t.text) (eK E C.ts p [91] [93])
  else if t.sort==110 then
   if aV C.ts (p+1) [40] then bX (aR [99,97,108,108] t.line t.text) (eK E C.ts (p+1) [40] [41])
   else .ok (aR [110,97,109,101] t.line t.text [],p+1)
  else Hs.bad C.ts p):=by show _=_;rw[HR.out,az];rfl
 have ar:Hid (∀x,aV C.ts p x=true->t.text=x):=fun x hx=>by
  unfold aV at hx;rw[be.out] at hx;simp only[aX_,beq_iff_eq] at hx;exact hx.2
 clear HR az am S HS av;have Y:=aB (dF C W p ⟨#[116,114,117,101]⟩ z.out.at_);have bn:(⟨#[116,114,117,101]⟩:ByteArray).data.toList=[116,114,117,101]:=rfl;rw[bn] at Y;clear bn;cases i1:aV C.ts p [116,114,117,101];rotate_left
 ·have f:Hid (r=.ok (aR [98,111,111,108] t.line t.text [],p+1)):=by show _=_;rw[aa.out,i1];rfl
  have L:Hid (Shape 400 #[.int .i64 t.line,.bool true] (aR [98,111,111,108] t.line t.text []) []):=as_ (as_ (av_ ⟨rfl,by show _= #[_,Value.bool (t.text==_)];rw[ar.out _ i1];rfl,rfl,rfl,rfl⟩))
  rw[i1] at Y;clear i1 aa ar;go_wp2_with fail;refine Y.out.mono ?_;rintro e w3 ⟨rfl,bb,ao⟩;have m:=z.out.keep ao bb;have j:=aB m;clear k1 k2 k3 k4 k5 k6 k7 k8 bb ao;obtain⟨k0,k1,k2,k3,k4,k5,k6,k7,k8⟩:=m.cells;clear m;go_wp2_with fail;go_ret;exact Out.ok f.out j.out.fr j.out.at_ (PN.mk L.out (fun p hp=>by cases hp))
 rw[i1] at Y;go_wp2_with fail;refine Y.out.mono ?_;rintro e w3 ⟨rfl,ap,ao⟩;have m:=z.out.keep ao ap;have ab:=aB (dF C w3 p ⟨#[102,97,108,115,101]⟩ ap);have ca:(⟨#[102,97,108,115,101]⟩:ByteArray).data.toList=[102,97,108,115,101]:=rfl;rw[ca] at ab;have j:=aB m;clear ca ap ao m z Y k0 k1 k2 k3 k4 k5 k6 k7 k8;cases i2:aV C.ts p [102,97,108,115,101];rotate_left
 ·have f:Hid (r=.ok (aR [98,111,111,108] t.line t.text [],p+1)):=by show _=_;rw[aa.out,i1,i2];rfl
  have L:Hid (Shape 400 #[.int .i64 t.line,.bool false] (aR [98,111,111,108] t.line t.text []) []):=as_ (as_ (av_ ⟨rfl,by show _= #[_,Value.bool (t.text==_)];rw[ar.out _ i2];rfl,rfl,rfl,rfl⟩))
  rw[i2] at ab;clear i1 i2 aa ar;go_wp2_with fail;refine ab.out.mono ?_;rintro e w4 ⟨rfl,s,al⟩;have o:=j.out.keep al s;have g:=aB o;clear s al;obtain⟨k0,k1,k2,k3,k4,k5,k6,k7,k8⟩:=o.cells;clear o;go_wp2_with fail;go_ret;exact Out.ok f.out g.out.fr g.out.at_ (PN.mk L.out (fun p hp=>by cases hp))
 rw[i2] at ab
 have aw:Hid (r=if aV C.ts p [40] then aN C.ts [41] (E (p+1))
  else if aV C.ts p [91] then bX (aR [108,105,115,116] t.line t.text) (eK E C.ts p [91] [93])
  else if t.sort==110 then
   if aV C.ts (p+1) [40] then bX (aR [99,97,108,108] t.line t.text) (eK E C.ts (p+1) [40] [41])
   else .ok (aR [110,97,109,101] t.line t.text [],p+1)
  else Hs.bad C.ts p):=by show _=_;rw[aa.out,i1,i2];rfl
 clear aa i1 i2 ar;go_wp2_with fail;refine ab.out.mono ?_;rintro e w4 ⟨rfl,s,al⟩;have o:=j.out.keep al s;have M:=aB (dF C w4 p ⟨#[40]⟩ s);have cb:(⟨#[40]⟩:ByteArray).data.toList=[40]:=rfl;rw[cb] at M;have g:=aB o;clear cb s al o j ab;cases i3:aV C.ts p [40];rotate_left
 ·have B:Hid (r=aN C.ts [41] (E (p+1))):=by show _=_;rw[aw.out,i3];rfl
  rw[i3] at M;clear i3 aw;go_wp2_with fail;refine M.out.mono ?_;rintro e w5 ⟨rfl,n,an⟩;have bq:E (p+1)≠.error 0:=fun e=>bh.out (by rw[B.out,e];rfl)
  have HX:=aB (bf.out w5 (p+1) n bq);have bj:=aB (g.out.fr.trans an);have cv:=bj.out.size;clear n an bq M g;go_wp2_with fail;refine HX.out.mono ?_;rintro e w6 hO;cases aj:E (p+1) with
  |error l=>
   rw[aj] at hO;obtain⟨d,rfl⟩:=hO;have f:Hid (r=.error l):=by show _=_;rw[B.out,aj];rfl
   have D:=aB (bj.out.trans d);clear d HX;go_wp2_with fail;exact⟨rfl,Out.err f.out D.out⟩
  |ok aq=>
   obtain⟨a,q⟩:=aq;rw[aj] at hO;obtain⟨d,bu,v6,rfl,bp⟩:=hO;have ay:=aB (fP C w6 q ⟨#[41]⟩ bu);have au:(⟨#[41]⟩:ByteArray).data.toList=[41]:=rfl;rw[au] at ay;have D:=aB (bj.out.trans d);have cl:=aB bp;have cq:=d.size;clear bu d bp HX au;go_wp2_with fail;refine ay.out.mono ?_;rintro e w7 ⟨b,F⟩;cases Z:aV C.ts q [41]
   ·rw[Z] at F;obtain rfl:e=cX 4 (aP C.ts q).line:=F;have f:Hid (r=.error (aP C.ts q).line):=by show _=_;rw[B.out,aj];exact xL Z
    have A:=aB (D.out.trans b);clear b ay Z;go_wp2_with fail;exact⟨rfl,Out.err f.out A.out⟩
   ·rw[Z] at F;obtain⟨rfl,ad⟩:=F;have f:Hid (r=.ok (a,q+1)):=by show _=_;rw[B.out,aj];exact nS Z
    have A:=aB (D.out.trans b);have cm:=aB ad;have cf:=aB (cl.out.grow (lo':=w.heap.size) (hi':=w7.heap.size) (fun k h1 h2=>b.block k h2 (by omega)) (by omega) b.size)
    clear b ay Z ad;go_wp2_with fail;go_ret;exact Out.ok f.out A.out cm.out cf.out
 rw[i3] at M
 have B:Hid (r=if aV C.ts p [91] then bX (aR [108,105,115,116] t.line t.text) (eK E C.ts p [91] [93])
  else if t.sort==110 then
   if aV C.ts (p+1) [40] then bX (aR [99,97,108,108] t.line t.text) (eK E C.ts (p+1) [40] [41])
   else .ok (aR [110,97,109,101] t.line t.text [],p+1)
  else Hs.bad C.ts p):=by show _=_;rw[aw.out,i3];rfl
 clear aw i3;go_wp2_with fail;refine M.out.mono ?_;rintro e w5 ⟨rfl,n,an⟩;have ba:=g.out.keep an n;have K:=aB (dF C w5 p ⟨#[91]⟩ n);have au:(⟨#[91]⟩:ByteArray).data.toList=[91]:=rfl;rw[au] at K;have U:=aB ba;clear au n an ba g M;cases i4:aV C.ts p [91];rotate_left
 ·obtain⟨r1,O⟩:∃r1,r1=gX E C.ts (p+1) [93]:=⟨_,rfl⟩;have G:Hid (r=bX (aR [108,105,115,116] t.line t.text) (aN C.ts [93] r1)):=by show _=_;rw[B.out,i4,O];unfold eK;rw[i4];rfl
  have X:=aB O;rw[i4] at K;clear i4 B O;go_wp2_with fail;refine K.out.mono ?_;rintro e w6 ⟨rfl,u,d⟩;have ae:=U.out.keep d u;have V:=aB (tF C E bf.out w6.drew (p+1) ⟨#[93]⟩ u.drew r1 _ X rfl (fun e=>bh.out (by rw[G.out,e];rfl)))
  have af:(⟨#[93]⟩:ByteArray).data.toList=[93]:=rfl;rw[af] at V;have ag:=aB ae;obtain⟨k0,k1,k2,k3,k4,k5,k6,k7,k8⟩:=ae.cells;clear u d ae af U K k1 k2 k3 k4 k7 k8;cases hV:aN C.ts [93] r1 with
  |error l=>
   rw[hV] at V;have f:Hid (r=.error l):=by show _=_;rw[G.out,hV];rfl
   clear hV;go_wp2_with fail;go_region_law (refine thrown (.slice none 0 0) ?_ ?_;(focus go_simp;go_at_call 329;refine V.out.mono ?_;rintro e w7 ⟨b,rfl⟩;exact aW_ rfl (Out.err f.out (ag.out.fr.drew.trans b)));intro y)
   all_goals exact y.out.elim
  |ok lq=>
   obtain⟨l,q⟩:=lq;rw[hV] at V;have f:Hid (r=.ok (aR [108,105,115,116] t.line t.text l,q)):=by show _=_;rw[G.out,hV];rfl
   clear hV;have cc:=ag.out.fr.size;go_wp2_with fail;go_region_law (go_simp;go_at_call 329;refine V.out.mono ?_;rintro e w7 ⟨b,ad,v,rfl,hk⟩;obtain⟨x,c,rfl⟩:=hk.slice;have HK:=aB hk;have T:=aB (ag.out.keep ((Fr.refl _ _).drew.trans b) ad);have A:=aB b;have c5:=T.out.cells.2.2.2.2.2.1;have c0:=T.out.cells.1;clear b ad hk)
   all_goals (go_wp2_with fail;go_ret)
   all_goals exact Out.ok f.out T.out.fr T.out.at_ (PN.mk (as_ (as_ (as_ (av_ ⟨rfl,_,rfl,rfl,rfl⟩)))) (fun p hp=>by obtain rfl:=aD_.1 hp;exact Prt.ok.list (HK.out.grow (fun _ _ _=>rfl) cc (au_ _))))
 rw[i4] at K
 have G:Hid (r=if t.sort==110 then
       if aV C.ts (p+1) [40] then bX (aR [99,97,108,108] t.line t.text) (eK E C.ts (p+1) [40] [41])
       else .ok (aR [110,97,109,101] t.line t.text [],p+1)
  else Hs.bad C.ts p):=by show _=_;rw[B.out,i4];rfl
 clear B i4;go_wp2_with fail;refine K.out.mono ?_;rintro e w6 ⟨rfl,u,d⟩;have D:=aB (U.out.fr.trans d);have ac:=aB (mL C w6 p u);rw[be.out] at ac;clear u d U K;cases P:(t.sort==110)
 ·rw[P] at ac;have f:Hid (r=.error t.line):=by show _=_;rw[G.out,P];show Hs.bad _ _=_;unfold Hs.bad;rw[be.out]
  clear P G;go_wp2_with fail;refine ac.out.mono ?_;rintro e w7 ⟨b,F⟩;obtain rfl:e=cX 4 t.line:=F;have A:=aB (D.out.trans b);clear b;go_wp2_with fail;exact⟨rfl,Out.err f.out A.out⟩
 rw[P] at ac
 have X:Hid (r=if aV C.ts (p+1) [40] then bX (aR [99,97,108,108] t.line t.text) (eK E C.ts (p+1) [40] [41])
       else .ok (aR [110,97,109,101] t.line t.text [],p+1)):=by show _=_;rw[G.out,P];rfl
 clear G P;go_wp2_with fail;refine ac.out.mono ?_;rintro e w7 ⟨b,F⟩;obtain⟨rfl,ak⟩:=F;have A:=aB ((D.out.trans b).alloc (.cells #[.int .i64 t.line,.string (bs t.text)] 211));have Q:=aB (dF C (w7.alloc (.cells #[.int .i64 t.line,.string (bs t.text)] 211)) (p+1) ⟨#[40]⟩ (ak.alloc _));have af:(⟨#[40]⟩:ByteArray).data.toList=[40]:=rfl;rw[af] at Q;have bw:Hid ((w7.alloc (.cells #[.int .i64 t.line,.string (bs t.text)] 211)).heap[w7.heap.size]?=some (.cells #[.int .i64 t.line,.string (bs t.text)] 211 (0,0))):=aM _ _ rfl _;have bk:w7.heap.size≠C.pb:=by have:=ak.pb_lt;omega
 have co:=(D.out.trans b).size;clear b ak ac D af;cases i5:aV C.ts (p+1) [40]
 ·rw[i5] at Q;have f:Hid (r=.ok (aR [110,97,109,101] t.line t.text [],p+1)):=by show _=_;rw[X.out,i5];rfl
  clear i5 X;go_wp2_with fail;refine Q.out.mono ?_;rintro e w8 ⟨rfl,J,N⟩;have I:=aB (N.keepB bw.out bk);have ah:=aB (A.out.trans N);have ce:=aB J;have c0:=aA I.out (i:=0) rfl;have c1:=aA I.out (i:=1) rfl;have ck:=aD I.out;clear J N Q;go_wp2_with fail;go_ret;exact Out.ok f.out ah.out ce.out (PN.mk (as_ (as_ (as_ (as_ (as_ (av_ ⟨rfl,rfl,rfl,rfl,rfl⟩)))))) (fun p hp=>by cases hp))
 ·rw[i5] at Q;obtain⟨r1,O⟩:∃r1,r1=gX E C.ts (p+1+1) [41]:=⟨_,rfl⟩;have bi:Hid (r=bX (aR [99,97,108,108] t.line t.text) (aN C.ts [41] r1)):=by show _=_;rw[X.out,i5,O];unfold eK;rw[i5];rfl
  have ch:=aB O;clear i5 X O;go_wp2_with fail;refine Q.out.mono ?_;rintro e w8 ⟨rfl,J,N⟩;have I:=aB (N.keepB bw.out bk);have ah:=aB (A.out.trans N);have V:=aB (tF C E bf.out w8.drew (p+1+1) ⟨#[41]⟩ J.drew r1 _ ch rfl (fun e=>bh.out (by rw[bi.out,e];rfl)))
  have bx:(⟨#[41]⟩:ByteArray).data.toList=[41]:=rfl;rw[bx] at V;have c0:=aA I.out (i:=0) rfl;have c1:=aA I.out (i:=1) rfl;have ck:=aD I.out;have bo:=ah.out.size;clear J N Q bx;cases hV:aN C.ts [41] r1 with
  |error l=>
   rw[hV] at V;have f:Hid (r=.error l):=by show _=_;rw[bi.out,hV];rfl
   clear hV;go_wp2_with fail;go_region_law (refine thrown (.slice none 0 0) ?_ ?_;(focus go_simp;go_at_call 329;refine V.out.mono ?_;rintro e w9 ⟨ai,rfl⟩;exact aW_ rfl (Out.err f.out (ah.out.drew.trans ai)));intro y)
   all_goals exact y.out.elim
  |ok lq=>
   obtain⟨l,q⟩:=lq;rw[hV] at V;have f:Hid (r=.ok (aR [99,97,108,108] t.line t.text l,q)):=by show _=_;rw[bi.out,hV];rfl
   clear hV;go_wp2_with fail;go_region_law (go_simp;go_at_call 329;refine V.out.mono ?_;rintro e w9 ⟨ai,cd,v,rfl,hk⟩;obtain⟨x,c,rfl⟩:=hk.slice;have HK:=aB hk;have cj:=aB ai;have cg:=aB cd;have bg:=aB (((Fr.refl C.pb w8).drew.trans ai).keepB I.out bk);have d0:=aA bg.out (i:=0) rfl;have d1:=aA bg.out (i:=1) rfl;have cu:=aD bg.out;clear ai cd hk)
   all_goals (go_wp2_with fail;go_ret)
   all_goals exact Out.ok f.out (ah.out.drew.trans cj.out) cg.out (PN.mk (as_ (as_ (as_ (as_ (av_ ⟨rfl,_,rfl,rfl,rfl⟩))))) (fun p hp=>by obtain rfl:=aD_.1 hp;exact Prt.ok.list (HK.out.grow (fun _ _ _=>rfl) bo (au_ _))))
abbrev S1(W:World)(b l:Nat):Prop:=W.heap[b]?=some (.cells #[.int .i64 l] 209 (0,0))
def S1.new(w:World)(l:Nat):S1 (w.alloc (.cells #[.int .i64 l] 209)) w.heap.size l:=aM _ _ rfl _
def MG(C:Ctx)(E:Nat->bU aC)(w:World)(r:bU aC)(tb l:Nat)(k:Nat)(v:Value)(wr:World):Prop:=
 Fr C.pb w wr/\∃q a,PAt C wr q/\r=cZ E C.ts k a q/\PN (Btw w.heap.size wr.heap.size) wr v a/\S1 wr tb l
def L1(C:Ctx)(E:Nat->bU aC)(HE:PReads C 164 E):PReads C 349 (fun p=>bR (dT E C.ts p) (cZ E C.ts (C.ts.length+1))):=by
 intro w p h K;have V:=aB (mM C w p h);have H:dT E C.ts p≠.error 0:=fun e=>K (by show bR _ _=_;rw[e];rfl)
 have A:=aB (fun w1 (hb:Below w.heap.size w w1)=>OC C E HE w1 p (h.below hb) H)
 have an:=aB HE;have bg:=h.pb_lt;obtain⟨r,hr⟩:∃r,r=bR (dT E C.ts p) (cZ E C.ts (C.ts.length+1)):=⟨_,rfl⟩;have G:r≠.error 0:=hr▸K;show Calls _ _ _ _ (GK C w (bR (dT E C.ts p) (cZ E C.ts (C.ts.length+1))))
 rw[<-hr];have HR:=aB hr;have ad:=aB G;clear h HE K hr H G;generalize (aP C.ts p).line=pl at*;cases o:dT E C.ts p with
 |error l=>
  have s:Hid (r=.error l):=by show _=_;rw[HR.out,o];rfl
  rw[o] at A;clear o HR;go_enter Tryz.func349,Tryz.ntmps349;go_wp2_with fail;refine V.out.mono ?_;rintro e w1 ⟨rfl,y⟩;have j:=aB y;clear y;go_wp2_with fail;refine(A.out w1 j.out).mono ?_;rintro e w2 ⟨n,rfl⟩;have al:=aB ((Fr.below j.out).trans n);clear n;go_wp2_with fail;exact⟨rfl,Out.err s.out al.out⟩
 |ok aq=>
  obtain⟨a0,q0⟩:=aq;have s:Hid (r=cZ E C.ts (C.ts.length+1) a0 q0):=by show _=_;rw[HR.out,o];rfl
  rw[o] at A;clear o HR;go_enter Tryz.func349,Tryz.ntmps349;go_wp2_with fail;refine V.out.mono ?_;rintro e w1 ⟨rfl,y⟩;have j:=aB y;clear y;go_wp2_with fail;refine(A.out w1 j.out).mono ?_;rintro e w2 ⟨n,ag,v2,rfl,U⟩;have ak:=j.out.size;have bc:=n.size
  have HI:Hid (MG C E w r w2.heap.size pl (C.ts.length+1) v2 (w2.alloc (.cells #[.int .i64 pl] 209))):=
   ⟨((Fr.below j.out).trans n).alloc _,q0,a0,ag.alloc _,s.out,U.grow (fun k _ B=>aA_ _ _ _ B) ak (by simp),S1.new _ _⟩
  obtain⟨T2,bi,rfl⟩:=U.form;clear n ag U s A V;go_wp2_with fail;go_loopg [4] (C.ts.length+1) (fun k v wr=>MG C E w r w2.heap.size pl k v wr)
  case atStart=>exact HI.out
  case round=>
   obtain⟨X,q,a,ai,u,O,F⟩:=hrel;obtain⟨T3,ba,rfl⟩:=O.form
   obtain⟨k,rfl⟩:∃k,gk=k+1:=by
    cases gk with
    |zero=>exact absurd u ad.out
    |succ k=>exact⟨k,rfl⟩
   have HA:=aB (dF C wr q ⟨#[91]⟩ ai);have ed:(⟨#[91]⟩:ByteArray).data.toList=[91]:=rfl;rw[ed] at HA;have T:=aB X;have Z:=aB O;have ae:=aB F;have bd:=X.size;clear X ai O F ed HI;cases b:aV C.ts q [91]
   ·have s:Hid (r=.ok (a,q)):=by show _=_;rw[u,cZ,b];rfl
    rw[b] at HA;clear b u;go_wp2_with fail;refine HA.out.mono ?_;rintro e w4 ⟨rfl,x,c⟩;have f:=aB c;have t:=aB x;clear c x;go_wp2_with fail;go_ret;exact Out.ok s.out (T.out.trans f.out) t.out (Z.out.grow (fun k h1 B=>f.out.block k B (by omega)) (au_ _) f.out.size)
   ·obtain⟨rE,S⟩:∃rE,rE=E (q+1):=⟨_,rfl⟩;have m:Hid (r=match aN C.ts [93] rE with|.error l=>.error l|.ok (i,q')=>cZ E C.ts k (aR [105,110,100,101,120] (aP C.ts q).line [] [a,i]) q'):=by show _=_;rw[u,cZ,b,S];rfl
    rw[b] at HA;have ah:=aB S;clear b u S;have ac:E (q+1)≠.error 0:=fun e=>ad.out (by rw[m.out,ah.out,e];rfl)
    go_wp2_with fail;refine HA.out.mono ?_;rintro e w4 ⟨rfl,x,c⟩;have HX:=aB (an.out w4.drew (q+1) x.drew ac);rw[<-ah.out] at HX;have ap:=aB (Z.out.grow (fun k h1 B=>c.block k B (by omega)) (au_ _) c.size)
    have t:=aB (c.keepB ae.out (by omega))
    have f:=aB (T.out.trans c);have c0:=aA t.out (i:=0) rfl;have aw:=aD t.out;have be:=c.size;clear c x Z ae T HA ac;cases rE with
    |error l=>
     have s:Hid (r=.error l):=m.out;go_wp2_with fail;go_region_law (refine thrown .nilIface ?_ ?_;(focus go_simp;go_at_call 164;refine HX.out.mono ?_;rintro e w5 ⟨z,rfl⟩;exact aW_ rfl (Out.err s.out (f.out.drew.trans z)));intro D)
     all_goals exact D.out.elim
    |ok iq=>
     obtain⟨i,J⟩:=iq;have Y:=aB (fun w5 (h:PAt C w5 J)=>fP C w5 J ⟨#[93]⟩ h)
     have ed:(⟨#[93]⟩:ByteArray).data.toList=[93]:=rfl;rw[ed] at Y;clear ed;go_wp2_with fail;go_cut [4] (fun v wc=>Fr C.pb w wc/\PAt C wc J/\PN (Btw w.heap.size wc.heap.size) wc v (aR [105,110,100,101,120] (aP C.ts q).line [] [a,i])/\S1 wc w2.heap.size pl)
     case first=>
      go_region_law (go_simp;go_at_call 164;refine HX.out.mono ?_;rintro e w5 ⟨z,ab,v5,rfl,W⟩;obtain⟨T5,bh,rfl⟩:=W.form;have ao:=aB W;have P:=aB z;have az:=aB ab;have N:=aB (((Fr.refl C.pb w4).drew.trans z).keepB t.out (by omega));have d0:=aA N.out (i:=0) rfl;have bf:=aD N.out;clear z ab W)
      all_goals
       go_wp2_with fail;go_meet
       case rel=>
        have au:=P.out.size
        exact⟨f.out.drew.trans P.out,az.out,PN.mk (as_ (as_ (as_ (as_ (as_ (as_ (av_ ⟨rfl,pl,_,_,a,i,rfl,rfl,rfl,rfl⟩))))))) (fun p hp=>by
         simp only[aG_,aQ_,or_false] at hp;rcases hp with rfl|rfl
         ·exact Prt.ok.node (ap.out.grow (fun k h1 B=>P.out.block k B (by omega)) (au_ _) au)
         ·exact Prt.ok.node (ao.out.grow (fun _ _ _=>rfl) (by have:=f.out.size;exact this) (au_ _))),N.out⟩
     case rest=>
      obtain⟨Q,af,M,I⟩:=hcut;obtain⟨T6,am,rfl⟩:=M.form;have g:=aB (Y.out _ af);have aj:=aB Q;have ay:=aB M;have ar:=aB I;have bb:=Q.size;clear Q af M I Y HX c0 aw;cases b:aV C.ts J [93]
      ·have s:Hid (r=.error (aP C.ts J).line):=by show _=_;rw[m.out,xL b]
       rw[b] at g;clear b m;go_wp2_with fail;refine g.out.mono ?_;rintro e w7 ⟨d,L⟩;obtain rfl:e=cX 4 (aP C.ts J).line:=L;have av:=aB (aj.out.trans d);clear d;go_wp2_with fail;exact⟨rfl,Out.err s.out av.out⟩
      ·have s:Hid (r=cZ E C.ts k (aR [105,110,100,101,120] (aP C.ts q).line [] [a,i]) (J+1)):=by show _=_;rw[m.out,nS b]
       rw[b] at g;clear b m;go_wp2_with fail;refine g.out.mono ?_;rintro e w7 ⟨d,L⟩;obtain⟨rfl,aa⟩:=L
       have ax:Hid (MG C E w r w2.heap.size pl k (.iface T6 (.agg am)) w7):=
        ⟨aj.out.trans d,J+1,_,aa,s.out,ay.out.grow (fun k h1 B=>d.block k B (by omega)) (au_ _) d.size,d.keepB ar.out (by omega)⟩
       clear d aa;go_wp2_with fail;go_roundg k
       case measure=>omega
       case rel=>exact ax.out
end Go.Proofs.YtblbkfdhjfppkaaGreatDoor
