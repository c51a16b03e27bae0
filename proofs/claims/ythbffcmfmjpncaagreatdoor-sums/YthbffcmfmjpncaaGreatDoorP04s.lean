/- Contracts of the program: the parser's small steps. -/
import Derived.Test.YthbffcmfmjpncaaGreatDoorP02s
set_option linter.defProp false
set_option maxRecDepth 100000
set_option maxHeartbeats 4000000
namespace Go.Proofs.YthbffcmfmjpncaaGreatDoor
open Hs
open _root_.Go.Proofs.Tryz
open Go.RowKit
variable{C:Ctx}{acc ks l:List aC}{ts:List aR}{b_ lo p q:Nat}{F G:Nat->Prop}{b:Type}{v:Value}{R:Value->aC->Prop}{w w' w1:World}{a:aC}{t:aR}
def psort(s:Nat):Nat:=if s=110 then 1 else if s=48 then 2 else if s=115 then 3 else if s=101 then 4 else 0
def pval(t:aR):Nat:=if t.sort=48 then (bW 0 t.x_).getD 0 else 0
def ptok(t:aR):List Value:=[.int .i64 (psort t.sort),.string (bs t.x_),.int .i64 (pval t),.int .i64 t.l_]
def ptoks:List aR->List Value
 |[]=>[]
 |t::ts=>ptok t++ptoks ts
def FC(ts:List aR):(ptoks ts).length=ts.length*4:=by
 induction ts with
 |nil=>rfl
 |cons t ts a=>simp[ptoks,ptok,a];omega
def yS(ts:List aR)(t:aR):ptoks (ts++[t])=ptoks ts++ptok t:=by
 induction ts with
 |nil=>simp[ptoks]
 |cons x ts a=>simp[ptoks,a]
structure PAt(C:Ctx)(w:World)(p:Nat):Prop where
 blk:w.heap[C.pb]?=some (.cells #[.slice (some ⟨C.g,0,none⟩) C.ts.length C.cap,.int .i64 p] 101 (0,0))
 row:∃cur,w.heap[C.g]?=some (.cells cur 150 (0,0))/\cur.toList.take (C.ts.length*4)=ptoks C.ts
 ne:C.g≠C.pb
 lt:p<C.ts.length
 len:C.ts.length<=3000
 cap:C.ts.length<=C.cap
 all:mY C.ts
 tsk:AL C.ts
def RP(ts:List aR)(p:Nat)(h:p<ts.length):(ptoks ts)[p*4]?=some (.int .i64 (psort (aN ts p).sort))/\(ptoks ts)[p*4+1]?=some (.string (bs (aN ts p).x_))/\(ptoks ts)[p*4+1+1]?=some (.int .i64 (pval (aN ts p)))/\(ptoks ts)[p*4+1+1+1]?=some (.int .i64 (aN ts p).l_):=by
 induction ts generalizing p with
 |nil=>simp at h
 |cons t ts a=>
  cases p with
  |zero=>simp[ptoks,ptok,aN]
  |succ p=>
   have:=a p (by simpa using h)
   have e:∀j,(ptoks (t::ts))[(p+1)*4+j]?=(ptoks ts)[p*4+j]?:=λj=>by
    rw[ptoks,I3 (by simp[ptok];omega)]
    congr 1;simp[ptok];omega
   have b:aN (t::ts) (p+1)=aN ts p:=by simp[aN]
   rw[b];exact⟨(e 0).trans this.1,(e 1).trans this.2.1,(e 2).trans this.2.2.1,(e 3).trans this.2.2.2⟩
def PAt.tok(h:PAt C w p):w.cell? ⟨C.g,p*4,none⟩=some (.int .i64 (psort (aN C.ts p).sort))/\w.cell? ⟨C.g,p*4+1,none⟩=some (.string (bs (aN C.ts p).x_))/\w.cell? ⟨C.g,p*4+1+1,none⟩=some (.int .i64 (pval (aN C.ts p)))/\w.cell? ⟨C.g,p*4+1+1+1,none⟩=some (.int .i64 (aN C.ts p).l_):=by
 obtain⟨c,k,i⟩:=h.row;obtain⟨m,g,d,f⟩:=RP C.ts p h.lt;have n:=FC C.ts
 have e:∀j v,(ptoks C.ts)[j]?=some v->w.cell? ⟨C.g,j,none⟩=some v:=λj v a=>by
  have b:j<C.ts.length*4:=by
   by_cases l:j<C.ts.length*4
   ·exact l
   ·rw[J0 o_] at a;cases a
  refine aA k ?_;rw[<-i,I9,if_pos b] at a;simpa using a
 exact⟨e _ _ m,e _ _ g,e _ _ d,e _ _ f⟩
def PAt.keep(h:PAt C w p)(e:w'.heap[C.pb]?=w.heap[C.pb]?)(c:w'.heap[C.g]?=w.heap[C.g]?):PAt C w' p:=by
 obtain⟨a,d,b⟩:=h.row;exact⟨by rw[e];exact h.blk,⟨a,by rw[c];exact d,b⟩,h.ne,h.lt,h.len,h.cap,h.all,h.tsk⟩
def PAt.below(h:PAt C w p)(a:Below w.heap.size w w'):PAt C w' p:=by
 obtain⟨b,c,d⟩:=h.row;exact h.keep (a.block _ (aD h.blk)) (a.block _ (aD c))
def PAt.other{b i:Nat}{u:Value}(h:PAt C w p)(c:b≠C.pb)(a:b≠C.g):PAt C (w.setCell ⟨b,i,none⟩ u) p:=
 h.keep (G0 _ _ _ _ (λe=>c e.symm)) (G0 _ _ _ _ (λe=>a e.symm))
def PAt.g_lt(h:PAt C w p):C.g<w.heap.size:=by obtain⟨_,a,_⟩:=h.row;exact aD a
def PAt.pb_lt(h:PAt C w p):C.pb<w.heap.size:=aD h.blk
def PAt.alloc(h:PAt C w p)(o:Obj):PAt C (w.alloc o) p:=h.below ((F9 _ _).alloc (F6 _) _)
def PAt.drew(h:PAt C w p):PAt C w.drew p:=h.below (F9 _ _).drew
def lN(t:aR):Value:=.agg #[.int .i64 (psort t.sort),.string (bs t.x_),.int .i64 (pval t),.int .i64 t.l_]
def MU(pb g i p n:Nat)(w:World)(a c d:Int)(b:ByteArray)(y:p<n)(_hn:n<=3000)(_hnc:n<=i)(j:pb<w.heap.size)(f:g<w.heap.size)
 (r:w.cell? ⟨pb,0,none⟩=some (.slice (some ⟨g,0,none⟩) n i)) (c1:w.cell? ⟨pb,1,none⟩=some (.int .i64 p))
 (m:w.cell? ⟨g,p*4,none⟩=some (.int .i64 a)) (q:w.cell? ⟨g,p*4+1,none⟩=some (.string b)) (k:w.cell? ⟨g,p*4+1+1,none⟩=some (.int .i64 c)) (l:w.cell? ⟨g,p*4+1+1+1,none⟩=some (.int .i64 d)):
  Calls prog 80 #[.pointer (some ⟨pb,0,none⟩)] w λe s=>e=.returned (.agg #[.int .i64 a,.string b,.int .i64 c,.int .i64 d])/\Below w.heap.size w s:=by
 have z:∀o,(w.alloc o).cell? ⟨pb,0,none⟩=some (.slice (some ⟨g,0,none⟩) n i):=λo=>by rw[World.cell?_alloc_past _ _ _ j];exact r
 have u:∀o,(w.alloc o).cell? ⟨pb,1,none⟩=some (.int .i64 p):=λo=>by rw[World.cell?_alloc_past _ _ _ j];exact c1
 have t:∀o,(w.alloc o).cell? ⟨g,p*4,none⟩=some (.int .i64 a):=λo=>by rw[World.cell?_alloc_past _ _ _ f];exact m
 have A:∀o,(w.alloc o).cell? ⟨g,p*4+1,none⟩=some (.string b):=λo=>by rw[World.cell?_alloc_past _ _ _ f];exact q
 have x:∀o,(w.alloc o).cell? ⟨g,p*4+1+1,none⟩=some (.int .i64 c):=λo=>by rw[World.cell?_alloc_past _ _ _ f];exact k
 have B:∀o,(w.alloc o).cell? ⟨g,p*4+1+1+1,none⟩=some (.int .i64 d):=λo=>by rw[World.cell?_alloc_past _ _ _ f];exact l
 clear r c1 m q k l;go_enter func80,ntmps80;go_wp2_with fail;go_region
 go_wp2_with fail;refine bodyPost_ret (v:=.agg #[.int .i64 a,.string b,.int .i64 c,.int .i64 d]) (by simp[results,results80,go_sem]) rfl ⟨rfl,?_⟩
 exact((F9 _ _).alloc (F6 _) _).drew
def jE(C:Ctx)(w:World)(p:Nat)(h:PAt C w p):
 Calls prog 80 #[.pointer (some ⟨C.pb,0,none⟩)] w λe a=>e=.returned (lN (aN C.ts p))/\Below w.heap.size w a:=
 MU C.pb C.g C.cap p C.ts.length w _ _ _ _ h.lt h.len h.cap (aD h.blk) (by obtain⟨_,b,_⟩:=h.row;exact aD b) (aA h.blk rfl) (aA h.blk rfl) h.tok.1 h.tok.2.1 h.tok.2.2.1 h.tok.2.2.2
abbrev cH(k n:Nat):Ending:=.panicked [{ v:=.iface 98 (.agg #[.int .i64 k,.int .i64 n]),recovered:=false }]
def eV(k n:Nat)(w:World):
 Calls prog 83 #[.int .i64 k,.int .i64 n] w λe a=>e=cH k n/\a=w:=by
 go_enter func83,ntmps83;go_wp2_with fail;exact⟨rfl,rfl,rfl⟩
def CX(a c d:Int)(b:ByteArray)(w:World):(Instr.field 150 (.agg #[.int .i64 a,.string b,.int .i64 c,.int .i64 d]) 3).run prog w=.ok (.int .i64 d) w:=k_
def kG(C:Ctx)(w:World)(p:Nat)(h:PAt C w p):
 Calls prog 204 #[.pointer (some ⟨C.pb,0,none⟩)] w λe f=>e=.returned (.agg #[.int .i64 (aN C.ts p).l_])/\Below w.heap.size w f:=by
 have b:=aB (λo=>jE C (w.alloc o) p (h.below ((F9 _ _).alloc (F6 _) _)))
 simp only[lN] at b;clear h;go_enter func204,ntmps204;go_wp2_with fail;refine(b.out _).mono ?_;rintro e c ⟨rfl,a⟩;obtain⟨i,j⟩:=bcell a;have k:w.heap.size<c.heap.size:=by have:=a.size;simp at this;omega
 have d:=aB a;have g:=CX;clear a b;go_wp2_with fail;refine bodyPost_ret (v:=.agg #[.int .i64 (aN C.ts p).l_]) (by simp[results,results204,go_sem,i]) rfl ⟨rfl,?_⟩
 exact(((F9 _ _).alloc (F6 _) _).trans (d.out.mono s_)).setCell s_ _
def PAt.move(h:PAt C w p)(c:Below w.heap.size w w1)(q:Nat)(e:q<C.ts.length):
 PAt C (w1.setCell ⟨C.pb,1,none⟩ (.int .i64 q)) q/\Fr C.pb w (w1.setCell ⟨C.pb,1,none⟩ (.int .i64 q)):=by
 have b:=h.below c;obtain⟨a,f,d⟩:=b.row;refine⟨⟨?_,⟨a,?_,d⟩,h.ne,e,h.len,h.cap,h.all,h.tsk⟩,Fr.setCell (p:=⟨C.pb,1,none⟩) (Fr.below c) (F7 rfl) _⟩
 ·rw[aO b.blk];rfl
 ·rw[G0 _ _ _ _ h.ne];exact f
def PAt.cells(h:PAt C w p)(b:Below w.heap.size w w1):
 C.pb<w1.heap.size/\w1.cell? ⟨C.pb,1,none⟩=some (.int .i64 p)/\w1.frozen? ⟨C.pb,1,none⟩=false:=by
 have a:=h.below b;exact⟨aD a.blk,aA a.blk rfl,aE a.blk⟩
def C6(h:PAt C w p)(x:List UInt8):aQ C.ts p x=(decide (psort (aN C.ts p).sort=0) && (aN C.ts p).x_==x):=by
 unfold aQ psort;have:=h.tsk.tk p h.lt;generalize aN C.ts p=t at*;rcases this with h|⟨h,_⟩|h|⟨h,_⟩|h|h<;>simp[h]
def cM(C:Ctx)(w:World)(p:Nat)(x:ByteArray)(h:PAt C w p):
 Calls prog 180 #[.pointer (some ⟨C.pb,0,none⟩),.string x] w λe m=>e=.returned (.bool (aQ C.ts p x.data.toList))/\PAt C m (if aQ C.ts p x.data.toList then p+1 else p)/\Fr C.pb w m:=by
 have i:=aB (C6 h x.data.toList);have g:=aB (jE C w p h);simp only[lN] at g;have v:Hid (aQ C.ts p x.data.toList=true->p+1<C.ts.length):=λe=>h.all.ok.isT h.lt e
 have l:Hid (((bs (aN C.ts p).x_).toList==x.toList)=((aN C.ts p).x_==x.data.toList)):=by show _=_;rw[bT,Lib.toList_data]
 have r:p<=3000:=by have:=h.lt;have:=h.len;omega
 have H:=aB h;clear h;generalize aQ C.ts p x.data.toList=k at*;generalize aN C.ts p=t at*;obtain⟨c,f,s⟩:=t;simp only at i g l;generalize pval ⟨c,f,s⟩=z at*;go_enter func180,ntmps180;go_wp2_with fail;refine g.out.mono ?_;rintro e y ⟨rfl,j⟩;obtain⟨D,B,A⟩:=H.out.cells j;have b:=aB j;clear j g;by_cases n:psort c=0
 ·have q:((psort c:Int) != 0)=false:=t_
  cases d:(f==x.data.toList)
  ·have u:((bs f).toList==x.toList)=false:=by rw[l.out,d]
   have a:k=false:=by have:=i.out;rw[d] at this;simpa using this
   subst a;go_wp2_with fail;go_ret;exact⟨gJ rfl,H.out.below (b.out.alloc b.out.size _),Fr.below (b.out.alloc b.out.size _)⟩
  ·have u:((bs f).toList==x.toList)=true:=by rw[l.out,d]
   have a:k=true:=by have:=i.out;rw[d,n] at this;simpa using this
   subst a;go_wp2_with fail;go_ret;have o:=H.out.move b.out (p+1) (v.out trivial);exact⟨gJ rfl,o.1.below ((F9 _ _).alloc (F6 _) _),o.2.alloc _⟩
 ·have q:((psort c:Int) != 0)=true:=t_
  have a:k=false:=by have:=i.out;simp[n] at this;exact this
  subst a;go_wp2_with fail;go_ret;exact⟨gJ rfl,H.out.below (b.out.alloc b.out.size _),Fr.below (b.out.alloc b.out.size _)⟩
def eR(C:Ctx)(w:World)(p:Nat)(x:ByteArray)(h:PAt C w p):
 Calls prog 122 #[.pointer (some ⟨C.pb,0,none⟩),.string x] w λe k=>Fr C.pb w k/\if aQ C.ts p x.data.toList then e=.returned (.tuple #[])/\PAt C k (p+1) else e=cH 4 (aN C.ts p).l_:=by
 have g:=aB (cM C w p x h);have H:=aB h;clear h;cases d:aQ C.ts p x.data.toList
 ·rw[d] at g;go_enter func122,ntmps122;go_wp2_with fail;refine g.out.mono ?_;rintro e j ⟨rfl,a,b⟩;have l:=aB (jE C j p a);simp only[lN] at l;have c:=aB b;have o:=CX;clear b a;go_wp2_with fail;refine l.out.mono ?_;rintro e r ⟨rfl,f⟩;have m:=aB f;clear f;go_wp2_with (go_at_call 83;refine(eV 4 (aN C.ts p).l_ _).mono ?_;rintro e q ⟨rfl,n⟩;obtain rfl:=n.symm)
  exact⟨rfl,c.out.trans (Fr.below m.out),rfl⟩
 ·rw[d] at g;go_enter func122,ntmps122;go_wp2_with fail;refine g.out.mono ?_;rintro e j ⟨rfl,a,b⟩;have c:=aB b;have i:=aB a;clear b a;go_wp2_with fail;go_end0;exact⟨c.out,rfl,i.out⟩
def RR(t:aR):psort t.sort=1↔t.sort=110:=by
 unfold psort;split<;>(try split)<;>(try split)<;>(try split)<;>simp_all
def kF(C:Ctx)(w:World)(p:Nat)(h:PAt C w p):
 Calls prog 123 #[.pointer (some ⟨C.pb,0,none⟩)] w λe s=>Fr C.pb w s/\if (aN C.ts p).sort==110 then e=.returned (.agg #[.int .i64 (aN C.ts p).l_,.string (bs (aN C.ts p).x_)])/\PAt C s (p+1) else e=cH 4 (aN C.ts p).l_:=by
 have d:=aB (λo=>jE C (w.alloc o) p (h.below ((F9 _ _).alloc (F6 _) _)))
 simp only[lN] at d;have l:Hid ((aN C.ts p).sort=110->p+1<C.ts.length):=λe=>h.all.ok.next p h.lt (by rw[e];decide)
 have i:=aB (RR (aN C.ts p));have F:p<=3000:=by have:=h.lt;have:=h.len;omega
 have H:=aB h;have B:C.pb<w.heap.size:=aD h.blk;have g:w.heap.size≠C.g:=by have:=h.g_lt;omega
 clear h;generalize aN C.ts p=t at*;obtain⟨f,y,q⟩:=t;simp only at d l i;simp only;generalize pval ⟨f,y,q⟩=M at*;generalize psort f=u at*;by_cases c:f=110
 ·obtain rfl:u=1:=i.out.2 c;have r:=l.out c;rw[show (f==110)=true by simpa using c]
  clear c i l;go_enter func123,ntmps123;go_wp2_with fail;refine(d.out _).mono ?_;rintro e m ⟨rfl,b⟩;have a:=((F9 _ _).alloc (F6 _) _).trans (b.mono s_)
  obtain⟨J,E,D⟩:=H.out.cells a;obtain⟨A,I⟩:=bcell b;have x:w.heap.size<m.heap.size:=by have:=b.size;simp at this;omega
  have k:=aB a;clear b a d;have n:¬C.pb=w.heap.size:=o_
  have j:¬w.heap.size=C.pb:=o_
  go_wp2_with fail;have z:=H.out.move k.out (p+1) r;refine bodyPost_ret (v:=.agg #[.int .i64 q,.string (bs y)]) (by simp[results,results123,go_sem,World.cell?_alloc_past,x,A]) rfl ?_
  refine⟨((z.2.setCell (p:=⟨w.heap.size,0,none⟩) (F5 (F6 _)) _).setCell (p:=⟨w.heap.size,1,none⟩) (F5 (F6 _)) _).alloc _,rfl,?_⟩;exact((z.1.other o_ g).other o_ g).below ((F9 _ _).alloc (F6 _) _)
 ·have K:((u:Int) != 1)=true:=by simp;intro e;exact c (i.out.1 o_)
  rw[show (f==110)=false by simpa using c]
  clear c i l;go_enter func123,ntmps123;go_wp2_with fail;refine(d.out _).mono ?_;rintro e m ⟨rfl,b⟩;have a:=((F9 _ _).alloc (F6 _) _).trans (b.mono s_)
  obtain⟨J,E,D⟩:=H.out.cells a;obtain⟨A,I⟩:=bcell b;have x:w.heap.size<m.heap.size:=by have:=b.size;simp at this;omega
  have k:=aB a;clear b a d;have n:¬C.pb=w.heap.size:=o_
  have j:¬w.heap.size=C.pb:=o_
  go_wp2_with (go_at_call 83;refine(eV 4 q _).mono ?_;rintro e L ⟨rfl,G⟩;obtain rfl:=G.symm)
  exact⟨rfl,Fr.below (k.out.alloc k.out.size _),rfl⟩
def tL(R:Value->aC->Prop)(F:Nat->Prop)(w:World)(kv:Value)(ks:List aC):Prop:=
 (kv=.slice none 0 0/\ks=[])\/
 ∃g cap cur vs,kv=.slice (some ⟨g,0,none⟩) ks.length cap/\F g/\w.heap[g]?=some (.cells cur 92 (0,0))/\ks.length<=cap/\cur.toList.take ks.length=vs/\fB R vs ks
structure Prt where
 v:Value
 ks:List aC
 one:Bool
def rD(R:Value->aC->Prop)(F:Nat->Prop)(w:World)(p:Prt):Prop:=
 (p.one=true/\∃a,p.ks=[a]/\R p.v a)\/(p.one=false/\tL R F w p.v p.ks)
def Shape(T:TypeId)(cs:Array Value)(a:aC)(ps:List Prt):Prop:=
 (T=307/\∃k,cs= #[.int .i64 a.l_,.int .i64 (k:Nat)]/\a.op=[48]/\bW 0 a.x_=some k/\a.y_=[]/\ps=[])\/
 (T=308/\cs= #[.int .i64 a.l_,.string (bs a.x_)]/\a.op=[115]/\a.y_=[]/\ps=[])\/
 (T=310/\cs= #[.int .i64 a.l_,.bool (a.x_==[116,114,117,101])]/\a.op=[98,111,111,108]/\a.y_=[]/\ps=[])\/
 (T=276/\∃sv,cs= #[.int .i64 a.l_,sv]/\a.op=[108,105,115,116]/\ps=[⟨sv,a.y_,false⟩])\/
 (T=271/\∃sv,cs= #[.int .i64 a.l_,.string (bs a.x_),sv]/\a.op=[99,97,108,108]/\ps=[⟨sv,a.y_,false⟩])\/
 (T=274/\cs= #[.int .i64 a.l_,.string (bs a.x_)]/\a.op=[110,97,109,101]/\a.y_=[]/\ps=[])\/
 (T=278/\∃l v1 v2 a1 a2,cs= #[.int .i64 (l:Nat),v1,v2]/\a.op=[105,110,100,101,120]/\a.y_=[a1,a2]/\ps=[⟨v1,[a1],true⟩,⟨v2,[a2],true⟩])\/
 (T=280/\∃o v1 a1,cs= #[.int .i64 a.l_,.string (bs [o]),v1]/\(o=45\/o=33)/\a.op=[o,120]/\a.y_=[a1]/\ps=[⟨v1,[a1],true⟩])\/
 (T=282/\∃l v1 v2 a1 a2,cs= #[.int .i64 (l:Nat),.string (bs a.op),v1,v2]/\bF a.op≠9/\a.y_=[a1,a2]/\ps=[⟨v1,[a1],true⟩,⟨v2,[a2],true⟩])\/
 (T=259/\∃v1 t a1,cs= #[.int .i64 a.l_,.int .i64 t.l_,.string (bs t.x_),v1]/\a.op=[118,97,114]/\a.y_=[t,a1]/\ps=[⟨v1,[a1],true⟩])\/
 (T=262/\∃sv v1 l a1,cs= #[.int .i64 a.l_,.string (bs a.x_),sv,v1]/\a.op=[115,101,116]/\a.y_=l++[a1]/\ps=[⟨sv,l,false⟩,⟨v1,[a1],true⟩])\/
 (T=264/\∃v1 s1 a1 b1,cs= #[.int .i64 a.l_,v1,s1,.slice none 0 0]/\a.op=[105,102]/\b1.op=[98,108,111,99,107]/\a.y_=[a1,b1]/\ps=[⟨v1,[a1],true⟩,⟨s1,b1.y_,false⟩])\/
 (T=264/\∃v1 s1 s2 a1 b1 b2,cs= #[.int .i64 a.l_,v1,s1,s2]/\a.op=[105,102]/\b1.op=[98,108,111,99,107]/\b2.op=[98,108,111,99,107]/\a.y_=[a1,b1,b2]/\ps=[⟨v1,[a1],true⟩,⟨s1,b1.y_,false⟩,⟨s2,b2.y_,false⟩])\/
 (T=266/\∃v1 s1 a1 b1,cs= #[.int .i64 a.l_,v1,s1]/\a.op=[119,104,105,108,101]/\b1.op=[98,108,111,99,107]/\a.y_=[a1,b1]/\ps=[⟨v1,[a1],true⟩,⟨s1,b1.y_,false⟩])\/
 (T=268/\∃l,cs= #[.int .i64 a.l_,.iface 307 (.agg #[.int .i64 (l:Nat),.int .i64 0])]/\a.op=[114,101,116,117,114,110]/\a.y_=[]/\ps=[])\/
 (T=268/\∃v1 a1,cs= #[.int .i64 a.l_,v1]/\a.op=[114,101,116,117,114,110]/\a.y_=[a1]/\ps=[⟨v1,[a1],true⟩])\/
 (T=269/\∃v1 a1,cs= #[.int .i64 a.l_,v1]/\a.op=[112,114,105,110,116]/\a.y_=[a1]/\ps=[⟨v1,[a1],true⟩])\/
 (T=271/\∃sv c,cs= #[.int .i64 c.l_,.string (bs c.x_),sv]/\a.op=[100,111]/\a.l_=c.l_/\a.x_=c.x_/\a.y_=[c]/\c.op=[99,97,108,108]/\ps=[⟨sv,c.y_,false⟩])
def PND:Nat->(Nat->Prop)->World->Value->aC->Prop
 |0,_,_,_,_=>False
 |d+1,F,w,v,a=>∃T cs ps,v=.iface T (.agg cs)/\Shape T cs a ps/\∀p∈ps,rD (PND d F w) F w p
def PN(F:Nat->Prop)(w:World)(v:Value)(a:aC):Prop:=∃d,PND d F w v a
def tL.mono{S:Value->aC->Prop}{e:Value}(h:tL R F w e ks)(p:∀v a,R v a->S v a)(m:∀b,F b->G b):tL S G w e ks:=by
 rcases h with h|⟨g,c,d,i,k,f,n,j,l,o⟩
 ·exact F7 h
 ·exact F5 ⟨g,c,d,i,k,m _ f,n,j,l,o.mono p⟩
def tL.keep{e:Value}(h:tL R F w e ks)(f:∀b,F b->w'.heap[b]?=w.heap[b]?):tL R F w' e ks:=by
 rcases h with h|⟨g,a,c,i,k,d,m,j,l,n⟩
 ·exact F7 h
 ·exact F5 ⟨g,a,c,i,k,d,by rw[f g d];exact m,j,l,n⟩
def rD.mono{S:Value->aC->Prop}{p:Prt}(h:rD R F w p)(e:∀v a,R v a->S v a)(g:∀b,F b->G b):rD S G w p:=by
 rcases h with ⟨d,a,c,f⟩|⟨d,c⟩
 ·exact F7 ⟨d,a,c,e _ _ f⟩
 ·exact F5 ⟨d,c.mono e g⟩
def rD.keep{p:Prt}(h:rD R F w p)(a:∀b,F b->w'.heap[b]?=w.heap[b]?):rD R F w' p:=by
 rcases h with h|⟨d,c⟩
 ·exact F7 h
 ·exact F5 ⟨d,c.keep a⟩
def PND.mono(c:∀b,F b->G b):∀{d e:Nat} {v a},PND d F w v a->d<=e->PND e G w v a
 |_+1,_+1,_,_,⟨T,k,g,l,j,m⟩,i=>⟨T,k,g,l,j,λp f=>(m p f).mono (λ_ _ h=>PND.mono c h o_) c⟩
 |0,_,_,_,h,_=>h.elim
def PND.keep(c:∀b,F b->w'.heap[b]?=w.heap[b]?):∀{d:Nat} {v a},PND d F w v a->PND d F w' v a
 |_+1,_,_,⟨T,i,f,j,g,k⟩=>⟨T,i,f,j,g,λp e=>((k p e).mono (λ_ _ h=>PND.keep c h) (λ_ h=>h)).keep c⟩
def PN.mono(h:PN F w v a)(c:∀b,F b->G b):PN G w v a:=by
 obtain⟨d,h⟩:=h;exact⟨d,h.mono c (F6 _)⟩
def PN.keep(h:PN F w v a)(c:∀b,F b->w'.heap[b]?=w.heap[b]?):PN F w' v a:=by
 obtain⟨d,h⟩:=h;exact⟨d,h.keep c⟩
def PN.form(h:PN F w v a):∃T b,v=.iface T (.agg b):=by
 obtain⟨d,h⟩:=h;cases d with
 |zero=>exact h.elim
 |succ d=>obtain⟨T,b,_,c,_⟩:=h;exact⟨T,b,c⟩
def fB.pdepth:∀{vs ks},fB (PN F w) vs ks->∃d,fB (PND d F w) vs ks
 |[],[],_=>⟨0,trivial⟩
 |_::_,_::_,⟨⟨d,b⟩,a⟩=>by
  obtain⟨e,c⟩:=fB.pdepth a;exact⟨max d e,b.mono (λ_ h=>h) (Nat.le_max_left _ _),c.mono λ_ _ h=>h.mono (λ_ h=>h) (Nat.le_max_right _ _)⟩
 |[],_::_,h=>h.elim
 |_::_,[],h=>h.elim
def Prt.ok(F:Nat->Prop)(w:World)(p:Prt):Prop:=rD (PN F w) F w p
def Prt.ok.depth{p:Prt}(h:p.ok F w):∃d,rD (PND d F w) F w p:=by
 rcases h with ⟨b,a,e,d,i⟩|⟨b,h|⟨g,f,c,l,j,e,i,m,o,k⟩⟩
 ·exact⟨d,F7 ⟨b,a,e,i⟩⟩
 ·exact⟨0,F5 ⟨b,F7 h⟩⟩
 ·obtain⟨d,n⟩:=k.pdepth;exact⟨d,F5 ⟨b,F5 ⟨g,f,c,l,j,e,i,m,o,n⟩⟩⟩
def Prt.ok.all{F:Nat->Prop}{w:World}:∀{ps:List Prt},(∀p∈ps,p.ok F w)->∃d,∀p∈ps,rD (PND d F w) F w p
 |[],_=>⟨0,λp b=>by cases b⟩
 |p::ps,h=>by
  obtain⟨d,f⟩:=(h p (K8 ..)).depth;obtain⟨e,c⟩:=Prt.ok.all (ps:=ps) λq a=>h q (L6 _ a)
  refine⟨max d e,λq a=>?_⟩
  rcases G9.1 a with rfl|a
  ·exact f.mono (λ_ _ h=>h.mono (λ_ h=>h) (Nat.le_max_left _ _)) (λ_ h=>h)
  ·exact(c q a).mono (λ_ _ h=>h.mono (λ_ h=>h) (Nat.le_max_right _ _)) (λ_ h=>h)
def PN.mk{T:TypeId}{b:Array Value}{ps:List Prt}(h:Shape T b a ps)(c:∀p∈ps,p.ok F w):PN F w (.iface T (.agg b)) a:=by
 obtain⟨d,e⟩:=Prt.ok.all c;exact⟨d+1,T,b,ps,rfl,h,e⟩
def Prt.ok.node(h:PN F w v a):Prt.ok F w ⟨v,[a],true⟩:=F7 ⟨rfl,a,rfl,h⟩
def PKid(F:Nat->Prop)(w:World)(kv:Value)(ks:List aC):Prop:=tL (PN F w) F w kv ks
def Prt.ok.list(h:PKid F w v l):Prt.ok F w ⟨v,l,false⟩:=F5 ⟨rfl,h⟩
def PKid.keep{c:Value}(h:PKid F w c ks)(a:∀b,F b->w'.heap[b]?=w.heap[b]?)(d:∀b,F b->G b):PKid G w' c ks:=
 (tL.mono h (λ_ _ h=>(h.keep a).mono d) (λ_ h=>h)).keep a |>.mono (λ_ _ h=>h) d
def PN.grow{d lo' hi':Nat}(h:PN (Btw lo d) w v a)(e:∀k,lo<=k->k<d->w'.heap[k]?=w.heap[k]?)(g:lo'<=lo)(f:d<=hi'):PN (Btw lo' hi') w' v a:=
 (h.keep λb c=>e b c.1 c.2).mono λ_ c=>⟨G6 g c.1,G3 c.2 f⟩
def PKid.grow{c lo' hi':Nat}(h:PKid (Btw lo c) w v l)(d:∀k,lo<=k->k<c->w'.heap[k]?=w.heap[k]?)(f:lo'<=lo)(e:c<=hi'):PKid (Btw lo' hi') w' v l:=
 h.keep (λb a=>d b a.1 a.2) λ_ a=>⟨G6 f a.1,G3 a.2 e⟩
def zG:(prog.info? 92).map (λi=>(i.zero,i.size,i.bytes))=some (some .nilIface,1,16):=k_
def PLst(b_:Nat)(w:World)(v:Value)(acc:List aC):Prop:=
 ∃vs F,w.ownsRow b_ 92 1 v acc.length vs/\fB (PN F w) vs acc/\∀b,F b->b_<=b/\b<w.heap.size/\v.ownBlock≠some b
def PLst.nil(b_:Nat)(w:World):PLst b_ w (.slice none 0 0) []:=⟨[],λ_=>False,World.ownsRow_nil _ _ _ _,trivial,λ_ h=>h.elim⟩
def PLst.slice(h:PLst b_ w v acc):∃x c,v=.slice x acc.length c:=by
 obtain⟨i,F,f,_⟩:=h;rcases f.2 with ⟨a,d⟩|⟨g,b,e,a,_⟩
 ·exact⟨none,0,by rw[a,d]⟩
 ·exact⟨_,b,a⟩
def PLst.keep{pb:Nat}(h:PLst b_ w v acc)(c:Fr pb w w1)(j:pb<b_):PLst b_ w1 v acc:=by
 obtain⟨g,F,d,i,e⟩:=h;refine⟨g,F,bB d λk f=>?_,i.mono λ_ _ h=>h.keep λb a=>?_,λb a=>?_⟩
 ·have:=bR d k f;exact c.block k (cK d k f) o_
 ·have:=e b a;have:=c.size;exact⟨o_,o_,(e b a).2.2⟩
 ·have:=e b a;exact c.block b this.2.1 o_
def PLst.snoc{r o:World}{p:Value}{g m:Nat}{vs:List Value}(t:fB (PN F w) vs acc)(z:∀b,F b->b_<=b/\b<w.heap.size/\v.ownBlock≠some b)
 (y:PN (Btw lo w.heap.size) w p a) (A:b_<=lo) (n:∀k,v.ownBlock=some k->k<lo) (q:∀k,k<w.heap.size->r.heap[k]?=w.heap[k]?) (x:w.heap.size<=r.heap.size)
 (l:o.ownsRow b_ 92 1 (.slice (some ⟨g,0,none⟩) (acc.length+1) m) (acc.length+1) (vs++[p]))
 (f:r.grownBy o v.ownBlock) (j:v.ownBlock=some g\/w.heap.size<=g):PLst b_ o (.slice (some ⟨g,0,none⟩) (acc.length+1) m) (acc++[a]):=by
 have s:∀b,(F b\/Btw lo w.heap.size b)->b_<=b/\b<w.heap.size/\v.ownBlock≠some b:=by
  rintro b (i|i)
  ·exact z b i
  ·exact⟨by have:=i.1;omega,i.2,λe=>by have:=n b e;have:=i.1;omega⟩
 have c:∀b,(F b\/Btw lo w.heap.size b)->o.heap[b]?=w.heap[b]?:=λb i=>by
  have d:=s b i;rw[f.block b o_ (λe=>d.2.2 e.symm),q b d.2.1]
 refine⟨vs++[p],λb=>F b\/Btw lo w.heap.size b,?_,?_,?_⟩
 ·rw[F8];exact l
 ·exact fB.snoc (t.mono λ_ _ h=>(h.mono (λ_=>F7)).keep c) ((y.mono (λ_=>F5)).keep c)
 ·intro b i;have d:=s b i;have:=f.size;refine⟨d.1,o_,λe=>?_⟩
  have u:g=b:=Option.some.inj e;rcases j with j|j
  ·exact d.2.2 (by rw[j,u])
  ·omega
def PLst.kid(h:PLst b_ w v acc):PKid (Btw b_ w.heap.size) w v acc:=by
 obtain⟨m,F,o,k,j⟩:=h;rcases o.2 with ⟨a,e⟩|⟨g,c,d,a,e,f,l,q,p,n⟩
 ·exact F7 ⟨a,I4 e⟩
 ·exact F5 ⟨g,c,d,m,a,⟨e,aD f⟩,f,l,by rw[<-n,Nat.mul_one],k.mono λ_ _ h=>h.mono λb i=>⟨(j b i).1,(j b i).2.1⟩⟩
def PAt.grown{a:Option Nat}(h:PAt C w p)(c:w.grownBy w' a)(b:∀k,a=some k->b_<=k)(f:C.pb<b_)(d:C.g<b_):PAt C w' p:=
 h.keep (c.block _ h.pb_lt λe=>by have:=b _ e.symm;omega) (c.block _ h.g_lt λe=>by have:=b _ e.symm;omega)
def Out{α:Type}(C:Ctx)(w:World)(r:bH α)(P:World->Value->α->Prop)(e:Ending)(w':World):Prop:=
 Fr C.pb w w'/\match r with
  |.ok (a,q)=>PAt C w' q/\∃v,e=.returned v/\P w' v a
  |.error l=>e=cH 4 l
def CG(C:Ctx)(w:World)(r:bH aC)(e:Ending)(w':World):Prop:=Out C w r (λw' v a=>PN (Btw w.heap.size w'.heap.size) w' v a) e w'
def PReads(C:Ctx)(F:Nat)(X:Nat->bH aC):Prop:=∀w p,PAt C w p->X p≠.error 0->Calls prog F #[.pointer (some ⟨C.pb,0,none⟩)] w (CG C w (X p))
def lO(ts:List aR)(p:Nat)(l:List (List UInt8)):List UInt8:=(l.find? λx=>aQ ts p x).getD []
def CY(C:Ctx)(w:World)(p:Nat)(l:List (List UInt8))(g G:Nat)(Q:g<w.heap.size)(I:g≠C.pb)(hl:l.length<=100)(s:∀x∈l,x≠[])(W:∀i (hi:i<l.length),w.cell? ⟨g,i,none⟩=some (.string (bs l[i])))(h:PAt C w p):
 Calls prog 205 #[.pointer (some ⟨C.pb,0,none⟩),.slice (some ⟨g,0,none⟩) l.length G] w λe P=>e=.returned (.string (bs (lO C.ts p l)))/\PAt C P (if lO C.ts p l=[] then p else p+1)/\Fr C.pb w P:=by
 have HC:=aB W;have H:=aB h;have K:=aB s;clear W h s;generalize r:(if lO C.ts p l=[] then p else p+1)=T
 generalize B:lO C.ts p l=V at*;have S:=aB r;have A:=aB B;clear r B;go_enter func205,ntmps205;go_wp2_with fail;go_loopg [6,9] l.length (λgk m i wr=>∃k:Nat,k+gk=l.length/\i=.int .i64 k/\Fr C.pb w wr/\PAt C wr p/\Hid (∀x∈l.take k,aQ C.ts p x=false))
 case atStart=>exact⟨0,o_,rfl,Fr.refl _ _,H.out,λx hx=>by simp at hx⟩
 case round=>
  obtain⟨k,Y,rfl,a,c,q⟩:=hrel;by_cases f:k<l.length
  ·obtain⟨j,rfl⟩:∃j,gk=j+1:=⟨gk-1,o_⟩
   have J:wr.cell? ⟨g,k,none⟩=some (.string (bs l[k])):=(uW (a.block g Q I)).trans (HC.out k f);have aa:g<wr.heap.size:=G3 Q a.size;have D:=aB (cM C wr p (bs l[k]) c);have O:(bs l[k]).data.toList=l[k]:=by simp[bs]
   rw[O] at D
   have L:Hid (l=l.take k++l[k]::l.drop (k+1)):=by
    show _=_
    rw[L9,L0]
   have F:Hid (∀y∈l.take (k+1),y∈l.take k\/y=l[k]):=λy U=>by
    rw[H8 f] at U;rcases G8.1 U with h|h
    ·exact F7 h
    ·exact F5 (G5.1 h)
   have v:l[k]≠[]:=K.out _ (H9 f);have N:=aB v;have E:=aB a;clear c a O v;generalize l[k]=y at*;cases b:aQ C.ts p y
   ·rw[b] at D
    have M:Hid (∀z∈l.take (k+1),aQ C.ts p z=false):=λz t=>by
     rcases F.out z t with h|h
     ·exact q.out z h
     ·rw[h];exact b
    clear q F L b;go_wp2_with fail;refine D.out.mono ?_;rintro e X ⟨rfl,d,o⟩;go_wp2_with fail;go_roundg j
    case measure=>omega
    case rel=>exact⟨k+1,o_,by go_num,E.out.trans o,d,M⟩
   ·rw[b] at D
    have u:Hid (V=y):=by
     show _=_
     rw[<-A.out];unfold lO;rw[L.out,List.find?_append,M9.2 (by intro z t;simpa using q.out z t)]
     simp[b]
    clear q F L b;go_wp2_with fail;refine D.out.mono ?_;rintro e X ⟨rfl,d,o⟩;go_wp2_with fail;go_ret;have n:T=p+1:=by rw[<-S.out,u.out,if_neg N.out]
    rw[u.out,n];exact⟨rfl,d,E.out.trans o⟩
  ·have u:Hid (V=[]):=by
    show _=_
    rw[<-A.out];unfold lO;rw[M9.2]
    ·rfl
    ·intro z t;simpa using q.out z (by rw[J5 o_];exact t)
   have E:=aB a;have Z:=aB c;clear q a c;go_wp2_with fail;go_ret;have n:T=p:=by rw[<-S.out,u.out,if_pos rfl]
   rw[u.out,n];exact⟨rfl,Z.out,E.out⟩
def Out.err{a:Type}{r:bH a}{P:World->Value->a->Prop}{l:Nat}(c:r=.error l)(b:Fr C.pb w w'):Out C w r P (cH 4 l) w':=by
 subst c;exact⟨b,rfl⟩
def Out.ok{r:bH b}{P:World->Value->b->Prop}{a:b}(f:r=.ok (a,q))(d:Fr C.pb w w')(e:PAt C w' q)(c:P w' v a):Out C w r P (.returned v) w':=by
 subst f;exact⟨d,e,v,rfl,c⟩
def lW{x:List UInt8}{a:b}(h:aQ ts q x=true):aM ts x (.ok (a,q):bH b)=.ok (a,q+1):=by
 unfold aM;simp only;rw[if_pos h]
def vD{x:List UInt8}{a:b}(h:aQ ts q x=false):aM ts x (.ok (a,q):bH b)=.error (aN ts q).l_:=by
 unfold aM;simp only;rw[if_neg (by rw[h];simp)];rfl
def qI(w:World)(v:Value):∀j u,([v]:List Value)[j]?=some u->(w.alloc (.cells #[v] 92)).cell? ((⟨w.heap.size,0,none⟩:Addr).add j)=some u:=by
 intro j u a;match j,a with
 |0,a=>simp at a;subst a;simp[Addr.add,go_sem]
 |j+1,a=>simp at a
def sV(T:TypeId)(b:Array Value):∀u∈([.iface T (.agg b)]:List Value),u.oneCell'=true:=by
 intro u a;simp at a;subst a;rfl
def E6(C:Ctx)(w:World)(r:bH (List aC))(e:Ending)(w':World):Prop:=Out C w r (λw' v l=>PKid (Btw w.heap.size w'.heap.size) w' v l) e w'
def B6(C:Ctx)(E:Nat->bH aC)(w:World)(r0:bH (List aC))(k:Nat)(v:Value)(wr:World):Prop:=
 Fr C.pb w wr/\∃q acc,PAt C wr q/\r0=(if aQ C.ts q [44] then cY E C.ts k (q+1) acc else .ok (acc,q))/\acc.length+k<=4000/\PLst w.heap.size wr v acc
def rG(C:Ctx)(E:Nat->bH aC)(HE:PReads C 108 E)(w:World)(p:Nat)(y:ByteArray)(h:PAt C w p)(N r:bH (List aC))(W:Hid (N=gH E C.ts p y.data.toList))(hr:Hid (r=aM C.ts y.data.toList N))(al:N≠.error 0):
 Calls prog 240 #[.pointer (some ⟨C.pb,0,none⟩),.string y] w (E6 C w r):=by
 obtain⟨i0,hi,ap,bd,ba⟩:=info_parts zG;have HA:=aB (cM C w p y h);have H:=aB h;have bc:=aB HE;have ah:=aB al;have bo:=h.len;have x:=h.pb_lt;have bg:=h.g_lt;clear h HE al;cases b:aQ C.ts p y.data.toList
 ·rw[b] at HA;have z:Hid (N=cY E C.ts (C.ts.length+1) p []):=by show _=_;rw[W.out];unfold gH;rw[b];rfl
  clear b W;go_enter func240,ntmps240;go_wp2_with fail;refine HA.out.mono ?_;rintro e w1 ⟨rfl,X,aa⟩;have D:E p≠.error 0:=λe=>ah.out (by rw[z.out,cY,e])
  have HX:=aB (bc.out w1 p X D);have P:=aB aa;clear X aa D;go_wp2_with fail;refine HX.out.mono ?_;rintro e w2 O;cases m:E p with
  |error l=>
   rw[m] at O;obtain⟨B,rfl⟩:=O;have HL:Hid (r=.error l):=by show _=_;rw[hr.out,z.out,cY,m];rfl
   have Z:=aB (P.out.trans B);clear B HX;go_wp2_with fail;exact⟨rfl,Out.err HL.out Z.out⟩
  |ok aq=>
   obtain⟨a,q⟩:=aq;rw[m] at O;obtain⟨B,az,v,rfl,hn⟩:=O;obtain⟨T,cs,rfl⟩:=hn.form;have aw:Hid (N=(if aQ C.ts q [44] then cY E C.ts C.ts.length (q+1) [a] else .ok ([a],q))):=by show _=_;rw[z.out,cY,m];rfl
   have Z:=aB (P.out.trans B);have ao:=aB az;have HN:=aB hn;have bz:=P.out.size;have br:=B.size;clear az B hn HX z P;go_wp2_with (at_builtin;refine wpList_append_lies _ r_ _ _ 157 r_ w.heap.size 92 i0 _ 1 16 underlying157 hi ap bd ba rfl d_ (.slice none 0 0) 0 [] r_ (World.ownsRow_nil _ _ _ _) ⟨w2.heap.size,0,none⟩ 1 1 [.iface T (.agg cs)] r_ r_ (qI _ _) (sV _ _) d_ (by unfold maxLen;omega) o_ t_ (w2.heap.size+1) s_ ?_)
   intro g ca w3 G f ac bv;have bb:=aB (PLst.snoc (b_:=w.heap.size) (lo:=w1.heap.size) (F:=λ_=>False) (vs:=[]) (acc:=[]) (v:=.slice none 0 0) trivial (λ_ h=>h.elim) HN.out o_ (λk Q=>by cases Q) (λk Q=>G7 _ _ _ Q) s_ G f (ac.imp_right (λe=>by omega)))
   have ar:=aB ((ao.out.alloc _).grown (b_:=w.heap.size) f (λk Q=>by cases Q) x bg)
   have bf:=aB ((Z.out.alloc _).grown f (λk Q=>by cases Q))
   clear G f ac HN ao Z;go_wp2_with fail;go_loopg [5] C.ts.length (λk v wr=>B6 C E w N k v wr)
   case atStart=>exact⟨bf.out,q,[a],ar.out,aw.out,t_,bb.out⟩
   case round=>
    obtain⟨ae,u,j,an,Y,bu,ai⟩:=hrel;obtain⟨x4,c4,rfl⟩:=ai.slice;have A:=aB (cM C wr u ⟨#[44]⟩ an);have ay:=aB ae;have V:=aB ai;have bx:=ae.size;clear ae an ai bb ar bf aw;cases b:aQ C.ts u [44]
    ·have o:aQ C.ts u (⟨#[44]⟩:ByteArray).data.toList=false:=b;rw[o] at A;have n:Hid (N=.ok (j,u)):=by show _=_;rw[Y,b];rfl
     clear b o Y;go_wp2_with fail;refine A.out.mono ?_;rintro e w5 ⟨rfl,M,i⟩;have af:=aB (eR C w5 u y M);have K:=aB (ay.out.trans i);have s:=aB (V.out.keep i x);have bj:=i.size;clear M i A V;go_wp2_with fail;refine af.out.mono ?_;rintro e w6 ⟨c,U⟩;have t:=aB (K.out.trans c);have au:=aB (s.out.keep c x);cases b:aQ C.ts u y.data.toList
     ·rw[b] at U;obtain rfl:e=cH 4 (aN C.ts u).l_:=U;have HL:Hid (r=.error (aN C.ts u).l_):=by show _=_;rw[hr.out,n.out];exact vD b
      clear c af b au s;go_wp2_with fail;exact⟨rfl,Out.err HL.out t.out⟩
     ·rw[b] at U;obtain⟨rfl,J⟩:=U;have HL:Hid (r=.ok (j,u+1)):=by show _=_;rw[hr.out,n.out];exact lW b
      have S:=aB J;clear c af b J s;go_wp2_with fail;go_ret;exact Out.ok HL.out t.out S.out au.out.kid
    ·have o:aQ C.ts u (⟨#[44]⟩:ByteArray).data.toList=true:=b;rw[o] at A;have n:Hid (N=cY E C.ts gk (u+1) j):=by show _=_;rw[Y,b];rfl
     clear b o Y
     obtain⟨k,rfl⟩:∃k,gk=k+1:=by
      cases gk with
      |zero=>exact absurd n.out ah.out
      |succ k=>exact⟨k,rfl⟩
     go_wp2_with fail;refine A.out.mono ?_;rintro e w5 ⟨rfl,M,i⟩;have D:E (u+1)≠.error 0:=λe=>ah.out (by rw[n.out,cY,e])
     have HX:=aB (bc.out w5 (u+1) M D);have K:=aB (ay.out.trans i);have s:=aB (V.out.keep i x);have bj:=i.size;clear M i A V D;go_wp2_with fail;refine HX.out.mono ?_;rintro e w6 O;cases m:E (u+1) with
     |error l=>
      rw[m] at O;obtain⟨c,rfl⟩:=O;have HL:Hid (r=.error l):=by show _=_;rw[hr.out,n.out,cY,m];rfl
      have t:=aB (K.out.trans c);clear c HX;go_wp2_with fail;exact⟨rfl,Out.err HL.out t.out⟩
     |ok bl=>
      obtain⟨a6,q6⟩:=bl;rw[m] at O;obtain⟨c,J,v6,rfl,ag⟩:=O;obtain⟨T6,bh,rfl⟩:=ag.form;have bn:Hid (N=(if aQ C.ts q6 [44] then cY E C.ts k (q6+1) (j++[a6]) else .ok (j++[a6],q6))):=by show _=_;rw[n.out,cY,m]
      obtain⟨vs,F,L,ab,ax⟩:=s.out.keep c x
      have be:∀g,(Value.slice x4 j.length c4).ownBlock=some g->g<w5.heap.size:=by
       obtain⟨bt,F',ak,_⟩:=s.out;exact cK ak
      have am:=aB be;have t:=aB (K.out.trans c);have S:=aB J;have av:=aB ag;have HALL:=aB (I8 ab ax);have bq:=c.size;have aj:∀k,(Value.slice x4 j.length c4).ownBlock=some k->w.heap.size<=k:=bR L;clear J c ag HX n s K ab ax be;go_wp2_with (at_builtin;refine wpList_append_lies _ r_ _ _ 157 r_ w.heap.size 92 i0 _ 1 16 underlying157 hi ap bd ba rfl d_ _ _ _ r_ (L.alloc _) ⟨w6.heap.size,0,none⟩ 1 1 [.iface T6 (.agg bh)] r_ r_ (qI _ _) (sV _ _) d_ (by unfold maxLen;omega) o_ t_ (w6.heap.size+1) s_ ?_)
      intro g7 bp w7 I d ad bw;have bm:=aB (PLst.snoc (lo:=w5.heap.size) HALL.out.1 HALL.out.2 av.out o_ am.out (λk Q=>G7 _ _ _ Q) s_ I d (ad.imp_right (λe=>by omega)))
      have bi:=aB ((S.out.alloc _).grown (b_:=w.heap.size) d aj x bg);have bk:=aB ((t.out.alloc _).grown d aj);clear L I d ad av S t HALL am aj;go_wp2_with fail;go_roundg k
      case measure=>omega
      case rel=>exact⟨bk.out,q6,j++[a6],bi.out,bn.out,t_,bm.out⟩
 ·rw[b] at HA;have z:Hid (r=.ok ([],p+1)):=by show _=_;rw[hr.out,W.out];unfold gH;rw[b];unfold aM;simp[b]
  clear b W;go_enter func240,ntmps240;go_wp2_with fail;refine HA.out.mono ?_;rintro e w1 ⟨rfl,X,aa⟩;go_wp2_with fail;go_ret;exact Out.ok z.out aa X (F7 ⟨rfl,rfl⟩)
structure PS(C:Ctx)(w:World)(t:aR)(tb:Nat)(W:World)(p:Nat):Prop where
 fr:Fr C.pb w W
 at_:PAt C W p
 tk:W.heap[tb]?=some (.cells #[.int .i64 (psort t.sort),.string (bs t.x_),.int .i64 (pval t),.int .i64 t.l_] 150 (0,0))
 pl:W.heap[tb+1]?=some (.cells #[.int .i64 t.l_] 153 (0,0))
 lo:w.heap.size<=tb
 np:C.pb<tb
 ng:C.g<tb
def PS.keep{W c:World}{a:Nat}(h:PS C w t a W p)(b:Fr C.pb W c)(d:PAt C c q):PS C w t a c q:=
 ⟨h.fr.trans b,d,by rw[b.block a (aD h.tk) (by have:=h.np;omega)];exact h.tk,by rw[b.block (a+1) (aD h.pl) (by have:=h.np;omega)];exact h.pl,h.lo,h.np,h.ng⟩
def PS.cells{W:World}{a:Nat}(h:PS C w t a W p):
 a+1<W.heap.size/\W.cell? ⟨a,0,none⟩=some (.int .i64 (psort t.sort))/\W.cell? ⟨a,1,none⟩=some (.string (bs t.x_))/\W.cell? ⟨a,2,none⟩=some (.int .i64 (pval t))/\W.cell? ⟨a,3,none⟩=some (.int .i64 t.l_)/\W.cell? ⟨a+1,0,none⟩=some (.int .i64 t.l_)/\C.pb<W.heap.size/\W.cell? ⟨C.pb,1,none⟩=some (.int .i64 p)/\W.frozen? ⟨C.pb,1,none⟩=false:=
 ⟨aD h.pl,aA h.tk rfl,aA h.tk rfl,aA h.tk rfl,aA h.tk rfl,aA h.pl rfl,h.at_.pb_lt,aA h.at_.blk rfl,aE h.at_.blk⟩
def thrown{P:Program}{b:Array Oper}{o:Oper}{a:Act}{K:Act->World->Prop}{Q:Exit->Act->World->Prop}{E:Prop}(c:Value)
 (h:if Region.wanted o (yielded b a.tmps)=true then Oper.wp P o a w K Q else E) (_d:Hid False->K (a.put o.dst c) w):
 if Region.wanted o (yielded b a.tmps)=true then Oper.wp P o a w K Q else E:=h
def Fr.keepB{pb b:Nat}{o:Obj}(a:Fr pb w w')(h:w.heap[b]?=some o)(e:b≠pb):w'.heap[b]?=some o:=by
 have c:b<w.heap.size:=by
  by_cases d:b<w.heap.size
  ·exact d
  ·rw[K7 o_] at h;cases h
 rw[a.block b c e];exact h
def PKid.slice(h:PKid F w v l):∃x c,v=.slice x l.length c:=by
 rcases h with ⟨a,d⟩|⟨g,e,b,f,a,_⟩
 ·exact⟨none,0,by rw[a,d];rfl⟩
 ·exact⟨_,_,a⟩
def YH(h:mT t):(psort t.sort=2↔t.sort=48)/\(psort t.sort=3↔t.sort=115):=by
 unfold psort;rcases h with h|⟨h,_⟩|h|⟨h,_⟩|h|h<;>simp[h]
def IV(C:Ctx)(E:Nat->bH aC)(HE:PReads C 108 E):PReads C 258 (dS E C.ts):=by
 intro w p h bc;have HN:=aB (jE C w p h);simp only[lN] at HN;have br:=aB (λw1 (hb:Below w.heap.size w w1)=>kG C w1 p (h.below hb))
 have bg:=h.tsk.tk p h.lt;have HS:=aB (YH bg);have HT:Hid ((aN C.ts p).sort≠101->p+1<C.ts.length):=λe=>h.all.ok.next p h.lt e
 have cs:p<=3000:=by have:=h.lt;have:=h.len;omega
 have H:=aB h;have bm:=aB HE;have aw:=aB bg;have cr:=h.pb_lt;have cz:=h.g_lt;obtain⟨r,hr⟩:=E_ (dS E C.ts p);rw[<-hr] at bc ⊢
 rw[dS] at hr;have HR:=aB hr;have bk:=aB bc;clear h HE bc bg hr;generalize ca:aN C.ts p=t at*;have be:=aB ca;clear ca;go_enter func258,ntmps258;go_wp2_with fail;refine HN.out.mono ?_;rintro e w1 ⟨rfl,cd⟩;have ay:=aB cd;clear cd;go_wp2_with fail;refine(br.out w1 ay.out).mono ?_;rintro e w2 ⟨rfl,bt⟩
 have bi:PS C w t w2.heap.size ((w2.alloc (.cells #[.int .i64 (psort t.sort),.string (bs t.x_),.int .i64 (pval t),.int .i64 t.l_] 150)).alloc (.cells #[.int .i64 t.l_] 153)) p:=by
  have hb:=ay.out.trans (bt.mono ay.out.size);have ch:=hb.size;refine⟨((Fr.below hb).alloc _).alloc _,((H.out.below hb).alloc _).alloc _,?_,?_,ch,o_,o_⟩
  ·exact cV _ _ s_ _ (aU _ _ rfl _)
  ·exact aU _ _ s_ _
 have z:=aB bi;obtain⟨k0,k1,k2,k3,k4,k5,k6,k7,k8⟩:=bi.cells;clear bi bt ay br HN;go_upto_region 2 with fail
 generalize cq:(w2.alloc (.cells #[.int .i64 (psort t.sort),.string (bs t.x_),.int .i64 (pval t),.int .i64 t.l_] 150)).alloc (.cells #[.int .i64 t.l_] 153)=W at*;generalize cp:psort t.sort=ps at*;have cv:=z.out.np;have cx:¬w2.heap.size=C.pb:=o_
 have cw:¬C.pb=w2.heap.size:=o_
 by_cases ap:ps=2
 ·have O:t.sort=48:=HS.out.1.1 ap;subst ap
  obtain⟨kk,bd⟩:∃kk,bW 0 t.x_=some kk:=by
   rcases aw.out with h|⟨h,_⟩|h|⟨h,h2⟩|h|h
   ·omega
   ·omega
   ·omega
   ·exact Option.isSome_iff_exists.1 h2
   ·omega
   ·omega
  have V:Hid (pval t=kk):=by show _=_;unfold pval;rw[if_pos O,bd];rfl
  have d:Hid (r=.ok (aK [UInt8.ofNat t.sort] t.l_ t.x_ [],p+1)):=by show _=_;rw[HR.out,O];rfl
  have Q:Hid (Shape 307 #[.int .i64 t.l_,.int .i64 (pval t)] (aK [UInt8.ofNat t.sort] t.l_ t.x_ []) []):=F7 ⟨rfl,kk,by rw[V.out];rfl,by rw[O];rfl,bd,rfl,rfl⟩
  have hm:=z.out.at_.move (F9 _ _) (p+1) (HT.out o_)
  have HM:=aB (I8 (z.out.fr.trans hm.2) hm.1);clear O bd V aw hm HR;go_wp2_with fail;go_ret;exact Out.ok d.out HM.out.1 HM.out.2 (PN.mk Q.out (λp hp=>by cases hp))
 by_cases T:ps=3
 ·have O:t.sort=115:=HS.out.2.1 T;subst T;have d:Hid (r=.ok (aK [UInt8.ofNat t.sort] t.l_ t.x_ [],p+1)):=by show _=_;rw[HR.out,O];rfl
  have Q:Hid (Shape 308 #[.int .i64 t.l_,.string (bs t.x_)] (aK [UInt8.ofNat t.sort] t.l_ t.x_ []) []):=F5 (F7 ⟨rfl,rfl,by rw[O];rfl,rfl,rfl⟩)
  have hm:=z.out.at_.move (F9 _ _) (p+1) (HT.out o_)
  have HM:=aB (I8 (z.out.fr.trans hm.2) hm.1);clear O aw hm HR ap;go_wp2_with fail;go_ret;exact Out.ok d.out HM.out.1 HM.out.2 (PN.mk Q.out (λp hp=>by cases hp))
 have cy:((ps:Int)==2)=false:=t_
 have co:((ps:Int)==3)=false:=t_
 have az:(t.sort==48 || t.sort==115)=false:=by
  have h1:t.sort≠48:=λe=>ap (HS.out.1.2 e)
  have h2:t.sort≠115:=λe=>T (HS.out.2.2 e)
  simp[h1,h2]
 have aa:Hid (r=if aQ C.ts p [116,114,117,101] || aQ C.ts p [102,97,108,115,101] then .ok (aK [98,111,111,108] t.l_ t.x_ [],p+1)
  else if aQ C.ts p [40] then aM C.ts [41] (E (p+1))
  else if aQ C.ts p [91] then bL (aK [108,105,115,116] t.l_ t.x_) (dZ E C.ts p [91] [93])
  else if t.sort==110 then
   if aQ C.ts (p+1) [40] then bL (aK [99,97,108,108] t.l_ t.x_) (dZ E C.ts (p+1) [40] [41])
   else .ok (aK [110,97,109,101] t.l_ t.x_ [],p+1)
  else Hs.bad C.ts p):=by show _=_;rw[HR.out,az];rfl
 have ag:Hid (∀x,aQ C.ts p x=true->t.x_=x):=λx hx=>by
  unfold aQ at hx;rw[be.out] at hx;simp only[I7,beq_iff_eq] at hx;exact hx.2
 clear HR az ap T HS aw;have X:=aB (cM C W p ⟨#[116,114,117,101]⟩ z.out.at_);have cb:(⟨#[116,114,117,101]⟩:ByteArray).data.toList=[116,114,117,101]:=rfl;rw[cb] at X;clear cb;cases i1:aQ C.ts p [116,114,117,101];rotate_left
 ·have d:Hid (r=.ok (aK [98,111,111,108] t.l_ t.x_ [],p+1)):=by show _=_;rw[aa.out,i1];rfl
  have Q:Hid (Shape 310 #[.int .i64 t.l_,.bool true] (aK [98,111,111,108] t.l_ t.x_ []) []):=F5 (F5 (F7 ⟨rfl,by show _= #[_,Value.bool (t.x_==_)];rw[ag.out _ i1];rfl,rfl,rfl,rfl⟩))
  rw[i1] at X;clear i1 aa ag;go_wp2_with fail;refine X.out.mono ?_;rintro e w3 ⟨rfl,bb,ah⟩;have m:=z.out.keep ah bb;have o:=aB m;clear k1 k2 k3 k4 k5 k6 k7 k8 bb ah;obtain⟨k0,k1,k2,k3,k4,k5,k6,k7,k8⟩:=m.cells;clear m;go_wp2_with fail;go_ret;exact Out.ok d.out o.out.fr o.out.at_ (PN.mk Q.out (λp hp=>by cases hp))
 rw[i1] at X;go_wp2_with fail;refine X.out.mono ?_;rintro e w3 ⟨rfl,an,ah⟩;have m:=z.out.keep ah an;have ab:=aB (cM C w3 p ⟨#[102,97,108,115,101]⟩ an);have bo:(⟨#[102,97,108,115,101]⟩:ByteArray).data.toList=[102,97,108,115,101]:=rfl;rw[bo] at ab;have o:=aB m;clear bo an ah m z X k0 k1 k2 k3 k4 k5 k6 k7 k8;cases i2:aQ C.ts p [102,97,108,115,101];rotate_left
 ·have d:Hid (r=.ok (aK [98,111,111,108] t.l_ t.x_ [],p+1)):=by show _=_;rw[aa.out,i1,i2];rfl
  have Q:Hid (Shape 310 #[.int .i64 t.l_,.bool false] (aK [98,111,111,108] t.l_ t.x_ []) []):=F5 (F5 (F7 ⟨rfl,by show _= #[_,Value.bool (t.x_==_)];rw[ag.out _ i2];rfl,rfl,rfl,rfl⟩))
  rw[i2] at ab;clear i1 i2 aa ag;go_wp2_with fail;refine ab.out.mono ?_;rintro e w4 ⟨rfl,n,aj⟩;have u:=o.out.keep aj n;have g:=aB u;clear n aj;obtain⟨k0,k1,k2,k3,k4,k5,k6,k7,k8⟩:=u.cells;clear u;go_wp2_with fail;go_ret;exact Out.ok d.out g.out.fr g.out.at_ (PN.mk Q.out (λp hp=>by cases hp))
 rw[i2] at ab
 have av:Hid (r=if aQ C.ts p [40] then aM C.ts [41] (E (p+1))
  else if aQ C.ts p [91] then bL (aK [108,105,115,116] t.l_ t.x_) (dZ E C.ts p [91] [93])
  else if t.sort==110 then
   if aQ C.ts (p+1) [40] then bL (aK [99,97,108,108] t.l_ t.x_) (dZ E C.ts (p+1) [40] [41])
   else .ok (aK [110,97,109,101] t.l_ t.x_ [],p+1)
  else Hs.bad C.ts p):=by show _=_;rw[aa.out,i1,i2];rfl
 clear aa i1 i2 ag;go_wp2_with fail;refine ab.out.mono ?_;rintro e w4 ⟨rfl,n,aj⟩;have u:=o.out.keep aj n;have P:=aB (cM C w4 p ⟨#[40]⟩ n);have bq:(⟨#[40]⟩:ByteArray).data.toList=[40]:=rfl;rw[bq] at P;have g:=aB u;clear bq n aj u o ab;cases i3:aQ C.ts p [40];rotate_left
 ·have A:Hid (r=aM C.ts [41] (E (p+1))):=by show _=_;rw[av.out,i3];rfl
  rw[i3] at P;clear i3 av;go_wp2_with fail;refine P.out.mono ?_;rintro e w5 ⟨rfl,s,ai⟩;have bp:E (p+1)≠.error 0:=λe=>bk.out (by rw[A.out,e];rfl)
  have HX:=aB (bm.out w5 (p+1) s bp);have bl:=aB (g.out.fr.trans ai);have cu:=bl.out.size;clear s ai bp P g;go_wp2_with fail;refine HX.out.mono ?_;rintro e w6 hO;cases ar:E (p+1) with
  |error l=>
   rw[ar] at hO;obtain⟨f,rfl⟩:=hO;have d:Hid (r=.error l):=by show _=_;rw[A.out,ar];rfl
   have B:=aB (bl.out.trans f);clear f HX;go_wp2_with fail;exact⟨rfl,Out.err d.out B.out⟩
  |ok aq=>
   obtain⟨a,q⟩:=aq;rw[ar] at hO;obtain⟨f,bw,v6,rfl,bx⟩:=hO;have ax:=aB (eR C w6 q ⟨#[41]⟩ bw);have ao:(⟨#[41]⟩:ByteArray).data.toList=[41]:=rfl;rw[ao] at ax;have B:=aB (bl.out.trans f);have ck:=aB bx;have ct:=f.size;clear bw f bx HX ao;go_wp2_with fail;refine ax.out.mono ?_;rintro e w7 ⟨b,G⟩;cases Y:aQ C.ts q [41]
   ·rw[Y] at G;obtain rfl:e=cH 4 (aN C.ts q).l_:=G;have d:Hid (r=.error (aN C.ts q).l_):=by show _=_;rw[A.out,ar];exact vD Y
    have y:=aB (B.out.trans b);clear b ax Y;go_wp2_with fail;exact⟨rfl,Out.err d.out y.out⟩
   ·rw[Y] at G;obtain⟨rfl,ak⟩:=G;have d:Hid (r=.ok (a,q+1)):=by show _=_;rw[A.out,ar];exact lW Y
    have y:=aB (B.out.trans b);have cg:=aB ak;have cm:=aB (ck.out.grow (lo':=w.heap.size) (hi':=w7.heap.size) (λk h1 h2=>b.block k h2 o_) o_ b.size)
    clear b ax Y ak;go_wp2_with fail;go_ret;exact Out.ok d.out y.out cg.out cm.out
 rw[i3] at P
 have A:Hid (r=if aQ C.ts p [91] then bL (aK [108,105,115,116] t.l_ t.x_) (dZ E C.ts p [91] [93])
  else if t.sort==110 then
   if aQ C.ts (p+1) [40] then bL (aK [99,97,108,108] t.l_ t.x_) (dZ E C.ts (p+1) [40] [41])
   else .ok (aK [110,97,109,101] t.l_ t.x_ [],p+1)
  else Hs.bad C.ts p):=by show _=_;rw[av.out,i3];rfl
 clear av i3;go_wp2_with fail;refine P.out.mono ?_;rintro e w5 ⟨rfl,s,ai⟩;have ba:=g.out.keep ai s;have K:=aB (cM C w5 p ⟨#[91]⟩ s);have ao:(⟨#[91]⟩:ByteArray).data.toList=[91]:=rfl;rw[ao] at K;have S:=aB ba;clear ao s ai ba g P;cases i4:aQ C.ts p [91];rotate_left
 ·obtain⟨r1,M⟩:=E_ (gH E C.ts (p+1) [93]);have F:Hid (r=bL (aK [108,105,115,116] t.l_ t.x_) (aM C.ts [93] r1)):=by show _=_;rw[A.out,i4,M];unfold dZ;rw[i4];rfl
  have ac:=aB M;rw[i4] at K;clear i4 A M;go_wp2_with fail;refine K.out.mono ?_;rintro e w6 ⟨rfl,j,f⟩;have af:=S.out.keep f j;have V:=aB (rG C E bm.out w6.drew (p+1) ⟨#[93]⟩ j.drew r1 _ ac rfl (λe=>bk.out (by rw[F.out,e];rfl)))
  have al:(⟨#[93]⟩:ByteArray).data.toList=[93]:=rfl;rw[al] at V;have ad:=aB af;obtain⟨k0,k1,k2,k3,k4,k5,k6,k7,k8⟩:=af.cells;clear j f af al S K k1 k2 k3 k4 k7 k8;cases hV:aM C.ts [93] r1 with
  |error l=>
   rw[hV] at V;have d:Hid (r=.error l):=by show _=_;rw[F.out,hV];rfl
   clear hV;go_wp2_with fail;go_region_law (refine thrown (.slice none 0 0) ?_ ?_;(focus go_simp;go_at_call 240;refine V.out.mono ?_;rintro e w7 ⟨b,rfl⟩;exact I8 rfl (Out.err d.out (ad.out.fr.drew.trans b)));intro D)
   all_goals exact D.out.elim
  |ok lq=>
   obtain⟨l,q⟩:=lq;rw[hV] at V;have d:Hid (r=.ok (aK [108,105,115,116] t.l_ t.x_ l,q)):=by show _=_;rw[F.out,hV];rfl
   clear hV;have cc:=ad.out.fr.size;go_wp2_with fail;go_region_law (go_simp;go_at_call 240;refine V.out.mono ?_;rintro e w7 ⟨b,ak,v,rfl,hk⟩;obtain⟨x,c,rfl⟩:=hk.slice;have HK:=aB hk;have U:=aB (ad.out.keep ((Fr.refl _ _).drew.trans b) ak);have y:=aB b;have c5:=U.out.cells.2.2.2.2.2.1;have c0:=U.out.cells.1;clear b ak hk)
   all_goals (go_wp2_with fail;go_ret)
   all_goals exact Out.ok d.out U.out.fr U.out.at_ (PN.mk (F5 (F5 (F5 (F7 ⟨rfl,_,rfl,rfl,rfl⟩)))) (λp hp=>by obtain rfl:=G5.1 hp;exact Prt.ok.list (HK.out.grow (λ_ _ _=>rfl) cc (F6 _))))
 rw[i4] at K
 have F:Hid (r=if t.sort==110 then
       if aQ C.ts (p+1) [40] then bL (aK [99,97,108,108] t.l_ t.x_) (dZ E C.ts (p+1) [40] [41])
       else .ok (aK [110,97,109,101] t.l_ t.x_ [],p+1)
  else Hs.bad C.ts p):=by show _=_;rw[A.out,i4];rfl
 clear A i4;go_wp2_with fail;refine K.out.mono ?_;rintro e w6 ⟨rfl,j,f⟩;have B:=aB (S.out.fr.trans f);have Z:=aB (kF C w6 p j);rw[be.out] at Z;clear j f S K;cases O:(t.sort==110)
 ·rw[O] at Z;have d:Hid (r=.error t.l_):=by show _=_;rw[F.out,O];show Hs.bad _ _=_;unfold Hs.bad;rw[be.out]
  clear O F;go_wp2_with fail;refine Z.out.mono ?_;rintro e w7 ⟨b,G⟩;obtain rfl:e=cH 4 t.l_:=G;have y:=aB (B.out.trans b);clear b;go_wp2_with fail;exact⟨rfl,Out.err d.out y.out⟩
 rw[O] at Z
 have ac:Hid (r=if aQ C.ts (p+1) [40] then bL (aK [99,97,108,108] t.l_ t.x_) (dZ E C.ts (p+1) [40] [41])
       else .ok (aK [110,97,109,101] t.l_ t.x_ [],p+1)):=by show _=_;rw[F.out,O];rfl
 clear F O;go_wp2_with fail;refine Z.out.mono ?_;rintro e w7 ⟨b,G⟩;obtain⟨rfl,au⟩:=G;have y:=aB ((B.out.trans b).alloc (.cells #[.int .i64 t.l_,.string (bs t.x_)] 155));have L:=aB (cM C (w7.alloc (.cells #[.int .i64 t.l_,.string (bs t.x_)] 155)) (p+1) ⟨#[40]⟩ (au.alloc _));have al:(⟨#[40]⟩:ByteArray).data.toList=[40]:=rfl;rw[al] at L;have bz:Hid ((w7.alloc (.cells #[.int .i64 t.l_,.string (bs t.x_)] 155)).heap[w7.heap.size]?=some (.cells #[.int .i64 t.l_,.string (bs t.x_)] 155 (0,0))):=aU _ _ rfl _;have bj:w7.heap.size≠C.pb:=by have:=au.pb_lt;omega
 have cn:=(B.out.trans b).size;clear b au Z B al;cases i5:aQ C.ts (p+1) [40]
 ·rw[i5] at L;have d:Hid (r=.ok (aK [110,97,109,101] t.l_ t.x_ [],p+1)):=by show _=_;rw[ac.out,i5];rfl
  clear i5 ac;go_wp2_with fail;refine L.out.mono ?_;rintro e w8 ⟨rfl,I,N⟩;have J:=aB (N.keepB bz.out bj);have am:=aB (y.out.trans N);have cf:=aB I;have c0:=aA J.out (i:=0) rfl;have c1:=aA J.out (i:=1) rfl;have ci:=aD J.out;clear I N L;go_wp2_with fail;go_ret;exact Out.ok d.out am.out cf.out (PN.mk (F5 (F5 (F5 (F5 (F5 (F7 ⟨rfl,rfl,rfl,rfl,rfl⟩)))))) (λp hp=>by cases hp))
 ·rw[i5] at L;obtain⟨r1,M⟩:=E_ (gH E C.ts (p+1+1) [41]);have bf:Hid (r=bL (aK [99,97,108,108] t.l_ t.x_) (aM C.ts [41] r1)):=by show _=_;rw[ac.out,i5,M];unfold dZ;rw[i5];rfl
  have cj:=aB M;clear i5 ac M;go_wp2_with fail;refine L.out.mono ?_;rintro e w8 ⟨rfl,I,N⟩;have J:=aB (N.keepB bz.out bj);have am:=aB (y.out.trans N);have V:=aB (rG C E bm.out w8.drew (p+1+1) ⟨#[41]⟩ I.drew r1 _ cj rfl (λe=>bk.out (by rw[bf.out,e];rfl)))
  have bn:(⟨#[41]⟩:ByteArray).data.toList=[41]:=rfl;rw[bn] at V;have c0:=aA J.out (i:=0) rfl;have c1:=aA J.out (i:=1) rfl;have ci:=aD J.out;have bv:=am.out.size;clear I N L bn;cases hV:aM C.ts [41] r1 with
  |error l=>
   rw[hV] at V;have d:Hid (r=.error l):=by show _=_;rw[bf.out,hV];rfl
   clear hV;go_wp2_with fail;go_region_law (refine thrown (.slice none 0 0) ?_ ?_;(focus go_simp;go_at_call 240;refine V.out.mono ?_;rintro e w9 ⟨ae,rfl⟩;exact I8 rfl (Out.err d.out (am.out.drew.trans ae)));intro D)
   all_goals exact D.out.elim
  |ok lq=>
   obtain⟨l,q⟩:=lq;rw[hV] at V;have d:Hid (r=.ok (aK [99,97,108,108] t.l_ t.x_ l,q)):=by show _=_;rw[bf.out,hV];rfl
   clear hV;go_wp2_with fail;go_region_law (go_simp;go_at_call 240;refine V.out.mono ?_;rintro e w9 ⟨ae,bu,v,rfl,hk⟩;obtain⟨x,c,rfl⟩:=hk.slice;have HK:=aB hk;have cl:=aB ae;have ce:=aB bu;have bh:=aB (((Fr.refl C.pb w8).drew.trans ae).keepB J.out bj);have d0:=aA bh.out (i:=0) rfl;have d1:=aA bh.out (i:=1) rfl;have da:=aD bh.out;clear ae bu hk)
   all_goals (go_wp2_with fail;go_ret)
   all_goals exact Out.ok d.out (am.out.drew.trans cl.out) ce.out (PN.mk (F5 (F5 (F5 (F5 (F7 ⟨rfl,_,rfl,rfl,rfl⟩))))) (λp hp=>by obtain rfl:=G5.1 hp;exact Prt.ok.list (HK.out.grow (λ_ _ _=>rfl) bv (F6 _))))
abbrev YB(W:World)(b l:Nat):Prop:=W.heap[b]?=some (.cells #[.int .i64 l] 153 (0,0))
def YB.new(w:World)(l:Nat):YB (w.alloc (.cells #[.int .i64 l] 153)) w.heap.size l:=aU _ _ rfl _
def GO(C:Ctx)(E:Nat->bH aC)(w:World)(r:bH aC)(tb l:Nat)(k:Nat)(v:Value)(wr:World):Prop:=
 Fr C.pb w wr/\∃q a,PAt C wr q/\r=cS E C.ts k a q/\PN (Btw w.heap.size wr.heap.size) wr v a/\YB wr tb l
def VV(C:Ctx)(E:Nat->bH aC)(HE:PReads C 108 E):PReads C 257 (λp=>bE (dS E C.ts p) (cS E C.ts (C.ts.length+1))):=by
 intro w p h K;have Q:=aB (kG C w p h);have J:dS E C.ts p≠.error 0:=λe=>K (by show bE _ _=_;rw[e];rfl)
 have t:=aB (λw1 (hb:Below w.heap.size w w1)=>IV C E HE w1 p (h.below hb) J)
 have ax:=aB HE;have ba:=h.pb_lt;obtain⟨r,hr⟩:=E_ (bE (dS E C.ts p) (cS E C.ts (C.ts.length+1)));have I:r≠.error 0:=hr▸K;show Calls _ _ _ _ (CG C w (bE (dS E C.ts p) (cS E C.ts (C.ts.length+1))))
 rw[<-hr];have HR:=aB hr;have ag:=aB I;clear h HE K hr J I;generalize (aN C.ts p).l_=pl at*;cases n:dS E C.ts p with
 |error l=>
  have s:Hid (r=.error l):=by show _=_;rw[HR.out,n];rfl
  rw[n] at t;clear n HR;go_enter func257,ntmps257;go_wp2_with fail;refine Q.out.mono ?_;rintro e w1 ⟨rfl,A⟩;have o:=aB A;clear A;go_wp2_with fail;refine(t.out w1 o.out).mono ?_;rintro e w2 ⟨m,rfl⟩;have az:=aB ((Fr.below o.out).trans m);clear m;go_wp2_with fail;exact⟨rfl,Out.err s.out az.out⟩
 |ok aq=>
  obtain⟨a0,q0⟩:=aq;have s:Hid (r=cS E C.ts (C.ts.length+1) a0 q0):=by show _=_;rw[HR.out,n];rfl
  rw[n] at t;clear n HR;go_enter func257,ntmps257;go_wp2_with fail;refine Q.out.mono ?_;rintro e w1 ⟨rfl,A⟩;have o:=aB A;clear A;go_wp2_with fail;refine(t.out w1 o.out).mono ?_;rintro e w2 ⟨m,af,v2,rfl,Z⟩;have aw:=o.out.size;have bd:=m.size
  have HI:Hid (GO C E w r w2.heap.size pl (C.ts.length+1) v2 (w2.alloc (.cells #[.int .i64 pl] 153))):=
   ⟨((Fr.below o.out).trans m).alloc _,q0,a0,af.alloc _,s.out,Z.grow (λk _ B=>G7 _ _ _ B) aw s_,YB.new _ _⟩
  obtain⟨T2,bh,rfl⟩:=Z.form;clear m af Z s t Q;go_wp2_with fail;go_loopg [4] (C.ts.length+1) (λk v wr=>GO C E w r w2.heap.size pl k v wr)
  case atStart=>exact HI.out
  case round=>
   obtain⟨L,q,a,aa,z,O,G⟩:=hrel;obtain⟨T3,bi,rfl⟩:=O.form
   obtain⟨k,rfl⟩:∃k,gk=k+1:=by
    cases gk with
    |zero=>exact absurd z ag.out
    |succ k=>exact⟨k,rfl⟩
   have HA:=aB (cM C wr q ⟨#[91]⟩ aa);have ed:(⟨#[91]⟩:ByteArray).data.toList=[91]:=rfl;rw[ed] at HA;have Y:=aB L;have P:=aB O;have ac:=aB G;have bb:=L.size;clear L aa O G ed HI;cases b:aQ C.ts q [91]
   ·have s:Hid (r=.ok (a,q)):=by show _=_;rw[z,cS,b];rfl
    rw[b] at HA;clear b z;go_wp2_with fail;refine HA.out.mono ?_;rintro e w4 ⟨rfl,u,c⟩;have f:=aB c;have x:=aB u;clear c u;go_wp2_with fail;go_ret;exact Out.ok s.out (Y.out.trans f.out) x.out (P.out.grow (λk h1 B=>f.out.block k B o_) (F6 _) f.out.size)
   ·obtain⟨rE,M⟩:=E_ (E (q+1));have j:Hid (r=match aM C.ts [93] rE with|.error l=>.error l|.ok (i,q')=>cS E C.ts k (aK [105,110,100,101,120] (aN C.ts q).l_ [] [a,i]) q'):=by show _=_;rw[z,cS,b,M];rfl
    rw[b] at HA;have aj:=aB M;clear b z M;have ab:E (q+1)≠.error 0:=λe=>ag.out (by rw[j.out,aj.out,e];rfl)
    go_wp2_with fail;refine HA.out.mono ?_;rintro e w4 ⟨rfl,u,c⟩;have HX:=aB (ax.out w4.drew (q+1) u.drew ab);rw[<-aj.out] at HX;have ao:=aB (P.out.grow (λk h1 B=>c.block k B o_) (F6 _) c.size)
    have x:=aB (c.keepB ac.out o_)
    have f:=aB (Y.out.trans c);have c0:=aA x.out (i:=0) rfl;have ay:=aD x.out;have bf:=c.size;clear c u P ac Y HA ab;cases rE with
    |error l=>
     have s:Hid (r=.error l):=j.out;go_wp2_with fail;go_region_law (refine thrown .nilIface ?_ ?_;(focus go_simp;go_at_call 108;refine HX.out.mono ?_;rintro e w5 ⟨y,rfl⟩;exact I8 rfl (Out.err s.out (f.out.drew.trans y)));intro D)
     all_goals exact D.out.elim
    |ok iq=>
     obtain⟨i,F⟩:=iq;have T:=aB (λw5 (h:PAt C w5 F)=>eR C w5 F ⟨#[93]⟩ h)
     have ed:(⟨#[93]⟩:ByteArray).data.toList=[93]:=rfl;rw[ed] at T;clear ed;go_wp2_with fail;go_cut [4] (λv wc=>Fr C.pb w wc/\PAt C wc F/\PN (Btw w.heap.size wc.heap.size) wc v (aK [105,110,100,101,120] (aN C.ts q).l_ [] [a,i])/\YB wc w2.heap.size pl)
     case first=>
      go_region_law (go_simp;go_at_call 108;refine HX.out.mono ?_;rintro e w5 ⟨y,ai,v5,rfl,S⟩;obtain⟨T5,bg,rfl⟩:=S.form;have am:=aB S;have V:=aB y;have al:=aB ai;have W:=aB (((Fr.refl C.pb w4).drew.trans y).keepB x.out o_);have d0:=aA W.out (i:=0) rfl;have be:=aD W.out;clear y ai S)
      all_goals
       go_wp2_with fail;go_meet
       case rel=>
        have ap:=V.out.size
        exact⟨f.out.drew.trans V.out,al.out,PN.mk (F5 (F5 (F5 (F5 (F5 (F5 (F7 ⟨rfl,pl,_,_,a,i,rfl,rfl,rfl,rfl⟩))))))) (λp hp=>by
         simp only[G9,I0,or_false] at hp;rcases hp with rfl|rfl
         ·exact Prt.ok.node (ao.out.grow (λk h1 B=>V.out.block k B o_) (F6 _) ap)
         ·exact Prt.ok.node (am.out.grow (λ_ _ _=>rfl) (by have:=f.out.size;exact this) (F6 _))),W.out⟩
     case rest=>
      obtain⟨X,ae,U,H⟩:=hcut;obtain⟨T6,ak,rfl⟩:=U.form;have g:=aB (T.out _ ae);have ah:=aB X;have au:=aB U;have ar:=aB H;have bc:=X.size;clear X ae U H T HX c0 ay;cases b:aQ C.ts F [93]
      ·have s:Hid (r=.error (aN C.ts F).l_):=by show _=_;rw[j.out,vD b]
       rw[b] at g;clear b j;go_wp2_with fail;refine g.out.mono ?_;rintro e w7 ⟨d,N⟩;obtain rfl:e=cH 4 (aN C.ts F).l_:=N;have av:=aB (ah.out.trans d);clear d;go_wp2_with fail;exact⟨rfl,Out.err s.out av.out⟩
      ·have s:Hid (r=cS E C.ts k (aK [105,110,100,101,120] (aN C.ts q).l_ [] [a,i]) (F+1)):=by show _=_;rw[j.out,lW b]
       rw[b] at g;clear b j;go_wp2_with fail;refine g.out.mono ?_;rintro e w7 ⟨d,N⟩;obtain⟨rfl,ad⟩:=N
       have an:Hid (GO C E w r w2.heap.size pl k (.iface T6 (.agg ak)) w7):=
        ⟨ah.out.trans d,F+1,_,ad,s.out,au.out.grow (λk h1 B=>d.block k B o_) (F6 _) d.size,d.keepB ar.out o_⟩
       clear d ad;go_wp2_with fail;go_roundg k
       case measure=>omega
       case rel=>exact an.out
def QD(t:List UInt8):∀l:List (List UInt8),l.find? (λx=>t==x)=if t∈l then some t else none
 |[]=>by simp
 |y::l=>by
  rw[List.find?_cons];by_cases h:t=y
  ·subst h;simp
  ·rw[show (t==y)=false by simpa using h]
   simp only[QD t l,G9,h,false_or]
def WO(t:List UInt8)(h:fD.contains t=true):bF t=9:=by
 unfold fD at h;simp only[List.contains_eq_mem,G9,I0,or_false,decide_eq_true_eq] at h;rcases h with rfl|rfl|rfl|rfl|rfl|rfl|rfl|rfl|rfl<;>decide
def vO(h:mT (aN ts q))(k:Nat)(f:k≠9)(l:List (List UInt8))(c:∀x,x∈l↔bF x=k):
 lO ts q l=if (aN ts q).sort==112 && bF (aN ts q).x_==k then (aN ts q).x_ else []:=by
 unfold lO;by_cases b:(aN ts q).sort=112
 ·rw[show (λx=>aQ ts q x)=(λx=>(aN ts q).x_==x) by funext x;unfold aQ;simp[b],QD]
  by_cases a:bF (aN ts q).x_=k
  ·rw[if_pos ((c _).2 a)];simp[b,a]
  ·rw[if_neg (λe=>a ((c _).1 e))];simp[a]
 ·rw[M9.2]
  ·simp[b]
  ·intro x g e;unfold aQ at e;simp only[I7,N8,beq_iff_eq] at e;rcases h with h|⟨h,d⟩|h|⟨h,_⟩|h|h
   ·exact b h
   ·have:=WO _ d;rw[e.2,(c x).1 g] at this;exact f this
   all_goals (rw[h] at e;rcases e.1 with e|e<;>omega)
def E5(x:List UInt8):x∈([[124,124]]:List (List UInt8))↔bF x=0:=by
 unfold bF;simp only[G9,I0,or_false,beq_iff_eq,N8];repeat' split
 all_goals simp_all
def E4(x:List UInt8):x∈([[38,38]]:List (List UInt8))↔bF x=1:=by
 unfold bF;simp only[G9,I0,or_false,beq_iff_eq,N8];repeat' split
 all_goals simp_all
def E3(x:List UInt8):x∈([[61,61],[33,61],[60],[60,61]]:List (List UInt8))↔bF x=2:=by
 unfold bF;simp only[G9,I0,or_false,beq_iff_eq,N8];repeat' split
 all_goals simp_all
def E1(x:List UInt8):x∈([[43],[45]]:List (List UInt8))↔bF x=3:=by
 constructor
 ·simp only[G9,I0,or_false];rintro(rfl|rfl)<;>decide
 ·unfold bF;simp only[G9,I0,or_false,beq_iff_eq,N8];repeat' split
  all_goals simp_all
def E0(x:List UInt8):x∈([[42],[47],[37]]:List (List UInt8))↔bF x=4:=by
 constructor
 ·simp only[G9,I0,or_false];rintro(rfl|rfl|rfl)<;>decide
 ·unfold bF;simp only[G9,I0,or_false,beq_iff_eq,N8];repeat' split
  all_goals simp_all
def JF(ts:List aR)(p:Nat):lO ts p [[45],[33]]=if aQ ts p [45] then [45] else if aQ ts p [33] then [33] else []:=by
 unfold lO;simp only[List.find?_cons,List.find?_nil];cases aQ ts p [45]<;>cases aQ ts p [33]<;>rfl
def DF(C:Ctx)(w:World)(p:Nat)(h:PAt C w p)(l:List (List UInt8))(r:l.length<=100)(a:∀x∈l,x≠[])(d:List UInt8)(g:lO C.ts p l=d)(j:Nat)(f:j=w.heap.size)(n:Nat)(u:n=l.length)(k:Array Value)(c:k=(l.map λx=>Value.string (bs x)).toArray):
 Calls prog 205 #[.pointer (some ⟨C.pb,0,none⟩),.slice (some ⟨j,0,none⟩) n n] (w.alloc (.cells k 9)) λe b=>e=.returned (.string (bs d))/\PAt C b (if d=[] then p else p+1)/\Fr C.pb w b:=by
 subst g f u;have m:=h.pb_lt;refine(CY C _ p l w.heap.size l.length s_ o_ r a ?_ (h.alloc _)).mono λe b ⟨q,o,s⟩=>⟨q,o,((Fr.refl _ _).alloc _).trans s⟩
 intro i t;refine aA (aU _ _ rfl _) ?_;rw[c];simp[t]
def LG(C:Ctx)(E:Nat->bH aC)(HE:PReads C 108 E)(g:Nat)(ae:PReads C 253 (eA E C.ts g)):PReads C 253 (eA E C.ts (g+1)):=by
 intro w p h G;have ih:=aB ae;have aa:=aB (kG C w p h);have an:=h.pb_lt;have ap:=h.g_lt;have ak:=aB (VV C E HE);obtain⟨r,hr⟩:=E_ (eA E C.ts (g+1) p);rw[<-hr] at G ⊢
 rw[eA] at hr;have U:=aB hr;have P:=aB G;have H:=aB h;clear h HE G hr ae;generalize O:(aN C.ts p).l_=I at*;have n:=aB (JF C.ts p);generalize Y:lO C.ts p [[45],[33]]=oo at*;have B:=aB Y;clear Y;go_enter func253,ntmps253;go_wp2_with fail;refine aa.out.mono ?_;rintro e w1 ⟨rfl,F⟩;have X:=aB ((Fr.below (pb:=C.pb) F).alloc (.cells #[.int .i64 I] 153));have ag:=aB ((H.out.below F).alloc (.cells #[.int .i64 I] 153));have ad:=aB (YB.new w1 I);have ao:=F.size;clear F aa;have HM:=aB (DF C _ p ag.out [[45],[33]] d_ (by intro x hx;simp at hx;rcases hx with rfl|rfl<;>simp) oo B.out (w1.heap.size+1) s_ 2 rfl #[.string ⟨#[45]⟩,.string ⟨#[33]⟩] rfl)
 generalize ac:(if oo=[] then p else p+1)=qo at*
 have s:=aB ac;clear ac;go_wp2_with fail;refine HM.out.mono ?_;rintro e w2 ⟨rfl,ab,N⟩;have L:=aB ab;have m:=aB (X.out.trans N);have o:=aB (N.keepB ad.out o_)
 have J:=m.out.size;clear ab N X ag ad;by_cases f:aQ C.ts p [45]=true
 ·obtain rfl:oo=[45]:=by rw[n.out,if_pos f]
  obtain rfl:qo=p+1:=s.out.symm;obtain⟨D,d⟩:=E_ (eA E C.ts g (p+1));have c:Hid (r=bL (λx=>aK [45,120] I [] [x]) D):=by show _=_;rw[U.out,if_pos f,d]
  have y:eA E C.ts g (p+1)≠.error 0:=λe=>P.out (by rw[c.out,d,e];rfl)
  have z:=aB (ih.out w2.drew (p+1) L.out.drew y);rw[<-d] at z;clear y d U n B s HM f O;have c0:=aA o.out (i:=0) rfl;have al:=aD o.out;simp only[bs];cases D with
  |error l=>
   have Q:Hid (r=.error l):=c.out;go_wp2_with fail;go_region_law (refine thrown .nilIface ?_ ?_;(focus go_simp;go_at_call 253;refine z.out.mono ?_;rintro e w5 ⟨b,rfl⟩;exact I8 rfl (Out.err Q.out (m.out.drew.trans b)));intro j)
   all_goals exact j.out.elim
  |ok V=>
   obtain⟨a,q⟩:=V;have Q:Hid (r=.ok (aK [45,120] I [] [a],q)):=c.out;go_wp2_with fail;go_region_law (go_simp;go_at_call 253;refine z.out.mono ?_;rintro e w5 ⟨b,v,v5,rfl,k⟩;obtain⟨T5,am,rfl⟩:=k.form;have M:=aB k;have S:=aB b;have K:=aB v;have u:=aB (((Fr.refl C.pb w2).drew.trans b).keepB o.out o_);have d0:=aA u.out (i:=0) rfl;have ai:=aD u.out;clear b v k)
   all_goals (go_wp2_with fail;go_ret)
   all_goals exact Out.ok Q.out (m.out.drew.trans S.out) K.out (PN.mk (F5 (F5 (F5 (F5 (F5 (F5 (F5 (F7 ⟨rfl,45,_,a,rfl,F7 rfl,rfl,rfl,rfl⟩)))))))) (λp hp=>by obtain rfl:=G5.1 hp;exact Prt.ok.node (M.out.grow (λ_ _ _=>rfl) J (F6 _))))
 by_cases t:aQ C.ts p [33]=true
 ·obtain rfl:oo=[33]:=by rw[n.out,if_neg f,if_pos t]
  obtain rfl:qo=p+1:=s.out.symm;obtain⟨D,d⟩:=E_ (eA E C.ts g (p+1));have c:Hid (r=bL (λx=>aK [33,120] I [] [x]) D):=by show _=_;rw[U.out,if_neg f,if_pos t,d]
  have y:eA E C.ts g (p+1)≠.error 0:=λe=>P.out (by rw[c.out,d,e];rfl)
  have z:=aB (ih.out w2.drew (p+1) L.out.drew y);rw[<-d] at z;clear y d U n B s HM f t O;have c0:=aA o.out (i:=0) rfl;have al:=aD o.out;simp only[bs];cases D with
  |error l=>
   have Q:Hid (r=.error l):=c.out;go_wp2_with fail;go_region_law (refine thrown .nilIface ?_ ?_;(focus go_simp;go_at_call 253;refine z.out.mono ?_;rintro e w5 ⟨b,rfl⟩;exact I8 rfl (Out.err Q.out (m.out.drew.trans b)));intro j)
   all_goals exact j.out.elim
  |ok V=>
   obtain⟨a,q⟩:=V;have Q:Hid (r=.ok (aK [33,120] I [] [a],q)):=c.out;go_wp2_with fail;go_region_law (go_simp;go_at_call 253;refine z.out.mono ?_;rintro e w5 ⟨b,v,v5,rfl,k⟩;obtain⟨T5,am,rfl⟩:=k.form;have M:=aB k;have S:=aB b;have K:=aB v;have u:=aB (((Fr.refl C.pb w2).drew.trans b).keepB o.out o_);have d0:=aA u.out (i:=0) rfl;have ai:=aD u.out;clear b v k)
   all_goals (go_wp2_with fail;go_ret)
   all_goals exact Out.ok Q.out (m.out.drew.trans S.out) K.out (PN.mk (F5 (F5 (F5 (F5 (F5 (F5 (F5 (F7 ⟨rfl,33,_,a,rfl,F5 rfl,rfl,rfl,rfl⟩)))))))) (λp hp=>by obtain rfl:=G5.1 hp;exact Prt.ok.node (M.out.grow (λ_ _ _=>rfl) J (F6 _))))
 obtain rfl:oo=[]:=by rw[n.out,if_neg f,if_neg t]
 obtain rfl:p=qo:=s.out;have c:Hid (r=bE (dS E C.ts p) (cS E C.ts (C.ts.length+1))):=by show _=_;rw[U.out,if_neg f,if_neg t]
 have z:=aB (ak.out w2 p L.out (by show bE _ _≠_;rw[<-c.out];exact P.out))
 simp only[<-c.out] at z;clear U n B s HM f t O;simp only[bs];go_wp2_with fail;refine z.out.mono ?_;rintro e w3 ⟨A,af⟩;cases r with
 |error l=>
  obtain rfl:e=cH 4 l:=af;have T:=aB (m.out.trans A);clear A;go_wp2_with fail;exact⟨rfl,Out.err rfl T.out⟩
 |ok V=>
  obtain⟨a,q⟩:=V;obtain⟨W,v3,rfl,Z⟩:=af;have T:=aB (m.out.trans A);have ah:=aB W;have aj:=aB Z;clear A W Z;go_wp2_with fail;go_ret;exact Out.ok rfl T.out ah.out (aj.out.grow (λ_ _ _=>rfl) J (F6 _))
def QN(C:Ctx)(E:Nat->bH aC)(c:PReads C 108 E)(g:Nat):PReads C 253 (eA E C.ts g):=by
 induction g with
 |zero=>exact λw p _ a=>absurd rfl a
 |succ g b=>exact LG C E c g b
end Go.Proofs.YthbffcmfmjpncaaGreatDoor
