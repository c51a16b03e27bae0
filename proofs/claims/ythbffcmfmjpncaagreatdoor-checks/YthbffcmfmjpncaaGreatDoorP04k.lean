/- Contracts of the program: the parser's small steps. -/
import Derived.Test.YthbffcmfmjpncaaGreatDoorP01k
set_option linter.defProp false
set_option maxRecDepth 100000
set_option maxHeartbeats 4000000
namespace Go.Proofs.YthbffcmfmjpncaaGreatDoor
open Hs
open _root_.Go.Proofs.Tryz
open Go.RowKit
variable{C:Ctx}{acc ks l:List aC}{ts:List aM}{b_ lo p q:Nat}{F G:Nat->Prop}{b:Type}{kv v:Value}{R:Value->aC->Prop}{w w' w1:World}{a:aC}{t:aM}
def psort(s:Nat):Nat:=if s=110 then 1 else if s=48 then 2 else if s=115 then 3 else if s=101 then 4 else 0
def pval(t:aM):Nat:=if t.sort=48 then (bY 0 t.x_).getD 0 else 0
def ptok(t:aM):List Value:=[.int .i64 (psort t.sort),.string (bs t.x_),.int .i64 (pval t),.int .i64 t.l_]
def ptoks:List aM->List Value
 |[]=>[]
 |t::ts=>ptok t++ptoks ts
def tW(ts:List aM):(ptoks ts).length=ts.length*4:=by
 induction ts with
 |nil=>rfl
 |cons t ts a=>simp[ptoks,ptok,a];omega
def qB(ts:List aM)(t:aM):ptoks (ts++[t])=ptoks ts++ptok t:=by
 induction ts with
 |nil=>simp[ptoks]
 |cons x ts a=>simp[ptoks,a]
structure PAt(C:Ctx)(w:World)(p:Nat):Prop where
 blk:w.heap[C.pb]?=some (.cells #[.slice (some ⟨C.g,0,none⟩) C.ts.length C.cap,.int .i64 p] 101 (0,0))
 row:∃cur,w.heap[C.g]?=some (.cells cur 150 (0,0))/\cur.toList.take (C.ts.length*4)=ptoks C.ts
 ne:C.g≠C.pb
 lt:p<C.ts.length
 len:C.ts.length<=3000
 cap:C.ts.length<=C.cap
 all:iP C.ts
 tsk:qX C.ts
def AQ(ts:List aM)(p:Nat)(h:p<ts.length):(ptoks ts)[p*4]?=some (.int .i64 (psort (aE ts p).sort))/\(ptoks ts)[p*4+1]?=some (.string (bs (aE ts p).x_))/\(ptoks ts)[p*4+1+1]?=some (.int .i64 (pval (aE ts p)))/\(ptoks ts)[p*4+1+1+1]?=some (.int .i64 (aE ts p).l_):=by
 induction ts generalizing p with
 |nil=>simp at h
 |cons t ts a=>
  cases p with
  |zero=>simp[ptoks,ptok,aE]
  |succ p=>
   have:=a p (by simpa using h)
   have e:∀j,(ptoks (t::ts))[(p+1)*4+j]?=(ptoks ts)[p*4+j]?:=λj=>by
    rw[ptoks,LP (by simp[ptok];omega)]
    congr 1;simp[ptok];omega
   have b:aE (t::ts) (p+1)=aE ts p:=by simp[aE]
   rw[b];exact⟨(e 0).trans this.1,(e 1).trans this.2.1,(e 2).trans this.2.2.1,(e 3).trans this.2.2.2⟩
def PAt.tok(h:PAt C w p):w.cell? ⟨C.g,p*4,none⟩=some (.int .i64 (psort (aE C.ts p).sort))/\w.cell? ⟨C.g,p*4+1,none⟩=some (.string (bs (aE C.ts p).x_))/\w.cell? ⟨C.g,p*4+1+1,none⟩=some (.int .i64 (pval (aE C.ts p)))/\w.cell? ⟨C.g,p*4+1+1+1,none⟩=some (.int .i64 (aE C.ts p).l_):=by
 obtain⟨c,k,i⟩:=h.row;obtain⟨m,g,d,f⟩:=AQ C.ts p h.lt;have n:=tW C.ts
 have e:∀j v,(ptoks C.ts)[j]?=some v->w.cell? ⟨C.g,j,none⟩=some v:=λj v a=>by
  have b:j<C.ts.length*4:=by
   by_cases l:j<C.ts.length*4
   ·exact l
   ·rw[KI o_] at a;cases a
  refine aB k ?_;rw[<-i,KY,if_pos b] at a;simpa using a
 exact⟨e _ _ m,e _ _ g,e _ _ d,e _ _ f⟩
def PAt.keep(h:PAt C w p)(e:w'.heap[C.pb]?=w.heap[C.pb]?)(c:w'.heap[C.g]?=w.heap[C.g]?):PAt C w' p:=by
 obtain⟨a,d,b⟩:=h.row;exact⟨by rw[e];exact h.blk,⟨a,by rw[c];exact d,b⟩,h.ne,h.lt,h.len,h.cap,h.all,h.tsk⟩
def PAt.below(h:PAt C w p)(a:Below w.heap.size w w'):PAt C w' p:=by
 obtain⟨b,c,d⟩:=h.row;exact h.keep (a.block _ (aD h.blk)) (a.block _ (aD c))
def PAt.other{b i:Nat}{u:Value}(h:PAt C w p)(c:b≠C.pb)(a:b≠C.g):PAt C (w.setCell ⟨b,i,none⟩ u) p:=
 h.keep (JW _ _ _ _ (λe=>c e.symm)) (JW _ _ _ _ (λe=>a e.symm))
def PAt.g_lt(h:PAt C w p):C.g<w.heap.size:=by obtain⟨_,a,_⟩:=h.row;exact aD a
def PAt.pb_lt(h:PAt C w p):C.pb<w.heap.size:=aD h.blk
def PAt.alloc(h:PAt C w p)(o:Obj):PAt C (w.alloc o) p:=h.below ((JU _ _).alloc (JS _) _)
def PAt.drew(h:PAt C w p):PAt C w.drew p:=h.below (JU _ _).drew
def iI(t:aM):Value:=.agg #[.int .i64 (psort t.sort),.string (bs t.x_),.int .i64 (pval t),.int .i64 t.l_]
def xV(pb g i p n:Nat)(w:World)(a c d:Int)(b:ByteArray)(y:p<n)(_hn:n<=3000)(_hnc:n<=i)(j:pb<w.heap.size)(f:g<w.heap.size)
 (r:w.cell? ⟨pb,0,none⟩=some (.slice (some ⟨g,0,none⟩) n i)) (c1:w.cell? ⟨pb,1,none⟩=some (.int .i64 p))
 (m:w.cell? ⟨g,p*4,none⟩=some (.int .i64 a)) (q:w.cell? ⟨g,p*4+1,none⟩=some (.string b)) (k:w.cell? ⟨g,p*4+1+1,none⟩=some (.int .i64 c)) (l:w.cell? ⟨g,p*4+1+1+1,none⟩=some (.int .i64 d)):
  Calls prog 80 #[.pointer (some ⟨pb,0,none⟩)] w λe s=>e=.returned (.agg #[.int .i64 a,.string b,.int .i64 c,.int .i64 d])/\Below w.heap.size w s:=by
 have z:∀o,(w.alloc o).cell? ⟨pb,0,none⟩=some (.slice (some ⟨g,0,none⟩) n i):=λo=>by rw[World.cell?_alloc_past _ _ _ j];exact r
 have u:∀o,(w.alloc o).cell? ⟨pb,1,none⟩=some (.int .i64 p):=λo=>by rw[World.cell?_alloc_past _ _ _ j];exact c1
 have t:∀o,(w.alloc o).cell? ⟨g,p*4,none⟩=some (.int .i64 a):=λo=>by rw[World.cell?_alloc_past _ _ _ f];exact m
 have A:∀o,(w.alloc o).cell? ⟨g,p*4+1,none⟩=some (.string b):=λo=>by rw[World.cell?_alloc_past _ _ _ f];exact q
 have x:∀o,(w.alloc o).cell? ⟨g,p*4+1+1,none⟩=some (.int .i64 c):=λo=>by rw[World.cell?_alloc_past _ _ _ f];exact k
 have B:∀o,(w.alloc o).cell? ⟨g,p*4+1+1+1,none⟩=some (.int .i64 d):=λo=>by rw[World.cell?_alloc_past _ _ _ f];exact l
 clear r c1 m q k l;go_enter func80,ntmps80;go_wp2_with fail;go_region
 go_wp2_with fail;refine bodyPost_ret (v:=.agg #[.int .i64 a,.string b,.int .i64 c,.int .i64 d]) (by simp[results,results80,go_sem]) rfl ⟨rfl,?_⟩
 exact((JU _ _).alloc (JS _) _).drew
def gP(C:Ctx)(w:World)(p:Nat)(h:PAt C w p):
 Calls prog 80 #[.pointer (some ⟨C.pb,0,none⟩)] w λe a=>e=.returned (iI (aE C.ts p))/\Below w.heap.size w a:=
 xV C.pb C.g C.cap p C.ts.length w _ _ _ _ h.lt h.len h.cap (aD h.blk) (by obtain⟨_,b,_⟩:=h.row;exact aD b) (aB h.blk rfl) (aB h.blk rfl) h.tok.1 h.tok.2.1 h.tok.2.2.1 h.tok.2.2.2
abbrev cA(k n:Nat):Ending:=.panicked [{ v:=.iface 98 (.agg #[.int .i64 k,.int .i64 n]),recovered:=false }]
def eG(k n:Nat)(w:World):
 Calls prog 83 #[.int .i64 k,.int .i64 n] w λe a=>e=cA k n/\a=w:=by
 go_enter func83,ntmps83;go_wp2_with fail;exact⟨rfl,rfl,rfl⟩
def sJ(a c d:Int)(b:ByteArray)(w:World):(Instr.field 150 (.agg #[.int .i64 a,.string b,.int .i64 c,.int .i64 d]) 3).run prog w=.ok (.int .i64 d) w:=k_
def gR(C:Ctx)(w:World)(p:Nat)(h:PAt C w p):
 Calls prog 204 #[.pointer (some ⟨C.pb,0,none⟩)] w λe f=>e=.returned (.agg #[.int .i64 (aE C.ts p).l_])/\Below w.heap.size w f:=by
 have b:=aA (λo=>gP C (w.alloc o) p (h.below ((JU _ _).alloc (JS _) _)))
 simp only[iI] at b;clear h;go_enter func204,ntmps204;go_wp2_with fail;refine(b.out _).mono ?_;rintro e c ⟨rfl,a⟩;obtain⟨i,j⟩:=bcell a;have k:w.heap.size<c.heap.size:=by have:=a.size;simp at this;omega
 have d:=aA a;have g:=sJ;clear a b;go_wp2_with fail;refine bodyPost_ret (v:=.agg #[.int .i64 (aE C.ts p).l_]) (by simp[results,results204,go_sem,i]) rfl ⟨rfl,?_⟩
 exact(((JU _ _).alloc (JS _) _).trans (d.out.mono s_)).setCell s_ _
def PAt.move(h:PAt C w p)(c:Below w.heap.size w w1)(q:Nat)(e:q<C.ts.length):
 PAt C (w1.setCell ⟨C.pb,1,none⟩ (.int .i64 q)) q/\Fr C.pb w (w1.setCell ⟨C.pb,1,none⟩ (.int .i64 q)):=by
 have b:=h.below c;obtain⟨a,f,d⟩:=b.row;refine⟨⟨?_,⟨a,?_,d⟩,h.ne,e,h.len,h.cap,h.all,h.tsk⟩,Fr.setCell (p:=⟨C.pb,1,none⟩) (Fr.below c) (JX rfl) _⟩
 ·rw[aO b.blk];rfl
 ·rw[JW _ _ _ _ h.ne];exact f
def PAt.cells(h:PAt C w p)(b:Below w.heap.size w w1):
 C.pb<w1.heap.size/\w1.cell? ⟨C.pb,1,none⟩=some (.int .i64 p)/\w1.frozen? ⟨C.pb,1,none⟩=false:=by
 have a:=h.below b;exact⟨aD a.blk,aB a.blk rfl,aI a.blk⟩
def JI(h:PAt C w p)(x:List UInt8):aF C.ts p x=(decide (psort (aE C.ts p).sort=0) && (aE C.ts p).x_==x):=by
 unfold aF psort;have:=h.tsk.tk p h.lt;generalize aE C.ts p=t at*;rcases this with h|⟨h,_⟩|h|⟨h,_⟩|h|h<;>simp[h]
def cC(C:Ctx)(w:World)(p:Nat)(x:ByteArray)(h:PAt C w p):
 Calls prog 180 #[.pointer (some ⟨C.pb,0,none⟩),.string x] w λe m=>e=.returned (.bool (aF C.ts p x.data.toList))/\PAt C m (if aF C.ts p x.data.toList then p+1 else p)/\Fr C.pb w m:=by
 have i:=aA (JI h x.data.toList);have g:=aA (gP C w p h);simp only[iI] at g;have v:Hid (aF C.ts p x.data.toList=true->p+1<C.ts.length):=λe=>h.all.ok.isT h.lt e
 have l:Hid (((bs (aE C.ts p).x_).toList==x.toList)=((aE C.ts p).x_==x.data.toList)):=by show _=_;rw[bM,Lib.toList_data]
 have r:p<=3000:=by have:=h.lt;have:=h.len;omega
 have H:=aA h;clear h;generalize aF C.ts p x.data.toList=k at*;generalize aE C.ts p=t at*;obtain⟨c,f,s⟩:=t;simp only at i g l;generalize pval ⟨c,f,s⟩=z at*;go_enter func180,ntmps180;go_wp2_with fail;refine g.out.mono ?_;rintro e y ⟨rfl,j⟩;obtain⟨D,B,A⟩:=H.out.cells j;have b:=aA j;clear j g;by_cases n:psort c=0
 ·have q:((psort c:Int) != 0)=false:=t_
  cases d:(f==x.data.toList)
  ·have u:((bs f).toList==x.toList)=false:=by rw[l.out,d]
   have a:k=false:=by have:=i.out;rw[d] at this;simpa using this
   subst a;go_wp2_with fail;go_ret;exact⟨cK rfl,H.out.below (b.out.alloc b.out.size _),Fr.below (b.out.alloc b.out.size _)⟩
  ·have u:((bs f).toList==x.toList)=true:=by rw[l.out,d]
   have a:k=true:=by have:=i.out;rw[d,n] at this;simpa using this
   subst a;go_wp2_with fail;go_ret;have o:=H.out.move b.out (p+1) (v.out trivial);exact⟨cK rfl,o.1.below ((JU _ _).alloc (JS _) _),o.2.alloc _⟩
 ·have q:((psort c:Int) != 0)=true:=t_
  have a:k=false:=by have:=i.out;simp[n] at this;exact this
  subst a;go_wp2_with fail;go_ret;exact⟨cK rfl,H.out.below (b.out.alloc b.out.size _),Fr.below (b.out.alloc b.out.size _)⟩
def dV(C:Ctx)(w:World)(p:Nat)(x:ByteArray)(h:PAt C w p):
 Calls prog 122 #[.pointer (some ⟨C.pb,0,none⟩),.string x] w λe k=>Fr C.pb w k/\if aF C.ts p x.data.toList then e=.returned (.tuple #[])/\PAt C k (p+1) else e=cA 4 (aE C.ts p).l_:=by
 have g:=aA (cC C w p x h);have H:=aA h;clear h;cases d:aF C.ts p x.data.toList
 ·rw[d] at g;go_enter func122,ntmps122;go_wp2_with fail;refine g.out.mono ?_;rintro e j ⟨rfl,a,b⟩;have l:=aA (gP C j p a);simp only[iI] at l;have c:=aA b;have o:=sJ;clear b a;go_wp2_with fail;refine l.out.mono ?_;rintro e r ⟨rfl,f⟩;have m:=aA f;clear f;go_wp2_with (go_at_call 83;refine(eG 4 (aE C.ts p).l_ _).mono ?_;rintro e q ⟨rfl,n⟩;obtain rfl:=n.symm)
  exact⟨rfl,c.out.trans (Fr.below m.out),rfl⟩
 ·rw[d] at g;go_enter func122,ntmps122;go_wp2_with fail;refine g.out.mono ?_;rintro e j ⟨rfl,a,b⟩;have c:=aA b;have i:=aA a;clear b a;go_wp2_with fail;go_end0;exact⟨c.out,rfl,i.out⟩
def AR(t:aM):psort t.sort=1↔t.sort=110:=by
 unfold psort;split<;>(try split)<;>(try split)<;>(try split)<;>simp_all
def gQ(C:Ctx)(w:World)(p:Nat)(h:PAt C w p):
 Calls prog 123 #[.pointer (some ⟨C.pb,0,none⟩)] w λe s=>Fr C.pb w s/\if (aE C.ts p).sort==110 then e=.returned (.agg #[.int .i64 (aE C.ts p).l_,.string (bs (aE C.ts p).x_)])/\PAt C s (p+1) else e=cA 4 (aE C.ts p).l_:=by
 have d:=aA (λo=>gP C (w.alloc o) p (h.below ((JU _ _).alloc (JS _) _)))
 simp only[iI] at d;have l:Hid ((aE C.ts p).sort=110->p+1<C.ts.length):=λe=>h.all.ok.next p h.lt (by rw[e];decide)
 have i:=aA (AR (aE C.ts p));have F:p<=3000:=by have:=h.lt;have:=h.len;omega
 have H:=aA h;have B:C.pb<w.heap.size:=aD h.blk;have g:w.heap.size≠C.g:=by have:=h.g_lt;omega
 clear h;generalize aE C.ts p=t at*;obtain⟨f,y,q⟩:=t;simp only at d l i;simp only;generalize pval ⟨f,y,q⟩=M at*;generalize psort f=u at*;by_cases c:f=110
 ·obtain rfl:u=1:=i.out.2 c;have r:=l.out c;rw[show (f==110)=true by simpa using c]
  clear c i l;go_enter func123,ntmps123;go_wp2_with fail;refine(d.out _).mono ?_;rintro e m ⟨rfl,b⟩;have a:=((JU _ _).alloc (JS _) _).trans (b.mono s_)
  obtain⟨J,E,D⟩:=H.out.cells a;obtain⟨A,I⟩:=bcell b;have x:w.heap.size<m.heap.size:=by have:=b.size;simp at this;omega
  have k:=aA a;clear b a d;have n:¬C.pb=w.heap.size:=o_
  have j:¬w.heap.size=C.pb:=o_
  go_wp2_with fail;have z:=H.out.move k.out (p+1) r;refine bodyPost_ret (v:=.agg #[.int .i64 q,.string (bs y)]) (by simp[results,results123,go_sem,World.cell?_alloc_past,x,A]) rfl ?_
  refine⟨((z.2.setCell (p:=⟨w.heap.size,0,none⟩) (JR (JS _)) _).setCell (p:=⟨w.heap.size,1,none⟩) (JR (JS _)) _).alloc _,rfl,?_⟩;exact((z.1.other o_ g).other o_ g).below ((JU _ _).alloc (JS _) _)
 ·have K:((u:Int) != 1)=true:=by simp;intro e;exact c (i.out.1 o_)
  rw[show (f==110)=false by simpa using c]
  clear c i l;go_enter func123,ntmps123;go_wp2_with fail;refine(d.out _).mono ?_;rintro e m ⟨rfl,b⟩;have a:=((JU _ _).alloc (JS _) _).trans (b.mono s_)
  obtain⟨J,E,D⟩:=H.out.cells a;obtain⟨A,I⟩:=bcell b;have x:w.heap.size<m.heap.size:=by have:=b.size;simp at this;omega
  have k:=aA a;clear b a d;have n:¬C.pb=w.heap.size:=o_
  have j:¬w.heap.size=C.pb:=o_
  go_wp2_with (go_at_call 83;refine(eG 4 q _).mono ?_;rintro e L ⟨rfl,G⟩;obtain rfl:=G.symm)
  exact⟨rfl,Fr.below (k.out.alloc k.out.size _),rfl⟩
def mG(R:Value->aC->Prop)(F:Nat->Prop)(w:World)(kv:Value)(ks:List aC):Prop:=
 (kv=.slice none 0 0/\ks=[])\/
 ∃g cap cur vs,kv=.slice (some ⟨g,0,none⟩) ks.length cap/\F g/\w.heap[g]?=some (.cells cur 92 (0,0))/\ks.length<=cap/\cur.toList.take ks.length=vs/\eE R vs ks
structure Prt where
 v:Value
 ks:List aC
 one:Bool
def kS(R:Value->aC->Prop)(F:Nat->Prop)(w:World)(p:Prt):Prop:=
 (p.one=true/\∃a,p.ks=[a]/\R p.v a)\/(p.one=false/\mG R F w p.v p.ks)
def Shape(T:TypeId)(cs:Array Value)(a:aC)(ps:List Prt):Prop:=
 (T=307/\∃k,cs= #[.int .i64 a.l_,.int .i64 (k:Nat)]/\a.op=[48]/\bY 0 a.x_=some k/\a.y_=[]/\ps=[])\/
 (T=308/\cs= #[.int .i64 a.l_,.string (bs a.x_)]/\a.op=[115]/\a.y_=[]/\ps=[])\/
 (T=310/\cs= #[.int .i64 a.l_,.bool (a.x_==[116,114,117,101])]/\a.op=[98,111,111,108]/\a.y_=[]/\ps=[])\/
 (T=276/\∃sv,cs= #[.int .i64 a.l_,sv]/\a.op=[108,105,115,116]/\ps=[⟨sv,a.y_,false⟩])\/
 (T=271/\∃sv,cs= #[.int .i64 a.l_,.string (bs a.x_),sv]/\a.op=[99,97,108,108]/\ps=[⟨sv,a.y_,false⟩])\/
 (T=274/\cs= #[.int .i64 a.l_,.string (bs a.x_)]/\a.op=[110,97,109,101]/\a.y_=[]/\ps=[])\/
 (T=278/\∃l v1 v2 a1 a2,cs= #[.int .i64 (l:Nat),v1,v2]/\a.op=[105,110,100,101,120]/\a.y_=[a1,a2]/\ps=[⟨v1,[a1],true⟩,⟨v2,[a2],true⟩])\/
 (T=280/\∃o v1 a1,cs= #[.int .i64 a.l_,.string (bs [o]),v1]/\(o=45\/o=33)/\a.op=[o,120]/\a.y_=[a1]/\ps=[⟨v1,[a1],true⟩])\/
 (T=282/\∃l v1 v2 a1 a2,cs= #[.int .i64 (l:Nat),.string (bs a.op),v1,v2]/\aZ a.op≠9/\a.y_=[a1,a2]/\ps=[⟨v1,[a1],true⟩,⟨v2,[a2],true⟩])\/
 (T=259/\∃v1 t a1,cs= #[.int .i64 a.l_,.int .i64 t.l_,.string (bs t.x_),v1]/\a.op=[118,97,114]/\a.y_=[t,a1]/\ps=[⟨v1,[a1],true⟩])\/
 (T=262/\∃sv v1 l a1,cs= #[.int .i64 a.l_,.string (bs a.x_),sv,v1]/\a.op=[115,101,116]/\a.y_=l++[a1]/\ps=[⟨sv,l,false⟩,⟨v1,[a1],true⟩])\/
 (T=264/\∃v1 s1 a1 b1,cs= #[.int .i64 a.l_,v1,s1,.slice none 0 0]/\a.op=[105,102]/\b1.op=[98,108,111,99,107]/\a.y_=[a1,b1]/\ps=[⟨v1,[a1],true⟩,⟨s1,b1.y_,false⟩])\/
 (T=264/\∃v1 s1 s2 a1 b1 b2,cs= #[.int .i64 a.l_,v1,s1,s2]/\a.op=[105,102]/\b1.op=[98,108,111,99,107]/\b2.op=[98,108,111,99,107]/\a.y_=[a1,b1,b2]/\ps=[⟨v1,[a1],true⟩,⟨s1,b1.y_,false⟩,⟨s2,b2.y_,false⟩])\/
 (T=266/\∃v1 s1 a1 b1,cs= #[.int .i64 a.l_,v1,s1]/\a.op=[119,104,105,108,101]/\b1.op=[98,108,111,99,107]/\a.y_=[a1,b1]/\ps=[⟨v1,[a1],true⟩,⟨s1,b1.y_,false⟩])\/
 (T=268/\∃l,cs= #[.int .i64 a.l_,.iface 307 (.agg #[.int .i64 (l:Nat),.int .i64 0])]/\a.op=[114,101,116,117,114,110]/\a.y_=[]/\ps=[])\/
 (T=268/\∃v1 a1,cs= #[.int .i64 a.l_,v1]/\a.op=[114,101,116,117,114,110]/\a.y_=[a1]/\ps=[⟨v1,[a1],true⟩])\/
 (T=269/\∃v1 a1,cs= #[.int .i64 a.l_,v1]/\a.op=[112,114,105,110,116]/\a.y_=[a1]/\ps=[⟨v1,[a1],true⟩])\/
 (T=271/\∃sv c,cs= #[.int .i64 c.l_,.string (bs c.x_),sv]/\a.op=[100,111]/\a.l_=c.l_/\a.x_=c.x_/\a.y_=[c]/\c.op=[99,97,108,108]/\ps=[⟨sv,c.y_,false⟩])
def PND:Nat->(Nat->Prop)->World->Value->aC->Prop
 |0,_,_,_,_=>False
 |d+1,F,w,v,a=>∃T cs ps,v=.iface T (.agg cs)/\Shape T cs a ps/\∀p∈ps,kS (PND d F w) F w p
def PN(F:Nat->Prop)(w:World)(v:Value)(a:aC):Prop:=∃d,PND d F w v a
def mG.mono{S:Value->aC->Prop}(h:mG R F w kv ks)(o:∀v a,R v a->S v a)(l:∀b,F b->G b):mG S G w kv ks:=by
 rcases h with h|⟨g,c,d,f,j,e,m,i,k,n⟩
 ·exact JX h
 ·exact JR ⟨g,c,d,f,j,l _ e,m,i,k,n.mono o⟩
def mG.keep(h:mG R F w kv ks)(e:∀b,F b->w'.heap[b]?=w.heap[b]?):mG R F w' kv ks:=by
 rcases h with h|⟨g,a,c,f,j,d,l,i,k,m⟩
 ·exact JX h
 ·exact JR ⟨g,a,c,f,j,d,by rw[e g d];exact l,i,k,m⟩
def kS.mono{S:Value->aC->Prop}{p:Prt}(h:kS R F w p)(e:∀v a,R v a->S v a)(g:∀b,F b->G b):kS S G w p:=by
 rcases h with ⟨d,a,c,f⟩|⟨d,c⟩
 ·exact JX ⟨d,a,c,e _ _ f⟩
 ·exact JR ⟨d,c.mono e g⟩
def kS.keep{p:Prt}(h:kS R F w p)(a:∀b,F b->w'.heap[b]?=w.heap[b]?):kS R F w' p:=by
 rcases h with h|⟨d,c⟩
 ·exact JX h
 ·exact JR ⟨d,c.keep a⟩
def PND.mono(c:∀b,F b->G b):∀{d e:Nat} {v a},PND d F w v a->d<=e->PND e G w v a
 |_+1,_+1,_,_,⟨T,k,g,l,j,m⟩,i=>⟨T,k,g,l,j,λp f=>(m p f).mono (λ_ _ h=>PND.mono c h o_) c⟩
 |0,_,_,_,h,_=>h.elim
def PND.keep(c:∀b,F b->w'.heap[b]?=w.heap[b]?):∀{d:Nat} {v a},PND d F w v a->PND d F w' v a
 |_+1,_,_,⟨T,i,f,j,g,k⟩=>⟨T,i,f,j,g,λp e=>((k p e).mono (λ_ _ h=>PND.keep c h) (λ_ h=>h)).keep c⟩
def PN.mono(h:PN F w v a)(c:∀b,F b->G b):PN G w v a:=by
 obtain⟨d,h⟩:=h;exact⟨d,h.mono c (JS _)⟩
def PN.keep(h:PN F w v a)(c:∀b,F b->w'.heap[b]?=w.heap[b]?):PN F w' v a:=by
 obtain⟨d,h⟩:=h;exact⟨d,h.keep c⟩
def PN.form(h:PN F w v a):∃T b,v=.iface T (.agg b):=by
 obtain⟨d,h⟩:=h;cases d with
 |zero=>exact h.elim
 |succ d=>obtain⟨T,b,_,c,_⟩:=h;exact⟨T,b,c⟩
def eE.pdepth:∀{vs ks},eE (PN F w) vs ks->∃d,eE (PND d F w) vs ks
 |[],[],_=>⟨0,trivial⟩
 |_::_,_::_,⟨⟨d,b⟩,a⟩=>by
  obtain⟨e,c⟩:=eE.pdepth a;exact⟨max d e,b.mono (λ_ h=>h) (Nat.le_max_left _ _),c.mono λ_ _ h=>h.mono (λ_ h=>h) (Nat.le_max_right _ _)⟩
 |[],_::_,h=>h.elim
 |_::_,[],h=>h.elim
def Prt.ok(F:Nat->Prop)(w:World)(p:Prt):Prop:=kS (PN F w) F w p
def Prt.ok.depth{p:Prt}(h:p.ok F w):∃d,kS (PND d F w) F w p:=by
 rcases h with ⟨b,a,e,d,i⟩|⟨b,h|⟨g,f,c,l,j,e,i,m,o,k⟩⟩
 ·exact⟨d,JX ⟨b,a,e,i⟩⟩
 ·exact⟨0,JR ⟨b,JX h⟩⟩
 ·obtain⟨d,n⟩:=k.pdepth;exact⟨d,JR ⟨b,JR ⟨g,f,c,l,j,e,i,m,o,n⟩⟩⟩
def Prt.ok.all{F:Nat->Prop}{w:World}:∀{ps:List Prt},(∀p∈ps,p.ok F w)->∃d,∀p∈ps,kS (PND d F w) F w p
 |[],_=>⟨0,λp b=>by cases b⟩
 |p::ps,h=>by
  obtain⟨d,f⟩:=(h p (KW ..)).depth;obtain⟨e,c⟩:=Prt.ok.all (ps:=ps) λq a=>h q (LN _ a)
  refine⟨max d e,λq a=>?_⟩
  rcases KE.1 a with rfl|a
  ·exact f.mono (λ_ _ h=>h.mono (λ_ h=>h) (Nat.le_max_left _ _)) (λ_ h=>h)
  ·exact(c q a).mono (λ_ _ h=>h.mono (λ_ h=>h) (Nat.le_max_right _ _)) (λ_ h=>h)
def PN.mk{T:TypeId}{b:Array Value}{ps:List Prt}(h:Shape T b a ps)(c:∀p∈ps,p.ok F w):PN F w (.iface T (.agg b)) a:=by
 obtain⟨d,e⟩:=Prt.ok.all c;exact⟨d+1,T,b,ps,rfl,h,e⟩
def Prt.ok.node(h:PN F w v a):Prt.ok F w ⟨v,[a],true⟩:=JX ⟨rfl,a,rfl,h⟩
def PKid(F:Nat->Prop)(w:World)(kv:Value)(ks:List aC):Prop:=mG (PN F w) F w kv ks
def Prt.ok.list(h:PKid F w v l):Prt.ok F w ⟨v,l,false⟩:=JR ⟨rfl,h⟩
def PKid.keep(h:PKid F w kv ks)(a:∀b,F b->w'.heap[b]?=w.heap[b]?)(c:∀b,F b->G b):PKid G w' kv ks:=
 (mG.mono h (λ_ _ h=>(h.keep a).mono c) (λ_ h=>h)).keep a |>.mono (λ_ _ h=>h) c
def PN.grow{d lo' hi':Nat}(h:PN (Btw lo d) w v a)(e:∀k,lo<=k->k<d->w'.heap[k]?=w.heap[k]?)(g:lo'<=lo)(f:d<=hi'):PN (Btw lo' hi') w' v a:=
 (h.keep λb c=>e b c.1 c.2).mono λ_ c=>⟨KM g c.1,JY c.2 f⟩
def PKid.grow{c lo' hi':Nat}(h:PKid (Btw lo c) w v l)(d:∀k,lo<=k->k<c->w'.heap[k]?=w.heap[k]?)(f:lo'<=lo)(e:c<=hi'):PKid (Btw lo' hi') w' v l:=
 h.keep (λb a=>d b a.1 a.2) λ_ a=>⟨KM f a.1,JY a.2 e⟩
def qO:(prog.info? 92).map (λi=>(i.zero,i.size,i.bytes))=some (some .nilIface,1,16):=k_
def PLst(b_:Nat)(w:World)(v:Value)(acc:List aC):Prop:=
 ∃vs F,w.ownsRow b_ 92 1 v acc.length vs/\eE (PN F w) vs acc/\∀b,F b->b_<=b/\b<w.heap.size/\v.ownBlock≠some b
def PLst.nil(b_:Nat)(w:World):PLst b_ w (.slice none 0 0) []:=⟨[],λ_=>False,World.ownsRow_nil _ _ _ _,trivial,λ_ h=>h.elim⟩
def PLst.slice(h:PLst b_ w v acc):∃x c,v=.slice x acc.length c:=by
 obtain⟨i,F,f,_⟩:=h;rcases f.2 with ⟨a,d⟩|⟨g,b,e,a,_⟩
 ·exact⟨none,0,by rw[a,d]⟩
 ·exact⟨_,b,a⟩
def PLst.keep{pb:Nat}(h:PLst b_ w v acc)(c:Fr pb w w1)(j:pb<b_):PLst b_ w1 v acc:=by
 obtain⟨g,F,d,i,e⟩:=h;refine⟨g,F,bX d λk f=>?_,i.mono λ_ _ h=>h.keep λb a=>?_,λb a=>?_⟩
 ·have:=bA d k f;exact c.block k (cH d k f) o_
 ·have:=e b a;have:=c.size;exact⟨o_,o_,(e b a).2.2⟩
 ·have:=e b a;exact c.block b this.2.1 o_
def PLst.snoc{q w2:World}{o:Value}{g m:Nat}{vs:List Value}(s:eE (PN F w) vs acc)(y:∀b,F b->b_<=b/\b<w.heap.size/\v.ownBlock≠some b)
 (x:PN (Btw lo w.heap.size) w o a) (z:b_<=lo) (n:∀k,v.ownBlock=some k->k<lo) (p:∀k,k<w.heap.size->q.heap[k]?=w.heap[k]?) (u:w.heap.size<=q.heap.size)
 (l:w2.ownsRow b_ 92 1 (.slice (some ⟨g,0,none⟩) (acc.length+1) m) (acc.length+1) (vs++[o]))
 (f:q.grownBy w2 v.ownBlock) (j:v.ownBlock=some g\/w.heap.size<=g):PLst b_ w2 (.slice (some ⟨g,0,none⟩) (acc.length+1) m) (acc++[a]):=by
 have r:∀b,(F b\/Btw lo w.heap.size b)->b_<=b/\b<w.heap.size/\v.ownBlock≠some b:=by
  rintro b (i|i)
  ·exact y b i
  ·exact⟨by have:=i.1;omega,i.2,λe=>by have:=n b e;have:=i.1;omega⟩
 have c:∀b,(F b\/Btw lo w.heap.size b)->w2.heap[b]?=w.heap[b]?:=λb i=>by
  have d:=r b i;rw[f.block b o_ (λe=>d.2.2 e.symm),p b d.2.1]
 refine⟨vs++[o],λb=>F b\/Btw lo w.heap.size b,?_,?_,?_⟩
 ·rw[KN];exact l
 ·exact eE.snoc (s.mono λ_ _ h=>(h.mono (λ_=>JX)).keep c) ((x.mono (λ_=>JR)).keep c)
 ·intro b i;have d:=r b i;have:=f.size;refine⟨d.1,o_,λe=>?_⟩
  have t:g=b:=Option.some.inj e;rcases j with j|j
  ·exact d.2.2 (by rw[j,t])
  ·omega
def PLst.kid(h:PLst b_ w v acc):PKid (Btw b_ w.heap.size) w v acc:=by
 obtain⟨m,F,o,k,j⟩:=h;rcases o.2 with ⟨a,e⟩|⟨g,c,d,a,e,f,l,q,p,n⟩
 ·exact JX ⟨a,KO e⟩
 ·exact JR ⟨g,c,d,m,a,⟨e,aD f⟩,f,l,by rw[<-n,Nat.mul_one],k.mono λ_ _ h=>h.mono λb i=>⟨(j b i).1,(j b i).2.1⟩⟩
def PAt.grown{a:Option Nat}(h:PAt C w p)(c:w.grownBy w' a)(b:∀k,a=some k->b_<=k)(f:C.pb<b_)(d:C.g<b_):PAt C w' p:=
 h.keep (c.block _ h.pb_lt λe=>by have:=b _ e.symm;omega) (c.block _ h.g_lt λe=>by have:=b _ e.symm;omega)
def Out{α:Type}(C:Ctx)(w:World)(r:aR α)(P:World->Value->α->Prop)(e:Ending)(w':World):Prop:=
 Fr C.pb w w'/\match r with
  |.ok (a,q)=>PAt C w' q/\∃v,e=.returned v/\P w' v a
  |.error l=>e=cA 4 l
def sD(C:Ctx)(w:World)(r:aR aC)(e:Ending)(w':World):Prop:=Out C w r (λw' v a=>PN (Btw w.heap.size w'.heap.size) w' v a) e w'
def PReads(C:Ctx)(F:Nat)(X:Nat->aR aC):Prop:=∀w p,PAt C w p->X p≠.error 0->Calls prog F #[.pointer (some ⟨C.pb,0,none⟩)] w (sD C w (X p))
def hU(ts:List aM)(p:Nat)(l:List (List UInt8)):List UInt8:=(l.find? λx=>aF ts p x).getD []
def sL(C:Ctx)(w:World)(p:Nat)(l:List (List UInt8))(g G:Nat)(Q:g<w.heap.size)(I:g≠C.pb)(hl:l.length<=100)(s:∀x∈l,x≠[])(W:∀i (hi:i<l.length),w.cell? ⟨g,i,none⟩=some (.string (bs l[i])))(h:PAt C w p):
 Calls prog 205 #[.pointer (some ⟨C.pb,0,none⟩),.slice (some ⟨g,0,none⟩) l.length G] w λe P=>e=.returned (.string (bs (hU C.ts p l)))/\PAt C P (if hU C.ts p l=[] then p else p+1)/\Fr C.pb w P:=by
 have HC:=aA W;have H:=aA h;have K:=aA s;clear W h s;generalize r:(if hU C.ts p l=[] then p else p+1)=T
 generalize B:hU C.ts p l=V at*;have S:=aA r;have A:=aA B;clear r B;go_enter func205,ntmps205;go_wp2_with fail;go_loopg [6,9] l.length (λgk m i wr=>∃k:Nat,k+gk=l.length/\i=.int .i64 k/\Fr C.pb w wr/\PAt C wr p/\Hid (∀x∈l.take k,aF C.ts p x=false))
 case atStart=>exact⟨0,o_,rfl,Fr.refl _ _,H.out,λx hx=>by simp at hx⟩
 case round=>
  obtain⟨k,Y,rfl,a,c,q⟩:=hrel;by_cases f:k<l.length
  ·obtain⟨j,rfl⟩:∃j,gk=j+1:=⟨gk-1,o_⟩
   have J:wr.cell? ⟨g,k,none⟩=some (.string (bs l[k])):=(bV (a.block g Q I)).trans (HC.out k f);have aa:g<wr.heap.size:=JY Q a.size;have D:=aA (cC C wr p (bs l[k]) c);have O:(bs l[k]).data.toList=l[k]:=by simp[bs]
   rw[O] at D
   have L:Hid (l=l.take k++l[k]::l.drop (k+1)):=by
    show _=_
    rw[KL,KU]
   have F:Hid (∀y∈l.take (k+1),y∈l.take k\/y=l[k]):=λy U=>by
    rw[KA f] at U;rcases LB.1 U with h|h
    ·exact JX h
    ·exact JR (KB.1 h)
   have v:l[k]≠[]:=K.out _ (KG f);have N:=aA v;have E:=aA a;clear c a O v;generalize l[k]=y at*;cases b:aF C.ts p y
   ·rw[b] at D
    have M:Hid (∀z∈l.take (k+1),aF C.ts p z=false):=λz t=>by
     rcases F.out z t with h|h
     ·exact q.out z h
     ·rw[h];exact b
    clear q F L b;go_wp2_with fail;refine D.out.mono ?_;rintro e X ⟨rfl,d,o⟩;go_wp2_with fail;go_roundg j
    case measure=>omega
    case rel=>exact⟨k+1,o_,by go_num,E.out.trans o,d,M⟩
   ·rw[b] at D
    have u:Hid (V=y):=by
     show _=_
     rw[<-A.out];unfold hU;rw[L.out,List.find?_append,KX.2 (by intro z t;simpa using q.out z t)]
     simp[b]
    clear q F L b;go_wp2_with fail;refine D.out.mono ?_;rintro e X ⟨rfl,d,o⟩;go_wp2_with fail;go_ret;have n:T=p+1:=by rw[<-S.out,u.out,if_neg N.out]
    rw[u.out,n];exact⟨rfl,d,E.out.trans o⟩
  ·have u:Hid (V=[]):=by
    show _=_
    rw[<-A.out];unfold hU;rw[KX.2]
    ·rfl
    ·intro z t;simpa using q.out z (by rw[KT o_];exact t)
   have E:=aA a;have Z:=aA c;clear q a c;go_wp2_with fail;go_ret;have n:T=p:=by rw[<-S.out,u.out,if_pos rfl]
   rw[u.out,n];exact⟨rfl,Z.out,E.out⟩
def Out.err{a:Type}{r:aR a}{P:World->Value->a->Prop}{l:Nat}(c:r=.error l)(b:Fr C.pb w w'):Out C w r P (cA 4 l) w':=by
 subst c;exact⟨b,rfl⟩
def Out.ok{r:aR b}{P:World->Value->b->Prop}{a:b}(f:r=.ok (a,q))(d:Fr C.pb w w')(e:PAt C w' q)(c:P w' v a):Out C w r P (.returned v) w':=by
 subst f;exact⟨d,e,v,rfl,c⟩
def hZ{x:List UInt8}{a:b}(h:aF ts q x=true):aG ts x (.ok (a,q):aR b)=.ok (a,q+1):=by
 unfold aG;simp only;rw[if_pos h]
def nG{x:List UInt8}{a:b}(h:aF ts q x=false):aG ts x (.ok (a,q):aR b)=.error (aE ts q).l_:=by
 unfold aG;simp only;rw[if_neg (by rw[h];simp)];rfl
def kF(w:World)(v:Value):∀j u,([v]:List Value)[j]?=some u->(w.alloc (.cells #[v] 92)).cell? ((⟨w.heap.size,0,none⟩:Addr).add j)=some u:=by
 intro j u a;match j,a with
 |0,a=>simp at a;subst a;simp[Addr.add,go_sem]
 |j+1,a=>simp at a
def lY(T:TypeId)(b:Array Value):∀u∈([.iface T (.agg b)]:List Value),u.oneCell'=true:=by
 intro u a;simp at a;subst a;rfl
def JQ(C:Ctx)(w:World)(r:aR (List aC))(e:Ending)(w':World):Prop:=Out C w r (λw' v l=>PKid (Btw w.heap.size w'.heap.size) w' v l) e w'
def JD(C:Ctx)(E:Nat->aR aC)(w:World)(r0:aR (List aC))(k:Nat)(v:Value)(wr:World):Prop:=
 Fr C.pb w wr/\∃q acc,PAt C wr q/\r0=(if aF C.ts q [44] then bZ E C.ts k (q+1) acc else .ok (acc,q))/\acc.length+k<=4000/\PLst w.heap.size wr v acc
def kU(C:Ctx)(E:Nat->aR aC)(HE:PReads C 108 E)(w:World)(p:Nat)(y:ByteArray)(h:PAt C w p)(N r:aR (List aC))(W:Hid (N=dL E C.ts p y.data.toList))(hr:Hid (r=aG C.ts y.data.toList N))(al:N≠.error 0):
 Calls prog 240 #[.pointer (some ⟨C.pb,0,none⟩),.string y] w (JQ C w r):=by
 obtain⟨i0,hi,ap,bd,ba⟩:=info_parts qO;have HA:=aA (cC C w p y h);have H:=aA h;have bc:=aA HE;have ah:=aA al;have bo:=h.len;have x:=h.pb_lt;have bg:=h.g_lt;clear h HE al;cases b:aF C.ts p y.data.toList
 ·rw[b] at HA;have z:Hid (N=bZ E C.ts (C.ts.length+1) p []):=by show _=_;rw[W.out];unfold dL;rw[b];rfl
  clear b W;go_enter func240,ntmps240;go_wp2_with fail;refine HA.out.mono ?_;rintro e w1 ⟨rfl,X,aa⟩;have D:E p≠.error 0:=λe=>ah.out (by rw[z.out,bZ,e])
  have HX:=aA (bc.out w1 p X D);have P:=aA aa;clear X aa D;go_wp2_with fail;refine HX.out.mono ?_;rintro e w2 O;cases m:E p with
  |error l=>
   rw[m] at O;obtain⟨B,rfl⟩:=O;have HL:Hid (r=.error l):=by show _=_;rw[hr.out,z.out,bZ,m];rfl
   have Z:=aA (P.out.trans B);clear B HX;go_wp2_with fail;exact⟨rfl,Out.err HL.out Z.out⟩
  |ok aq=>
   obtain⟨a,q⟩:=aq;rw[m] at O;obtain⟨B,az,v,rfl,hn⟩:=O;obtain⟨T,cs,rfl⟩:=hn.form;have aw:Hid (N=(if aF C.ts q [44] then bZ E C.ts C.ts.length (q+1) [a] else .ok ([a],q))):=by show _=_;rw[z.out,bZ,m];rfl
   have Z:=aA (P.out.trans B);have ao:=aA az;have HN:=aA hn;have bz:=P.out.size;have br:=B.size;clear az B hn HX z P;go_wp2_with (at_builtin;refine wpList_append_lies _ r_ _ _ 157 r_ w.heap.size 92 i0 _ 1 16 underlying157 hi ap bd ba rfl d_ (.slice none 0 0) 0 [] r_ (World.ownsRow_nil _ _ _ _) ⟨w2.heap.size,0,none⟩ 1 1 [.iface T (.agg cs)] r_ r_ (kF _ _) (lY _ _) d_ (by unfold maxLen;omega) o_ t_ (w2.heap.size+1) s_ ?_)
   intro g ca w3 G f ac bv;have bb:=aA (PLst.snoc (b_:=w.heap.size) (lo:=w1.heap.size) (F:=λ_=>False) (vs:=[]) (acc:=[]) (v:=.slice none 0 0) trivial (λ_ h=>h.elim) HN.out o_ (λk Q=>by cases Q) (λk Q=>JZ _ _ _ Q) s_ G f (ac.imp_right (λe=>by omega)))
   have ar:=aA ((ao.out.alloc _).grown (b_:=w.heap.size) f (λk Q=>by cases Q) x bg)
   have bf:=aA ((Z.out.alloc _).grown f (λk Q=>by cases Q))
   clear G f ac HN ao Z;go_wp2_with fail;go_loopg [5] C.ts.length (λk v wr=>JD C E w N k v wr)
   case atStart=>exact⟨bf.out,q,[a],ar.out,aw.out,t_,bb.out⟩
   case round=>
    obtain⟨ae,u,j,an,Y,bu,ai⟩:=hrel;obtain⟨x4,c4,rfl⟩:=ai.slice;have A:=aA (cC C wr u ⟨#[44]⟩ an);have ay:=aA ae;have V:=aA ai;have bx:=ae.size;clear ae an ai bb ar bf aw;cases b:aF C.ts u [44]
    ·have o:aF C.ts u (⟨#[44]⟩:ByteArray).data.toList=false:=b;rw[o] at A;have n:Hid (N=.ok (j,u)):=by show _=_;rw[Y,b];rfl
     clear b o Y;go_wp2_with fail;refine A.out.mono ?_;rintro e w5 ⟨rfl,M,i⟩;have af:=aA (dV C w5 u y M);have K:=aA (ay.out.trans i);have s:=aA (V.out.keep i x);have bj:=i.size;clear M i A V;go_wp2_with fail;refine af.out.mono ?_;rintro e w6 ⟨c,U⟩;have t:=aA (K.out.trans c);have au:=aA (s.out.keep c x);cases b:aF C.ts u y.data.toList
     ·rw[b] at U;obtain rfl:e=cA 4 (aE C.ts u).l_:=U;have HL:Hid (r=.error (aE C.ts u).l_):=by show _=_;rw[hr.out,n.out];exact nG b
      clear c af b au s;go_wp2_with fail;exact⟨rfl,Out.err HL.out t.out⟩
     ·rw[b] at U;obtain⟨rfl,J⟩:=U;have HL:Hid (r=.ok (j,u+1)):=by show _=_;rw[hr.out,n.out];exact hZ b
      have S:=aA J;clear c af b J s;go_wp2_with fail;go_ret;exact Out.ok HL.out t.out S.out au.out.kid
    ·have o:aF C.ts u (⟨#[44]⟩:ByteArray).data.toList=true:=b;rw[o] at A;have n:Hid (N=bZ E C.ts gk (u+1) j):=by show _=_;rw[Y,b];rfl
     clear b o Y
     obtain⟨k,rfl⟩:∃k,gk=k+1:=by
      cases gk with
      |zero=>exact absurd n.out ah.out
      |succ k=>exact⟨k,rfl⟩
     go_wp2_with fail;refine A.out.mono ?_;rintro e w5 ⟨rfl,M,i⟩;have D:E (u+1)≠.error 0:=λe=>ah.out (by rw[n.out,bZ,e])
     have HX:=aA (bc.out w5 (u+1) M D);have K:=aA (ay.out.trans i);have s:=aA (V.out.keep i x);have bj:=i.size;clear M i A V D;go_wp2_with fail;refine HX.out.mono ?_;rintro e w6 O;cases m:E (u+1) with
     |error l=>
      rw[m] at O;obtain⟨c,rfl⟩:=O;have HL:Hid (r=.error l):=by show _=_;rw[hr.out,n.out,bZ,m];rfl
      have t:=aA (K.out.trans c);clear c HX;go_wp2_with fail;exact⟨rfl,Out.err HL.out t.out⟩
     |ok bl=>
      obtain⟨a6,q6⟩:=bl;rw[m] at O;obtain⟨c,J,v6,rfl,ag⟩:=O;obtain⟨T6,bh,rfl⟩:=ag.form;have bn:Hid (N=(if aF C.ts q6 [44] then bZ E C.ts k (q6+1) (j++[a6]) else .ok (j++[a6],q6))):=by show _=_;rw[n.out,bZ,m]
      obtain⟨vs,F,L,ab,ax⟩:=s.out.keep c x
      have be:∀g,(Value.slice x4 j.length c4).ownBlock=some g->g<w5.heap.size:=by
       obtain⟨bt,F',ak,_⟩:=s.out;exact cH ak
      have am:=aA be;have t:=aA (K.out.trans c);have S:=aA J;have av:=aA ag;have HALL:=aA (JV ab ax);have bq:=c.size;have aj:∀k,(Value.slice x4 j.length c4).ownBlock=some k->w.heap.size<=k:=bA L;clear J c ag HX n s K ab ax be;go_wp2_with (at_builtin;refine wpList_append_lies _ r_ _ _ 157 r_ w.heap.size 92 i0 _ 1 16 underlying157 hi ap bd ba rfl d_ _ _ _ r_ (L.alloc _) ⟨w6.heap.size,0,none⟩ 1 1 [.iface T6 (.agg bh)] r_ r_ (kF _ _) (lY _ _) d_ (by unfold maxLen;omega) o_ t_ (w6.heap.size+1) s_ ?_)
      intro g7 bp w7 I d ad bw;have bm:=aA (PLst.snoc (lo:=w5.heap.size) HALL.out.1 HALL.out.2 av.out o_ am.out (λk Q=>JZ _ _ _ Q) s_ I d (ad.imp_right (λe=>by omega)))
      have bi:=aA ((S.out.alloc _).grown (b_:=w.heap.size) d aj x bg);have bk:=aA ((t.out.alloc _).grown d aj);clear L I d ad av S t HALL am aj;go_wp2_with fail;go_roundg k
      case measure=>omega
      case rel=>exact⟨bk.out,q6,j++[a6],bi.out,bn.out,t_,bm.out⟩
 ·rw[b] at HA;have z:Hid (r=.ok ([],p+1)):=by show _=_;rw[hr.out,W.out];unfold dL;rw[b];unfold aG;simp[b]
  clear b W;go_enter func240,ntmps240;go_wp2_with fail;refine HA.out.mono ?_;rintro e w1 ⟨rfl,X,aa⟩;go_wp2_with fail;go_ret;exact Out.ok z.out aa X (JX ⟨rfl,rfl⟩)
structure PS(C:Ctx)(w:World)(t:aM)(tb:Nat)(W:World)(p:Nat):Prop where
 fr:Fr C.pb w W
 at_:PAt C W p
 tk:W.heap[tb]?=some (.cells #[.int .i64 (psort t.sort),.string (bs t.x_),.int .i64 (pval t),.int .i64 t.l_] 150 (0,0))
 pl:W.heap[tb+1]?=some (.cells #[.int .i64 t.l_] 153 (0,0))
 lo:w.heap.size<=tb
 np:C.pb<tb
 ng:C.g<tb
def PS.keep{W c:World}{a:Nat}(h:PS C w t a W p)(b:Fr C.pb W c)(d:PAt C c q):PS C w t a c q:=
 ⟨h.fr.trans b,d,by rw[b.block a (aD h.tk) (by have:=h.np;omega)];exact h.tk,by rw[b.block (a+1) (aD h.pl) (by have:=h.np;omega)];exact h.pl,h.lo,h.np,h.ng⟩
def PS.cells{W:World}{a:Nat}(h:PS C w t a W p):
 a+1<W.heap.size/\W.cell? ⟨a,0,none⟩=some (.int .i64 (psort t.sort))/\W.cell? ⟨a,1,none⟩=some (.string (bs t.x_))/\W.cell? ⟨a,2,none⟩=some (.int .i64 (pval t))/\W.cell? ⟨a,3,none⟩=some (.int .i64 t.l_)/\W.cell? ⟨a+1,0,none⟩=some (.int .i64 t.l_)/\C.pb<W.heap.size/\W.cell? ⟨C.pb,1,none⟩=some (.int .i64 p)/\W.frozen? ⟨C.pb,1,none⟩=false:=
 ⟨aD h.pl,aB h.tk rfl,aB h.tk rfl,aB h.tk rfl,aB h.tk rfl,aB h.pl rfl,h.at_.pb_lt,aB h.at_.blk rfl,aI h.at_.blk⟩
def thrown{P:Program}{b:Array Oper}{o:Oper}{a:Act}{K:Act->World->Prop}{Q:Exit->Act->World->Prop}{E:Prop}(c:Value)
 (h:if Region.wanted o (yielded b a.tmps)=true then Oper.wp P o a w K Q else E) (_d:Hid False->K (a.put o.dst c) w):
 if Region.wanted o (yielded b a.tmps)=true then Oper.wp P o a w K Q else E:=h
def Fr.keepB{pb b:Nat}{o:Obj}(a:Fr pb w w')(h:w.heap[b]?=some o)(e:b≠pb):w'.heap[b]?=some o:=by
 have c:b<w.heap.size:=by
  by_cases d:b<w.heap.size
  ·exact d
  ·rw[LD o_] at h;cases h
 rw[a.block b c e];exact h
def PKid.slice(h:PKid F w v l):∃x c,v=.slice x l.length c:=by
 rcases h with ⟨a,d⟩|⟨g,e,b,f,a,_⟩
 ·exact⟨none,0,by rw[a,d];rfl⟩
 ·exact⟨_,_,a⟩
def FU(h:iJ t):(psort t.sort=2↔t.sort=48)/\(psort t.sort=3↔t.sort=115):=by
 unfold psort;rcases h with h|⟨h,_⟩|h|⟨h,_⟩|h|h<;>simp[h]
def vJ(C:Ctx)(E:Nat->aR aC)(HE:PReads C 108 E):PReads C 258 (bT E C.ts):=by
 intro w p h bc;have HN:=aA (gP C w p h);simp only[iI] at HN;have br:=aA (λw1 (hb:Below w.heap.size w w1)=>gR C w1 p (h.below hb))
 have bg:=h.tsk.tk p h.lt;have HS:=aA (FU bg);have HT:Hid ((aE C.ts p).sort≠101->p+1<C.ts.length):=λe=>h.all.ok.next p h.lt e
 have cs:p<=3000:=by have:=h.lt;have:=h.len;omega
 have H:=aA h;have bm:=aA HE;have aw:=aA bg;have cr:=h.pb_lt;have cz:=h.g_lt;obtain⟨r,hr⟩:=E_ (bT E C.ts p);rw[<-hr] at bc ⊢
 rw[bT] at hr;have HR:=aA hr;have bk:=aA bc;clear h HE bc bg hr;generalize ca:aE C.ts p=t at*;have be:=aA ca;clear ca;go_enter func258,ntmps258;go_wp2_with fail;refine HN.out.mono ?_;rintro e w1 ⟨rfl,cd⟩;have ay:=aA cd;clear cd;go_wp2_with fail;refine(br.out w1 ay.out).mono ?_;rintro e w2 ⟨rfl,bt⟩
 have bi:PS C w t w2.heap.size ((w2.alloc (.cells #[.int .i64 (psort t.sort),.string (bs t.x_),.int .i64 (pval t),.int .i64 t.l_] 150)).alloc (.cells #[.int .i64 t.l_] 153)) p:=by
  have hb:=ay.out.trans (bt.mono ay.out.size);have ch:=hb.size;refine⟨((Fr.below hb).alloc _).alloc _,((H.out.below hb).alloc _).alloc _,?_,?_,ch,o_,o_⟩
  ·exact dO _ _ s_ _ (aW _ _ rfl _)
  ·exact aW _ _ s_ _
 have z:=aA bi;obtain⟨k0,k1,k2,k3,k4,k5,k6,k7,k8⟩:=bi.cells;clear bi bt ay br HN;go_upto_region 2 with fail
 generalize cq:(w2.alloc (.cells #[.int .i64 (psort t.sort),.string (bs t.x_),.int .i64 (pval t),.int .i64 t.l_] 150)).alloc (.cells #[.int .i64 t.l_] 153)=W at*;generalize cp:psort t.sort=ps at*;have cv:=z.out.np;have cx:¬w2.heap.size=C.pb:=o_
 have cw:¬C.pb=w2.heap.size:=o_
 by_cases ap:ps=2
 ·have O:t.sort=48:=HS.out.1.1 ap;subst ap
  obtain⟨kk,bd⟩:∃kk,bY 0 t.x_=some kk:=by
   rcases aw.out with h|⟨h,_⟩|h|⟨h,h2⟩|h|h
   ·omega
   ·omega
   ·omega
   ·exact Option.isSome_iff_exists.1 h2
   ·omega
   ·omega
  have V:Hid (pval t=kk):=by show _=_;unfold pval;rw[if_pos O,bd];rfl
  have d:Hid (r=.ok (aH [UInt8.ofNat t.sort] t.l_ t.x_ [],p+1)):=by show _=_;rw[HR.out,O];rfl
  have Q:Hid (Shape 307 #[.int .i64 t.l_,.int .i64 (pval t)] (aH [UInt8.ofNat t.sort] t.l_ t.x_ []) []):=JX ⟨rfl,kk,by rw[V.out];rfl,by rw[O];rfl,bd,rfl,rfl⟩
  have hm:=z.out.at_.move (JU _ _) (p+1) (HT.out o_)
  have HM:=aA (JV (z.out.fr.trans hm.2) hm.1);clear O bd V aw hm HR;go_wp2_with fail;go_ret;exact Out.ok d.out HM.out.1 HM.out.2 (PN.mk Q.out (λp hp=>by cases hp))
 by_cases T:ps=3
 ·have O:t.sort=115:=HS.out.2.1 T;subst T;have d:Hid (r=.ok (aH [UInt8.ofNat t.sort] t.l_ t.x_ [],p+1)):=by show _=_;rw[HR.out,O];rfl
  have Q:Hid (Shape 308 #[.int .i64 t.l_,.string (bs t.x_)] (aH [UInt8.ofNat t.sort] t.l_ t.x_ []) []):=JR (JX ⟨rfl,rfl,by rw[O];rfl,rfl,rfl⟩)
  have hm:=z.out.at_.move (JU _ _) (p+1) (HT.out o_)
  have HM:=aA (JV (z.out.fr.trans hm.2) hm.1);clear O aw hm HR ap;go_wp2_with fail;go_ret;exact Out.ok d.out HM.out.1 HM.out.2 (PN.mk Q.out (λp hp=>by cases hp))
 have cy:((ps:Int)==2)=false:=t_
 have co:((ps:Int)==3)=false:=t_
 have az:(t.sort==48 || t.sort==115)=false:=by
  have h1:t.sort≠48:=λe=>ap (HS.out.1.2 e)
  have h2:t.sort≠115:=λe=>T (HS.out.2.2 e)
  simp[h1,h2]
 have aa:Hid (r=if aF C.ts p [116,114,117,101] || aF C.ts p [102,97,108,115,101] then .ok (aH [98,111,111,108] t.l_ t.x_ [],p+1)
  else if aF C.ts p [40] then aG C.ts [41] (E (p+1))
  else if aF C.ts p [91] then aN (aH [108,105,115,116] t.l_ t.x_) (bP E C.ts p [91] [93])
  else if t.sort==110 then
   if aF C.ts (p+1) [40] then aN (aH [99,97,108,108] t.l_ t.x_) (bP E C.ts (p+1) [40] [41])
   else .ok (aH [110,97,109,101] t.l_ t.x_ [],p+1)
  else Hs.bad C.ts p):=by show _=_;rw[HR.out,az];rfl
 have ag:Hid (∀x,aF C.ts p x=true->t.x_=x):=λx hx=>by
  unfold aF at hx;rw[be.out] at hx;simp only[KQ,beq_iff_eq] at hx;exact hx.2
 clear HR az ap T HS aw;have X:=aA (cC C W p ⟨#[116,114,117,101]⟩ z.out.at_);have cb:(⟨#[116,114,117,101]⟩:ByteArray).data.toList=[116,114,117,101]:=rfl;rw[cb] at X;clear cb;cases i1:aF C.ts p [116,114,117,101];rotate_left
 ·have d:Hid (r=.ok (aH [98,111,111,108] t.l_ t.x_ [],p+1)):=by show _=_;rw[aa.out,i1];rfl
  have Q:Hid (Shape 310 #[.int .i64 t.l_,.bool true] (aH [98,111,111,108] t.l_ t.x_ []) []):=JR (JR (JX ⟨rfl,by show _= #[_,Value.bool (t.x_==_)];rw[ag.out _ i1];rfl,rfl,rfl,rfl⟩))
  rw[i1] at X;clear i1 aa ag;go_wp2_with fail;refine X.out.mono ?_;rintro e w3 ⟨rfl,bb,ah⟩;have m:=z.out.keep ah bb;have o:=aA m;clear k1 k2 k3 k4 k5 k6 k7 k8 bb ah;obtain⟨k0,k1,k2,k3,k4,k5,k6,k7,k8⟩:=m.cells;clear m;go_wp2_with fail;go_ret;exact Out.ok d.out o.out.fr o.out.at_ (PN.mk Q.out (λp hp=>by cases hp))
 rw[i1] at X;go_wp2_with fail;refine X.out.mono ?_;rintro e w3 ⟨rfl,an,ah⟩;have m:=z.out.keep ah an;have ab:=aA (cC C w3 p ⟨#[102,97,108,115,101]⟩ an);have bo:(⟨#[102,97,108,115,101]⟩:ByteArray).data.toList=[102,97,108,115,101]:=rfl;rw[bo] at ab;have o:=aA m;clear bo an ah m z X k0 k1 k2 k3 k4 k5 k6 k7 k8;cases i2:aF C.ts p [102,97,108,115,101];rotate_left
 ·have d:Hid (r=.ok (aH [98,111,111,108] t.l_ t.x_ [],p+1)):=by show _=_;rw[aa.out,i1,i2];rfl
  have Q:Hid (Shape 310 #[.int .i64 t.l_,.bool false] (aH [98,111,111,108] t.l_ t.x_ []) []):=JR (JR (JX ⟨rfl,by show _= #[_,Value.bool (t.x_==_)];rw[ag.out _ i2];rfl,rfl,rfl,rfl⟩))
  rw[i2] at ab;clear i1 i2 aa ag;go_wp2_with fail;refine ab.out.mono ?_;rintro e w4 ⟨rfl,n,aj⟩;have u:=o.out.keep aj n;have g:=aA u;clear n aj;obtain⟨k0,k1,k2,k3,k4,k5,k6,k7,k8⟩:=u.cells;clear u;go_wp2_with fail;go_ret;exact Out.ok d.out g.out.fr g.out.at_ (PN.mk Q.out (λp hp=>by cases hp))
 rw[i2] at ab
 have av:Hid (r=if aF C.ts p [40] then aG C.ts [41] (E (p+1))
  else if aF C.ts p [91] then aN (aH [108,105,115,116] t.l_ t.x_) (bP E C.ts p [91] [93])
  else if t.sort==110 then
   if aF C.ts (p+1) [40] then aN (aH [99,97,108,108] t.l_ t.x_) (bP E C.ts (p+1) [40] [41])
   else .ok (aH [110,97,109,101] t.l_ t.x_ [],p+1)
  else Hs.bad C.ts p):=by show _=_;rw[aa.out,i1,i2];rfl
 clear aa i1 i2 ag;go_wp2_with fail;refine ab.out.mono ?_;rintro e w4 ⟨rfl,n,aj⟩;have u:=o.out.keep aj n;have P:=aA (cC C w4 p ⟨#[40]⟩ n);have bq:(⟨#[40]⟩:ByteArray).data.toList=[40]:=rfl;rw[bq] at P;have g:=aA u;clear bq n aj u o ab;cases i3:aF C.ts p [40];rotate_left
 ·have A:Hid (r=aG C.ts [41] (E (p+1))):=by show _=_;rw[av.out,i3];rfl
  rw[i3] at P;clear i3 av;go_wp2_with fail;refine P.out.mono ?_;rintro e w5 ⟨rfl,s,ai⟩;have bp:E (p+1)≠.error 0:=λe=>bk.out (by rw[A.out,e];rfl)
  have HX:=aA (bm.out w5 (p+1) s bp);have bl:=aA (g.out.fr.trans ai);have cu:=bl.out.size;clear s ai bp P g;go_wp2_with fail;refine HX.out.mono ?_;rintro e w6 hO;cases ar:E (p+1) with
  |error l=>
   rw[ar] at hO;obtain⟨f,rfl⟩:=hO;have d:Hid (r=.error l):=by show _=_;rw[A.out,ar];rfl
   have B:=aA (bl.out.trans f);clear f HX;go_wp2_with fail;exact⟨rfl,Out.err d.out B.out⟩
  |ok aq=>
   obtain⟨a,q⟩:=aq;rw[ar] at hO;obtain⟨f,bw,v6,rfl,bx⟩:=hO;have ax:=aA (dV C w6 q ⟨#[41]⟩ bw);have ao:(⟨#[41]⟩:ByteArray).data.toList=[41]:=rfl;rw[ao] at ax;have B:=aA (bl.out.trans f);have ck:=aA bx;have ct:=f.size;clear bw f bx HX ao;go_wp2_with fail;refine ax.out.mono ?_;rintro e w7 ⟨b,G⟩;cases Y:aF C.ts q [41]
   ·rw[Y] at G;obtain rfl:e=cA 4 (aE C.ts q).l_:=G;have d:Hid (r=.error (aE C.ts q).l_):=by show _=_;rw[A.out,ar];exact nG Y
    have y:=aA (B.out.trans b);clear b ax Y;go_wp2_with fail;exact⟨rfl,Out.err d.out y.out⟩
   ·rw[Y] at G;obtain⟨rfl,ak⟩:=G;have d:Hid (r=.ok (a,q+1)):=by show _=_;rw[A.out,ar];exact hZ Y
    have y:=aA (B.out.trans b);have cg:=aA ak;have cm:=aA (ck.out.grow (lo':=w.heap.size) (hi':=w7.heap.size) (λk h1 h2=>b.block k h2 o_) o_ b.size)
    clear b ax Y ak;go_wp2_with fail;go_ret;exact Out.ok d.out y.out cg.out cm.out
 rw[i3] at P
 have A:Hid (r=if aF C.ts p [91] then aN (aH [108,105,115,116] t.l_ t.x_) (bP E C.ts p [91] [93])
  else if t.sort==110 then
   if aF C.ts (p+1) [40] then aN (aH [99,97,108,108] t.l_ t.x_) (bP E C.ts (p+1) [40] [41])
   else .ok (aH [110,97,109,101] t.l_ t.x_ [],p+1)
  else Hs.bad C.ts p):=by show _=_;rw[av.out,i3];rfl
 clear av i3;go_wp2_with fail;refine P.out.mono ?_;rintro e w5 ⟨rfl,s,ai⟩;have ba:=g.out.keep ai s;have K:=aA (cC C w5 p ⟨#[91]⟩ s);have ao:(⟨#[91]⟩:ByteArray).data.toList=[91]:=rfl;rw[ao] at K;have S:=aA ba;clear ao s ai ba g P;cases i4:aF C.ts p [91];rotate_left
 ·obtain⟨r1,M⟩:=E_ (dL E C.ts (p+1) [93]);have F:Hid (r=aN (aH [108,105,115,116] t.l_ t.x_) (aG C.ts [93] r1)):=by show _=_;rw[A.out,i4,M];unfold bP;rw[i4];rfl
  have ac:=aA M;rw[i4] at K;clear i4 A M;go_wp2_with fail;refine K.out.mono ?_;rintro e w6 ⟨rfl,j,f⟩;have af:=S.out.keep f j;have V:=aA (kU C E bm.out w6.drew (p+1) ⟨#[93]⟩ j.drew r1 _ ac rfl (λe=>bk.out (by rw[F.out,e];rfl)))
  have al:(⟨#[93]⟩:ByteArray).data.toList=[93]:=rfl;rw[al] at V;have ad:=aA af;obtain⟨k0,k1,k2,k3,k4,k5,k6,k7,k8⟩:=af.cells;clear j f af al S K k1 k2 k3 k4 k7 k8;cases hV:aG C.ts [93] r1 with
  |error l=>
   rw[hV] at V;have d:Hid (r=.error l):=by show _=_;rw[F.out,hV];rfl
   clear hV;go_wp2_with fail;go_region_law (refine thrown (.slice none 0 0) ?_ ?_;(focus go_simp;go_at_call 240;refine V.out.mono ?_;rintro e w7 ⟨b,rfl⟩;exact JV rfl (Out.err d.out (ad.out.fr.drew.trans b)));intro D)
   all_goals exact D.out.elim
  |ok lq=>
   obtain⟨l,q⟩:=lq;rw[hV] at V;have d:Hid (r=.ok (aH [108,105,115,116] t.l_ t.x_ l,q)):=by show _=_;rw[F.out,hV];rfl
   clear hV;have cc:=ad.out.fr.size;go_wp2_with fail;go_region_law (go_simp;go_at_call 240;refine V.out.mono ?_;rintro e w7 ⟨b,ak,v,rfl,hk⟩;obtain⟨x,c,rfl⟩:=hk.slice;have HK:=aA hk;have U:=aA (ad.out.keep ((Fr.refl _ _).drew.trans b) ak);have y:=aA b;have c5:=U.out.cells.2.2.2.2.2.1;have c0:=U.out.cells.1;clear b ak hk)
   all_goals (go_wp2_with fail;go_ret)
   all_goals exact Out.ok d.out U.out.fr U.out.at_ (PN.mk (JR (JR (JR (JX ⟨rfl,_,rfl,rfl,rfl⟩)))) (λp hp=>by obtain rfl:=KB.1 hp;exact Prt.ok.list (HK.out.grow (λ_ _ _=>rfl) cc (JS _))))
 rw[i4] at K
 have F:Hid (r=if t.sort==110 then
       if aF C.ts (p+1) [40] then aN (aH [99,97,108,108] t.l_ t.x_) (bP E C.ts (p+1) [40] [41])
       else .ok (aH [110,97,109,101] t.l_ t.x_ [],p+1)
  else Hs.bad C.ts p):=by show _=_;rw[A.out,i4];rfl
 clear A i4;go_wp2_with fail;refine K.out.mono ?_;rintro e w6 ⟨rfl,j,f⟩;have B:=aA (S.out.fr.trans f);have Z:=aA (gQ C w6 p j);rw[be.out] at Z;clear j f S K;cases O:(t.sort==110)
 ·rw[O] at Z;have d:Hid (r=.error t.l_):=by show _=_;rw[F.out,O];show Hs.bad _ _=_;unfold Hs.bad;rw[be.out]
  clear O F;go_wp2_with fail;refine Z.out.mono ?_;rintro e w7 ⟨b,G⟩;obtain rfl:e=cA 4 t.l_:=G;have y:=aA (B.out.trans b);clear b;go_wp2_with fail;exact⟨rfl,Out.err d.out y.out⟩
 rw[O] at Z
 have ac:Hid (r=if aF C.ts (p+1) [40] then aN (aH [99,97,108,108] t.l_ t.x_) (bP E C.ts (p+1) [40] [41])
       else .ok (aH [110,97,109,101] t.l_ t.x_ [],p+1)):=by show _=_;rw[F.out,O];rfl
 clear F O;go_wp2_with fail;refine Z.out.mono ?_;rintro e w7 ⟨b,G⟩;obtain⟨rfl,au⟩:=G;have y:=aA ((B.out.trans b).alloc (.cells #[.int .i64 t.l_,.string (bs t.x_)] 155));have L:=aA (cC C (w7.alloc (.cells #[.int .i64 t.l_,.string (bs t.x_)] 155)) (p+1) ⟨#[40]⟩ (au.alloc _));have al:(⟨#[40]⟩:ByteArray).data.toList=[40]:=rfl;rw[al] at L;have bz:Hid ((w7.alloc (.cells #[.int .i64 t.l_,.string (bs t.x_)] 155)).heap[w7.heap.size]?=some (.cells #[.int .i64 t.l_,.string (bs t.x_)] 155 (0,0))):=aW _ _ rfl _;have bj:w7.heap.size≠C.pb:=by have:=au.pb_lt;omega
 have cn:=(B.out.trans b).size;clear b au Z B al;cases i5:aF C.ts (p+1) [40]
 ·rw[i5] at L;have d:Hid (r=.ok (aH [110,97,109,101] t.l_ t.x_ [],p+1)):=by show _=_;rw[ac.out,i5];rfl
  clear i5 ac;go_wp2_with fail;refine L.out.mono ?_;rintro e w8 ⟨rfl,I,N⟩;have J:=aA (N.keepB bz.out bj);have am:=aA (y.out.trans N);have cf:=aA I;have c0:=aB J.out (i:=0) rfl;have c1:=aB J.out (i:=1) rfl;have ci:=aD J.out;clear I N L;go_wp2_with fail;go_ret;exact Out.ok d.out am.out cf.out (PN.mk (JR (JR (JR (JR (JR (JX ⟨rfl,rfl,rfl,rfl,rfl⟩)))))) (λp hp=>by cases hp))
 ·rw[i5] at L;obtain⟨r1,M⟩:=E_ (dL E C.ts (p+1+1) [41]);have bf:Hid (r=aN (aH [99,97,108,108] t.l_ t.x_) (aG C.ts [41] r1)):=by show _=_;rw[ac.out,i5,M];unfold bP;rw[i5];rfl
  have cj:=aA M;clear i5 ac M;go_wp2_with fail;refine L.out.mono ?_;rintro e w8 ⟨rfl,I,N⟩;have J:=aA (N.keepB bz.out bj);have am:=aA (y.out.trans N);have V:=aA (kU C E bm.out w8.drew (p+1+1) ⟨#[41]⟩ I.drew r1 _ cj rfl (λe=>bk.out (by rw[bf.out,e];rfl)))
  have bn:(⟨#[41]⟩:ByteArray).data.toList=[41]:=rfl;rw[bn] at V;have c0:=aB J.out (i:=0) rfl;have c1:=aB J.out (i:=1) rfl;have ci:=aD J.out;have bv:=am.out.size;clear I N L bn;cases hV:aG C.ts [41] r1 with
  |error l=>
   rw[hV] at V;have d:Hid (r=.error l):=by show _=_;rw[bf.out,hV];rfl
   clear hV;go_wp2_with fail;go_region_law (refine thrown (.slice none 0 0) ?_ ?_;(focus go_simp;go_at_call 240;refine V.out.mono ?_;rintro e w9 ⟨ae,rfl⟩;exact JV rfl (Out.err d.out (am.out.drew.trans ae)));intro D)
   all_goals exact D.out.elim
  |ok lq=>
   obtain⟨l,q⟩:=lq;rw[hV] at V;have d:Hid (r=.ok (aH [99,97,108,108] t.l_ t.x_ l,q)):=by show _=_;rw[bf.out,hV];rfl
   clear hV;go_wp2_with fail;go_region_law (go_simp;go_at_call 240;refine V.out.mono ?_;rintro e w9 ⟨ae,bu,v,rfl,hk⟩;obtain⟨x,c,rfl⟩:=hk.slice;have HK:=aA hk;have cl:=aA ae;have ce:=aA bu;have bh:=aA (((Fr.refl C.pb w8).drew.trans ae).keepB J.out bj);have d0:=aB bh.out (i:=0) rfl;have d1:=aB bh.out (i:=1) rfl;have da:=aD bh.out;clear ae bu hk)
   all_goals (go_wp2_with fail;go_ret)
   all_goals exact Out.ok d.out (am.out.drew.trans cl.out) ce.out (PN.mk (JR (JR (JR (JR (JX ⟨rfl,_,rfl,rfl,rfl⟩))))) (λp hp=>by obtain rfl:=KB.1 hp;exact Prt.ok.list (HK.out.grow (λ_ _ _=>rfl) bv (JS _))))
abbrev FL(W:World)(b l:Nat):Prop:=W.heap[b]?=some (.cells #[.int .i64 l] 153 (0,0))
def FL.new(w:World)(l:Nat):FL (w.alloc (.cells #[.int .i64 l] 153)) w.heap.size l:=aW _ _ rfl _
def uQ(C:Ctx)(E:Nat->aR aC)(w:World)(r:aR aC)(tb l:Nat)(k:Nat)(v:Value)(wr:World):Prop:=
 Fr C.pb w wr/\∃q a,PAt C wr q/\r=bR E C.ts k a q/\PN (Btw w.heap.size wr.heap.size) wr v a/\FL wr tb l
def DD(C:Ctx)(E:Nat->aR aC)(HE:PReads C 108 E):PReads C 257 (λp=>aV (bT E C.ts p) (bR E C.ts (C.ts.length+1))):=by
 intro w p h K;have Q:=aA (gR C w p h);have J:bT E C.ts p≠.error 0:=λe=>K (by show aV _ _=_;rw[e];rfl)
 have t:=aA (λw1 (hb:Below w.heap.size w w1)=>vJ C E HE w1 p (h.below hb) J)
 have ax:=aA HE;have ba:=h.pb_lt;obtain⟨r,hr⟩:=E_ (aV (bT E C.ts p) (bR E C.ts (C.ts.length+1)));have I:r≠.error 0:=hr▸K;show Calls _ _ _ _ (sD C w (aV (bT E C.ts p) (bR E C.ts (C.ts.length+1))))
 rw[<-hr];have HR:=aA hr;have ag:=aA I;clear h HE K hr J I;generalize (aE C.ts p).l_=pl at*;cases n:bT E C.ts p with
 |error l=>
  have s:Hid (r=.error l):=by show _=_;rw[HR.out,n];rfl
  rw[n] at t;clear n HR;go_enter func257,ntmps257;go_wp2_with fail;refine Q.out.mono ?_;rintro e w1 ⟨rfl,A⟩;have o:=aA A;clear A;go_wp2_with fail;refine(t.out w1 o.out).mono ?_;rintro e w2 ⟨m,rfl⟩;have az:=aA ((Fr.below o.out).trans m);clear m;go_wp2_with fail;exact⟨rfl,Out.err s.out az.out⟩
 |ok aq=>
  obtain⟨a0,q0⟩:=aq;have s:Hid (r=bR E C.ts (C.ts.length+1) a0 q0):=by show _=_;rw[HR.out,n];rfl
  rw[n] at t;clear n HR;go_enter func257,ntmps257;go_wp2_with fail;refine Q.out.mono ?_;rintro e w1 ⟨rfl,A⟩;have o:=aA A;clear A;go_wp2_with fail;refine(t.out w1 o.out).mono ?_;rintro e w2 ⟨m,af,v2,rfl,Z⟩;have aw:=o.out.size;have bd:=m.size
  have HI:Hid (uQ C E w r w2.heap.size pl (C.ts.length+1) v2 (w2.alloc (.cells #[.int .i64 pl] 153))):=
   ⟨((Fr.below o.out).trans m).alloc _,q0,a0,af.alloc _,s.out,Z.grow (λk _ B=>JZ _ _ _ B) aw s_,FL.new _ _⟩
  obtain⟨T2,bh,rfl⟩:=Z.form;clear m af Z s t Q;go_wp2_with fail;go_loopg [4] (C.ts.length+1) (λk v wr=>uQ C E w r w2.heap.size pl k v wr)
  case atStart=>exact HI.out
  case round=>
   obtain⟨L,q,a,aa,z,O,G⟩:=hrel;obtain⟨T3,bi,rfl⟩:=O.form
   obtain⟨k,rfl⟩:∃k,gk=k+1:=by
    cases gk with
    |zero=>exact absurd z ag.out
    |succ k=>exact⟨k,rfl⟩
   have HA:=aA (cC C wr q ⟨#[91]⟩ aa);have ed:(⟨#[91]⟩:ByteArray).data.toList=[91]:=rfl;rw[ed] at HA;have Y:=aA L;have P:=aA O;have ac:=aA G;have bb:=L.size;clear L aa O G ed HI;cases b:aF C.ts q [91]
   ·have s:Hid (r=.ok (a,q)):=by show _=_;rw[z,bR,b];rfl
    rw[b] at HA;clear b z;go_wp2_with fail;refine HA.out.mono ?_;rintro e w4 ⟨rfl,u,c⟩;have f:=aA c;have x:=aA u;clear c u;go_wp2_with fail;go_ret;exact Out.ok s.out (Y.out.trans f.out) x.out (P.out.grow (λk h1 B=>f.out.block k B o_) (JS _) f.out.size)
   ·obtain⟨rE,M⟩:=E_ (E (q+1));have j:Hid (r=match aG C.ts [93] rE with|.error l=>.error l|.ok (i,q')=>bR E C.ts k (aH [105,110,100,101,120] (aE C.ts q).l_ [] [a,i]) q'):=by show _=_;rw[z,bR,b,M];rfl
    rw[b] at HA;have aj:=aA M;clear b z M;have ab:E (q+1)≠.error 0:=λe=>ag.out (by rw[j.out,aj.out,e];rfl)
    go_wp2_with fail;refine HA.out.mono ?_;rintro e w4 ⟨rfl,u,c⟩;have HX:=aA (ax.out w4.drew (q+1) u.drew ab);rw[<-aj.out] at HX;have ao:=aA (P.out.grow (λk h1 B=>c.block k B o_) (JS _) c.size)
    have x:=aA (c.keepB ac.out o_)
    have f:=aA (Y.out.trans c);have c0:=aB x.out (i:=0) rfl;have ay:=aD x.out;have bf:=c.size;clear c u P ac Y HA ab;cases rE with
    |error l=>
     have s:Hid (r=.error l):=j.out;go_wp2_with fail;go_region_law (refine thrown .nilIface ?_ ?_;(focus go_simp;go_at_call 108;refine HX.out.mono ?_;rintro e w5 ⟨y,rfl⟩;exact JV rfl (Out.err s.out (f.out.drew.trans y)));intro D)
     all_goals exact D.out.elim
    |ok iq=>
     obtain⟨i,F⟩:=iq;have T:=aA (λw5 (h:PAt C w5 F)=>dV C w5 F ⟨#[93]⟩ h)
     have ed:(⟨#[93]⟩:ByteArray).data.toList=[93]:=rfl;rw[ed] at T;clear ed;go_wp2_with fail;go_cut [4] (λv wc=>Fr C.pb w wc/\PAt C wc F/\PN (Btw w.heap.size wc.heap.size) wc v (aH [105,110,100,101,120] (aE C.ts q).l_ [] [a,i])/\FL wc w2.heap.size pl)
     case first=>
      go_region_law (go_simp;go_at_call 108;refine HX.out.mono ?_;rintro e w5 ⟨y,ai,v5,rfl,S⟩;obtain⟨T5,bg,rfl⟩:=S.form;have am:=aA S;have V:=aA y;have al:=aA ai;have W:=aA (((Fr.refl C.pb w4).drew.trans y).keepB x.out o_);have d0:=aB W.out (i:=0) rfl;have be:=aD W.out;clear y ai S)
      all_goals
       go_wp2_with fail;go_meet
       case rel=>
        have ap:=V.out.size
        exact⟨f.out.drew.trans V.out,al.out,PN.mk (JR (JR (JR (JR (JR (JR (JX ⟨rfl,pl,_,_,a,i,rfl,rfl,rfl,rfl⟩))))))) (λp hp=>by
         simp only[KE,KF,or_false] at hp;rcases hp with rfl|rfl
         ·exact Prt.ok.node (ao.out.grow (λk h1 B=>V.out.block k B o_) (JS _) ap)
         ·exact Prt.ok.node (am.out.grow (λ_ _ _=>rfl) (by have:=f.out.size;exact this) (JS _))),W.out⟩
     case rest=>
      obtain⟨X,ae,U,H⟩:=hcut;obtain⟨T6,ak,rfl⟩:=U.form;have g:=aA (T.out _ ae);have ah:=aA X;have au:=aA U;have ar:=aA H;have bc:=X.size;clear X ae U H T HX c0 ay;cases b:aF C.ts F [93]
      ·have s:Hid (r=.error (aE C.ts F).l_):=by show _=_;rw[j.out,nG b]
       rw[b] at g;clear b j;go_wp2_with fail;refine g.out.mono ?_;rintro e w7 ⟨d,N⟩;obtain rfl:e=cA 4 (aE C.ts F).l_:=N;have av:=aA (ah.out.trans d);clear d;go_wp2_with fail;exact⟨rfl,Out.err s.out av.out⟩
      ·have s:Hid (r=bR E C.ts k (aH [105,110,100,101,120] (aE C.ts q).l_ [] [a,i]) (F+1)):=by show _=_;rw[j.out,hZ b]
       rw[b] at g;clear b j;go_wp2_with fail;refine g.out.mono ?_;rintro e w7 ⟨d,N⟩;obtain⟨rfl,ad⟩:=N
       have an:Hid (uQ C E w r w2.heap.size pl k (.iface T6 (.agg ak)) w7):=
        ⟨ah.out.trans d,F+1,_,ad,s.out,au.out.grow (λk h1 B=>d.block k B o_) (JS _) d.size,d.keepB ar.out o_⟩
       clear d ad;go_wp2_with fail;go_roundg k
       case measure=>omega
       case rel=>exact an.out
def zW(t:List UInt8):∀l:List (List UInt8),l.find? (λx=>t==x)=if t∈l then some t else none
 |[]=>by simp
 |y::l=>by
  rw[List.find?_cons];by_cases h:t=y
  ·subst h;simp
  ·rw[show (t==y)=false by simpa using h]
   simp only[zW t l,KE,h,false_or]
def DY(t:List UInt8)(h:cF.contains t=true):aZ t=9:=by
 unfold cF at h;simp only[List.contains_eq_mem,KE,KF,or_false,decide_eq_true_eq] at h;rcases h with rfl|rfl|rfl|rfl|rfl|rfl|rfl|rfl|rfl<;>decide
def nR(h:iJ (aE ts q))(k:Nat)(f:k≠9)(l:List (List UInt8))(c:∀x,x∈l↔aZ x=k):
 hU ts q l=if (aE ts q).sort==112 && aZ (aE ts q).x_==k then (aE ts q).x_ else []:=by
 unfold hU;by_cases b:(aE ts q).sort=112
 ·rw[show (λx=>aF ts q x)=(λx=>(aE ts q).x_==x) by funext x;unfold aF;simp[b],zW]
  by_cases a:aZ (aE ts q).x_=k
  ·rw[if_pos ((c _).2 a)];simp[b,a]
  ·rw[if_neg (λe=>a ((c _).1 e))];simp[a]
 ·rw[KX.2]
  ·simp[b]
  ·intro x g e;unfold aF at e;simp only[KQ,LK,beq_iff_eq] at e;rcases h with h|⟨h,d⟩|h|⟨h,_⟩|h|h
   ·exact b h
   ·have:=DY _ d;rw[e.2,(c x).1 g] at this;exact f this
   all_goals (rw[h] at e;rcases e.1 with e|e<;>omega)
def JP(x:List UInt8):x∈([[124,124]]:List (List UInt8))↔aZ x=0:=by
 unfold aZ;simp only[KE,KF,or_false,beq_iff_eq,LK];repeat' split
 all_goals simp_all
def JO(x:List UInt8):x∈([[38,38]]:List (List UInt8))↔aZ x=1:=by
 unfold aZ;simp only[KE,KF,or_false,beq_iff_eq,LK];repeat' split
 all_goals simp_all
def JN(x:List UInt8):x∈([[61,61],[33,61],[60],[60,61]]:List (List UInt8))↔aZ x=2:=by
 unfold aZ;simp only[KE,KF,or_false,beq_iff_eq,LK];repeat' split
 all_goals simp_all
def JM(x:List UInt8):x∈([[43],[45]]:List (List UInt8))↔aZ x=3:=by
 constructor
 ·simp only[KE,KF,or_false];rintro(rfl|rfl)<;>decide
 ·unfold aZ;simp only[KE,KF,or_false,beq_iff_eq,LK];repeat' split
  all_goals simp_all
def JL(x:List UInt8):x∈([[42],[47],[37]]:List (List UInt8))↔aZ x=4:=by
 constructor
 ·simp only[KE,KF,or_false];rintro(rfl|rfl|rfl)<;>decide
 ·unfold aZ;simp only[KE,KF,or_false,beq_iff_eq,LK];repeat' split
  all_goals simp_all
def vS(ts:List aM)(p:Nat):hU ts p [[45],[33]]=if aF ts p [45] then [45] else if aF ts p [33] then [33] else []:=by
 unfold hU;simp only[List.find?_cons,List.find?_nil];cases aF ts p [45]<;>cases aF ts p [33]<;>rfl
def sR(C:Ctx)(w:World)(p:Nat)(h:PAt C w p)(l:List (List UInt8))(r:l.length<=100)(a:∀x∈l,x≠[])(d:List UInt8)(g:hU C.ts p l=d)(j:Nat)(f:j=w.heap.size)(n:Nat)(u:n=l.length)(k:Array Value)(c:k=(l.map λx=>Value.string (bs x)).toArray):
 Calls prog 205 #[.pointer (some ⟨C.pb,0,none⟩),.slice (some ⟨j,0,none⟩) n n] (w.alloc (.cells k 9)) λe b=>e=.returned (.string (bs d))/\PAt C b (if d=[] then p else p+1)/\Fr C.pb w b:=by
 subst g f u;have m:=h.pb_lt;refine(sL C _ p l w.heap.size l.length s_ o_ r a ?_ (h.alloc _)).mono λe b ⟨q,o,s⟩=>⟨q,o,((Fr.refl _ _).alloc _).trans s⟩
 intro i t;refine aB (aW _ _ rfl _) ?_;rw[c];simp[t]
def wQ(C:Ctx)(E:Nat->aR aC)(HE:PReads C 108 E)(g:Nat)(ae:PReads C 253 (cQ E C.ts g)):PReads C 253 (cQ E C.ts (g+1)):=by
 intro w p h G;have ih:=aA ae;have aa:=aA (gR C w p h);have an:=h.pb_lt;have ap:=h.g_lt;have ak:=aA (DD C E HE);obtain⟨r,hr⟩:=E_ (cQ E C.ts (g+1) p);rw[<-hr] at G ⊢
 rw[cQ] at hr;have U:=aA hr;have P:=aA G;have H:=aA h;clear h HE G hr ae;generalize O:(aE C.ts p).l_=I at*;have n:=aA (vS C.ts p);generalize Y:hU C.ts p [[45],[33]]=oo at*;have B:=aA Y;clear Y;go_enter func253,ntmps253;go_wp2_with fail;refine aa.out.mono ?_;rintro e w1 ⟨rfl,F⟩;have X:=aA ((Fr.below (pb:=C.pb) F).alloc (.cells #[.int .i64 I] 153));have ag:=aA ((H.out.below F).alloc (.cells #[.int .i64 I] 153));have ad:=aA (FL.new w1 I);have ao:=F.size;clear F aa;have HM:=aA (sR C _ p ag.out [[45],[33]] d_ (by intro x hx;simp at hx;rcases hx with rfl|rfl<;>simp) oo B.out (w1.heap.size+1) s_ 2 rfl #[.string ⟨#[45]⟩,.string ⟨#[33]⟩] rfl)
 generalize ac:(if oo=[] then p else p+1)=qo at*
 have s:=aA ac;clear ac;go_wp2_with fail;refine HM.out.mono ?_;rintro e w2 ⟨rfl,ab,N⟩;have L:=aA ab;have m:=aA (X.out.trans N);have o:=aA (N.keepB ad.out o_)
 have J:=m.out.size;clear ab N X ag ad;by_cases f:aF C.ts p [45]=true
 ·obtain rfl:oo=[45]:=by rw[n.out,if_pos f]
  obtain rfl:qo=p+1:=s.out.symm;obtain⟨D,d⟩:=E_ (cQ E C.ts g (p+1));have c:Hid (r=aN (λx=>aH [45,120] I [] [x]) D):=by show _=_;rw[U.out,if_pos f,d]
  have y:cQ E C.ts g (p+1)≠.error 0:=λe=>P.out (by rw[c.out,d,e];rfl)
  have z:=aA (ih.out w2.drew (p+1) L.out.drew y);rw[<-d] at z;clear y d U n B s HM f O;have c0:=aB o.out (i:=0) rfl;have al:=aD o.out;simp only[bs];cases D with
  |error l=>
   have Q:Hid (r=.error l):=c.out;go_wp2_with fail;go_region_law (refine thrown .nilIface ?_ ?_;(focus go_simp;go_at_call 253;refine z.out.mono ?_;rintro e w5 ⟨b,rfl⟩;exact JV rfl (Out.err Q.out (m.out.drew.trans b)));intro j)
   all_goals exact j.out.elim
  |ok V=>
   obtain⟨a,q⟩:=V;have Q:Hid (r=.ok (aH [45,120] I [] [a],q)):=c.out;go_wp2_with fail;go_region_law (go_simp;go_at_call 253;refine z.out.mono ?_;rintro e w5 ⟨b,v,v5,rfl,k⟩;obtain⟨T5,am,rfl⟩:=k.form;have M:=aA k;have S:=aA b;have K:=aA v;have u:=aA (((Fr.refl C.pb w2).drew.trans b).keepB o.out o_);have d0:=aB u.out (i:=0) rfl;have ai:=aD u.out;clear b v k)
   all_goals (go_wp2_with fail;go_ret)
   all_goals exact Out.ok Q.out (m.out.drew.trans S.out) K.out (PN.mk (JR (JR (JR (JR (JR (JR (JR (JX ⟨rfl,45,_,a,rfl,JX rfl,rfl,rfl,rfl⟩)))))))) (λp hp=>by obtain rfl:=KB.1 hp;exact Prt.ok.node (M.out.grow (λ_ _ _=>rfl) J (JS _))))
 by_cases t:aF C.ts p [33]=true
 ·obtain rfl:oo=[33]:=by rw[n.out,if_neg f,if_pos t]
  obtain rfl:qo=p+1:=s.out.symm;obtain⟨D,d⟩:=E_ (cQ E C.ts g (p+1));have c:Hid (r=aN (λx=>aH [33,120] I [] [x]) D):=by show _=_;rw[U.out,if_neg f,if_pos t,d]
  have y:cQ E C.ts g (p+1)≠.error 0:=λe=>P.out (by rw[c.out,d,e];rfl)
  have z:=aA (ih.out w2.drew (p+1) L.out.drew y);rw[<-d] at z;clear y d U n B s HM f t O;have c0:=aB o.out (i:=0) rfl;have al:=aD o.out;simp only[bs];cases D with
  |error l=>
   have Q:Hid (r=.error l):=c.out;go_wp2_with fail;go_region_law (refine thrown .nilIface ?_ ?_;(focus go_simp;go_at_call 253;refine z.out.mono ?_;rintro e w5 ⟨b,rfl⟩;exact JV rfl (Out.err Q.out (m.out.drew.trans b)));intro j)
   all_goals exact j.out.elim
  |ok V=>
   obtain⟨a,q⟩:=V;have Q:Hid (r=.ok (aH [33,120] I [] [a],q)):=c.out;go_wp2_with fail;go_region_law (go_simp;go_at_call 253;refine z.out.mono ?_;rintro e w5 ⟨b,v,v5,rfl,k⟩;obtain⟨T5,am,rfl⟩:=k.form;have M:=aA k;have S:=aA b;have K:=aA v;have u:=aA (((Fr.refl C.pb w2).drew.trans b).keepB o.out o_);have d0:=aB u.out (i:=0) rfl;have ai:=aD u.out;clear b v k)
   all_goals (go_wp2_with fail;go_ret)
   all_goals exact Out.ok Q.out (m.out.drew.trans S.out) K.out (PN.mk (JR (JR (JR (JR (JR (JR (JR (JX ⟨rfl,33,_,a,rfl,JR rfl,rfl,rfl,rfl⟩)))))))) (λp hp=>by obtain rfl:=KB.1 hp;exact Prt.ok.node (M.out.grow (λ_ _ _=>rfl) J (JS _))))
 obtain rfl:oo=[]:=by rw[n.out,if_neg f,if_neg t]
 obtain rfl:p=qo:=s.out;have c:Hid (r=aV (bT E C.ts p) (bR E C.ts (C.ts.length+1))):=by show _=_;rw[U.out,if_neg f,if_neg t]
 have z:=aA (ak.out w2 p L.out (by show aV _ _≠_;rw[<-c.out];exact P.out))
 simp only[<-c.out] at z;clear U n B s HM f t O;simp only[bs];go_wp2_with fail;refine z.out.mono ?_;rintro e w3 ⟨A,af⟩;cases r with
 |error l=>
  obtain rfl:e=cA 4 l:=af;have T:=aA (m.out.trans A);clear A;go_wp2_with fail;exact⟨rfl,Out.err rfl T.out⟩
 |ok V=>
  obtain⟨a,q⟩:=V;obtain⟨W,v3,rfl,Z⟩:=af;have T:=aA (m.out.trans A);have ah:=aA W;have aj:=aA Z;clear A W Z;go_wp2_with fail;go_ret;exact Out.ok rfl T.out ah.out (aj.out.grow (λ_ _ _=>rfl) J (JS _))
def AG(C:Ctx)(E:Nat->aR aC)(c:PReads C 108 E)(g:Nat):PReads C 253 (cQ E C.ts g):=by
 induction g with
 |zero=>exact λw p _ a=>absurd rfl a
 |succ g b=>exact wQ C E c g b
end Go.Proofs.YthbffcmfmjpncaaGreatDoor
