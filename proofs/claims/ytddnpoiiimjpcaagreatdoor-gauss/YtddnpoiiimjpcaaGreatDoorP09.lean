/- Contracts of the program: the parser's small steps. -/
import Derived.Test.YtddnpoiiimjpcaaGreatDoorP05
set_option linter.defProp false
set_option maxRecDepth 100000
set_option maxHeartbeats 4000000
namespace Go.Proofs.YtddnpoiiimjpcaaGreatDoor
open Hs
open _root_.Go.Proofs.Tryz
open Go.RowKit
def psort(s:Nat):Nat:=if s=110 then 1 else if s=48 then 2 else if s=115 then 3 else if s=101 then 4 else 0
def pval(t:aX):Nat:=if t.sort=48 then (dK 0 t.text).getD 0 else 0
def ptok(t:aX):List Value:=[Iv0 (psort t.sort),.string (bs t.text),Iv0 (pval t),Iv0 t.line]
def ptoks:List aX->List Value
 |[]=>[]
 |t::ts=>ptok t++ptoks ts
def IS(ts:List aX):(ptoks ts).length=ts.length*4:=by
 induction ts with
 |nil=>rfl
 |cons t ts a=>simp[ptoks,ptok,a];omega
def BA(ts:List aX)(t:aX):ptoks (ts++[t])=ptoks ts++ptok t:=by
 induction ts with
 |nil=>simp[ptoks]
 |cons x ts a=>simp[ptoks,a]
structure PAt(C:Ctx)(w:aH)(p:Nat):Prop where
 blk:w.heap[C.pb]?=some (.cells #[.slice (some (aL C.g 0)) C.ts.length C.cap,Iv0 p] 120 (0,0))
 row:∃cur,w.heap[C.g]?=some (.cells cur 174 (0,0))/\cur.toList.take (C.ts.length*4)=ptoks C.ts
 ne:C.g≠C.pb
 lt:p<C.ts.length
 len:C.ts.length<=3000
 cap:C.ts.length<=C.cap
 all:qP C.ts
 tsk:CW C.ts
def VX(ts:List aX)(p:Nat)(h:p<ts.length):(ptoks ts)[p*4]?=some (Iv0 (psort (aR ts p).sort))/\(ptoks ts)[p*4+1]?=some (.string (bs (aR ts p).text))/\(ptoks ts)[p*4+1+1]?=some (Iv0 (pval (aR ts p)))/\(ptoks ts)[p*4+1+1+1]?=some (Iv0 (aR ts p).line):=by
 induction ts generalizing p with
 |nil=>simp at h
 |cons t ts a=>
  cases p with
  |zero=>simp[ptoks,ptok,aR]
  |succ p=>
   have:=a p (by simpa using h)
   have e:∀j,(ptoks (t::ts))[(p+1)*4+j]?=(ptoks ts)[p*4+j]?:=fun j=>by
    rw[ptoks,j1 (by simp[ptok];omega)]
    congr 1;simp[ptok];omega
   have b:aR (t::ts) (p+1)=aR ts p:=by simp[aR]
   rw[b];exact⟨(e 0).trans this.1,(e 1).trans this.2.1,(e 2).trans this.2.2.1,(e 3).trans this.2.2.2⟩
def PAt.tok{C:Ctx}{w:aH}{p:Nat}(h:PAt C w p):w.cell? (aL C.g (p*4))=some (Iv0 (psort (aR C.ts p).sort))/\w.cell? (aL C.g (p*4+1))=some (.string (bs (aR C.ts p).text))/\w.cell? (aL C.g (p*4+1+1))=some (Iv0 (pval (aR C.ts p)))/\w.cell? (aL C.g (p*4+1+1+1))=some (Iv0 (aR C.ts p).line):=by
 obtain⟨c,k,i⟩:=h.row;obtain⟨m,g,d,f⟩:=VX C.ts p h.lt;have n:=IS C.ts
 have e:∀j v,(ptoks C.ts)[j]?=some v->w.cell? (aL C.g j)=some v:=fun j v a=>by
  have b:j<C.ts.length*4:=by
   by_cases l:j<C.ts.length*4
   ·exact l
   ·rw[j8 (by omega)] at a;cases a
  refine aA k ?_;rw[<-i,i8,if_pos b] at a;simpa using a
 exact⟨e _ _ m,e _ _ g,e _ _ d,e _ _ f⟩
def PAt.keep{C:Ctx}{w w':aH}{p:Nat}(h:PAt C w p)(e:w'.heap[C.pb]?=w.heap[C.pb]?)(c:w'.heap[C.g]?=w.heap[C.g]?):PAt C w' p:=by
 obtain⟨a,d,b⟩:=h.row;exact⟨by rw[e];exact h.blk,⟨a,by rw[c];exact d,b⟩,h.ne,h.lt,h.len,h.cap,h.all,h.tsk⟩
def PAt.below{C:Ctx}{w w':aH}{p:Nat}(h:PAt C w p)(a:Below w.heap.size w w'):PAt C w' p:=by
 obtain⟨b,c,d⟩:=h.row;exact h.keep (a.block _ (aD h.blk)) (a.block _ (aD c))
def PAt.other{C:Ctx}{w:aH}{p b i:Nat}{u:aQ}(h:PAt C w p)(c:b≠C.pb)(a:b≠C.g):PAt C (w.setCell (aL b i) u) p:=
 h.keep (Y6 _ _ _ _ (fun e=>c e.symm)) (Y6 _ _ _ _ (fun e=>a e.symm))
def PAt.g_lt{C:Ctx}{w:aH}{p:Nat}(h:PAt C w p):C.g<w.heap.size:=by obtain⟨_,a,_⟩:=h.row;exact aD a
def PAt.pb_lt{C:Ctx}{w:aH}{p:Nat}(h:PAt C w p):C.pb<w.heap.size:=aD h.blk
def PAt.alloc{C:Ctx}{w:aH}{p:Nat}(h:PAt C w p)(o:Obj):PAt C (w.alloc o) p:=h.below ((Y8 _ _).alloc dH _)
def PAt.drew{C:Ctx}{w:aH}{p:Nat}(h:PAt C w p):PAt C w.drew p:=h.below (Y8 _ _).drew
def nU(t:aX):Value:=.agg #[Iv0 (psort t.sort),.string (bs t.text),Iv0 (pval t),Iv0 t.line]
def RG(pb g h p n:Nat)(w:aH)(a c d:Int)(b:ByteArray)(x:p<n)(_hn:n<=3000)(_hnc:n<=h)(i:pb<w.heap.size)(f:g<w.heap.size)
 (q:w.cell? (aL pb 0)=some (.slice (some (aL g 0)) n h)) (c1:w.cell? (aL pb 1)=some (Iv0 p))
 (l:w.cell? (aL g (p*4))=some (Iv0 a)) (m:w.cell? (aL g (p*4+1))=some (.string b)) (j:w.cell? (aL g (p*4+1+1))=some (Iv0 c)) (k:w.cell? (aL g (p*4+1+1+1))=some (Iv0 d)):
  Calls prog 104 #[bO pb] w fun e r=>e=bE (.agg #[Iv0 a,.string b,Iv0 c,Iv0 d])/\Below w.heap.size w r:=by
 have y:∀o,(w.alloc o).cell? (aL pb 0)=some (.slice (some (aL g 0)) n h):=fun o=>by rw[World.cell?_alloc_past _ _ _ i];exact q
 have t:∀o,(w.alloc o).cell? (aL pb 1)=some (Iv0 p):=fun o=>by rw[World.cell?_alloc_past _ _ _ i];exact c1
 have s:∀o,(w.alloc o).cell? (aL g (p*4))=some (Iv0 a):=fun o=>by rw[World.cell?_alloc_past _ _ _ f];exact l
 have z:∀o,(w.alloc o).cell? (aL g (p*4+1))=some (.string b):=fun o=>by rw[World.cell?_alloc_past _ _ _ f];exact m
 have u:∀o,(w.alloc o).cell? (aL g (p*4+1+1))=some (Iv0 c):=fun o=>by rw[World.cell?_alloc_past _ _ _ f];exact j
 have A:∀o,(w.alloc o).cell? (aL g (p*4+1+1+1))=some (Iv0 d):=fun o=>by rw[World.cell?_alloc_past _ _ _ f];exact k
 clear q c1 l m j k;go_in
 go_wp2_with fail;go_region
 go_wp2
 refine bodyPost_ret (v:=.agg #[Iv0 a,.string b,Iv0 c,Iv0 d]) (by simp[results,results104,go_sem]) rfl ⟨rfl,?_⟩
 exact((Y8 _ _).alloc dH _).drew
def mG(C:Ctx)(w:aH)(p:Nat)(h:PAt C w p):
 Calls prog 104 #[bO C.pb] w fun e a=>e=bE (nU (aR C.ts p))/\Below w.heap.size w a:=
 RG C.pb C.g C.cap p C.ts.length w _ _ _ _ h.lt h.len h.cap (aD h.blk) (by obtain⟨_,b,_⟩:=h.row;exact aD b) (aA h.blk rfl) (aA h.blk rfl) h.tok.1 h.tok.2.1 h.tok.2.2.1 h.tok.2.2.2
abbrev dF(k n:Nat):Ending:=.panicked [{ v:=.iface 117 (.agg #[Iv0 k,Iv0 n]),recovered:=false }]
def gN(k n:Nat)(w:aH):
 Calls prog 107 #[Iv0 k,Iv0 n] w fun e a=>e=dF k n/\a=w:=by
 go_in
 go_wp2_with fail;exact⟨rfl,rfl,rfl⟩
def FO(a c d:Int)(b:ByteArray)(w:aH):(Instr.field 174 (.agg #[Iv0 a,.string b,Iv0 c,Iv0 d]) 3).run prog w=.ok (Iv0 d) w:=by kernel_rfl
def mI(C:Ctx)(w:aH)(p:Nat)(h:PAt C w p):
 Calls prog 167 #[bO C.pb] w fun e f=>e=bE (.agg #[Iv0 (aR C.ts p).line])/\Below w.heap.size w f:=by
 have b:=aB (fun o=>mG C (w.alloc o) p (h.below ((Y8 _ _).alloc dH _)))
 simp only[nU] at b;clear h;go_in
 go_wp2_with fail;refine(b _).mono ?_;rintro e c ⟨rfl,a⟩;obtain⟨i,j⟩:=bcell a;have k:w.heap.size<c.heap.size:=by have:=a.size;simp at this;omega
 have d:=aB a;have g:=FO;clear a b;go_wp2
 refine bodyPost_ret (v:=.agg #[Iv0 (aR C.ts p).line]) (by simp[results,results167,go_sem,i]) rfl ⟨rfl,?_⟩
 exact(((Y8 _ _).alloc dH _).trans (d.mono (by simp))).setCell (by simp) _
def PAt.move{C:Ctx}{w w1:aH}{p:Nat}(h:PAt C w p)(c:Below w.heap.size w w1)(q:Nat)(e:q<C.ts.length):
 PAt C (w1.setCell (aL C.pb 1) (Iv0 q)) q/\Fr C.pb w (w1.setCell (aL C.pb 1) (Iv0 q)):=by
 have b:=h.below c;obtain⟨a,f,d⟩:=b.row;refine⟨⟨?_,⟨a,?_,d⟩,h.ne,e,h.len,h.cap,h.all,h.tsk⟩,Fr.setCell (p:=(aL C.pb 1)) (Fr.below c) (Y4 rfl) _⟩
 ·rw[aT b.blk];rfl
 ·rw[Y6 _ _ _ _ h.ne];exact f
def PAt.cells{C:Ctx}{w w1:aH}{p:Nat}(h:PAt C w p)(b:Below w.heap.size w w1):
 C.pb<w1.heap.size/\w1.cell? (aL C.pb 1)=some (Iv0 p)/\w1.frozen? (aL C.pb 1)=false:=by
 have a:=h.below b;exact⟨aD a.blk,aA a.blk rfl,aE a.blk⟩
def W5{C:Ctx}{w:aH}{p:Nat}(h:PAt C w p)(x:cE):aV C.ts p x=(decide (psort (aR C.ts p).sort=0) && (aR C.ts p).text==x):=by
 unfold aV psort;have:=h.tsk.tk p h.lt;generalize aR C.ts p=t at*;rcases this with h|⟨h,_⟩|h|⟨h,_⟩|h|h<;>simp[h]
def dJ(C:Ctx)(w:World)(p:Nat)(x:ByteArray)(h:PAt C w p):
 Calls prog 187 #[.pointer (some ⟨C.pb,0,none⟩),.string x] w fun e m=>e=.returned (.bool (aV C.ts p x.data.toList))/\PAt C m (if aV C.ts p x.data.toList then p+1 else p)/\Fr C.pb w m:=by
 have i:=aB (W5 h x.data.toList);have g:=aB (mG C w p h);simp only[nU] at g;have v:Hid (aV C.ts p x.data.toList=true->p+1<C.ts.length):=fun e=>h.all.ok.isT h.lt e
 have l:Hid (((bs (aR C.ts p).text).toList==x.toList)=((aR C.ts p).text==x.data.toList)):=by show _=_;rw[cF,Lib.toList_data]
 have r:p<=3000:=by have:=h.lt;have:=h.len;omega
 have H:=aB h;clear h;generalize aV C.ts p x.data.toList=k at*;generalize aR C.ts p=t at*;obtain⟨c,f,s⟩:=t;simp only at i g l;generalize pval ⟨c,f,s⟩=z at*;go_enter func187,ntmps187;go_wp2_with fail;refine g.out.mono ?_;rintro e y ⟨rfl,j⟩;obtain⟨D,B,A⟩:=H.out.cells j;have b:=aB j;clear j g;by_cases n:psort c=0
 ·have q:((psort c:Int) != 0)=false:=by simp;omega
  cases d:(f==x.data.toList)
  ·have u:((bs f).toList==x.toList)=false:=by rw[l.out,d]
   have a:k=false:=by have:=i.out;rw[d] at this;simpa using this
   subst a;go_wp2_with fail;go_ret;exact⟨jB rfl,H.out.below (b.out.alloc b.out.size _),Fr.below (b.out.alloc b.out.size _)⟩
  ·have u:((bs f).toList==x.toList)=true:=by rw[l.out,d]
   have a:k=true:=by have:=i.out;rw[d,n] at this;simpa using this
   subst a;go_wp2_with fail;go_ret;have o:=H.out.move b.out (p+1) (v.out trivial);exact⟨jB rfl,o.1.below ((Y8 _ _).alloc (Z7 _) _),o.2.alloc _⟩
 ·have q:((psort c:Int) != 0)=true:=by simp;omega
  have a:k=false:=by have:=i.out;simp[n] at this;exact this
  subst a;go_wp2_with fail;go_ret;exact⟨jB rfl,H.out.below (b.out.alloc b.out.size _),Fr.below (b.out.alloc b.out.size _)⟩
def gB(C:Ctx)(w:aH)(p:Nat)(x:ByteArray)(h:PAt C w p):
 Calls prog 141 #[bO C.pb,.string x] w fun e k=>Fr C.pb w k/\if aV C.ts p x.data.toList then e=bE (.tuple #[])/\PAt C k (p+1) else e=dF 4 (aR C.ts p).line:=by
 have g:=aB (dJ C w p x h);have H:=aB h;clear h;cases d:aV C.ts p x.data.toList
 ·rw[d] at g;go_in
  go_wp2_with fail;refine g.mono ?_;rintro e j ⟨rfl,a,b⟩;have l:=aB (mG C j p a);simp only[nU] at l;have c:=aB b;have o:=FO;clear b a;go_wp2_with fail;refine l.mono ?_;rintro e r ⟨rfl,f⟩;have m:=aB f;clear f;go_wp2_with (go_at_call 107;refine(gN 4 (aR C.ts p).line _).mono ?_;rintro e q ⟨rfl,n⟩;obtain rfl:=n.symm)
  exact⟨rfl,c.trans (Fr.below m),rfl⟩
 ·rw[d] at g;go_in
  go_wp2_with fail;refine g.mono ?_;rintro e j ⟨rfl,a,b⟩;have c:=aB b;have i:=aB a;clear b a;go_wp2
  go_end0;exact⟨c,rfl,i⟩
def WA(t:aX):psort t.sort=1↔t.sort=110:=by
 unfold psort;split<;>(try split)<;>(try split)<;>(try split)<;>simp_all
def mH(C:Ctx)(w:aH)(p:Nat)(h:PAt C w p):
 Calls prog 142 #[bO C.pb] w fun e s=>Fr C.pb w s/\if (aR C.ts p).sort==110 then e=bE (.agg #[Iv0 (aR C.ts p).line,.string (bs (aR C.ts p).text)])/\PAt C s (p+1) else e=dF 4 (aR C.ts p).line:=by
 have d:=aB (fun o=>mG C (w.alloc o) p (h.below ((Y8 _ _).alloc dH _)))
 simp only[nU] at d;have l:Hid ((aR C.ts p).sort=110->p+1<C.ts.length):=fun e=>h.all.ok.next p h.lt (by rw[e];decide)
 have i:=aB (WA (aR C.ts p));have F:p<=3000:=by have:=h.lt;have:=h.len;omega
 have H:=aB h;have B:C.pb<w.heap.size:=aD h.blk;have g:w.heap.size≠C.g:=by have:=h.g_lt;omega
 clear h;generalize aR C.ts p=t at*;obtain⟨f,y,q⟩:=t;simp only at d l i;simp only;generalize pval ⟨f,y,q⟩=M at*;generalize psort f=u at*;by_cases c:f=110
 ·obtain rfl:u=1:=i.2 c;have r:=l c;rw[show (f==110)=true by simpa using c]
  clear c i l;go_in
  go_wp2_with fail;refine(d _).mono ?_;rintro e m ⟨rfl,b⟩;have a:=((Y8 _ _).alloc dH _).trans (b.mono (by simp))
  obtain⟨J,E,D⟩:=H.cells a;obtain⟨A,I⟩:=bcell b;have x:w.heap.size<m.heap.size:=by have:=b.size;simp at this;omega
  have k:=aB a;clear b a d;have n:¬C.pb=w.heap.size:=by omega
  have j:¬w.heap.size=C.pb:=by omega
  go_wp2_with fail;have z:=H.move k (p+1) r;refine bodyPost_ret (v:=.agg #[Iv0 q,.string (bs y)]) (by simp[results,results142,go_sem,World.cell?_alloc_past,x,A]) rfl ?_
  refine⟨((z.2.setCell (p:=(aL w.heap.size 0)) (Y3 dH) _).setCell (p:=(aL w.heap.size 1)) (Y3 dH) _).alloc _,rfl,?_⟩;exact((z.1.other (by omega) g).other (by omega) g).below ((Y8 _ _).alloc dH _)
 ·have K:((u:Int) != 1)=true:=by simp;intro e;exact c (i.1 (by omega))
  rw[show (f==110)=false by simpa using c]
  clear c i l;go_in
  go_wp2_with fail;refine(d _).mono ?_;rintro e m ⟨rfl,b⟩;have a:=((Y8 _ _).alloc dH _).trans (b.mono (by simp))
  obtain⟨J,E,D⟩:=H.cells a;obtain⟨A,I⟩:=bcell b;have x:w.heap.size<m.heap.size:=by have:=b.size;simp at this;omega
  have k:=aB a;clear b a d;have n:¬C.pb=w.heap.size:=by omega
  have j:¬w.heap.size=C.pb:=by omega
  go_wp2_with (go_at_call 107;refine(gN 4 q _).mono ?_;rintro e L ⟨rfl,G⟩;obtain rfl:=G.symm)
  exact⟨rfl,Fr.below (k.alloc k.size _),rfl⟩
def uM(R:Value->aC->Prop)(F:cC)(w:aH)(kv:aQ)(ks:List aC):Prop:=
 (kv=bV/\ks=[])\/
 ∃g cap cur vs,kv=.slice (some (aL g 0)) ks.length cap/\F g/\w.heap[g]?=some (.cells cur 74 (0,0))/\ks.length<=cap/\cur.toList.take ks.length=vs/\jZ R vs ks
structure Prt where
 v:Value
 ks:List aC
 one:Bool
def sI(R:Value->aC->Prop)(F:cC)(w:aH)(p:Prt):Prop:=
 (p.one=true/\∃a,p.ks=[a]/\R p.v a)\/(p.one=false/\uM R F w p.v p.ks)
def Shape(T:TypeId)(cs:Array Value)(a:aC)(ps:List Prt):Prop:=
 (T=279/\∃k,cs= #[Iv0 a.line,Iv0 (k:Nat)]/\a.op=[48]/\dK 0 a.text=some k/\a.kids=[]/\ps=[])\/
 (T=280/\cs= #[Iv0 a.line,.string (bs a.text)]/\a.op=[115]/\a.kids=[]/\ps=[])\/
 (T=282/\cs= #[Iv0 a.line,.bool (a.text==[116,114,117,101])]/\a.op=[98,111,111,108]/\a.kids=[]/\ps=[])\/
 (T=229/\∃sv,cs= #[Iv0 a.line,sv]/\a.op=[108,105,115,116]/\ps=[⟨sv,a.kids,false⟩])\/
 (T=224/\∃sv,cs= #[Iv0 a.line,.string (bs a.text),sv]/\a.op=[99,97,108,108]/\ps=[⟨sv,a.kids,false⟩])\/
 (T=227/\cs= #[Iv0 a.line,.string (bs a.text)]/\a.op=[110,97,109,101]/\a.kids=[]/\ps=[])\/
 (T=231/\∃l v1 v2 a1 a2,cs= #[Iv0 (l:Nat),v1,v2]/\a.op=[105,110,100,101,120]/\a.kids=[a1,a2]/\ps=[⟨v1,[a1],true⟩,⟨v2,[a2],true⟩])\/
 (T=233/\∃o v1 a1,cs= #[Iv0 a.line,.string (bs [o]),v1]/\(o=45\/o=33)/\a.op=[o,120]/\a.kids=[a1]/\ps=[⟨v1,[a1],true⟩])\/
 (T=235/\∃l v1 v2 a1 a2,cs= #[Iv0 (l:Nat),.string (bs a.op),v1,v2]/\cB a.op≠9/\a.kids=[a1,a2]/\ps=[⟨v1,[a1],true⟩,⟨v2,[a2],true⟩])\/
 (T=210/\∃v1 t a1,cs= #[Iv0 a.line,Iv0 t.line,.string (bs t.text),v1]/\a.op=[118,97,114]/\a.kids=[t,a1]/\ps=[⟨v1,[a1],true⟩])\/
 (T=213/\∃sv v1 l a1,cs= #[Iv0 a.line,.string (bs a.text),sv,v1]/\a.op=[115,101,116]/\a.kids=l++[a1]/\ps=[⟨sv,l,false⟩,⟨v1,[a1],true⟩])\/
 (T=217/\∃v1 s1 a1 b1,cs= #[Iv0 a.line,v1,s1,bV]/\a.op=[105,102]/\b1.op=[98,108,111,99,107]/\a.kids=[a1,b1]/\ps=[⟨v1,[a1],true⟩,⟨s1,b1.kids,false⟩])\/
 (T=217/\∃v1 s1 s2 a1 b1 b2,cs= #[Iv0 a.line,v1,s1,s2]/\a.op=[105,102]/\b1.op=[98,108,111,99,107]/\b2.op=[98,108,111,99,107]/\a.kids=[a1,b1,b2]/\ps=[⟨v1,[a1],true⟩,⟨s1,b1.kids,false⟩,⟨s2,b2.kids,false⟩])\/
 (T=219/\∃v1 s1 a1 b1,cs= #[Iv0 a.line,v1,s1]/\a.op=[119,104,105,108,101]/\b1.op=[98,108,111,99,107]/\a.kids=[a1,b1]/\ps=[⟨v1,[a1],true⟩,⟨s1,b1.kids,false⟩])\/
 (T=221/\∃l,cs= #[Iv0 a.line,.iface 279 (.agg #[Iv0 (l:Nat),Iv0 0])]/\a.op=[114,101,116,117,114,110]/\a.kids=[]/\ps=[])\/
 (T=221/\∃v1 a1,cs= #[Iv0 a.line,v1]/\a.op=[114,101,116,117,114,110]/\a.kids=[a1]/\ps=[⟨v1,[a1],true⟩])\/
 (T=222/\∃v1 a1,cs= #[Iv0 a.line,v1]/\a.op=[112,114,105,110,116]/\a.kids=[a1]/\ps=[⟨v1,[a1],true⟩])\/
 (T=224/\∃sv c,cs= #[Iv0 c.line,.string (bs c.text),sv]/\a.op=[100,111]/\a.line=c.line/\a.text=c.text/\a.kids=[c]/\c.op=[99,97,108,108]/\ps=[⟨sv,c.kids,false⟩])
def PND:Nat->(Nat->Prop)->World->Value->aC->Prop
 |0,_,_,_,_=>False
 |d+1,F,w,v,a=>∃T cs ps,v=.iface T (.agg cs)/\Shape T cs a ps/\∀p∈ps,sI (PND d F w) F w p
def PN(F:cC)(w:aH)(v:aQ)(a:aC):Prop:=∃d,PND d F w v a
def uM.mono{R S:Value->aC->Prop}{F G:cC}{w:aH}{e:aQ}{ks:List aC}(h:uM R F w e ks)(p:∀v a,R v a->S v a)(m:∀b,F b->G b):uM S G w e ks:=by
 rcases h with h|⟨g,c,d,i,k,f,n,j,l,o⟩
 ·exact Y4 h
 ·exact Y3 ⟨g,c,d,i,k,m _ f,n,j,l,o.mono p⟩
def uM.keep{R:Value->aC->Prop}{F:cC}{w w':aH}{e:aQ}{ks:List aC}(h:uM R F w e ks)(f:∀b,F b->w'.heap[b]?=w.heap[b]?):uM R F w' e ks:=by
 rcases h with h|⟨g,a,c,i,k,d,m,j,l,n⟩
 ·exact Y4 h
 ·exact Y3 ⟨g,a,c,i,k,d,by rw[f g d];exact m,j,l,n⟩
def sI.mono{R S:Value->aC->Prop}{F G:cC}{w:aH}{p:Prt}(h:sI R F w p)(e:∀v a,R v a->S v a)(g:∀b,F b->G b):sI S G w p:=by
 rcases h with ⟨d,a,c,f⟩|⟨d,c⟩
 ·exact Y4 ⟨d,a,c,e _ _ f⟩
 ·exact Y3 ⟨d,c.mono e g⟩
def sI.keep{R:Value->aC->Prop}{F:cC}{w w':aH}{p:Prt}(h:sI R F w p)(a:∀b,F b->w'.heap[b]?=w.heap[b]?):sI R F w' p:=by
 rcases h with h|⟨d,c⟩
 ·exact Y4 h
 ·exact Y3 ⟨d,c.keep a⟩
def PND.mono{F G:cC}{w:aH}(c:∀b,F b->G b):∀{d e:Nat} {v a},PND d F w v a->d<=e->PND e G w v a
 |_+1,_+1,_,_,⟨T,k,g,l,j,m⟩,i=>⟨T,k,g,l,j,fun p f=>(m p f).mono (fun _ _ h=>PND.mono c h (by omega)) c⟩
 |0,_,_,_,h,_=>h.elim
def PND.keep{F:cC}{w w':aH}(c:∀b,F b->w'.heap[b]?=w.heap[b]?):∀{d:Nat} {v a},PND d F w v a->PND d F w' v a
 |_+1,_,_,⟨T,i,f,j,g,k⟩=>⟨T,i,f,j,g,fun p e=>((k p e).mono (fun _ _ h=>PND.keep c h) eD).keep c⟩
def PN.mono{F G:cC}{w:aH}{v:aQ}{a:aC}(h:PN F w v a)(c:∀b,F b->G b):PN G w v a:=by
 obtain⟨d,h⟩:=h;exact⟨d,h.mono c dH⟩
def PN.keep{F:cC}{w w':aH}{v:aQ}{a:aC}(h:PN F w v a)(c:∀b,F b->w'.heap[b]?=w.heap[b]?):PN F w' v a:=by
 obtain⟨d,h⟩:=h;exact⟨d,h.keep c⟩
def PN.form{F:cC}{w:aH}{v:aQ}{a:aC}(h:PN F w v a):∃T b,v=.iface T (.agg b):=by
 obtain⟨d,h⟩:=h;cases d with
 |zero=>exact h.elim
 |succ d=>obtain⟨T,b,_,c,_⟩:=h;exact⟨T,b,c⟩
def jZ.pdepth{F:cC}{w:aH}:∀{vs ks},jZ (PN F w) vs ks->∃d,jZ (PND d F w) vs ks
 |[],[],_=>⟨0,trivial⟩
 |_::_,_::_,⟨⟨d,b⟩,a⟩=>by
  obtain⟨e,c⟩:=jZ.pdepth a;exact⟨max d e,b.mono eD (Nat.le_max_left _ _),c.mono fun _ _ h=>h.mono eD (Nat.le_max_right _ _)⟩
 |[],_::_,h=>h.elim
 |_::_,[],h=>h.elim
def Prt.ok(F:cC)(w:aH)(p:Prt):Prop:=sI (PN F w) F w p
def Prt.ok.depth{F:cC}{w:aH}{p:Prt}(h:p.ok F w):∃d,sI (PND d F w) F w p:=by
 rcases h with ⟨b,a,e,d,i⟩|⟨b,h|⟨g,f,c,l,j,e,i,m,o,k⟩⟩
 ·exact⟨d,Y4 ⟨b,a,e,i⟩⟩
 ·exact⟨0,Y3 ⟨b,Y4 h⟩⟩
 ·obtain⟨d,n⟩:=k.pdepth;exact⟨d,Y3 ⟨b,Y3 ⟨g,f,c,l,j,e,i,m,o,n⟩⟩⟩
def Prt.ok.all{F:cC}{w:aH}:∀{ps:List Prt},(∀p∈ps,p.ok F w)->∃d,∀p∈ps,sI (PND d F w) F w p
 |[],_=>⟨0,fun p b=>by cases b⟩
 |p::ps,h=>by
  obtain⟨d,f⟩:=(h p (j0 ..)).depth;obtain⟨e,c⟩:=Prt.ok.all (ps:=ps) fun q a=>h q (b8 _ a)
  refine⟨max d e,fun q a=>?_⟩
  rcases Z6.1 a with rfl|a
  ·exact f.mono (fun _ _ h=>h.mono eD (Nat.le_max_left _ _)) eD
  ·exact(c q a).mono (fun _ _ h=>h.mono eD (Nat.le_max_right _ _)) eD
def PN.mk{F:cC}{w:aH}{T:TypeId}{cs:Array Value}{a:aC}{ps:List Prt}(h:Shape T cs a ps)(b:∀p∈ps,p.ok F w):PN F w (.iface T (.agg cs)) a:=by
 obtain⟨d,c⟩:=Prt.ok.all b;exact⟨d+1,T,cs,ps,rfl,h,c⟩
def Prt.ok.node{F:cC}{w:aH}{v:aQ}{a:aC}(h:PN F w v a):Prt.ok F w ⟨v,[a],true⟩:=Y4 ⟨rfl,a,rfl,h⟩
def PKid(F:cC)(w:aH)(kv:aQ)(ks:List aC):Prop:=uM (PN F w) F w kv ks
def Prt.ok.list{F:cC}{w:aH}{v:aQ}{l:List aC}(h:PKid F w v l):Prt.ok F w ⟨v,l,false⟩:=Y3 ⟨rfl,h⟩
def PKid.keep{F G:cC}{w w':aH}{c:aQ}{ks:List aC}(h:PKid F w c ks)(a:∀b,F b->w'.heap[b]?=w.heap[b]?)(d:∀b,F b->G b):PKid G w' c ks:=
 (uM.mono h (fun _ _ h=>(h.keep a).mono d) eD).keep a |>.mono (fun _ _ h=>h) d
def PN.grow{lo d lo' hi':Nat}{w w':aH}{v:aQ}{a:aC}(h:PN (Btw lo d) w v a)(e:∀k,lo<=k->k<d->w'.heap[k]?=w.heap[k]?)(g:lo'<=lo)(f:d<=hi'):PN (Btw lo' hi') w' v a:=
 (h.keep fun b c=>e b c.1 c.2).mono fun _ c=>⟨Z4 g c.1,Y7 c.2 f⟩
def PKid.grow{lo c lo' hi':Nat}{w w':aH}{v:aQ}{l:List aC}(h:PKid (Btw lo c) w v l)(d:∀k,lo<=k->k<c->w'.heap[k]?=w.heap[k]?)(f:lo'<=lo)(e:c<=hi'):PKid (Btw lo' hi') w' v l:=
 h.keep (fun b a=>d b a.1 a.2) fun _ a=>⟨Z4 f a.1,Y7 a.2 e⟩
def BO:(prog.info? 74).map (fun i=>(i.zero,i.size,i.bytes))=some (some .nilIface,1,16):=by kernel_rfl
def PLst(base:Nat)(w:aH)(v:aQ)(acc:List aC):Prop:=
 ∃vs F,w.ownsRow base 74 1 v acc.length vs/\jZ (PN F w) vs acc/\∀b,F b->base<=b/\b<w.heap.size/\v.ownBlock≠some b
def PLst.nil(base:Nat)(w:aH):PLst base w (bV) []:=⟨[],fun _=>False,World.ownsRow_nil _ _ _ _,trivial,fun _ h=>h.elim⟩
def PLst.slice{base:Nat}{w:aH}{v:aQ}{acc:List aC}(h:PLst base w v acc):∃x c,v=.slice x acc.length c:=by
 obtain⟨i,F,f,_⟩:=h;rcases f.2 with ⟨a,d⟩|⟨g,b,e,a,_⟩
 ·exact⟨none,0,by rw[a,d]⟩
 ·exact⟨_,b,a⟩
def PLst.keep{base pb:Nat}{w w1:aH}{v:aQ}{acc:List aC}(h:PLst base w v acc)(c:Fr pb w w1)(j:pb<base):PLst base w1 v acc:=by
 obtain⟨g,F,d,i,e⟩:=h;refine⟨g,F,bA d fun k f=>?_,i.mono fun _ _ h=>h.keep fun b a=>?_,fun b a=>?_⟩
 ·have:=cM d k f;exact c.block k (cP d k f) (by omega)
 ·have:=e b a;have:=c.size;exact⟨by omega,by omega,(e b a).2.2⟩
 ·have:=e b a;exact c.block b this.2.1 (by omega)
def PLst.snoc{base lo:Nat}{w r o:aH}{v:aQ}{acc:List aC}{p:aQ}{a:aC}{g m:Nat}{vs:List Value}{F:cC}(t:jZ (PN F w) vs acc)(z:∀b,F b->base<=b/\b<w.heap.size/\v.ownBlock≠some b)
 (y:PN (Btw lo w.heap.size) w p a) (A:base<=lo) (n:∀k,v.ownBlock=some k->k<lo) (q:∀k,k<w.heap.size->r.heap[k]?=w.heap[k]?) (x:w.heap.size<=r.heap.size)
 (l:o.ownsRow base 74 1 (.slice (some (aL g 0)) (acc.length+1) m) (acc.length+1) (vs++[p]))
 (f:r.grownBy o v.ownBlock) (j:v.ownBlock=some g\/w.heap.size<=g):PLst base o (.slice (some (aL g 0)) (acc.length+1) m) (acc++[a]):=by
 have s:∀b,(F b\/Btw lo w.heap.size b)->base<=b/\b<w.heap.size/\v.ownBlock≠some b:=by
  rintro b (i|i)
  ·exact z b i
  ·exact⟨by have:=i.1;omega,i.2,fun e=>by have:=n b e;have:=i.1;omega⟩
 have c:∀b,(F b\/Btw lo w.heap.size b)->o.heap[b]?=w.heap[b]?:=fun b i=>by
  have d:=s b i;rw[f.block b (by omega) (fun e=>d.2.2 e.symm),q b d.2.1]
 refine⟨vs++[p],fun b=>F b\/Btw lo w.heap.size b,?_,?_,?_⟩
 ·rw[Y5];exact l
 ·exact jZ.snoc (t.mono fun _ _ h=>(h.mono (fun _=>Y4)).keep c) ((y.mono (fun _=>Y3)).keep c)
 ·intro b i;have d:=s b i;have:=f.size;refine⟨d.1,by omega,fun e=>?_⟩
  have u:g=b:=Option.some.inj e;rcases j with j|j
  ·exact d.2.2 (by rw[j,u])
  ·omega
def PLst.kid{base:Nat}{w:aH}{v:aQ}{acc:List aC}(h:PLst base w v acc):PKid (Btw base w.heap.size) w v acc:=by
 obtain⟨m,F,o,k,j⟩:=h;rcases o.2 with ⟨a,e⟩|⟨g,c,d,a,e,f,l,q,p,n⟩
 ·exact Y4 ⟨a,i7 e⟩
 ·exact Y3 ⟨g,c,d,m,a,⟨e,aD f⟩,f,l,by rw[<-n,Nat.mul_one],k.mono fun _ _ h=>h.mono fun b i=>⟨(j b i).1,(j b i).2.1⟩⟩
def PAt.grown{C:Ctx}{w w':aH}{p:Nat}{a:Option Nat}{base:Nat}(h:PAt C w p)(c:w.grownBy w' a)(b:∀k,a=some k->base<=k)(f:C.pb<base)(d:C.g<base):PAt C w' p:=
 h.keep (c.block _ h.pb_lt fun e=>by have:=b _ e.symm;omega) (c.block _ h.g_lt fun e=>by have:=b _ e.symm;omega)
def Out{α:Type}(C:Ctx)(w:aH)(r:bX α)(P:World->Value->α->Prop)(e:Ending)(w':aH):Prop:=
 Fr C.pb w w'/\match r with
  |.ok (a,q)=>PAt C w' q/\∃v,e=bE v/\P w' v a
  |.error l=>e=dF 4 l
def EY(C:Ctx)(w:aH)(r:bX aC)(e:Ending)(w':aH):Prop:=Out C w r (fun w' v a=>PN (Btw w.heap.size w'.heap.size) w' v a) e w'
def PReads(C:Ctx)(F:Nat)(X:Nat->bX aC):Prop:=∀w p,PAt C w p->X p≠.error 0->Calls prog F #[bO C.pb] w (EY C w (X p))
def nH(ts:List aX)(p:Nat)(l:cO):cE:=(l.find? fun x=>aV ts p x).getD []
def FP(C:Ctx)(w:aH)(p:Nat)(l:cO)(g G:Nat)(Q:g<w.heap.size)(I:g≠C.pb)(hl:l.length<=100)(s:∀x∈l,x≠[])(W:∀i (hi:i<l.length),w.cell? (aL g i)=some (.string (bs l[i])))(h:PAt C w p):
 Calls prog 168 #[bO C.pb,.slice (some (aL g 0)) l.length G] w fun e P=>e=bE (.string (bs (nH C.ts p l)))/\PAt C P (if nH C.ts p l=[] then p else p+1)/\Fr C.pb w P:=by
 have HC:=aB W;have H:=aB h;have K:=aB s;clear W h s;generalize r:(if nH C.ts p l=[] then p else p+1)=T
 generalize B:nH C.ts p l=V at*;have S:=aB r;have A:=aB B;clear r B;go_in
 go_wp2_with fail;go_loopg [6,9] l.length (fun gk m i wr=>∃k:Nat,k+gk=l.length/\i=Iv0 k/\Fr C.pb w wr/\PAt C wr p/\Hid (∀x∈l.take k,aV C.ts p x=false))
 case atStart=>exact⟨0,by omega,rfl,Fr.refl _ _,H,fun x hx=>by simp at hx⟩
 case round=>
  obtain⟨k,Y,rfl,a,c,q⟩:=hrel;by_cases f:k<l.length
  ·obtain⟨j,rfl⟩:∃j,gk=j+1:=⟨gk-1,by omega⟩
   have J:wr.cell? (aL g k)=some (.string (bs l[k])):=(wF (a.block g Q I)).trans (HC k f);have aa:g<wr.heap.size:=Y7 Q a.size;have D:=aB (dJ C wr p (bs l[k]) c);have O:(bs l[k]).data.toList=l[k]:=by simp[bs]
   rw[O] at D
   have L:Hid (l=l.take k++l[k]::l.drop (k+1)):=by
    show _=_
    rw[y6,l8]
   have F:Hid (∀y∈l.take (k+1),y∈l.take k\/y=l[k]):=fun y U=>by
    rw[i6 f] at U;rcases Z2.1 U with h|h
    ·exact Y4 h
    ·exact Y3 (Z1.1 h)
   have v:l[k]≠[]:=K _ (e8 f);have N:=aB v;have E:=aB a;clear c a O v;generalize l[k]=y at*;cases b:aV C.ts p y
   ·rw[b] at D
    have M:Hid (∀z∈l.take (k+1),aV C.ts p z=false):=fun z t=>by
     rcases F z t with h|h
     ·exact q.out z h
     ·rw[h];exact b
    clear q F L b;go_wp2_with fail;refine D.mono ?_;rintro e X ⟨rfl,d,o⟩;go_wp2
    go_roundg j
    case measure=>omega
    case rel=>exact⟨k+1,by omega,by go_num,E.trans o,d,M⟩
   ·rw[b] at D
    have u:Hid (V=y):=by
     show _=_
     rw[<-A.out];unfold nH;rw[L.out,List.find?_append,ad_.2 (by intro z t;simpa using q.out z t)]
     simp[b]
    clear q F L b;go_wp2_with fail;refine D.mono ?_;rintro e X ⟨rfl,d,o⟩;go_wp2
    go_ret;have n:T=p+1:=by rw[<-S.out,u.out,if_neg N.out]
    rw[u.out,n];exact⟨rfl,d,E.trans o⟩
  ·have u:Hid (V=[]):=by
    show _=_
    rw[<-A.out];unfold nH;rw[ad_.2]
    ·rfl
    ·intro z t;simpa using q.out z (by rw[j7 (by omega)];exact t)
   have E:=aB a;have Z:=aB c;clear q a c;go_wp2
   go_ret;have n:T=p:=by rw[<-S.out,u.out,if_pos rfl]
   rw[u.out,n];exact⟨rfl,Z,E⟩
def Out.err{a:Type}{C:Ctx}{w w':aH}{r:bX a}{P:World->Value->a->Prop}{l:Nat}(c:r=.error l)(b:Fr C.pb w w'):Out C w r P (dF 4 l) w':=by
 subst c;exact⟨b,rfl⟩
def Out.ok{b:Type}{C:Ctx}{w w':aH}{r:bX b}{P:World->Value->b->Prop}{a:b}{q:Nat}{v:aQ}(f:r=.ok (a,q))(d:Fr C.pb w w')(e:PAt C w' q)(c:P w' v a):Out C w r P (bE v) w':=by
 subst f;exact⟨d,e,v,rfl,c⟩
def nK{b:Type}{ts:List aX}{x:cE}{a:b}{q:Nat}(h:aV ts q x=true):aM ts x (.ok (a,q):bX b)=.ok (a,q+1):=by
 unfold aM;simp only;rw[if_pos h]
def wK{b:Type}{ts:List aX}{x:cE}{a:b}{q:Nat}(h:aV ts q x=false):aM ts x (.ok (a,q):bX b)=.error (aR ts q).line:=by
 unfold aM;simp only;rw[if_neg (by rw[h];simp)];rfl
def qZ(w:aH)(v:aQ):∀j u,([v]:List Value)[j]?=some u->(w.alloc (.cells #[v] 74)).cell? ((⟨w.heap.size,0,none⟩:Addr).add j)=some u:=by
 intro j u a;match j,a with
 |0,a=>simp at a;subst a;simp[Addr.add,go_sem]
 |j+1,a=>simp at a
def uB(T:TypeId)(cs:Array Value):∀u∈([.iface T (.agg cs)]:List Value),u.oneCell'=true:=by
 intro u a;simp at a;subst a;rfl
def X8(C:Ctx)(w:aH)(r:bX (List aC))(e:Ending)(w':aH):Prop:=Out C w r (fun w' v l=>PKid (Btw w.heap.size w'.heap.size) w' v l) e w'
def U7(C:Ctx)(E:Nat->bX aC)(w:aH)(r0:bX (List aC))(k:Nat)(v:aQ)(wr:aH):Prop:=
 Fr C.pb w wr/\∃q acc,PAt C wr q/\r0=(if aV C.ts q [44] then dN E C.ts k (q+1) acc else .ok (acc,q))/\acc.length+k<=4000/\PLst w.heap.size wr v acc
def sL(C:Ctx)(E:Nat->bX aC)(HE:PReads C 88 E)(w:aH)(p:Nat)(y:ByteArray)(h:PAt C w p)(N r:bX (List aC))(W:Hid (N=iB E C.ts p y.data.toList))(hr:Hid (r=aM C.ts y.data.toList N))(al:N≠.error 0):
 Calls prog 221 #[bO C.pb,.string y] w (X8 C w r):=by
 obtain⟨i0,hi,ap,bd,ba⟩:=info_parts BO;have HA:=aB (dJ C w p y h);have H:=aB h;have bc:=aB HE;have ah:=aB al;have bo:=h.len;have x:=h.pb_lt;have bg:=h.g_lt;clear h HE al;cases b:aV C.ts p y.data.toList
 ·rw[b] at HA;have z:Hid (N=dN E C.ts (C.ts.length+1) p []):=by show _=_;rw[W.out];unfold iB;rw[b];rfl
  clear b W;go_in
  go_wp2_with fail;refine HA.mono ?_;rintro e w1 ⟨rfl,X,aa⟩;have D:E p≠.error 0:=fun e=>ah (by rw[z.out,dN,e])
  have HX:=aB (bc w1 p X D);have P:=aB aa;clear X aa D;go_wp2_with fail;refine HX.mono ?_;rintro e w2 O;cases m:E p with
  |error l=>
   rw[m] at O;obtain⟨B,rfl⟩:=O;have HL:Hid (r=.error l):=by show _=_;rw[hr.out,z.out,dN,m];rfl
   have Z:=aB (P.trans B);clear B HX;go_wp2_with fail;exact⟨rfl,Out.err HL Z⟩
  |ok aq=>
   obtain⟨a,q⟩:=aq;rw[m] at O;obtain⟨B,az,v,rfl,hn⟩:=O;obtain⟨T,cs,rfl⟩:=hn.form;have aw:Hid (N=(if aV C.ts q [44] then dN E C.ts C.ts.length (q+1) [a] else .ok ([a],q))):=by show _=_;rw[z.out,dN,m];rfl
   have Z:=aB (P.trans B);have ao:=aB az;have HN:=aB hn;have bz:=P.size;have br:=B.size;clear az B hn HX z P;go_wp2_with (at_builtin;refine wpList_append_lies _ (by rfl) _ _ 181 (by rfl) w.heap.size 74 i0 _ 1 16 underlying181 hi ap bd ba rfl (by decide) (bV) 0 [] (by rfl) (World.ownsRow_nil _ _ _ _) (aL w2.heap.size 0) 1 1 [.iface T (.agg cs)] (by rfl) (by rfl) (qZ _ _) (uB _ _) (by decide) (by unfold maxLen;omega) (by omega) (by simp;omega) (w2.heap.size+1) (by simp) ?_)
   intro g ca w3 G f ac bv;have bb:=aB (PLst.snoc (base:=w.heap.size) (lo:=w1.heap.size) (F:=fun _=>False) (vs:=[]) (acc:=[]) (v:=bV) trivial (fun _ h=>h.elim) HN (by omega) (fun k Q=>by cases Q) (fun k Q=>Z3 _ _ _ Q) (by simp) G f (ac.imp_right (fun e=>by omega)))
   have ar:=aB ((ao.alloc _).grown (base:=w.heap.size) f (fun k Q=>by cases Q) x bg)
   have bf:=aB ((Z.alloc _).grown f (fun k Q=>by cases Q))
   clear G f ac HN ao Z;go_wp2_with fail;go_loopg [5] C.ts.length (fun k v wr=>U7 C E w N k v wr)
   case atStart=>exact⟨bf,q,[a],ar,aw,by simp;omega,bb⟩
   case round=>
    obtain⟨ae,u,j,an,Y,bu,ai⟩:=hrel;obtain⟨x4,c4,rfl⟩:=ai.slice;have A:=aB (dJ C wr u ⟨#[44]⟩ an);have ay:=aB ae;have V:=aB ai;have bx:=ae.size;clear ae an ai bb ar bf aw;cases b:aV C.ts u [44]
    ·have o:aV C.ts u (⟨#[44]⟩:ByteArray).data.toList=false:=b;rw[o] at A;have n:Hid (N=.ok (j,u)):=by show _=_;rw[Y,b];rfl
     clear b o Y;go_wp2_with fail;refine A.mono ?_;rintro e w5 ⟨rfl,M,i⟩;have af:=aB (gB C w5 u y M);have K:=aB (ay.trans i);have s:=aB (V.keep i x);have bj:=i.size;clear M i A V;go_wp2_with fail;refine af.mono ?_;rintro e w6 ⟨c,U⟩;have t:=aB (K.trans c);have au:=aB (s.keep c x);cases b:aV C.ts u y.data.toList
     ·rw[b] at U;obtain rfl:e=dF 4 (aR C.ts u).line:=U;have HL:Hid (r=.error (aR C.ts u).line):=by show _=_;rw[hr.out,n.out];exact wK b
      clear c af b au s;go_wp2_with fail;exact⟨rfl,Out.err HL t⟩
     ·rw[b] at U;obtain⟨rfl,J⟩:=U;have HL:Hid (r=.ok (j,u+1)):=by show _=_;rw[hr.out,n.out];exact nK b
      have S:=aB J;clear c af b J s;go_wp2
      go_ret;exact Out.ok HL t S au.kid
    ·have o:aV C.ts u (⟨#[44]⟩:ByteArray).data.toList=true:=b;rw[o] at A;have n:Hid (N=dN E C.ts gk (u+1) j):=by show _=_;rw[Y,b];rfl
     clear b o Y
     obtain⟨k,rfl⟩:∃k,gk=k+1:=by
      cases gk with
      |zero=>exact absurd n ah
      |succ k=>exact⟨k,rfl⟩
     go_wp2_with fail;refine A.mono ?_;rintro e w5 ⟨rfl,M,i⟩;have D:E (u+1)≠.error 0:=fun e=>ah (by rw[n.out,dN,e])
     have HX:=aB (bc w5 (u+1) M D);have K:=aB (ay.trans i);have s:=aB (V.keep i x);have bj:=i.size;clear M i A V D;go_wp2_with fail;refine HX.mono ?_;rintro e w6 O;cases m:E (u+1) with
     |error l=>
      rw[m] at O;obtain⟨c,rfl⟩:=O;have HL:Hid (r=.error l):=by show _=_;rw[hr.out,n.out,dN,m];rfl
      have t:=aB (K.trans c);clear c HX;go_wp2_with fail;exact⟨rfl,Out.err HL t⟩
     |ok bl=>
      obtain⟨a6,q6⟩:=bl;rw[m] at O;obtain⟨c,J,v6,rfl,ag⟩:=O;obtain⟨T6,bh,rfl⟩:=ag.form;have bn:Hid (N=(if aV C.ts q6 [44] then dN E C.ts k (q6+1) (j++[a6]) else .ok (j++[a6],q6))):=by show _=_;rw[n.out,dN,m]
      obtain⟨vs,F,L,ab,ax⟩:=s.keep c x
      have be:∀g,(Value.slice x4 j.length c4).ownBlock=some g->g<w5.heap.size:=by
       obtain⟨bt,F',ak,_⟩:=s;exact cP ak
      have am:=aB be;have t:=aB (K.trans c);have S:=aB J;have av:=aB ag;have HALL:=aB (j6 ab ax);have bq:=c.size;have aj:∀k,(Value.slice x4 j.length c4).ownBlock=some k->w.heap.size<=k:=cM L;clear J c ag HX n s K ab ax be;go_wp2_with (at_builtin;refine wpList_append_lies _ (by rfl) _ _ 181 (by rfl) w.heap.size 74 i0 _ 1 16 underlying181 hi ap bd ba rfl (by decide) _ _ _ (by rfl) (L.alloc _) (aL w6.heap.size 0) 1 1 [.iface T6 (.agg bh)] (by rfl) (by rfl) (qZ _ _) (uB _ _) (by decide) (by unfold maxLen;omega) (by omega) (by simp;omega) (w6.heap.size+1) (by simp) ?_)
      intro g7 bp w7 I d ad bw;have bm:=aB (PLst.snoc (lo:=w5.heap.size) HALL.1 HALL.2 av (by omega) am (fun k Q=>Z3 _ _ _ Q) (by simp) I d (ad.imp_right (fun e=>by omega)))
      have bi:=aB ((S.alloc _).grown (base:=w.heap.size) d aj x bg);have bk:=aB ((t.alloc _).grown d aj);clear L I d ad av S t HALL am aj;go_wp2
      go_roundg k
      case measure=>omega
      case rel=>exact⟨bk,q6,j++[a6],bi,bn,by simp;omega,bm⟩
 ·rw[b] at HA;have z:Hid (r=.ok ([],p+1)):=by show _=_;rw[hr.out,W.out];unfold iB;rw[b];unfold aM;simp[b]
  clear b W;go_in
  go_wp2_with fail;refine HA.mono ?_;rintro e w1 ⟨rfl,X,aa⟩;go_wp2
  go_ret;exact Out.ok z aa X (Y4 ⟨rfl,rfl⟩)
end Go.Proofs.YtddnpoiiimjpcaaGreatDoor
