/- Contracts of the program: the parser's small steps. -/
import Derived.Test.YtlflgmdcghfngaaGreatDoorP03
set_option linter.defProp false
set_option maxRecDepth 100000
set_option maxHeartbeats 4000000
namespace Go.Proofs.YtlflgmdcghfngaaGreatDoor
open Hs
open _root_.Go.Proofs.Tryz
open Go.RowKit
variable{C:Ctx}{acc ks l:List aE}{ts:List bC}{b_ lo p q:Nat}{b:Type}{R:Value->aE->Prop}{a:aE}{w w' w1:aG}{v:aQ}{t:bC}{F G:bY}
def psort(s:Nat):Nat:=if s=110 then 1 else if s=48 then 2 else if s=115 then 3 else if s=101 then 4 else 0
def pval(t:bC):Nat:=if t.sort=48 then (dQ 0 t.x_).getD 0 else 0
def ptok(t:bC):List Value:=[I_ (psort t.sort),.string (bs t.x_),I_ (pval t),I_ t.l_]
def ptoks:List bC->List Value
 |[]=>[]
 |t::ts=>ptok t++ptoks ts
def OB(ts:List bC):(ptoks ts).length=ts.length*4:=by
 induction ts with
 |nil=>rfl
 |cons t ts a=>simp[ptoks,ptok,a];omega
def FG(ts:List bC)(t:bC):ptoks (ts++[t])=ptoks ts++ptok t:=by
 induction ts with
 |nil=>simp[ptoks]
 |cons x ts a=>simp[ptoks,a]
structure PAt(C:Ctx)(w:aG)(p:Nat):Prop where
 blk:w.heap[C.pb]?=some (.cells #[.slice (some (aH C.g 0)) C.ts.length C.cap,I_ p] 107 (0,0))
 row:∃cur,w.heap[C.g]?=some (.cells cur 160 (0,0))/\cur.toList.take (C.ts.length*4)=ptoks C.ts
 ne:C.g≠C.pb
 lt:p<C.ts.length
 len:C.ts.length<=3000
 cap:C.ts.length<=C.cap
 all:tJ C.ts
 tsk:IG C.ts
def M6(ts:List bC)(p:Nat)(h:p<ts.length):(ptoks ts)[p*4]?=some (I_ (psort (aT ts p).sort))/\(ptoks ts)[p*4+1]?=some (.string (bs (aT ts p).x_))/\(ptoks ts)[p*4+1+1]?=some (I_ (pval (aT ts p)))/\(ptoks ts)[p*4+1+1+1]?=some (I_ (aT ts p).l_):=by
 induction ts generalizing p with
 |nil=>simp at h
 |cons t ts a=>
  cases p with
  |zero=>simp[ptoks,ptok,aT]
  |succ p=>
   have:=a p (by simpa using h)
   have e:∀j,(ptoks (t::ts))[(p+1)*4+j]?=(ptoks ts)[p*4+j]?:=λj=>by
    rw[ptoks,gl (by simp[ptok];omega)]
    congr 1;simp[ptok];omega
   have b:aT (t::ts) (p+1)=aT ts p:=by simp[aT]
   rw[b];exact⟨(e 0).trans this.1,(e 1).trans this.2.1,(e 2).trans this.2.2.1,(e 3).trans this.2.2.2⟩
def PAt.tok(h:PAt C w p):w.cell? (aH C.g (p*4))=some (I_ (psort (aT C.ts p).sort))/\w.cell? (aH C.g (p*4+1))=some (.string (bs (aT C.ts p).x_))/\w.cell? (aH C.g (p*4+1+1))=some (I_ (pval (aT C.ts p)))/\w.cell? (aH C.g (p*4+1+1+1))=some (I_ (aT C.ts p).l_):=by
 obtain⟨c,k,i⟩:=h.row;obtain⟨m,g,d,f⟩:=M6 C.ts p h.lt;have n:=OB C.ts
 have e:∀j v,(ptoks C.ts)[j]?=some v->w.cell? (aH C.g j)=some v:=λj v a=>by
  have b:j<C.ts.length*4:=by
   by_cases l:j<C.ts.length*4
   ·exact l
   ·rw[gp o_] at a;cases a
  refine aA k ?_;rw[<-i,ga,if_pos b] at a;simpa using a
 exact⟨e _ _ m,e _ _ g,e _ _ d,e _ _ f⟩
def PAt.keep(h:PAt C w p)(e:w'.heap[C.pb]?=w.heap[C.pb]?)(c:w'.heap[C.g]?=w.heap[C.g]?):PAt C w' p:=by
 obtain⟨a,d,b⟩:=h.row;exact⟨by rw[e];exact h.blk,⟨a,by rw[c];exact d,b⟩,h.ne,h.lt,h.len,h.cap,h.all,h.tsk⟩
def PAt.below(h:PAt C w p)(a:Below w.heap.size w w'):PAt C w' p:=by
 obtain⟨b,c,d⟩:=h.row;exact h.keep (a.block _ (aC h.blk)) (a.block _ (aC c))
def PAt.other{b i:Nat}{u:aQ}(h:PAt C w p)(c:b≠C.pb)(a:b≠C.g):PAt C (w.setCell (aH b i) u) p:=
 h.keep (ei _ _ _ _ (λe=>c e.symm)) (ei _ _ _ _ (λe=>a e.symm))
def PAt.g_lt(h:PAt C w p):C.g<w.heap.size:=by obtain⟨_,a,_⟩:=h.row;exact aC a
def PAt.pb_lt(h:PAt C w p):C.pb<w.heap.size:=aC h.blk
def PAt.alloc(h:PAt C w p)(o:Obj):PAt C (w.alloc o) p:=h.below ((eh _ _).alloc cL _)
def PAt.drew(h:PAt C w p):PAt C w.drew p:=h.below (eh _ _).drew
def oX(t:bC):Value:=.agg #[I_ (psort t.sort),.string (bs t.x_),I_ (pval t),I_ t.l_]
def YA(pb g h p n:Nat)(w:aG)(a c d:Int)(b:ByteArray)(x:p<n)(_hn:n<=3000)(_hnc:n<=h)(i:pb<w.heap.size)(f:g<w.heap.size)
 (q:w.cell? (aH pb 0)=some (.slice (some (aH g 0)) n h)) (c1:w.cell? (aH pb 1)=some (I_ p))
 (l:w.cell? (aH g (p*4))=some (I_ a)) (m:w.cell? (aH g (p*4+1))=some (.string b)) (j:w.cell? (aH g (p*4+1+1))=some (I_ c)) (k:w.cell? (aH g (p*4+1+1+1))=some (I_ d)):
  Calls prog 91 #[aZ pb] w λe r=>e=aX (.agg #[I_ a,.string b,I_ c,I_ d])/\Below w.heap.size w r:=by
 have y:∀o,(w.alloc o).cell? (aH pb 0)=some (.slice (some (aH g 0)) n h):=λo=>by rw[World.cell?_alloc_past _ _ _ i];exact q
 have t:∀o,(w.alloc o).cell? (aH pb 1)=some (I_ p):=λo=>by rw[World.cell?_alloc_past _ _ _ i];exact c1
 have s:∀o,(w.alloc o).cell? (aH g (p*4))=some (I_ a):=λo=>by rw[World.cell?_alloc_past _ _ _ f];exact l
 have z:∀o,(w.alloc o).cell? (aH g (p*4+1))=some (.string b):=λo=>by rw[World.cell?_alloc_past _ _ _ f];exact m
 have u:∀o,(w.alloc o).cell? (aH g (p*4+1+1))=some (I_ c):=λo=>by rw[World.cell?_alloc_past _ _ _ f];exact j
 have A:∀o,(w.alloc o).cell? (aH g (p*4+1+1+1))=some (I_ d):=λo=>by rw[World.cell?_alloc_past _ _ _ f];exact k
 clear q c1 l m j k;go_in
 go_wp2_with fail;go_region
 go_wp2
 refine bodyPost_ret (v:=.agg #[I_ a,.string b,I_ c,I_ d]) (by simp[results,results91,go_sem]) rfl ⟨rfl,?_⟩
 exact((eh _ _).alloc cL _).drew
def mL(C:Ctx)(w:aG)(p:Nat)(h:PAt C w p):
 Calls prog 91 #[aZ C.pb] w λe a=>e=aX (oX (aT C.ts p))/\Below w.heap.size w a:=
 YA C.pb C.g C.cap p C.ts.length w _ _ _ _ h.lt h.len h.cap (aC h.blk) (by obtain⟨_,b,_⟩:=h.row;exact aC b) (aA h.blk rfl) (aA h.blk rfl) h.tok.1 h.tok.2.1 h.tok.2.2.1 h.tok.2.2.2
abbrev cU(k n:Nat):Ending:=.panicked [{ v:=.iface 104 (.agg #[I_ k,I_ n]),recovered:=false }]
def gW(k n:Nat)(w:aG):
 Calls prog 94 #[I_ k,I_ n] w λe a=>e=cU k n/\a=w:=by
 go_in
 go_wp2_with fail;exact⟨rfl,rfl,rfl⟩
def LP(a c d:Int)(b:ByteArray)(w:aG):(Instr.field 160 (.agg #[I_ a,.string b,I_ c,I_ d]) 3).run prog w=.ok (I_ d) w:=k_
def nV(C:Ctx)(w:aG)(p:Nat)(h:PAt C w p):
 Calls prog 152 #[aZ C.pb] w λe f=>e=aX (.agg #[I_ (aT C.ts p).l_])/\Below w.heap.size w f:=by
 have b:=aB (λo=>mL C (w.alloc o) p (h.below ((eh _ _).alloc cL _)))
 simp only[oX] at b;clear h;go_in
 go_wp2_with fail;refine(b _).mono ?_;rintro e c ⟨rfl,a⟩;obtain⟨i,j⟩:=bcell a;have k:w.heap.size<c.heap.size:=by have:=a.size;simp at this;omega
 have d:=aB a;have g:=LP;clear a b;go_wp2
 refine bodyPost_ret (v:=.agg #[I_ (aT C.ts p).l_]) (by simp[results,results152,go_sem,i]) rfl ⟨rfl,?_⟩
 exact(((eh _ _).alloc cL _).trans (d.mono s_)).setCell s_ _
def PAt.move(h:PAt C w p)(c:Below w.heap.size w w1)(q:Nat)(e:q<C.ts.length):
 PAt C (w1.setCell (aH C.pb 1) (I_ q)) q/\Fr C.pb w (w1.setCell (aH C.pb 1) (I_ q)):=by
 have b:=h.below c;obtain⟨a,f,d⟩:=b.row;refine⟨⟨?_,⟨a,?_,d⟩,h.ne,e,h.len,h.cap,h.all,h.tsk⟩,Fr.setCell (p:=(aH C.pb 1)) (Fr.below c) (d7 rfl) _⟩
 ·rw[aK b.blk];rfl
 ·rw[ei _ _ _ _ h.ne];exact f
def PAt.cells(h:PAt C w p)(b:Below w.heap.size w w1):
 C.pb<w1.heap.size/\w1.cell? (aH C.pb 1)=some (I_ p)/\w1.frozen? (aH C.pb 1)=false:=by
 have a:=h.below b;exact⟨aC a.blk,aA a.blk rfl,aD a.blk⟩
def db_(h:PAt C w p)(x:cC):bF C.ts p x=(decide (psort (aT C.ts p).sort=0) && (aT C.ts p).x_==x):=by
 unfold bF psort;have:=h.tsk.tk p h.lt;generalize aT C.ts p=t at*;rcases this with h|⟨h,_⟩|h|⟨h,_⟩|h|h<;>simp[h]
def dO(C:Ctx)(w:World)(p:Nat)(x:ByteArray)(h:PAt C w p):
 Calls prog 170 #[.pointer (some ⟨C.pb,0,none⟩),.string x] w λe m=>e=.returned (.bool (bF C.ts p x.data.toList))/\PAt C m (if bF C.ts p x.data.toList then p+1 else p)/\Fr C.pb w m:=by
 have i:=aB (db_ h x.data.toList);have g:=aB (mL C w p h);simp only[oX] at g;have v:Hid (bF C.ts p x.data.toList=true->p+1<C.ts.length):=λe=>h.all.ok.isT h.lt e
 have l:Hid (((bs (aT C.ts p).x_).toList==x.toList)=((aT C.ts p).x_==x.data.toList)):=by show _=_;rw[cI,Lib.toList_data]
 have r:p<=3000:=by have:=h.lt;have:=h.len;omega
 have H:=aB h;clear h;generalize bF C.ts p x.data.toList=k at*;generalize aT C.ts p=t at*;obtain⟨c,f,s⟩:=t;simp only at i g l;generalize pval ⟨c,f,s⟩=z at*;go_enter func170,ntmps170;go_wp2_with fail;refine g.out.mono ?_;rintro e y ⟨rfl,j⟩;obtain⟨D,B,A⟩:=H.out.cells j;have b:=aB j;clear j g;by_cases n:psort c=0
 ·have q:((psort c:Int) != 0)=false:=t_
  cases d:(f==x.data.toList)
  ·have u:((bs f).toList==x.toList)=false:=by rw[l.out,d]
   have a:k=false:=by have:=i.out;rw[d] at this;simpa using this
   subst a;go_wp2_with fail;go_ret;exact⟨jW rfl,H.out.below (b.out.alloc b.out.size _),Fr.below (b.out.alloc b.out.size _)⟩
  ·have u:((bs f).toList==x.toList)=true:=by rw[l.out,d]
   have a:k=true:=by have:=i.out;rw[d,n] at this;simpa using this
   subst a;go_wp2_with fail;go_ret;have o:=H.out.move b.out (p+1) (v.out trivial);exact⟨jW rfl,o.1.below ((eh _ _).alloc (en _) _),o.2.alloc _⟩
 ·have q:((psort c:Int) != 0)=true:=t_
  have a:k=false:=by have:=i.out;simp[n] at this;exact this
  subst a;go_wp2_with fail;go_ret;exact⟨jW rfl,H.out.below (b.out.alloc b.out.size _),Fr.below (b.out.alloc b.out.size _)⟩
def gM(C:Ctx)(w:aG)(p:Nat)(x:ByteArray)(h:PAt C w p):
 Calls prog 124 #[aZ C.pb,.string x] w λe k=>Fr C.pb w k/\if bF C.ts p x.data.toList then e=aX (.tuple #[])/\PAt C k (p+1) else e=cU 4 (aT C.ts p).l_:=by
 have g:=aB (dO C w p x h);have H:=aB h;clear h;cases d:bF C.ts p x.data.toList
 ·rw[d] at g;go_in
  go_wp2_with fail;refine g.mono ?_;rintro e j ⟨rfl,a,b⟩;have l:=aB (mL C j p a);simp only[oX] at l;have c:=aB b;have o:=LP;clear b a;go_wp2_with fail;refine l.mono ?_;rintro e r ⟨rfl,f⟩;have m:=aB f;clear f;go_wp2_with (go_at_call 94;refine(gW 4 (aT C.ts p).l_ _).mono ?_;rintro e q ⟨rfl,n⟩;obtain rfl:=n.symm)
  exact⟨rfl,c.trans (Fr.below m),rfl⟩
 ·rw[d] at g;go_in
  go_wp2_with fail;refine g.mono ?_;rintro e j ⟨rfl,a,b⟩;have c:=aB b;have i:=aB a;clear b a;go_wp2
  go_end0;exact⟨c,rfl,i⟩
def M9(t:bC):psort t.sort=1↔t.sort=110:=by
 unfold psort;split<;>(try split)<;>(try split)<;>(try split)<;>simp_all
def nU(C:Ctx)(w:aG)(p:Nat)(h:PAt C w p):
 Calls prog 125 #[aZ C.pb] w λe s=>Fr C.pb w s/\if (aT C.ts p).sort==110 then e=aX (.agg #[I_ (aT C.ts p).l_,.string (bs (aT C.ts p).x_)])/\PAt C s (p+1) else e=cU 4 (aT C.ts p).l_:=by
 have d:=aB (λo=>mL C (w.alloc o) p (h.below ((eh _ _).alloc cL _)))
 simp only[oX] at d;have l:Hid ((aT C.ts p).sort=110->p+1<C.ts.length):=λe=>h.all.ok.next p h.lt (by rw[e];decide)
 have i:=aB (M9 (aT C.ts p));have F:p<=3000:=by have:=h.lt;have:=h.len;omega
 have H:=aB h;have B:C.pb<w.heap.size:=aC h.blk;have g:w.heap.size≠C.g:=by have:=h.g_lt;omega
 clear h;generalize aT C.ts p=t at*;obtain⟨f,y,q⟩:=t;simp only at d l i;simp only;generalize pval ⟨f,y,q⟩=M at*;generalize psort f=u at*;by_cases c:f=110
 ·obtain rfl:u=1:=i.2 c;have r:=l c;rw[show (f==110)=true by simpa using c]
  clear c i l;go_in
  go_wp2_with fail;refine(d _).mono ?_;rintro e m ⟨rfl,b⟩;have a:=((eh _ _).alloc cL _).trans (b.mono s_)
  obtain⟨J,E,D⟩:=H.cells a;obtain⟨A,I⟩:=bcell b;have x:w.heap.size<m.heap.size:=by have:=b.size;simp at this;omega
  have k:=aB a;clear b a d;have n:¬C.pb=w.heap.size:=o_
  have j:¬w.heap.size=C.pb:=o_
  go_wp2_with fail;have z:=H.move k (p+1) r;refine bodyPost_ret (v:=.agg #[I_ q,.string (bs y)]) (by simp[results,results125,go_sem,World.cell?_alloc_past,x,A]) rfl ?_
  refine⟨((z.2.setCell (p:=(aH w.heap.size 0)) (d6 cL) _).setCell (p:=(aH w.heap.size 1)) (d6 cL) _).alloc _,rfl,?_⟩;exact((z.1.other o_ g).other o_ g).below ((eh _ _).alloc cL _)
 ·have K:((u:Int) != 1)=true:=by simp;intro e;exact c (i.1 o_)
  rw[show (f==110)=false by simpa using c]
  clear c i l;go_in
  go_wp2_with fail;refine(d _).mono ?_;rintro e m ⟨rfl,b⟩;have a:=((eh _ _).alloc cL _).trans (b.mono s_)
  obtain⟨J,E,D⟩:=H.cells a;obtain⟨A,I⟩:=bcell b;have x:w.heap.size<m.heap.size:=by have:=b.size;simp at this;omega
  have k:=aB a;clear b a d;have n:¬C.pb=w.heap.size:=o_
  have j:¬w.heap.size=C.pb:=o_
  go_wp2_with (go_at_call 94;refine(gW 4 q _).mono ?_;rintro e L ⟨rfl,G⟩;obtain rfl:=G.symm)
  exact⟨rfl,Fr.below (k.alloc k.size _),rfl⟩
def xU(R:Value->aE->Prop)(F:bY)(w:aG)(kv:aQ)(ks:List aE):Prop:=
 (kv=bG/\ks=[])\/
 ∃g cap cur vs,kv=.slice (some (aH g 0)) ks.length cap/\F g/\w.heap[g]?=some (.cells cur 67 (0,0))/\ks.length<=cap/\cur.toList.take ks.length=vs/\kV R vs ks
structure Prt where
 v:Value
 ks:List aE
 one:Bool
def vD(R:Value->aE->Prop)(F:bY)(w:aG)(p:Prt):Prop:=
 (p.one=true/\∃a,p.ks=[a]/\R p.v a)\/(p.one=false/\xU R F w p.v p.ks)
def Shape(T:TypeId)(cs:Array Value)(a:aE)(ps:List Prt):Prop:=
 (T=267/\∃k,cs= #[I_ a.l_,I_ (k:Nat)]/\a.op=[48]/\dQ 0 a.x_=some k/\a.y_=[]/\ps=[])\/
 (T=268/\cs= #[I_ a.l_,.string (bs a.x_)]/\a.op=[115]/\a.y_=[]/\ps=[])\/
 (T=270/\cs= #[I_ a.l_,.bool (a.x_==[116,114,117,101])]/\a.op=[98,111,111,108]/\a.y_=[]/\ps=[])\/
 (T=219/\∃sv,cs= #[I_ a.l_,sv]/\a.op=[108,105,115,116]/\ps=[⟨sv,a.y_,false⟩])\/
 (T=214/\∃sv,cs= #[I_ a.l_,.string (bs a.x_),sv]/\a.op=[99,97,108,108]/\ps=[⟨sv,a.y_,false⟩])\/
 (T=217/\cs= #[I_ a.l_,.string (bs a.x_)]/\a.op=[110,97,109,101]/\a.y_=[]/\ps=[])\/
 (T=221/\∃l v1 v2 a1 a2,cs= #[I_ (l:Nat),v1,v2]/\a.op=[105,110,100,101,120]/\a.y_=[a1,a2]/\ps=[⟨v1,[a1],true⟩,⟨v2,[a2],true⟩])\/
 (T=223/\∃o v1 a1,cs= #[I_ a.l_,.string (bs [o]),v1]/\(o=45\/o=33)/\a.op=[o,120]/\a.y_=[a1]/\ps=[⟨v1,[a1],true⟩])\/
 (T=225/\∃l v1 v2 a1 a2,cs= #[I_ (l:Nat),.string (bs a.op),v1,v2]/\cK a.op≠9/\a.y_=[a1,a2]/\ps=[⟨v1,[a1],true⟩,⟨v2,[a2],true⟩])\/
 (T=200/\∃v1 t a1,cs= #[I_ a.l_,I_ t.l_,.string (bs t.x_),v1]/\a.op=[118,97,114]/\a.y_=[t,a1]/\ps=[⟨v1,[a1],true⟩])\/
 (T=203/\∃sv v1 l a1,cs= #[I_ a.l_,.string (bs a.x_),sv,v1]/\a.op=[115,101,116]/\a.y_=l++[a1]/\ps=[⟨sv,l,false⟩,⟨v1,[a1],true⟩])\/
 (T=207/\∃v1 s1 a1 b1,cs= #[I_ a.l_,v1,s1,bG]/\a.op=[105,102]/\b1.op=[98,108,111,99,107]/\a.y_=[a1,b1]/\ps=[⟨v1,[a1],true⟩,⟨s1,b1.y_,false⟩])\/
 (T=207/\∃v1 s1 s2 a1 b1 b2,cs= #[I_ a.l_,v1,s1,s2]/\a.op=[105,102]/\b1.op=[98,108,111,99,107]/\b2.op=[98,108,111,99,107]/\a.y_=[a1,b1,b2]/\ps=[⟨v1,[a1],true⟩,⟨s1,b1.y_,false⟩,⟨s2,b2.y_,false⟩])\/
 (T=209/\∃v1 s1 a1 b1,cs= #[I_ a.l_,v1,s1]/\a.op=[119,104,105,108,101]/\b1.op=[98,108,111,99,107]/\a.y_=[a1,b1]/\ps=[⟨v1,[a1],true⟩,⟨s1,b1.y_,false⟩])\/
 (T=211/\∃l,cs= #[I_ a.l_,.iface 267 (.agg #[I_ (l:Nat),I_ 0])]/\a.op=[114,101,116,117,114,110]/\a.y_=[]/\ps=[])\/
 (T=211/\∃v1 a1,cs= #[I_ a.l_,v1]/\a.op=[114,101,116,117,114,110]/\a.y_=[a1]/\ps=[⟨v1,[a1],true⟩])\/
 (T=212/\∃v1 a1,cs= #[I_ a.l_,v1]/\a.op=[112,114,105,110,116]/\a.y_=[a1]/\ps=[⟨v1,[a1],true⟩])\/
 (T=214/\∃sv c,cs= #[I_ c.l_,.string (bs c.x_),sv]/\a.op=[100,111]/\a.l_=c.l_/\a.x_=c.x_/\a.y_=[c]/\c.op=[99,97,108,108]/\ps=[⟨sv,c.y_,false⟩])
def PND:Nat->(Nat->Prop)->World->Value->aE->Prop
 |0,_,_,_,_=>False
 |d+1,F,w,v,a=>∃T cs ps,v=.iface T (.agg cs)/\Shape T cs a ps/\∀p∈ps,vD (PND d F w) F w p
def PN(F:bY)(w:aG)(v:aQ)(a:aE):Prop:=∃d,PND d F w v a
def xU.mono{S:Value->aE->Prop}{e:aQ}(h:xU R F w e ks)(p:∀v a,R v a->S v a)(m:∀b,F b->G b):xU S G w e ks:=by
 rcases h with h|⟨g,c,d,i,k,f,n,j,l,o⟩
 ·exact d7 h
 ·exact d6 ⟨g,c,d,i,k,m _ f,n,j,l,o.mono p⟩
def xU.keep{e:aQ}(h:xU R F w e ks)(f:∀b,F b->w'.heap[b]?=w.heap[b]?):xU R F w' e ks:=by
 rcases h with h|⟨g,a,c,i,k,d,m,j,l,n⟩
 ·exact d7 h
 ·exact d6 ⟨g,a,c,i,k,d,by rw[f g d];exact m,j,l,n⟩
def vD.mono{S:Value->aE->Prop}{p:Prt}(h:vD R F w p)(e:∀v a,R v a->S v a)(g:∀b,F b->G b):vD S G w p:=by
 rcases h with ⟨d,a,c,f⟩|⟨d,c⟩
 ·exact d7 ⟨d,a,c,e _ _ f⟩
 ·exact d6 ⟨d,c.mono e g⟩
def vD.keep{p:Prt}(h:vD R F w p)(a:∀b,F b->w'.heap[b]?=w.heap[b]?):vD R F w' p:=by
 rcases h with h|⟨d,c⟩
 ·exact d7 h
 ·exact d6 ⟨d,c.keep a⟩
def PND.mono(c:∀b,F b->G b):∀{d e:Nat} {v a},PND d F w v a->d<=e->PND e G w v a
 |_+1,_+1,_,_,⟨T,k,g,l,j,m⟩,i=>⟨T,k,g,l,j,λp f=>(m p f).mono (λ_ _ h=>PND.mono c h o_) c⟩
 |0,_,_,_,h,_=>h.elim
def PND.keep(c:∀b,F b->w'.heap[b]?=w.heap[b]?):∀{d:Nat} {v a},PND d F w v a->PND d F w' v a
 |_+1,_,_,⟨T,i,f,j,g,k⟩=>⟨T,i,f,j,g,λp e=>((k p e).mono (λ_ _ h=>PND.keep c h) dP).keep c⟩
def PN.mono(h:PN F w v a)(c:∀b,F b->G b):PN G w v a:=by
 obtain⟨d,h⟩:=h;exact⟨d,h.mono c cL⟩
def PN.keep(h:PN F w v a)(c:∀b,F b->w'.heap[b]?=w.heap[b]?):PN F w' v a:=by
 obtain⟨d,h⟩:=h;exact⟨d,h.keep c⟩
def PN.form(h:PN F w v a):∃T b,v=.iface T (.agg b):=by
 obtain⟨d,h⟩:=h;cases d with
 |zero=>exact h.elim
 |succ d=>obtain⟨T,b,_,c,_⟩:=h;exact⟨T,b,c⟩
def kV.pdepth:∀{vs ks},kV (PN F w) vs ks->∃d,kV (PND d F w) vs ks
 |[],[],_=>⟨0,trivial⟩
 |_::_,_::_,⟨⟨d,b⟩,a⟩=>by
  obtain⟨e,c⟩:=kV.pdepth a;exact⟨max d e,b.mono dP (Nat.le_max_left _ _),c.mono λ_ _ h=>h.mono dP (Nat.le_max_right _ _)⟩
 |[],_::_,h=>h.elim
 |_::_,[],h=>h.elim
def Prt.ok(F:bY)(w:aG)(p:Prt):Prop:=vD (PN F w) F w p
def Prt.ok.depth{p:Prt}(h:p.ok F w):∃d,vD (PND d F w) F w p:=by
 rcases h with ⟨b,a,e,d,i⟩|⟨b,h|⟨g,f,c,l,j,e,i,m,o,k⟩⟩
 ·exact⟨d,d7 ⟨b,a,e,i⟩⟩
 ·exact⟨0,d6 ⟨b,d7 h⟩⟩
 ·obtain⟨d,n⟩:=k.pdepth;exact⟨d,d6 ⟨b,d6 ⟨g,f,c,l,j,e,i,m,o,n⟩⟩⟩
def Prt.ok.all:∀{ps:List Prt},(∀p∈ps,p.ok F w)->∃d,∀p∈ps,vD (PND d F w) F w p
 |[],_=>⟨0,λp b=>by cases b⟩
 |p::ps,h=>by
  obtain⟨d,f⟩:=(h p (fw ..)).depth;obtain⟨e,c⟩:=Prt.ok.all (ps:=ps) λq a=>h q (fe _ a)
  refine⟨max d e,λq a=>?_⟩
  rcases eo.1 a with rfl|a
  ·exact f.mono (λ_ _ h=>h.mono dP (Nat.le_max_left _ _)) dP
  ·exact(c q a).mono (λ_ _ h=>h.mono dP (Nat.le_max_right _ _)) dP
def PN.mk{T:TypeId}{cs:Array Value}{ps:List Prt}(h:Shape T cs a ps)(b:∀p∈ps,p.ok F w):PN F w (.iface T (.agg cs)) a:=by
 obtain⟨d,c⟩:=Prt.ok.all b;exact⟨d+1,T,cs,ps,rfl,h,c⟩
def Prt.ok.node(h:PN F w v a):Prt.ok F w ⟨v,[a],true⟩:=d7 ⟨rfl,a,rfl,h⟩
def PKid(F:bY)(w:aG)(kv:aQ)(ks:List aE):Prop:=xU (PN F w) F w kv ks
def Prt.ok.list(h:PKid F w v l):Prt.ok F w ⟨v,l,false⟩:=d6 ⟨rfl,h⟩
def PKid.keep{c:aQ}(h:PKid F w c ks)(a:∀b,F b->w'.heap[b]?=w.heap[b]?)(d:∀b,F b->G b):PKid G w' c ks:=
 (xU.mono h (λ_ _ h=>(h.keep a).mono d) dP).keep a |>.mono (λ_ _ h=>h) d
def PN.grow{hi lo' hi':Nat}(h:PN (Btw lo hi) w v a)(d:∀k,lo<=k->k<hi->w'.heap[k]?=w.heap[k]?)(f:lo'<=lo)(e:hi<=hi'):PN (Btw lo' hi') w' v a:=
 (h.keep λb c=>d b c.1 c.2).mono λ_ c=>⟨em f c.1,ej c.2 e⟩
def PKid.grow{hi lo' hi':Nat}(h:PKid (Btw lo hi) w v l)(c:∀k,lo<=k->k<hi->w'.heap[k]?=w.heap[k]?)(e:lo'<=lo)(d:hi<=hi'):PKid (Btw lo' hi') w' v l:=
 h.keep (λb a=>c b a.1 a.2) λ_ a=>⟨em e a.1,ej a.2 d⟩
def FX:(prog.info? 67).map (λi=>(i.zero,i.size,i.bytes))=some (some .nilIface,1,16):=k_
def PLst(b_:Nat)(w:aG)(v:aQ)(acc:List aE):Prop:=
 ∃vs F,w.ownsRow b_ 67 1 v acc.length vs/\kV (PN F w) vs acc/\∀b,F b->b_<=b/\b<w.heap.size/\v.ownBlock≠some b
def PLst.nil(b_:Nat)(w:aG):PLst b_ w (bG) []:=⟨[],λ_=>False,World.ownsRow_nil _ _ _ _,trivial,λ_ h=>h.elim⟩
def PLst.slice(h:PLst b_ w v acc):∃x c,v=.slice x acc.length c:=by
 obtain⟨i,F,f,_⟩:=h;rcases f.2 with ⟨a,d⟩|⟨g,b,e,a,_⟩
 ·exact⟨none,0,by rw[a,d]⟩
 ·exact⟨_,b,a⟩
def PLst.keep{pb:Nat}(h:PLst b_ w v acc)(c:Fr pb w w1)(j:pb<b_):PLst b_ w1 v acc:=by
 obtain⟨g,F,d,i,e⟩:=h;refine⟨g,F,aY d λk f=>?_,i.mono λ_ _ h=>h.keep λb a=>?_,λb a=>?_⟩
 ·have:=cT d k f;exact c.block k (cQ d k f) o_
 ·have:=e b a;have:=c.size;exact⟨o_,o_,(e b a).2.2⟩
 ·have:=e b a;exact c.block b this.2.1 o_
def PLst.snoc{r o:aG}{p:aQ}{g m:Nat}{vs:List Value}(t:kV (PN F w) vs acc)(z:∀b,F b->b_<=b/\b<w.heap.size/\v.ownBlock≠some b)
 (y:PN (Btw lo w.heap.size) w p a) (A:b_<=lo) (n:∀k,v.ownBlock=some k->k<lo) (q:∀k,k<w.heap.size->r.heap[k]?=w.heap[k]?) (x:w.heap.size<=r.heap.size)
 (l:o.ownsRow b_ 67 1 (.slice (some (aH g 0)) (acc.length+1) m) (acc.length+1) (vs++[p]))
 (f:r.grownBy o v.ownBlock) (j:v.ownBlock=some g\/w.heap.size<=g):PLst b_ o (.slice (some (aH g 0)) (acc.length+1) m) (acc++[a]):=by
 have s:∀b,(F b\/Btw lo w.heap.size b)->b_<=b/\b<w.heap.size/\v.ownBlock≠some b:=by
  rintro b (i|i)
  ·exact z b i
  ·exact⟨by have:=i.1;omega,i.2,λe=>by have:=n b e;have:=i.1;omega⟩
 have c:∀b,(F b\/Btw lo w.heap.size b)->o.heap[b]?=w.heap[b]?:=λb i=>by
  have d:=s b i;rw[f.block b o_ (λe=>d.2.2 e.symm),q b d.2.1]
 refine⟨vs++[p],λb=>F b\/Btw lo w.heap.size b,?_,?_,?_⟩
 ·rw[el];exact l
 ·exact kV.snoc (t.mono λ_ _ h=>(h.mono (λ_=>d7)).keep c) ((y.mono (λ_=>d6)).keep c)
 ·intro b i;have d:=s b i;have:=f.size;refine⟨d.1,o_,λe=>?_⟩
  have u:g=b:=Option.some.inj e;rcases j with j|j
  ·exact d.2.2 (by rw[j,u])
  ·omega
def PLst.kid(h:PLst b_ w v acc):PKid (Btw b_ w.heap.size) w v acc:=by
 obtain⟨m,F,o,k,j⟩:=h;rcases o.2 with ⟨a,e⟩|⟨g,c,d,a,e,f,l,q,p,n⟩
 ·exact d7 ⟨a,gg e⟩
 ·exact d6 ⟨g,c,d,m,a,⟨e,aC f⟩,f,l,by rw[<-n,jo],k.mono λ_ _ h=>h.mono λb i=>⟨(j b i).1,(j b i).2.1⟩⟩
def PAt.grown{a:Option Nat}(h:PAt C w p)(c:w.grownBy w' a)(b:∀k,a=some k->b_<=k)(f:C.pb<b_)(d:C.g<b_):PAt C w' p:=
 h.keep (c.block _ h.pb_lt λe=>by have:=b _ e.symm;omega) (c.block _ h.g_lt λe=>by have:=b _ e.symm;omega)
def Out{α:Type}(C:Ctx)(w:aG)(r:cD α)(P:World->Value->α->Prop)(e:Ending)(w':aG):Prop:=
 Fr C.pb w w'/\match r with
  |.ok (a,q)=>PAt C w' q/\∃v,e=aX v/\P w' v a
  |.error l=>e=cU 4 l
def KU(C:Ctx)(w:aG)(r:cD aE)(e:Ending)(w':aG):Prop:=Out C w r (λw' v a=>PN (Btw w.heap.size w'.heap.size) w' v a) e w'
def PReads(C:Ctx)(F:Nat)(X:Nat->cD aE):Prop:=∀w p,PAt C w p->X p≠.error 0->Calls prog F #[aZ C.pb] w (KU C w (X p))
def oZ(ts:List bC)(p:Nat)(l:cN):cC:=(l.find? λx=>bF ts p x).getD []
def LQ(C:Ctx)(w:aG)(p:Nat)(l:cN)(g G:Nat)(Q:g<w.heap.size)(I:g≠C.pb)(hl:l.length<=100)(s:∀x∈l,x≠[])(W:∀i (hi:i<l.length),w.cell? (aH g i)=some (.string (bs l[i])))(h:PAt C w p):
 Calls prog 153 #[aZ C.pb,.slice (some (aH g 0)) l.length G] w λe P=>e=aX (.string (bs (oZ C.ts p l)))/\PAt C P (if oZ C.ts p l=[] then p else p+1)/\Fr C.pb w P:=by
 have HC:=aB W;have H:=aB h;have K:=aB s;clear W h s;generalize r:(if oZ C.ts p l=[] then p else p+1)=T
 generalize B:oZ C.ts p l=V at*;have S:=aB r;have A:=aB B;clear r B;go_in
 go_wp2_with fail;go_loopg [6,9] l.length (λgk m i wr=>∃k:Nat,k+gk=l.length/\i=I_ k/\Fr C.pb w wr/\PAt C wr p/\Hid (∀x∈l.take k,bF C.ts p x=false))
 case atStart=>exact⟨0,o_,rfl,Fr.refl _ _,H,λx hx=>by simp at hx⟩
 case round=>
  obtain⟨k,Y,rfl,a,c,q⟩:=hrel;by_cases f:k<l.length
  ·obtain⟨j,rfl⟩:∃j,gk=j+1:=⟨gk-1,o_⟩
   have J:wr.cell? (aH g k)=some (.string (bs l[k])):=(zU (a.block g Q I)).trans (HC k f);have aa:g<wr.heap.size:=ej Q a.size;have D:=aB (dO C wr p (bs l[k]) c);have O:(bs l[k]).data.toList=l[k]:=by simp[bs]
   rw[O] at D
   have L:Hid (l=l.take k++l[k]::l.drop (k+1)):=by
    show _=_
    rw[jp,g9]
   have F:Hid (∀y∈l.take (k+1),y∈l.take k\/y=l[k]):=λy U=>by
    rw[gu f] at U;rcases eu.1 U with h|h
    ·exact d7 h
    ·exact d6 (ew.1 h)
   have v:l[k]≠[]:=K _ (fo f);have N:=aB v;have E:=aB a;clear c a O v;generalize l[k]=y at*;cases b:bF C.ts p y
   ·rw[b] at D
    have M:Hid (∀z∈l.take (k+1),bF C.ts p z=false):=λz t=>by
     rcases F z t with h|h
     ·exact q.out z h
     ·rw[h];exact b
    clear q F L b;go_wp2_with fail;refine D.mono ?_;rintro e X ⟨rfl,d,o⟩;go_wp2
    go_roundg j
    case measure=>omega
    case rel=>exact⟨k+1,o_,by go_num,E.trans o,d,M⟩
   ·rw[b] at D
    have u:Hid (V=y):=by
     show _=_
     rw[<-A.out];unfold oZ;rw[L.out,List.find?_append,jn.2 (by intro z t;simpa using q.out z t)]
     simp[b]
    clear q F L b;go_wp2_with fail;refine D.mono ?_;rintro e X ⟨rfl,d,o⟩;go_wp2
    go_ret;have n:T=p+1:=by rw[<-S.out,u.out,if_neg N.out]
    rw[u.out,n];exact⟨rfl,d,E.trans o⟩
  ·have u:Hid (V=[]):=by
    show _=_
    rw[<-A.out];unfold oZ;rw[jn.2]
    ·rfl
    ·intro z t;simpa using q.out z (by rw[gv o_];exact t)
   have E:=aB a;have Z:=aB c;clear q a c;go_wp2
   go_ret;have n:T=p:=by rw[<-S.out,u.out,if_pos rfl]
   rw[u.out,n];exact⟨rfl,Z,E⟩
def Out.err{a:Type}{r:cD a}{P:World->Value->a->Prop}{l:Nat}(c:r=.error l)(b:Fr C.pb w w'):Out C w r P (cU 4 l) w':=by
 subst c;exact⟨b,rfl⟩
def Out.ok{r:cD b}{P:World->Value->b->Prop}{a:b}(f:r=.ok (a,q))(d:Fr C.pb w w')(e:PAt C w' q)(c:P w' v a):Out C w r P (aX v) w':=by
 subst f;exact⟨d,e,v,rfl,c⟩
def pK{x:cC}{a:b}(h:bF ts q x=true):aS ts x (.ok (a,q):cD b)=.ok (a,q+1):=by
 unfold aS;simp only;rw[if_pos h]
def AC{x:cC}{a:b}(h:bF ts q x=false):aS ts x (.ok (a,q):cD b)=.error (aT ts q).l_:=by
 unfold aS;simp only;rw[if_neg (by rw[h];simp)];rfl
def tX(w:aG)(v:aQ):∀j u,([v]:List Value)[j]?=some u->(w.alloc (.cells #[v] 67)).cell? ((⟨w.heap.size,0,none⟩:Addr).add j)=some u:=by
 intro j u a;match j,a with
 |0,a=>simp at a;subst a;simp[Addr.add,go_sem]
 |j+1,a=>simp at a
def xF(T:TypeId)(cs:Array Value):∀u∈([.iface T (.agg cs)]:List Value),u.oneCell'=true:=by
 intro u a;simp at a;subst a;rfl
def ds_(C:Ctx)(w:aG)(r:cD (List aE))(e:Ending)(w':aG):Prop:=Out C w r (λw' v l=>PKid (Btw w.heap.size w'.heap.size) w' v l) e w'
def c0_(C:Ctx)(E:Nat->cD aE)(w:aG)(r0:cD (List aE))(k:Nat)(v:aQ)(wr:aG):Prop:=
 Fr C.pb w wr/\∃q acc,PAt C wr q/\r0=(if bF C.ts q [44] then dS E C.ts k (q+1) acc else .ok (acc,q))/\acc.length+k<=4000/\PLst w.heap.size wr v acc
def vH(C:Ctx)(E:Nat->cD aE)(HE:PReads C 80 E)(w:aG)(p:Nat)(y:ByteArray)(h:PAt C w p)(N r:cD (List aE))(W:Hid (N=iR E C.ts p y.data.toList))(hr:Hid (r=aS C.ts y.data.toList N))(al:N≠.error 0):
 Calls prog 212 #[aZ C.pb,.string y] w (ds_ C w r):=by
 obtain⟨i0,hi,ap,bd,ba⟩:=info_parts FX;have HA:=aB (dO C w p y h);have H:=aB h;have bc:=aB HE;have ah:=aB al;have bo:=h.len;have x:=h.pb_lt;have bg:=h.g_lt;clear h HE al;cases b:bF C.ts p y.data.toList
 ·rw[b] at HA;have z:Hid (N=dS E C.ts (C.ts.length+1) p []):=by show _=_;rw[W.out];unfold iR;rw[b];rfl
  clear b W;go_in
  go_wp2_with fail;refine HA.mono ?_;rintro e w1 ⟨rfl,X,aa⟩;have D:E p≠.error 0:=λe=>ah (by rw[z.out,dS,e])
  have HX:=aB (bc w1 p X D);have P:=aB aa;clear X aa D;go_wp2_with fail;refine HX.mono ?_;rintro e w2 O;cases m:E p with
  |error l=>
   rw[m] at O;obtain⟨B,rfl⟩:=O;have HL:Hid (r=.error l):=by show _=_;rw[hr.out,z.out,dS,m];rfl
   have Z:=aB (P.trans B);clear B HX;go_wp2_with fail;exact⟨rfl,Out.err HL Z⟩
  |ok aq=>
   obtain⟨a,q⟩:=aq;rw[m] at O;obtain⟨B,az,v,rfl,hn⟩:=O;obtain⟨T,cs,rfl⟩:=hn.form;have aw:Hid (N=(if bF C.ts q [44] then dS E C.ts C.ts.length (q+1) [a] else .ok ([a],q))):=by show _=_;rw[z.out,dS,m];rfl
   have Z:=aB (P.trans B);have ao:=aB az;have HN:=aB hn;have bz:=P.size;have br:=B.size;clear az B hn HX z P;go_wp2_with (at_builtin;refine wpList_append_lies _ r_ _ _ 167 r_ w.heap.size 67 i0 _ 1 16 underlying167 hi ap bd ba rfl d_ (bG) 0 [] r_ (World.ownsRow_nil _ _ _ _) (aH w2.heap.size 0) 1 1 [.iface T (.agg cs)] r_ r_ (tX _ _) (xF _ _) d_ (by unfold maxLen;omega) o_ t_ (w2.heap.size+1) s_ ?_)
   intro g ca w3 G f ac bv;have bb:=aB (PLst.snoc (b_:=w.heap.size) (lo:=w1.heap.size) (F:=λ_=>False) (vs:=[]) (acc:=[]) (v:=bG) trivial (λ_ h=>h.elim) HN o_ (λk Q=>by cases Q) (λk Q=>ek _ _ _ Q) s_ G f (ac.imp_right (λe=>by omega)))
   have ar:=aB ((ao.alloc _).grown (b_:=w.heap.size) f (λk Q=>by cases Q) x bg)
   have bf:=aB ((Z.alloc _).grown f (λk Q=>by cases Q))
   clear G f ac HN ao Z;go_wp2_with fail;go_loopg [5] C.ts.length (λk v wr=>c0_ C E w N k v wr)
   case atStart=>exact⟨bf,q,[a],ar,aw,t_,bb⟩
   case round=>
    obtain⟨ae,u,j,an,Y,bu,ai⟩:=hrel;obtain⟨x4,c4,rfl⟩:=ai.slice;have A:=aB (dO C wr u ⟨#[44]⟩ an);have ay:=aB ae;have V:=aB ai;have bx:=ae.size;clear ae an ai bb ar bf aw;cases b:bF C.ts u [44]
    ·have o:bF C.ts u (⟨#[44]⟩:ByteArray).data.toList=false:=b;rw[o] at A;have n:Hid (N=.ok (j,u)):=by show _=_;rw[Y,b];rfl
     clear b o Y;go_wp2_with fail;refine A.mono ?_;rintro e w5 ⟨rfl,M,i⟩;have af:=aB (gM C w5 u y M);have K:=aB (ay.trans i);have s:=aB (V.keep i x);have bj:=i.size;clear M i A V;go_wp2_with fail;refine af.mono ?_;rintro e w6 ⟨c,U⟩;have t:=aB (K.trans c);have au:=aB (s.keep c x);cases b:bF C.ts u y.data.toList
     ·rw[b] at U;obtain rfl:e=cU 4 (aT C.ts u).l_:=U;have HL:Hid (r=.error (aT C.ts u).l_):=by show _=_;rw[hr.out,n.out];exact AC b
      clear c af b au s;go_wp2_with fail;exact⟨rfl,Out.err HL t⟩
     ·rw[b] at U;obtain⟨rfl,J⟩:=U;have HL:Hid (r=.ok (j,u+1)):=by show _=_;rw[hr.out,n.out];exact pK b
      have S:=aB J;clear c af b J s;go_wp2
      go_ret;exact Out.ok HL t S au.kid
    ·have o:bF C.ts u (⟨#[44]⟩:ByteArray).data.toList=true:=b;rw[o] at A;have n:Hid (N=dS E C.ts gk (u+1) j):=by show _=_;rw[Y,b];rfl
     clear b o Y
     obtain⟨k,rfl⟩:∃k,gk=k+1:=by
      cases gk with
      |zero=>exact absurd n ah
      |succ k=>exact⟨k,rfl⟩
     go_wp2_with fail;refine A.mono ?_;rintro e w5 ⟨rfl,M,i⟩;have D:E (u+1)≠.error 0:=λe=>ah (by rw[n.out,dS,e])
     have HX:=aB (bc w5 (u+1) M D);have K:=aB (ay.trans i);have s:=aB (V.keep i x);have bj:=i.size;clear M i A V D;go_wp2_with fail;refine HX.mono ?_;rintro e w6 O;cases m:E (u+1) with
     |error l=>
      rw[m] at O;obtain⟨c,rfl⟩:=O;have HL:Hid (r=.error l):=by show _=_;rw[hr.out,n.out,dS,m];rfl
      have t:=aB (K.trans c);clear c HX;go_wp2_with fail;exact⟨rfl,Out.err HL t⟩
     |ok bl=>
      obtain⟨a6,q6⟩:=bl;rw[m] at O;obtain⟨c,J,v6,rfl,ag⟩:=O;obtain⟨T6,bh,rfl⟩:=ag.form;have bn:Hid (N=(if bF C.ts q6 [44] then dS E C.ts k (q6+1) (j++[a6]) else .ok (j++[a6],q6))):=by show _=_;rw[n.out,dS,m]
      obtain⟨vs,F,L,ab,ax⟩:=s.keep c x
      have be:∀g,(Value.slice x4 j.length c4).ownBlock=some g->g<w5.heap.size:=by
       obtain⟨bt,F',ak,_⟩:=s;exact cQ ak
      have am:=aB be;have t:=aB (K.trans c);have S:=aB J;have av:=aB ag;have HALL:=aB (ff ab ax);have bq:=c.size;have aj:∀k,(Value.slice x4 j.length c4).ownBlock=some k->w.heap.size<=k:=cT L;clear J c ag HX n s K ab ax be;go_wp2_with (at_builtin;refine wpList_append_lies _ r_ _ _ 167 r_ w.heap.size 67 i0 _ 1 16 underlying167 hi ap bd ba rfl d_ _ _ _ r_ (L.alloc _) (aH w6.heap.size 0) 1 1 [.iface T6 (.agg bh)] r_ r_ (tX _ _) (xF _ _) d_ (by unfold maxLen;omega) o_ t_ (w6.heap.size+1) s_ ?_)
      intro g7 bp w7 I d ad bw;have bm:=aB (PLst.snoc (lo:=w5.heap.size) HALL.1 HALL.2 av o_ am (λk Q=>ek _ _ _ Q) s_ I d (ad.imp_right (λe=>by omega)))
      have bi:=aB ((S.alloc _).grown (b_:=w.heap.size) d aj x bg);have bk:=aB ((t.alloc _).grown d aj);clear L I d ad av S t HALL am aj;go_wp2
      go_roundg k
      case measure=>omega
      case rel=>exact⟨bk,q6,j++[a6],bi,bn,t_,bm⟩
 ·rw[b] at HA;have z:Hid (r=.ok ([],p+1)):=by show _=_;rw[hr.out,W.out];unfold iR;rw[b];unfold aS;simp[b]
  clear b W;go_in
  go_wp2_with fail;refine HA.mono ?_;rintro e w1 ⟨rfl,X,aa⟩;go_wp2
  go_ret;exact Out.ok z aa X (d7 ⟨rfl,rfl⟩)
structure PS(C:Ctx)(w:aG)(t:bC)(tb:Nat)(W:aG)(p:Nat):Prop where
 fr:Fr C.pb w W
 at_:PAt C W p
 tk:W.heap[tb]?=some (.cells #[I_ (psort t.sort),.string (bs t.x_),I_ (pval t),I_ t.l_] 160 (0,0))
 pl:W.heap[tb+1]?=some (.cells #[I_ t.l_] 163 (0,0))
 lo:w.heap.size<=tb
 np:C.pb<tb
 ng:C.g<tb
def PS.keep{W W':aG}{a:Nat}(h:PS C w t a W p)(b:Fr C.pb W W')(c:PAt C W' q):PS C w t a W' q:=
 ⟨h.fr.trans b,c,by rw[b.block a (aC h.tk) (by have:=h.np;omega)];exact h.tk,by rw[b.block (a+1) (aC h.pl) (by have:=h.np;omega)];exact h.pl,h.lo,h.np,h.ng⟩
def PS.cells{W:aG}{a:Nat}(h:PS C w t a W p):
 a+1<W.heap.size/\W.cell? (aH a 0)=some (I_ (psort t.sort))/\W.cell? (aH a 1)=some (.string (bs t.x_))/\W.cell? (aH a 2)=some (I_ (pval t))/\W.cell? (aH a 3)=some (I_ t.l_)/\W.cell? (aH (a+1) 0)=some (I_ t.l_)/\C.pb<W.heap.size/\W.cell? (aH C.pb 1)=some (I_ p)/\W.frozen? (aH C.pb 1)=false:=
 ⟨aC h.pl,aA h.tk rfl,aA h.tk rfl,aA h.tk rfl,aA h.tk rfl,aA h.pl rfl,h.at_.pb_lt,aA h.at_.blk rfl,aD h.at_.blk⟩
def thrown{P:Program}{b:Array Oper}{o:Oper}{a:Act}{K:Act->World->Prop}{Q:Exit->Act->World->Prop}{E:Prop}(c:aQ)
 (h:if Region.wanted o (yielded b a.tmps)=true then Oper.wp P o a w K Q else E) (_d:Hid False->K (a.put o.dst c) w):
 if Region.wanted o (yielded b a.tmps)=true then Oper.wp P o a w K Q else E:=h
def Fr.keepB{pb b:Nat}{o:Obj}(a:Fr pb w w')(h:w.heap[b]?=some o)(e:b≠pb):w'.heap[b]?=some o:=by
 have c:b<w.heap.size:=by
  by_cases d:b<w.heap.size
  ·exact d
  ·rw[ik o_] at h;cases h
 rw[a.block b c e];exact h
def PKid.slice(h:PKid F w v l):∃x c,v=.slice x l.length c:=by
 rcases h with ⟨a,d⟩|⟨g,e,b,f,a,_⟩
 ·exact⟨none,0,by rw[a,d];rfl⟩
 ·exact⟨_,_,a⟩
def bs_(h:pY t):(psort t.sort=2↔t.sort=48)/\(psort t.sort=3↔t.sort=115):=by
 unfold psort;rcases h with h|⟨h,_⟩|h|⟨h,_⟩|h|h<;>simp[h]
def SF(C:Ctx)(E:Nat->cD aE)(HE:PReads C 80 E):PReads C 229 (eH E C.ts):=by
 intro w p h bc;have HN:=aB (mL C w p h);simp only[oX] at HN;have br:=aB (λw1 (hb:Below w.heap.size w w1)=>nV C w1 p (h.below hb))
 have bg:=h.tsk.tk p h.lt;have HS:=aB (bs_ bg);have HT:Hid ((aT C.ts p).sort≠101->p+1<C.ts.length):=λe=>h.all.ok.next p h.lt e
 have cr:p<=3000:=by have:=h.lt;have:=h.len;omega
 have H:=aB h;have bm:=aB HE;have aw:=aB bg;have cq:=h.pb_lt;have cy:=h.g_lt;obtain⟨r,hr⟩:=E_ (eH E C.ts p);rw[<-hr] at bc ⊢
 rw[eH] at hr;have HR:=aB hr;have bk:=aB bc;clear h HE bc bg hr;generalize ca:aT C.ts p=t at*;have be:=aB ca;clear ca;go_in
 go_wp2_with fail;refine HN.mono ?_;rintro e w1 ⟨rfl,cc⟩;have ay:=aB cc;clear cc;go_wp2_with fail;refine(br w1 ay).mono ?_;rintro e w2 ⟨rfl,bt⟩
 have bi:PS C w t w2.heap.size ((w2.alloc (.cells #[I_ (psort t.sort),.string (bs t.x_),I_ (pval t),I_ t.l_] 160)).alloc (.cells #[I_ t.l_] 163)) p:=by
  have hb:=ay.trans (bt.mono ay.size);have cg:=hb.size;refine⟨((Fr.below hb).alloc _).alloc _,((H.below hb).alloc _).alloc _,?_,?_,cg,o_,o_⟩
  ·exact eB _ _ s_ _ (aN _ _ rfl _)
  ·exact aN _ _ s_ _
 have y:=aB bi;obtain⟨k0,k1,k2,k3,k4,k5,k6,k7,k8⟩:=bi.cells;clear bi bt ay br HN;go_upto_region 2 with fail
 generalize cp:(w2.alloc (.cells #[I_ (psort t.sort),.string (bs t.x_),I_ (pval t),I_ t.l_] 160)).alloc (.cells #[I_ t.l_] 163)=W at*;generalize co:psort t.sort=ps at*;have cu:=y.np;have cw:¬w2.heap.size=C.pb:=o_
 have cv:¬C.pb=w2.heap.size:=o_
 by_cases ap:ps=2
 ·have O:t.sort=48:=HS.1.1 ap;subst ap
  obtain⟨kk,bd⟩:∃kk,dQ 0 t.x_=some kk:=by
   rcases aw with h|⟨h,_⟩|h|⟨h,h2⟩|h|h
   ·omega
   ·omega
   ·omega
   ·exact Option.isSome_iff_exists.1 h2
   ·omega
   ·omega
  have V:Hid (pval t=kk):=by show _=_;unfold pval;rw[if_pos O,bd];rfl
  have d:Hid (r=.ok (aV [UInt8.ofNat t.sort] t.l_ t.x_ [],p+1)):=by show _=_;rw[HR.out,O];rfl
  have Q:Hid (Shape 267 #[I_ t.l_,I_ (pval t)] (aV [UInt8.ofNat t.sort] t.l_ t.x_ []) []):=d7 ⟨rfl,kk,by rw[V.out];rfl,by rw[O];rfl,bd,rfl,rfl⟩
  have hm:=y.at_.move (eh _ _) (p+1) (HT o_)
  have HM:=aB (ff (y.fr.trans hm.2) hm.1);clear O bd V aw hm HR;go_wp2
  go_ret;exact Out.ok d HM.1 HM.2 (PN.mk Q (λp hp=>by cases hp))
 by_cases T:ps=3
 ·have O:t.sort=115:=HS.2.1 T;subst T;have d:Hid (r=.ok (aV [UInt8.ofNat t.sort] t.l_ t.x_ [],p+1)):=by show _=_;rw[HR.out,O];rfl
  have Q:Hid (Shape 268 #[I_ t.l_,.string (bs t.x_)] (aV [UInt8.ofNat t.sort] t.l_ t.x_ []) []):=d6 (d7 ⟨rfl,rfl,by rw[O];rfl,rfl,rfl⟩)
  have hm:=y.at_.move (eh _ _) (p+1) (HT o_)
  have HM:=aB (ff (y.fr.trans hm.2) hm.1);clear O aw hm HR ap;go_wp2
  go_ret;exact Out.ok d HM.1 HM.2 (PN.mk Q (λp hp=>by cases hp))
 have cx:((ps:Int)==2)=false:=t_
 have cn:((ps:Int)==3)=false:=t_
 have az:(t.sort==48 || t.sort==115)=false:=by
  have h1:t.sort≠48:=λe=>ap (HS.1.2 e)
  have h2:t.sort≠115:=λe=>T (HS.2.2 e)
  simp[h1,h2]
 have aa:Hid (r=if bF C.ts p [116,114,117,101] || bF C.ts p [102,97,108,115,101] then .ok (aV [98,111,111,108] t.l_ t.x_ [],p+1)
  else if bF C.ts p [40] then aS C.ts [41] (E (p+1))
  else if bF C.ts p [91] then cG (aV [108,105,115,116] t.l_ t.x_) (eZ E C.ts p [91] [93])
  else if t.sort==110 then
   if bF C.ts (p+1) [40] then cG (aV [99,97,108,108] t.l_ t.x_) (eZ E C.ts (p+1) [40] [41])
   else .ok (aV [110,97,109,101] t.l_ t.x_ [],p+1)
  else Hs.bad C.ts p):=by show _=_;rw[HR.out,az];rfl
 have ag:Hid (∀x,bF C.ts p x=true->t.x_=x):=λx hx=>by
  unfold bF at hx;rw[be.out] at hx;simp only[fy,beq_iff_eq] at hx;exact hx.2
 clear HR az ap T HS aw;have X:=aB (dO C W p ⟨#[116,114,117,101]⟩ y.at_);rw[show (⟨#[116,114,117,101]⟩:ByteArray).data.toList=[116,114,117,101] from rfl] at X
 cases i1:bF C.ts p [116,114,117,101];rotate_left
 ·have d:Hid (r=.ok (aV [98,111,111,108] t.l_ t.x_ [],p+1)):=by show _=_;rw[aa.out,i1];rfl
  have Q:Hid (Shape 270 #[I_ t.l_,.bool true] (aV [98,111,111,108] t.l_ t.x_ []) []):=d6 (d6 (d7 ⟨rfl,by show _= #[_,Value.bool (t.x_==_)];rw[ag.out _ i1];rfl,rfl,rfl,rfl⟩))
  rw[i1] at X;clear i1 aa ag;go_wp2_with fail;refine X.mono ?_;rintro e w3 ⟨rfl,bb,ah⟩;have m:=y.keep ah bb;have o:=aB m;clear k1 k2 k3 k4 k5 k6 k7 k8 bb ah;obtain⟨k0,k1,k2,k3,k4,k5,k6,k7,k8⟩:=m.cells;clear m;go_wp2
  go_ret;exact Out.ok d o.fr o.at_ (PN.mk Q (λp hp=>by cases hp))
 rw[i1] at X;go_wp2_with fail;refine X.mono ?_;rintro e w3 ⟨rfl,an,ah⟩;have m:=y.keep ah an;have ab:=aB (dO C w3 p ⟨#[102,97,108,115,101]⟩ an);have bo:(⟨#[102,97,108,115,101]⟩:ByteArray).data.toList=[102,97,108,115,101]:=rfl;rw[bo] at ab;have o:=aB m;clear bo an ah m y X k0 k1 k2 k3 k4 k5 k6 k7 k8;cases i2:bF C.ts p [102,97,108,115,101];rotate_left
 ·have d:Hid (r=.ok (aV [98,111,111,108] t.l_ t.x_ [],p+1)):=by show _=_;rw[aa.out,i1,i2];rfl
  have Q:Hid (Shape 270 #[I_ t.l_,.bool false] (aV [98,111,111,108] t.l_ t.x_ []) []):=d6 (d6 (d7 ⟨rfl,by show _= #[_,Value.bool (t.x_==_)];rw[ag.out _ i2];rfl,rfl,rfl,rfl⟩))
  rw[i2] at ab;clear i1 i2 aa ag;go_wp2_with fail;refine ab.mono ?_;rintro e w4 ⟨rfl,n,aj⟩;have u:=o.keep aj n;have g:=aB u;clear n aj;obtain⟨k0,k1,k2,k3,k4,k5,k6,k7,k8⟩:=u.cells;clear u;go_wp2
  go_ret;exact Out.ok d g.fr g.at_ (PN.mk Q (λp hp=>by cases hp))
 rw[i2] at ab
 have av:Hid (r=if bF C.ts p [40] then aS C.ts [41] (E (p+1))
  else if bF C.ts p [91] then cG (aV [108,105,115,116] t.l_ t.x_) (eZ E C.ts p [91] [93])
  else if t.sort==110 then
   if bF C.ts (p+1) [40] then cG (aV [99,97,108,108] t.l_ t.x_) (eZ E C.ts (p+1) [40] [41])
   else .ok (aV [110,97,109,101] t.l_ t.x_ [],p+1)
  else Hs.bad C.ts p):=by show _=_;rw[aa.out,i1,i2];rfl
 clear aa i1 i2 ag;go_wp2_with fail;refine ab.mono ?_;rintro e w4 ⟨rfl,n,aj⟩;have u:=o.keep aj n;have P:=aB (dO C w4 p ⟨#[40]⟩ n);have bq:(⟨#[40]⟩:ByteArray).data.toList=[40]:=rfl;rw[bq] at P;have g:=aB u;clear bq n aj u o ab;cases i3:bF C.ts p [40];rotate_left
 ·have z:Hid (r=aS C.ts [41] (E (p+1))):=by show _=_;rw[av.out,i3];rfl
  rw[i3] at P;clear i3 av;go_wp2_with fail;refine P.mono ?_;rintro e w5 ⟨rfl,s,ai⟩;have bp:E (p+1)≠.error 0:=λe=>bk (by rw[z.out,e];rfl)
  have HX:=aB (bm w5 (p+1) s bp);have bl:=aB (g.fr.trans ai);have ct:=bl.size;clear s ai bp P g;go_wp2_with fail;refine HX.mono ?_;rintro e w6 hO;cases ar:E (p+1) with
  |error l=>
   rw[ar] at hO;obtain⟨f,rfl⟩:=hO;have d:Hid (r=.error l):=by show _=_;rw[z.out,ar];rfl
   have A:=aB (bl.trans f);clear f HX;go_wp2_with fail;exact⟨rfl,Out.err d A⟩
  |ok aq=>
   obtain⟨a,q⟩:=aq;rw[ar] at hO;obtain⟨f,bw,v6,rfl,bx⟩:=hO;have ax:=aB (gM C w6 q ⟨#[41]⟩ bw);have ao:(⟨#[41]⟩:ByteArray).data.toList=[41]:=rfl;rw[ao] at ax;have A:=aB (bl.trans f);have cj:=aB bx;have cs:=f.size;clear bw f bx HX ao;go_wp2_with fail;refine ax.mono ?_;rintro e w7 ⟨b,F⟩;cases Y:bF C.ts q [41]
   ·rw[Y] at F;obtain rfl:e=cU 4 (aT C.ts q).l_:=F;have d:Hid (r=.error (aT C.ts q).l_):=by show _=_;rw[z.out,ar];exact AC Y
    have N:=aB (A.trans b);clear b ax Y;go_wp2_with fail;exact⟨rfl,Out.err d N⟩
   ·rw[Y] at F;obtain⟨rfl,ak⟩:=F;have d:Hid (r=.ok (a,q+1)):=by show _=_;rw[z.out,ar];exact pK Y
    have N:=aB (A.trans b);have cf:=aB ak;have cl:=aB (cj.grow (lo':=w.heap.size) (hi':=w7.heap.size) (λk h1 h2=>b.block k h2 o_) o_ b.size)
    clear b ax Y ak;go_wp2
    go_ret;exact Out.ok d N cf cl
 rw[i3] at P
 have z:Hid (r=if bF C.ts p [91] then cG (aV [108,105,115,116] t.l_ t.x_) (eZ E C.ts p [91] [93])
  else if t.sort==110 then
   if bF C.ts (p+1) [40] then cG (aV [99,97,108,108] t.l_ t.x_) (eZ E C.ts (p+1) [40] [41])
   else .ok (aV [110,97,109,101] t.l_ t.x_ [],p+1)
  else Hs.bad C.ts p):=by show _=_;rw[av.out,i3];rfl
 clear av i3;go_wp2_with fail;refine P.mono ?_;rintro e w5 ⟨rfl,s,ai⟩;have ba:=g.keep ai s;have J:=aB (dO C w5 p ⟨#[91]⟩ s);have ao:(⟨#[91]⟩:ByteArray).data.toList=[91]:=rfl;rw[ao] at J;have S:=aB ba;clear ao s ai ba g P;cases i4:bF C.ts p [91];rotate_left
 ·obtain⟨r1,L⟩:=E_ (iR E C.ts (p+1) [93]);have D:Hid (r=cG (aV [108,105,115,116] t.l_ t.x_) (aS C.ts [93] r1)):=by show _=_;rw[z.out,i4,L];unfold eZ;rw[i4];rfl
  have ac:=aB L;rw[i4] at J;clear i4 z L;go_wp2_with fail;refine J.mono ?_;rintro e w6 ⟨rfl,j,f⟩;have af:=S.keep f j;have V:=aB (vH C E bm w6.drew (p+1) ⟨#[93]⟩ j.drew r1 _ ac rfl (λe=>bk (by rw[D.out,e];rfl)))
  have al:(⟨#[93]⟩:ByteArray).data.toList=[93]:=rfl;rw[al] at V;have ad:=aB af;obtain⟨k0,k1,k2,k3,k4,k5,k6,k7,k8⟩:=af.cells;clear j f af al S J k1 k2 k3 k4 k7 k8;cases hV:aS C.ts [93] r1 with
  |error l=>
   rw[hV] at V;have d:Hid (r=.error l):=by show _=_;rw[D.out,hV];rfl
   clear hV;go_wp2_with fail;go_region_law (refine thrown (bG) ?_ ?_;(focus go_simp;go_at_call 212;refine V.mono ?_;rintro e w7 ⟨b,rfl⟩;exact ff rfl (Out.err d (ad.fr.drew.trans b)));intro B)
   all_goals exact B.out.elim
  |ok lq=>
   obtain⟨l,q⟩:=lq;rw[hV] at V;have d:Hid (r=.ok (aV [108,105,115,116] t.l_ t.x_ l,q)):=by show _=_;rw[D.out,hV];rfl
   clear hV;have cb:=ad.fr.size;go_wp2_with fail;go_region_law (go_simp;go_at_call 212;refine V.mono ?_;rintro e w7 ⟨b,ak,v,rfl,hk⟩;obtain⟨x,c,rfl⟩:=hk.slice;have HK:=aB hk;have U:=aB (ad.keep ((Fr.refl _ _).drew.trans b) ak);have N:=aB b;have c5:=U.cells.2.2.2.2.2.1;have c0:=U.cells.1;clear b ak hk)
   all_goals (go_wp2_with fail;go_ret)
   all_goals exact Out.ok d U.fr U.at_ (PN.mk (d6 (d6 (d6 (d7 ⟨rfl,_,rfl,rfl,rfl⟩)))) (λp hp=>by obtain rfl:=ew.1 hp;exact Prt.ok.list (HK.grow (λ_ _ _=>rfl) cb cL)))
 rw[i4] at J
 have D:Hid (r=if t.sort==110 then
       if bF C.ts (p+1) [40] then cG (aV [99,97,108,108] t.l_ t.x_) (eZ E C.ts (p+1) [40] [41])
       else .ok (aV [110,97,109,101] t.l_ t.x_ [],p+1)
  else Hs.bad C.ts p):=by show _=_;rw[z.out,i4];rfl
 clear z i4;go_wp2_with fail;refine J.mono ?_;rintro e w6 ⟨rfl,j,f⟩;have A:=aB (S.fr.trans f);have Z:=aB (nU C w6 p j);rw[be.out] at Z;clear j f S J;cases O:(t.sort==110)
 ·rw[O] at Z;have d:Hid (r=.error t.l_):=by show _=_;rw[D.out,O];show Hs.bad _ _=_;unfold Hs.bad;rw[be.out]
  clear O D;go_wp2_with fail;refine Z.mono ?_;rintro e w7 ⟨b,F⟩;obtain rfl:e=cU 4 t.l_:=F;go_wp2_with fail;exact⟨rfl,Out.err d (A.trans b)⟩
 rw[O] at Z
 have ac:Hid (r=if bF C.ts (p+1) [40] then cG (aV [99,97,108,108] t.l_ t.x_) (eZ E C.ts (p+1) [40] [41])
       else .ok (aV [110,97,109,101] t.l_ t.x_ [],p+1)):=by show _=_;rw[D.out,O];rfl
 clear D O;go_wp2_with fail;refine Z.mono ?_;rintro e w7 ⟨b,F⟩;obtain⟨rfl,au⟩:=F;have N:=aB ((A.trans b).alloc (.cells #[I_ t.l_,.string (bs t.x_)] 165));have K:=aB (dO C (w7.alloc (.cells #[I_ t.l_,.string (bs t.x_)] 165)) (p+1) ⟨#[40]⟩ (au.alloc _));have al:(⟨#[40]⟩:ByteArray).data.toList=[40]:=rfl;rw[al] at K;have bz:Hid ((w7.alloc (.cells #[I_ t.l_,.string (bs t.x_)] 165)).heap[w7.heap.size]?=some (.cells #[I_ t.l_,.string (bs t.x_)] 165 (0,0))):=aN _ _ rfl _;have bj:w7.heap.size≠C.pb:=by have:=au.pb_lt;omega
 have cm:=(A.trans b).size;clear b au Z A al;cases i5:bF C.ts (p+1) [40]
 ·rw[i5] at K;have d:Hid (r=.ok (aV [110,97,109,101] t.l_ t.x_ [],p+1)):=by show _=_;rw[ac.out,i5];rfl
  clear i5 ac;go_wp2_with fail;refine K.mono ?_;rintro e w8 ⟨rfl,G,M⟩;have I:=aB (M.keepB bz bj);have am:=aB (N.trans M);have ce:=aB G;have c0:=aA I (i:=0) rfl;have c1:=aA I (i:=1) rfl;have ch:=aC I;clear G M K;go_wp2
  go_ret;exact Out.ok d am ce (PN.mk (d6 (d6 (d6 (d6 (d6 (d7 ⟨rfl,rfl,rfl,rfl,rfl⟩)))))) (λp hp=>by cases hp))
 ·rw[i5] at K;obtain⟨r1,L⟩:=E_ (iR E C.ts (p+1+1) [41]);have bf:Hid (r=cG (aV [99,97,108,108] t.l_ t.x_) (aS C.ts [41] r1)):=by show _=_;rw[ac.out,i5,L];unfold eZ;rw[i5];rfl
  have ci:=aB L;clear i5 ac L;go_wp2_with fail;refine K.mono ?_;rintro e w8 ⟨rfl,G,M⟩;have I:=aB (M.keepB bz bj);have am:=aB (N.trans M);have V:=aB (vH C E bm w8.drew (p+1+1) ⟨#[41]⟩ G.drew r1 _ ci rfl (λe=>bk (by rw[bf.out,e];rfl)))
  have bn:(⟨#[41]⟩:ByteArray).data.toList=[41]:=rfl;rw[bn] at V;have c0:=aA I (i:=0) rfl;have c1:=aA I (i:=1) rfl;have ch:=aC I;have bv:=am.size;clear G M K bn;cases hV:aS C.ts [41] r1 with
  |error l=>
   rw[hV] at V;have d:Hid (r=.error l):=by show _=_;rw[bf.out,hV];rfl
   clear hV;go_wp2_with fail;go_region_law (refine thrown (bG) ?_ ?_;(focus go_simp;go_at_call 212;refine V.mono ?_;rintro e w9 ⟨ae,rfl⟩;exact ff rfl (Out.err d (am.drew.trans ae)));intro B)
   all_goals exact B.out.elim
  |ok lq=>
   obtain⟨l,q⟩:=lq;rw[hV] at V;have d:Hid (r=.ok (aV [99,97,108,108] t.l_ t.x_ l,q)):=by show _=_;rw[bf.out,hV];rfl
   clear hV;go_wp2_with fail;go_region_law (go_simp;go_at_call 212;refine V.mono ?_;rintro e w9 ⟨ae,bu,v,rfl,hk⟩;obtain⟨x,c,rfl⟩:=hk.slice;have HK:=aB hk;have ck:=aB ae;have cd:=aB bu;have bh:=aB (((Fr.refl C.pb w8).drew.trans ae).keepB I bj);have d0:=aA bh (i:=0) rfl;have d1:=aA bh (i:=1) rfl;have cz:=aC bh;clear ae bu hk)
   all_goals (go_wp2_with fail;go_ret)
   all_goals exact Out.ok d (am.drew.trans ck) cd (PN.mk (d6 (d6 (d6 (d6 (d7 ⟨rfl,_,rfl,rfl,rfl⟩))))) (λp hp=>by obtain rfl:=ew.1 hp;exact Prt.ok.list (HK.grow (λ_ _ _=>rfl) bv cL)))
abbrev PlB(W:aG)(b l:Nat):Prop:=W.heap[b]?=some (.cells #[I_ l] 163 (0,0))
def PlB.new(w:aG)(l:Nat):PlB (w.alloc (.cells #[I_ l] 163)) w.heap.size l:=aN _ _ rfl _
def QE(C:Ctx)(E:Nat->cD aE)(w:aG)(r:cD aE)(tb l:Nat)(k:Nat)(v:aQ)(wr:aG):Prop:=
 Fr C.pb w wr/\∃q a,PAt C wr q/\r=dK E C.ts k a q/\PN (Btw w.heap.size wr.heap.size) wr v a/\PlB wr tb l
def z6(C:Ctx)(E:Nat->cD aE)(HE:PReads C 80 E):PReads C 224 (λp=>bX (eH E C.ts p) (dK E C.ts (C.ts.length+1))):=by
 intro w p h K;have Q:=aB (nV C w p h);have J:eH E C.ts p≠.error 0:=λe=>K (by show bX _ _=_;rw[e];rfl)
 have t:=aB (λw1 (hb:Below w.heap.size w w1)=>SF C E HE w1 p (h.below hb) J)
 have aw:=aB HE;have az:=h.pb_lt;obtain⟨r,hr⟩:=E_ (bX (eH E C.ts p) (dK E C.ts (C.ts.length+1)));have I:r≠.error 0:=hr▸K;show Calls _ _ _ _ (KU C w (bX (eH E C.ts p) (dK E C.ts (C.ts.length+1))))
 rw[<-hr];have HR:=aB hr;have ag:=aB I;clear h HE K hr J I;generalize (aT C.ts p).l_=pl at*;cases n:eH E C.ts p with
 |error l=>
  have s:Hid (r=.error l):=by show _=_;rw[HR.out,n];rfl
  rw[n] at t;clear n HR;go_in
  go_wp2_with fail;refine Q.mono ?_;rintro e w1 ⟨rfl,A⟩;have o:=aB A;clear A;go_wp2_with fail;refine(t w1 o).mono ?_;rintro e w2 ⟨m,rfl⟩;have ay:=aB ((Fr.below o).trans m);clear m;go_wp2_with fail;exact⟨rfl,Out.err s ay⟩
 |ok aq=>
  obtain⟨a0,q0⟩:=aq;have s:Hid (r=dK E C.ts (C.ts.length+1) a0 q0):=by show _=_;rw[HR.out,n];rfl
  rw[n] at t;clear n HR;go_in
  go_wp2_with fail;refine Q.mono ?_;rintro e w1 ⟨rfl,A⟩;have o:=aB A;clear A;go_wp2_with fail;refine(t w1 o).mono ?_;rintro e w2 ⟨m,af,v2,rfl,Z⟩;have av:=o.size;have bc:=m.size
  have HI:Hid (QE C E w r w2.heap.size pl (C.ts.length+1) v2 (w2.alloc (.cells #[I_ pl] 163))):=
   ⟨((Fr.below o).trans m).alloc _,q0,a0,af.alloc _,s,Z.grow (λk _ B=>ek _ _ _ B) av s_,PlB.new _ _⟩
  obtain⟨T2,bg,rfl⟩:=Z.form;clear m af Z s t Q;go_wp2_with fail;go_loopg [4] (C.ts.length+1) (λk v wr=>QE C E w r w2.heap.size pl k v wr)
  case atStart=>exact HI
  case round=>
   obtain⟨L,q,a,aa,z,O,G⟩:=hrel;obtain⟨T3,bh,rfl⟩:=O.form
   obtain⟨k,rfl⟩:∃k,gk=k+1:=by
    cases gk with
    |zero=>exact absurd z ag
    |succ k=>exact⟨k,rfl⟩
   have HA:=aB (dO C wr q ⟨#[91]⟩ aa);have ed:(⟨#[91]⟩:ByteArray).data.toList=[91]:=rfl;rw[ed] at HA;have Y:=aB L;have P:=aB O;have ac:=aB G;have ba:=L.size;clear L aa O G ed HI;cases b:bF C.ts q [91]
   ·have s:Hid (r=.ok (a,q)):=by show _=_;rw[z,dK,b];rfl
    rw[b] at HA;clear b z;go_wp2_with fail;refine HA.mono ?_;rintro e w4 ⟨rfl,u,c⟩;have f:=aB c;have x:=aB u;clear c u;go_wp2
    go_ret;exact Out.ok s (Y.trans f) x (P.grow (λk h1 B=>f.block k B o_) cL f.size)
   ·obtain⟨rE,M⟩:=E_ (E (q+1));have j:Hid (r=match aS C.ts [93] rE with|.error l=>.error l|.ok (i,q')=>dK E C.ts k (aV [105,110,100,101,120] (aT C.ts q).l_ [] [a,i]) q'):=by show _=_;rw[z,dK,b,M];rfl
    rw[b] at HA;have aj:=aB M;clear b z M;have ab:E (q+1)≠.error 0:=λe=>ag (by rw[j.out,aj.out,e];rfl)
    go_wp2_with fail;refine HA.mono ?_;rintro e w4 ⟨rfl,u,c⟩;have HX:=aB (aw w4.drew (q+1) u.drew ab);rw[<-aj.out] at HX;have ao:=aB (P.grow (λk h1 B=>c.block k B o_) cL c.size)
    have x:=aB (c.keepB ac o_)
    have f:=aB (Y.trans c);have c0:=aA x (i:=0) rfl;have ax:=aC x;have be:=c.size;clear c u P ac Y HA ab;cases rE with
    |error l=>
     have s:Hid (r=.error l):=j;go_wp2_with fail;go_region_law (refine thrown .nilIface ?_ ?_;(focus go_simp;go_at_call 80;refine HX.mono ?_;rintro e w5 ⟨y,rfl⟩;exact ff rfl (Out.err s (f.drew.trans y)));intro D)
     all_goals exact D.out.elim
    |ok iq=>
     obtain⟨i,F⟩:=iq;have T:=aB (λw5 (h:PAt C w5 F)=>gM C w5 F ⟨#[93]⟩ h)
     rw[show (⟨#[93]⟩:ByteArray).data.toList=[93] from rfl] at T
     go_wp2_with fail;go_cut [4] (λv wc=>Fr C.pb w wc/\PAt C wc F/\PN (Btw w.heap.size wc.heap.size) wc v (aV [105,110,100,101,120] (aT C.ts q).l_ [] [a,i])/\PlB wc w2.heap.size pl)
     case first=>
      go_region_law (go_simp;go_at_call 80;refine HX.mono ?_;rintro e w5 ⟨y,ai,v5,rfl,S⟩;obtain⟨T5,bf,rfl⟩:=S.form;have am:=aB S;have V:=aB y;have al:=aB ai;have W:=aB (((Fr.refl C.pb w4).drew.trans y).keepB x o_);have d0:=aA W (i:=0) rfl;have bd:=aC W;clear y ai S)
      all_goals
       go_wp2_with fail;go_meet
       case rel=>
        have ap:=V.size
        exact⟨f.drew.trans V,al,PN.mk (d6 (d6 (d6 (d6 (d6 (d6 (d7 ⟨rfl,pl,_,_,a,i,rfl,rfl,rfl,rfl⟩))))))) (λp hp=>by
         simp only[eo,fi,or_false] at hp;rcases hp with rfl|rfl
         ·exact Prt.ok.node (ao.grow (λk h1 B=>V.block k B o_) cL ap)
         ·exact Prt.ok.node (am.grow (λ_ _ _=>rfl) (by have:=f.size;exact this) cL)),W⟩
     case rest=>
      obtain⟨X,ae,U,H⟩:=hcut;obtain⟨T6,ak,rfl⟩:=U.form;have g:=aB (T _ ae);have ah:=aB X;have au:=aB U;have ar:=aB H;have bb:=X.size;clear X ae U H T HX c0 ax;cases b:bF C.ts F [93]
      ·have s:Hid (r=.error (aT C.ts F).l_):=by show _=_;rw[j.out,AC b]
       rw[b] at g;clear b j;go_wp2_with fail;refine g.mono ?_;rintro e w7 ⟨d,N⟩;obtain rfl:e=cU 4 (aT C.ts F).l_:=N;go_wp2_with fail;exact⟨rfl,Out.err s (ah.trans d)⟩
      ·have s:Hid (r=dK E C.ts k (aV [105,110,100,101,120] (aT C.ts q).l_ [] [a,i]) (F+1)):=by show _=_;rw[j.out,pK b]
       rw[b] at g;clear b j;go_wp2_with fail;refine g.mono ?_;rintro e w7 ⟨d,N⟩;obtain⟨rfl,ad⟩:=N
       have an:Hid (QE C E w r w2.heap.size pl k (.iface T6 (.agg ak)) w7):=
        ⟨ah.trans d,F+1,_,ad,s,au.grow (λk h1 B=>d.block k B o_) cL d.size,d.keepB ar o_⟩
       clear d ad;go_wp2
       go_roundg k
       case measure=>omega
       case rel=>exact an
def F9(t:cC):∀l:cN,l.find? (λx=>t==x)=if t∈l then some t else none
 |[]=>by simp
 |y::l=>by
  rw[List.find?_cons];by_cases h:t=y
  ·subst h;simp
  ·rw[show (t==y)=false by simpa using h]
   simp only[F9 t l,eo,h,false_or]
def av_(t:cC)(h:jL.contains t=true):cK t=9:=by
 unfold jL at h;simp only[List.contains_eq_mem,eo,fi,or_false,decide_eq_true_eq] at h;rcases h with rfl|rfl|rfl|rfl|rfl|rfl|rfl|rfl|rfl<;>decide
def AP(h:pY (aT ts q))(k:Nat)(f:k≠9)(l:cN)(c:∀x,x∈l↔cK x=k):
 oZ ts q l=if (aT ts q).sort==112 && cK (aT ts q).x_==k then (aT ts q).x_ else []:=by
 unfold oZ;by_cases b:(aT ts q).sort=112
 ·rw[show (λx=>bF ts q x)=(λx=>(aT ts q).x_==x) by funext x;unfold bF;simp[b],F9]
  by_cases a:cK (aT ts q).x_=k
  ·rw[if_pos ((c _).2 a)];simp[b,a]
  ·rw[if_neg (λe=>a ((c _).1 e))];simp[a]
 ·rw[jn.2]
  ·simp[b]
  ·intro x g e;unfold bF at e;simp only[fy,jg,beq_iff_eq] at e;rcases h with h|⟨h,d⟩|h|⟨h,_⟩|h|h
   ·exact b h
   ·have:=av_ _ d;rw[e.2,(c x).1 g] at this;exact f this
   all_goals (rw[h] at e;rcases e.1 with e|e<;>omega)
def dr_(x:cC):x∈([[124,124]]:cN)↔cK x=0:=by
 unfold cK;simp only[eo,fi,or_false,beq_iff_eq,jg];repeat' split
 all_goals simp_all
def dq_(x:cC):x∈([[38,38]]:cN)↔cK x=1:=by
 unfold cK;simp only[eo,fi,or_false,beq_iff_eq,jg];repeat' split
 all_goals simp_all
def dp_(x:cC):x∈([[61,61],[33,61],[60],[60,61]]:cN)↔cK x=2:=by
 unfold cK;simp only[eo,fi,or_false,beq_iff_eq,jg];repeat' split
 all_goals simp_all
def do_(x:cC):x∈([[43],[45]]:cN)↔cK x=3:=by
 constructor
 ·simp only[eo,fi,or_false];rintro(rfl|rfl)<;>decide
 ·unfold cK;simp only[eo,fi,or_false,beq_iff_eq,jg];repeat' split
  all_goals simp_all
def dn_(x:cC):x∈([[42],[47],[37]]:cN)↔cK x=4:=by
 constructor
 ·simp only[eo,fi,or_false];rintro(rfl|rfl|rfl)<;>decide
 ·unfold cK;simp only[eo,fi,or_false,beq_iff_eq,jg];repeat' split
  all_goals simp_all
def SQ(ts:List bC)(p:Nat):oZ ts p [[45],[33]]=if bF ts p [45] then [45] else if bF ts p [33] then [33] else []:=by
 unfold oZ;simp only[List.find?_cons,List.find?_nil];cases bF ts p [45]<;>cases bF ts p [33]<;>rfl
def LU(C:Ctx)(w:aG)(p:Nat)(h:PAt C w p)(l:cN)(q:l.length<=100)(a:∀x∈l,x≠[])(d:cC)(g:oZ C.ts p l=d)(j:Nat)(f:j=w.heap.size)(n:Nat)(t:n=l.length)(cs:Array Value)(c:cs=(l.map λx=>Value.string (bs x)).toArray):
 Calls prog 153 #[aZ C.pb,.slice (some (aH j 0)) n n] (w.alloc (.cells cs 9)) λe b=>e=aX (.string (bs d))/\PAt C b (if d=[] then p else p+1)/\Fr C.pb w b:=by
 subst g f t;have k:=h.pb_lt;refine(LQ C _ p l w.heap.size l.length s_ o_ q a ?_ (h.alloc _)).mono λe b ⟨o,m,r⟩=>⟨o,m,((Fr.refl _ _).alloc _).trans r⟩
 intro i s;refine aA (aN _ _ rfl _) ?_;rw[c];simp[s]
def WD(C:Ctx)(E:Nat->cD aE)(HE:PReads C 80 E)(g:Nat)(ae:PReads C 218 (eW E C.ts g)):PReads C 218 (eW E C.ts (g+1)):=by
 intro w p h G;have ih:=aB ae;have aa:=aB (nV C w p h);have an:=h.pb_lt;have ap:=h.g_lt;have ak:=aB (z6 C E HE);obtain⟨r,hr⟩:=E_ (eW E C.ts (g+1) p);rw[<-hr] at G ⊢
 rw[eW] at hr;have U:=aB hr;have P:=aB G;have H:=aB h;clear h HE G hr ae;generalize O:(aT C.ts p).l_=I at*;have n:=aB (SQ C.ts p);generalize Y:oZ C.ts p [[45],[33]]=oo at*;have B:=aB Y;clear Y;go_enter func218,ntmps218;go_wp2_with fail;refine aa.out.mono ?_;rintro e w1 ⟨rfl,F⟩;have X:=aB ((Fr.below (pb:=C.pb) F).alloc (.cells #[.int .i64 I] 163));have ag:=aB ((H.out.below F).alloc (.cells #[.int .i64 I] 163));have ad:=aB (PlB.new w1 I);have ao:=F.size;clear F aa;have HM:=aB (LU C _ p ag.out [[45],[33]] d_ (by intro x hx;simp at hx;rcases hx with rfl|rfl<;>simp) oo B.out (w1.heap.size+1) s_ 2 rfl #[.string ⟨#[45]⟩,.string ⟨#[33]⟩] rfl)
 generalize ac:(if oo=[] then p else p+1)=qo at*
 have s:=aB ac;clear ac;go_wp2_with fail;refine HM.out.mono ?_;rintro e w2 ⟨rfl,ab,N⟩;have L:=aB ab;have m:=aB (X.out.trans N);have o:=aB (N.keepB ad.out o_)
 have J:=m.out.size;clear ab N X ag ad;by_cases f:bF C.ts p [45]=true
 ·obtain rfl:oo=[45]:=by rw[n.out,if_pos f]
  obtain rfl:qo=p+1:=s.out.symm;obtain⟨D,d⟩:=E_ (eW E C.ts g (p+1));have c:Hid (r=cG (λx=>aV [45,120] I [] [x]) D):=by show _=_;rw[U.out,if_pos f,d]
  have y:eW E C.ts g (p+1)≠.error 0:=λe=>P.out (by rw[c.out,d,e];rfl)
  have z:=aB (ih.out w2.drew (p+1) L.out.drew y);rw[<-d] at z;clear y d U n B s HM f O;have c0:=aA o.out (i:=0) rfl;have al:=aC o.out;simp only[bs];cases D with
  |error l=>
   have Q:Hid (r=.error l):=c.out;go_wp2_with fail;go_region_law (refine thrown .nilIface ?_ ?_;(focus go_simp;go_at_call 218;refine z.out.mono ?_;rintro e w5 ⟨b,rfl⟩;exact ff rfl (Out.err Q.out (m.out.drew.trans b)));intro j)
   all_goals exact j.out.elim
  |ok V=>
   obtain⟨a,q⟩:=V;have Q:Hid (r=.ok (aV [45,120] I [] [a],q)):=c.out;go_wp2_with fail;go_region_law (go_simp;go_at_call 218;refine z.out.mono ?_;rintro e w5 ⟨b,v,v5,rfl,k⟩;obtain⟨T5,am,rfl⟩:=k.form;have M:=aB k;have S:=aB b;have K:=aB v;have u:=aB (((Fr.refl C.pb w2).drew.trans b).keepB o.out o_);have d0:=aA u.out (i:=0) rfl;have ai:=aC u.out;clear b v k)
   all_goals (go_wp2_with fail;go_ret)
   all_goals exact Out.ok Q.out (m.out.drew.trans S.out) K.out (PN.mk (d6 (d6 (d6 (d6 (d6 (d6 (d6 (d7 ⟨rfl,45,_,a,rfl,d7 rfl,rfl,rfl,rfl⟩)))))))) (λp hp=>by obtain rfl:=ew.1 hp;exact Prt.ok.node (M.out.grow (λ_ _ _=>rfl) J (en _))))
 by_cases t:bF C.ts p [33]=true
 ·obtain rfl:oo=[33]:=by rw[n.out,if_neg f,if_pos t]
  obtain rfl:qo=p+1:=s.out.symm;obtain⟨D,d⟩:=E_ (eW E C.ts g (p+1));have c:Hid (r=cG (λx=>aV [33,120] I [] [x]) D):=by show _=_;rw[U.out,if_neg f,if_pos t,d]
  have y:eW E C.ts g (p+1)≠.error 0:=λe=>P.out (by rw[c.out,d,e];rfl)
  have z:=aB (ih.out w2.drew (p+1) L.out.drew y);rw[<-d] at z;clear y d U n B s HM f t O;have c0:=aA o.out (i:=0) rfl;have al:=aC o.out;simp only[bs];cases D with
  |error l=>
   have Q:Hid (r=.error l):=c.out;go_wp2_with fail;go_region_law (refine thrown .nilIface ?_ ?_;(focus go_simp;go_at_call 218;refine z.out.mono ?_;rintro e w5 ⟨b,rfl⟩;exact ff rfl (Out.err Q.out (m.out.drew.trans b)));intro j)
   all_goals exact j.out.elim
  |ok V=>
   obtain⟨a,q⟩:=V;have Q:Hid (r=.ok (aV [33,120] I [] [a],q)):=c.out;go_wp2_with fail;go_region_law (go_simp;go_at_call 218;refine z.out.mono ?_;rintro e w5 ⟨b,v,v5,rfl,k⟩;obtain⟨T5,am,rfl⟩:=k.form;have M:=aB k;have S:=aB b;have K:=aB v;have u:=aB (((Fr.refl C.pb w2).drew.trans b).keepB o.out o_);have d0:=aA u.out (i:=0) rfl;have ai:=aC u.out;clear b v k)
   all_goals (go_wp2_with fail;go_ret)
   all_goals exact Out.ok Q.out (m.out.drew.trans S.out) K.out (PN.mk (d6 (d6 (d6 (d6 (d6 (d6 (d6 (d7 ⟨rfl,33,_,a,rfl,d6 rfl,rfl,rfl,rfl⟩)))))))) (λp hp=>by obtain rfl:=ew.1 hp;exact Prt.ok.node (M.out.grow (λ_ _ _=>rfl) J (en _))))
 obtain rfl:oo=[]:=by rw[n.out,if_neg f,if_neg t]
 obtain rfl:p=qo:=s.out;have c:Hid (r=bX (eH E C.ts p) (dK E C.ts (C.ts.length+1))):=by show _=_;rw[U.out,if_neg f,if_neg t]
 have z:=aB (ak.out w2 p L.out (by show bX _ _≠_;rw[<-c.out];exact P.out))
 simp only[<-c.out] at z;clear U n B s HM f t O;simp only[bs];go_wp2_with fail;refine z.out.mono ?_;rintro e w3 ⟨A,af⟩;cases r with
 |error l=>
  obtain rfl:e=cU 4 l:=af;have T:=aB (m.out.trans A);clear A;go_wp2_with fail;exact⟨rfl,Out.err rfl T.out⟩
 |ok V=>
  obtain⟨a,q⟩:=V;obtain⟨W,v3,rfl,Z⟩:=af;have T:=aB (m.out.trans A);have ah:=aB W;have aj:=aB Z;clear A W Z;go_wp2_with fail;go_ret;exact Out.ok rfl T.out ah.out (aj.out.grow (λ_ _ _=>rfl) J (en _))
def J3(C:Ctx)(E:Nat->cD aE)(c:PReads C 80 E)(g:Nat):PReads C 218 (eW E C.ts g):=by
 induction g with
 |zero=>exact λw p _ a=>absurd rfl a
 |succ g b=>exact WD C E c g b
end Go.Proofs.YtlflgmdcghfngaaGreatDoor
