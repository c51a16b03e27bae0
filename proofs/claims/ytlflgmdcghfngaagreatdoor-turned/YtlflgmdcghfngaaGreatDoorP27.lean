/- Stacks: two moments tell the same. -/
import Derived.Test.YtlflgmdcghfngaaGreatDoorB09
import Derived.Test.YtlflgmdcghfngaaGreatDoorP26
import Derived.Test.YtlflgmdcghfngaaGreatDoorP22
set_option linter.defProp false
set_option maxRecDepth 100000
set_option maxHeartbeats 4000000
namespace Go.Proofs.YtlflgmdcghfngaaGreatDoor
open Hs
open _root_.Go.Proofs.Tryz
open Go.RowKit
variable{b c n:Nat}{x:Option Addr}{m:SV}{W:aG}{s:aW}
def c1_(W:aG)(x y:Option Addr)(l:List (Value × Value)):Prop:=∀i (h:i<l.length),∃g g',x=some (aH g 0)/\y=some (aH g' 0)/\W.cell? (aH g (i*2))=some l[i].1/\W.cell? (aH g (i*2+1))=some l[i].2/\W.cell? (aH g' (i*2))=some l[i].1/\W.cell? (aH g' (i*2+1))=some l[i].2/\g<W.heap.size/\g'<W.heap.size
def de_(W:aG)(x y:Option Addr)(l:cN):Prop:=∀i (h:i<l.length),∃g g',x=some (aH g 0)/\y=some (aH g' 0)/\W.cell? (aH g i)=some (.string (bs l[i]))/\W.cell? (aH g' i)=some (.string (bs l[i]))/\g<W.heap.size/\g'<W.heap.size
def L9(W f:aG)(a b:SV)(h:List (cC × Nat))(k:List (cC × cC))(lo:cN)(hl:h.length<=1000000/\k.length<=1000000/\lo.length<=1000000)
 (et:b.t=a.t) (eq:b.q=a.q) (n1:a.n1=h.length) (n2:a.n2=k.length) (n3:a.n3=lo.length) (I:b.n1=h.length) (K:b.n2=k.length) (X:b.n3=lo.length)
 (U:(W.alloc (.cells a.cells 35)).alloc (.cells b.cells 35)=f)
 (hS:c1_ f a.x1 b.x1 (sH h)) (hV:c1_ f a.x2 b.x2 (k.map λp=>(.string (bs p.1),.string (bs p.2)))) (hO:de_ f a.x3 b.x3 lo):
 Calls prog 8 #[a.val,b.val] W λe w'=>e=aX (.bool true)/\aU f w':=by
 obtain⟨aa,N,T,M,ae,ab,ad,P,H,Q,aq⟩:=a;obtain⟨bt,O,S,Y,ag,ac,af,J,L,Z,bq⟩:=b;simp only at et eq n1 n2 n3 I K X hS hV hO;subst et eq n1 n2 n3 I K X;unfold SV.cells at U;have r:f.heap[W.heap.size]?=some (.cells #[I_ bt,.slice N h.length P,.slice T k.length H,.slice M lo.length Q,I_ bq] 35 (0,0)):=by rw[<-U];exact iF _ _ _
 have s:f.heap[W.heap.size+1]?=some (.cells #[I_ bt,.slice O h.length J,.slice S k.length L,.slice Y lo.length Z,I_ bq] 35 (0,0)):=by rw[<-U];exact fR _ _ _
 have HW:=aB U;have HS:=aB hS;have HV:=aB hV;have HO:=aB hO;have CA:Hid (∀(V:aG),aU f V->V.cell? (aH W.heap.size 0)=some (I_ bt)/\V.cell? (aH W.heap.size 1)=some (.slice N h.length P)/\V.cell? (aH W.heap.size 2)=some (.slice T k.length H)/\V.cell? (aH W.heap.size 3)=some (.slice M lo.length Q)/\V.cell? (aH W.heap.size 4)=some (I_ bq)/\W.heap.size<V.heap.size):=aB λV c=>⟨bN c.heap (aA r rfl),bN c.heap (aA r rfl),bN c.heap (aA r rfl),bN c.heap (aA r rfl),bN c.heap (aA r rfl),jR c.heap (aC r)⟩
 have CB:Hid (∀(V:aG),aU f V->V.cell? (aH (W.heap.size+1) 0)=some (I_ bt)/\V.cell? (aH (W.heap.size+1) 1)=some (.slice O h.length J)/\V.cell? (aH (W.heap.size+1) 2)=some (.slice S k.length L)/\V.cell? (aH (W.heap.size+1) 3)=some (.slice Y lo.length Z)/\V.cell? (aH (W.heap.size+1) 4)=some (I_ bq)/\W.heap.size+1<V.heap.size):=aB λV c=>⟨bN c.heap (aA s rfl),bN c.heap (aA s rfl),bN c.heap (aA s rfl),bN c.heap (aA s rfl),bN c.heap (aA s rfl),jR c.heap (aC s)⟩
 obtain⟨A,y,B,D,z,E⟩:=CA f (aU.refl _);obtain⟨w,x,F,v,G,C⟩:=CB f (aU.refl _);clear U r s hS hV hO;unfold SV.val;go_in
 go_wp2_with fail;rw[HW.out];go_wp2_with fail;clear A y B D z E w x F v G C;go_loopg [5] h.length (λgk i wr=>∃j:Nat,j+gk=h.length/\i=I_ j/\aU f wr)
 case atStart=>exact⟨0,o_,rfl,aU.refl _⟩
 case round=>
  obtain⟨j,hj,rfl,d⟩:=hrel;obtain⟨A,y,B,D,z,E⟩:=CA _ d;obtain⟨w,x,F,v,G,C⟩:=CB _ d;have q:=aB d;by_cases l:j<h.length
  ·obtain⟨m,rfl⟩:∃m,gk=m+1:=⟨gk-1,o_⟩
   obtain⟨g,g',rfl,rfl,o,t,n,u,q5,q6⟩:=HS j (by simpa [sH] using l)
   simp only[sH,List.getElem_map] at o t n u;replace o:=bN d.heap o
   replace t:=bN d.heap t
   replace n:=bN d.heap n
   replace u:=bN d.heap u
   have e1:(0:Int)<=(j:Int):=o_
   have e2:(j:Int)<(h.length:Int):=o_
   clear d;go_wp2_with fail;go_quiet (fail)
   go_wp2
   go_roundg m
   case measure=>omega
   case rel=>exact⟨j+1,o_,by go_num,q.trans (aU.drewN _ _)⟩
  ·have e3:¬(j:Int)<(h.length:Int):=o_
   clear d;go_wp2_with fail;clear A y B D z E w x F v G C;go_loopg [6] k.length (λgk i wr=>∃j:Nat,j+gk=k.length/\i=I_ j/\aU f wr)
   case atStart=>exact⟨0,o_,rfl,q⟩
   case round=>
    clear q;obtain⟨j,hj,rfl,d⟩:=hrel;obtain⟨A,y,B,D,z,E⟩:=CA _ d;obtain⟨w,x,F,v,G,C⟩:=CB _ d;have q:=aB d;by_cases l:j<k.length
    ·obtain⟨m,rfl⟩:∃m,gk=m+1:=⟨gk-1,o_⟩
     obtain⟨g,g',rfl,rfl,o,t,n,u,q5,q6⟩:=HV j (by simpa using l)
     simp only[List.getElem_map] at o t n u;replace o:=bN d.heap o
     replace t:=bN d.heap t
     replace n:=bN d.heap n
     replace u:=bN d.heap u
     have e1:(0:Int)<=(j:Int):=o_
     have e2:(j:Int)<(k.length:Int):=o_
     clear d;go_wp2_with fail;go_quiet (fail)
     go_wp2
     go_roundg m
     case measure=>omega
     case rel=>exact⟨j+1,o_,by go_num,q.trans (aU.drewN _ _)⟩
    ·have e3:¬(j:Int)<(k.length:Int):=o_
     clear d;go_wp2_with fail;clear A y B D z E w x F v G C;go_loopg [7] lo.length (λgk i wr=>∃j:Nat,j+gk=lo.length/\i=I_ j/\aU f wr)
     case atStart=>exact⟨0,o_,rfl,q⟩
     case round=>
      clear q;obtain⟨j,hj,rfl,d⟩:=hrel;obtain⟨A,y,B,D,z,E⟩:=CA _ d;obtain⟨w,x,F,v,G,C⟩:=CB _ d;have q:=aB d;by_cases l:j<lo.length
      ·obtain⟨m,rfl⟩:∃m,gk=m+1:=⟨gk-1,o_⟩
       obtain⟨g,g',rfl,rfl,o,n,q5,q6⟩:=HO j l;replace o:=bN d.heap o
       replace n:=bN d.heap n
       have e1:(0:Int)<=(j:Int):=o_
       have e2:(j:Int)<(lo.length:Int):=o_
       clear d;go_wp2_with fail;go_quiet (fail)
       go_wp2
       go_roundg m
       case measure=>omega
       case rel=>exact⟨j+1,o_,by go_num,q.trans (aU.drewN _ _)⟩
      ·have e3:¬(j:Int)<(lo.length:Int):=o_
       clear d;go_wp2
       go_ret;exact⟨rfl,q⟩
noncomputable def QR(s:aW):List (cC × cC):=match s.m.f_.getLast? with
 |none=>[]
 |some f=>(lR f.e_).map λx=>(x,WB f x)
def b8(s:aW):zZ s=(QR s).map λp=>(.string (bs p.1),.string (bs p.2)):=by
 unfold zZ QR;cases s.m.f_.getLast? with
 |none=>rfl
 |some f=>simp[oA]
def gS.len{b_:Nat}{w:aG}{l:List (Value × Value)}(h:gS b_ w (.slice x n c) l):n=l.length:=by
 obtain⟨b,a,e,_⟩:=h;cases e;rfl
def qY.len{b_:Nat}{w:aG}{l:cN}(h:qY b_ w (.slice x n c) l):n=l.length:=by
 obtain⟨b,a,e,_⟩:=h;cases e;rfl
def up2(W:aG)(o p:Obj){k:Nat}(a:k<W.heap.size):((W.alloc o).alloc p).heap[k]?=W.heap[k]?:=by
 rw[ek _ _ _ t_,ek _ _ _ a]
def gS.two{z:Nat}{j:aG}{y:Option Addr}{u c':Nat}{l m:List (Value × Value)}(h:gS b W (.slice x n c) l)(k:gS z W (.slice y u c') m)(H:W.heap.size<=j.heap.size)(a:∀k,k<W.heap.size->j.heap[k]?=W.heap[k]?){d:List (Value × Value)}(B:d<+:l)(v:d<+:m):c1_ j x y d:=by
 obtain⟨G,c',e,h⟩:=h;obtain⟨F,E,C,k⟩:=k;cases e;cases C;obtain⟨J,rfl⟩:=B;obtain⟨I,rfl⟩:=v;intro i D;obtain⟨g,A,t,p,_,r⟩:=h i t_
 obtain⟨f,w,s,o,_,q⟩:=k i t_
 rw[jq D] at t p s o;exact⟨g,f,A,w,(World.cell?_of_block (a g r)).trans t,(World.cell?_of_block (a g r)).trans p,(World.cell?_of_block (a f q)).trans s,(World.cell?_of_block (a f q)).trans o,o_,o_⟩
def qY.two{r:Nat}{a:aG}{y:Option Addr}{p c':Nat}{l m:cN}(h:qY b W (.slice x n c) l)(k:qY r W (.slice y p c') m)(D:W.heap.size<=a.heap.size)(f:∀k,k<W.heap.size->a.heap[k]?=W.heap[k]?)(t:l<+:m):de_ a x y l:=by
 obtain⟨C,c',e,h⟩:=h;obtain⟨B,z,u,k⟩:=k;cases e;cases u;obtain⟨E,rfl⟩:=t;intro i j;obtain⟨g,s,A,_,w⟩:=h i j;obtain⟨d,q,o,_,v⟩:=k i t_
 rw[jq j] at o;exact⟨g,d,s,q,(World.cell?_of_block (f g w)).trans A,(World.cell?_of_block (f d v)).trans o,o_,o_⟩
structure Short(s:aW):Prop where
 deep:s.m.f_.length<=16
 out:s.m.out.length<=1000000
 g_:(QR s).length<=1000000
 m_:s.m_<=500
def p8{t:Nat}{a:SV}(h:tM b W m s)(k:tM t W a s)(l:Short s):
 Calls prog 8 #[m.val,a.val] W λe p=>e=aX (.bool true)/\Below W.heap.size W p:=by
 have g:W.heap.size<=((W.alloc (.cells m.cells 35)).alloc (.cells a.cells 35)).heap.size:=t_
 have j:=λk u=>up2 W (.cells m.cells 35) (.cells a.cells 35) (k:=k) u
 have o:=h.g_;have n:=k.g_;rw[b8] at o n;have q:=h.stack.len;have c:=k.stack.len;have r:=o.len;have d:=n.len;have v:=h.out.len;have i:=k.out.len;simp only[sH,gQ,List.length_map] at q c r d;refine(L9 W _ m a (gQ s.m.f_) (QR s) s.m.out ⟨by simp[gQ];have:=l.deep;omega,l.g_,l.out⟩ (by rw[h.t,k.t]) (by rw[h.q,k.q]) (by simp[gQ];exact q) r v (by simp[gQ];exact c) d i rfl (h.stack.two k.stack g j (ke _) (ke _)) (o.two n g j (ke _) (ke _)) (h.out.two k.out g j (ke _))).mono ?_
 rintro e p ⟨rfl,f⟩;exact⟨rfl,(((eh W.heap.size W).alloc cL (.cells m.cells 35)).alloc s_ (.cells a.cells 35)).trans ⟨f.os,f.tape,f.output,by rw[f.heap];exact en _,λk _=>by rw[f.heap]⟩⟩
def FK(a:ByteArray)(w:aG)(f:fX w)(i:a.size<=maxLen):
 Calls prog 12 #[.string a] w λe c=>Below w.heap.size w c/\((cE a.data.toList).1=0->cE a.data.toList=(0,0))/\e=aX (.tuple #[I_ (cE a.data.toList).1,I_ (cE a.data.toList).2]):=
 aP_ (cE a.data.toList) a w λb g j d=>(B5 a w.heap.size b (f.below g) i j d).mono λ_ _ h=>h
def C7(w:aG)(A:Nat->World->Prop)(B:World->Prop)
 (i:Hid (Calls prog 27 #[.string ⟨#[102,117,110,99,32,102,40,120,41,32,123,32,114,101,116,117,114,110,32,91,120,44,32,34,195,169,34,93,59,32,125,10,102,117,110,99,32,109,97,105,110,40,41,32,123,32,118,97,114,32,97,32,61,32,102,40,50,41,59,32,112,114,105,110,116,32,97,59,32,112,114,105,110,116,32,108,101,110,40,97,91,49,93,41,59,32,125]⟩] w λe a=>∃g c,e=aX (.tuple #[.slice (some (aH g 0)) 2 c,I_ 4,.bool true])/\A g a))
 (h:Hid (∀g W,A g W->Calls prog 12 #[.string ⟨#[102,117,110,99,32,109,97,105,110,40,41,32,123,10,32,112,114,105,110,116,32,120,59,32,125]⟩] W λe a=>e=aX (.tuple #[I_ 6,I_ 2])/\a.cell? (aH g 0)=some (.string ⟨#[91,50,44,32,34,195,169,34,93]⟩)/\a.cell? (aH g 1)=some (.string ⟨#[49]⟩)/\g<a.heap.size/\B a)):
 Calls prog 10 #[] w λe a=>e=aX (.bool true)/\B a:=by
 go_in
 go_wp2_with fail;refine i.mono ?_;rintro e k ⟨g,c,rfl,f⟩;have b:=aB (h _ _ f);clear f i h;go_wp2_with fail;refine b.mono ?_;rintro e n ⟨rfl,l,o,m,d⟩;have j:=aB d;clear d b;go_wp2
 go_ret;exact⟨rfl,j⟩
def Z0(w:aG)(k:fX w)(q:kE w)(d:9<=w.heap.size):Calls prog 10 #[] w λe i=>e=aX (.bool true)/\Below w.heap.size w i:=by
 refine C7 w (λg W=>Below w.heap.size w W/\W.cell? (aH g 0)=some (.string ⟨#[91,50,44,32,34,195,169,34,93]⟩)/\W.cell? (aH g 1)=some (.string ⟨#[49]⟩)/\g<W.heap.size) (λW=>Below w.heap.size w W) ?_ (λg W o=>?_)
 ·refine(SE w D7 4 _ WC k q d).mono ?_;rintro e i ⟨x,n,c,rfl,⟨t,s,b,f⟩,a⟩;obtain⟨g,rfl,j,h,l⟩:=f 0 s_
  obtain⟨u,m,r,_,_⟩:=f 1 s_
  cases m;simp only[Value.slice.injEq] at b;obtain⟨rfl,rfl,rfl⟩:=b;exact⟨g,_,rfl,a,j,r,l⟩
 ·obtain⟨b,f,j,h⟩:=o;refine(FK (bs D8) W (k.below b) (by rw[gJ];decide)).mono ?_
  rintro e i ⟨a,_,rfl⟩;rw[gR,XZ];exact⟨rfl,(a.cell (p:=(aH g 0)) h).trans f,(a.cell (p:=(aH g 1)) h).trans j,ej h a.size,b.trans (a.mono b.size)⟩
def Y7(w:aG)(d:cC)(tx:Option Addr)(c:Nat)(a:List Int)(H:fX w)(J:kE w)(B:9<=w.heap.size)(hs:d.length<=140737488355328)(z:a.length<=17592186044416)(hi:∀x∈a, -9223372036854775808<=x/\x<=9223372036854775807)
 (K:0<a.length->∃I,tx=some I/\I.block<w.heap.size/\∀j v,(a.map (Value.int .i64))[j]?=some v->w.cell? (I.add j)=some v):
 Calls prog 4 #[.string (bs d),.slice tx a.length c] w λe u=>∃p,e=aX (.tuple #[.pointer p,.bool true])/\Below w.heap.size w u/\((p=none/\(cE d).1≠0)\/∃sb ks n G m s,p=some (aH sb 0)/\Good ks/\Live n G u sb m (.map #[] 0) ks a s 1 []/\s.m_=0/\w.heap.size<=sb/\w.heap.size<=m/\cO d=.ok ks/\cE d=(0,0)/\∀b,G b->Nw w b):=by
 have o:(a.map (Value.int .i64)).length=a.length:=s_
 have T:gJ d=gJ d:=rfl;rw[<-o]
 refine C5 w (bs d) tx c (a.map (Value.int .i64)) (by rw[o];exact z) (λv C=>?_) (λW=>Below w.heap.size w W)
  (λp k l W=>Below w.heap.size w W/\cE d=(k,l)/\(p=none↔k≠0)/\(p=none\/∃sb ks n G m s,p=some (aH sb 0)/\Good ks/\Live n G W sb m (.map #[] 0) ks a s 1 []/\s.m_=0/\w.heap.size<=sb/\w.heap.size<=m/\cO d=.ok ks/\cE d=(0,0)/\∀b,G b->Nw w b))
  (λp W=>Below w.heap.size w W/\((p=none/\(cE d).1≠0)\/∃sb ks n G m s,p=some (aH sb 0)/\Good ks/\Live n G W sb m (.map #[] 0) ks a s 1 []/\s.m_=0/\w.heap.size<=sb/\w.heap.size<=m/\cO d=.ok ks/\cE d=(0,0)/\∀b,G b->Nw w b))
  (Z0 w H J B) (λW D=>⟨D,λh=>K (by rw[<-o];exact h)⟩) (λW V g D hV N aa=>?_) (λp k l W hS=>?_)
 ·simp only[gz] at C;obtain⟨x,_,rfl⟩:=C;rfl
 ·have f:Below w.heap.size w V:=D.trans (hV.mono D.size);refine(FY (bs d) (.slice (some (aH g 0)) (a.map (Value.int .i64)).length (a.map (Value.int .i64)).length) a V (H.below f) (J.below f) (by rw[gJ];omega) (d6 ⟨g,0,_,by rw[o],aC N,λi F=>⟨?_,hi _ (fo _)⟩⟩) z (λks P M=>?_)).mono ?_
  ·rw[ge];exact aA N (by simp[F])
  ·rw[gR] at P M;exact DF P M
  ·rintro e u ⟨v,rfl,r,C⟩;rw[gR] at C;have t:Below w.heap.size w u:=f.trans (r.mono f.size);have L:w.heap.size<=V.heap.size:=f.size;rcases C with ⟨y,ks,n,G,sb,m,O,rfl,q2,q3,q4,s,q5,Z,U⟩|⟨y,rfl⟩
   ·refine⟨some (aH sb 0),0,0,rfl,t,y,s_,d6 ⟨sb,ks,n,G,m,s,rfl,DF O y,⟨q5,q4,J.below t,⟨o_,o_⟩,o_,λb r=>by cases r⟩,Z,o_,o_,O,y,λb q=>(U b q).of f⟩⟩
   ·exact⟨none,_,_,rfl,t,rfl,by simpa using y,d7 rfl⟩
 ·obtain⟨r,Q,A,E⟩:=hS;refine⟨A,(FK (bs d) W (H.below r) (by rw[gJ];unfold maxLen;omega)).mono ?_⟩
  rintro e u ⟨q,_,rfl⟩;rw[gR,Q];refine⟨rfl,r.trans (q.mono r.size),?_⟩;rcases E with E|⟨sb,ks,n,G,m,s,e1,e2,e3,e4,S,e6,X,e8,Y⟩
  ·exact d7 ⟨E,A.1 E⟩
  ·exact d6 ⟨sb,ks,n,G,m,s,e1,e2,e3.but (But.below q []) nY,e4,S,e6,X,by rw[<-Q];exact e8,Y⟩
def MS(w:aG)(b:cC)(tx:Option Addr)(c:Nat)(a:List Int)(t:fX w)(y:kE w)(d:9<=w.heap.size)(A:b.length<=140737488355328)(k:a.length<=17592186044416)(hi:∀x∈a, -9223372036854775808<=x/\x<=9223372036854775807)
 (m:0<a.length->∃l,tx=some l/\l.block<w.heap.size/\∀j v,(a.map (Value.int .i64))[j]?=some v->w.cell? (l.add j)=some v):
 Calls prog 4 #[.string (bs b),.slice tx a.length c] w λe g=>∃p,e=aX (.tuple #[.pointer p,.bool true])/\Below w.heap.size w g/\((p=none/\(cE b).1≠0)\/∃sb ks i G f s,p=some (aH sb 0)/\Good ks/\Live i G g sb f (.map #[] 0) ks a s 1 []/\s.m_=0/\w.heap.size<=sb/\w.heap.size<=f/\cO b=.ok ks/\cE b=(0,0)):=by
 refine(Y7 w b tx c a t y d A k hi m).mono ?_;rintro e g ⟨p,rfl,n,h|⟨sb,ks,i,G,f,s,B,u,C,D,o,r,q,z,_⟩⟩
 ·exact⟨p,rfl,n,d7 h⟩
 ·exact⟨p,rfl,n,d6 ⟨sb,ks,i,G,f,s,B,u,C,D,o,r,q,z⟩⟩
def tI(m:SV):List Nat:=(if m.n1=0 then [] else (m.x1.map (·.block)).toList)++((if m.n2=0 then [] else (m.x2.map (·.block)).toList)++(if m.n3=0 then [] else (m.x3.map (·.block)).toList))
def tM.keepL{W':aG}(h:tM b W m s)(f:∀g∈tI m,W'.heap[g]?=W.heap[g]?)(z:W.heap.size<=W'.heap.size):tM b W' m s:=by
 have u:∀{x:Option Addr} {n c:Nat} {l:List (Value × Value)},gS b W (.slice x n c) l->(∀g,n≠0->x=some (aH g 0)->W'.heap[g]?=W.heap[g]?)->gS b W' (.slice x n c) l:=by
  rintro x n c l ⟨t,r,e,d⟩ w;cases e;refine⟨_,_,rfl,λi k=>?_⟩
  obtain⟨g,a,j,p,v,y⟩:=d i k;have:=w g o_ a
  exact⟨g,a,(World.cell?_of_block this).trans j,(World.cell?_of_block this).trans p,v,o_⟩
 refine⟨h.t,h.q,u h.stack λg o e=>f g ?_,u h.g_ λg o e=>f g ?_,?_⟩
 ·unfold tI;rw[if_neg o,e];simp
 ·unfold tI;rw[if_neg o,e];simp
 ·obtain⟨t,r,e,d⟩:=h.out;have q:=e;simp only[Value.slice.injEq] at q;refine⟨t,r,e,λi k=>?_⟩
  obtain⟨g,a,j,p,v⟩:=d i k;have:=f g (by unfold tI;rw[if_neg (show ¬m.n3=0 by omega),q.1,a];simp)
  exact⟨g,a,(World.cell?_of_block this).trans j,p,o_⟩
def tM.blks(h:tM b W m s):∀g∈tI m,b<=g/\g<W.heap.size:=by
 have k:∀{x:Option Addr} {n c:Nat} {l:List (Value × Value)} {g:Nat},gS b W (.slice x n c) l->n≠0->g∈(x.map (·.block)).toList->b<=g/\g<W.heap.size:=by
  rintro x n c l g ⟨p,o,e,f⟩ r a;cases e;obtain⟨q,i,_,_,j,d⟩:=f 0 o_
  rw[i] at a;simp at a;subst a;exact⟨j,d⟩
 intro g a;unfold tI at a;simp only[eu] at a;rcases a with a|a|a
 ·split at a
  ·cases a
  ·exact k h.stack (by assumption) a
 ·split at a
  ·cases a
  ·exact k h.g_ (by assumption) a
 ·split at a
  ·cases a
  ·rename_i r;obtain⟨p,o,e,f⟩:=h.out;simp only[Value.slice.injEq] at e;obtain⟨q,i,_,j,d⟩:=f 0 o_
   rw[e.1,i] at a;simp at a;subst a;exact⟨j,d⟩
structure nR(w:aG)(ks:List aE)(tape:List Int)(sb:Nat)(W:aG)(L:List Nat)(s:aW):Prop where
 live:∃fp F mb mo n,Live fp F W sb mb mo ks tape s n L
 sb:w.heap.size<=sb
 low:Below w.heap.size w W
structure Mom(L:List Nat)(W:aG)(m:SV)(ab:Nat)(s:aW):Prop where
 mom:tM 0 W m s
 blk:∀b∈tI m,b∈L
 box:W.heap[ab]?=some (.cells m.cells 35 (0,0))
 mem:ab∈L
section
variable {w:aG} {ks:List aE} {tape:List Int} {sb:Nat} {W W':aG} {L L':List Nat} {s s':aW} {m:SV} {ab:Nat}
def Mom.keep(h:Mom L W m ab s)(a:∀b∈L,W'.heap[b]?=W.heap[b]?)(e:W.heap.size<=W'.heap.size)(c:∀b∈L,b∈L'):Mom L' W' m ab s:=
 ⟨h.mom.keepL (λg f=>a g (h.blk g f)) e,λb d=>c b (h.blk b d),by rw[a ab h.mem];exact h.box,c _ h.mem⟩
def nR.st(h:nR w ks tape sb W L s):bT ks tape s.m_=some s:=by
 obtain⟨d,F,c,b,n,a⟩:=h.live;exact a.ses.now
def nR.lt(h:nR w ks tape sb W L s){b:Nat}(c:b∈L):b<W.heap.size:=by
 obtain⟨f,F,e,d,n,a⟩:=h.live;exact(a.loc b c).2.1
def nR.below(h:nR w ks tape sb W L s)(a:Below W.heap.size W W'):nR w ks tape sb W' L s:=by
 obtain⟨e,F,c,b,n,d⟩:=h.live;exact⟨⟨e,F,c,b,n,d.but (But.below a []) nY⟩,h.sb,h.low.trans (a.mono h.low.size)⟩
def nR.short(c:Good ks)(h:nR w ks tape sb W L s):Short s/\mB s.m/\(∀x∈s.m.f_,x.e_.length<=x.g_.length):=by
 obtain⟨b,g,e,i⟩:=c.sta h.st;have a:=ES c.ok c.kl tape s.m_ s h.st;refine⟨⟨b.deep,by have:=e.out;omega,?_,b.m_⟩,a,b.told⟩
 unfold QR;cases d:s.m.f_.getLast? with
 |none=>simp
 |some f=>
  have:=(a f (je d)).1.2;simp[nT];omega
def nR.now(k:Good ks)(h:nR w ks tape sb W L s):
 Calls prog 6 #[aZ sb] W λe a=>∃m:SV,e=aX m.val/\Below W.heap.size W (a.alloc (.cells m.cells 35))/\nR w ks tape sb (a.alloc (.cells m.cells 35)) (a.heap.size::(tI m++L)) s/\Mom (a.heap.size::(tI m++L)) (a.alloc (.cells m.cells 35)) m a.heap.size s/\W.heap.size<=a.heap.size/\∀b∈tI m,W.heap.size<=b:=by
 obtain⟨j,p,x⟩:=h.short k;obtain⟨t,F,u,r,n,i⟩:=h.live;refine(E9 i.ses j.deep i.pow p x j.out).mono ?_;rintro e a ⟨m,rfl,c,v⟩;have d:=v.blks;have q:Live t F a sb u r ks tape s n L:=i.but (But.below c []) nY;have l:=i.freshL q (c.block _ i.ses.lt) (tI m) d;have o:=l.alloc (.cells m.cells 35);have f:Below W.heap.size W (a.alloc (.cells m.cells 35)):=c.alloc c.size _;refine⟨m,rfl,f,⟨⟨t,F,u,r,n,o⟩,h.sb,h.low.trans (f.mono h.low.size)⟩,⟨?_,λb c=>by simp[c],aN _ _ rfl _,s_⟩,c.size,λb c=>(d b c).1⟩
 exact(v.low (ft _)).keepL (λg k=>ek _ _ _ (d g k).2) s_
end
end Go.Proofs.YtlflgmdcghfngaaGreatDoor
