/- Contracts of the program: names: lists, blocks, calls. -/
import Derived.Test.YtddnpoiiimjpcaaGreatDoorP15
set_option linter.defProp false
set_option maxRecDepth 100000
set_option maxHeartbeats 4000000
namespace Go.Proofs.YtddnpoiiimjpcaaGreatDoor
open Hs
open _root_.Go.Proofs.Tryz
open Go.RowKit
def PKid.get{F:cC}{w:aH}{v:aQ}{l:List aC}(h:PKid F w v l):(v=bV/\l=[])\/∃g a,v=.slice (some (aL g 0)) l.length a/\F g/\g<w.heap.size/\l.length<=a/\∀k (b:k<l.length),∃u,w.cell? (aL g k)=some u/\PN F w u l[k]:=by
 rcases h with h|⟨g,a,m,p,i,e,d,f,j,o⟩
 ·exact Y4 h
 ·refine Y3 ⟨g,a,i,e,aD d,f,fun k b=>?_⟩
  obtain⟨u,c,n⟩:=jZ.get k b o;refine⟨u,aA d ?_,n⟩;rw[<-j,i8,if_pos b] at c;simpa using c
abbrev iP(fs:List aC)(al:Bool)(d:Nat)(l:List aC)(s:aZ):aZ:=l.foldl (fun s k=>aN fs al d k s) s
def mE(cb tp lo:Nat)(fs:List aC)(fv:aQ)(d:Nat):Prop:=
 ∀(v:aQ) (l:List aC) (seen:cO) (w:aH),CK cb tp lo fs fv w seen->PKid (Btw lo tp) w v l->(∀k∈l,fF d k)->seen.length+(l.map (bY d)).sum<=90000->l.length<=90000->
  Calls prog 127 #[bO cb,v] w (dB cb tp lo fs fv w (iP fs (fU fv) d l ⟨seen,0,0⟩))
def J0(cb tp lo:Nat)(fs:List aC)(fv:aQ)(d:Nat)(w:aH)(l:List aC)(c:aZ)(gk:Nat)(i:aQ)(wr:aH):Prop:=
 ∃k s,k+gk=l.length/\i=Iv0 (k:Nat)/\FB cb tp w wr/\CK cb tp lo fs fv wr s/\c=iP fs (fU fv) d (l.drop k) ⟨s,0,0⟩/\s.length+((l.drop k).map (bY d)).sum<=90000
def RE(cb y lo:Nat)(fs:List aC)(f:Value)(d:Nat)(X:jS cb y lo fs f d)(g D:Nat)(l:List aC)(seen:List (List UInt8))(w:World)(h:CK cb y lo fs f w seen)(U:g<y)(_hcap:l.length<=D)(hc:∀k (hk:k<l.length),∃u,w.cell? ⟨g,k,none⟩=some u/\PN (Btw lo y) w u l[k])(S:∀k∈l,fF d k)(E:seen.length+(l.map (bY d)).sum<=90000)(hl:l.length<=90000):
 Calls prog 127 #[.pointer (some ⟨cb,0,none⟩),.slice (some ⟨g,0,none⟩) l.length D] w (dB cb y lo fs f w (iP fs (fU f) d l ⟨seen,0,0⟩)):=by
 have HI:Hid (J0 cb y lo fs f d w l (iP fs (fU f) d l ⟨seen,0,0⟩) l.length (.int .i64 (0:Nat)) w):=⟨0,seen,by omega,rfl,FB.refl _,h,by simp,by simpa using E⟩
 have HC:=aB hc;have HD:=aB S;have K:=aB X;have B:=h.lt;clear h hc S X E;generalize iP fs (fU f) d l ⟨seen,0,0⟩=c at*;go_enter func127,ntmps127;go_wp2_with fail;go_loopg [5,8] l.length (fun gk _ i wr=>J0 cb y lo fs f d w l c gk i wr)
 case atStart=>exact HI.out
 case round=>
  obtain⟨k,s,hk,rfl,m,q,n,G⟩:=hrel;have A:=aB m;have I:=aB q;by_cases z:k<l.length
  ·obtain⟨j,rfl⟩:∃j,gk=j+1:=⟨gk-1,by omega⟩
   obtain⟨u,Z,P⟩:=HC.out k z;obtain⟨T,V,rfl⟩:=P.form;have L:wr.cell? ⟨g,k,none⟩=some (.iface T (.agg V)):=(m.bel.cell (p:=⟨g,k,none⟩) U).trans Z;have aa:g<wr.heap.size:=Y7 (Nat.lt_trans (Y7 U B.2) B.1) m.bel.size;have F:l.drop k=l[k]::l.drop (k+1):=(y6 z).symm;have H:=HD.out l[k] (e8 z);rw[F] at n G;simp only[b9,d9] at G;generalize l[k]=a at*;have HX:=aB (K.out (.iface T (.agg V)) a s wr q (P.below m.bel) H (by omega))
   have v:=gA fs (fU f) d a ⟨s,0,0⟩;have HADD:=aB v;have b:c=iP fs (fU f) d (l.drop (k+1)) (aN fs (fU f) d a ⟨s,0,0⟩):=n;have r:=aB b;have Q:=aB G;clear m q P Z F n b v G;generalize aN fs (fU f) d a ⟨s,0,0⟩=W at*;go_wp2_with fail;refine HX.out.mono ?_;rintro e w1 ⟨o,⟨Y,rfl,rfl,t⟩|⟨C,rfl⟩⟩
   rotate_left
   ·have M:=aB (A.out.trans o);have J:=aB C;clear o C;go_wp2_with fail;exact⟨rfl,dB.fault (c1:=W) M.out J.out (by rw[r.out];exact Stk.fold (fun s k=>Stk.walk fs (fU f) d k s) _ _)⟩
   have N:Hid (J0 cb y lo fs f d w l c j (.int .i64 ((k+1:Nat):Int)) w1):=by
    refine⟨k+1,Y,by omega,rfl,A.out.trans o,t,r.out,?_⟩
    obtain⟨x,h1,h2⟩:=HADD.out;have O:Y=s++x:=h1;have:=Q.out;rw[O,Y5];omega
   clear o t HX;go_wp2_with fail;go_roundg j
   case measure=>omega
   case rel=>exact N.out
  ·have b:c=⟨s,0,0⟩:=by rw[n,o8 (by omega)];rfl
   have r:=aB b;clear m q n b;go_wp2_with fail;go_end0;exact dB.done A.out r.out I.out
def RF(cb a lo:Nat)(fs:List aC)(b:aQ)(seen:cO)(w:aH)(h:CK cb a lo fs b w seen):
 Calls prog 127 #[bO cb,bV] w (dB cb a lo fs b w ⟨seen,0,0⟩):=by
 have H:=aB h;clear h;go_in
 go_wp2_with fail;go_loop [5,8] (fun _ i=>i=Iv0 0) (fun _ _=>0)
 case atStart=>rfl
 case round=>
  subst hrel;go_wp2
  go_end0;exact dB.done (FB.refl _) rfl H
def qY(cb c lo:Nat)(fs:List aC)(e:aQ)(d:Nat)(p:jS cb c lo fs e d):mE cb c lo fs e d:=by
 intro v l a w h k j i o;rcases k.get with ⟨rfl,rfl⟩|⟨g,f,rfl,n,q,b,m⟩
 ·exact RF cb c lo fs e a w h
 ·exact RE cb c lo fs e d p g f l a w h n.2 b m j i o
def GD(fs:List aC)(a:Bool)(d:Nat)(l:List aC)(s:aZ):Adds s (iP fs a d l s) (l.map (bY d)).sum:=Adds.fold (fun s k=>gA fs a d k s) l s
def CK.back{cb g lo:Nat}{fs:List aC}{l:aQ}{w:aH}{seen:cO}(m:Nat)(q:m<=seen.length){b:Option Addr}{d:Nat}(h:CK cb g lo fs l w seen)(a:w.heap[cb]?=some (.cells #[l,.slice b seen.length d] 156 (0,0)))(i:w.ownsRow g 9 1 (.slice b seen.length d) seen.length (kJ seen)):
 FB cb g w (w.setCell (aL cb 1) (.slice b m d))/\CK cb g lo fs l (w.setCell (aL cb 1) (.slice b m d)) (seen.take m):=by
 have s:=aD a
 obtain⟨n,j⟩:(Value.slice b seen.length d).ownBlock≠some cb/\g<=cb:=by
  obtain⟨z,r,_,v⟩:=h.blk;rw[a] at r;cases r;exact v
 have e:(Value.slice b m d).ownBlock≠some cb:=by cases b<;>exact n
 obtain⟨x,c,y, -, -,u⟩:=LI i m q;obtain⟨rfl,rfl⟩:b=x/\d=c:=by cases y;exact⟨rfl,rfl⟩
 have o:Below g w (w.setCell (aL cb 1) (.slice b m d)):=(Y8 _ _).setCell j _;have p:(w.setCell (aL cb 1) (.slice b m d)).heap[cb]?=some (.cells #[l,.slice b m d] 156 (0,0)):=by rw[aT a];rfl
 refine⟨⟨o,fun k f t A=>Y6 _ _ _ _ (by show k≠cb;exact t),fun k f=>Y4 ?_⟩,⟨.slice b m d,p,?_⟩,h.fun_.keep fun k f=>o.block k f.2⟩
 ·rw[mO p] at f;rw[mO a,<-f];cases b<;>rfl
 ·rw[o9,Nat.min_eq_left q];exact⟨bA u fun k f=>Y6 _ _ _ _ (by rintro rfl;exact e f),e,j⟩
def xE(cb u lo:Nat)(fs:List aC)(o:aQ)(d:Nat)(J:mE cb u lo fs o d)(v:aQ)(l:List aC)(seen:cO)(w:aH)(h:CK cb u lo fs o w seen)(y:PKid (Btw lo u) w v l)(G:∀k∈l,fF d k)(C:seen.length+(l.map (bY d)).sum<=90000)(N:l.length<=90000):
 Calls prog 128 #[bO cb,v] w (dB cb u lo fs o w { iP fs (fU o) d l ⟨seen,0,0⟩ with seen:=(iP fs (fU o) d l ⟨seen,0,0⟩).seen.take seen.length }):=by
 obtain⟨T,V,rfl⟩:=y.slice;have L:=aB (J _ l seen w h y G C N);have j:=GD fs (fU o) d l ⟨seen,0,0⟩;have HADD:=aB j;obtain⟨U,W,m,E,t,p, -⟩:=h.cut;obtain⟨q,I,A,H⟩:=jG m;clear h y G J j m p;generalize iP fs (fU o) d l ⟨seen,0,0⟩=c at*;go_in
 go_wp2_with fail;refine L.mono ?_;rintro e S ⟨i,⟨D,rfl,rfl,f⟩|⟨r,rfl⟩⟩
 rotate_left
 ·have n:=aB i;have z:=aB r;clear i r;go_wp2_with fail;exact⟨rfl,dB.fault (c1:=c) n z (Stk.seen _ _)⟩
 obtain⟨x,s,M⟩:=HADD;have b:D=seen++x:=s;have F:seen.length<=D.length:=by rw[b];simp
 obtain⟨Q,P,a,K,B,g, -⟩:=f.cut;have HFIN:=aB (f.back seen.length F a g);have n:=aB i;clear I A H q E t;obtain⟨q,I,A,H⟩:=jG a;have O:D.length<=200000:=by rw[b,Y5];omega
 clear f a g i L s b;go_wp2
 go_end0;exact dB.done (n.trans HFIN.1) rfl HFIN.2
def FSl.kids{F:cC}{w:aH}{v:aQ}{fs:List aC}(h:FSl F w v fs):∀f∈fs,1<=f.kids.length:=by
 rcases h.cells with ⟨_,rfl⟩|⟨g,d,_,_,_,_,i⟩
 ·intro f a;cases a
 ·intro f a;obtain⟨k,c,rfl⟩:=List.mem_iff_getElem.1 a;obtain⟨m,l,j,b,_,_,_,_,e,_⟩:=i k c;rw[e];simp
def UT{fs:List aC}(a:∀f∈fs,1<=f.kids.length)(x:cE):iO fs false x=match kX fs x with|some n=>(n:Int)|none=> -1:=by
 unfold iO kX;cases d:(x==[108,101,110])
 ·cases c:(x==[114,101,97,100])
  ·cases b:dO fs x with
   |none=>simp
   |some f=>
    have g:=a f (r9 b);have e:((f.kids.length-1:Nat):Int)=(f.kids.length:Int)-1:=by omega
    simpa using e.symm
  ·simp
 ·simp
def TY{fs:List aC}(b:∀f∈fs,f.kids.length<=90000){x:cE}{n:Nat}(h:kX fs x=some n):n<=90000:=by
 unfold kX at h;split at h
 ·cases h;omega
 ·split at h
  ·cases h;omega
  ·cases a:dO fs x with
   |none=>rw[a] at h;cases h
   |some f=>
    rw[a] at h;have:=b f (r9 a);cases h;show f.kids.length-1<=90000
    omega
def QX(x:cE)(W:aH):Calls prog 90 #[.string (bs x)] W fun e a=>e=bE (.tuple #[Iv0 (1:Nat),.bool (x==[108,101,110])])/\Below W.heap.size W a:=by
 have c:(bs x).toList=x:=cF x;cases b:(x==[108,101,110])
 all_goals
  go_in
  go_wp2
  exact bodyPost_ret (v:=.tuple #[Iv0 (1:Nat),.bool _]) (by simp[results,results90,go_sem]) rfl ⟨rfl,Y8 _ _⟩
def TC(cb O lo:Nat)(fs:List aC)(t:aQ)(ai:fs.length<=90000)(I:∀f∈fs,f.kids.length<=90000)(d:Nat)(HN:mE cb O lo fs t d)(c:aC)(v:aQ)(seen:cO)(w:aH)(h:CK cb O lo fs t w seen)(X:PKid (Btw lo O) w v c.kids)(hd:∀k∈c.kids,fF d k)(ad:seen.length+(c.kids.map (bY d)).sum<=90000)(S:c.kids.length<=90000):
 Calls prog 129 #[bO cb,.agg #[Iv0 c.line,.string (bs c.text),v]] w (dB cb O lo fs t w (iP fs (fU t) d c.kids (eJ fs (fU t) ⟨seen,0,0⟩ c))):=by
 obtain⟨u,y,rfl⟩:=X.slice;have A:=h.lt;have G:Below w.heap.size w (w.alloc (.cells #[Iv0 c.line,.string (bs c.text),.slice u c.kids.length y] 224)):=(Y8 _ _).alloc dH _;have Z:=h.grow G;have H:=aB G;have J:Hid ((w.alloc (.cells #[Iv0 c.line,.string (bs c.text),.slice u c.kids.length y] 224)).heap[w.heap.size]?=some (.cells #[Iv0 c.line,.string (bs c.text),.slice u c.kids.length y] 224 (0,0))):=aU _ _ rfl _;obtain⟨sx,sc,D,ag,ae,T, -⟩:=Z.cut;obtain⟨ah,c0,c1,f1⟩:=jG D
 obtain⟨P,Y,z,V,p⟩:∃(P:Option Nat) (Y:Nat),(∀n,P=some n->Y=n/\n<=90000)/\iO fs (fU t) c.text=(match P with|some n=>(n:Int)|none=> -1)/\((∃C B,t=FV (.slice C fs.length B)/\Hid (Calls prog 106 #[.slice C fs.length B,.string (bs c.text)] (w.alloc (.cells #[Iv0 c.line,.string (bs c.text),.slice u c.kids.length y] 224)).drew fun e w'=>e=bE (.tuple #[Iv0 (Y:Nat),.bool P.isSome])/\Below (w.alloc (.cells #[Iv0 c.line,.string (bs c.text),.slice u c.kids.length y] 224)).drew.heap.size (w.alloc (.cells #[Iv0 c.line,.string (bs c.text),.slice u c.kids.length y] 224)).drew w'))\/(t=FVlen/\Hid (Calls prog 90 #[.string (bs c.text)] (w.alloc (.cells #[Iv0 c.line,.string (bs c.text),.slice u c.kids.length y] 224)).drew fun e w'=>e=bE (.tuple #[Iv0 (Y:Nat),.bool P.isSome])/\Below (w.alloc (.cells #[Iv0 c.line,.string (bs c.text),.slice u c.kids.length y] 224)).drew.heap.size (w.alloc (.cells #[Iv0 c.line,.string (bs c.text),.slice u c.kids.length y] 224)).drew w'))):=by
  rcases(Z.grow (Y8 _ _).drew).fun_ with ⟨pv,rfl,K⟩|⟨rfl,rfl⟩
  ·obtain⟨C,B,rfl⟩:∃x c,pv=.slice x fs.length c:=by
    rcases K.cells with ⟨h1,h2⟩|⟨g,aj,h1,_⟩
    ·exact⟨none,0,by rw[h1,h2];rfl⟩
    ·exact⟨_,_,h1⟩
   exact⟨kX fs c.text,_,fun n L=>⟨by rw[L];rfl,TY I L⟩,UT K.kids c.text,Y4 ⟨C,B,rfl,BJ fs (Btw lo O) (.slice C fs.length B) c.text _ (by omega) I K⟩⟩
  ·have S:=QX c.text (w.alloc (.cells #[Iv0 c.line,.string (bs c.text),.slice u c.kids.length y] 224)).drew
   have Q:iO [] (fU FVlen) c.text=if c.text==[108,101,110] then 1 else -1:=by
    show iO [] true c.text=_
    unfold iO;simp[dO]
   rw[Q];cases hx:(c.text==[108,101,110])<;>rw[hx] at S
   ·exact⟨none,1,fun n L=>(by cases L),rfl,Y3 ⟨rfl,S⟩⟩
   ·exact⟨some 1,1,fun n L=>by cases L;exact⟨rfl,by omega⟩,rfl,Y3 ⟨rfl,S⟩⟩
 have q:=aB V;clear V;have H0:=aB Z;have HK:=aB X;have ac:=aB (fun W (hb:Below w.heap.size w W)=>HN (.slice u c.kids.length y) c.kids seen W (h.grow hb) (X.below (hb.mono (by omega))) hd ad S)
 clear h X hd HN G Z D T I;cases P with
 |none=>
  have F:Hid (eJ fs (fU t) ⟨seen,0,0⟩ c=⟨seen,6,c.line⟩):=by
   show _=_
   rw[TI (W:= -1) q.out (by decide)];rfl
  simp only[Option.isSome_none] at p;rw[F.out];clear q F z;rcases p with ⟨C,B,rfl,m⟩|⟨rfl,m⟩
  all_goals
   go_in
   go_wp2_with fail;go_region_law (go_simp;(first|go_at_call 106|go_at_call 90);refine m.out.mono ?_;rintro e w1 ⟨rfl,b⟩;have l:=aB (H.trans ((Y8 _ _).drew.trans (b.mono (by simp))));have a:=aB ((b.block w.heap.size (by simp)).trans J);have m0:=aA a (i:=0) rfl;have m1:=aA a (i:=1) rfl;have m2:=aA a (i:=2) rfl;have U:=aD a;clear b)
   all_goals
    go_wp2_with fail;refine(qG c.line _).mono ?_;rintro e w2 ⟨rfl,j⟩;have o:=aB (l.trans (j.mono l.size));clear j;go_wp2_with (go_at_call 107;refine(gN 6 c.line _).mono ?_;rintro e w3 ⟨rfl,Q⟩;obtain rfl:=Q.symm)
    exact⟨rfl,dB.fault (c1:=⟨seen,6,c.line⟩) (FB.of_below o A) (by simp) (Stk.fold (fun s k=>Stk.walk fs _ d k s) _ _)⟩
 |some n=>
  simp only[Option.isSome_some] at p;obtain⟨M,L⟩:=z n rfl;rw[M] at p;clear M;by_cases he:n=c.kids.length
  ·have F:Hid (eJ fs (fU t) ⟨seen,0,0⟩ c=⟨seen,0,0⟩):=by
    show _=_
    rw[YZ (W:=n) q.out (by omega) (by omega)]
   rw[F.out];subst he;clear q F z;generalize iP fs (fU t) d c.kids ⟨seen,0,0⟩=r at*;rcases p with ⟨C,B,rfl,m⟩|⟨rfl,m⟩
   all_goals
    go_in
    go_wp2_with fail;go_region_law (go_simp;(first|go_at_call 106|go_at_call 90);refine m.out.mono ?_;rintro e w1 ⟨rfl,b⟩;have l:=aB (H.trans ((Y8 _ _).drew.trans (b.mono (by simp))));have a:=aB ((b.block w.heap.size (by simp)).trans J);have m0:=aA a (i:=0) rfl;have m1:=aA a (i:=1) rfl;have m2:=aA a (i:=2) rfl;have U:=aD a;clear b)
    all_goals
     go_wp2_with fail;refine(ac _ l).mono ?_;rintro e w2 ⟨j,⟨s2,rfl,rfl,E⟩|⟨N,rfl⟩⟩
     ·have o:=aB ((FB.of_below l A).trans j);have aa:=aB E;clear j E;go_wp2
      go_end0;exact dB.done o rfl aa
     ·have o:=aB ((FB.of_below l A).trans j);have ab:=aB N;clear j N;go_wp2_with fail;exact⟨rfl,dB.fault (c1:=r) o ab (Stk.refl _)⟩
  ·have F:Hid (eJ fs (fU t) ⟨seen,0,0⟩ c=⟨seen,7,c.line⟩):=by
    show _=_
    rw[YY (W:=n) q.out (by omega) (by omega)];rfl
   rw[F.out];have af:((n:Int) != (c.kids.length:Int))=true:=by simp;omega
   clear q F z;rcases p with ⟨C,B,rfl,m⟩|⟨rfl,m⟩
   all_goals
    go_in
    go_wp2_with fail;go_region_law (go_simp;(first|go_at_call 106|go_at_call 90);refine m.out.mono ?_;rintro e w1 ⟨rfl,b⟩;have l:=aB (H.trans ((Y8 _ _).drew.trans (b.mono (by simp))));have a:=aB ((b.block w.heap.size (by simp)).trans J);have m0:=aA a (i:=0) rfl;have m1:=aA a (i:=1) rfl;have m2:=aA a (i:=2) rfl;have U:=aD a;clear b)
    all_goals
     go_wp2_with fail;refine(qG c.line _).mono ?_;rintro e w2 ⟨rfl,j⟩;have o:=aB (l.trans (j.mono l.size));clear j;go_wp2_with (go_at_call 107;refine(gN 7 c.line _).mono ?_;rintro e w3 ⟨rfl,Q⟩;obtain rfl:=Q.symm)
     exact⟨rfl,dB.fault (c1:=⟨seen,7,c.line⟩) (FB.of_below o A) (by simp) (Stk.fold (fun s k=>Stk.walk fs _ d k s) _ _)⟩
end Go.Proofs.YtddnpoiiimjpcaaGreatDoor
