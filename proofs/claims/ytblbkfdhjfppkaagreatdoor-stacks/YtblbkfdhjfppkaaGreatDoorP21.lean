/- Contracts of the program: the compiler's blocks: the walks. -/
import Derived.Test.YtblbkfdhjfppkaaGreatDoorP19
import Derived.Test.YtblbkfdhjfppkaaGreatDoorP20
import Derived.Test.YtblbkfdhjfppkaaGreatDoorP12
import Derived.Test.YtblbkfdhjfppkaaGreatDoorP18
set_option linter.defProp false
set_option maxRecDepth 100000
set_option maxHeartbeats 4000000
namespace Go.Proofs.YtblbkfdhjfppkaaGreatDoor
open Hs
open _root_.Go.Proofs.Tryz(prog)
open Go.RowKit
def zJ(w:World)(cb g n k:Nat)(C:Nat->World->Prop)(u:n<=1000000)(l:C 0 w)
 (q:Hid (∀j W,C j W->j<n->g<W.heap.size/\∃t z,W.cell? ⟨g,j,none⟩=some (.iface t z)/\Calls prog 291 #[.pointer (some ⟨cb,0,none⟩),.iface t z] W fun e c=>e=.returned (.tuple #[])/\C (j+1) c)):
 Calls prog 237 #[.pointer (some ⟨cb,0,none⟩),.slice (some ⟨g,0,none⟩) n k] w fun e c=>e=.returned (.tuple #[])/\C n c:=by
 have p:=aB l;clear l;go_enter Tryz.func237,Tryz.ntmps237;go_wp2_with fail;go_loopg [5,8] n (fun gk _ i wr=>∃j:Nat,j+gk=n/\i=.int .i64 j/\C j wr)
 case atStart=>exact⟨0,by omega,rfl,p.out⟩
 case round=>
  obtain⟨j,s,rfl,b⟩:=hrel;by_cases h:j<n
  ·obtain⟨m,rfl⟩:∃m,gk=m+1:=⟨gk-1,by omega⟩
   obtain⟨B,t,z,v,a⟩:=q.out _ _ b h;have o:=aB a;have A:(0:Int)<=(j:Int):=by omega
   have x:(j:Int)<(n:Int):=by omega
   clear b a;go_wp2_with fail;refine o.out.mono ?_;rintro e y ⟨rfl,r⟩;go_wp2_with fail;go_roundg m
   case measure=>omega
   case rel=>exact⟨j+1,by omega,by go_num,r⟩
  ·have f:j=n:=by omega
   subst f;have d:=aB b;clear b;go_wp2_with fail;go_end0;exact⟨rfl,d.out⟩
def BM(w:World)(cb:Nat):Calls prog 237 #[.pointer (some ⟨cb,0,none⟩),.slice none 0 0] w fun e a=>e=.returned (.tuple #[])/\a=w:=by
 go_enter Tryz.func237,Tryz.ntmps237;go_wp2_with fail;go_loopg [5,8] 0 (fun _ _ i wr=>i=.int .i64 0/\wr=w)
 case atStart=>exact⟨rfl,rfl⟩
 case round=>
  obtain⟨rfl,rfl⟩:=hrel;go_wp2_with fail;go_end0;exact⟨rfl,rfl⟩
def VW(w:World)(cb:Nat)(p x:Option Addr)(n c:Nat)(P Q:World->Prop)(m:w.cell? ⟨cb,2,none⟩=some (.pointer p))
 (g:Hid (Calls prog 237 #[.pointer (some ⟨cb,0,none⟩),.slice x n c] w fun e a=>e=.returned (.tuple #[])/\Q a))
 (h:Hid (∀W,Q W->(∃u,W.cell? ⟨cb,2,none⟩=some u)/\W.frozen? ⟨cb,2,none⟩=false/\cb<W.heap.size/\P (W.setCell ⟨cb,2,none⟩ (.pointer p)))):
 Calls prog 337 #[.pointer (some ⟨cb,0,none⟩),.slice x n c] w fun e a=>e=.returned (.tuple #[])/\P a:=by
 go_enter Tryz.func337,Tryz.ntmps337;go_wp2_with fail;refine g.out.mono ?_;rintro e l ⟨rfl,d⟩;obtain⟨⟨u,j⟩,k,i,b⟩:=h.out _ d;have f:=aB b;clear d b;go_wp2_with fail;go_end0;exact⟨rfl,f.out⟩
def RC(w:World)(cb b f:Nat)(l:Int)(C:TypeId)(t:Value)(m k:Option Addr)(o p c1 j:Nat)(P J z M I E G:World->Prop)
 (HX:Hid (Calls prog 233 #[.pointer (some ⟨cb,0,none⟩),.iface C t] (w.alloc (.cells #[.int .i64 l,.iface C t,.slice m o c1,.slice k p j] 334)) fun e a=>e=.returned (.tuple #[])/\J a))
 (q:Hid (∀W,J W->Calls prog 238 #[.pointer (some ⟨cb,0,none⟩),.nilIface] W fun e a=>e=.returned (.int .i64 b)/\z a))
 (D:Hid (∀W,z W->W.cell? ⟨w.heap.size,2,none⟩=some (.slice m o c1)/\w.heap.size<W.heap.size))
 (HT:Hid (∀W,z W->Calls prog 337 #[.pointer (some ⟨cb,0,none⟩),.slice m o c1] W fun e a=>e=.returned (.tuple #[])/\M a))
 (B:Hid (∀W,M W->Calls prog 238 #[.pointer (some ⟨cb,0,none⟩),.nilIface] W fun e a=>e=.returned (.int .i64 f)/\I a))
 (v:Hid (∀W,I W->cb<W.heap.size/\∃g n c,W.cell? ⟨cb,1,none⟩=some (.slice (some ⟨g,0,none⟩) n c)/\b<n/\n<=1000000/\(∃u,W.cell? ⟨g,b,none⟩=some u)/\W.frozen? ⟨g,b,none⟩=false/\g<W.heap.size/\∀h,aQ (W.setCell ⟨g,b,none⟩ (.iface 461 (.agg #[.int .i64 n]))) h->E h))
 (s:Hid (∀W,E W->W.cell? ⟨w.heap.size,3,none⟩=some (.slice k p j)/\w.heap.size<W.heap.size))
 (HL:Hid (∀W,E W->Calls prog 337 #[.pointer (some ⟨cb,0,none⟩),.slice k p j] W fun e a=>e=.returned (.tuple #[])/\G a))
 (A:Hid (∀W,G W->cb<W.heap.size/\∃g n c,W.cell? ⟨cb,1,none⟩=some (.slice (some ⟨g,0,none⟩) n c)/\f<n/\n<=1000000/\(∃u,W.cell? ⟨g,f,none⟩=some u)/\W.frozen? ⟨g,f,none⟩=false/\g<W.heap.size/\∀h,aQ (W.setCell ⟨g,f,none⟩ (.iface 462 (.agg #[.int .i64 n]))) h->P h)):
 Calls prog 324 #[.pointer (some ⟨cb,0,none⟩),.agg #[.int .i64 l,.iface C t,.slice m o c1,.slice k p j]] w fun e a=>e=.returned (.tuple #[])/\P a:=by
 go_enter Tryz.func324,Tryz.ntmps324;go_wp2_with fail;refine HX.out.mono ?_;rintro e w1 ⟨rfl,N⟩;have H1:=aB (q.out _ N);clear N;go_wp2_with fail;refine H1.out.mono ?_;rintro e w2 ⟨rfl,r⟩;obtain⟨b1,b2⟩:=D.out _ r;have H2:=aB (HT.out _ r);clear r;go_wp2_with fail;refine H2.out.mono ?_;rintro e w3 ⟨rfl,K⟩;have H3:=aB (B.out _ K);clear K;go_wp2_with fail;refine H3.out.mono ?_;rintro e O ⟨rfl,H⟩;obtain⟨f3,g,n,c,f4,f5,f6,⟨u,f7⟩,f8,f9,i⟩:=v.out _ H;have HP:=aB i;have i1:(0:Int)<=(b:Int):=by omega
 have i2:(b:Int)<(n:Int):=by omega
 clear H i;go_wp2_with fail;go_region
 all_goals
  have x:=HP.out _ (aQ.drew _);obtain⟨d1,d2⟩:=s.out _ x;have V:=aB (HL.out _ x);clear x;generalize L:(O.setCell ⟨g,b,none⟩ (.iface 461 (.agg #[.int .i64 n]))).drew=w5 at*;have HW:=aB L;clear L;go_wp2_with fail;refine V.out.mono ?_;rintro e w6 ⟨rfl,F⟩;obtain⟨Y,g',U,c',X,ab,Q,⟨u',Z⟩,ac,S,d⟩:=A.out _ F;have y:=aB d;have T:(0:Int)<=(f:Int):=by omega
  have aa:(f:Int)<(U:Int):=by omega
  clear F d;go_wp2_with fail;go_region
  all_goals
   go_wp2_with fail;go_end0;exact⟨rfl,y.out _ (aQ.drew _)⟩
def A5(w:World)(cb k a:Nat)(l:Int)(j:TypeId)(q:Value)(f:Option Addr)(h c1:Nat)(P t s y v:World->Prop)
 (D:Hid (Calls prog 233 #[.pointer (some ⟨cb,0,none⟩),.iface j q] (w.alloc (.cells #[.int .i64 l,.iface j q,.slice f h c1] 336)) fun e b=>e=.returned (.tuple #[])/\t b))
 (o:Hid (∀W,t W->Calls prog 238 #[.pointer (some ⟨cb,0,none⟩),.nilIface] W fun e b=>e=.returned (.int .i64 k)/\s b))
 (p:Hid (∀W,s W->W.cell? ⟨w.heap.size,2,none⟩=some (.slice f h c1)/\w.heap.size<W.heap.size))
 (G:Hid (∀W,s W->Calls prog 337 #[.pointer (some ⟨cb,0,none⟩),.slice f h c1] W fun e b=>e=.returned (.tuple #[])/\y b))
 (H:Hid (∀W,y W->Calls prog 238 #[.pointer (some ⟨cb,0,none⟩),.iface 462 (.agg #[.int .i64 a])] W fun e b=>(∃k:Nat,e=.returned (.int .i64 k))/\v b))
 (i:Hid (∀W,v W->cb<W.heap.size/\∃g n c,W.cell? ⟨cb,1,none⟩=some (.slice (some ⟨g,0,none⟩) n c)/\k<n/\n<=1000000/\(∃u,W.cell? ⟨g,k,none⟩=some u)/\W.frozen? ⟨g,k,none⟩=false/\g<W.heap.size/\∀z,aQ (W.setCell ⟨g,k,none⟩ (.iface 461 (.agg #[.int .i64 n]))) z->P z)):
 Calls prog 325 #[.pointer (some ⟨cb,0,none⟩),.agg #[.int .i64 l,.iface j q,.slice f h c1],.int .i64 a] w fun e b=>e=.returned (.tuple #[])/\P b:=by
 go_enter Tryz.func325,Tryz.ntmps325;go_wp2_with fail;refine D.out.mono ?_;rintro e V ⟨rfl,A⟩;have E:=aB (o.out _ A);clear A;go_wp2_with fail;refine E.out.mono ?_;rintro e Q ⟨rfl,r⟩;obtain⟨L,S⟩:=p.out _ r;have I:=aB (G.out _ r);clear r;go_wp2_with fail;refine I.out.mono ?_;rintro e N ⟨rfl,x⟩;have F:=aB (H.out _ x);clear x;go_wp2_with fail;refine F.out.mono ?_;rintro e J ⟨⟨m,rfl⟩,B⟩;obtain⟨O,g,n,c,M,f5,T,⟨u,X⟩,K,Y,d⟩:=i.out _ B;have C:=aB d;have U:(0:Int)<=(k:Int):=by omega
 have Z:(k:Int)<(n:Int):=by omega
 clear B d;go_wp2_with fail;go_region
 all_goals
  go_wp2_with fail;go_end0;exact⟨rfl,C.out _ (aQ.drew _)⟩
def stC_seen{fs:List aC}{d:Nat}{seen:List (List UInt8)}{a:aC}(p:Nat)(h:dD fs d seen a):(aU fs d seen a p).2=cO seen a:=
 (lI fs d seen a (fun _ _=>False) p h ⟨fun _ _ _ h=>h.elim,fun _ _ h=>h.elim⟩).2.1
def StsOk.split{S:List (List UInt8)->aC->Prop}:∀{l m:List aC} {seen:List (List UInt8)},Hs.StsOk S seen (l++m)->Hs.StsOk S seen l/\Hs.StsOk S (dP seen l) m
 |[],_,_,h=>⟨trivial,h⟩
 |_::_,_,_,h=>by
  obtain⟨a,b⟩:=h;obtain⟨d,c⟩:=StsOk.split b;exact⟨⟨a,d⟩,c⟩
def qK:∀(l m:List aC) (seen:List (List UInt8)),dP seen (l++m)=dP (dP seen l) m
 |[],_,_=>rfl
 |a::l,m,seen=>qK l m (cO seen a)
def qD{fs:List aC}{d:Nat}:∀{l:List aC} (m:List aC) {seen:List (List UInt8)} (p:Nat),Hs.StsOk (dD fs d) seen l->bG (aU fs d) seen (l++m) p=bG (aU fs d) seen l p++bG (aU fs d) (dP seen l) m (p+(bG (aU fs d) seen l p).length)
 |[],m,seen,p,_=>by simp[bG,dP]
 |a::l,m,seen,p,h=>by
  obtain⟨b,c⟩:=h;rw[aY_,bG,bG,stC_seen p b,qD m _ c,bd_,aw_,b5_];rfl
def I6{fs:List aC}{d:Nat}(a:aC)(seen:List (List UInt8))(p:Nat):bG (aU fs d) seen [a] p=(aU fs d seen a p).1:=by simp[bG]
def MK(fp:Nat->Value)(fb:Nat->Nat)(nms:List (List UInt8))(cb:Nat)(F:Nat->Prop)(w:World)(code:List (Option aH))(seen:List (List UInt8))(w':World):Prop:=
 ∃G,(∀k,F k->G k)/\fX fp fb nms cb G w code seen w'
def RO(fp:Nat->Value)(fb:Nat->Nat)(fs:List aC)(cb lo:Nat)(d:Nat):Prop:=
 ∀(F:Nat->Prop) (seen:List (List UInt8)) (v:Value) (a:aC) (code:List (Option aH)) (w:World),CP fp fb (fs.map (·.text)) cb F w code seen->PN (Btw lo cb) w v a->dD fs d seen a->mJ a->seen.length<=90001->code.length+(aU fs d seen a code.length).1.length<=1000000->
  Calls prog 291 #[.pointer (some ⟨cb,0,none⟩),v] w fun e w'=>e=.returned (.tuple #[])/\MK fp fb (fs.map (·.text)) cb F w (code++(aU fs d seen a code.length).1.map some) (aU fs d seen a code.length).2 w'
section
variable {fp:Nat->Value} {fb:Nat->Nat} {fs:List aC} {cb lo:Nat} {F:Nat->Prop} {seen:List (List UInt8)} {d:Nat}
def MK.then{w w1 w':World}{b:List (List UInt8)}{a:List (Option aH)}(c:FB cb w w1)(h:MK fp fb b cb F w1 a seen w'):MK fp fb b cb F w a seen w':=by
 obtain⟨G,d,h⟩:=h;exact⟨G,d,h.then c⟩
def MK.more{G:Nat->Prop}{w w':World}{b:List (List UInt8)}{a:List (Option aH)}(d:∀k,F k->G k)(h:MK fp fb b cb G w a seen w'):MK fp fb b cb F w a seen w':=by
 obtain⟨H,c,h⟩:=h;exact⟨H,fun k e=>c k (d k e),h⟩
def YH{fs:List aC}{d:Nat}{seen:List (List UInt8)}{a:aC}(h:dD fs d seen a)(f:seen.length<=90001):(cO seen a).length<=90001:=by
 cases d with
 |zero=>exact h.elim
 |succ d=>
  unfold cO;split
  ·rename_i c;rcases h with ⟨_,b,t,v,e,_⟩|⟨b,_⟩|⟨b,_⟩|⟨b,_⟩|⟨b,_⟩|⟨b,_⟩|⟨b,_⟩
   ·rw[e];simp;omega
   all_goals exact absurd (c.symm.trans b) (by decide)
  ·exact f
def xQ{fs:List aC}{d:Nat}:∀{l:List aC} {seen:List (List UInt8)},Hs.StsOk (dD fs d) seen l->seen.length<=90001->(dP seen l).length<=90001
 |[],_,_,h=>h
 |a::l,seen,e,h=>by
  obtain⟨b,c⟩:=e;exact xQ (l:=l) (seen:=cO seen a) c (YH b h)
def pQ(L:RO fp fb fs cb lo d)(v:Value)(l:List aC)(b:List (Option aH))(w:World)(h:CP fp fb (fs.map (·.text)) cb F w b seen)(P:PKid (Btw lo cb) w v l)(J:Hs.StsOk (dD fs d) seen l)(z:∀a∈l,mJ a)(K:l.length<=1000000)(C:seen.length<=90001)(V:b.length+(bG (aU fs d) seen l b.length).length<=1000000):
 Calls prog 237 #[.pointer (some ⟨cb,0,none⟩),v] w fun e x=>e=.returned (.tuple #[])/\MK fp fb (fs.map (·.text)) cb F w (b++(bG (aU fs d) seen l b.length).map some) (dP seen l) x:=by
 rcases P.get with ⟨rfl,rfl⟩|⟨g,H,rfl,U,D,I,M⟩
 ·refine(BM w cb).mono ?_;rintro e x ⟨rfl,rfl⟩;exact⟨rfl,F,fun _ h=>h,by simpa [bG,dP] using h,FB.refl _⟩
 ·refine(zJ w cb g l.length H (fun j W=>j<=l.length/\MK fp fb (fs.map (·.text)) cb F w (b++(bG (aU fs d) seen (l.take j) b.length).map some) (dP seen (l.take j)) W) K ⟨a9_ _,F,fun _ h=>h,by simpa [bG,dP] using h,FB.refl _⟩ (fun j W Q t=>?_)).mono ?_
  ·obtain⟨_,G,S,B,f⟩:=Q;obtain⟨u,O,m⟩:=M j t;obtain⟨T,N,rfl⟩:=m.form;have s:l.take (j+1)=l.take j++[l[j]]:=aT_ t
   have i:Hs.StsOk (dD fs d) seen (l.take j++(l[j]::l.drop (j+1))):=by
    have e:l.take j++(l[j]::l.drop (j+1))=l:=by
     rw[bA_];exact a5_ _ _
    rw[e];exact J
   obtain⟨n,r,_⟩:=StsOk.split i;have k:bG (aU fs d) seen (l.take (j+1)) b.length=bG (aU fs d) seen (l.take j) b.length++(aU fs d (dP seen (l.take j)) l[j] (b.length+(bG (aU fs d) seen (l.take j) b.length).length)).1:=by rw[s,qD _ _ n,I6]
   have o:(bG (aU fs d) seen (l.take (j+1)) b.length).length<=(bG (aU fs d) seen l b.length).length:=by
    have A:Hs.StsOk (dD fs d) seen (l.take (j+1)++l.drop (j+1)):=by rw[a5_];exact J
    have:=qD (l.drop (j+1)) b.length (StsOk.split A).1;rw[a5_] at this;rw[this,aw_];omega
   have q:(b++(bG (aU fs d) seen (l.take j) b.length).map some).length=b.length+(bG (aU fs d) seen (l.take j) b.length).length:=by simp
   have y:dP seen (l.take (j+1))=(aU fs d (dP seen (l.take j)) l[j] (b.length+(bG (aU fs d) seen (l.take j) b.length).length)).2:=by
    rw[s,qK,stC_seen _ r];rfl
   refine⟨az_ D f.bel.size,T,.agg N,by rw[f.bel.cell (p:=⟨g,j,none⟩) U.2];exact O,(L G _ _ l[j] _ W B (m.below f.bel) r (z _ (aR_ t)) (xQ n C) ?_).mono ?_⟩
   ·rw[q];rw[k,aw_] at o;omega
   ·rintro e x ⟨E,c⟩;refine⟨E,t,?_⟩;rw[q] at c;rw[k,y,a7_,<-bd_];exact(c.then f).more S
  ·rintro e x ⟨E,_,c⟩;rw[a0_ (au_ _)] at c;exact⟨E,c⟩
def VS(K:RO fp fb fs cb lo d)(v:Value)(l:List aC)(f:List (Option aH))(w:World)(h:CP fp fb (fs.map (·.text)) cb F w f seen)(B:PKid (Btw lo cb) w v l)(H:Hs.StsOk (dD fs d) seen l)(r:∀a∈l,mJ a)(J:l.length<=1000000)(u:seen.length<=90001)(E:f.length+(bG (aU fs d) seen l f.length).length<=1000000):
 Calls prog 337 #[.pointer (some ⟨cb,0,none⟩),v] w fun e D=>e=.returned (.tuple #[])/\MK fp fb (fs.map (·.text)) cb F w (f++(bG (aU fs d) seen l f.length).map some) seen D:=by
 obtain⟨x,c,rfl⟩:=B.sliceC;have t:=pQ K _ l f w h B H r J u E;obtain⟨X,cv,Y,T,_,C,_⟩:=h.blk;obtain⟨p,rfl⟩:=C.form;refine VW w cb p x l.length c _ _ (aA T rfl) t (fun W S=>?_)
 obtain⟨G,y,j,n⟩:=S;obtain⟨s,z,V,m,⟨P,A,O⟩,Z,N⟩:=j.blk;refine⟨⟨_,aA m rfl⟩,aE m,aD m,G,y,⟨⟨s,z,.pointer p,aS m,⟨P,?_,?_⟩,?_,?_⟩,fun k i=>?_⟩,?_⟩
 all_goals have i:∀k,k≠cb->(W.setCell ⟨cb,2,none⟩ (.pointer p)).heap[k]?=W.heap[k]?:=fun k i=>ax_ _ _ _ _ i
 all_goals have g:∀b,G b->(W.setCell ⟨cb,2,none⟩ (.pointer p)).heap[b]?=W.heap[b]?:=fun b q=>i b (j.fix b q).2.1
 all_goals have o:kW cb (W.setCell ⟨cb,2,none⟩ (.pointer p))=kW cb W:=by rw[iX (aS m),iX m]
 ·exact aY A fun k e=>i k (by have:=(A.lt k e).1;omega)
 ·exact O.keep g fun _ h=>h
 ·exact eE.keep (fun b q=>by rw[g b (y b q),h.fixed n b q]) y C
 ·exact N.keep g (fun _ h=>h) (by simp)
 ·obtain⟨U,M,I⟩:=j.fix k (by assumption)
  exact⟨by simpa using U,M,by rw[o];exact I⟩
 ·refine n.trans ⟨⟨rfl,rfl,rfl,by simp,fun k Q=>i k (by omega)⟩,fun k _ L _=>i k L,fun k e=>av_ (by rw[<-o];exact e)⟩
end
section
variable {fp:Nat->Value} {fb:Nat->Nat} {fs:List aC} {cb lo:Nat} {F:Nat->Prop} {alone:Bool} {seen:List (List UInt8)} {d:Nat}
def E5(Z:EF fp fb fs cb lo F alone seen d)(N:fs.length<=1000000)(C:∀k,k<fs.length->fp k=.pointer (some ⟨fb k,0,none⟩))(a:aC)(U:Value)(l:Int)(b:List (Option aH))(w:World)(Q:CP fp fb (fs.map (·.text)) cb F w b seen)(A:a.op=[99,97,108,108])(X:PKid (Btw lo cb) w U a.kids)(T:Hs.ExOk fs alone seen (d+1) a)(L:pS (d+1) a)(o:b.length+(aG fs seen (d+1) a b.length).length<=1000000):
 Calls prog 289 #[.pointer (some ⟨cb,0,none⟩),.agg #[.int .i64 l,.string (bs a.text),U]] w fun e u=>e=.returned (.tuple #[])/\fX fp fb (fs.map (·.text)) cb F w (b++(aG fs seen (d+1) a b.length).map some) seen u:=by
 have n:=ExOk.op T;obtain⟨_,K,v⟩:=L;rw[DF fs seen d a _ A] at o ⊢
 rw[aw_,bq_] at o;have J:=n.1;have r:=n.2.2 A;obtain⟨x,c,rfl⟩:=X.sliceC;obtain⟨h,z⟩:=Q.new (.cells #[.int .i64 l,.string (bs a.text),.slice x a.kids.length c] 341);have D:∀{W:World},FB cb (w.alloc (.cells #[.int .i64 l,.string (bs a.text),.slice x a.kids.length c] 341)) W->W.heap[w.heap.size]?=some (.cells #[.int .i64 l,.string (bs a.text),.slice x a.kids.length c] 341 (0,0)):=fun P=>(h.step P).blk
 have j:Calls prog 287 #[.pointer (some ⟨cb,0,none⟩),.slice x a.kids.length c] (w.alloc (.cells #[.int .i64 l,.string (bs a.text),.slice x a.kids.length c] 341)) fun e u=>e=.returned (.tuple #[])/\(fX fp fb (fs.map (·.text)) cb F w (b++(bP (aG fs seen d) a.kids b.length).map some) seen u/\u.heap[w.heap.size]?=some (.cells #[.int .i64 l,.string (bs a.text),.slice x a.kids.length c] 341 (0,0))):=by
  refine(rV Z _ _ _ _ z (X.below h.fb.bel) J v K (by omega)).mono ?_
  rintro e u ⟨I,y⟩;exact⟨I,y.then h.fb,D y.2⟩
 have m:∀{i:aH} {e:Ending} {W:World},(e=.returned (.tuple #[])/\fX fp fb (fs.map (·.text)) cb F w ((b++(bP (aG fs seen d) a.kids b.length).map some)++[some i]) seen W)->e=.returned (.tuple #[])/\fX fp fb (fs.map (·.text)) cb F w (b++(bP (aG fs seen d) a.kids b.length++[i]).map some) seen W:=fun g=>by
  rw[a7_,<-bd_];exact g
 have p:(b++(bP (aG fs seen d) a.kids b.length).map some).length+1<=1000000:=by rw[fJ];omega
 rcases r with q|q|⟨B,E,t⟩
 ·rw[q] at j ⊢
  refine(RH w cb a.kids.length c l x _ _ j (fun W g=>⟨aA g.2 rfl,aD g.2⟩) (fun W g=>emits (i:=.length) g.1 rfl p)).mono ?_
  intro e W g;exact m g
 ·rw[q] at j ⊢
  refine(JB w cb a.kids.length c l x _ _ j (fun W g=>⟨aA g.2 rfl,aD g.2⟩) (fun W g=>emits (i:=.read) g.1 rfl p)).mono ?_
  intro e W g;exact m g
 ·have s:cS fs a.text<fs.length:=by
   unfold fG at t;cases V:fs[cS fs a.text]? with
   |none=>rw[V] at t;cases t
   |some f=>exact(aZ_.1 V).1
  have G:a.text∈fs.map (·.text):=by
   have M:=s;unfold cS at M;have:=bN_ (w:=M);exact bz_.2 ⟨_,aR_ M,by simpa using this⟩
  have e1:(a.text==[108,101,110])=false:=by simpa using B
  have e2:(a.text==[114,101,97,100])=false:=by simpa using E
  rw[e1,e2];refine(DX w cb a.kids.length c (fb (cS fs a.text)) l a.text x (fun W=>fX fp fb (fs.map (·.text)) cb F w ((b++(bP (aG fs seen d) a.kids b.length).map some)++[some (.call (cS fs a.text) a.kids.length)]) seen W) _ B E j (fun W g=>⟨aA g.2 rfl,aA g.2 rfl,aD g.2⟩) (fun W Y g H=>?_) (fun W Y g H=>?_)).mono ?_
  ·refine(tB a.text (g.1.1.grow H.below) G (by simpa using N)).mono ?_
   rintro e u ⟨I,O⟩;rw[DC,C _ s] at I;exact⟨I,O⟩
  ·have S:fX fp fb (fs.map (·.text)) cb F w (b++(bP (aG fs seen d) a.kids b.length).map some) seen Y:=⟨g.1.1.grow H.below,g.1.2.trans (FB.of_below H.below g.1.1.lt)⟩
   exact emits (i:=.call (cS fs a.text) a.kids.length) S (by show _=_;rw[C _ s]) p
  ·intro e W g;exact m g
end
section
variable (fs:List aC) (seen:List (List UInt8)) (d:Nat) (a:aC) (p:Nat)
def S8(t v:aC)(h:a.op=[118,97,114])(b:a.kids=[t,v]):aU fs (d+1) seen a p=(.begin a.line seen::aG fs seen d v (p+1)++[.declare seen.length],t.text::seen):=by rw[aU];simp[h,b]
def S9(h:a.op=[115,101,116]):aU fs (d+1) seen a p=(.begin a.line seen::bP (aG fs seen d) a.kids (p+1)++[.assign (dK seen a.text) (a.kids.length-1)],seen):=by rw[aU];simp[h]
def T7(c t:aC)(h:a.op=[105,102])(b:a.kids=[c,t]):aU fs (d+1) seen a p=
 (.begin a.line seen::aG fs seen d c (p+1)++[.skip (p+1+(aG fs seen d c (p+1)).length+1+(bG (aU fs d) seen t.kids (p+1+(aG fs seen d c (p+1)).length+1)).length+1)]++bG (aU fs d) seen t.kids (p+1+(aG fs seen d c (p+1)).length+1)++[.jump (p+1+(aG fs seen d c (p+1)).length+1+(bG (aU fs d) seen t.kids (p+1+(aG fs seen d c (p+1)).length+1)).length+1)],seen):=by rw[aU];simp[h,b]
def T0(c t x:aC)(h:a.op=[105,102])(b:a.kids=[c,t,x]):aU fs (d+1) seen a p=
 (.begin a.line seen::aG fs seen d c (p+1)++[.skip (p+1+(aG fs seen d c (p+1)).length+1+(bG (aU fs d) seen t.kids (p+1+(aG fs seen d c (p+1)).length+1)).length+1)]++bG (aU fs d) seen t.kids (p+1+(aG fs seen d c (p+1)).length+1)++[.jump (p+1+(aG fs seen d c (p+1)).length+1+(bG (aU fs d) seen t.kids (p+1+(aG fs seen d c (p+1)).length+1)).length+1+(bG (aU fs d) seen x.kids (p+1+(aG fs seen d c (p+1)).length+1+(bG (aU fs d) seen t.kids (p+1+(aG fs seen d c (p+1)).length+1)).length+1)).length)]++
   bG (aU fs d) seen x.kids (p+1+(aG fs seen d c (p+1)).length+1+(bG (aU fs d) seen t.kids (p+1+(aG fs seen d c (p+1)).length+1)).length+1),seen):=by rw[aU];simp[h,b]
def YC(c b:aC)(h:a.op=[119,104,105,108,101])(e:a.kids=[c,b]):aU fs (d+1) seen a p=
 (.begin a.line seen::aG fs seen d c (p+1)++[.skip (p+1+(aG fs seen d c (p+1)).length+1+(bG (aU fs d) seen b.kids (p+1+(aG fs seen d c (p+1)).length+1)).length+1)]++bG (aU fs d) seen b.kids (p+1+(aG fs seen d c (p+1)).length+1)++[.jump p],seen):=by rw[aU];simp[h,e]
def NJ(h:a.op=[114,101,116,117,114,110])(b:a.kids=[]):aU fs (d+1) seen a p=([.begin a.line seen,.push (bC 0),.give],seen):=by rw[aU];simp[h,b]
def NI(v:aC)(h:a.op=[114,101,116,117,114,110])(b:a.kids=[v]):aU fs (d+1) seen a p=(.begin a.line seen::aG fs seen d v (p+1)++[.give],seen):=by rw[aU];simp[h,b]
def YD(v:aC)(h:a.op=[112,114,105,110,116])(b:a.kids=[v]):aU fs (d+1) seen a p=(.begin a.line seen::aG fs seen d v (p+1)++[.print],seen):=by rw[aU];simp[h,b]
def l9(c:aC)(h:a.op=[100,111])(b:a.kids=[c]):aU fs (d+1) seen a p=(.begin a.line seen::aG fs seen d c (p+1)++[.drop],seen):=by rw[aU];simp[h,b]
end
section
variable {fp:Nat->Value} {fb:Nat->Nat} {fs:List aC} {cb lo:Nat} {F:Nat->Prop} {seen:List (List UInt8)} {d:Nat}
def pT(fp:Nat->Value)(fb:Nat->Nat)(nms:List (List UInt8))(cb:Nat)(F:Nat->Prop)(w w1:World)(b:Nat)(o:Obj)(seen:List (List UInt8))(c:List (Option aH))(W:World):Prop:=
 ∃G,(∀k,F k->G k)/\fX fp fb nms cb G w c seen W/\Loc cb w1 b o W
def pT.emit{d:List (List UInt8)}{w w1 W:World}{b:Nat}{o:Obj}{c:List (Option aH)}(l:pT fp fb d cb F w w1 b o seen c W){u:Value}{i:Option aH}(k:∀G,j3 fp G W u i)(h:c.length<=1000000):
 Calls prog 238 #[.pointer (some ⟨cb,0,none⟩),u] W fun e f=>e=.returned (.int .i64 c.length)/\pT fp fb d cb F w w1 b o seen (c++[i]) f:=by
 obtain⟨G,p,a,j⟩:=l;refine(qZ (o:=i) a.1 (k G) h).mono ?_;rintro e f ⟨m,n,g⟩;exact⟨m,G,p,⟨n,a.2.trans g⟩,j.step g⟩
def pT.patch{e:List (List UInt8)}{w w1 W:World}{b:Nat}{o:Obj}{d a:List (Option aH)}(C:pT fp fb e cb F w w1 b o seen (d++none::a) W)(k:Nat)(t:k=d.length)(m:TypeId)(i:Nat->aH)(x:∀G n,lC fp G W (.iface m (.agg #[.int .i64 (n:Nat)])) (i n))(p:(d++none::a).length<=1000000):
 cb<W.heap.size/\∃g n c,W.cell? ⟨cb,1,none⟩=some (.slice (some ⟨g,0,none⟩) n c)/\k<n/\n<=1000000/\(∃u,W.cell? ⟨g,k,none⟩=some u)/\W.frozen? ⟨g,k,none⟩=false/\g<W.heap.size/\∀h,aQ (W.setCell ⟨g,k,none⟩ (.iface m (.agg #[.int .i64 (n:Nat)]))) h->pT fp fb e cb F w w1 b o seen (d++some (i (d++none::a).length)::a) h:=by
 obtain⟨G,D,⟨f,j⟩,q⟩:=C;obtain⟨g,c,v,B,s,y,A⟩:=f.patch;subst t;refine⟨f.lt,g,_,c,v,by simp,p,B,s,y,fun h r=>?_⟩
 obtain⟨z,l⟩:=A _ _ h (x G _) r;exact⟨G,D,⟨z,j.trans l⟩,q.step l⟩
def pT.blockk(r:RO fp fb fs cb lo d){w w1 W:World}{b:Nat}{o:Obj}{c:List (Option aH)}(u:pT fp fb (fs.map (·.text)) cb F w w1 b o seen c W)(v:Value)(l:List aC)(t:PKid (Btw lo cb) w v l)(p:Hs.StsOk (dD fs d) seen l)(h:∀a∈l,mJ a)(q:l.length<=1000000)(i:seen.length<=90001)(m:c.length+(bG (aU fs d) seen l c.length).length<=1000000):
 Calls prog 337 #[.pointer (some ⟨cb,0,none⟩),v] W fun e j=>e=.returned (.tuple #[])/\pT fp fb (fs.map (·.text)) cb F w w1 b o seen (c++(bG (aU fs d) seen l c.length).map some) j:=by
 obtain⟨G,z,g,n⟩:=u;refine(VS r v l c W g.1 (t.below g.2.bel) p h q i m).mono ?_;rintro e j ⟨y,H,x,f⟩;exact⟨y,H,fun k s=>x k (z k s),f.then g.2,n.step f.2⟩
def pT.exprk{w w1 W:World}{b:Nat}{o:Obj}{c:List (Option aH)}(s:pT fp fb (fs.map (·.text)) cb F w w1 b o seen c W)(i:fs.length<=1000000)(j:∀k,k<fs.length->fp k=.pointer (some ⟨fb k,0,none⟩))(q:seen.length<=90001)(v:Value)(a:aC)(r:PN (Btw lo cb) w v a)(p:Hs.ExOk fs false seen d a)(h:mJ a)(m:c.length+(aG fs seen d a c.length).length<=1000000):
 Calls prog 233 #[.pointer (some ⟨cb,0,none⟩),v] W fun e l=>e=.returned (.tuple #[])/\pT fp fb (fs.map (·.text)) cb F w w1 b o seen (c++(aG fs seen d a c.length).map some) l:=by
 obtain⟨G,u,g,n⟩:=s;refine(rY (by omega) i j d v a c W g.1 (r.below g.2.bel) p (h d) m).mono ?_
 rintro e l ⟨t,f⟩;exact⟨t,G,u,f.then g.2,n.step f.2⟩
def pT.exprsk{w w1 W:World}{b:Nat}{o:Obj}{c:List (Option aH)}(x:pT fp fb (fs.map (·.text)) cb F w w1 b o seen c W)(i:fs.length<=1000000)(j:∀k,k<fs.length->fp k=.pointer (some ⟨fb k,0,none⟩))(t:seen.length<=90001)(v:Value)(l:List aC)(u:PKid (Btw lo cb) w v l)(q:∀a∈l,Hs.ExOk fs false seen d a)(h:∀a∈l,mJ a)(r:l.length<=1000000)(n:c.length+(bP (aG fs seen d) l c.length).length<=1000000):
 Calls prog 287 #[.pointer (some ⟨cb,0,none⟩),v] W fun e m=>e=.returned (.tuple #[])/\pT fp fb (fs.map (·.text)) cb F w w1 b o seen (c++(bP (aG fs seen d) l c.length).map some) m:=by
 obtain⟨G,z,g,p⟩:=x;refine(rV (rY (by omega) i j d) v l c W g.1 (u.below g.2.bel) q (fun a s=>h a s d) r n).mono ?_
 rintro e m ⟨y,f⟩;exact⟨y,G,z,f.then g.2,p.step f.2⟩
def pT.fin{a:List (List UInt8)}{w w1 W:World}{b:Nat}{o:Obj}{c:List (Option aH)}(e:pT fp fb a cb F w w1 b o seen c W):MK fp fb a cb F w c seen W:=by
 obtain⟨G,f,d,_⟩:=e;exact⟨G,f,d⟩
def pT.box{a:List (List UInt8)}{w w1 W:World}{b:Nat}{cs:Array Value}{T:TypeId}{c:List (Option aH)}(d:pT fp fb a cb F w w1 b (.cells cs T) seen c W):W.heap[b]?=some (.cells cs T (0,0)):=by
 obtain⟨G,f,_,e⟩:=d;exact e.blk
def CP.cpB{c:List (List UInt8)}{w:World}{b:List (Option aH)}(h:CP fp fb c cb F w b seen)(o:Obj):pT fp fb c cb F w w w.heap.size o seen b (w.alloc o):=by
 obtain⟨a,d⟩:=h.new o;exact⟨F,fun _ h=>h,⟨d,a.fb⟩,a⟩
def yJ(U:RO fp fb fs cb lo d)(J:fs.length<=1000000)(K:∀k,k<fs.length->fp k=.pointer (some ⟨fb k,0,none⟩))(B:seen.length<=90001)(l:Int)(v1 Z T:Value)(c:aC)(r s:List aC)(b:List (Option aH))(w:World)(h:CP fp fb (fs.map (·.text)) cb F w b seen)
 (X:PN (Btw lo cb) w v1 c) (V:PKid (Btw lo cb) w Z r) (Y:PKid (Btw lo cb) w T s) (ho:Hs.ExOk fs false seen d c) (S:Hs.StsOk (dD fs d) seen r) (H:Hs.StsOk (dD fs d) seen s) (hl:mJ c) (P:∀a∈r,mJ a) (Q:∀a∈s,mJ a) (I:r.length<=1000000) (G:s.length<=1000000)
 (f j q:List aH) (E:aG fs seen d c b.length=f) (C:bG (aU fs d) seen r (b.length+f.length+1)=j) (D:bG (aU fs d) seen s (b.length+f.length+1+j.length+1)=q) (hn:b.length+f.length+1+j.length+1+q.length<=1000000):
 Calls prog 324 #[.pointer (some ⟨cb,0,none⟩),.agg #[.int .i64 l,v1,Z,T]] w fun e w'=>e=.returned (.tuple #[])/\MK fp fb (fs.map (·.text)) cb F w (b++(f++[aH.skip (b.length+f.length+1+j.length+1)]++j++[aH.jump (b.length+f.length+1+j.length+1+q.length)]++q).map some) seen w':=by
 obtain⟨z,o,rfl⟩:=X.form;obtain⟨y,v,rfl⟩:=V.sliceC;obtain⟨x,A,rfl⟩:=Y.sliceC;have M:=h.cpB (.cells #[.int .i64 l,.iface z (.agg o),.slice y r.length v,.slice x s.length A] 334)
 refine(RC w cb (b.length+f.length) (b.length+f.length+1+j.length) l z (.agg o) y x r.length s.length v A
  (fun W=>MK fp fb (fs.map (·.text)) cb F w ((b++f.map some++some (aH.skip (b.length+f.length+1+j.length+1))::j.map some)++some (aH.jump (b.length+f.length+1+j.length+1+q.length))::q.map some) seen W)
  (pT fp fb (fs.map (·.text)) cb F w w w.heap.size (.cells #[.int .i64 l,.iface z (.agg o),.slice y r.length v,.slice x s.length A] 334) seen (b++f.map some))
  (pT fp fb (fs.map (·.text)) cb F w w w.heap.size (.cells #[.int .i64 l,.iface z (.agg o),.slice y r.length v,.slice x s.length A] 334) seen (b++f.map some++[none]))
  (pT fp fb (fs.map (·.text)) cb F w w w.heap.size (.cells #[.int .i64 l,.iface z (.agg o),.slice y r.length v,.slice x s.length A] 334) seen (b++f.map some++[none]++j.map some))
  (pT fp fb (fs.map (·.text)) cb F w w w.heap.size (.cells #[.int .i64 l,.iface z (.agg o),.slice y r.length v,.slice x s.length A] 334) seen (b++f.map some++[none]++j.map some++[none]))
  (pT fp fb (fs.map (·.text)) cb F w w w.heap.size (.cells #[.int .i64 l,.iface z (.agg o),.slice y r.length v,.slice x s.length A] 334) seen (b++f.map some++some (aH.skip (b.length+f.length+1+j.length+1))::(j.map some++[none])))
  (pT fp fb (fs.map (·.text)) cb F w w w.heap.size (.cells #[.int .i64 l,.iface z (.agg o),.slice y r.length v,.slice x s.length A] 334) seen (b++f.map some++some (aH.skip (b.length+f.length+1+j.length+1))::(j.map some++[none])++q.map some))
  ?_ (fun W m=>?_) (fun W m=>?_) (fun W m=>?_) (fun W m=>?_) (fun W m=>?_) (fun W m=>?_) (fun W m=>?_) (fun W m=>?_)).mono ?_
 ·have:=M.exprk J K B _ c X ho hl (by rw[E];omega)
  rw[E] at this;exact this
 ·have:=m.emit (u:=.nilIface) (i:=none) (fun _=>rfl) (by simp;omega)
  rw[fJ] at this;exact this
 ·exact⟨aA m.box rfl,aD m.box⟩
 ·have p:(b++f.map some++[none]).length=b.length+f.length+1:=by simp;omega
  have:=m.blockk U _ r V S P I B (by rw[p,C];omega)
  rw[p,C] at this;exact this
 ·have p:(b++f.map some++[none]++j.map some).length=b.length+f.length+1+j.length:=by simp;omega
  have:=m.emit (u:=.nilIface) (i:=none) (fun _=>rfl) (by rw[p];omega)
  rw[p] at this;exact this
 ·have N:b++f.map some++[none]++j.map some++[none]=(b++f.map some)++none::(j.map some++[none]):=by simp
  rw[N] at m;have t:((b++f.map some)++none::(j.map some++[none])).length=b.length+f.length+1+j.length+1:=by simp;omega
  have:=m.patch (b.length+f.length) (by rw[fJ]) 461 (fun n=>.skip n) (fun _ _=>rfl) (by rw[t];omega)
  rw[t] at this;exact this
 ·exact⟨aA m.box rfl,aD m.box⟩
 ·have p:(b++f.map some++some (aH.skip (b.length+f.length+1+j.length+1))::(j.map some++[none])).length=b.length+f.length+1+j.length+1:=by simp;omega
  have:=m.blockk U _ s Y H Q G B (by rw[p,D];omega)
  rw[p,D] at this;exact this
 ·have N:b++f.map some++some (aH.skip (b.length+f.length+1+j.length+1))::(j.map some++[none])++q.map some=(b++f.map some++some (aH.skip (b.length+f.length+1+j.length+1))::j.map some)++none::q.map some:=by simp
  rw[N] at m;have t:((b++f.map some++some (aH.skip (b.length+f.length+1+j.length+1))::j.map some)++none::q.map some).length=b.length+f.length+1+j.length+1+q.length:=by simp;omega
  have O:b.length+f.length+1+j.length=(b++f.map some++some (aH.skip (b.length+f.length+1+j.length+1))::j.map some).length:=by simp;omega
  have:=m.patch (b.length+f.length+1+j.length) O 462 (fun n=>.jump n) (fun _ _=>rfl) (by rw[t];omega)
  rw[t] at this;obtain⟨a1,g,n,L,a2,a3,a4,a5,a6,a7,a8⟩:=this;exact⟨a1,g,n,L,a2,a3,a4,a5,a6,a7,fun W' hS=>(a8 W' hS).fin⟩
 ·intro e W m;have e9:b++(f++[aH.skip (b.length+f.length+1+j.length+1)]++j++[aH.jump (b.length+f.length+1+j.length+1+q.length)]++q).map some=(b++f.map some++some (aH.skip (b.length+f.length+1+j.length+1))::j.map some)++some (aH.jump (b.length+f.length+1+j.length+1+q.length))::q.map some:=by simp
  rw[e9];exact m
def D5(S:RO fp fb fs cb lo d)(C:fs.length<=1000000)(D:∀k,k<fs.length->fp k=.pointer (some ⟨fb k,0,none⟩))(A:seen.length<=90001)(l:Int)(f:Nat)(v1 M:Value)(c:aC)(q:List aC)(b:List (Option aH))(w:World)(h:CP fp fb (fs.map (·.text)) cb F w b seen)
 (L:PN (Btw lo cb) w v1 c) (K:PKid (Btw lo cb) w M q) (O:Hs.ExOk fs false seen d c) (I:Hs.StsOk (dD fs d) seen q) (Q:mJ c) (H:∀a∈q,mJ a) (B:q.length<=1000000)
 (j m:List aH) (z:aG fs seen d c b.length=j) (x:bG (aU fs d) seen q (b.length+j.length+1)=m) (hn:b.length+j.length+1+m.length+1<=1000000):
 Calls prog 325 #[.pointer (some ⟨cb,0,none⟩),.agg #[.int .i64 l,v1,M],.int .i64 f] w fun e J=>e=.returned (.tuple #[])/\MK fp fb (fs.map (·.text)) cb F w (b++(j++[aH.skip (b.length+j.length+1+m.length+1)]++m++[aH.jump f]).map some) seen J:=by
 obtain⟨v,o,rfl⟩:=L.form;obtain⟨t,s,rfl⟩:=K.sliceC;have G:=h.cpB (.cells #[.int .i64 l,.iface v (.agg o),.slice t q.length s] 336)
 refine(A5 w cb (b.length+j.length) f l v (.agg o) t q.length s
  (fun W=>MK fp fb (fs.map (·.text)) cb F w ((b++j.map some)++some (aH.skip (b.length+j.length+1+m.length+1))::(m.map some++[some (aH.jump f)])) seen W)
  (pT fp fb (fs.map (·.text)) cb F w w w.heap.size (.cells #[.int .i64 l,.iface v (.agg o),.slice t q.length s] 336) seen (b++j.map some))
  (pT fp fb (fs.map (·.text)) cb F w w w.heap.size (.cells #[.int .i64 l,.iface v (.agg o),.slice t q.length s] 336) seen (b++j.map some++[none]))
  (pT fp fb (fs.map (·.text)) cb F w w w.heap.size (.cells #[.int .i64 l,.iface v (.agg o),.slice t q.length s] 336) seen (b++j.map some++[none]++m.map some))
  (pT fp fb (fs.map (·.text)) cb F w w w.heap.size (.cells #[.int .i64 l,.iface v (.agg o),.slice t q.length s] 336) seen (b++j.map some++[none]++m.map some++[some (aH.jump f)]))
  ?_ (fun W p=>?_) (fun W p=>?_) (fun W p=>?_) (fun W p=>?_) (fun W p=>?_)).mono ?_
 ·have:=G.exprk C D A _ c L O Q (by rw[z];omega)
  rw[z] at this;exact this
 ·have:=p.emit (u:=.nilIface) (i:=none) (fun _=>rfl) (by simp;omega)
  rw[fJ] at this;exact this
 ·exact⟨aA p.box rfl,aD p.box⟩
 ·have r:(b++j.map some++[none]).length=b.length+j.length+1:=by simp;omega
  have:=p.blockk S _ q K I H B A (by rw[r,x];omega)
  rw[r,x] at this;exact this
 ·have r:(b++j.map some++[none]++m.map some).length=b.length+j.length+1+m.length:=by simp;omega
  refine(p.emit (u:=.iface 462 (.agg #[.int .i64 f])) (i:=some (aH.jump f)) (fun _=>rfl) (by rw[r];omega)).mono ?_
  rintro e J ⟨he,T⟩;exact⟨⟨_,he⟩,T⟩
 ·have Y:b++j.map some++[none]++m.map some++[some (aH.jump f)]=(b++j.map some)++none::(m.map some++[some (aH.jump f)]):=by simp
  rw[Y] at p;have y:((b++j.map some)++none::(m.map some++[some (aH.jump f)])).length=b.length+j.length+1+m.length+1:=by simp;omega
  have:=p.patch (b.length+j.length) (by rw[fJ]) 461 (fun n=>.skip n) (fun _ _=>rfl) (by rw[y];omega)
  rw[y] at this;obtain⟨V,g,n,E,Z,a3,P,U,X,a7,a8⟩:=this;exact⟨V,g,n,E,Z,a3,P,U,X,a7,fun W' N=>(a8 W' N).fin⟩
 ·intro e W p;have e9:b++(j++[aH.skip (b.length+j.length+1+m.length+1)]++m++[aH.jump f]).map some=(b++j.map some)++some (aH.skip (b.length+j.length+1+m.length+1))::(m.map some++[some (aH.jump f)]):=by simp
  rw[e9];exact p
end
section
variable {fp:Nat->Value} {fb:Nat->Nat} {fs:List aC} {cb lo:Nat} {d:Nat}
def fX.cpB{F:Nat->Prop}{seen:List (List UInt8)}{c:List (List UInt8)}{w W:World}{b:List (Option aH)}(h:fX fp fb c cb F w b seen W)(o:Obj):pT fp fb c cb F w W W.heap.size o seen b (W.alloc o):=by
 obtain⟨a,d⟩:=h.1.new o;exact⟨F,fun _ h=>h,⟨d,h.2.trans a.fb⟩,a⟩
def O9(IH:RO fp fb fs cb lo d)(X:fs.length<=1000000)(Y:∀k,k<fs.length->fp k=.pointer (some ⟨fb k,0,none⟩)):RO fp fb fs cb lo (d+1):=by
 intro F f v a g w h av Q J ad z;obtain⟨T,cs,ps,rfl,ax,K⟩:=av.parts;obtain⟨fv,cv,sp,m,_,h4,_⟩:=h.blk;obtain⟨p,rfl⟩:=h4.form;have V:=h.lt;have aa:w.cell? ⟨cb,2,none⟩=some (.pointer p):=aA m rfl
 have ab:g.length+1<=1000000->Calls prog 238 #[.pointer (some ⟨cb,0,none⟩),.iface 365 (.agg #[.int .i64 a.line,.pointer p])] (w.drew.alloc (.cells #[.int .i64 a.line] 209)) fun e w'=>e=.returned (.int .i64 g.length)/\fX fp fb (fs.map (·.text)) cb F w (g++[some (.begin a.line f)]) f w':=fun hn=>by
  have hb:Below w.heap.size w (w.drew.alloc (.cells #[.int .i64 a.line] 209)):=((ay_ _ w).drew).alloc (au_ _) _;have h':=h.grow hb;refine(qZ (o:=some (.begin a.line f)) h' ⟨_,rfl,eE.keep (fun b bd=>hb.block b (h.fix b bd).1) (fun _ h=>h) h4⟩ (by omega)).mono ?_
  rintro e w' ⟨H,q1,q2⟩;exact⟨H,q1,(FB.of_below hb V).trans q2⟩
 have B:(g++[some (aH.begin a.line f)]).length=g.length+1:=by simp
 have ag:f.length<=1000000:=by omega
 have no:∀{x y:List UInt8} {p:Prop},a.op=x->x≠y->a.op=y->p:=fun e1 e2 e3=>absurd (e1.symm.trans e3) e2
 rcases ax with ⟨_,_,_,n,_⟩|⟨_,_,n,_⟩|⟨_,_,n,_⟩|⟨_,_,_,n,_⟩|⟨_,_,_,n,_⟩|⟨_,_,n,_⟩|⟨_,_,_,_,_,_,_,n,_⟩|⟨_,o,_,_,_,bb,n,_⟩|⟨_,_,_,_,_,_,_,n,_⟩|⟨rfl,v1,t,A,rfl,n,j,rfl⟩|⟨rfl,sv,v1,l,A,rfl,n,j,rfl⟩|⟨rfl,v1,s1,A,O,rfl,n,aq,j,rfl⟩|⟨rfl,v1,s1,s2,A,O,b2,rfl,n,aq,be,j,rfl⟩|⟨rfl,v1,s1,A,O,rfl,n,aq,j,rfl⟩|⟨rfl,l,rfl,n,j,rfl⟩|⟨rfl,v1,A,rfl,n,j,rfl⟩|⟨rfl,v1,A,rfl,n,j,rfl⟩|⟨rfl,sv,c,rfl,n,ba,bf,j,am,rfl⟩
 iterate 7
  ·exfalso;rcases Q with ⟨m,_⟩|⟨m,_⟩|⟨m,_⟩|⟨m,_⟩|⟨m,_⟩|⟨m,_⟩|⟨m,_⟩<;>exact no n (by decide) m
 ·exfalso;rcases bb with rfl|rfl<;>(rcases Q with ⟨m,_⟩|⟨m,_⟩|⟨m,_⟩|⟨m,_⟩|⟨m,_⟩|⟨m,_⟩|⟨m,_⟩<;>exact no n (by decide) m)
 ·exfalso;rcases Q with ⟨m,_⟩|⟨m,_⟩|⟨m,_⟩|⟨m,_⟩|⟨m,_⟩|⟨m,_⟩|⟨m,_⟩<;>(rw[m] at n;exact n rfl)
 ·-- var
  have U:Hs.ExOk fs false f d A/\f.length<=90000:=by
   rcases Q with ⟨_,C,t',v',r,L,_⟩|⟨m,_⟩|⟨m,_⟩|⟨m,_⟩|⟨m,_⟩|⟨m,_⟩|⟨m,_⟩
   ·rw[j] at r;simp at r;rw[r.2];exact⟨L,C⟩
   all_goals exact no n (by decide) m
  have E:=S8 fs f d a g.length t A n j;rw[E] at z ⊢
  simp only[aw_,aB_,aI_] at z;have hp:=K ⟨v1,[A],true⟩ (by simp)
  obtain⟨Z,D,rfl⟩:=hp.one'.form;have M:=J.kid (k:=A) (by rw[j];simp)
  refine(BP w cb g.length a.line p t.line (bs t.text) Z (.agg D) f.length (fun W=>MK fp fb (fs.map (·.text)) cb F w (g++(aH.begin a.line f::aG fs f d A (g.length+1)++[aH.declare f.length]).map some) (t.text::f) W) _
   (fun b W=>∃N,pT fp fb (fs.map (·.text)) cb F w N b (.cells #[.int .i64 a.line,.int .i64 t.line,.string (bs t.text),.iface Z (.agg D)] 329) f ((g++[some (.begin a.line f)])++(aG fs f d A (g.length+1)).map some) W)
   (fun b W=>∃N,pT fp fb (fs.map (·.text)) cb F w N b (.cells #[.int .i64 a.line,.int .i64 t.line,.string (bs t.text),.iface Z (.agg D)] 329) f ((g++[some (.begin a.line f)])++(aG fs f d A (g.length+1)).map some++[some (.declare f.length)]) W)
   V aa (ab (by omega)) (fun W s=>?_) (fun b W s=>?_) (fun b W s=>?_) (fun b W s=>?_) (fun b W s=>?_))
  ·refine((s.cpB _).exprk X Y ad _ A hp.one' U.1 M (by rw[B];omega)).mono ?_
   rintro e w' ⟨H,C⟩;rw[B] at C;exact⟨H,W,C⟩
  ·obtain⟨N,G,hG,q,_⟩:=s;exact PQ q.1 ag
  ·obtain⟨N,s⟩:=s;refine(s.emit (u:=.iface 443 (.agg #[.int .i64 f.length])) (i:=some (.declare f.length)) (fun _=>rfl) (by simp;omega)).mono ?_
   rintro e w' ⟨H,C⟩;exact⟨⟨_,H⟩,N,C⟩
  ·obtain⟨N,s⟩:=s;exact⟨aA s.box rfl,aD s.box⟩
  ·obtain⟨N,G,hG,q,_⟩:=s;refine(WM t.text q.1 ag).mono ?_;rintro e w' ⟨H,q1,q2⟩;refine⟨H,fun k=>G k\/k=W.heap.size,fun k r=>av_ (hG k r),?_,q.2.trans q2⟩
   simpa using q1
 ·-- an assignment
  have U:a.text∈f/\∀k∈a.kids,Hs.ExOk fs false f d k:=by
   rcases Q with ⟨m,_⟩|⟨_,C,_,L⟩|⟨m,_⟩|⟨m,_⟩|⟨m,_⟩|⟨m,_⟩|⟨m,_⟩
   ·exact no n (by decide) m
   ·exact⟨C,L⟩
   all_goals exact no n (by decide) m
  have E:=S9 fs f d a g.length n;have ay:(l++[A]).length-1=l.length:=by simp
  rw[j,nK,BT] at E;rw[ay] at E;rw[E] at z ⊢
  simp only[aw_,aB_,aI_] at z;have hp:=K ⟨sv,l,false⟩ (by simp)
  have I:=K ⟨v1,[A],true⟩ (by simp)
  obtain⟨Z,D,rfl⟩:=I.one'.form;obtain⟨x,c,rfl⟩:=hp.many.sliceC;have az:=J.len;rw[j,aw_] at az;generalize aj:bP (aG fs f d) l (g.length+1)=q1 at*;generalize ak:aG fs f d A (g.length+1+q1.length)=q2 at*
  refine(EZ w cb g.length a.line p (bs a.text) x l.length c (dK f a.text) Z (.agg D) (fun W=>MK fp fb (fs.map (·.text)) cb F w (g++(aH.begin a.line f::(q1++q2)++[aH.assign (dK f a.text) l.length]).map some) f W) _
   (fun b W=>∃N,pT fp fb (fs.map (·.text)) cb F w N b (.cells #[.int .i64 a.line,.string (bs a.text),.slice x l.length c,.iface Z (.agg D)] 332) f ((g++[some (.begin a.line f)])++q1.map some) W)
   (fun b W=>∃N,pT fp fb (fs.map (·.text)) cb F w N b (.cells #[.int .i64 a.line,.string (bs a.text),.slice x l.length c,.iface Z (.agg D)] 332) f ((g++[some (.begin a.line f)])++q1.map some++q2.map some) W)
   V aa (ab (by omega)) (fun W s=>?_) (fun b W s=>?_) (fun b W s=>?_) (fun b W s=>?_) (fun b W W' s hS=>?_) (fun b W W' s hS=>?_))
  ·refine((s.cpB _).exprsk X Y ad _ l hp.many (fun k r=>U.2 k (by rw[j];simp[r])) (fun k r=>J.kid (by rw[j];simp[r])) (by omega) (by rw[B,aj];omega)).mono ?_
   rintro e w' ⟨H,C⟩;rw[B,aj] at C;exact⟨H,W,C⟩
  ·obtain⟨N,s⟩:=s;exact⟨aA s.box rfl,aD s.box⟩
  ·obtain⟨N,s⟩:=s;have ai:((g++[some (aH.begin a.line f)])++q1.map some).length=g.length+1+q1.length:=by simp;omega
   refine(s.exprk X Y ad _ A I.one' (U.2 A (by rw[j];simp)) (J.kid (by rw[j];simp)) (by rw[ai,ak];omega)).mono ?_
   rintro e w' ⟨H,C⟩;rw[ai,ak] at C;exact⟨H,N,C⟩
  ·obtain⟨N,s⟩:=s;exact⟨aA s.box rfl,aA s.box rfl,aD s.box⟩
  ·obtain⟨N,G,hG,q,_⟩:=s;exact NO a.text (q.1.grow hS.below) U.1 ag
  ·obtain⟨N,G,hG,q,hL⟩:=s;have ap:fX fp fb (fs.map (·.text)) cb G w ((g++[some (.begin a.line f)])++q1.map some++q2.map some) f W':=⟨q.1.grow hS.below,q.2.trans (FB.of_below hS.below q.1.lt)⟩
   refine(emits (i:=.assign (dK f a.text) l.length) ap rfl (by simp;omega)).mono ?_
   rintro e w' ⟨H,C⟩;refine⟨H,G,hG,?_⟩;have e9:g++(aH.begin a.line f::(q1++q2)++[aH.assign (dK f a.text) l.length]).map some=(g++[some (.begin a.line f)])++q1.map some++q2.map some++[some (.assign (dK f a.text) l.length)]:=by simp
   rw[e9];exact C
 ·-- if,without else
  have U:Hs.ExOk fs false f d A/\Hs.StsOk (dD fs d) f O.kids:=by
   rcases Q with ⟨m,_⟩|⟨m,_⟩|⟨_,c',t',r,L,h4⟩|⟨m,_⟩|⟨m,_⟩|⟨m,_⟩|⟨m,_⟩
   rotate_left 2
   ·rcases r with r|⟨x,r,_⟩
    ·rw[j] at r;simp at r;rw[r.1,r.2];exact⟨L,h4⟩
    ·rw[j] at r;simp at r
   all_goals exact no n (by decide) m
  have E:=T7 fs f d a g.length A O n j;rw[E] at z ⊢
  have I:=K ⟨v1,[A],true⟩ (by simp)
  have ae:=K ⟨s1,O.kids,false⟩ (by simp)
  have M:=J.kid (k:=A) (by rw[j];simp)
  have ac:=J.kid (k:=O) (by rw[j];simp)
  obtain⟨Z,D,rfl⟩:=I.one'.form;obtain⟨x,c,rfl⟩:=ae.many.sliceC;generalize af:aG fs f d A (g.length+1)=P at*;generalize ah:bG (aU fs d) f O.kids (g.length+1+P.length+1)=S at*;simp only[aw_,aB_,aI_] at z;refine GU w cb g.length a.line p Z (.agg D) x none O.kids.length 0 c 0 _ _ V aa (ab (by omega)) (fun W s=>?_)
  obtain⟨G,hG,q,_⟩:=s.cpB (.cells #[.int .i64 a.line,.iface Z (.agg D),.slice x O.kids.length c,.slice none 0 0] 334);refine(yJ (d:=d) IH X Y ad a.line _ _ _ A O.kids [] _ _ q.1 (I.one'.below q.2.bel) (ae.many.below q.2.bel) (av_ ⟨rfl,rfl⟩) U.1 U.2 trivial M (fun k r=>ac.kid r) (fun k r=>by simp at r) ac.len (by simp) P S [] (by rw[B];exact af) (by rw[B];exact ah) rfl (by rw[B];simp;omega)).mono ?_
  rintro e w' ⟨H,C⟩;refine⟨H,?_⟩;have L:=(C.then q.2).more hG
  rw[B] at L;have e9:(g++[some (aH.begin a.line f)])++(P++[aH.skip (g.length+1+P.length+1+S.length+1)]++S++[aH.jump (g.length+1+P.length+1+S.length+1+([]:List aH).length)]++[]).map some=g++(aH.begin a.line f::P++[aH.skip (g.length+1+P.length+1+S.length+1)]++S++[aH.jump (g.length+1+P.length+1+S.length+1)]).map some:=by simp
  rw[e9] at L;exact L
 ·-- if,with else
  have U:Hs.ExOk fs false f d A/\Hs.StsOk (dD fs d) f O.kids/\Hs.StsOk (dD fs d) f b2.kids:=by
   rcases Q with ⟨m,_⟩|⟨m,_⟩|⟨_,c',t',r,L,h4⟩|⟨m,_⟩|⟨m,_⟩|⟨m,_⟩|⟨m,_⟩
   rotate_left 2
   ·rcases r with r|⟨x,r,h5⟩
    ·rw[j] at r;simp at r
    ·rw[j] at r;simp at r;rw[r.1,r.2.1,r.2.2];exact⟨L,h4,h5⟩
   all_goals exact no n (by decide) m
  have E:=T0 fs f d a g.length A O b2 n j;rw[E] at z ⊢
  have I:=K ⟨v1,[A],true⟩ (by simp)
  have ae:=K ⟨s1,O.kids,false⟩ (by simp)
  have au:=K ⟨s2,b2.kids,false⟩ (by simp)
  have M:=J.kid (k:=A) (by rw[j];simp)
  have ac:=J.kid (k:=O) (by rw[j];simp)
  have ao:=J.kid (k:=b2) (by rw[j];simp)
  obtain⟨Z,D,rfl⟩:=I.one'.form;obtain⟨x,c,rfl⟩:=ae.many.sliceC;obtain⟨x2,ar,rfl⟩:=au.many.sliceC;generalize af:aG fs f d A (g.length+1)=P at*;generalize ah:bG (aU fs d) f O.kids (g.length+1+P.length+1)=S at*;generalize bc:bG (aU fs d) f b2.kids (g.length+1+P.length+1+S.length+1)=ce at*;simp only[aw_,aB_,aI_] at z;refine GU w cb g.length a.line p Z (.agg D) x x2 O.kids.length b2.kids.length c ar _ _ V aa (ab (by omega)) (fun W s=>?_)
  obtain⟨G,hG,q,_⟩:=s.cpB (.cells #[.int .i64 a.line,.iface Z (.agg D),.slice x O.kids.length c,.slice x2 b2.kids.length ar] 334);refine(yJ (d:=d) IH X Y ad a.line _ _ _ A O.kids b2.kids _ _ q.1 (I.one'.below q.2.bel) (ae.many.below q.2.bel) (au.many.below q.2.bel) U.1 U.2.1 U.2.2 M (fun k r=>ac.kid r) (fun k r=>ao.kid r) ac.len ao.len P S ce (by rw[B];exact af) (by rw[B];exact ah) (by rw[B];exact bc) (by rw[B];omega)).mono ?_
  rintro e w' ⟨H,C⟩;refine⟨H,?_⟩;have L:=(C.then q.2).more hG
  rw[B] at L;have e9:(g++[some (aH.begin a.line f)])++(P++[aH.skip (g.length+1+P.length+1+S.length+1)]++S++[aH.jump (g.length+1+P.length+1+S.length+1+ce.length)]++ce).map some=g++(aH.begin a.line f::P++[aH.skip (g.length+1+P.length+1+S.length+1)]++S++[aH.jump (g.length+1+P.length+1+S.length+1+ce.length)]++ce).map some:=by simp
  rw[e9] at L;exact L
 ·-- while
  have U:Hs.ExOk fs false f d A/\Hs.StsOk (dD fs d) f O.kids:=by
   rcases Q with ⟨m,_⟩|⟨m,_⟩|⟨m,_⟩|⟨_,c',t',r,L,h4⟩|⟨m,_⟩|⟨m,_⟩|⟨m,_⟩
   rotate_left 3
   ·rw[j] at r;simp at r;rw[r.1,r.2];exact⟨L,h4⟩
   all_goals exact no n (by decide) m
  have E:=YC fs f d a g.length A O n j;rw[E] at z ⊢
  have I:=K ⟨v1,[A],true⟩ (by simp)
  have ae:=K ⟨s1,O.kids,false⟩ (by simp)
  have M:=J.kid (k:=A) (by rw[j];simp)
  have ac:=J.kid (k:=O) (by rw[j];simp)
  obtain⟨Z,D,rfl⟩:=I.one'.form;obtain⟨x,c,rfl⟩:=ae.many.sliceC;generalize af:aG fs f d A (g.length+1)=P at*;generalize ah:bG (aU fs d) f O.kids (g.length+1+P.length+1)=S at*;simp only[aw_,aB_,aI_] at z;refine JZ w cb g.length a.line p Z (.agg D) x O.kids.length c _ _ V aa (ab (by omega)) (fun W s=>?_)
  obtain⟨G,hG,q,_⟩:=s.cpB (.cells #[.int .i64 a.line,.iface Z (.agg D),.slice x O.kids.length c] 336);refine(D5 (d:=d) IH X Y ad a.line g.length _ _ A O.kids _ _ q.1 (I.one'.below q.2.bel) (ae.many.below q.2.bel) U.1 U.2 M (fun k r=>ac.kid r) ac.len P S (by rw[B];exact af) (by rw[B];exact ah) (by rw[B];omega)).mono ?_
  rintro e w' ⟨H,C⟩;refine⟨H,?_⟩;have L:=(C.then q.2).more hG
  rw[B] at L;have e9:(g++[some (aH.begin a.line f)])++(P++[aH.skip (g.length+1+P.length+1+S.length+1)]++S++[aH.jump g.length]).map some=g++(aH.begin a.line f::P++[aH.skip (g.length+1+P.length+1+S.length+1)]++S++[aH.jump g.length]).map some:=by simp
  rw[e9] at L;exact L
 ·-- return,without a value
  have E:=NJ fs f d a g.length n j;rw[E] at z ⊢
  simp only[aB_,aI_] at z;refine sO w cb g.length a.line p _ _ _ _ (fun W=>MK fp fb (fs.map (·.text)) cb F w ((g++[some (aH.begin a.line f)])++[some (.push (bC 0))]) f W) V aa (ab (by omega)) (fun W s=>?_) (fun W s=>?_)
  ·obtain⟨G,hG,q,_⟩:=s.cpB (.cells #[.int .i64 a.line,.iface 397 (.agg #[.int .i64 l,.int .i64 0])] 338);obtain⟨G2,aw,al,_⟩:=q.cpB (.cells #[.int .i64 l,.int .i64 0] 397);refine(sR _ cb l 0 _ (emits (i:=.push (bC 0)) al ⟨_,rfl,PV.num _ _ _ (by omega) (by omega),by rw[kA];omega⟩ (by simp;omega))).mono ?_
   rintro e w' ⟨H,C⟩;exact⟨H,G2,fun k r=>aw k (hG k r),C⟩
  ·obtain⟨G,hG,q⟩:=s;refine(emits (i:=.give) q rfl (by simp;omega)).mono ?_
   rintro e w' ⟨H,C⟩;refine⟨H,G,hG,?_⟩;have e9:g++([aH.begin a.line f,.push (bC 0),.give]).map some=(g++[some (aH.begin a.line f)])++[some (.push (bC 0))]++[some .give]:=by simp
   rw[e9];exact C
 ·-- return
  have U:Hs.ExOk fs false f d A:=by
   rcases Q with ⟨m,_⟩|⟨m,_⟩|⟨m,_⟩|⟨m,_⟩|⟨_,r⟩|⟨m,_⟩|⟨m,_⟩
   rotate_left 4
   ·rcases r with r|⟨v',r,L⟩
    ·rw[j] at r;simp at r
    ·rw[j] at r;simp at r;rw[r];exact L
   all_goals exact no n (by decide) m
  have E:=NI fs f d a g.length A n j;rw[E] at z ⊢
  have I:=K ⟨v1,[A],true⟩ (by simp)
  have M:=J.kid (k:=A) (by rw[j];simp)
  obtain⟨Z,D,rfl⟩:=I.one'.form;simp only[aw_,aB_,aI_] at z;refine sO w cb g.length a.line p _ _ _ _ (fun W=>∃N,pT fp fb (fs.map (·.text)) cb F w N N.heap.size (.cells #[.int .i64 a.line,.iface Z (.agg D)] 338) f ((g++[some (aH.begin a.line f)])++(aG fs f d A (g.length+1)).map some) W) V aa (ab (by omega)) (fun W s=>?_) (fun W s=>?_)
  ·refine((s.cpB _).exprk X Y ad _ A I.one' U M (by rw[B];omega)).mono ?_
   rintro e w' ⟨H,C⟩;rw[B] at C;exact⟨H,W,C⟩
  ·obtain⟨N,s⟩:=s;refine(s.emit (u:=.iface 363 (.agg #[])) (i:=some .give) (fun _=>rfl) (by simp;omega)).mono ?_
   rintro e w' ⟨H,C⟩;refine⟨⟨_,H⟩,?_⟩;have e9:g++(aH.begin a.line f::aG fs f d A (g.length+1)++[aH.give]).map some=(g++[some (aH.begin a.line f)])++(aG fs f d A (g.length+1)).map some++[some .give]:=by simp
   rw[e9];exact C.fin
 ·-- print
  have U:Hs.ExOk fs false f d A:=by
   rcases Q with ⟨m,_⟩|⟨m,_⟩|⟨m,_⟩|⟨m,_⟩|⟨m,_⟩|⟨_,v',r,L⟩|⟨m,_⟩
   rotate_left 5
   ·rw[j] at r;simp at r;rw[r];exact L
   all_goals exact no n (by decide) m
  have E:=YD fs f d a g.length A n j;rw[E] at z ⊢
  have I:=K ⟨v1,[A],true⟩ (by simp)
  have M:=J.kid (k:=A) (by rw[j];simp)
  obtain⟨Z,D,rfl⟩:=I.one'.form;simp only[aw_,aB_,aI_] at z;refine KA w cb g.length a.line p _ _ _ _ (fun W=>∃N,pT fp fb (fs.map (·.text)) cb F w N N.heap.size (.cells #[.int .i64 a.line,.iface Z (.agg D)] 339) f ((g++[some (aH.begin a.line f)])++(aG fs f d A (g.length+1)).map some) W) V aa (ab (by omega)) (fun W s=>?_) (fun W s=>?_)
  ·refine((s.cpB _).exprk X Y ad _ A I.one' U M (by rw[B];omega)).mono ?_
   rintro e w' ⟨H,C⟩;rw[B] at C;exact⟨H,W,C⟩
  ·obtain⟨N,s⟩:=s;refine(s.emit (u:=.iface 448 (.agg #[])) (i:=some .print) (fun _=>rfl) (by simp;omega)).mono ?_
   rintro e w' ⟨H,C⟩;refine⟨⟨_,H⟩,?_⟩;have e9:g++(aH.begin a.line f::aG fs f d A (g.length+1)++[aH.print]).map some=(g++[some (aH.begin a.line f)])++(aG fs f d A (g.length+1)).map some++[some .print]:=by simp
   rw[e9];exact C.fin
 ·-- a call alone
  have U:Hs.ExOk fs false f d c:=by
   rcases Q with ⟨m,_⟩|⟨m,_⟩|⟨m,_⟩|⟨m,_⟩|⟨m,_⟩|⟨m,_⟩|⟨_,v',r,L⟩
   rotate_left 6
   ·rw[j] at r;simp at r;rw[r];exact L
   all_goals exact no n (by decide) m
  have E:=l9 fs f d a g.length c n j;rw[E] at z ⊢
  rw[<-ba];have hp:=K ⟨sv,c.kids,false⟩ (by simp)
  have M:=J.kid (k:=c) (by rw[j];simp)
  obtain⟨x,cp,rfl⟩:=hp.many.sliceC;simp only[aw_,aB_,aI_] at z;refine NG w cb g.length a.line p _ _ _ _ _ _ (fun W=>MK fp fb (fs.map (·.text)) cb F w ((g++[some (aH.begin a.line f)])++(aG fs f d c (g.length+1)).map some) f W) V aa (ab (by omega)) (fun W s=>?_) (fun W s=>?_)
  ·cases d with
   |zero=>exact U.elim
   |succ d=>
    obtain⟨G,hG,q,_⟩:=s.cpB (.cells #[.int .i64 a.line,.string (bs c.text),.slice x c.kids.length cp] 341);refine(E5 (rY (by omega) X Y d) X Y c _ a.line _ _ q.1 am (hp.many.below q.2.bel) U (M _) (by rw[B];omega)).mono ?_
    rintro e w' ⟨H,C⟩;rw[B] at C;exact⟨H,G,hG,C.then q.2⟩
  ·obtain⟨G,hG,q⟩:=s;refine(emits (i:=.drop) q rfl (by simp;omega)).mono ?_
   rintro e w' ⟨H,C⟩;refine⟨H,G,hG,?_⟩;have e9:g++(aH.begin a.line f::aG fs f d c (g.length+1)++[aH.drop]).map some=(g++[some (aH.begin a.line f)])++(aG fs f d c (g.length+1)).map some++[some .drop]:=by simp
   rw[e9];exact C
def XD(a:fs.length<=1000000)(b:∀k,k<fs.length->fp k=.pointer (some ⟨fb k,0,none⟩)):∀d,RO fp fb fs cb lo d
 |0=>fun _ _ _ _ _ _ _ _ h=>h.elim
 |d+1=>O9 (XD a b d) a b
end
def E8(w:World)(cb:Nat)(l:Int)(tx:ByteArray)(v q:Option Addr)(b E h g:Nat)(P:Value->World->Prop)(I:Nat->World->Prop)(Q R S:World->Prop)(hl:cb<w.heap.size)(M:b<=1000000)
 (c1:∃u,w.cell? ⟨cb,1,none⟩=some u) (C:∃u,w.cell? ⟨cb,2,none⟩=some u) (U:w.frozen? ⟨cb,1,none⟩=false) (N:w.frozen? ⟨cb,2,none⟩=false)
 (H:Hid (I 0 (((w.setCell ⟨cb,1,none⟩ (.slice none 0 0)).setCell ⟨cb,2,none⟩ (.pointer none)).alloc (.cells #[.int .i64 l,.string tx,.slice v b E,.slice q h g] 215))))
 (T:Hid (∀j W,I j W->j<b->∃f s p,v=some ⟨f,0,none⟩/\f<W.heap.size/\W.cell? ⟨f,j*2,none⟩=some (.int .i64 s)/\W.cell? ⟨f,j*2+1,none⟩=some (.string p)/\Calls prog 236 #[.pointer (some ⟨cb,0,none⟩),.string p] (W.alloc (.cells #[.int .i64 s,.string p] 211)) fun e d=>e=.returned (.tuple #[])/\I (j+1) d))
 (HB:Hid (∀W,I b W->W.cell? ⟨w.heap.size,3,none⟩=some (.slice q h g)/\w.heap.size<W.heap.size/\Calls prog 237 #[.pointer (some ⟨cb,0,none⟩),.slice q h g] W fun e d=>e=.returned (.tuple #[])/\Q d))
 (HE:Hid (∀W,Q W->Calls prog 238 #[.pointer (some ⟨cb,0,none⟩),.iface 361 (.agg #[.iface 315 (.int .i64 0)])] W fun e d=>(∃k:Nat,e=.returned (.int .i64 k))/\R d))
 (X:Hid (∀W,R W->Calls prog 238 #[.pointer (some ⟨cb,0,none⟩),.iface 363 (.agg #[])] W fun e d=>(∃k:Nat,e=.returned (.int .i64 k))/\S d))
 (Z:Hid (∀W,S W->cb<W.heap.size/\∃x n c,W.cell? ⟨cb,1,none⟩=some (.slice x n c)/\P (.slice x n c) W)):
 Calls prog 173 #[.pointer (some ⟨cb,0,none⟩),.agg #[.int .i64 l,.string tx,.slice v b E,.slice q h g]] w fun e d=>∃K,e=.returned K/\P K d:=by
 obtain⟨u1,c1⟩:=c1;obtain⟨u2,C⟩:=C;have V:¬cb=w.heap.size:=by omega
 have L:¬w.heap.size=cb:=by omega
 go_enter Tryz.func173,Tryz.ntmps173;go_wp2_with fail;go_loopg [6,16] b (fun gk _ i wr=>∃j:Nat,j+gk=b/\i=.int .i64 j/\I j wr)
 case atStart=>exact⟨0,by omega,rfl,H.out⟩
 case round=>
  obtain⟨j,hj,rfl,o⟩:=hrel;clear c1 C U N H;by_cases B:j<b
  ·obtain⟨m,rfl⟩:∃m,gk=m+1:=⟨gk-1,by omega⟩
   obtain⟨f,s,p,rfl,hg,G,Y,a⟩:=T.out _ _ o B;have t:=aB a;have e1:(0:Int)<=(j:Int):=by omega
   have e2:(j:Int)<(b:Int):=by omega
   clear o a;go_wp2_with fail;refine t.out.mono ?_;rintro e w1 ⟨rfl,r⟩;go_wp2_with fail;go_roundg m
   case measure=>omega
   case rel=>exact⟨j+1,by omega,by go_num,r⟩
  ·have z:j=b:=by omega
   subst z;obtain⟨G,Y,a⟩:=HB.out _ o;have t:=aB a;clear o a;go_wp2_with fail;refine t.out.mono ?_;rintro e w1 ⟨rfl,r⟩;have y:=aB (HE.out _ r);clear r G;go_wp2_with fail;refine y.out.mono ?_;rintro e w2 ⟨⟨k,rfl⟩,D⟩;have A:=aB (X.out _ D);clear D;go_wp2_with fail;refine A.out.mono ?_;rintro e w3 ⟨⟨k2,rfl⟩,J⟩;obtain⟨g1,x,n,c,g2,F⟩:=Z.out _ J;have O:=aB F;clear J F;go_wp2_with fail;go_ret;exact⟨_,rfl,O.out⟩
def Y3:(prog.info? 188).map (fun i=>(i.zero,i.size,i.bytes))=some (some (.pointer none),1,8):=by kernel_rfl
def LW(w:World)(o n Y:Nat)(P:Value->World->Prop)(J:Nat->World->Prop)(K:Nat->World->Prop)(hn:n<=1000000)
 (H0:Hid (J 0 (w.alloc (.cells #[.slice none 0 0,.slice none 0 0,.pointer none] 276))))
 (H1:Hid (∀j W,J j W->j<n->w.heap.size<W.heap.size/\o<W.heap.size/\∃l t y z q s A h x c Q S O,W.cell? ⟨o,j*4,none⟩=some (.int .i64 l)/\W.cell? ⟨o,j*4+1,none⟩=some (.string t)/\W.cell? ⟨o,j*4+1+1,none⟩=some (.slice y z q)/\W.cell? ⟨o,j*4+1+1+1,none⟩=some (.slice s A h)/\
   W.heap[w.heap.size]?=some (.cells #[.slice x j c,S,O] 276 (0,0))/\W.ownsRow (w.heap.size+1) 188 1 (.slice x j c) j Q/\
   ∀W3 G d B,W3=((W.alloc (.cells #[.int .i64 l,.string t,.slice y z q,.slice s A h] 215)).alloc (.cells #[.string t,.slice none 0 0] 250)).alloc (.cells #[.pointer (some ⟨W.heap.size+1,0,none⟩)] 188)->
    B.ownsRow (w.heap.size+1) 188 1 (.slice (some ⟨G,0,none⟩) (j+1) d) (j+1) (Q++[.pointer (some ⟨W.heap.size+1,0,none⟩)])->W3.grownBy B (Value.slice x j c).ownBlock->((Value.slice x j c).ownBlock=some G\/G=W.heap.size+3)->B.heap[w.heap.size]?=some (.cells #[.slice x j c,S,O] 276 (0,0))->J (j+1) (B.setCell ⟨w.heap.size,0,none⟩ (.slice (some ⟨G,0,none⟩) (j+1) d))))
 (H:Hid (∀W,J n W->K 0 W))
 (H2:Hid (∀j W,K j W->j<n->w.heap.size<W.heap.size/\o<W.heap.size/\∃l t y z q s A h g c C,W.cell? ⟨o,j*4,none⟩=some (.int .i64 l)/\W.cell? ⟨o,j*4+1,none⟩=some (.string t)/\W.cell? ⟨o,j*4+1+1,none⟩=some (.slice y z q)/\W.cell? ⟨o,j*4+1+1+1,none⟩=some (.slice s A h)/\
   W.cell? ⟨w.heap.size,0,none⟩=some (.slice (some ⟨g,0,none⟩) n c)/\g<W.heap.size/\W.cell? ⟨g,j,none⟩=some (.pointer (some ⟨C,0,none⟩))/\
   ∀W',aQ (W.alloc (.cells #[.int .i64 l,.string t,.slice y z q,.slice s A h] 215)) W'->Calls prog 173 #[.pointer (some ⟨w.heap.size,0,none⟩),.agg #[.int .i64 l,.string t,.slice y z q,.slice s A h]] W' fun e f=>∃x U X,e=.returned (.slice x U X)/\
    w.heap.size<f.heap.size/\(∃N h,f.cell? ⟨w.heap.size,0,none⟩=some (.slice (some ⟨N,0,none⟩) n h)/\N<f.heap.size/\f.cell? ⟨N,j,none⟩=some (.pointer (some ⟨C,0,none⟩)))/\g<f.heap.size/\f.cell? ⟨g,j,none⟩=some (.pointer (some ⟨C,0,none⟩))/\C<f.heap.size/\(∃u,f.cell? ⟨C,1,none⟩=some u)/\f.frozen? ⟨C,1,none⟩=false/\K (j+1) (f.setCell ⟨C,1,none⟩ (.slice x U X))))
 (H3:Hid (∀W,K n W->Calls prog 174 #[.pointer (some ⟨w.heap.size,0,none⟩),.string ⟨#[109,97,105,110]⟩] W fun e f=>∃v,e=.returned (.pointer v)/\P (.pointer v) f)):
 Calls prog 123 #[.slice (some ⟨o,0,none⟩) n Y] w fun e f=>∃v,e=.returned v/\P v f:=by
 obtain⟨i0,hi,ae,aa,V⟩:=info_parts Y3;go_enter Tryz.func123,Tryz.ntmps123;go_wp2_with fail;go_loopg [5,10] n (fun gk _ i wr=>∃j:Nat,j+gk=n/\i=.int .i64 j/\J j wr)
 case atStart=>exact⟨0,by omega,rfl,H0.out⟩
 case round=>
  obtain⟨j,hj,rfl,r⟩:=hrel;clear H0;by_cases F:j<n
  ·obtain⟨m,rfl⟩:∃m,gk=m+1:=⟨gk-1,by omega⟩
   obtain⟨I,ac,l,t,y,z,q,s,A,h,x,c,Q,S,O,d1,d2,d3,d4,M,Z,d7⟩:=H1.out _ _ r F;have HO:=aB Z;have HB:=aB M;have HK:=aB d7;have q0:wr.cell? ⟨w.heap.size,0,none⟩=some (.slice x j c):=aA M rfl;have e1:(0:Int)<=(j:Int):=by omega
   have e2:(j:Int)<(n:Int):=by omega
   clear r M Z d7 H1;have HN:Hid (∀W:World,W.heap[wr.heap.size+1+1]?=some (.cells #[.pointer (some ⟨wr.heap.size+1,0,none⟩)] 188 (0,0))->∀k v,([.pointer (some ⟨wr.heap.size+1,0,none⟩)]:List Value)[k]?=some v->W.cell? ((⟨wr.heap.size+1+1,0,none⟩:Addr).add k)=some v):=fun W hW k v hk=>World.news_of_block hW k v (by simpa using hk)
   have HL:Hid ((((wr.alloc (.cells #[.int .i64 l,.string t,.slice y z q,.slice s A h] 215)).alloc (.cells #[.string t,.slice none 0 0] 250)).alloc (.cells #[.pointer (some ⟨wr.heap.size+1,0,none⟩)] 188)).heap[wr.heap.size+1+1]?=some (.cells #[.pointer (some ⟨wr.heap.size+1,0,none⟩)] 188 (0,0))):=aM _ _ (by simp) _
   have D:∀v∈([.pointer (some ⟨wr.heap.size+1,0,none⟩)]:List Value),v.oneCell'=true:=fun v hv=>by simp at hv;rw[hv];rfl
   have HONE:=aB D;clear D;go_wp2_with (at_builtin;refine wpList_append_lies _ (by rfl) _ _ 274 (by rfl) (w.heap.size+1) 188 i0 _ 1 8 Tryz.underlying274 hi ae aa V rfl (by decide) (.slice x j c) j Q (by rfl) (((HO.out.alloc _).alloc _).alloc _) ⟨wr.heap.size+1+1,0,none⟩ 1 1 [_] (by rfl) (by rfl) (HN.out _ HL.out) HONE.out (by decide) (by unfold maxLen;omega) (by omega) (by simp;omega) (wr.heap.size+3) (by simp) ?_)
   intro G d B p b E ab;have T:some w.heap.size≠(Value.slice x j c).ownBlock:=fun e=>by have:=(HO.out.lt _ e.symm).1;omega
   have a:B.heap[w.heap.size]?=some (.cells #[.slice x j c,S,O] 276 (0,0)):=by
    rw[b.block _ (by simp;omega) T,aA_ _ _ _ (by simp;omega),aA_ _ _ _ (by simp;omega),aA_ _ _ _ I];exact HB.out
   have ai:B.cell? ⟨w.heap.size,0,none⟩=some (.slice x j c):=aA a rfl;have aj:=aE a (i:=0);have ag:=aD a;have HFIN:=aB (HK.out _ G d B rfl p b E a);clear p b E a ab q0 d1 d2 d3 d4;go_wp2_with fail;go_roundg m
   case measure=>omega
   case rel=>exact⟨j+1,by omega,by go_num,HFIN.out⟩
  ·have af:j=n:=by omega
   subst af;have L:=aB (H.out _ r);clear r H H1;go_wp2_with fail;go_loopg [6,7,27] j (fun gk _ _ i wr=>∃k:Nat,k+gk=j/\i=.int .i64 k/\K k wr)
   case atStart=>exact⟨0,by omega,rfl,L.out⟩
   case round=>
    obtain⟨k,ah,rfl,r⟩:=hrel;clear L;by_cases F:k<j
    ·obtain⟨m,rfl⟩:∃m,gk=m+1:=⟨gk-1,by omega⟩
     obtain⟨I,ac,l,t,y,z,q,s,A,h,g,c,C,d1,d2,d3,d4,M,Z,d7,d8⟩:=H2.out _ _ r F;have HX:=aB (d8 _ (aQ.drew _));have e1:(0:Int)<=(k:Int):=by omega
     have e2:(k:Int)<(j:Int):=by omega
     clear r d8 H2 H3;go_wp2_with fail;go_region_law (go_simp;go_at_call 173;refine HX.out.mono ?_;rintro e w1 ⟨x,U,X,rfl,a1,⟨N,ak,b1,b2,b3⟩,a3,a4,a5,⟨u,a6⟩,a7,a8⟩;have HF:=aB a8;clear a8)
     all_goals
      go_wp2_with fail;go_roundg m
      case measure=>omega
      case rel=>exact⟨k+1,by omega,by go_num,HF.out⟩
    ·have ad:k=j:=by omega
     subst ad;have HX:=aB (H3.out _ r);clear r H2 H3;go_wp2_with fail;refine HX.out.mono ?_;rintro e w1 ⟨v,rfl,h1⟩;have HF:=aB h1;clear h1;go_wp2_with fail;go_ret;exact⟨_,rfl,HF.out⟩
section
variable {fp:Nat->Value} {fb:Nat->Nat} {fs:List aC} {cb lo d:Nat} {F:Nat->Prop}
def CQ(fp:Nat->Value)(fb:Nat->Nat)(nms:List (List UInt8))(cb:Nat)(F:Nat->Prop)(w:World):Prop:=
 (∃fv cv sp,w.heap[cb]?=some (.cells #[fv,cv,sp] 276 (0,0))/\JG fp fb nms F w fv)/\∀k,F k->k<w.heap.size/\k≠cb
def IT(fs:List aC)(d:Nat){f b:aC}{ps:List aC}(a:f.kids=ps++[b]):(eX fs d f).code=bG (aU fs d) (ps.map (·.text)).reverse b.kids 0++[.push (bC 0),.give]:=by simp[eX,a]
def P6(ai:fs.length<=1000000)(aj:∀k,k<fs.length->fp k=.pointer (some ⟨fb k,0,none⟩)){w:World}(h:CQ fp fb (fs.map (·.text)) cb F w)(f:aC)(v:Value)(hv:AC (Btw lo cb) w v f)(am:iC fs d f)(Q:∀k∈f.kids,mJ k)(S:f.kids.length<=90000):
 Calls prog 173 #[.pointer (some ⟨cb,0,none⟩),v] w fun e r=>∃cv,e=.returned cv/\∃G q,(∀k,F k->G k)/\CP fp fb (fs.map (·.text)) cb G r ((eX fs d f).code.map some) q/\r.cell? ⟨cb,1,none⟩=some cv/\Below cb w r/\∀k,F k->r.heap[k]?=w.heap[k]?:=by
 obtain⟨⟨fv,aq,ap,n,P⟩,z⟩:=h;obtain⟨pv,bv,ps,b,rfl,m,ab,ar,V⟩:=hv;obtain⟨px,pc,rfl⟩:=ab.slice;obtain⟨bx,bc,rfl⟩:=V.sliceC;obtain⟨⟨g,u,Z,ah,_⟩,H⟩:=am
 obtain⟨rfl,af⟩:g=ps/\u=b:=by
  rw[m] at Z;have:=bh_ Z rfl;simp at this;exact⟨this.1.symm,this.2.symm⟩
 subst af;rw[IT fs d m] at H ⊢
 simp only[aw_,aB_,aI_] at H;rw[m] at S;simp only[aw_,aB_,aI_] at S;have ac:=aD n;obtain⟨s,t⟩:∃s,s=(w.setCell ⟨cb,1,none⟩ (.slice none 0 0)).setCell ⟨cb,2,none⟩ (.pointer none):=⟨_,rfl⟩;have L:Below cb w s:=by rw[t];exact((ay_ cb w).setCell (au_ _) _).setCell (au_ _) _
 have Y:s.heap.size=w.heap.size:=by rw[t];simp
 have X:∀k,k≠cb->s.heap[k]?=w.heap[k]?:=fun k m=>by rw[t,ax_ _ _ _ _ m,ax_ _ _ _ _ m]
 have O:∀k,F k->s.heap[k]?=w.heap[k]?:=fun k m=>X k (z k m).2
 have y:s.heap[cb]?=some (.cells #[fv,.slice none 0 0,.pointer none] 276 (0,0)):=by
  rw[t,aS (aS n)];rfl
 have E:CP fp fb (fs.map (·.text)) cb F s [] []:=by
  refine⟨⟨fv,_,_,y,⟨[],World.ownsRow_nil _ _ _ _,rfl,fun i o ho=>by simp at ho⟩,rfl,P.keep O (fun _ h=>h) (by omega)⟩,fun k m=>⟨by rw[Y];exact(z k m).1,(z k m).2,?_⟩⟩
  rw[iX y];simp[Value.ownBlock]
 obtain⟨aa,T⟩:=E.new (.cells #[.int .i64 f.line,.string (bs f.text),.slice px g.length pc,.slice bx u.kids.length bc] 215);rw[Y] at aa
 refine(E8 w cb f.line (bs f.text) px bx g.length pc u.kids.length bc (fun cv r=>∃G q,(∀k,F k->G k)/\CP fp fb (fs.map (·.text)) cb G r ((bG (aU fs d) (g.map fun a=>a.text).reverse u.kids 0++[aH.push (bC 0),aH.give]).map some) q/\r.cell? ⟨cb,1,none⟩=some cv/\Below cb w r/\∀k,F k->r.heap[k]?=w.heap[k]?)
  (fun j W=>∃G,(∀k,F k->G k)/\CP fp fb (fs.map (·.text)) cb G W [] ((g.take j).map fun a=>a.text).reverse/\Loc cb s w.heap.size (.cells #[.int .i64 f.line,.string (bs f.text),.slice px g.length pc,.slice bx u.kids.length bc] 215) W)
  (fun W=>∃G q,(∀k,F k->G k)/\fX fp fb (fs.map (·.text)) cb G s ((bG (aU fs d) (g.map fun a=>a.text).reverse u.kids 0).map some) q W)
  (fun W=>∃G q,(∀k,F k->G k)/\fX fp fb (fs.map (·.text)) cb G s ((bG (aU fs d) (g.map fun a=>a.text).reverse u.kids 0).map some++[some (aH.push (bC 0))]) q W)
  (fun W=>∃G q,(∀k,F k->G k)/\fX fp fb (fs.map (·.text)) cb G s ((bG (aU fs d) (g.map fun a=>a.text).reverse u.kids 0).map some++[some (aH.push (bC 0))]++[some aH.give]) q W)
  ac (by omega) ⟨_,aA n rfl⟩ ⟨_,aA n rfl⟩ (aE n) (aE n) ?_ (fun j W C hj=>?_) (fun W C=>?_) (fun W C=>?_) (fun W C=>?_) (fun W C=>?_))
 ·show ∃G,_
  rw[<-t];exact⟨F,fun _ h=>h,T,aa⟩
 ·obtain⟨G,D,B,K⟩:=C;rcases ab.get with ⟨_,U⟩|⟨pg,an,ag,J,ao,au,M⟩
  ·rw[U] at hj;simp at hj
  cases ag;obtain⟨al,ak⟩:=M j hj;have A:Below cb w W:=L.trans K.fb.bel;refine⟨pg,_,_,rfl,az_ (Nat.lt_trans J.2 ac) A.size,(A.cell (p:=⟨pg,j*2,none⟩) J.2).trans al,(A.cell (p:=⟨pg,j*2+1,none⟩) J.2).trans ak,?_⟩;obtain⟨ad,N⟩:=B.new (.cells #[.int .i64 g[j].line,.string (bs g[j].text)] 211);refine(WM g[j].text N (by simp;omega)).mono ?_
  rintro e r ⟨I,q1,q2⟩;refine⟨I,fun k=>G k\/k=(W.alloc (.cells #[.int .i64 g[j].line,.string (bs g[j].text)] 211)).heap.size,fun k m=>av_ (D k m),?_,K.step (ad.fb.trans q2)⟩
  have e9:((g.take (j+1)).map (·.text)).reverse=g[j].text::((g.take j).map (·.text)).reverse:=by
   rw[aT_ hj,a7_,List.reverse_append];rfl
  rw[e9];exact q1
 ·obtain⟨G,D,B,K⟩:=C;rw[a0_ (au_ _)] at B;have A:Below cb w W:=L.trans K.fb.bel;refine⟨aA K.blk rfl,aD K.blk,?_⟩;refine(pQ (XD ai aj d) _ u.kids [] W B (V.below A) ah (fun a ha=>(Q u (by rw[m];simp)).kid ha) (Q u (by rw[m];simp)).len (by simp;omega) (by simp;omega)).mono ?_
  rintro e r ⟨I,G2,ae,l⟩;exact⟨I,G2,_,fun k m=>ae k (D k m),by simpa using l.then K.fb⟩
 ·obtain⟨G,q,D,l⟩:=C;refine(emits (i:=.push (bC 0)) l ⟨_,rfl,PV.num _ _ _ (by omega) (by omega),by rw[kA];omega⟩ (by simp;omega)).mono ?_
  rintro e r ⟨I,h2⟩;exact⟨I,G,q,D,h2⟩
 ·obtain⟨G,q,D,l⟩:=C;refine(emits (i:=.give) l rfl (by simp;omega)).mono ?_
  rintro e r ⟨I,h2⟩;exact⟨I,G,q,D,h2⟩
 ·obtain⟨G,q,D,l⟩:=C;obtain⟨aw,av,ax,g1,⟨xs,g2,g3⟩,g4,g5⟩:=l.1.blk;obtain⟨x,c,rfl⟩:=cU g2;refine⟨l.1.lt,x,_,c,aA g1 rfl,G,q,D,?_,aA g1 rfl,L.trans l.2.bel,fun k m=>?_⟩
  ·have:=l.1;simpa using this
  ·rw[E.fixed l.2 k m,O k m]
end
def R3(w:World)(b:Nat):Prop:=∀c,w.heap[b]?≠some (.cells c 250 (0,0))
def eE.notFn{F:Nat->Prop}{w:World}:∀{l:List (List UInt8)} {v:Value},eE F w v l->eE (fun b=>F b/\R3 w b) w v l
 |[],_,h=>h
 |_::_,_,⟨b,o,d,f,a,g⟩=>⟨b,o,d,⟨f,fun c e=>by rw[a] at e;cases e⟩,a,eE.notFn g⟩
def VR.notFn{F:Nat->Prop}{w:World}:∀{d:Nat} {v:Value} {a:aJ},VR d F w v a->VR d (fun b=>F b/\R3 w b) w v a
 |0,_,_,h=>h.elim
 |d+1,v,a,h=>by
  rcases h with h|h|h|⟨p,l,x,q,j⟩
  ·exact av_ h
  ·exact as_ (av_ h)
  ·exact as_ (as_ (av_ h))
  ·refine as_ (as_ (as_ ⟨p,l,x,q,?_⟩));rcases j with j|⟨g,k,f,z,r,m,t,o⟩
   ·exact av_ j
   ·refine as_ ⟨g,k,f,z,⟨r,fun c e=>by rw[m] at e;cases e⟩,m,t,fun i s=>?_⟩
    obtain⟨u,n,y⟩:=o i s;exact⟨u,n,VR.notFn y⟩
def lC.notFn{e:Nat->Value}{F:Nat->Prop}{w:World}{v:Value}{i:aH}(h:lC e F w v i):lC e (fun b=>F b/\R3 w b) w v i:=by
 cases i<;>first
  |exact h
  |(obtain⟨g,a,c⟩:=h;exact⟨g,a,c.notFn⟩)
  |(obtain⟨u,a,⟨d,c⟩,f⟩:=h;exact⟨u,a,⟨d,c.notFn⟩,f⟩)
def lC.setFn{d:Nat->Value}{F G:Nat->Prop}{w:World}{v u:Value}{i:aH}{b o:Nat}{c:Array Value}(h:lC d F w v i)(f:w.heap[b]?=some (.cells c 250 (0,0)))(g:∀b,F b->G b):lC d G (w.setCell ⟨b,o,none⟩ u) v i:=
 h.notFn.keep (fun k a=>ax_ _ _ _ _ fun e=>a.2 c (by rw[e];exact f)) fun k a=>g k a.1
section
variable {fp:Nat->Value} {fb:Nat->Nat} {nms:List (List UInt8)} {cb:Nat} {F:Nat->Prop} {w:World}
def LZ(a:List UInt8)(h:CQ fp fb nms cb F w)(v:a∈nms)(K:nms.length<=1000000):
 Calls prog 174 #[.pointer (some ⟨cb,0,none⟩),.string (bs a)] w fun e z=>e=.returned (fp (nms.findIdx fun x=>x==a))/\z=w:=by
 obtain⟨⟨N,Q,O,r,A⟩,_⟩:=h;rcases A with ⟨rfl,_⟩|⟨g,s,rfl,B,t,H,b⟩
 ·cases v
 have M:=aD r;have P:w.cell? ⟨cb,0,none⟩=some (.slice (some ⟨g,0,none⟩) nms.length s):=aA r rfl;have u:=aB b;clear r b;go_enter Tryz.func174,Tryz.ntmps174;go_wp2_with fail;go_loopg [6,12] nms.length (fun gk _ i wr=>∃j:Nat,j+gk=nms.length/\i=.int .i64 j/\j<=nms.findIdx (fun x=>x==a)/\wr=w)
 case atStart=>exact⟨0,by omega,rfl,a9_ _,rfl⟩
 case round=>
  obtain⟨j,J,rfl,d,rfl⟩:=hrel;have o:nms.findIdx (fun x=>x==a)<nms.length:=List.findIdx_lt_length_of_exists ⟨a,v,by simp⟩
  have q:j<nms.length:=by omega
  obtain⟨m,rfl⟩:∃m,gk=m+1:=⟨gk-1,by omega⟩
  obtain⟨I,k,L,x,n⟩:=u.out j q;rw[k] at I;have C:wr.cell? ⟨fb j,0,none⟩=some (.string (bs nms[j])):=aA n rfl;have E:=aD n;have S:(0:Int)<=(j:Int):=by omega
  have T:(j:Int)<(nms.length:Int):=by omega
  by_cases l:nms[j]=a
  ·have p:nms.findIdx (fun x=>x==a)=j:=by
    refine Nat.le_antisymm (Nat.not_lt.1 fun f=>?_) d
    have:=List.not_of_lt_findIdx f;simp[l] at this
   have D:=aB k;rw[l] at C;clear n k u;go_wp2_with fail;go_ret;exact⟨by rw[p,D.out];rfl,rfl⟩
  ·have G:((bs nms[j]).toList==(bs a).toList)=false:=by rw[cA,cA];simpa using l
   have c:j+1<=nms.findIdx (fun x=>x==a):=by
    rcases bm_ d with e|e
    ·have:=bN_ (w:=o);simp only[<-e] at this;simp at this;exact absurd this l
    ·exact e
   generalize nms[j]=y at*;clear n k;go_wp2_with fail;go_roundg m
   case measure=>omega
   case rel=>exact⟨j+1,by omega,by go_num,c,rfl⟩
end
def nV(bl:List Nat)(k:Nat):Nat:=bl[k]?.getD 0
def DB(bl:List Nat)(k:Nat):Value:=.pointer (some ⟨nV bl k,0,none⟩)
def oI{a:List Nat}{k:Nat}(h:k<a.length):nV a k=a[k]:=by simp[nV,h]
def CI1(w:World)(fs:List aC)(j:Nat)(W:World):Prop:=
 ∃(x:Option Addr) (c:Nat) (bl:List Nat),j<=fs.length/\W.heap[w.heap.size]?=some (.cells #[.slice x j c,.slice none 0 0,.pointer none] 276 (0,0))/\bl.length=j/\W.ownsRow (w.heap.size+1) 188 1 (.slice x j c) j (bl.map fun b=>.pointer (some ⟨b,0,none⟩))/\bl.Nodup/\
  (∀i (h:i<fs.length),∀b,bl[i]?=some b->W.heap[b]?=some (.cells #[.string (bs fs[i].text),.slice none 0 0] 250 (0,0))/\w.heap.size<b/\b<W.heap.size/\(Value.slice x j c).ownBlock≠some b)/\Below w.heap.size w W
def CI2(w:World)(fs:List aC)(d j:Nat)(W:World):Prop:=
 ∃(bl:List Nat) (F:Nat->Prop),bl.length=fs.length/\(bl.Nodup/\∀b∈bl,w.heap.size<b)/\j<=fs.length/\CQ (DB bl) (nV bl) (fs.map (·.text)) w.heap.size F W/\Below w.heap.size w W/\∀i (h:i<fs.length),i<j->F6 (DB bl) F W (DB bl i) (eX fs d fs[i])
def CI1.zero(w:World)(fs:List aC):CI1 w fs 0 (w.alloc (.cells #[.slice none 0 0,.slice none 0 0,.pointer none] 276)):=
 ⟨none,0,[],a9_ _,aM _ _ rfl _,rfl,World.ownsRow_nil _ _ _ _,List.nodup_nil,fun i h b a=>by simp at a,(ay_ _ _).alloc (au_ _) _⟩
def CI1.next{w W z y:World}{fs:List aC}{j n g:Nat}{x:Option Addr}{c:Nat}{q:List Nat}{Q O:Obj}(J:j<fs.length)
 (r:q.length=j) (F:q.Nodup) (p:∀i (h:i<fs.length),∀b,q[i]?=some b->W.heap[b]?=some (.cells #[.string (bs fs[i].text),.slice none 0 0] 250 (0,0))/\w.heap.size<b/\b<W.heap.size/\(Value.slice x j c).ownBlock≠some b) (u:Below w.heap.size w W) (P:w.heap.size<W.heap.size)
 (o:W.ownsRow (w.heap.size+1) 188 1 (.slice x j c) j (q.map fun b=>.pointer (some ⟨b,0,none⟩)))
 (E:z=((W.alloc Q).alloc (.cells #[.string (bs fs[j].text),.slice none 0 0] 250)).alloc O)
 (G:y.ownsRow (w.heap.size+1) 188 1 (.slice (some ⟨n,0,none⟩) (j+1) g) (j+1) ((q.map fun b=>.pointer (some ⟨b,0,none⟩))++[.pointer (some ⟨W.heap.size+1,0,none⟩)]))
 (d:z.grownBy y (Value.slice x j c).ownBlock) (t:(Value.slice x j c).ownBlock=some n\/n=W.heap.size+3)
 (B:y.heap[w.heap.size]?=some (.cells #[.slice x j c,.slice none 0 0,.pointer none] 276 (0,0))):
 CI1 w fs (j+1) (y.setCell ⟨w.heap.size,0,none⟩ (.slice (some ⟨n,0,none⟩) (j+1) g)):=by
 have T:z.heap.size=W.heap.size+3:=by rw[E];simp
 have N:=d.size;have v:n≠w.heap.size:=by have:=(G.lt n rfl).1;omega
 have s:Below W.heap.size W z:=by rw[E];exact(((ay_ _ _).alloc (au_ _) _).alloc (by simp) _).alloc (by simp;omega) _
 refine⟨some ⟨n,0,none⟩,g,q++[W.heap.size+1],J,?_,by simp[r],?_,?_,fun i D b l=>?_,?_⟩
 ·rw[aS B];rfl
 ·rw[a7_];exact aY G fun k H=>ax_ _ _ _ _ (by cases H;exact v)
 ·refine be_.2 ⟨F,by simp,fun a M b l=>?_⟩
  simp at l;obtain⟨i,D,rfl⟩:=List.getElem_of_mem M;have:=(p i (by omega) _ (aH_ D)).2.2.1
  omega
 ·rcases a6_ i q.length with m|m
  ·rw[a3_ m] at l;obtain⟨S,L,K,I⟩:=p i D b l;refine⟨?_,L,by simp;omega,fun e=>?_⟩
   ·rw[ax_ _ _ _ _ (show b≠w.heap.size by omega),d.block b (by omega) (fun e=>I e.symm),s.block b K];exact S
   ·have A:n=b:=by simpa [Value.ownBlock] using e
    rcases t with h|h
    ·exact I (by rw[<-A];exact h)
    ·omega
  ·rw[aV_ m] at l
   have C:i=j:=by
    rcases bm_ m with h|h
    ·omega
    ·rw[a4_ (by simp;omega)] at l;cases l
   subst C;rw[r,Nat.sub_self] at l;simp at l;subst l;have f:(Value.slice x i c).ownBlock≠some (W.heap.size+1):=fun e=>by have:=(o.lt _ e).2;omega
   refine⟨?_,by omega,by simp;omega,fun e=>?_⟩
   ·rw[ax_ _ _ _ _ (show W.heap.size+1≠w.heap.size by omega),d.block _ (by omega) (fun e=>f e.symm),E,aA_ _ _ _ (by simp)]
    exact aM _ _ (by simp) _
   ·have A:n=W.heap.size+1:=by simpa [Value.ownBlock] using e
    rcases t with h|h
    ·exact f (by rw[<-A];exact h)
    ·omega
 ·refine((u.trans (s.mono (by omega))).trans ?_).setCell (au_ _) _
  exact⟨d.os,d.tape,d.output,by omega,fun k H=>d.block k (by omega) (fun e=>by have:=(o.lt k e.symm).1;omega)⟩
def WS(fs:List aC)(k:Nat)(h:k<(fs.map (·.text)).length):(fs.map (·.text))[k]=(fs[k]'(by simpa using h)).text:=by simp
def nQ(g j:Nat):(⟨g,0,none⟩:Addr).add j=⟨g,j,none⟩:=by unfold Addr.add;split<;>simp_all
def CI2.zero{w W:World}{fs:List aC}{d:Nat}(o:fs≠[])(h:CI1 w fs fs.length W):CI2 w fs d 0 W:=by
 obtain⟨x,c,f,_,F,A,u,G,n,z⟩:=h;have r:0<fs.length:=bl_.2 o;have e:=u;rcases u.2 with ⟨t,H⟩|⟨g,q,C,t,H,J,D,I⟩
 ·omega
 obtain⟨rfl,rfl⟩:x=some ⟨g,0,none⟩/\c=q:=by simpa using t
 have l:=e.lt g rfl;refine⟨f,fun k=>k=g\/k∈f,A,⟨G,fun b y=>?_⟩,a9_ _,⟨⟨_,_,_,F,as_ ⟨g,c,by simp,av_ rfl,by simp;exact D,l.2,fun k j=>?_⟩⟩,fun k j=>?_⟩,z,fun i _ m=>by omega⟩
 ·obtain⟨i,m,rfl⟩:=List.getElem_of_mem y;exact(n i (by omega) f[i] (aH_ m)).2.1
 ·have p:k<fs.length:=by simpa using j
  have a:k<f.length:=by omega
  obtain⟨v,B,s,E⟩:=n k p f[k] (aH_ a);refine⟨?_,rfl,as_ (by rw[oI a];exact aR_ a),_,by rw[oI a,v,WS]⟩
  have:=e.cells (g:=g) rfl k (DB f k) (by simp[DB,oI a,a])
  rw[nQ] at this;exact this
 ·rcases j with rfl|j
  ·exact⟨l.2,by omega⟩
  ·obtain⟨i,m,rfl⟩:=List.getElem_of_mem j;obtain⟨v,B,s,E⟩:=n i (by omega) f[i] (aH_ m)
   exact⟨s,by omega⟩
def CI2.next{w W w1:World}{fs:List aC}{d j:Nat}{a:List Nat}{F G:Nat->Prop}{sn:List (List UInt8)}{cv:Value}(hj:j<fs.length)(P:a.length=fs.length)(s:a.Nodup/\∀b∈a,w.heap.size<b)(I:Below w.heap.size w W)(A:∀i (h:i<fs.length),i<j->F6 (DB a) F W (DB a i) (eX fs d fs[i]))
 (r:∀k,F k->G k) (t:CP (DB a) (nV a) (fs.map (·.text)) w.heap.size G w1 ((eX fs d fs[j]).code.map some) sn) (X:w1.cell? ⟨w.heap.size,1,none⟩=some cv) (ab:Below w.heap.size W w1) (V:∀k,F k->w1.heap[k]?=W.heap[k]?) (ad:0<(eX fs d fs[j]).code.length):
 CI2 w fs d (j+1) (w1.setCell ⟨nV a j,1,none⟩ cv):=by
 have p:j<a.length:=by omega
 obtain⟨fv,aa,sp,h1,⟨xs,h2,h3⟩,h4,h5⟩:=t.blk
 obtain rfl:aa=cv:=by
  have:=aA h1 (i:=1) rfl;rw[X] at this;exact(Option.some.inj this).symm
 have n:j<(fs.map (·.text)).length:=by simpa using hj
 rcases h5 with ⟨e,_⟩|⟨g,U,rfl,k1,k2,k3,M⟩
 ·rw[e] at n;simp at n
 obtain⟨m1,m2,m3,x,y⟩:=M j n;have S:=t.fix _ m3;rcases h2.2 with ⟨_,r2⟩|⟨v,c,Q,rfl,r2,T,r4,r5,r6,r7⟩
 ·rw[bR_] at r2;omega
 have ac:v≠nV a j:=fun e=>by rw[e,y] at T;cases T
 have D:∀k (h:k<(fs.map (·.text)).length),g≠nV a k:=fun k m e=>by
  obtain⟨z1,z2,z3,z,Y⟩:=M k m;obtain⟨y1,_⟩:=M 0 (by omega)
  have:=aA Y (i:=0) rfl;rw[<-e,y1] at this;cases this
 have f:∀k,k≠nV a j->(w1.setCell ⟨nV a j,1,none⟩ (.slice (some ⟨v,0,none⟩) ((eX fs d fs[j]).code.map some).length c)).heap[k]?=w1.heap[k]?:=fun k m=>ax_ _ _ _ _ m
 have K:(w1.setCell ⟨nV a j,1,none⟩ (.slice (some ⟨v,0,none⟩) ((eX fs d fs[j]).code.map some).length c)).heap[nV a j]?=some (.cells #[.string (bs (fs.map (·.text))[j]),.slice (some ⟨v,0,none⟩) ((eX fs d fs[j]).code.map some).length c] 250 (0,0)):=by
  rw[aS y];rfl
 have l:∀i (L:i<a.length),i≠j->nV a i≠nV a j:=fun i L C e=>by
  rw[oI L,oI p] at e;exact C ((List.getElem_inj s.1).1 e)
 refine⟨a,fun k=>G k\/k=v,P,s,hj,⟨⟨_,_,_,by rw[f _ (fun e=>S.2.1 e.symm)];exact h1,as_ ⟨g,U,rfl,av_ k1,k2,by simpa using k3,fun k m=>?_⟩⟩,fun k m=>?_⟩,?_,fun i L C=>?_⟩
 ·obtain⟨z1,z2,z3,z,Y⟩:=M k m;refine⟨?_,z2,av_ z3,?_⟩
  ·rw[World.cell?_of_block (f g (D j n))];exact z1
  ·by_cases E:k=j
   ·subst E;exact⟨_,K⟩
   ·exact⟨z,by rw[f _ (l k (by simp at m;omega) E)];exact Y⟩
 ·rcases m with m|rfl
  ·have:=t.fix k m;exact⟨by simpa using this.1,this.2.1⟩
  ·have:=h2.lt k rfl;exact⟨by simpa using this.2,by omega⟩
 ·exact(I.trans ab).setCell (bW_ (by show w.heap.size<nV a j;rw[oI p];exact s.2 _ (aR_ p))) _
 ·by_cases o:i=j
  ·subst o;refine⟨nV a i,v,c,Q,rfl,av_ m3,?_,as_ rfl,by rw[f _ ac];exact T,fun q N=>?_⟩
   ·rw[K,WS];simp only[bR_];rfl
   ·obtain⟨u,u1,u2⟩:=h3.2 q (some (eX fs d fs[i]).code[q]) (by simp[N])
    refine⟨u,?_,lC.setFn u2 y fun _ h=>av_ h⟩
    rw[<-r7] at u1;have Z:q<((eX fs d fs[i]).code.map some).length*1:=by simpa using N
    rw[List.getElem?_take_of_lt Z] at u1;simpa using u1
  ·obtain⟨O,B,J,H,a1,a2,a3,a4,a5,a6⟩:=A i L (by omega)
   obtain rfl:O=nV a i:=by simpa [DB] using a1.symm
   have b3:w1.heap[nV a i]?=_:=(V _ a2).trans a3;have b5:w1.heap[B]?=_:=(V _ a4).trans a5;refine⟨nV a i,B,J,H,rfl,av_ (r _ a2),by rw[f _ (l i (by omega) o)];exact b3,av_ (r _ a4),by rw[f _ (fun e=>by rw[e,y] at b5;cases b5)];exact b5,fun q N=>?_⟩
   obtain⟨u,u1,u2⟩:=a6 q N;exact⟨u,u1,lC.setFn (u2.keep V r) y fun _ h=>av_ h⟩
def QZ{lo d:Nat}{fs:List aC}(v:Value)(w:World)(h:FSl (Btw lo w.heap.size) w v fs)(ao:fs.length<=90000)(ah:∀f∈fs,iC fs d f)(ae:∀f∈fs,∀k∈f.kids,mJ k)(r:∀f∈fs,f.kids.length<=90000)(hm:[109,97,105,110]∈fs.map (·.text)):
 Calls prog 123 #[v] w fun e s=>∃H F,e=.returned (H (cS fs [109,97,105,110]))/\lA H F s (cP fs d)/\Below w.heap.size w s/\∀k,F k->k<s.heap.size:=by
 have M:fs≠[]:=fun e=>by rw[e] at hm;simp at hm
 rcases h.cells with ⟨_,e⟩|⟨I,ac,rfl,am,t,aj,hc⟩
 ·exact absurd e M
 refine(LW w I fs.length ac (fun v s=>∃H F,v=H (cS fs [109,97,105,110])/\lA H F s (cP fs d)/\Below w.heap.size w s/\∀k,F k->k<s.heap.size) (CI1 w fs) (CI2 w fs d) (by omega) (CI1.zero w fs) (fun j W J y=>?_) (fun W J=>CI2.zero M J) (fun j W J y=>?_) (fun W J=>?_)).mono ?_
 ·obtain⟨x,c,K,h0,L,V,Y,E,C,D⟩:=J;obtain⟨pv,Z,ps,b,e0,e1,e2,e3,m,B,Q,z⟩:=hc j y;obtain⟨px,pc,rfl⟩:=B.slice;obtain⟨bx,bc,rfl⟩:=z.sliceC;have a:∀o u,w.cell? ⟨I,o,none⟩=some u->W.cell? ⟨I,o,none⟩=some u:=fun o u hu=>by rw[D.cell (p:=⟨I,o,none⟩) t];exact hu
  exact⟨aD L,az_ t D.size,_,_,_,_,_,_,_,_,_,_,_,_,_,a _ _ e0,a _ _ e1,a _ _ e2,a _ _ e3,L,Y,fun W3 g4 ak w4 a1 a2 a3 a4 a5=>CI1.next y V E C D (aD L) Y a1 a2 a3 a4 a5⟩
 ·obtain⟨K,F,L,V,Y,E,C,D⟩:=J;obtain⟨pv,Z,ps,b,e0,e1,e2,e3,m,B,Q,z⟩:=hc j y;have af:AC (Btw lo w.heap.size) w (.agg #[.int .i64 fs[j].line,.string (bs fs[j].text),pv,Z]) fs[j]:=⟨pv,Z,ps,b,rfl,m,B,Q,z⟩;obtain⟨px,pc,rfl⟩:=B.slice;obtain⟨bx,bc,rfl⟩:=z.sliceC;have a:∀o u,w.cell? ⟨I,o,none⟩=some u->W.cell? ⟨I,o,none⟩=some u:=fun o u hu=>by rw[C.cell (p:=⟨I,o,none⟩) t];exact hu
  have aa:=E;obtain⟨⟨fv,cv,sp,q1,q2⟩,q3⟩:=E;have n:j<(fs.map (·.text)).length:=by simpa using y
  rcases q2 with ⟨e,_⟩|⟨g,c,rfl,k1,k2,k3,k4⟩
  ·rw[e] at n;simp at n
  obtain⟨m1,m2,m3,x,m4⟩:=k4 j n;rw[m2] at m1;have P:(fs.map (·.text)).length=fs.length:=by simp
  refine⟨aD q1,az_ t C.size,_,_,_,_,_,_,_,_,g,c,nV K j,a _ _ e0,a _ _ e1,a _ _ e2,a _ _ e3,by rw[<-P];exact aA q1 rfl,k3,m1,fun W' hS=>?_⟩
  have l:Below W.heap.size W W':=((ay_ _ _).alloc (au_ _) _).trans (hS.below.mono (by simp))
  have S:CQ (DB K) (nV K) (fs.map (·.text)) w.heap.size F W':=by
   obtain⟨⟨fv,cv,sp,z1,z2⟩,z3⟩:=aa;exact⟨⟨fv,cv,sp,by rw[l.block _ (aD z1)];exact z1,z2.keep (fun k q=>l.block k (z3 k q).1) (fun _ h=>h) l.size⟩,fun k q=>⟨az_ (z3 k q).1 l.size,(z3 k q).2⟩⟩
  have al:=aD q1;refine(P6 (lo:=lo) (d:=d) (by omega) (fun k _=>rfl) S fs[j] _ (af.keep (fun k q=>(C.trans (l.mono (by omega))).block k q.2) fun _ h=>h) (ah _ (aR_ y)) (ae _ (aR_ y)) (r _ (aR_ y))).mono ?_
  rintro e s ⟨ag,X,G,sn,ad,A,O,U,hF⟩;have T:0<(eX fs d fs[j]).code.length:=by rw[IT fs d m];simp
  have ai:=A;obtain⟨an,ab,ap,y1,⟨xs,y2,y3⟩,y4,y5⟩:=A.blk
  obtain rfl:ab=ag:=by
   have:=aA y1 (i:=1) rfl;rw[O] at this;exact(Option.some.inj this).symm
  obtain⟨x',c',rfl⟩:=cU y2;have N:∀k,F k->s.heap[k]?=W.heap[k]?:=fun k q=>by rw[hF k q,l.block k (q3 k q).1]
  rcases y5 with ⟨e,_⟩|⟨g2,c2,rfl,l1,l2,l3,l4⟩
  ·rw[e] at n;simp at n
  obtain⟨n1,n2,n3,x2,n4⟩:=l4 j n;rw[n2] at n1;refine⟨x',_,c',X,A.lt,⟨g2,c2,by rw[<-P];exact aA y1 rfl,l3,n1⟩,az_ k3 (aF_ l.size U.size),?_,aD n4,⟨_,aA n4 rfl⟩,aE n4,?_⟩
  ·rw[World.cell?_of_block (N g k1)];exact m1
  ·exact CI2.next y L V C D ad A O ((l.mono (by omega)).trans U) N T
 ·obtain⟨K,F,L,V,Y,E,C,D⟩:=J;refine(LZ [109,97,105,110] E hm (by simpa using (by omega:fs.length<=1000000))).mono ?_
  rintro e s ⟨X,rfl⟩;rw[DC] at X;refine⟨_,X,DB K,F,rfl,fun k f hf=>?_,C,fun k q=>(E.2 k q).1⟩
  have r:k<fs.length:=by
   rcases a6_ k fs.length with h|h
   ·exact h
   ·rw[a4_ (by simpa [cP] using h)] at hf;cases hf
  have:f=eX fs d fs[k]:=by simpa [cP,r] using hf.symm
  rw[this];exact D k r r
 ·rintro e s ⟨v,rfl,H,F,rfl,h⟩;exact⟨H,F,rfl,h⟩
def SM(w:World)(G:Option Addr)(O M:Nat)(L:Option Addr)(U c1:Nat)(P:Value->World->Prop)(A:Value->World->Prop)(T:Value->Nat->Value->World->Prop)(B:Nat->World->Prop)
 (HC:Hid (Calls prog 123 #[.slice G O M] (w.alloc (.cells #[.int .i64 0,.slice none 0 0,.slice none 0 0,.slice none 0 0,.int .i64 0] 108)) fun e g=>∃p,e=.returned (.pointer p)/\A (.pointer p) g))
 (HT:Hid (∀p W,A (.pointer p) W->Calls prog 124 #[.slice L U c1] (W.alloc (.cells #[.pointer p,.int .i64 0,.int .i64 0,.pointer none,.slice none 0 0,.slice none 0 0] 195)) fun e g=>∃x n c,e=.returned (.slice x n c)/\T (.pointer p) W.heap.size (.slice x n c) g))
 (HG:Hid (∀p y x n c W,T (.pointer p) y (.slice x n c) W->Calls prog 125 #[.pointer (some ⟨W.heap.size,0,none⟩)] (W.alloc (.cells #[.int .i64 0,.slice (some ⟨y,0,none⟩) 1 1,.slice x n c,.slice none 0 0,.int .i64 0] 108)) fun e g=>e=.returned (.tuple #[])/\B W.heap.size g))
 (HB:Hid (∀b W,B b W->∃(q:Nat) (f t o:Value) (j:Nat),W.heap[b]?=some (.cells #[.int .i64 q,f,t,o,.int .i64 j] 108 (0,0))/\(∃x l c,f=.slice x l c)/\(∃x l c,t=.slice x l c)/\(∃x l c,o=.slice x l c)/\W.heap[w.heap.size]?=some (.cells #[.int .i64 0,.slice none 0 0,.slice none 0 0,.slice none 0 0,.int .i64 0] 108 (0,0))/\b≠w.heap.size/\
   ∀C,Kept [w.heap.size] W C->C.heap.size=W.heap.size->P (.agg #[.int .i64 q,f,t,o,.int .i64 j]) C)):
 Calls prog 70 #[.slice G O M,.slice L U c1] w fun e g=>∃N,e=.returned N/\P N g:=by
 go_enter Tryz.func70,Tryz.ntmps70;go_wp2_with fail;refine HC.out.mono ?_;rintro e w1 ⟨p,rfl,V⟩;have k:=aB (HT.out _ _ V);generalize ai:w1.heap.size=y at k;clear V;go_wp2_with fail;refine k.out.mono ?_;rintro e w2 ⟨x,n,c,rfl,H⟩;have m:=aB (HG.out _ _ _ _ _ _ H);generalize hb:w2.heap.size=b at m;clear H;go_wp2_with fail;refine m.out.mono ?_;rintro e d ⟨rfl,X⟩;obtain⟨q,f,t,o,j,h,⟨I,J,Y,rfl⟩,⟨F,Z,E,rfl⟩,⟨Q,S,K,rfl⟩,a,q3,D⟩:=HB.out _ _ X;have HQ:=aB D;have ab:d.cell? ⟨b,0,none⟩=some (.int .i64 q):=aA h rfl;have ag:d.cell? ⟨b,1,none⟩=some (.slice I J Y):=aA h rfl;have ac:d.cell? ⟨b,2,none⟩=some (.slice F Z E):=aA h rfl;have al:d.cell? ⟨b,3,none⟩=some (.slice Q S K):=aA h rfl;have ak:d.cell? ⟨b,4,none⟩=some (.int .i64 j):=aA h rfl;have v:d.cell? ⟨w.heap.size,0,none⟩=some (.int .i64 0):=aA a rfl;have u:d.cell? ⟨w.heap.size,1,none⟩=some (.slice none 0 0):=aA a rfl;have z:d.cell? ⟨w.heap.size,2,none⟩=some (.slice none 0 0):=aA a rfl;have r:d.cell? ⟨w.heap.size,3,none⟩=some (.slice none 0 0):=aA a rfl;have s:d.cell? ⟨w.heap.size,4,none⟩=some (.int .i64 0):=aA a rfl;have ad:=aE (i:=0) a;have aa:=aE (i:=1) a;have af:=aE (i:=2) a;have ae:=aE (i:=3) a;have aj:=aE (i:=4) a;have ah:=aD h;have am:=aD a;clear X D h a;go_wp2_with fail;refine⟨rfl,.agg #[.int .i64 q,.slice I J Y,.slice F Z E,.slice Q S K,.int .i64 j],?_,_,rfl,HQ.out _ ?_ (by simp)⟩
 ·simp[results,Tryz.results70,go_sem,v,u,z,r,s]
 ·exact(((((Kept.refl _ _).setCell _ _ (by simp)).setCell _ _ (by simp)).setCell _ _ (by simp)).setCell _ _ (by simp)).setCell _ _ (by simp)
def XH(w:World)(v:Value)(l:List Int):Prop:=
 (l=[]/\v=.slice none 0 0)\/∃g o c,v=.slice (some ⟨g,o,none⟩) l.length c/\g<w.heap.size/\∀i (h:i<l.length),w.cell? ⟨g,o+i,none⟩=some (.int .i64 l[i])/\ -9223372036854775808<=l[i]/\l[i]<=9223372036854775807
def EK(w:World)(v:Value)(l:List Int)(h:XH w v l)(B:l.length<=17592186044416):∃x n c,v=.slice x n c/\Calls prog 124 #[.slice x n c] w fun e f=>∃x n c,e=.returned (.slice x n c)/\Below w.heap.size w f/\rH (fun k=>w.heap.size<=k/\k<f.heap.size) f (.slice x n c) l:=by
 rcases h with ⟨rfl,rfl⟩|⟨g,o,c,rfl,H,s⟩
 ·refine⟨none,0,0,rfl,(GE w).mono ?_⟩;rintro e f ⟨rfl,rfl⟩;exact⟨_,_,_,rfl,ay_ _ _,av_ ⟨rfl,none,0,rfl⟩⟩
 ·refine⟨_,_,_,rfl,(GF g o l.length c (l.map fun n=>Value.int .i64 n) w (by simp) B (fun j u d=>?_) (fun u D=>?_)).mono ?_⟩
  ·rw[bw_] at d;cases b:l[j]? with
   |none=>rw[b] at d;cases d
   |some n=>
    rw[b] at d;obtain⟨p,rfl⟩:=aZ_.1 b;rw[(s j p).1];exact d
  ·obtain⟨n,_,rfl⟩:=bz_.1 D;rfl
  ·rintro e f ⟨G,rfl,a,A⟩;obtain⟨x,z,rfl⟩:=cU a;refine⟨x,_,z,rfl,A,?_⟩;rcases a.2 with ⟨q,m⟩|⟨y,r,C,q,m,E,F⟩
   ·exact av_ ⟨br_.1 m,x,z,by rw[m]⟩
   ·refine as_ ⟨y,0,r,q,F.1,⟨m,aD E⟩,fun i t=>⟨?_,(s i t).2⟩⟩
    have:=a.cells (g:=y) (by rw[q];rfl) i (.int .i64 l[i]) (by simp[t])
    rw[nQ] at this;simpa using this
def F6.ptr{a:Nat->Value}{F:Nat->Prop}{w:World}{v:Value}{f:dY}(h:F6 a F w v f):∃p,v=.pointer p:=by
 obtain⟨c,_,_,_,b,_⟩:=h;exact⟨_,b⟩
def Kept.below{own:List Nat}{w w':World}{n:Nat}(h:Kept own w w')(c:n<=w.heap.size)(b:∀k∈own,n<=k):Below n w w':=
 ⟨h.os,h.tape,h.output,h.size,fun k d=>h.block k (by omega) fun a=>by have:=b k a;omega⟩
section
variable {fp:Nat->Value} {F:Nat->Prop} {w:World} {z:Nat} {c:Array Value} (hz:w.heap[z]?=some (.cells c 108 (0,0)))
include hz
def eE.off:∀{l:List (List UInt8)} {v:Value},eE F w v l->eE (fun b=>F b/\b≠z) w v l
 |[],_,h=>h
 |_::_,_,⟨b,o,c,d,a,f⟩=>⟨b,o,c,⟨d,fun e=>by rw[e,hz] at a;cases a⟩,a,eE.off f⟩
def VR.off:∀{d:Nat} {v:Value} {a:aJ},VR d F w v a->VR d (fun b=>F b/\b≠z) w v a
 |0,_,_,h=>h.elim
 |d+1,v,a,h=>by
  rcases h with h|h|h|⟨o,l,t,p,j⟩
  ·exact av_ h
  ·exact as_ (av_ h)
  ·exact as_ (as_ (av_ h))
  ·refine as_ (as_ (as_ ⟨o,l,t,p,?_⟩));rcases j with j|⟨g,k,f,y,q,c,s,n⟩
   ·exact av_ j
   ·refine as_ ⟨g,k,f,y,⟨q,fun e=>by rw[e,hz] at c;cases c⟩,c,s,fun i r=>?_⟩
    obtain⟨u,m,x⟩:=n i r;exact⟨u,m,VR.off x⟩
def lC.off{v:Value}{i:aH}(h:lC fp F w v i):lC fp (fun b=>F b/\b≠z) w v i:=by
 cases i<;>first
  |exact h
  |(obtain⟨f,a,c⟩:=h;exact⟨f,a,c.off hz⟩)
  |(obtain⟨u,a,⟨d,c⟩,e⟩:=h;exact⟨u,a,⟨d,c.off hz⟩,e⟩)
def lA.off{a:List dY}(h:lA fp F w a):lA fp (fun b=>F b/\b≠z) w a:=fun k f m=>by
 obtain⟨l,q,j,d,p,s,g,n,c,o⟩:=h k f m;refine⟨l,q,j,d,p,⟨s,fun e=>by rw[e,hz] at g;cases g⟩,g,⟨n,fun e=>by rw[e,hz] at c;cases c⟩,c,fun i r=>?_⟩
 obtain⟨u,u1,u2⟩:=o i r;exact⟨u,u1,u2.off hz⟩
end
def TX{lo d k:Nat}{fs:List aC}{j:List Int}{r:cF × Nat}(v tv:Value)(w:World)(h:FSl (Btw lo w.heap.size) w v fs)(bi:fs.length<=90000)(ad:∀f∈fs,iC fs d f)(ba:∀f∈fs,∀k∈f.kids,mJ k)(bd:∀f∈fs,f.kids.length<=90000)(hm:fG fs (cS fs [109,97,105,110])=some 0)
 (ht:XH w tv j) (ay:j.length<=17592186044416) (hp:kC w) (hU:jN (cP fs d)) (s:cJ (cP fs d) k (eT fs d j)=some r) (hr:r.2<=1000):
 Calls prog 70 #[v,tv] w fun e I=>∃v',e=.returned v'/\Below w.heap.size w I/\∃m G,(∀b,G b->b<I.heap.size)/\lA m G I (cP fs d)/\kR m G I v' ⟨0,r.1,bT 0 r.2⟩:=by
 have ae:cS fs [109,97,105,110]<fs.length:=by
  unfold fG at hm;rcases a6_ (cS fs [109,97,105,110]) fs.length with h|h
  ·exact h
  ·rw[a4_ h] at hm;cases hm
 have aw:[109,97,105,110]∈fs.map (·.text):=by
  have:=bN_ (p:=fun f:aC=>f.text==[109,97,105,110]) (xs:=fs) (w:=ae)
  exact bz_.2 ⟨_,aR_ ae,eq_of_beq this⟩
 obtain⟨x0,c0,rfl⟩:∃x c,v=.slice x fs.length c:=by
  rcases h with ⟨rfl,rfl⟩|⟨g,X,bo,us,rfl,_⟩
  ·exact⟨none,0,rfl⟩
  ·exact⟨_,_,rfl⟩
 obtain⟨x1,n1,c1,rfl⟩:∃x n c,tv=.slice x n c:=by
  rcases ht with ⟨_,rfl⟩|⟨g,o,c,rfl,_⟩
  ·exact⟨_,_,_,rfl⟩
  ·exact⟨_,_,_,rfl⟩
 generalize Y:(cP fs d)[cS fs [109,97,105,110]]?.getD ⟨[],[]⟩=f0
 have J:(cP fs d)[cS fs [109,97,105,110]]?=some f0:=by
  rw[aH_ (by simpa [cP] using ae)] at Y ⊢
  simpa using Y
 have ah:eT fs d j=⟨[⟨f0,0,0,[],[],[]⟩],j,[]⟩:=by rw[<-Y];rfl
 have al:=mU ad hm j
 have ai:fM (eT fs d j):=by
  rw[ah];intro f hf;simp at hf;subst hf;exact⟨hU _ (bb_ J),fun v hv=>by simp at hv,fun v hv=>by simp at hv⟩
 rw[ah] at al ai s;obtain⟨t,Q⟩:∃t,t=w.alloc (.cells #[.int .i64 0,.slice none 0 0,.slice none 0 0,.slice none 0 0,.int .i64 0] 108):=⟨_,rfl⟩;have O:Below w.heap.size w t:=by rw[Q];exact(ay_ _ _).alloc (au_ _) _
 have bn:t.heap.size=w.heap.size+1:=by rw[Q];simp
 have ao:t.heap[w.heap.size]?=some (.cells #[.int .i64 0,.slice none 0 0,.slice none 0 0,.slice none 0 0,.int .i64 0] 108 (0,0)):=by rw[Q];exact aM _ _ rfl _
 have bb:FSl (Btw lo t.heap.size) t (.slice x0 fs.length c0) fs:=h.grow (fun b y=>O.block b y.2) fun b y=>⟨y.1,by have:=y.2;omega⟩
 refine(SM w x0 fs.length c0 x1 n1 c1 (fun v' I=>Below w.heap.size w I/\∃m G,(∀b,G b->b<I.heap.size)/\lA m G I (cP fs d)/\kR m G I v' ⟨0,r.1,bT 0 r.2⟩)
  (fun p W=>∃m F,p=m (cS fs [109,97,105,110])/\lA m F W (cP fs d)/\Below t.heap.size t W/\∀k,F k->k<W.heap.size)
  (fun p z S W=>∃m F,p=m (cS fs [109,97,105,110])/\lA m F W (cP fs d)/\Below t.heap.size t W/\(∀k,F k->k<W.heap.size/\k≠z)/\t.heap.size<=z/\z<W.heap.size/\W.heap[z]?=some (.cells #[p,.int .i64 0,.int .i64 0,.pointer none,.slice none 0 0,.slice none 0 0] 195 (0,0))/\rH F W S j/\∀k,F k->k≠w.heap.size)
  (fun b W=>∃m F z X S u E,Below t.heap.size t W/\t.heap.size<=b/\cT m F t.heap.size W b z X (.int .i64 ((0:Nat):Int)) S u (.int .i64 (bT 0 r.2)) E r.1/\lA m F W (cP fs d)/\(∀k∈aF b z u E,t.heap.size<=k)/\∀k,F k->k≠w.heap.size)
  ?_ (fun p W hq=>?_) (fun p z x n c W hq=>?_) (fun b W hq=>?_))
 ·show Calls _ _ _ _ _
  rw[<-Q];refine(QZ (lo:=lo) (d:=d) _ t bb bi ad ba bd aw).mono ?_;rintro e I ⟨m,F,he,hT,y,N⟩;obtain⟨p,aj⟩:=(hT _ _ J).ptr;exact⟨p,by rw[he,aj],m,F,aj.symm,hT,y,N⟩
 ·obtain⟨m,F,aa,hT,y,N⟩:=hq;have be:W.heap[w.heap.size]?=some (.cells #[.int .i64 0,.slice none 0 0,.slice none 0 0,.slice none 0 0,.int .i64 0] 108 (0,0)):=by rw[y.block _ (by omega)];exact ao
  have bm:=hT.off be;generalize H:W.alloc (.cells #[.pointer p,.int .i64 0,.int .i64 0,.pointer none,.slice none 0 0,.slice none 0 0] 195)=A;have C:Below W.heap.size W A:=by rw[<-H];exact(ay_ _ _).alloc (au_ _) _
  have az:A.heap.size=W.heap.size+1:=by rw[<-H];simp
  have ac:A.heap[W.heap.size]?=some (.cells #[.pointer p,.int .i64 0,.int .i64 0,.pointer none,.slice none 0 0,.slice none 0 0] 195 (0,0)):=by rw[<-H];exact aM _ _ rfl _
  have ar:Below w.heap.size w A:=O.trans ((y.mono (by omega)).trans (C.mono (by have:=y.size;omega)))
  have bf:XH A (.slice x1 n1 c1) j:=by
   rcases ht with ht|⟨g,o,c,e,hg,hc⟩
   ·exact av_ ht
   ·exact as_ ⟨g,o,c,e,az_ hg ar.size,fun i hi=>⟨(ar.cell (p:=⟨g,o+i,none⟩) hg).trans (hc i hi).1,(hc i hi).2⟩⟩
  obtain⟨x,n,c,e,bh⟩:=EK A _ j bf ay;rw[e];refine bh.mono ?_;rintro e I ⟨x',n',c',he,P,ab⟩;have av:Below W.heap.size W I:=C.trans (P.mono (by omega))
  refine⟨x',n',c',he,m,fun k=>(F k/\k≠w.heap.size)\/(A.heap.size<=k/\k<I.heap.size),aa,bm.keep (fun k s=>av.block k (N k s.1)) fun _ h=>av_ h,y.trans (av.mono y.size),fun k s=>?_,y.size,by have:=P.size;omega,by rw[P.block _ (by omega)];exact ac,ab.keep (fun _ _=>rfl) fun _ h=>as_ h,fun k s=>by
   rcases s with D|D
   ·exact D.2
   ·have:=y.size;omega⟩
  have:=P.size;rcases s with D|D
  ·have:=N k D.1;omega
  ·omega
 ·obtain⟨m,F,aa,hT,y,N,bg,bl,bc,ab,bk⟩:=hq;generalize H:W.alloc (.cells #[.int .i64 0,.slice (some ⟨z,0,none⟩) 1 1,.slice x n c,.slice none 0 0,.int .i64 0] 108)=A;have C:Below W.heap.size W A:=by rw[<-H];exact(ay_ _ _).alloc (au_ _) _
  have az:A.heap.size=W.heap.size+1:=by rw[<-H];simp
  have ac:A.heap[W.heap.size]?=some (.cells #[.int .i64 0,.slice (some ⟨z,0,none⟩) 1 1,.slice x n c,.slice none 0 0,.int .i64 0] 108 (0,0)):=by rw[<-H];exact aM _ _ rfl _
  have V:lA m F A (cP fs d):=hT.keep (fun k s=>C.block k (N k s).1) fun _ h=>h
  have B:aF W.heap.size z (.slice none 0 0) [⟨.pointer p,.int .i64 0,.int .i64 0,.pointer none,.slice none 0 0,.slice none 0 0⟩]=[W.heap.size,z]:=rfl;have U:lZ F t.heap.size A (.slice none 0 0) []:=⟨⟨[],World.ownsRow_nil _ _ _ _,fT.nil _ _⟩,fun a ha=>by simp at ha⟩
  have ag:cT m F t.heap.size A W.heap.size z 1 (.int .i64 ((0:Nat):Int)) (.slice x n c) (.slice none 0 0) (.int .i64 0) [⟨.pointer p,.int .i64 0,.int .i64 0,.pointer none,.slice none 0 0,.slice none 0 0⟩] ⟨[⟨f0,0,0,[],[],[]⟩],j,[]⟩:=by
   refine⟨ac,⟨rfl,as_ ⟨z,1,_,rfl,bg,by rw[C.block _ bl];exact bc,au_ _,by unfold maxLen;omega,rfl,rfl⟩⟩,⟨⟨?_,rfl,rfl,rfl,U,U⟩,trivial⟩,ab.keep (fun k s=>C.block k (N k s).1) fun _ h=>h,World.ownsRow_nil _ _ _ _,?_,?_,fun k s=>?_⟩
   ·show F6 m F A (.pointer p) f0
    rw[aa];exact V _ _ J
   ·rw[B];simp;omega
   ·rw[B];simp;omega
   ·rw[B];have:=N k s;simp;omega
  have q:Below t.heap.size t A:=y.trans (C.mono y.size);have ap:Below w.heap.size w A:=O.trans (q.mono (by omega))
  refine(PK (iF ad) hU ag V (AB.of hp ap fun k s=>?_) q.size al ai (by simp) (by simp;omega) s (by omega) hr).mono ?_
  ·rw[B] at s;have:=y.size;simp at s;omega
  rintro e I ⟨he,Z,G,ak,am,au,M,T,d1,d2,d3⟩;rw[B] at d3 Z
  have an:∀x∈aF W.heap.size ak M T,t.heap.size<=x:=fun x hx=>by
   have:=y.size;rcases d3 x hx with D|D
   ·simp at D;omega
   ·omega
  have bj:∀k∈[W.heap.size,z],t.heap.size<=k:=fun k s=>by have:=y.size;simp at s;omega
  refine⟨he,m,G,ak,am,au,M,T,q.trans (Z.below q.size bj),y.size,d2,?_,an,fun k s=>?_⟩
  ·refine V.keep (fun k s=>Z.block k (az_ (N k s).1 C.size) fun hm=>?_) d1.sub
   have:=N k s;simp at hm;omega
  ·rcases d1.new k s with D|D
   ·exact bk k D
   ·have:=q.size;omega
 ·obtain⟨m,F,z,X,S,u,E,g1,g2,g5,gT,g6,g7⟩:=hq;have ax:=g5.blk;refine⟨_,_,_,_,_,ax,⟨_,_,_,rfl⟩,?_,tU g5.out,by rw[g1.block _ (by omega)];exact ao,by omega,fun A L aq=>?_⟩
  ·rcases g5.tape with ⟨_,x,c,e⟩|⟨g,o,c,e,_⟩<;>exact⟨_,_,_,e⟩
  ·have q:Below w.heap.size w W:=O.trans (g1.mono (by omega))
   have hS:=g5.kept (G:=fun k=>F k\/(k∈aF b z u E/\k≠b)) (fun _ h=>av_ h) (fun k l hn=>as_ ⟨l,hn⟩)
   have K:∀k,(F k\/(k∈aF b z u E/\k≠b))->k≠w.heap.size/\k<W.heap.size:=fun k l=>by
    rcases l with D|⟨D,_⟩
    ·exact⟨g7 k D,(g5.apart k D).1⟩
    ·have:=g6 k D;exact⟨by omega,g5.lt k D⟩
   have af:∀k,(F k\/(k∈aF b z u E/\k≠b))->A.heap[k]?=W.heap[k]?:=fun k l=>L.block k (K k l).2 (by simpa using (K k l).1)
   refine⟨⟨L.os.trans q.os,L.tape.trans q.tape,L.output.trans q.output,by rw[aq];exact q.size,fun k l=>?_⟩,m,fun k=>F k\/(k∈aF b z u E/\k≠b),fun k l=>by rw[aq];exact(K k l).2,gT.keep (fun k l=>af k (av_ l)) fun _ h=>av_ h,hS.keep af fun _ h=>h⟩
   rw[L.block k (az_ l q.size) (by simp;omega),q.block k l]
end Go.Proofs.YtblbkfdhjfppkaaGreatDoor
