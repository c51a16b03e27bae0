/- Contracts of the program: the compiler's blocks: the walks. -/
import Derived.Test.YtblbkfdhjfppkaaGreatDoorP19
import Derived.Test.YtblbkfdhjfppkaaGreatDoorP20
import Derived.Test.YtblbkfdhjfppkaaGreatDoorP12
import Derived.Test.YtblbkfdhjfppkaaGreatDoorP18
set_option linter.defProp false
set_option maxRecDepth 100000
set_option maxHeartbeats 4000000
namespace Go.Proofs.YtblbkfdhjfppkaaGreatDoor
open Hs
open _root_.Go.Proofs.Tryz
open Go.RowKit
def zJ(w:World)(cb g n f:Nat)(C:Nat->World->Prop)(y:n<=1000000)(l:C 0 w)
 (q:Hid (∀j W,C j W->j<n->g<W.heap.size/\∃t z,W.cell? ⟨g,j,none⟩=some (.iface t z)/\Calls prog 291 #[.pointer (some ⟨cb,0,none⟩),.iface t z] W fun e d=>e=.returned (.tuple #[])/\C (j+1) d)):
 Calls prog 237 #[.pointer (some ⟨cb,0,none⟩),.slice (some ⟨g,0,none⟩) n f] w fun e d=>e=.returned (.tuple #[])/\C n d:=by
 have o:=aB l;clear l;go_enter func237,ntmps237;go_wp2_with fail;go_loopg [5,8] n (fun gk _ i wr=>∃j:Nat,j+gk=n/\i=.int .i64 j/\C j wr)
 case atStart=>exact⟨0,by omega,rfl,o.out⟩
 case round=>
  obtain⟨j,B,rfl,b⟩:=hrel;by_cases c:j<n
  ·obtain⟨m,rfl⟩:∃m,gk=m+1:=⟨gk-1,by omega⟩
   obtain⟨u,t,z,x,a⟩:=q.out _ _ b c;have r:=aB a;have A:(0:Int)<=(j:Int):=by omega
   have v:(j:Int)<(n:Int):=by omega
   clear b a;go_wp2_with fail;refine r.out.mono ?_;rintro e s ⟨rfl,p⟩;go_wp2_with fail;go_roundg m
   case measure=>omega
   case rel=>exact⟨j+1,by omega,by go_num,p⟩
  ·have h:j=n:=by omega
   subst h;have k:=aB b;clear b;go_wp2_with fail;go_end0;exact⟨rfl,k.out⟩
def BM(w:World)(cb:Nat):Calls prog 237 #[.pointer (some ⟨cb,0,none⟩),.slice none 0 0] w fun e a=>e=.returned (.tuple #[])/\a=w:=by
 go_enter func237,ntmps237;go_wp2_with fail;go_loopg [5,8] 0 (fun _ _ i wr=>i=.int .i64 0/\wr=w)
 case atStart=>exact⟨rfl,rfl⟩
 case round=>
  obtain⟨rfl,rfl⟩:=hrel;go_wp2_with fail;go_end0;exact⟨rfl,rfl⟩
def VW(w:World)(cb:Nat)(p x:Option Addr)(n c:Nat)(P Q:World->Prop)(l:w.cell? ⟨cb,2,none⟩=some (.pointer p))
 (h:Hid (Calls prog 237 #[.pointer (some ⟨cb,0,none⟩),.slice x n c] w fun e a=>e=.returned (.tuple #[])/\Q a))
 (f:Hid (∀W,Q W->(∃u,W.cell? ⟨cb,2,none⟩=some u)/\W.frozen? ⟨cb,2,none⟩=false/\cb<W.heap.size/\P (W.setCell ⟨cb,2,none⟩ (.pointer p)))):
 Calls prog 337 #[.pointer (some ⟨cb,0,none⟩),.slice x n c] w fun e a=>e=.returned (.tuple #[])/\P a:=by
 go_enter func337,ntmps337;go_wp2_with fail;refine h.out.mono ?_;rintro e i ⟨rfl,d⟩;obtain⟨⟨u,j⟩,m,k,b⟩:=f.out _ d;have g:=aB b;clear d b;go_wp2_with fail;go_end0;exact⟨rfl,g.out⟩
def RC(w:World)(cb d f:Nat)(l:Int)(A:TypeId)(z:Value)(p k:Option Addr)(m o c1 j:Nat)(P M E F G r L:World->Prop)
 (HX:Hid (Calls prog 233 #[.pointer (some ⟨cb,0,none⟩),.iface A z] (w.alloc (.cells #[.int .i64 l,.iface A z,.slice p m c1,.slice k o j] 334)) fun e a=>e=.returned (.tuple #[])/\M a))
 (v:Hid (∀W,M W->Calls prog 238 #[.pointer (some ⟨cb,0,none⟩),.nilIface] W fun e a=>e=.returned (.int .i64 d)/\E a))
 (x:Hid (∀W,E W->W.cell? ⟨w.heap.size,2,none⟩=some (.slice p m c1)/\w.heap.size<W.heap.size))
 (HT:Hid (∀W,E W->Calls prog 337 #[.pointer (some ⟨cb,0,none⟩),.slice p m c1] W fun e a=>e=.returned (.tuple #[])/\F a))
 (s:Hid (∀W,F W->Calls prog 238 #[.pointer (some ⟨cb,0,none⟩),.nilIface] W fun e a=>e=.returned (.int .i64 f)/\G a))
 (D:Hid (∀W,G W->cb<W.heap.size/\∃g n c,W.cell? ⟨cb,1,none⟩=some (.slice (some ⟨g,0,none⟩) n c)/\d<n/\n<=1000000/\(∃u,W.cell? ⟨g,d,none⟩=some u)/\W.frozen? ⟨g,d,none⟩=false/\g<W.heap.size/\∀h,aQ (W.setCell ⟨g,d,none⟩ (.iface 461 (.agg #[.int .i64 n]))) h->r h))
 (C:Hid (∀W,r W->W.cell? ⟨w.heap.size,3,none⟩=some (.slice k o j)/\w.heap.size<W.heap.size))
 (HL:Hid (∀W,r W->Calls prog 337 #[.pointer (some ⟨cb,0,none⟩),.slice k o j] W fun e a=>e=.returned (.tuple #[])/\L a))
 (q:Hid (∀W,L W->cb<W.heap.size/\∃g n c,W.cell? ⟨cb,1,none⟩=some (.slice (some ⟨g,0,none⟩) n c)/\f<n/\n<=1000000/\(∃u,W.cell? ⟨g,f,none⟩=some u)/\W.frozen? ⟨g,f,none⟩=false/\g<W.heap.size/\∀h,aQ (W.setCell ⟨g,f,none⟩ (.iface 462 (.agg #[.int .i64 n]))) h->P h)):
 Calls prog 324 #[.pointer (some ⟨cb,0,none⟩),.agg #[.int .i64 l,.iface A z,.slice p m c1,.slice k o j]] w fun e a=>e=.returned (.tuple #[])/\P a:=by
 go_enter func324,ntmps324;go_wp2_with fail;refine HX.out.mono ?_;rintro e w1 ⟨rfl,K⟩;have T:=aB (v.out _ K);clear K;go_wp2_with fail;refine T.out.mono ?_;rintro e w2 ⟨rfl,y⟩;obtain⟨b1,b2⟩:=x.out _ y;have H2:=aB (HT.out _ y);clear y;go_wp2_with fail;refine H2.out.mono ?_;rintro e w3 ⟨rfl,H⟩;have H3:=aB (s.out _ H);clear H;go_wp2_with fail;refine H3.out.mono ?_;rintro e w4 ⟨rfl,I⟩;obtain⟨f3,g,n,c,f4,f5,f6,⟨u,f7⟩,f8,f9,i⟩:=D.out _ I;have HP:=aB i;have i1:(0:Int)<=(d:Int):=by omega
 have i2:(d:Int)<(n:Int):=by omega
 clear I i;go_wp2_with fail;go_region
 all_goals
  have t:=HP.out _ (aQ.drew _);obtain⟨d1,d2⟩:=C.out _ t;have Q:=aB (HL.out _ t);clear t;generalize J:(w4.setCell ⟨g,d,none⟩ (.iface 461 (.agg #[.int .i64 n]))).drew=w5 at*;have HW:=aB J;clear J;go_wp2_with fail;refine Q.out.mono ?_;rintro e w6 ⟨rfl,N⟩;obtain⟨ac,g',U,c',X,ab,S,⟨u',aa⟩,Y,O,b⟩:=q.out _ N;have B:=aB b;have Z:(0:Int)<=(f:Int):=by omega
  have V:(f:Int)<(U:Int):=by omega
  clear N b;go_wp2_with fail;go_region
  all_goals
   go_wp2_with fail;go_end0;exact⟨rfl,B.out _ (aQ.drew _)⟩
def A5(w:World)(cb k a:Nat)(l:Int)(p:TypeId)(j:Value)(h:Option Addr)(f c1:Nat)(P A s t v:World->Prop)
 (H:Hid (Calls prog 233 #[.pointer (some ⟨cb,0,none⟩),.iface p j] (w.alloc (.cells #[.int .i64 l,.iface p j,.slice h f c1] 336)) fun e b=>e=.returned (.tuple #[])/\A b))
 (o:Hid (∀W,A W->Calls prog 238 #[.pointer (some ⟨cb,0,none⟩),.nilIface] W fun e b=>e=.returned (.int .i64 k)/\s b))
 (r:Hid (∀W,s W->W.cell? ⟨w.heap.size,2,none⟩=some (.slice h f c1)/\w.heap.size<W.heap.size))
 (I:Hid (∀W,s W->Calls prog 337 #[.pointer (some ⟨cb,0,none⟩),.slice h f c1] W fun e b=>e=.returned (.tuple #[])/\t b))
 (C:Hid (∀W,t W->Calls prog 238 #[.pointer (some ⟨cb,0,none⟩),.iface 462 (.agg #[.int .i64 a])] W fun e b=>(∃k:Nat,e=.returned (.int .i64 k))/\v b))
 (q:Hid (∀W,v W->cb<W.heap.size/\∃g n c,W.cell? ⟨cb,1,none⟩=some (.slice (some ⟨g,0,none⟩) n c)/\k<n/\n<=1000000/\(∃u,W.cell? ⟨g,k,none⟩=some u)/\W.frozen? ⟨g,k,none⟩=false/\g<W.heap.size/\∀B,aQ (W.setCell ⟨g,k,none⟩ (.iface 461 (.agg #[.int .i64 n]))) B->P B)):
 Calls prog 325 #[.pointer (some ⟨cb,0,none⟩),.agg #[.int .i64 l,.iface p j,.slice h f c1],.int .i64 a] w fun e b=>e=.returned (.tuple #[])/\P b:=by
 go_enter func325,ntmps325;go_wp2_with fail;refine H.out.mono ?_;rintro e K ⟨rfl,y⟩;have F:=aB (o.out _ y);clear y;go_wp2_with fail;refine F.out.mono ?_;rintro e w2 ⟨rfl,i⟩;obtain⟨L,T⟩:=r.out _ i;have G:=aB (I.out _ i);clear i;go_wp2_with fail;refine G.out.mono ?_;rintro e N ⟨rfl,z⟩;have D:=aB (C.out _ z);clear z;go_wp2_with fail;refine D.out.mono ?_;rintro e J ⟨⟨m,rfl⟩,x⟩;obtain⟨Y,g,n,c,X,S,U,⟨u,Q⟩,M,Z,d⟩:=q.out _ x;have E:=aB d;have V:(0:Int)<=(k:Int):=by omega
 have O:(k:Int)<(n:Int):=by omega
 clear x d;go_wp2_with fail;go_region
 all_goals
  go_wp2_with fail;go_end0;exact⟨rfl,E.out _ (aQ.drew _)⟩
def stC_seen{fs:List aC}{d:Nat}{seen:List (List UInt8)}{a:aC}(p:Nat)(h:dD fs d seen a):(aU fs d seen a p).2=cO seen a:=
 (lI fs d seen a (fun _ _=>False) p h ⟨fun _ _ _ h=>h.elim,fun _ _ h=>h.elim⟩).2.1
def StsOk.split{S:List (List UInt8)->aC->Prop}:∀{l m:List aC} {seen:List (List UInt8)},Hs.StsOk S seen (l++m)->Hs.StsOk S seen l/\Hs.StsOk S (dP seen l) m
 |[],_,_,h=>⟨trivial,h⟩
 |_::_,_,_,h=>by
  obtain⟨c,a⟩:=h;obtain⟨d,b⟩:=StsOk.split a;exact⟨⟨c,d⟩,b⟩
def qK:∀(l m:List aC) (seen:List (List UInt8)),dP seen (l++m)=dP (dP seen l) m
 |[],_,_=>rfl
 |a::l,m,seen=>qK l m (cO seen a)
def qD{fs:List aC}{d:Nat}:∀{l:List aC} (m:List aC) {seen:List (List UInt8)} (p:Nat),Hs.StsOk (dD fs d) seen l->bG (aU fs d) seen (l++m) p=bG (aU fs d) seen l p++bG (aU fs d) (dP seen l) m (p+(bG (aU fs d) seen l p).length)
 |[],m,seen,p,_=>by simp[bG,dP]
 |a::l,m,seen,p,h=>by
  obtain⟨c,b⟩:=h;rw[aY_,bG,bG,stC_seen p c,qD m _ b,bd_,aw_,b5_];rfl
def I6{fs:List aC}{d:Nat}(a:aC)(seen:List (List UInt8))(p:Nat):bG (aU fs d) seen [a] p=(aU fs d seen a p).1:=by simp[bG]
def MK(fp:Nat->Value)(fb:Nat->Nat)(nms:List (List UInt8))(cb:Nat)(F:Nat->Prop)(w:World)(code:List (Option aH))(seen:List (List UInt8))(w':World):Prop:=
 ∃G,(∀k,F k->G k)/\fX fp fb nms cb G w code seen w'
def RO(fp:Nat->Value)(fb:Nat->Nat)(fs:List aC)(cb lo:Nat)(d:Nat):Prop:=
 ∀(F:Nat->Prop) (seen:List (List UInt8)) (v:Value) (a:aC) (code:List (Option aH)) (w:World),CP fp fb (fs.map (·.text)) cb F w code seen->PN (Btw lo cb) w v a->dD fs d seen a->mJ a->seen.length<=90001->code.length+(aU fs d seen a code.length).1.length<=1000000->
  Calls prog 291 #[.pointer (some ⟨cb,0,none⟩),v] w fun e w'=>e=.returned (.tuple #[])/\MK fp fb (fs.map (·.text)) cb F w (code++(aU fs d seen a code.length).1.map some) (aU fs d seen a code.length).2 w'
section
variable {fp:Nat->Value} {fb:Nat->Nat} {fs:List aC} {cb lo:Nat} {F:Nat->Prop} {seen:List (List UInt8)} {d:Nat}
def MK.then{w w1 w':World}{b:List (List UInt8)}{a:List (Option aH)}(c:FB cb w w1)(h:MK fp fb b cb F w1 a seen w'):MK fp fb b cb F w a seen w':=by
 obtain⟨G,d,h⟩:=h;exact⟨G,d,h.then c⟩
def MK.more{G:Nat->Prop}{w w':World}{b:List (List UInt8)}{a:List (Option aH)}(e:∀k,F k->G k)(h:MK fp fb b cb G w a seen w'):MK fp fb b cb F w a seen w':=by
 obtain⟨H,d,h⟩:=h;exact⟨H,fun k c=>d k (e k c),h⟩
def YH{fs:List aC}{d:Nat}{seen:List (List UInt8)}{a:aC}(h:dD fs d seen a)(f:seen.length<=90001):(cO seen a).length<=90001:=by
 cases d with
 |zero=>exact h.elim
 |succ d=>
  unfold cO;split
  ·rename_i c;rcases h with ⟨_,b,t,v,e,_⟩|⟨b,_⟩|⟨b,_⟩|⟨b,_⟩|⟨b,_⟩|⟨b,_⟩|⟨b,_⟩
   ·rw[e];simp;omega
   all_goals exact absurd (c.symm.trans b) (by decide)
  ·exact f
def xQ{fs:List aC}{d:Nat}:∀{l:List aC} {seen:List (List UInt8)},Hs.StsOk (dD fs d) seen l->seen.length<=90001->(dP seen l).length<=90001
 |[],_,_,h=>h
 |a::l,seen,c,h=>by
  obtain⟨e,b⟩:=c;exact xQ (l:=l) (seen:=cO seen a) b (YH e h)
def pQ(O:RO fp fb fs cb lo d)(v:Value)(l:List aC)(b:List (Option aH))(w:World)(h:CP fp fb (fs.map (·.text)) cb F w b seen)(S:PKid (Btw lo cb) w v l)(J:Hs.StsOk (dD fs d) seen l)(E:∀a∈l,mJ a)(N:l.length<=1000000)(z:seen.length<=90001)(V:b.length+(bG (aU fs d) seen l b.length).length<=1000000):
 Calls prog 237 #[.pointer (some ⟨cb,0,none⟩),v] w fun e t=>e=.returned (.tuple #[])/\MK fp fb (fs.map (·.text)) cb F w (b++(bG (aU fs d) seen l b.length).map some) (dP seen l) t:=by
 rcases S.get with ⟨rfl,rfl⟩|⟨g,B,rfl,K,H,I,U⟩
 ·refine(BM w cb).mono ?_;rintro e t ⟨rfl,rfl⟩;exact⟨rfl,F,fun _ h=>h,by simpa [bG,dP] using h,FB.refl _⟩
 ·refine(zJ w cb g l.length B (fun j W=>j<=l.length/\MK fp fb (fs.map (·.text)) cb F w (b++(bG (aU fs d) seen (l.take j) b.length).map some) (dP seen (l.take j)) W) N ⟨a9_ _,F,fun _ h=>h,by simpa [bG,dP] using h,FB.refl _⟩ (fun j W L x=>?_)).mono ?_
  ·obtain⟨_,G,Q,y,f⟩:=L;obtain⟨u,P,m⟩:=U j x;obtain⟨T,M,rfl⟩:=m.form;have k:l.take (j+1)=l.take j++[l[j]]:=aT_ x
   have i:Hs.StsOk (dD fs d) seen (l.take j++(l[j]::l.drop (j+1))):=by
    have e:l.take j++(l[j]::l.drop (j+1))=l:=by
     rw[bA_];exact a5_ _ _
    rw[e];exact J
   obtain⟨n,o,_⟩:=StsOk.split i;have r:bG (aU fs d) seen (l.take (j+1)) b.length=bG (aU fs d) seen (l.take j) b.length++(aU fs d (dP seen (l.take j)) l[j] (b.length+(bG (aU fs d) seen (l.take j) b.length).length)).1:=by rw[k,qD _ _ n,I6]
   have q:(bG (aU fs d) seen (l.take (j+1)) b.length).length<=(bG (aU fs d) seen l b.length).length:=by
    have C:Hs.StsOk (dD fs d) seen (l.take (j+1)++l.drop (j+1)):=by rw[a5_];exact J
    have:=qD (l.drop (j+1)) b.length (StsOk.split C).1;rw[a5_] at this;rw[this,aw_];omega
   have s:(b++(bG (aU fs d) seen (l.take j) b.length).map some).length=b.length+(bG (aU fs d) seen (l.take j) b.length).length:=by simp
   have A:dP seen (l.take (j+1))=(aU fs d (dP seen (l.take j)) l[j] (b.length+(bG (aU fs d) seen (l.take j) b.length).length)).2:=by
    rw[k,qK,stC_seen _ o];rfl
   refine⟨az_ H f.bel.size,T,.agg M,by rw[f.bel.cell (p:=⟨g,j,none⟩) K.2];exact P,(O G _ _ l[j] _ W y (m.below f.bel) o (E _ (aR_ x)) (xQ n z) ?_).mono ?_⟩
   ·rw[s];rw[r,aw_] at q;omega
   ·rintro e t ⟨D,c⟩;refine⟨D,x,?_⟩;rw[s] at c;rw[r,A,a7_,<-bd_];exact(c.then f).more Q
  ·rintro e t ⟨D,_,c⟩;rw[a0_ (au_ _)] at c;exact⟨D,c⟩
def VS(N:RO fp fb fs cb lo d)(v:Value)(l:List aC)(f:List (Option aH))(w:World)(h:CP fp fb (fs.map (·.text)) cb F w f seen)(C:PKid (Btw lo cb) w v l)(L:Hs.StsOk (dD fs d) seen l)(z:∀a∈l,mJ a)(M:l.length<=1000000)(r:seen.length<=90001)(P:f.length+(bG (aU fs d) seen l f.length).length<=1000000):
 Calls prog 337 #[.pointer (some ⟨cb,0,none⟩),v] w fun e D=>e=.returned (.tuple #[])/\MK fp fb (fs.map (·.text)) cb F w (f++(bG (aU fs d) seen l f.length).map some) seen D:=by
 obtain⟨x,c,rfl⟩:=C.sliceC;have s:=pQ N _ l f w h C L z M r P;obtain⟨fv,Y,X,J,_,B,_⟩:=h.blk;obtain⟨p,rfl⟩:=B.form;refine VW w cb p x l.length c _ _ (aA J rfl) s (fun W H=>?_)
 obtain⟨G,u,g,n⟩:=H;obtain⟨y,t,V,m,⟨O,A,U⟩,Z,Q⟩:=g.blk;refine⟨⟨_,aA m rfl⟩,aE m,aD m,G,u,⟨⟨y,t,.pointer p,aS m,⟨O,?_,?_⟩,?_,?_⟩,fun k j=>?_⟩,?_⟩
 all_goals have j:∀k,k≠cb->(W.setCell ⟨cb,2,none⟩ (.pointer p)).heap[k]?=W.heap[k]?:=fun k j=>ax_ _ _ _ _ j
 all_goals have i:∀b,G b->(W.setCell ⟨cb,2,none⟩ (.pointer p)).heap[b]?=W.heap[b]?:=fun b q=>j b (g.fix b q).2.1
 all_goals have o:kW cb (W.setCell ⟨cb,2,none⟩ (.pointer p))=kW cb W:=by rw[iX (aS m),iX m]
 ·exact aY A fun k e=>j k (by have:=(A.lt k e).1;omega)
 ·exact U.keep i fun _ h=>h
 ·exact eE.keep (fun b q=>by rw[i b (u b q),h.fixed n b q]) u B
 ·exact Q.keep i (fun _ h=>h) (by simp)
 ·obtain⟨S,K,T⟩:=g.fix k (by assumption)
  exact⟨by simpa using S,K,by rw[o];exact T⟩
 ·refine n.trans ⟨⟨rfl,rfl,rfl,by simp,fun k I=>j k (by omega)⟩,fun k _ E _=>j k E,fun k e=>av_ (by rw[<-o];exact e)⟩
end
section
variable {fp:Nat->Value} {fb:Nat->Nat} {fs:List aC} {cb lo:Nat} {F:Nat->Prop} {alone:Bool} {seen:List (List UInt8)} {d:Nat}
def E5(IH:EF fp fb fs cb lo F alone seen d)(S:fs.length<=1000000)(G:∀k,k<fs.length->fp k=.pointer (some ⟨fb k,0,none⟩))(a:aC)(Y:Value)(l:Int)(b:List (Option aH))(w:World)(K:CP fp fb (fs.map (·.text)) cb F w b seen)(y:a.op=[99,97,108,108])(V:PKid (Btw lo cb) w Y a.kids)(P:Hs.ExOk fs alone seen (d+1) a)(T:pS (d+1) a)(o:b.length+(aG fs seen (d+1) a b.length).length<=1000000):
 Calls prog 289 #[.pointer (some ⟨cb,0,none⟩),.agg #[.int .i64 l,.string (bs a.text),Y]] w fun e u=>e=.returned (.tuple #[])/\fX fp fb (fs.map (·.text)) cb F w (b++(aG fs seen (d+1) a b.length).map some) seen u:=by
 have n:=ExOk.op P;obtain⟨_,L,D⟩:=T;rw[DF fs seen d a _ y] at o ⊢
 rw[aw_,bq_] at o;have N:=n.1;have p:=n.2.2 y;obtain⟨x,c,rfl⟩:=V.sliceC;obtain⟨h,v⟩:=K.new (.cells #[.int .i64 l,.string (bs a.text),.slice x a.kids.length c] 341);have B:∀{W:World},FB cb (w.alloc (.cells #[.int .i64 l,.string (bs a.text),.slice x a.kids.length c] 341)) W->W.heap[w.heap.size]?=some (.cells #[.int .i64 l,.string (bs a.text),.slice x a.kids.length c] 341 (0,0)):=fun M=>(h.step M).blk
 have j:Calls prog 287 #[.pointer (some ⟨cb,0,none⟩),.slice x a.kids.length c] (w.alloc (.cells #[.int .i64 l,.string (bs a.text),.slice x a.kids.length c] 341)) fun e u=>e=.returned (.tuple #[])/\(fX fp fb (fs.map (·.text)) cb F w (b++(bP (aG fs seen d) a.kids b.length).map some) seen u/\u.heap[w.heap.size]?=some (.cells #[.int .i64 l,.string (bs a.text),.slice x a.kids.length c] 341 (0,0))):=by
  refine(rV IH _ _ _ _ v (V.below h.fb.bel) N D L (by omega)).mono ?_
  rintro e u ⟨H,z⟩;exact⟨H,z.then h.fb,B z.2⟩
 have m:∀{i:aH} {e:Ending} {W:World},(e=.returned (.tuple #[])/\fX fp fb (fs.map (·.text)) cb F w ((b++(bP (aG fs seen d) a.kids b.length).map some)++[some i]) seen W)->e=.returned (.tuple #[])/\fX fp fb (fs.map (·.text)) cb F w (b++(bP (aG fs seen d) a.kids b.length++[i]).map some) seen W:=fun g=>by
  rw[a7_,<-bd_];exact g
 have t:(b++(bP (aG fs seen d) a.kids b.length).map some).length+1<=1000000:=by rw[fJ];omega
 rcases p with q|q|⟨A,C,r⟩
 ·rw[q] at j ⊢
  refine(RH w cb a.kids.length c l x _ _ j (fun W g=>⟨aA g.2 rfl,aD g.2⟩) (fun W g=>emits (i:=.length) g.1 rfl t)).mono ?_
  intro e W g;exact m g
 ·rw[q] at j ⊢
  refine(JB w cb a.kids.length c l x _ _ j (fun W g=>⟨aA g.2 rfl,aD g.2⟩) (fun W g=>emits (i:=.read) g.1 rfl t)).mono ?_
  intro e W g;exact m g
 ·have s:cS fs a.text<fs.length:=by
   unfold fG at r;cases X:fs[cS fs a.text]? with
   |none=>rw[X] at r;cases r
   |some f=>exact(aZ_.1 X).1
  have E:a.text∈fs.map (·.text):=by
   have Q:=s;unfold cS at Q;have:=bN_ (w:=Q);exact bz_.2 ⟨_,aR_ Q,by simpa using this⟩
  have e1:(a.text==[108,101,110])=false:=by simpa using A
  have Z:(a.text==[114,101,97,100])=false:=by simpa using C
  rw[e1,Z];refine(DX w cb a.kids.length c (fb (cS fs a.text)) l a.text x (fun W=>fX fp fb (fs.map (·.text)) cb F w ((b++(bP (aG fs seen d) a.kids b.length).map some)++[some (.call (cS fs a.text) a.kids.length)]) seen W) _ A C j (fun W g=>⟨aA g.2 rfl,aA g.2 rfl,aD g.2⟩) (fun W U g I=>?_) (fun W U g I=>?_)).mono ?_
  ·refine(tB a.text (g.1.1.grow I.below) E (by simpa using S)).mono ?_
   rintro e u ⟨H,J⟩;rw[DC,G _ s] at H;exact⟨H,J⟩
  ·have O:fX fp fb (fs.map (·.text)) cb F w (b++(bP (aG fs seen d) a.kids b.length).map some) seen U:=⟨g.1.1.grow I.below,g.1.2.trans (FB.of_below I.below g.1.1.lt)⟩
   exact emits (i:=.call (cS fs a.text) a.kids.length) O (by show _=_;rw[G _ s]) t
  ·intro e W g;exact m g
end
section
variable (fs:List aC) (seen:List (List UInt8)) (d:Nat) (a:aC) (p:Nat)
def S8(t v:aC)(h:a.op=[118,97,114])(b:a.kids=[t,v]):aU fs (d+1) seen a p=(.begin a.line seen::aG fs seen d v (p+1)++[.declare seen.length],t.text::seen):=by rw[aU];simp[h,b]
def S9(h:a.op=[115,101,116]):aU fs (d+1) seen a p=(.begin a.line seen::bP (aG fs seen d) a.kids (p+1)++[.assign (dK seen a.text) (a.kids.length-1)],seen):=by rw[aU];simp[h]
def T7(c t:aC)(h:a.op=[105,102])(b:a.kids=[c,t]):aU fs (d+1) seen a p=
 (.begin a.line seen::aG fs seen d c (p+1)++[.skip (p+1+(aG fs seen d c (p+1)).length+1+(bG (aU fs d) seen t.kids (p+1+(aG fs seen d c (p+1)).length+1)).length+1)]++bG (aU fs d) seen t.kids (p+1+(aG fs seen d c (p+1)).length+1)++[.jump (p+1+(aG fs seen d c (p+1)).length+1+(bG (aU fs d) seen t.kids (p+1+(aG fs seen d c (p+1)).length+1)).length+1)],seen):=by rw[aU];simp[h,b]
def T0(c t x:aC)(h:a.op=[105,102])(b:a.kids=[c,t,x]):aU fs (d+1) seen a p=
 (.begin a.line seen::aG fs seen d c (p+1)++[.skip (p+1+(aG fs seen d c (p+1)).length+1+(bG (aU fs d) seen t.kids (p+1+(aG fs seen d c (p+1)).length+1)).length+1)]++bG (aU fs d) seen t.kids (p+1+(aG fs seen d c (p+1)).length+1)++[.jump (p+1+(aG fs seen d c (p+1)).length+1+(bG (aU fs d) seen t.kids (p+1+(aG fs seen d c (p+1)).length+1)).length+1+(bG (aU fs d) seen x.kids (p+1+(aG fs seen d c (p+1)).length+1+(bG (aU fs d) seen t.kids (p+1+(aG fs seen d c (p+1)).length+1)).length+1)).length)]++
   bG (aU fs d) seen x.kids (p+1+(aG fs seen d c (p+1)).length+1+(bG (aU fs d) seen t.kids (p+1+(aG fs seen d c (p+1)).length+1)).length+1),seen):=by rw[aU];simp[h,b]
def YC(c b:aC)(h:a.op=[119,104,105,108,101])(e:a.kids=[c,b]):aU fs (d+1) seen a p=
 (.begin a.line seen::aG fs seen d c (p+1)++[.skip (p+1+(aG fs seen d c (p+1)).length+1+(bG (aU fs d) seen b.kids (p+1+(aG fs seen d c (p+1)).length+1)).length+1)]++bG (aU fs d) seen b.kids (p+1+(aG fs seen d c (p+1)).length+1)++[.jump p],seen):=by rw[aU];simp[h,e]
def NJ(h:a.op=[114,101,116,117,114,110])(b:a.kids=[]):aU fs (d+1) seen a p=([.begin a.line seen,.push (bC 0),.give],seen):=by rw[aU];simp[h,b]
def NI(v:aC)(h:a.op=[114,101,116,117,114,110])(b:a.kids=[v]):aU fs (d+1) seen a p=(.begin a.line seen::aG fs seen d v (p+1)++[.give],seen):=by rw[aU];simp[h,b]
def YD(v:aC)(h:a.op=[112,114,105,110,116])(b:a.kids=[v]):aU fs (d+1) seen a p=(.begin a.line seen::aG fs seen d v (p+1)++[.print],seen):=by rw[aU];simp[h,b]
def l9(c:aC)(h:a.op=[100,111])(b:a.kids=[c]):aU fs (d+1) seen a p=(.begin a.line seen::aG fs seen d c (p+1)++[.drop],seen):=by rw[aU];simp[h,b]
end
section
variable {fp:Nat->Value} {fb:Nat->Nat} {fs:List aC} {cb lo:Nat} {F:Nat->Prop} {seen:List (List UInt8)} {d:Nat}
def pT(fp:Nat->Value)(fb:Nat->Nat)(nms:List (List UInt8))(cb:Nat)(F:Nat->Prop)(w w1:World)(b:Nat)(o:Obj)(seen:List (List UInt8))(c:List (Option aH))(W:World):Prop:=
 ∃G,(∀k,F k->G k)/\fX fp fb nms cb G w c seen W/\Loc cb w1 b o W
def pT.emit{d:List (List UInt8)}{w w1 W:World}{b:Nat}{o:Obj}{c:List (Option aH)}(h:pT fp fb d cb F w w1 b o seen c W){u:Value}{i:Option aH}(l:∀G,j3 fp G W u i)(n:c.length<=1000000):
 Calls prog 238 #[.pointer (some ⟨cb,0,none⟩),u] W fun e f=>e=.returned (.int .i64 c.length)/\pT fp fb d cb F w w1 b o seen (c++[i]) f:=by
 obtain⟨G,m,a,k⟩:=h;refine(qZ (o:=i) a.1 (l G) n).mono ?_;rintro e f ⟨p,j,g⟩;exact⟨p,G,m,⟨j,a.2.trans g⟩,k.step g⟩
def pT.patch{e:List (List UInt8)}{w w1 W:World}{b:Nat}{o:Obj}{d a:List (Option aH)}(v:pT fp fb e cb F w w1 b o seen (d++none::a) W)(k:Nat)(t:k=d.length)(l:TypeId)(i:Nat->aH)(A:∀G n,lC fp G W (.iface l (.agg #[.int .i64 (n:Nat)])) (i n))(C:(d++none::a).length<=1000000):
 cb<W.heap.size/\∃g n c,W.cell? ⟨cb,1,none⟩=some (.slice (some ⟨g,0,none⟩) n c)/\k<n/\n<=1000000/\(∃u,W.cell? ⟨g,k,none⟩=some u)/\W.frozen? ⟨g,k,none⟩=false/\g<W.heap.size/\∀h,aQ (W.setCell ⟨g,k,none⟩ (.iface l (.agg #[.int .i64 (n:Nat)]))) h->pT fp fb e cb F w w1 b o seen (d++some (i (d++none::a).length)::a) h:=by
 obtain⟨G,B,⟨f,j⟩,y⟩:=v;obtain⟨g,c,z,s,p,r,q⟩:=f.patch;subst t;refine⟨f.lt,g,_,c,z,by simp,C,s,p,r,fun h D=>?_⟩
 obtain⟨x,m⟩:=q _ _ h (A G _) D;exact⟨G,B,⟨x,j.trans m⟩,y.step m⟩
def pT.blockk(t:RO fp fb fs cb lo d){w w1 W:World}{b:Nat}{o:Obj}{c:List (Option aH)}(n:pT fp fb (fs.map (·.text)) cb F w w1 b o seen c W)(v:Value)(l:List aC)(y:PKid (Btw lo cb) w v l)(q:Hs.StsOk (dD fs d) seen l)(i:∀a∈l,mJ a)(r:l.length<=1000000)(h:seen.length<=90001)(x:c.length+(bG (aU fs d) seen l c.length).length<=1000000):
 Calls prog 337 #[.pointer (some ⟨cb,0,none⟩),v] W fun e j=>e=.returned (.tuple #[])/\pT fp fb (fs.map (·.text)) cb F w w1 b o seen (c++(bG (aU fs d) seen l c.length).map some) j:=by
 obtain⟨G,u,g,p⟩:=n;refine(VS t v l c W g.1 (y.below g.2.bel) q i r h x).mono ?_;rintro e j ⟨z,H,s,f⟩;exact⟨z,H,fun k m=>s k (u k m),f.then g.2,p.step f.2⟩
def pT.exprk{w w1 W:World}{b:Nat}{o:Obj}{c:List (Option aH)}(n:pT fp fb (fs.map (·.text)) cb F w w1 b o seen c W)(h:fs.length<=1000000)(i:∀k,k<fs.length->fp k=.pointer (some ⟨fb k,0,none⟩))(m:seen.length<=90001)(v:Value)(a:aC)(t:PN (Btw lo cb) w v a)(q:Hs.ExOk fs false seen d a)(j:mJ a)(s:c.length+(aG fs seen d a c.length).length<=1000000):
 Calls prog 233 #[.pointer (some ⟨cb,0,none⟩),v] W fun e l=>e=.returned (.tuple #[])/\pT fp fb (fs.map (·.text)) cb F w w1 b o seen (c++(aG fs seen d a c.length).map some) l:=by
 obtain⟨G,r,g,p⟩:=n;refine(rY (by omega) h i d v a c W g.1 (t.below g.2.bel) q (j d) s).mono ?_
 rintro e l ⟨u,f⟩;exact⟨u,G,r,f.then g.2,p.step f.2⟩
def pT.exprsk{w w1 W:World}{b:Nat}{o:Obj}{c:List (Option aH)}(p:pT fp fb (fs.map (·.text)) cb F w w1 b o seen c W)(h:fs.length<=1000000)(i:∀k,k<fs.length->fp k=.pointer (some ⟨fb k,0,none⟩))(n:seen.length<=90001)(v:Value)(l:List aC)(x:PKid (Btw lo cb) w v l)(r:∀a∈l,Hs.ExOk fs false seen d a)(j:∀a∈l,mJ a)(s:l.length<=1000000)(u:c.length+(bP (aG fs seen d) l c.length).length<=1000000):
 Calls prog 287 #[.pointer (some ⟨cb,0,none⟩),v] W fun e m=>e=.returned (.tuple #[])/\pT fp fb (fs.map (·.text)) cb F w w1 b o seen (c++(bP (aG fs seen d) l c.length).map some) m:=by
 obtain⟨G,t,g,q⟩:=p;refine(rV (rY (by omega) h i d) v l c W g.1 (x.below g.2.bel) r (fun a z=>j a z d) s u).mono ?_
 rintro e m ⟨y,f⟩;exact⟨y,G,t,f.then g.2,q.step f.2⟩
def pT.fin{a:List (List UInt8)}{w w1 W:World}{b:Nat}{o:Obj}{c:List (Option aH)}(e:pT fp fb a cb F w w1 b o seen c W):MK fp fb a cb F w c seen W:=by
 obtain⟨G,f,d,_⟩:=e;exact⟨G,f,d⟩
def pT.box{a:List (List UInt8)}{w w1 W:World}{b:Nat}{cs:Array Value}{T:TypeId}{c:List (Option aH)}(d:pT fp fb a cb F w w1 b (.cells cs T) seen c W):W.heap[b]?=some (.cells cs T (0,0)):=by
 obtain⟨G,f,_,e⟩:=d;exact e.blk
def CP.cpB{c:List (List UInt8)}{w:World}{a:List (Option aH)}(h:CP fp fb c cb F w a seen)(o:Obj):pT fp fb c cb F w w w.heap.size o seen a (w.alloc o):=by
 obtain⟨b,d⟩:=h.new o;exact⟨F,fun _ h=>h,⟨d,b.fb⟩,b⟩
def yJ(V:RO fp fb fs cb lo d)(O:fs.length<=1000000)(Q:∀k,k<fs.length->fp k=.pointer (some ⟨fb k,0,none⟩))(B:seen.length<=90001)(l:Int)(v1 X U:Value)(c:aC)(s r:List aC)(b:List (Option aH))(w:World)(h:CP fp fb (fs.map (·.text)) cb F w b seen)
 (Y:PN (Btw lo cb) w v1 c) (T:PKid (Btw lo cb) w X s) (Z:PKid (Btw lo cb) w U r) (ho:Hs.ExOk fs false seen d c) (L:Hs.StsOk (dD fs d) seen s) (S:Hs.StsOk (dD fs d) seen r) (hl:mJ c) (P:∀a∈s,mJ a) (J:∀a∈r,mJ a) (I:s.length<=1000000) (M:r.length<=1000000)
 (f j q:List aH) (C:aG fs seen d c b.length=f) (D:bG (aU fs d) seen s (b.length+f.length+1)=j) (E:bG (aU fs d) seen r (b.length+f.length+1+j.length+1)=q) (hn:b.length+f.length+1+j.length+1+q.length<=1000000):
 Calls prog 324 #[.pointer (some ⟨cb,0,none⟩),.agg #[.int .i64 l,v1,X,U]] w fun e w'=>e=.returned (.tuple #[])/\MK fp fb (fs.map (·.text)) cb F w (b++(f++[aH.skip (b.length+f.length+1+j.length+1)]++j++[aH.jump (b.length+f.length+1+j.length+1+q.length)]++q).map some) seen w':=by
 obtain⟨v,o,rfl⟩:=Y.form;obtain⟨A,x,rfl⟩:=T.sliceC;obtain⟨z,y,rfl⟩:=Z.sliceC;have K:=h.cpB (.cells #[.int .i64 l,.iface v (.agg o),.slice A s.length x,.slice z r.length y] 334)
 refine(RC w cb (b.length+f.length) (b.length+f.length+1+j.length) l v (.agg o) A z s.length r.length x y
  (fun W=>MK fp fb (fs.map (·.text)) cb F w ((b++f.map some++some (aH.skip (b.length+f.length+1+j.length+1))::j.map some)++some (aH.jump (b.length+f.length+1+j.length+1+q.length))::q.map some) seen W)
  (pT fp fb (fs.map (·.text)) cb F w w w.heap.size (.cells #[.int .i64 l,.iface v (.agg o),.slice A s.length x,.slice z r.length y] 334) seen (b++f.map some))
  (pT fp fb (fs.map (·.text)) cb F w w w.heap.size (.cells #[.int .i64 l,.iface v (.agg o),.slice A s.length x,.slice z r.length y] 334) seen (b++f.map some++[none]))
  (pT fp fb (fs.map (·.text)) cb F w w w.heap.size (.cells #[.int .i64 l,.iface v (.agg o),.slice A s.length x,.slice z r.length y] 334) seen (b++f.map some++[none]++j.map some))
  (pT fp fb (fs.map (·.text)) cb F w w w.heap.size (.cells #[.int .i64 l,.iface v (.agg o),.slice A s.length x,.slice z r.length y] 334) seen (b++f.map some++[none]++j.map some++[none]))
  (pT fp fb (fs.map (·.text)) cb F w w w.heap.size (.cells #[.int .i64 l,.iface v (.agg o),.slice A s.length x,.slice z r.length y] 334) seen (b++f.map some++some (aH.skip (b.length+f.length+1+j.length+1))::(j.map some++[none])))
  (pT fp fb (fs.map (·.text)) cb F w w w.heap.size (.cells #[.int .i64 l,.iface v (.agg o),.slice A s.length x,.slice z r.length y] 334) seen (b++f.map some++some (aH.skip (b.length+f.length+1+j.length+1))::(j.map some++[none])++q.map some))
  ?_ (fun W m=>?_) (fun W m=>?_) (fun W m=>?_) (fun W m=>?_) (fun W m=>?_) (fun W m=>?_) (fun W m=>?_) (fun W m=>?_)).mono ?_
 ·have:=K.exprk O Q B _ c Y ho hl (by rw[C];omega)
  rw[C] at this;exact this
 ·have:=m.emit (u:=.nilIface) (i:=none) (fun _=>rfl) (by simp;omega)
  rw[fJ] at this;exact this
 ·exact⟨aA m.box rfl,aD m.box⟩
 ·have p:(b++f.map some++[none]).length=b.length+f.length+1:=by simp;omega
  have:=m.blockk V _ s T L P I B (by rw[p,D];omega)
  rw[p,D] at this;exact this
 ·have p:(b++f.map some++[none]++j.map some).length=b.length+f.length+1+j.length:=by simp;omega
  have:=m.emit (u:=.nilIface) (i:=none) (fun _=>rfl) (by rw[p];omega)
  rw[p] at this;exact this
 ·have G:b++f.map some++[none]++j.map some++[none]=(b++f.map some)++none::(j.map some++[none]):=by simp
  rw[G] at m;have t:((b++f.map some)++none::(j.map some++[none])).length=b.length+f.length+1+j.length+1:=by simp;omega
  have:=m.patch (b.length+f.length) (by rw[fJ]) 461 (fun n=>.skip n) (fun _ _=>rfl) (by rw[t];omega)
  rw[t] at this;exact this
 ·exact⟨aA m.box rfl,aD m.box⟩
 ·have p:(b++f.map some++some (aH.skip (b.length+f.length+1+j.length+1))::(j.map some++[none])).length=b.length+f.length+1+j.length+1:=by simp;omega
  have:=m.blockk V _ r Z S J M B (by rw[p,E];omega)
  rw[p,E] at this;exact this
 ·have G:b++f.map some++some (aH.skip (b.length+f.length+1+j.length+1))::(j.map some++[none])++q.map some=(b++f.map some++some (aH.skip (b.length+f.length+1+j.length+1))::j.map some)++none::q.map some:=by simp
  rw[G] at m;have t:((b++f.map some++some (aH.skip (b.length+f.length+1+j.length+1))::j.map some)++none::q.map some).length=b.length+f.length+1+j.length+1+q.length:=by simp;omega
  have H:b.length+f.length+1+j.length=(b++f.map some++some (aH.skip (b.length+f.length+1+j.length+1))::j.map some).length:=by simp;omega
  have:=m.patch (b.length+f.length+1+j.length) H 462 (fun n=>.jump n) (fun _ _=>rfl) (by rw[t];omega)
  rw[t] at this;obtain⟨a1,g,n,N,a2,a3,a4,a5,a6,a7,a8⟩:=this;exact⟨a1,g,n,N,a2,a3,a4,a5,a6,a7,fun W' hS=>(a8 W' hS).fin⟩
 ·intro e W m;have e9:b++(f++[aH.skip (b.length+f.length+1+j.length+1)]++j++[aH.jump (b.length+f.length+1+j.length+1+q.length)]++q).map some=(b++f.map some++some (aH.skip (b.length+f.length+1+j.length+1))::j.map some)++some (aH.jump (b.length+f.length+1+j.length+1+q.length))::q.map some:=by simp
  rw[e9];exact m
def D5(Z:RO fp fb fs cb lo d)(G:fs.length<=1000000)(I:∀k,k<fs.length->fp k=.pointer (some ⟨fb k,0,none⟩))(x:seen.length<=90001)(l:Int)(f:Nat)(v1 L:Value)(c:aC)(q:List aC)(b:List (Option aH))(w:World)(h:CP fp fb (fs.map (·.text)) cb F w b seen)
 (M:PN (Btw lo cb) w v1 c) (K:PKid (Btw lo cb) w L q) (X:Hs.ExOk fs false seen d c) (D:Hs.StsOk (dD fs d) seen q) (Y:mJ c) (H:∀a∈q,mJ a) (B:q.length<=1000000)
 (j m:List aH) (y:aG fs seen d c b.length=j) (z:bG (aU fs d) seen q (b.length+j.length+1)=m) (hn:b.length+j.length+1+m.length+1<=1000000):
 Calls prog 325 #[.pointer (some ⟨cb,0,none⟩),.agg #[.int .i64 l,v1,L],.int .i64 f] w fun e J=>e=.returned (.tuple #[])/\MK fp fb (fs.map (·.text)) cb F w (b++(j++[aH.skip (b.length+j.length+1+m.length+1)]++m++[aH.jump f]).map some) seen J:=by
 obtain⟨s,p,rfl⟩:=M.form;obtain⟨v,t,rfl⟩:=K.sliceC;have C:=h.cpB (.cells #[.int .i64 l,.iface s (.agg p),.slice v q.length t] 336)
 refine(A5 w cb (b.length+j.length) f l s (.agg p) v q.length t
  (fun W=>MK fp fb (fs.map (·.text)) cb F w ((b++j.map some)++some (aH.skip (b.length+j.length+1+m.length+1))::(m.map some++[some (aH.jump f)])) seen W)
  (pT fp fb (fs.map (·.text)) cb F w w w.heap.size (.cells #[.int .i64 l,.iface s (.agg p),.slice v q.length t] 336) seen (b++j.map some))
  (pT fp fb (fs.map (·.text)) cb F w w w.heap.size (.cells #[.int .i64 l,.iface s (.agg p),.slice v q.length t] 336) seen (b++j.map some++[none]))
  (pT fp fb (fs.map (·.text)) cb F w w w.heap.size (.cells #[.int .i64 l,.iface s (.agg p),.slice v q.length t] 336) seen (b++j.map some++[none]++m.map some))
  (pT fp fb (fs.map (·.text)) cb F w w w.heap.size (.cells #[.int .i64 l,.iface s (.agg p),.slice v q.length t] 336) seen (b++j.map some++[none]++m.map some++[some (aH.jump f)]))
  ?_ (fun W o=>?_) (fun W o=>?_) (fun W o=>?_) (fun W o=>?_) (fun W o=>?_)).mono ?_
 ·have:=C.exprk G I x _ c M X Y (by rw[y];omega)
  rw[y] at this;exact this
 ·have:=o.emit (u:=.nilIface) (i:=none) (fun _=>rfl) (by simp;omega)
  rw[fJ] at this;exact this
 ·exact⟨aA o.box rfl,aD o.box⟩
 ·have r:(b++j.map some++[none]).length=b.length+j.length+1:=by simp;omega
  have:=o.blockk Z _ q K D H B x (by rw[r,z];omega)
  rw[r,z] at this;exact this
 ·have r:(b++j.map some++[none]++m.map some).length=b.length+j.length+1+m.length:=by simp;omega
  refine(o.emit (u:=.iface 462 (.agg #[.int .i64 f])) (i:=some (aH.jump f)) (fun _=>rfl) (by rw[r];omega)).mono ?_
  rintro e J ⟨he,P⟩;exact⟨⟨_,he⟩,P⟩
 ·have O:b++j.map some++[none]++m.map some++[some (aH.jump f)]=(b++j.map some)++none::(m.map some++[some (aH.jump f)]):=by simp
  rw[O] at o;have A:((b++j.map some)++none::(m.map some++[some (aH.jump f)])).length=b.length+j.length+1+m.length+1:=by simp;omega
  have:=o.patch (b.length+j.length) (by rw[fJ]) 461 (fun n=>.skip n) (fun _ _=>rfl) (by rw[A];omega)
  rw[A] at this;obtain⟨a1,g,n,E,a2,T,V,U,a6,Q,N⟩:=this;exact⟨a1,g,n,E,a2,T,V,U,a6,Q,fun W' hS=>(N W' hS).fin⟩
 ·intro e W o;have S:b++(j++[aH.skip (b.length+j.length+1+m.length+1)]++m++[aH.jump f]).map some=(b++j.map some)++some (aH.skip (b.length+j.length+1+m.length+1))::(m.map some++[some (aH.jump f)]):=by simp
  rw[S];exact o
end
section
variable {fp:Nat->Value} {fb:Nat->Nat} {fs:List aC} {cb lo:Nat} {d:Nat}
def fX.cpB{F:Nat->Prop}{seen:List (List UInt8)}{c:List (List UInt8)}{w W:World}{a:List (Option aH)}(h:fX fp fb c cb F w a seen W)(o:Obj):pT fp fb c cb F w W W.heap.size o seen a (W.alloc o):=by
 obtain⟨b,d⟩:=h.1.new o;exact⟨F,fun _ h=>h,⟨d,h.2.trans b.fb⟩,b⟩
def O9(IH:RO fp fb fs cb lo d)(Y:fs.length<=1000000)(X:∀k,k<fs.length->fp k=.pointer (some ⟨fb k,0,none⟩)):RO fp fb fs cb lo (d+1):=by
 intro F f v a g w h bc Q J ac z;obtain⟨T,cs,ps,rfl,bd,L⟩:=bc.parts;obtain⟨fv,cv,sp,m,_,h4,_⟩:=h.blk;obtain⟨p,rfl⟩:=h4.form;have V:=h.lt;have ab:w.cell? ⟨cb,2,none⟩=some (.pointer p):=aA m rfl
 have aa:g.length+1<=1000000->Calls prog 238 #[.pointer (some ⟨cb,0,none⟩),.iface 365 (.agg #[.int .i64 a.line,.pointer p])] (w.drew.alloc (.cells #[.int .i64 a.line] 209)) fun e w'=>e=.returned (.int .i64 g.length)/\fX fp fb (fs.map (·.text)) cb F w (g++[some (.begin a.line f)]) f w':=fun hn=>by
  have hb:Below w.heap.size w (w.drew.alloc (.cells #[.int .i64 a.line] 209)):=((ay_ _ w).drew).alloc (au_ _) _;have h':=h.grow hb;refine(qZ (o:=some (.begin a.line f)) h' ⟨_,rfl,eE.keep (fun b az=>hb.block b (h.fix b az).1) (fun _ h=>h) h4⟩ (by omega)).mono ?_
  rintro e w' ⟨H,q1,q2⟩;exact⟨H,q1,(FB.of_below hb V).trans q2⟩
 have B:(g++[some (aH.begin a.line f)]).length=g.length+1:=by simp
 have af:f.length<=1000000:=by omega
 have no:∀{x y:List UInt8} {p:Prop},a.op=x->x≠y->a.op=y->p:=fun e1 e2 e3=>absurd (e1.symm.trans e3) e2
 rcases bd with ⟨_,_,_,n,_⟩|⟨_,_,n,_⟩|⟨_,_,n,_⟩|⟨_,_,_,n,_⟩|⟨_,_,_,n,_⟩|⟨_,_,n,_⟩|⟨_,_,_,_,_,_,_,n,_⟩|⟨_,o,_,_,_,ax,n,_⟩|⟨_,_,_,_,_,_,_,n,_⟩|⟨rfl,v1,t,A,rfl,n,j,rfl⟩|⟨rfl,sv,v1,l,A,rfl,n,j,rfl⟩|⟨rfl,v1,s1,A,N,rfl,n,au,j,rfl⟩|⟨rfl,v1,s1,s2,A,N,b2,rfl,n,au,bf,j,rfl⟩|⟨rfl,v1,s1,A,N,rfl,n,au,j,rfl⟩|⟨rfl,l,rfl,n,j,rfl⟩|⟨rfl,v1,A,rfl,n,j,rfl⟩|⟨rfl,v1,A,rfl,n,j,rfl⟩|⟨rfl,sv,c,rfl,n,av,be,j,aj,rfl⟩
 iterate 7
  ·exfalso;rcases Q with ⟨m,_⟩|⟨m,_⟩|⟨m,_⟩|⟨m,_⟩|⟨m,_⟩|⟨m,_⟩|⟨m,_⟩<;>exact no n (by decide) m
 ·exfalso;rcases ax with rfl|rfl<;>(rcases Q with ⟨m,_⟩|⟨m,_⟩|⟨m,_⟩|⟨m,_⟩|⟨m,_⟩|⟨m,_⟩|⟨m,_⟩<;>exact no n (by decide) m)
 ·exfalso;rcases Q with ⟨m,_⟩|⟨m,_⟩|⟨m,_⟩|⟨m,_⟩|⟨m,_⟩|⟨m,_⟩|⟨m,_⟩<;>(rw[m] at n;exact n rfl)
 ·-- var
  have S:Hs.ExOk fs false f d A/\f.length<=90000:=by
   rcases Q with ⟨_,D,t',v',r,K,_⟩|⟨m,_⟩|⟨m,_⟩|⟨m,_⟩|⟨m,_⟩|⟨m,_⟩|⟨m,_⟩
   ·rw[j] at r;simp at r;rw[r.2];exact⟨K,D⟩
   all_goals exact no n (by decide) m
  have E:=S8 fs f d a g.length t A n j;rw[E] at z ⊢
  simp only[aw_,aB_,aI_] at z;have hp:=L ⟨v1,[A],true⟩ (by simp)
  obtain⟨Z,C,rfl⟩:=hp.one'.form;have M:=J.kid (k:=A) (by rw[j];simp)
  refine(BP w cb g.length a.line p t.line (bs t.text) Z (.agg C) f.length (fun W=>MK fp fb (fs.map (·.text)) cb F w (g++(aH.begin a.line f::aG fs f d A (g.length+1)++[aH.declare f.length]).map some) (t.text::f) W) _
   (fun b W=>∃O,pT fp fb (fs.map (·.text)) cb F w O b (.cells #[.int .i64 a.line,.int .i64 t.line,.string (bs t.text),.iface Z (.agg C)] 329) f ((g++[some (.begin a.line f)])++(aG fs f d A (g.length+1)).map some) W)
   (fun b W=>∃O,pT fp fb (fs.map (·.text)) cb F w O b (.cells #[.int .i64 a.line,.int .i64 t.line,.string (bs t.text),.iface Z (.agg C)] 329) f ((g++[some (.begin a.line f)])++(aG fs f d A (g.length+1)).map some++[some (.declare f.length)]) W)
   V ab (aa (by omega)) (fun W s=>?_) (fun b W s=>?_) (fun b W s=>?_) (fun b W s=>?_) (fun b W s=>?_))
  ·refine((s.cpB _).exprk Y X ac _ A hp.one' S.1 M (by rw[B];omega)).mono ?_
   rintro e w' ⟨H,D⟩;rw[B] at D;exact⟨H,W,D⟩
  ·obtain⟨O,G,hG,q,_⟩:=s;exact PQ q.1 af
  ·obtain⟨O,s⟩:=s;refine(s.emit (u:=.iface 443 (.agg #[.int .i64 f.length])) (i:=some (.declare f.length)) (fun _=>rfl) (by simp;omega)).mono ?_
   rintro e w' ⟨H,D⟩;exact⟨⟨_,H⟩,O,D⟩
  ·obtain⟨O,s⟩:=s;exact⟨aA s.box rfl,aD s.box⟩
  ·obtain⟨O,G,hG,q,_⟩:=s;refine(WM t.text q.1 af).mono ?_;rintro e w' ⟨H,q1,q2⟩;refine⟨H,fun k=>G k\/k=W.heap.size,fun k r=>av_ (hG k r),?_,q.2.trans q2⟩
   simpa using q1
 ·-- an assignment
  have S:a.text∈f/\∀k∈a.kids,Hs.ExOk fs false f d k:=by
   rcases Q with ⟨m,_⟩|⟨_,D,_,K⟩|⟨m,_⟩|⟨m,_⟩|⟨m,_⟩|⟨m,_⟩|⟨m,_⟩
   ·exact no n (by decide) m
   ·exact⟨D,K⟩
   all_goals exact no n (by decide) m
  have E:=S9 fs f d a g.length n;have ba:(l++[A]).length-1=l.length:=by simp
  rw[j,nK,BT] at E;rw[ba] at E;rw[E] at z ⊢
  simp only[aw_,aB_,aI_] at z;have hp:=L ⟨sv,l,false⟩ (by simp)
  have I:=L ⟨v1,[A],true⟩ (by simp)
  obtain⟨Z,C,rfl⟩:=I.one'.form;obtain⟨x,c,rfl⟩:=hp.many.sliceC;have aw:=J.len;rw[j,aw_] at aw;generalize aq:bP (aG fs f d) l (g.length+1)=q1 at*;generalize al:aG fs f d A (g.length+1+q1.length)=q2 at*
  refine(EZ w cb g.length a.line p (bs a.text) x l.length c (dK f a.text) Z (.agg C) (fun W=>MK fp fb (fs.map (·.text)) cb F w (g++(aH.begin a.line f::(q1++q2)++[aH.assign (dK f a.text) l.length]).map some) f W) _
   (fun b W=>∃O,pT fp fb (fs.map (·.text)) cb F w O b (.cells #[.int .i64 a.line,.string (bs a.text),.slice x l.length c,.iface Z (.agg C)] 332) f ((g++[some (.begin a.line f)])++q1.map some) W)
   (fun b W=>∃O,pT fp fb (fs.map (·.text)) cb F w O b (.cells #[.int .i64 a.line,.string (bs a.text),.slice x l.length c,.iface Z (.agg C)] 332) f ((g++[some (.begin a.line f)])++q1.map some++q2.map some) W)
   V ab (aa (by omega)) (fun W s=>?_) (fun b W s=>?_) (fun b W s=>?_) (fun b W s=>?_) (fun b W W' s hS=>?_) (fun b W W' s hS=>?_))
  ·refine((s.cpB _).exprsk Y X ac _ l hp.many (fun k r=>S.2 k (by rw[j];simp[r])) (fun k r=>J.kid (by rw[j];simp[r])) (by omega) (by rw[B,aq];omega)).mono ?_
   rintro e w' ⟨H,D⟩;rw[B,aq] at D;exact⟨H,W,D⟩
  ·obtain⟨O,s⟩:=s;exact⟨aA s.box rfl,aD s.box⟩
  ·obtain⟨O,s⟩:=s;have ai:((g++[some (aH.begin a.line f)])++q1.map some).length=g.length+1+q1.length:=by simp;omega
   refine(s.exprk Y X ac _ A I.one' (S.2 A (by rw[j];simp)) (J.kid (by rw[j];simp)) (by rw[ai,al];omega)).mono ?_
   rintro e w' ⟨H,D⟩;rw[ai,al] at D;exact⟨H,O,D⟩
  ·obtain⟨O,s⟩:=s;exact⟨aA s.box rfl,aA s.box rfl,aD s.box⟩
  ·obtain⟨O,G,hG,q,_⟩:=s;exact NO a.text (q.1.grow hS.below) S.1 af
  ·obtain⟨O,G,hG,q,hL⟩:=s;have ap:fX fp fb (fs.map (·.text)) cb G w ((g++[some (.begin a.line f)])++q1.map some++q2.map some) f W':=⟨q.1.grow hS.below,q.2.trans (FB.of_below hS.below q.1.lt)⟩
   refine(emits (i:=.assign (dK f a.text) l.length) ap rfl (by simp;omega)).mono ?_
   rintro e w' ⟨H,D⟩;refine⟨H,G,hG,?_⟩;have e9:g++(aH.begin a.line f::(q1++q2)++[aH.assign (dK f a.text) l.length]).map some=(g++[some (.begin a.line f)])++q1.map some++q2.map some++[some (.assign (dK f a.text) l.length)]:=by simp
   rw[e9];exact D
 ·-- if,without else
  have S:Hs.ExOk fs false f d A/\Hs.StsOk (dD fs d) f N.kids:=by
   rcases Q with ⟨m,_⟩|⟨m,_⟩|⟨_,c',t',r,K,h4⟩|⟨m,_⟩|⟨m,_⟩|⟨m,_⟩|⟨m,_⟩
   rotate_left 2
   ·rcases r with r|⟨x,r,_⟩
    ·rw[j] at r;simp at r;rw[r.1,r.2];exact⟨K,h4⟩
    ·rw[j] at r;simp at r
   all_goals exact no n (by decide) m
  have E:=T7 fs f d a g.length A N n j;rw[E] at z ⊢
  have I:=L ⟨v1,[A],true⟩ (by simp)
  have ad:=L ⟨s1,N.kids,false⟩ (by simp)
  have M:=J.kid (k:=A) (by rw[j];simp)
  have ae:=J.kid (k:=N) (by rw[j];simp)
  obtain⟨Z,C,rfl⟩:=I.one'.form;obtain⟨x,c,rfl⟩:=ad.many.sliceC;generalize ag:aG fs f d A (g.length+1)=P at*;generalize ah:bG (aU fs d) f N.kids (g.length+1+P.length+1)=U at*;simp only[aw_,aB_,aI_] at z;refine GU w cb g.length a.line p Z (.agg C) x none N.kids.length 0 c 0 _ _ V ab (aa (by omega)) (fun W s=>?_)
  obtain⟨G,hG,q,_⟩:=s.cpB (.cells #[.int .i64 a.line,.iface Z (.agg C),.slice x N.kids.length c,.slice none 0 0] 334);refine(yJ (d:=d) IH Y X ac a.line _ _ _ A N.kids [] _ _ q.1 (I.one'.below q.2.bel) (ad.many.below q.2.bel) (av_ ⟨rfl,rfl⟩) S.1 S.2 trivial M (fun k r=>ae.kid r) (fun k r=>by simp at r) ae.len (by simp) P U [] (by rw[B];exact ag) (by rw[B];exact ah) rfl (by rw[B];simp;omega)).mono ?_
  rintro e w' ⟨H,D⟩;refine⟨H,?_⟩;have K:=(D.then q.2).more hG
  rw[B] at K;have e9:(g++[some (aH.begin a.line f)])++(P++[aH.skip (g.length+1+P.length+1+U.length+1)]++U++[aH.jump (g.length+1+P.length+1+U.length+1+([]:List aH).length)]++[]).map some=g++(aH.begin a.line f::P++[aH.skip (g.length+1+P.length+1+U.length+1)]++U++[aH.jump (g.length+1+P.length+1+U.length+1)]).map some:=by simp
  rw[e9] at K;exact K
 ·-- if,with else
  have S:Hs.ExOk fs false f d A/\Hs.StsOk (dD fs d) f N.kids/\Hs.StsOk (dD fs d) f b2.kids:=by
   rcases Q with ⟨m,_⟩|⟨m,_⟩|⟨_,c',t',r,K,h4⟩|⟨m,_⟩|⟨m,_⟩|⟨m,_⟩|⟨m,_⟩
   rotate_left 2
   ·rcases r with r|⟨x,r,h5⟩
    ·rw[j] at r;simp at r
    ·rw[j] at r;simp at r;rw[r.1,r.2.1,r.2.2];exact⟨K,h4,h5⟩
   all_goals exact no n (by decide) m
  have E:=T0 fs f d a g.length A N b2 n j;rw[E] at z ⊢
  have I:=L ⟨v1,[A],true⟩ (by simp)
  have ad:=L ⟨s1,N.kids,false⟩ (by simp)
  have ak:=L ⟨s2,b2.kids,false⟩ (by simp)
  have M:=J.kid (k:=A) (by rw[j];simp)
  have ae:=J.kid (k:=N) (by rw[j];simp)
  have am:=J.kid (k:=b2) (by rw[j];simp)
  obtain⟨Z,C,rfl⟩:=I.one'.form;obtain⟨x,c,rfl⟩:=ad.many.sliceC;obtain⟨x2,ao,rfl⟩:=ak.many.sliceC;generalize ag:aG fs f d A (g.length+1)=P at*;generalize ah:bG (aU fs d) f N.kids (g.length+1+P.length+1)=U at*;generalize bb:bG (aU fs d) f b2.kids (g.length+1+P.length+1+U.length+1)=ce at*;simp only[aw_,aB_,aI_] at z;refine GU w cb g.length a.line p Z (.agg C) x x2 N.kids.length b2.kids.length c ao _ _ V ab (aa (by omega)) (fun W s=>?_)
  obtain⟨G,hG,q,_⟩:=s.cpB (.cells #[.int .i64 a.line,.iface Z (.agg C),.slice x N.kids.length c,.slice x2 b2.kids.length ao] 334);refine(yJ (d:=d) IH Y X ac a.line _ _ _ A N.kids b2.kids _ _ q.1 (I.one'.below q.2.bel) (ad.many.below q.2.bel) (ak.many.below q.2.bel) S.1 S.2.1 S.2.2 M (fun k r=>ae.kid r) (fun k r=>am.kid r) ae.len am.len P U ce (by rw[B];exact ag) (by rw[B];exact ah) (by rw[B];exact bb) (by rw[B];omega)).mono ?_
  rintro e w' ⟨H,D⟩;refine⟨H,?_⟩;have K:=(D.then q.2).more hG
  rw[B] at K;have e9:(g++[some (aH.begin a.line f)])++(P++[aH.skip (g.length+1+P.length+1+U.length+1)]++U++[aH.jump (g.length+1+P.length+1+U.length+1+ce.length)]++ce).map some=g++(aH.begin a.line f::P++[aH.skip (g.length+1+P.length+1+U.length+1)]++U++[aH.jump (g.length+1+P.length+1+U.length+1+ce.length)]++ce).map some:=by simp
  rw[e9] at K;exact K
 ·-- while
  have S:Hs.ExOk fs false f d A/\Hs.StsOk (dD fs d) f N.kids:=by
   rcases Q with ⟨m,_⟩|⟨m,_⟩|⟨m,_⟩|⟨_,c',t',r,K,h4⟩|⟨m,_⟩|⟨m,_⟩|⟨m,_⟩
   rotate_left 3
   ·rw[j] at r;simp at r;rw[r.1,r.2];exact⟨K,h4⟩
   all_goals exact no n (by decide) m
  have E:=YC fs f d a g.length A N n j;rw[E] at z ⊢
  have I:=L ⟨v1,[A],true⟩ (by simp)
  have ad:=L ⟨s1,N.kids,false⟩ (by simp)
  have M:=J.kid (k:=A) (by rw[j];simp)
  have ae:=J.kid (k:=N) (by rw[j];simp)
  obtain⟨Z,C,rfl⟩:=I.one'.form;obtain⟨x,c,rfl⟩:=ad.many.sliceC;generalize ag:aG fs f d A (g.length+1)=P at*;generalize ah:bG (aU fs d) f N.kids (g.length+1+P.length+1)=U at*;simp only[aw_,aB_,aI_] at z;refine JZ w cb g.length a.line p Z (.agg C) x N.kids.length c _ _ V ab (aa (by omega)) (fun W s=>?_)
  obtain⟨G,hG,q,_⟩:=s.cpB (.cells #[.int .i64 a.line,.iface Z (.agg C),.slice x N.kids.length c] 336);refine(D5 (d:=d) IH Y X ac a.line g.length _ _ A N.kids _ _ q.1 (I.one'.below q.2.bel) (ad.many.below q.2.bel) S.1 S.2 M (fun k r=>ae.kid r) ae.len P U (by rw[B];exact ag) (by rw[B];exact ah) (by rw[B];omega)).mono ?_
  rintro e w' ⟨H,D⟩;refine⟨H,?_⟩;have K:=(D.then q.2).more hG
  rw[B] at K;have e9:(g++[some (aH.begin a.line f)])++(P++[aH.skip (g.length+1+P.length+1+U.length+1)]++U++[aH.jump g.length]).map some=g++(aH.begin a.line f::P++[aH.skip (g.length+1+P.length+1+U.length+1)]++U++[aH.jump g.length]).map some:=by simp
  rw[e9] at K;exact K
 ·-- return,without a value
  have E:=NJ fs f d a g.length n j;rw[E] at z ⊢
  simp only[aB_,aI_] at z;refine sO w cb g.length a.line p _ _ _ _ (fun W=>MK fp fb (fs.map (·.text)) cb F w ((g++[some (aH.begin a.line f)])++[some (.push (bC 0))]) f W) V ab (aa (by omega)) (fun W s=>?_) (fun W s=>?_)
  ·obtain⟨G,hG,q,_⟩:=s.cpB (.cells #[.int .i64 a.line,.iface 397 (.agg #[.int .i64 l,.int .i64 0])] 338);obtain⟨G2,ay,ar,_⟩:=q.cpB (.cells #[.int .i64 l,.int .i64 0] 397);refine(sR _ cb l 0 _ (emits (i:=.push (bC 0)) ar ⟨_,rfl,PV.num _ _ _ (by omega) (by omega),by rw[kA];omega⟩ (by simp;omega))).mono ?_
   rintro e w' ⟨H,D⟩;exact⟨H,G2,fun k r=>ay k (hG k r),D⟩
  ·obtain⟨G,hG,q⟩:=s;refine(emits (i:=.give) q rfl (by simp;omega)).mono ?_
   rintro e w' ⟨H,D⟩;refine⟨H,G,hG,?_⟩;have e9:g++([aH.begin a.line f,.push (bC 0),.give]).map some=(g++[some (aH.begin a.line f)])++[some (.push (bC 0))]++[some .give]:=by simp
   rw[e9];exact D
 ·-- return
  have S:Hs.ExOk fs false f d A:=by
   rcases Q with ⟨m,_⟩|⟨m,_⟩|⟨m,_⟩|⟨m,_⟩|⟨_,r⟩|⟨m,_⟩|⟨m,_⟩
   rotate_left 4
   ·rcases r with r|⟨v',r,K⟩
    ·rw[j] at r;simp at r
    ·rw[j] at r;simp at r;rw[r];exact K
   all_goals exact no n (by decide) m
  have E:=NI fs f d a g.length A n j;rw[E] at z ⊢
  have I:=L ⟨v1,[A],true⟩ (by simp)
  have M:=J.kid (k:=A) (by rw[j];simp)
  obtain⟨Z,C,rfl⟩:=I.one'.form;simp only[aw_,aB_,aI_] at z;refine sO w cb g.length a.line p _ _ _ _ (fun W=>∃O,pT fp fb (fs.map (·.text)) cb F w O O.heap.size (.cells #[.int .i64 a.line,.iface Z (.agg C)] 338) f ((g++[some (aH.begin a.line f)])++(aG fs f d A (g.length+1)).map some) W) V ab (aa (by omega)) (fun W s=>?_) (fun W s=>?_)
  ·refine((s.cpB _).exprk Y X ac _ A I.one' S M (by rw[B];omega)).mono ?_
   rintro e w' ⟨H,D⟩;rw[B] at D;exact⟨H,W,D⟩
  ·obtain⟨O,s⟩:=s;refine(s.emit (u:=.iface 363 (.agg #[])) (i:=some .give) (fun _=>rfl) (by simp;omega)).mono ?_
   rintro e w' ⟨H,D⟩;refine⟨⟨_,H⟩,?_⟩;have e9:g++(aH.begin a.line f::aG fs f d A (g.length+1)++[aH.give]).map some=(g++[some (aH.begin a.line f)])++(aG fs f d A (g.length+1)).map some++[some .give]:=by simp
   rw[e9];exact D.fin
 ·-- print
  have S:Hs.ExOk fs false f d A:=by
   rcases Q with ⟨m,_⟩|⟨m,_⟩|⟨m,_⟩|⟨m,_⟩|⟨m,_⟩|⟨_,v',r,K⟩|⟨m,_⟩
   rotate_left 5
   ·rw[j] at r;simp at r;rw[r];exact K
   all_goals exact no n (by decide) m
  have E:=YD fs f d a g.length A n j;rw[E] at z ⊢
  have I:=L ⟨v1,[A],true⟩ (by simp)
  have M:=J.kid (k:=A) (by rw[j];simp)
  obtain⟨Z,C,rfl⟩:=I.one'.form;simp only[aw_,aB_,aI_] at z;refine KA w cb g.length a.line p _ _ _ _ (fun W=>∃O,pT fp fb (fs.map (·.text)) cb F w O O.heap.size (.cells #[.int .i64 a.line,.iface Z (.agg C)] 339) f ((g++[some (aH.begin a.line f)])++(aG fs f d A (g.length+1)).map some) W) V ab (aa (by omega)) (fun W s=>?_) (fun W s=>?_)
  ·refine((s.cpB _).exprk Y X ac _ A I.one' S M (by rw[B];omega)).mono ?_
   rintro e w' ⟨H,D⟩;rw[B] at D;exact⟨H,W,D⟩
  ·obtain⟨O,s⟩:=s;refine(s.emit (u:=.iface 448 (.agg #[])) (i:=some .print) (fun _=>rfl) (by simp;omega)).mono ?_
   rintro e w' ⟨H,D⟩;refine⟨⟨_,H⟩,?_⟩;have e9:g++(aH.begin a.line f::aG fs f d A (g.length+1)++[aH.print]).map some=(g++[some (aH.begin a.line f)])++(aG fs f d A (g.length+1)).map some++[some .print]:=by simp
   rw[e9];exact D.fin
 ·-- a call alone
  have S:Hs.ExOk fs false f d c:=by
   rcases Q with ⟨m,_⟩|⟨m,_⟩|⟨m,_⟩|⟨m,_⟩|⟨m,_⟩|⟨m,_⟩|⟨_,v',r,K⟩
   rotate_left 6
   ·rw[j] at r;simp at r;rw[r];exact K
   all_goals exact no n (by decide) m
  have E:=l9 fs f d a g.length c n j;rw[E] at z ⊢
  rw[<-av];have hp:=L ⟨sv,c.kids,false⟩ (by simp)
  have M:=J.kid (k:=c) (by rw[j];simp)
  obtain⟨x,cp,rfl⟩:=hp.many.sliceC;simp only[aw_,aB_,aI_] at z;refine NG w cb g.length a.line p _ _ _ _ _ _ (fun W=>MK fp fb (fs.map (·.text)) cb F w ((g++[some (aH.begin a.line f)])++(aG fs f d c (g.length+1)).map some) f W) V ab (aa (by omega)) (fun W s=>?_) (fun W s=>?_)
  ·cases d with
   |zero=>exact S.elim
   |succ d=>
    obtain⟨G,hG,q,_⟩:=s.cpB (.cells #[.int .i64 a.line,.string (bs c.text),.slice x c.kids.length cp] 341);refine(E5 (rY (by omega) Y X d) Y X c _ a.line _ _ q.1 aj (hp.many.below q.2.bel) S (M _) (by rw[B];omega)).mono ?_
    rintro e w' ⟨H,D⟩;rw[B] at D;exact⟨H,G,hG,D.then q.2⟩
  ·obtain⟨G,hG,q⟩:=s;refine(emits (i:=.drop) q rfl (by simp;omega)).mono ?_
   rintro e w' ⟨H,D⟩;refine⟨H,G,hG,?_⟩;have e9:g++(aH.begin a.line f::aG fs f d c (g.length+1)++[aH.drop]).map some=(g++[some (aH.begin a.line f)])++(aG fs f d c (g.length+1)).map some++[some .drop]:=by simp
   rw[e9];exact D
def XD(a:fs.length<=1000000)(b:∀k,k<fs.length->fp k=.pointer (some ⟨fb k,0,none⟩)):∀d,RO fp fb fs cb lo d
 |0=>fun _ _ _ _ _ _ _ _ h=>h.elim
 |d+1=>O9 (XD a b d) a b
end
def E8(w:World)(cb:Nat)(l:Int)(tx:ByteArray)(s g:Option Addr)(b H p r:Nat)(P:Value->World->Prop)(I:Nat->World->Prop)(Q R S:World->Prop)(hl:cb<w.heap.size)(T:b<=1000000)
 (c1:∃u,w.cell? ⟨cb,1,none⟩=some u) (v:∃u,w.cell? ⟨cb,2,none⟩=some u) (X:w.frozen? ⟨cb,1,none⟩=false) (f2:w.frozen? ⟨cb,2,none⟩=false)
 (K:Hid (I 0 (((w.setCell ⟨cb,1,none⟩ (.slice none 0 0)).setCell ⟨cb,2,none⟩ (.pointer none)).alloc (.cells #[.int .i64 l,.string tx,.slice s b H,.slice g p r] 215))))
 (Z:Hid (∀j W,I j W->j<b->∃f C o,s=some ⟨f,0,none⟩/\f<W.heap.size/\W.cell? ⟨f,j*2,none⟩=some (.int .i64 C)/\W.cell? ⟨f,j*2+1,none⟩=some (.string o)/\Calls prog 236 #[.pointer (some ⟨cb,0,none⟩),.string o] (W.alloc (.cells #[.int .i64 C,.string o] 211)) fun e d=>e=.returned (.tuple #[])/\I (j+1) d))
 (Y:Hid (∀W,I b W->W.cell? ⟨w.heap.size,3,none⟩=some (.slice g p r)/\w.heap.size<W.heap.size/\Calls prog 237 #[.pointer (some ⟨cb,0,none⟩),.slice g p r] W fun e d=>e=.returned (.tuple #[])/\Q d))
 (HE:Hid (∀W,Q W->Calls prog 238 #[.pointer (some ⟨cb,0,none⟩),.iface 361 (.agg #[.iface 315 (.int .i64 0)])] W fun e d=>(∃k:Nat,e=.returned (.int .i64 k))/\R d))
 (V:Hid (∀W,R W->Calls prog 238 #[.pointer (some ⟨cb,0,none⟩),.iface 363 (.agg #[])] W fun e d=>(∃k:Nat,e=.returned (.int .i64 k))/\S d))
 (HS:Hid (∀W,S W->cb<W.heap.size/\∃x n c,W.cell? ⟨cb,1,none⟩=some (.slice x n c)/\P (.slice x n c) W)):
 Calls prog 173 #[.pointer (some ⟨cb,0,none⟩),.agg #[.int .i64 l,.string tx,.slice s b H,.slice g p r]] w fun e d=>∃E,e=.returned E/\P E d:=by
 obtain⟨u1,c1⟩:=c1;obtain⟨u2,v⟩:=v;have O:¬cb=w.heap.size:=by omega
 have J:¬w.heap.size=cb:=by omega
 go_enter func173,ntmps173;go_wp2_with fail;go_loopg [6,16] b (fun gk _ i wr=>∃j:Nat,j+gk=b/\i=.int .i64 j/\I j wr)
 case atStart=>exact⟨0,by omega,rfl,K.out⟩
 case round=>
  obtain⟨j,hj,rfl,h⟩:=hrel;clear c1 v X f2 K;by_cases t:j<b
  ·obtain⟨m,rfl⟩:∃m,gk=m+1:=⟨gk-1,by omega⟩
   obtain⟨f,C,o,rfl,hg,F,N,a⟩:=Z.out _ _ h t;have B:=aB a;have e1:(0:Int)<=(j:Int):=by omega
   have e2:(j:Int)<(b:Int):=by omega
   clear h a;go_wp2_with fail;refine B.out.mono ?_;rintro e M ⟨rfl,q⟩;go_wp2_with fail;go_roundg m
   case measure=>omega
   case rel=>exact⟨j+1,by omega,by go_num,q⟩
  ·have y:j=b:=by omega
   subst y;obtain⟨F,N,a⟩:=Y.out _ h;have B:=aB a;clear h a;go_wp2_with fail;refine B.out.mono ?_;rintro e M ⟨rfl,q⟩;have A:=aB (HE.out _ q);clear q F;go_wp2_with fail;refine A.out.mono ?_;rintro e w2 ⟨⟨k,rfl⟩,D⟩;have z:=aB (V.out _ D);clear D;go_wp2_with fail;refine z.out.mono ?_;rintro e w3 ⟨⟨k2,rfl⟩,G⟩;obtain⟨g1,x,n,c,g2,L⟩:=HS.out _ G;have U:=aB L;clear G L;go_wp2_with fail;go_ret;exact⟨_,rfl,U.out⟩
def Y3:(prog.info? 188).map (fun i=>(i.zero,i.size,i.bytes))=some (some (.pointer none),1,8):=by kernel_rfl
def LW(w:World)(p n ad:Nat)(P:Value->World->Prop)(H:Nat->World->Prop)(K:Nat->World->Prop)(hn:n<=1000000)
 (H0:Hid (H 0 (w.alloc (.cells #[.slice none 0 0,.slice none 0 0,.pointer none] 276))))
 (Y:Hid (∀j W,H j W->j<n->w.heap.size<W.heap.size/\p<W.heap.size/\∃l t z s r q y h x c M O L,W.cell? ⟨p,j*4,none⟩=some (.int .i64 l)/\W.cell? ⟨p,j*4+1,none⟩=some (.string t)/\W.cell? ⟨p,j*4+1+1,none⟩=some (.slice z s r)/\W.cell? ⟨p,j*4+1+1+1,none⟩=some (.slice q y h)/\
   W.heap[w.heap.size]?=some (.cells #[.slice x j c,O,L] 276 (0,0))/\W.ownsRow (w.heap.size+1) 188 1 (.slice x j c) j M/\
   ∀W3 F d D,W3=((W.alloc (.cells #[.int .i64 l,.string t,.slice z s r,.slice q y h] 215)).alloc (.cells #[.string t,.slice none 0 0] 250)).alloc (.cells #[.pointer (some ⟨W.heap.size+1,0,none⟩)] 188)->
    D.ownsRow (w.heap.size+1) 188 1 (.slice (some ⟨F,0,none⟩) (j+1) d) (j+1) (M++[.pointer (some ⟨W.heap.size+1,0,none⟩)])->W3.grownBy D (Value.slice x j c).ownBlock->((Value.slice x j c).ownBlock=some F\/F=W.heap.size+3)->D.heap[w.heap.size]?=some (.cells #[.slice x j c,O,L] 276 (0,0))->H (j+1) (D.setCell ⟨w.heap.size,0,none⟩ (.slice (some ⟨F,0,none⟩) (j+1) d))))
 (I:Hid (∀W,H n W->K 0 W))
 (H2:Hid (∀j W,K j W->j<n->w.heap.size<W.heap.size/\p<W.heap.size/\∃l t z s r q y h g c fb,W.cell? ⟨p,j*4,none⟩=some (.int .i64 l)/\W.cell? ⟨p,j*4+1,none⟩=some (.string t)/\W.cell? ⟨p,j*4+1+1,none⟩=some (.slice z s r)/\W.cell? ⟨p,j*4+1+1+1,none⟩=some (.slice q y h)/\
   W.cell? ⟨w.heap.size,0,none⟩=some (.slice (some ⟨g,0,none⟩) n c)/\g<W.heap.size/\W.cell? ⟨g,j,none⟩=some (.pointer (some ⟨fb,0,none⟩))/\
   ∀W',aQ (W.alloc (.cells #[.int .i64 l,.string t,.slice z s r,.slice q y h] 215)) W'->Calls prog 173 #[.pointer (some ⟨w.heap.size,0,none⟩),.agg #[.int .i64 l,.string t,.slice z s r,.slice q y h]] W' fun e f=>∃x n3 c3,e=.returned (.slice x n3 c3)/\
    w.heap.size<f.heap.size/\(∃Q h,f.cell? ⟨w.heap.size,0,none⟩=some (.slice (some ⟨Q,0,none⟩) n h)/\Q<f.heap.size/\f.cell? ⟨Q,j,none⟩=some (.pointer (some ⟨fb,0,none⟩)))/\g<f.heap.size/\f.cell? ⟨g,j,none⟩=some (.pointer (some ⟨fb,0,none⟩))/\fb<f.heap.size/\(∃u,f.cell? ⟨fb,1,none⟩=some u)/\f.frozen? ⟨fb,1,none⟩=false/\K (j+1) (f.setCell ⟨fb,1,none⟩ (.slice x n3 c3))))
 (H3:Hid (∀W,K n W->Calls prog 174 #[.pointer (some ⟨w.heap.size,0,none⟩),.string ⟨#[109,97,105,110]⟩] W fun e f=>∃v,e=.returned (.pointer v)/\P (.pointer v) f)):
 Calls prog 123 #[.slice (some ⟨p,0,none⟩) n ad] w fun e f=>∃v,e=.returned v/\P v f:=by
 obtain⟨i0,hi,aa,ae,ab⟩:=info_parts Y3;go_enter func123,ntmps123;go_wp2_with fail;go_loopg [5,10] n (fun gk _ i wr=>∃j:Nat,j+gk=n/\i=.int .i64 j/\H j wr)
 case atStart=>exact⟨0,by omega,rfl,H0.out⟩
 case round=>
  obtain⟨j,hj,rfl,A⟩:=hrel;clear H0;by_cases E:j<n
  ·obtain⟨m,rfl⟩:∃m,gk=m+1:=⟨gk-1,by omega⟩
   obtain⟨G,Z,l,t,z,s,r,q,y,h,x,c,M,O,L,d1,d2,d3,d4,N,V,U⟩:=Y.out _ _ A E;have HO:=aB V;have HB:=aB N;have HK:=aB U;have q0:wr.cell? ⟨w.heap.size,0,none⟩=some (.slice x j c):=aA N rfl;have e1:(0:Int)<=(j:Int):=by omega
   have e2:(j:Int)<(n:Int):=by omega
   clear A N V U Y;have HN:Hid (∀W:World,W.heap[wr.heap.size+1+1]?=some (.cells #[.pointer (some ⟨wr.heap.size+1,0,none⟩)] 188 (0,0))->∀k v,([.pointer (some ⟨wr.heap.size+1,0,none⟩)]:List Value)[k]?=some v->W.cell? ((⟨wr.heap.size+1+1,0,none⟩:Addr).add k)=some v):=fun W hW k v hk=>World.news_of_block hW k v (by simpa using hk)
   have HL:Hid ((((wr.alloc (.cells #[.int .i64 l,.string t,.slice z s r,.slice q y h] 215)).alloc (.cells #[.string t,.slice none 0 0] 250)).alloc (.cells #[.pointer (some ⟨wr.heap.size+1,0,none⟩)] 188)).heap[wr.heap.size+1+1]?=some (.cells #[.pointer (some ⟨wr.heap.size+1,0,none⟩)] 188 (0,0))):=aM _ _ (by simp) _
   have B:∀v∈([.pointer (some ⟨wr.heap.size+1,0,none⟩)]:List Value),v.oneCell'=true:=fun v hv=>by simp at hv;rw[hv];rfl
   have HONE:=aB B;clear B;go_wp2_with (at_builtin;refine wpList_append_lies _ (by rfl) _ _ 274 (by rfl) (w.heap.size+1) 188 i0 _ 1 8 underlying274 hi aa ae ab rfl (by decide) (.slice x j c) j M (by rfl) (((HO.out.alloc _).alloc _).alloc _) ⟨wr.heap.size+1+1,0,none⟩ 1 1 [_] (by rfl) (by rfl) (HN.out _ HL.out) HONE.out (by decide) (by unfold maxLen;omega) (by omega) (by simp;omega) (wr.heap.size+3) (by simp) ?_)
   intro F d D o b C ac;have T:some w.heap.size≠(Value.slice x j c).ownBlock:=fun e=>by have:=(HO.out.lt _ e.symm).1;omega
   have a:D.heap[w.heap.size]?=some (.cells #[.slice x j c,O,L] 276 (0,0)):=by
    rw[b.block _ (by simp;omega) T,aA_ _ _ _ (by simp;omega),aA_ _ _ _ (by simp;omega),aA_ _ _ _ G];exact HB.out
   have ag:D.cell? ⟨w.heap.size,0,none⟩=some (.slice x j c):=aA a rfl;have ai:=aE a (i:=0);have af:=aD a;have HFIN:=aB (HK.out _ F d D rfl o b C a);clear o b C a ac q0 d1 d2 d3 d4;go_wp2_with fail;go_roundg m
   case measure=>omega
   case rel=>exact⟨j+1,by omega,by go_num,HFIN.out⟩
  ·have X:j=n:=by omega
   subst X;have J:=aB (I.out _ A);clear A I Y;go_wp2_with fail;go_loopg [6,7,27] j (fun gk _ _ i wr=>∃k:Nat,k+gk=j/\i=.int .i64 k/\K k wr)
   case atStart=>exact⟨0,by omega,rfl,J.out⟩
   case round=>
    obtain⟨k,aj,rfl,A⟩:=hrel;clear J;by_cases E:k<j
    ·obtain⟨m,rfl⟩:∃m,gk=m+1:=⟨gk-1,by omega⟩
     obtain⟨G,Z,l,t,z,s,r,q,y,h,g,c,fb,d1,d2,d3,d4,N,V,U,d8⟩:=H2.out _ _ A E;have HX:=aB (d8 _ (aQ.drew _));have e1:(0:Int)<=(k:Int):=by omega
     have e2:(k:Int)<(j:Int):=by omega
     clear A d8 H2 H3;go_wp2_with fail;go_region_law (go_simp;go_at_call 173;refine HX.out.mono ?_;rintro e w1 ⟨x,n3,c3,rfl,a1,⟨Q,ah,b1,b2,b3⟩,a3,a4,a5,⟨u,a6⟩,a7,a8⟩;have HF:=aB a8;clear a8)
     all_goals
      go_wp2_with fail;go_roundg m
      case measure=>omega
      case rel=>exact⟨k+1,by omega,by go_num,HF.out⟩
    ·have S:k=j:=by omega
     subst S;have HX:=aB (H3.out _ A);clear A H2 H3;go_wp2_with fail;refine HX.out.mono ?_;rintro e w1 ⟨v,rfl,h1⟩;have HF:=aB h1;clear h1;go_wp2_with fail;go_ret;exact⟨_,rfl,HF.out⟩
section
variable {fp:Nat->Value} {fb:Nat->Nat} {fs:List aC} {cb lo d:Nat} {F:Nat->Prop}
def CQ(fp:Nat->Value)(fb:Nat->Nat)(nms:List (List UInt8))(cb:Nat)(F:Nat->Prop)(w:World):Prop:=
 (∃fv cv sp,w.heap[cb]?=some (.cells #[fv,cv,sp] 276 (0,0))/\JG fp fb nms F w fv)/\∀k,F k->k<w.heap.size/\k≠cb
def IT(fs:List aC)(d:Nat){f b:aC}{ps:List aC}(a:f.kids=ps++[b]):(eX fs d f).code=bG (aU fs d) (ps.map (·.text)).reverse b.kids 0++[.push (bC 0),.give]:=by simp[eX,a]
def P6(ak:fs.length<=1000000)(ah:∀k,k<fs.length->fp k=.pointer (some ⟨fb k,0,none⟩)){w:World}(h:CQ fp fb (fs.map (·.text)) cb F w)(f:aC)(v:Value)(hv:AC (Btw lo cb) w v f)(ae:iC fs d f)(Y:∀k∈f.kids,mJ k)(aa:f.kids.length<=90000):
 Calls prog 173 #[.pointer (some ⟨cb,0,none⟩),v] w fun e r=>∃cv,e=.returned cv/\∃G q,(∀k,F k->G k)/\CP fp fb (fs.map (·.text)) cb G r ((eX fs d f).code.map some) q/\r.cell? ⟨cb,1,none⟩=some cv/\Below cb w r/\∀k,F k->r.heap[k]?=w.heap[k]?:=by
 obtain⟨⟨fv,ao,aw,n,X⟩,u⟩:=h;obtain⟨pv,bv,ps,b,rfl,m,V,ap,ac⟩:=hv;obtain⟨px,pc,rfl⟩:=V.slice;obtain⟨bx,bc,rfl⟩:=ac.sliceC;obtain⟨⟨g,t,O,af,_⟩,E⟩:=ae
 obtain⟨rfl,ad⟩:g=ps/\t=b:=by
  rw[m] at O;have:=bh_ O rfl;simp at this;exact⟨this.1.symm,this.2.symm⟩
 subst ad;rw[IT fs d m] at E ⊢
 simp only[aw_,aB_,aI_] at E;rw[m] at aa;simp only[aw_,aB_,aI_] at aa;have Z:=aD n;obtain⟨s,z⟩:∃s,s=(w.setCell ⟨cb,1,none⟩ (.slice none 0 0)).setCell ⟨cb,2,none⟩ (.pointer none):=⟨_,rfl⟩;have J:Below cb w s:=by rw[z];exact((ay_ cb w).setCell (au_ _) _).setCell (au_ _) _
 have Q:s.heap.size=w.heap.size:=by rw[z];simp
 have U:∀k,k≠cb->s.heap[k]?=w.heap[k]?:=fun k m=>by rw[z,ax_ _ _ _ _ m,ax_ _ _ _ _ m]
 have P:∀k,F k->s.heap[k]?=w.heap[k]?:=fun k m=>U k (u k m).2
 have y:s.heap[cb]?=some (.cells #[fv,.slice none 0 0,.pointer none] 276 (0,0)):=by
  rw[z,aS (aS n)];rfl
 have H:CP fp fb (fs.map (·.text)) cb F s [] []:=by
  refine⟨⟨fv,_,_,y,⟨[],World.ownsRow_nil _ _ _ _,rfl,fun i o ho=>by simp at ho⟩,rfl,X.keep P (fun _ h=>h) (by omega)⟩,fun k m=>⟨by rw[Q];exact(u k m).1,(u k m).2,?_⟩⟩
  rw[iX y];simp[Value.ownBlock]
 obtain⟨T,ab⟩:=H.new (.cells #[.int .i64 f.line,.string (bs f.text),.slice px g.length pc,.slice bx t.kids.length bc] 215);rw[Q] at T
 refine(E8 w cb f.line (bs f.text) px bx g.length pc t.kids.length bc (fun cv r=>∃G q,(∀k,F k->G k)/\CP fp fb (fs.map (·.text)) cb G r ((bG (aU fs d) (g.map fun a=>a.text).reverse t.kids 0++[aH.push (bC 0),aH.give]).map some) q/\r.cell? ⟨cb,1,none⟩=some cv/\Below cb w r/\∀k,F k->r.heap[k]?=w.heap[k]?)
  (fun j W=>∃G,(∀k,F k->G k)/\CP fp fb (fs.map (·.text)) cb G W [] ((g.take j).map fun a=>a.text).reverse/\Loc cb s w.heap.size (.cells #[.int .i64 f.line,.string (bs f.text),.slice px g.length pc,.slice bx t.kids.length bc] 215) W)
  (fun W=>∃G q,(∀k,F k->G k)/\fX fp fb (fs.map (·.text)) cb G s ((bG (aU fs d) (g.map fun a=>a.text).reverse t.kids 0).map some) q W)
  (fun W=>∃G q,(∀k,F k->G k)/\fX fp fb (fs.map (·.text)) cb G s ((bG (aU fs d) (g.map fun a=>a.text).reverse t.kids 0).map some++[some (aH.push (bC 0))]) q W)
  (fun W=>∃G q,(∀k,F k->G k)/\fX fp fb (fs.map (·.text)) cb G s ((bG (aU fs d) (g.map fun a=>a.text).reverse t.kids 0).map some++[some (aH.push (bC 0))]++[some aH.give]) q W)
  Z (by omega) ⟨_,aA n rfl⟩ ⟨_,aA n rfl⟩ (aE n) (aE n) ?_ (fun j W D hj=>?_) (fun W D=>?_) (fun W D=>?_) (fun W D=>?_) (fun W D=>?_))
 ·show ∃G,_
  rw[<-z];exact⟨F,fun _ h=>h,ab,T⟩
 ·obtain⟨G,C,B,K⟩:=D;rcases V.get with ⟨_,S⟩|⟨pg,an,am,M,au,av,I⟩
  ·rw[S] at hj;simp at hj
  cases am;obtain⟨al,aj⟩:=I j hj;have A:Below cb w W:=J.trans K.fb.bel;refine⟨pg,_,_,rfl,az_ (Nat.lt_trans M.2 Z) A.size,(A.cell (p:=⟨pg,j*2,none⟩) M.2).trans al,(A.cell (p:=⟨pg,j*2+1,none⟩) M.2).trans aj,?_⟩;obtain⟨ai,N⟩:=B.new (.cells #[.int .i64 g[j].line,.string (bs g[j].text)] 211);refine(WM g[j].text N (by simp;omega)).mono ?_
  rintro e r ⟨L,q1,q2⟩;refine⟨L,fun k=>G k\/k=(W.alloc (.cells #[.int .i64 g[j].line,.string (bs g[j].text)] 211)).heap.size,fun k m=>av_ (C k m),?_,K.step (ai.fb.trans q2)⟩
  have e9:((g.take (j+1)).map (·.text)).reverse=g[j].text::((g.take j).map (·.text)).reverse:=by
   rw[aT_ hj,a7_,List.reverse_append];rfl
  rw[e9];exact q1
 ·obtain⟨G,C,B,K⟩:=D;rw[a0_ (au_ _)] at B;have A:Below cb w W:=J.trans K.fb.bel;refine⟨aA K.blk rfl,aD K.blk,?_⟩;refine(pQ (XD ak ah d) _ t.kids [] W B (ac.below A) af (fun a ha=>(Y t (by rw[m];simp)).kid ha) (Y t (by rw[m];simp)).len (by simp;omega) (by simp;omega)).mono ?_
  rintro e r ⟨L,G2,ag,l⟩;exact⟨L,G2,_,fun k m=>ag k (C k m),by simpa using l.then K.fb⟩
 ·obtain⟨G,q,C,l⟩:=D;refine(emits (i:=.push (bC 0)) l ⟨_,rfl,PV.num _ _ _ (by omega) (by omega),by rw[kA];omega⟩ (by simp;omega)).mono ?_
  rintro e r ⟨L,h2⟩;exact⟨L,G,q,C,h2⟩
 ·obtain⟨G,q,C,l⟩:=D;refine(emits (i:=.give) l rfl (by simp;omega)).mono ?_
  rintro e r ⟨L,h2⟩;exact⟨L,G,q,C,h2⟩
 ·obtain⟨G,q,C,l⟩:=D;obtain⟨ar,aq,ax,g1,⟨xs,g2,g3⟩,g4,g5⟩:=l.1.blk;obtain⟨x,c,rfl⟩:=cU g2;refine⟨l.1.lt,x,_,c,aA g1 rfl,G,q,C,?_,aA g1 rfl,J.trans l.2.bel,fun k m=>?_⟩
  ·have:=l.1;simpa using this
  ·rw[H.fixed l.2 k m,P k m]
end
def R3(w:World)(b:Nat):Prop:=∀c,w.heap[b]?≠some (.cells c 250 (0,0))
def eE.notFn{F:Nat->Prop}{w:World}:∀{l:List (List UInt8)} {v:Value},eE F w v l->eE (fun b=>F b/\R3 w b) w v l
 |[],_,h=>h
 |_::_,_,⟨b,o,g,d,a,f⟩=>⟨b,o,g,⟨d,fun c e=>by rw[a] at e;cases e⟩,a,eE.notFn f⟩
def VR.notFn{F:Nat->Prop}{w:World}:∀{d:Nat} {v:Value} {a:aJ},VR d F w v a->VR d (fun b=>F b/\R3 w b) w v a
 |0,_,_,h=>h.elim
 |d+1,v,a,h=>by
  rcases h with h|h|h|⟨s,l,q,p,k⟩
  ·exact av_ h
  ·exact as_ (av_ h)
  ·exact as_ (as_ (av_ h))
  ·refine as_ (as_ (as_ ⟨s,l,q,p,?_⟩));rcases k with k|⟨g,f,j,y,r,m,z,o⟩
   ·exact av_ k
   ·refine as_ ⟨g,f,j,y,⟨r,fun c e=>by rw[m] at e;cases e⟩,m,z,fun i t=>?_⟩
    obtain⟨u,n,x⟩:=o i t;exact⟨u,n,VR.notFn x⟩
def lC.notFn{e:Nat->Value}{F:Nat->Prop}{w:World}{v:Value}{i:aH}(h:lC e F w v i):lC e (fun b=>F b/\R3 w b) w v i:=by
 cases i<;>first
  |exact h
  |(obtain⟨f,c,a⟩:=h;exact⟨f,c,a.notFn⟩)
  |(obtain⟨u,c,⟨d,a⟩,g⟩:=h;exact⟨u,c,⟨d,a.notFn⟩,g⟩)
def lC.setFn{d:Nat->Value}{F G:Nat->Prop}{w:World}{v u:Value}{i:aH}{b o:Nat}{c:Array Value}(h:lC d F w v i)(f:w.heap[b]?=some (.cells c 250 (0,0)))(g:∀b,F b->G b):lC d G (w.setCell ⟨b,o,none⟩ u) v i:=
 h.notFn.keep (fun k a=>ax_ _ _ _ _ fun e=>a.2 c (by rw[e];exact f)) fun k a=>g k a.1
section
variable {fp:Nat->Value} {fb:Nat->Nat} {nms:List (List UInt8)} {cb:Nat} {F:Nat->Prop} {w:World}
def LZ(a:List UInt8)(h:CQ fp fb nms cb F w)(v:a∈nms)(O:nms.length<=1000000):
 Calls prog 174 #[.pointer (some ⟨cb,0,none⟩),.string (bs a)] w fun e B=>e=.returned (fp (nms.findIdx fun x=>x==a))/\B=w:=by
 obtain⟨⟨T,L,J,p,C⟩,_⟩:=h;rcases C with ⟨rfl,_⟩|⟨g,q,rfl,H,t,I,b⟩
 ·cases v
 have N:=aD p;have M:w.cell? ⟨cb,0,none⟩=some (.slice (some ⟨g,0,none⟩) nms.length q):=aA p rfl;have u:=aB b;clear p b;go_enter func174,ntmps174;go_wp2_with fail;go_loopg [6,12] nms.length (fun gk _ i wr=>∃j:Nat,j+gk=nms.length/\i=.int .i64 j/\j<=nms.findIdx (fun x=>x==a)/\wr=w)
 case atStart=>exact⟨0,by omega,rfl,a9_ _,rfl⟩
 case round=>
  obtain⟨j,S,rfl,f,rfl⟩:=hrel;have s:nms.findIdx (fun x=>x==a)<nms.length:=List.findIdx_lt_length_of_exists ⟨a,v,by simp⟩
  have o:j<nms.length:=by omega
  obtain⟨m,rfl⟩:∃m,gk=m+1:=⟨gk-1,by omega⟩
  obtain⟨G,k,Q,x,n⟩:=u.out j o;rw[k] at G;have E:wr.cell? ⟨fb j,0,none⟩=some (.string (bs nms[j])):=aA n rfl;have z:=aD n;have P:(0:Int)<=(j:Int):=by omega
  have K:(j:Int)<(nms.length:Int):=by omega
  by_cases l:nms[j]=a
  ·have r:nms.findIdx (fun x=>x==a)=j:=by
    refine Nat.le_antisymm (Nat.not_lt.1 fun c=>?_) f
    have:=List.not_of_lt_findIdx c;simp[l] at this
   have D:=aB k;rw[l] at E;clear n k u;go_wp2_with fail;go_ret;exact⟨by rw[r,D.out];rfl,rfl⟩
  ·have A:((bs nms[j]).toList==(bs a).toList)=false:=by rw[cA,cA];simpa using l
   have d:j+1<=nms.findIdx (fun x=>x==a):=by
    rcases bm_ f with e|e
    ·have:=bN_ (w:=s);simp only[<-e] at this;simp at this;exact absurd this l
    ·exact e
   generalize nms[j]=y at*;clear n k;go_wp2_with fail;go_roundg m
   case measure=>omega
   case rel=>exact⟨j+1,by omega,by go_num,d,rfl⟩
end
def nV(bl:List Nat)(k:Nat):Nat:=bl[k]?.getD 0
def DB(bl:List Nat)(k:Nat):Value:=.pointer (some ⟨nV bl k,0,none⟩)
def oI{a:List Nat}{k:Nat}(h:k<a.length):nV a k=a[k]:=by simp[nV,h]
def CI1(w:World)(fs:List aC)(j:Nat)(W:World):Prop:=
 ∃(x:Option Addr) (c:Nat) (bl:List Nat),j<=fs.length/\W.heap[w.heap.size]?=some (.cells #[.slice x j c,.slice none 0 0,.pointer none] 276 (0,0))/\bl.length=j/\W.ownsRow (w.heap.size+1) 188 1 (.slice x j c) j (bl.map fun b=>.pointer (some ⟨b,0,none⟩))/\bl.Nodup/\
  (∀i (h:i<fs.length),∀b,bl[i]?=some b->W.heap[b]?=some (.cells #[.string (bs fs[i].text),.slice none 0 0] 250 (0,0))/\w.heap.size<b/\b<W.heap.size/\(Value.slice x j c).ownBlock≠some b)/\Below w.heap.size w W
def CI2(w:World)(fs:List aC)(d j:Nat)(W:World):Prop:=
 ∃(bl:List Nat) (F:Nat->Prop),bl.length=fs.length/\(bl.Nodup/\∀b∈bl,w.heap.size<b)/\j<=fs.length/\CQ (DB bl) (nV bl) (fs.map (·.text)) w.heap.size F W/\Below w.heap.size w W/\∀i (h:i<fs.length),i<j->F6 (DB bl) F W (DB bl i) (eX fs d fs[i])
def CI1.zero(w:World)(fs:List aC):CI1 w fs 0 (w.alloc (.cells #[.slice none 0 0,.slice none 0 0,.pointer none] 276)):=
 ⟨none,0,[],a9_ _,aM _ _ rfl _,rfl,World.ownsRow_nil _ _ _ _,List.nodup_nil,fun i h b a=>by simp at a,(ay_ _ _).alloc (au_ _) _⟩
def CI1.next{w W z y:World}{fs:List aC}{j n f:Nat}{x:Option Addr}{c:Nat}{q:List Nat}{M O:Obj}(Q:j<fs.length)
 (r:q.length=j) (C:q.Nodup) (p:∀i (h:i<fs.length),∀b,q[i]?=some b->W.heap[b]?=some (.cells #[.string (bs fs[i].text),.slice none 0 0] 250 (0,0))/\w.heap.size<b/\b<W.heap.size/\(Value.slice x j c).ownBlock≠some b) (u:Below w.heap.size w W) (J:w.heap.size<W.heap.size)
 (o:W.ownsRow (w.heap.size+1) 188 1 (.slice x j c) j (q.map fun b=>.pointer (some ⟨b,0,none⟩)))
 (D:z=((W.alloc M).alloc (.cells #[.string (bs fs[j].text),.slice none 0 0] 250)).alloc O)
 (H:y.ownsRow (w.heap.size+1) 188 1 (.slice (some ⟨n,0,none⟩) (j+1) f) (j+1) ((q.map fun b=>.pointer (some ⟨b,0,none⟩))++[.pointer (some ⟨W.heap.size+1,0,none⟩)]))
 (d:z.grownBy y (Value.slice x j c).ownBlock) (s:(Value.slice x j c).ownBlock=some n\/n=W.heap.size+3)
 (F:y.heap[w.heap.size]?=some (.cells #[.slice x j c,.slice none 0 0,.pointer none] 276 (0,0))):
 CI1 w fs (j+1) (y.setCell ⟨w.heap.size,0,none⟩ (.slice (some ⟨n,0,none⟩) (j+1) f)):=by
 have K:z.heap.size=W.heap.size+3:=by rw[D];simp
 have N:=d.size;have t:n≠w.heap.size:=by have:=(H.lt n rfl).1;omega
 have v:Below W.heap.size W z:=by rw[D];exact(((ay_ _ _).alloc (au_ _) _).alloc (by simp) _).alloc (by simp;omega) _
 refine⟨some ⟨n,0,none⟩,f,q++[W.heap.size+1],Q,?_,by simp[r],?_,?_,fun i E b l=>?_,?_⟩
 ·rw[aS F];rfl
 ·rw[a7_];exact aY H fun k G=>ax_ _ _ _ _ (by cases G;exact t)
 ·refine be_.2 ⟨C,by simp,fun a T b l=>?_⟩
  simp at l;obtain⟨i,E,rfl⟩:=List.getElem_of_mem T;have:=(p i (by omega) _ (aH_ E)).2.2.1
  omega
 ·rcases a6_ i q.length with m|m
  ·rw[a3_ m] at l;obtain⟨P,L,S,I⟩:=p i E b l;refine⟨?_,L,by simp;omega,fun e=>?_⟩
   ·rw[ax_ _ _ _ _ (show b≠w.heap.size by omega),d.block b (by omega) (fun e=>I e.symm),v.block b S];exact P
   ·have B:n=b:=by simpa [Value.ownBlock] using e
    rcases s with h|h
    ·exact I (by rw[<-B];exact h)
    ·omega
  ·rw[aV_ m] at l
   have A:i=j:=by
    rcases bm_ m with h|h
    ·omega
    ·rw[a4_ (by simp;omega)] at l;cases l
   subst A;rw[r,Nat.sub_self] at l;simp at l;subst l;have g:(Value.slice x i c).ownBlock≠some (W.heap.size+1):=fun e=>by have:=(o.lt _ e).2;omega
   refine⟨?_,by omega,by simp;omega,fun e=>?_⟩
   ·rw[ax_ _ _ _ _ (show W.heap.size+1≠w.heap.size by omega),d.block _ (by omega) (fun e=>g e.symm),D,aA_ _ _ _ (by simp)]
    exact aM _ _ (by simp) _
   ·have B:n=W.heap.size+1:=by simpa [Value.ownBlock] using e
    rcases s with h|h
    ·exact g (by rw[<-B];exact h)
    ·omega
 ·refine((u.trans (v.mono (by omega))).trans ?_).setCell (au_ _) _
  exact⟨d.os,d.tape,d.output,by omega,fun k G=>d.block k (by omega) (fun e=>by have:=(o.lt k e.symm).1;omega)⟩
def WS(fs:List aC)(k:Nat)(h:k<(fs.map (·.text)).length):(fs.map (·.text))[k]=(fs[k]'(by simpa using h)).text:=by simp
def nQ(g j:Nat):(⟨g,0,none⟩:Addr).add j=⟨g,j,none⟩:=by unfold Addr.add;split<;>simp_all
def CI2.zero{w W:World}{fs:List aC}{d:Nat}(n:fs≠[])(h:CI1 w fs fs.length W):CI2 w fs d 0 W:=by
 obtain⟨x,c,f,_,C,y,t,B,q,G⟩:=h;have s:0<fs.length:=bl_.2 n;have e:=t;rcases t.2 with ⟨r,F⟩|⟨g,p,E,r,F,I,A,J⟩
 ·omega
 obtain⟨rfl,rfl⟩:x=some ⟨g,0,none⟩/\c=p:=by simpa using r
 have l:=e.lt g rfl;refine⟨f,fun k=>k=g\/k∈f,y,⟨B,fun b z=>?_⟩,a9_ _,⟨⟨_,_,_,C,as_ ⟨g,c,by simp,av_ rfl,by simp;exact A,l.2,fun k j=>?_⟩⟩,fun k j=>?_⟩,G,fun i _ m=>by omega⟩
 ·obtain⟨i,m,rfl⟩:=List.getElem_of_mem z;exact(q i (by omega) f[i] (aH_ m)).2.1
 ·have o:k<fs.length:=by simpa using j
  have a:k<f.length:=by omega
  obtain⟨u,D,v,H⟩:=q k o f[k] (aH_ a);refine⟨?_,rfl,as_ (by rw[oI a];exact aR_ a),_,by rw[oI a,u,WS]⟩
  have:=e.cells (g:=g) rfl k (DB f k) (by simp[DB,oI a,a])
  rw[nQ] at this;exact this
 ·rcases j with rfl|j
  ·exact⟨l.2,by omega⟩
  ·obtain⟨i,m,rfl⟩:=List.getElem_of_mem j;obtain⟨u,D,v,H⟩:=q i (by omega) f[i] (aH_ m)
   exact⟨v,by omega⟩
def CI2.next{w W w1:World}{fs:List aC}{d j:Nat}{a:List Nat}{F G:Nat->Prop}{sn:List (List UInt8)}{cv:Value}(hj:j<fs.length)(Y:a.length=fs.length)(t:a.Nodup/\∀b∈a,w.heap.size<b)(A:Below w.heap.size w W)(J:∀i (h:i<fs.length),i<j->F6 (DB a) F W (DB a i) (eX fs d fs[i]))
 (s:∀k,F k->G k) (p:CP (DB a) (nV a) (fs.map (·.text)) w.heap.size G w1 ((eX fs d fs[j]).code.map some) sn) (X:w1.cell? ⟨w.heap.size,1,none⟩=some cv) (ad:Below w.heap.size W w1) (T:∀k,F k->w1.heap[k]?=W.heap[k]?) (ae:0<(eX fs d fs[j]).code.length):
 CI2 w fs d (j+1) (w1.setCell ⟨nV a j,1,none⟩ cv):=by
 have r:j<a.length:=by omega
 obtain⟨fv,V,sp,h1,⟨xs,h2,h3⟩,h4,h5⟩:=p.blk
 obtain rfl:V=cv:=by
  have:=aA h1 (i:=1) rfl;rw[X] at this;exact(Option.some.inj this).symm
 have n:j<(fs.map (·.text)).length:=by simpa using hj
 rcases h5 with ⟨e,_⟩|⟨g,ac,rfl,k1,k2,k3,M⟩
 ·rw[e] at n;simp at n
 obtain⟨m1,m2,m3,x,B⟩:=M j n;have aa:=p.fix _ m3;rcases h2.2 with ⟨_,r2⟩|⟨v,c,P,rfl,r2,Z,r4,r5,r6,r7⟩
 ·rw[bR_] at r2;omega
 have Q:v≠nV a j:=fun e=>by rw[e,B] at Z;cases Z
 have E:∀k (h:k<(fs.map (·.text)).length),g≠nV a k:=fun k m e=>by
  obtain⟨z1,z2,z3,z,O⟩:=M k m;obtain⟨y1,_⟩:=M 0 (by omega)
  have:=aA O (i:=0) rfl;rw[<-e,y1] at this;cases this
 have f:∀k,k≠nV a j->(w1.setCell ⟨nV a j,1,none⟩ (.slice (some ⟨v,0,none⟩) ((eX fs d fs[j]).code.map some).length c)).heap[k]?=w1.heap[k]?:=fun k m=>ax_ _ _ _ _ m
 have I:(w1.setCell ⟨nV a j,1,none⟩ (.slice (some ⟨v,0,none⟩) ((eX fs d fs[j]).code.map some).length c)).heap[nV a j]?=some (.cells #[.string (bs (fs.map (·.text))[j]),.slice (some ⟨v,0,none⟩) ((eX fs d fs[j]).code.map some).length c] 250 (0,0)):=by
  rw[aS B];rfl
 have l:∀i (L:i<a.length),i≠j->nV a i≠nV a j:=fun i L D e=>by
  rw[oI L,oI r] at e;exact D ((List.getElem_inj t.1).1 e)
 refine⟨a,fun k=>G k\/k=v,Y,t,hj,⟨⟨_,_,_,by rw[f _ (fun e=>aa.2.1 e.symm)];exact h1,as_ ⟨g,ac,rfl,av_ k1,k2,by simpa using k3,fun k m=>?_⟩⟩,fun k m=>?_⟩,?_,fun i L D=>?_⟩
 ·obtain⟨z1,z2,z3,z,O⟩:=M k m;refine⟨?_,z2,av_ z3,?_⟩
  ·rw[World.cell?_of_block (f g (E j n))];exact z1
  ·by_cases y:k=j
   ·subst y;exact⟨_,I⟩
   ·exact⟨z,by rw[f _ (l k (by simp at m;omega) y)];exact O⟩
 ·rcases m with m|rfl
  ·have:=p.fix k m;exact⟨by simpa using this.1,this.2.1⟩
  ·have:=h2.lt k rfl;exact⟨by simpa using this.2,by omega⟩
 ·exact(A.trans ad).setCell (bW_ (by show w.heap.size<nV a j;rw[oI r];exact t.2 _ (aR_ r))) _
 ·by_cases o:i=j
  ·subst o;refine⟨nV a i,v,c,P,rfl,av_ m3,?_,as_ rfl,by rw[f _ Q];exact Z,fun q N=>?_⟩
   ·rw[I,WS];simp only[bR_];rfl
   ·obtain⟨u,u1,u2⟩:=h3.2 q (some (eX fs d fs[i]).code[q]) (by simp[N])
    refine⟨u,?_,lC.setFn u2 B fun _ h=>av_ h⟩
    rw[<-r7] at u1;have ab:q<((eX fs d fs[i]).code.map some).length*1:=by simpa using N
    rw[List.getElem?_take_of_lt ab] at u1;simpa using u1
  ·obtain⟨U,H,K,C,a1,a2,a3,a4,a5,a6⟩:=J i L (by omega)
   obtain rfl:U=nV a i:=by simpa [DB] using a1.symm
   have b3:w1.heap[nV a i]?=_:=(T _ a2).trans a3;have S:w1.heap[H]?=_:=(T _ a4).trans a5;refine⟨nV a i,H,K,C,rfl,av_ (s _ a2),by rw[f _ (l i (by omega) o)];exact b3,av_ (s _ a4),by rw[f _ (fun e=>by rw[e,B] at S;cases S)];exact S,fun q N=>?_⟩
   obtain⟨u,u1,u2⟩:=a6 q N;exact⟨u,u1,lC.setFn (u2.keep T s) B fun _ h=>av_ h⟩
def QZ{lo d:Nat}{fs:List aC}(v:Value)(w:World)(h:FSl (Btw lo w.heap.size) w v fs)(am:fs.length<=90000)(Z:∀f∈fs,iC fs d f)(ad:∀f∈fs,∀k∈f.kids,mJ k)(s:∀f∈fs,f.kids.length<=90000)(hm:[109,97,105,110]∈fs.map (·.text)):
 Calls prog 123 #[v] w fun e r=>∃fp F,e=.returned (fp (cS fs [109,97,105,110]))/\lA fp F r (cP fs d)/\Below w.heap.size w r/\∀k,F k->k<r.heap.size:=by
 have L:fs≠[]:=fun e=>by rw[e] at hm;simp at hm
 rcases h.cells with ⟨_,e⟩|⟨H,ae,rfl,al,z,ah,hc⟩
 ·exact absurd e L
 refine(LW w H fs.length ae (fun v r=>∃fp F,v=fp (cS fs [109,97,105,110])/\lA fp F r (cP fs d)/\Below w.heap.size w r/\∀k,F k->k<r.heap.size) (CI1 w fs) (CI2 w fs d) (by omega) (CI1.zero w fs) (fun j W E y=>?_) (fun W E=>CI2.zero L E) (fun j W E y=>?_) (fun W E=>?_)).mono ?_
 ·obtain⟨x,c,J,h0,K,V,U,D,C,I⟩:=E;obtain⟨pv,bv,ps,b,Y,e1,e2,e3,m,A,M,B⟩:=hc j y;obtain⟨px,pc,rfl⟩:=A.slice;obtain⟨bx,bc,rfl⟩:=B.sliceC;have a:∀o u,w.cell? ⟨H,o,none⟩=some u->W.cell? ⟨H,o,none⟩=some u:=fun o u hu=>by rw[I.cell (p:=⟨H,o,none⟩) z];exact hu
  exact⟨aD K,az_ z I.size,_,_,_,_,_,_,_,_,_,_,_,_,_,a _ _ Y,a _ _ e1,a _ _ e2,a _ _ e3,K,U,fun W3 g4 ai w4 a1 a2 a3 a4 a5=>CI1.next y V D C I (aD K) U a1 a2 a3 a4 a5⟩
 ·obtain⟨J,F,K,V,U,D,C,I⟩:=E;obtain⟨pv,bv,ps,b,Y,e1,e2,e3,m,A,M,B⟩:=hc j y;have ag:AC (Btw lo w.heap.size) w (.agg #[.int .i64 fs[j].line,.string (bs fs[j].text),pv,bv]) fs[j]:=⟨pv,bv,ps,b,rfl,m,A,M,B⟩;obtain⟨px,pc,rfl⟩:=A.slice;obtain⟨bx,bc,rfl⟩:=B.sliceC;have a:∀o u,w.cell? ⟨H,o,none⟩=some u->W.cell? ⟨H,o,none⟩=some u:=fun o u hu=>by rw[C.cell (p:=⟨H,o,none⟩) z];exact hu
  have ac:=D;obtain⟨⟨fv,cv,sp,q1,q2⟩,q3⟩:=D;have n:j<(fs.map (·.text)).length:=by simpa using y
  rcases q2 with ⟨e,_⟩|⟨g,c,rfl,k1,k2,k3,k4⟩
  ·rw[e] at n;simp at n
  obtain⟨m1,m2,m3,x,m4⟩:=k4 j n;rw[m2] at m1;have Q:(fs.map (·.text)).length=fs.length:=by simp
  refine⟨aD q1,az_ z C.size,_,_,_,_,_,_,_,_,g,c,nV J j,a _ _ Y,a _ _ e1,a _ _ e2,a _ _ e3,by rw[<-Q];exact aA q1 rfl,k3,m1,fun W' hS=>?_⟩
  have l:Below W.heap.size W W':=((ay_ _ _).alloc (au_ _) _).trans (hS.below.mono (by simp))
  have P:CQ (DB J) (nV J) (fs.map (·.text)) w.heap.size F W':=by
   obtain⟨⟨fv,cv,sp,z1,z2⟩,z3⟩:=ac;exact⟨⟨fv,cv,sp,by rw[l.block _ (aD z1)];exact z1,z2.keep (fun k q=>l.block k (z3 k q).1) (fun _ h=>h) l.size⟩,fun k q=>⟨az_ (z3 k q).1 l.size,(z3 k q).2⟩⟩
  have aj:=aD q1;refine(P6 (lo:=lo) (d:=d) (by omega) (fun k _=>rfl) P fs[j] _ (ag.keep (fun k q=>(C.trans (l.mono (by omega))).block k q.2) fun _ h=>h) (Z _ (aR_ y)) (ad _ (aR_ y)) (s _ (aR_ y))).mono ?_
  rintro e r ⟨ab,X,G,sn,af,t,O,T,hF⟩;have N:0<(eX fs d fs[j]).code.length:=by rw[IT fs d m];simp
  have ak:=t;obtain⟨an,aa,ao,y1,⟨xs,y2,y3⟩,y4,y5⟩:=t.blk
  obtain rfl:aa=ab:=by
   have:=aA y1 (i:=1) rfl;rw[O] at this;exact(Option.some.inj this).symm
  obtain⟨x',c',rfl⟩:=cU y2;have S:∀k,F k->r.heap[k]?=W.heap[k]?:=fun k q=>by rw[hF k q,l.block k (q3 k q).1]
  rcases y5 with ⟨e,_⟩|⟨g2,c2,rfl,l1,l2,l3,l4⟩
  ·rw[e] at n;simp at n
  obtain⟨n1,n2,n3,x2,n4⟩:=l4 j n;rw[n2] at n1;refine⟨x',_,c',X,t.lt,⟨g2,c2,by rw[<-Q];exact aA y1 rfl,l3,n1⟩,az_ k3 (aF_ l.size T.size),?_,aD n4,⟨_,aA n4 rfl⟩,aE n4,?_⟩
  ·rw[World.cell?_of_block (S g k1)];exact m1
  ·exact CI2.next y K V C I af t O ((l.mono (by omega)).trans T) S N
 ·obtain⟨J,F,K,V,U,D,C,I⟩:=E;refine(LZ [109,97,105,110] D hm (by simpa using (by omega:fs.length<=1000000))).mono ?_
  rintro e r ⟨X,rfl⟩;rw[DC] at X;refine⟨_,X,DB J,F,rfl,fun k f hf=>?_,C,fun k q=>(D.2 k q).1⟩
  have s:k<fs.length:=by
   rcases a6_ k fs.length with h|h
   ·exact h
   ·rw[a4_ (by simpa [cP] using h)] at hf;cases hf
  have:f=eX fs d fs[k]:=by simpa [cP,s] using hf.symm
  rw[this];exact I k s s
 ·rintro e r ⟨v,rfl,fp,F,rfl,h⟩;exact⟨fp,F,rfl,h⟩
def SM(w:World)(D:Option Addr)(N Z:Nat)(Y:Option Addr)(X c1:Nat)(P:Value->World->Prop)(A:Value->World->Prop)(T:Value->Nat->Value->World->Prop)(B:Nat->World->Prop)
 (HC:Hid (Calls prog 123 #[.slice D N Z] (w.alloc (.cells #[.int .i64 0,.slice none 0 0,.slice none 0 0,.slice none 0 0,.int .i64 0] 108)) fun e g=>∃p,e=.returned (.pointer p)/\A (.pointer p) g))
 (HT:Hid (∀p W,A (.pointer p) W->Calls prog 124 #[.slice Y X c1] (W.alloc (.cells #[.pointer p,.int .i64 0,.int .i64 0,.pointer none,.slice none 0 0,.slice none 0 0] 195)) fun e g=>∃x n c,e=.returned (.slice x n c)/\T (.pointer p) W.heap.size (.slice x n c) g))
 (HG:Hid (∀p u x n c W,T (.pointer p) u (.slice x n c) W->Calls prog 125 #[.pointer (some ⟨W.heap.size,0,none⟩)] (W.alloc (.cells #[.int .i64 0,.slice (some ⟨u,0,none⟩) 1 1,.slice x n c,.slice none 0 0,.int .i64 0] 108)) fun e g=>e=.returned (.tuple #[])/\B W.heap.size g))
 (HB:Hid (∀b W,B b W->∃(q:Nat) (f t o:Value) (m:Nat),W.heap[b]?=some (.cells #[.int .i64 q,f,t,o,.int .i64 m] 108 (0,0))/\(∃x l c,f=.slice x l c)/\(∃x l c,t=.slice x l c)/\(∃x l c,o=.slice x l c)/\W.heap[w.heap.size]?=some (.cells #[.int .i64 0,.slice none 0 0,.slice none 0 0,.slice none 0 0,.int .i64 0] 108 (0,0))/\b≠w.heap.size/\
   ∀r,Kept [w.heap.size] W r->r.heap.size=W.heap.size->P (.agg #[.int .i64 q,f,t,o,.int .i64 m]) r)):
 Calls prog 70 #[.slice D N Z,.slice Y X c1] w fun e g=>∃F,e=.returned F/\P F g:=by
 go_enter func70,ntmps70;go_wp2_with fail;refine HC.out.mono ?_;rintro e w1 ⟨p,rfl,M⟩;have k:=aB (HT.out _ _ M);generalize ab:w1.heap.size=u at k;clear M;go_wp2_with fail;refine k.out.mono ?_;rintro e w2 ⟨x,n,c,rfl,G⟩;have j:=aB (HG.out _ _ _ _ _ _ G);generalize hb:w2.heap.size=b at j;clear G;go_wp2_with fail;refine j.out.mono ?_;rintro e d ⟨rfl,K⟩;obtain⟨q,f,t,o,m,h,⟨L,H,Q,rfl⟩,⟨I,U,J,rfl⟩,⟨S,E,V,rfl⟩,a,q3,O⟩:=HB.out _ _ K;have HQ:=aB O;have aa:d.cell? ⟨b,0,none⟩=some (.int .i64 q):=aA h rfl;have am:d.cell? ⟨b,1,none⟩=some (.slice L H Q):=aA h rfl;have ah:d.cell? ⟨b,2,none⟩=some (.slice I U J):=aA h rfl;have al:d.cell? ⟨b,3,none⟩=some (.slice S E V):=aA h rfl;have af:d.cell? ⟨b,4,none⟩=some (.int .i64 m):=aA h rfl;have s:d.cell? ⟨w.heap.size,0,none⟩=some (.int .i64 0):=aA a rfl;have z:d.cell? ⟨w.heap.size,1,none⟩=some (.slice none 0 0):=aA a rfl;have v:d.cell? ⟨w.heap.size,2,none⟩=some (.slice none 0 0):=aA a rfl;have C:d.cell? ⟨w.heap.size,3,none⟩=some (.slice none 0 0):=aA a rfl;have y:d.cell? ⟨w.heap.size,4,none⟩=some (.int .i64 0):=aA a rfl;have ae:=aE (i:=0) a;have ak:=aE (i:=1) a;have ai:=aE (i:=2) a;have ac:=aE (i:=3) a;have ag:=aE (i:=4) a;have aj:=aD h;have ad:=aD a;clear K O h a;go_wp2_with fail;refine⟨rfl,.agg #[.int .i64 q,.slice L H Q,.slice I U J,.slice S E V,.int .i64 m],?_,_,rfl,HQ.out _ ?_ (by simp)⟩
 ·simp[results,results70,go_sem,s,z,v,C,y]
 ·exact(((((Kept.refl _ _).setCell _ _ (by simp)).setCell _ _ (by simp)).setCell _ _ (by simp)).setCell _ _ (by simp)).setCell _ _ (by simp)
def XH(w:World)(v:Value)(l:List Int):Prop:=
 (l=[]/\v=.slice none 0 0)\/∃g o c,v=.slice (some ⟨g,o,none⟩) l.length c/\g<w.heap.size/\∀i (h:i<l.length),w.cell? ⟨g,o+i,none⟩=some (.int .i64 l[i])/\ -9223372036854775808<=l[i]/\l[i]<=9223372036854775807
def EK(w:World)(v:Value)(l:List Int)(h:XH w v l)(E:l.length<=17592186044416):∃x n c,v=.slice x n c/\Calls prog 124 #[.slice x n c] w fun e d=>∃x n c,e=.returned (.slice x n c)/\Below w.heap.size w d/\rH (fun k=>w.heap.size<=k/\k<d.heap.size) d (.slice x n c) l:=by
 rcases h with ⟨rfl,rfl⟩|⟨g,o,c,rfl,H,y⟩
 ·refine⟨none,0,0,rfl,(GE w).mono ?_⟩;rintro e d ⟨rfl,rfl⟩;exact⟨_,_,_,rfl,ay_ _ _,av_ ⟨rfl,none,0,rfl⟩⟩
 ·refine⟨_,_,_,rfl,(GF g o l.length c (l.map fun n=>Value.int .i64 n) w (by simp) E (fun j u f=>?_) (fun u F=>?_)).mono ?_⟩
  ·rw[bw_] at f;cases b:l[j]? with
   |none=>rw[b] at f;cases f
   |some n=>
    rw[b] at f;obtain⟨r,rfl⟩:=aZ_.1 b;rw[(y j r).1];exact f
  ·obtain⟨n,_,rfl⟩:=bz_.1 F;rfl
  ·rintro e d ⟨G,rfl,a,B⟩;obtain⟨x,s,rfl⟩:=cU a;refine⟨x,_,s,rfl,B,?_⟩;rcases a.2 with ⟨p,m⟩|⟨t,q,D,p,m,A,C⟩
   ·exact av_ ⟨br_.1 m,x,s,by rw[m]⟩
   ·refine as_ ⟨t,0,q,p,C.1,⟨m,aD A⟩,fun i z=>⟨?_,(y i z).2⟩⟩
    have:=a.cells (g:=t) (by rw[p];rfl) i (.int .i64 l[i]) (by simp[z])
    rw[nQ] at this;simpa using this
def F6.ptr{b:Nat->Value}{F:Nat->Prop}{w:World}{v:Value}{f:dY}(h:F6 b F w v f):∃p,v=.pointer p:=by
 obtain⟨c,_,_,_,a,_⟩:=h;exact⟨_,a⟩
def Kept.below{own:List Nat}{w w':World}{n:Nat}(h:Kept own w w')(d:n<=w.heap.size)(b:∀k∈own,n<=k):Below n w w':=
 ⟨h.os,h.tape,h.output,h.size,fun k c=>h.block k (by omega) fun a=>by have:=b k a;omega⟩
section
variable {fp:Nat->Value} {F:Nat->Prop} {w:World} {z:Nat} {c:Array Value} (hz:w.heap[z]?=some (.cells c 108 (0,0)))
include hz
def eE.off:∀{l:List (List UInt8)} {v:Value},eE F w v l->eE (fun b=>F b/\b≠z) w v l
 |[],_,h=>h
 |_::_,_,⟨b,o,f,c,a,d⟩=>⟨b,o,f,⟨c,fun e=>by rw[e,hz] at a;cases a⟩,a,eE.off d⟩
def VR.off:∀{d:Nat} {v:Value} {a:aJ},VR d F w v a->VR d (fun b=>F b/\b≠z) w v a
 |0,_,_,h=>h.elim
 |d+1,v,a,h=>by
  rcases h with h|h|h|⟨r,l,p,o,j⟩
  ·exact av_ h
  ·exact as_ (av_ h)
  ·exact as_ (as_ (av_ h))
  ·refine as_ (as_ (as_ ⟨r,l,p,o,?_⟩));rcases j with j|⟨g,c,f,x,q,k,y,n⟩
   ·exact av_ j
   ·refine as_ ⟨g,c,f,x,⟨q,fun e=>by rw[e,hz] at k;cases k⟩,k,y,fun i s=>?_⟩
    obtain⟨u,m,t⟩:=n i s;exact⟨u,m,VR.off t⟩
def lC.off{v:Value}{i:aH}(h:lC fp F w v i):lC fp (fun b=>F b/\b≠z) w v i:=by
 cases i<;>first
  |exact h
  |(obtain⟨e,c,a⟩:=h;exact⟨e,c,a.off hz⟩)
  |(obtain⟨u,c,⟨d,a⟩,f⟩:=h;exact⟨u,c,⟨d,a.off hz⟩,f⟩)
def lA.off{a:List dY}(h:lA fp F w a):lA fp (fun b=>F b/\b≠z) w a:=fun k f m=>by
 obtain⟨o,n,c,j,r,s,d,l,g,q⟩:=h k f m;refine⟨o,n,c,j,r,⟨s,fun e=>by rw[e,hz] at d;cases d⟩,d,⟨l,fun e=>by rw[e,hz] at g;cases g⟩,g,fun i p=>?_⟩
 obtain⟨u,u1,u2⟩:=q i p;exact⟨u,u1,u2.off hz⟩
end
def TX{lo d k:Nat}{fs:List aC}{j:List Int}{r:cF × Nat}(v tv:Value)(w:World)(h:FSl (Btw lo w.heap.size) w v fs)(bc:fs.length<=90000)(X:∀f∈fs,iC fs d f)(bf:∀f∈fs,∀k∈f.kids,mJ k)(bg:∀f∈fs,f.kids.length<=90000)(hm:fG fs (cS fs [109,97,105,110])=some 0)
 (ht:XH w tv j) (bh:j.length<=17592186044416) (hp:kC w) (hU:jN (cP fs d)) (q:cJ (cP fs d) k (eT fs d j)=some r) (hr:r.2<=1000):
 Calls prog 70 #[v,tv] w fun e H=>∃v',e=.returned v'/\Below w.heap.size w H/\∃fp G,(∀b,G b->b<H.heap.size)/\lA fp G H (cP fs d)/\kR fp G H v' ⟨0,r.1,bT 0 r.2⟩:=by
 have U:cS fs [109,97,105,110]<fs.length:=by
  unfold fG at hm;rcases a6_ (cS fs [109,97,105,110]) fs.length with h|h
  ·exact h
  ·rw[a4_ h] at hm;cases hm
 have ak:[109,97,105,110]∈fs.map (·.text):=by
  have:=bN_ (p:=fun f:aC=>f.text==[109,97,105,110]) (xs:=fs) (w:=U)
  exact bz_.2 ⟨_,aR_ U,eq_of_beq this⟩
 obtain⟨x0,c0,rfl⟩:∃x c,v=.slice x fs.length c:=by
  rcases h with ⟨rfl,rfl⟩|⟨g,ac,bm,us,rfl,_⟩
  ·exact⟨none,0,rfl⟩
  ·exact⟨_,_,rfl⟩
 obtain⟨x1,n1,c1,rfl⟩:∃x n c,tv=.slice x n c:=by
  rcases ht with ⟨_,rfl⟩|⟨g,o,c,rfl,_⟩
  ·exact⟨_,_,_,rfl⟩
  ·exact⟨_,_,_,rfl⟩
 generalize ab:(cP fs d)[cS fs [109,97,105,110]]?.getD ⟨[],[]⟩=f0
 have L:(cP fs d)[cS fs [109,97,105,110]]?=some f0:=by
  rw[aH_ (by simpa [cP] using U)] at ab ⊢
  simpa using ab
 have aq:eT fs d j=⟨[⟨f0,0,0,[],[],[]⟩],j,[]⟩:=by rw[<-ab];rfl
 have aj:=mU X hm j
 have aw:fM (eT fs d j):=by
  rw[aq];intro f hf;simp at hf;subst hf;exact⟨hU _ (bb_ L),fun v hv=>by simp at hv,fun v hv=>by simp at hv⟩
 rw[aq] at aj aw q;obtain⟨s,N⟩:∃s,s=w.alloc (.cells #[.int .i64 0,.slice none 0 0,.slice none 0 0,.slice none 0 0,.int .i64 0] 108):=⟨_,rfl⟩;have Q:Below w.heap.size w s:=by rw[N];exact(ay_ _ _).alloc (au_ _) _
 have bn:s.heap.size=w.heap.size+1:=by rw[N];simp
 have ae:s.heap[w.heap.size]?=some (.cells #[.int .i64 0,.slice none 0 0,.slice none 0 0,.slice none 0 0,.int .i64 0] 108 (0,0)):=by rw[N];exact aM _ _ rfl _
 have ax:FSl (Btw lo s.heap.size) s (.slice x0 fs.length c0) fs:=h.grow (fun b u=>Q.block b u.2) fun b u=>⟨u.1,by have:=u.2;omega⟩
 refine(SM w x0 fs.length c0 x1 n1 c1 (fun v' H=>Below w.heap.size w H/\∃fp G,(∀b,G b->b<H.heap.size)/\lA fp G H (cP fs d)/\kR fp G H v' ⟨0,r.1,bT 0 r.2⟩)
  (fun p W=>∃fp F,p=fp (cS fs [109,97,105,110])/\lA fp F W (cP fs d)/\Below s.heap.size s W/\∀k,F k->k<W.heap.size)
  (fun p y O W=>∃fp F,p=fp (cS fs [109,97,105,110])/\lA fp F W (cP fs d)/\Below s.heap.size s W/\(∀k,F k->k<W.heap.size/\k≠y)/\s.heap.size<=y/\y<W.heap.size/\W.heap[y]?=some (.cells #[p,.int .i64 0,.int .i64 0,.pointer none,.slice none 0 0,.slice none 0 0] 195 (0,0))/\rH F W O j/\∀k,F k->k≠w.heap.size)
  (fun b W=>∃fp F y ac O t D,Below s.heap.size s W/\s.heap.size<=b/\cT fp F s.heap.size W b y ac (.int .i64 ((0:Nat):Int)) O t (.int .i64 (bT 0 r.2)) D r.1/\lA fp F W (cP fs d)/\(∀k∈aF b y t D,s.heap.size<=k)/\∀k,F k->k≠w.heap.size)
  ?_ (fun p W hq=>?_) (fun p y x n c W hq=>?_) (fun b W hq=>?_))
 ·show Calls _ _ _ _ _
  rw[<-N];refine(QZ (lo:=lo) (d:=d) _ s ax bc X bf bg ak).mono ?_;rintro e H ⟨fp,F,he,hT,u,M⟩;obtain⟨p,ar⟩:=(hT _ _ L).ptr;exact⟨p,by rw[he,ar],fp,F,ar.symm,hT,u,M⟩
 ·obtain⟨fp,F,aa,hT,u,M⟩:=hq;have bd:W.heap[w.heap.size]?=some (.cells #[.int .i64 0,.slice none 0 0,.slice none 0 0,.slice none 0 0,.int .i64 0] 108 (0,0)):=by rw[u.block _ (by omega)];exact ae
  have be:=hT.off bd;generalize E:W.alloc (.cells #[.pointer p,.int .i64 0,.int .i64 0,.pointer none,.slice none 0 0,.slice none 0 0] 195)=z;have C:Below W.heap.size W z:=by rw[<-E];exact(ay_ _ _).alloc (au_ _) _
  have ay:z.heap.size=W.heap.size+1:=by rw[<-E];simp
  have ad:z.heap[W.heap.size]?=some (.cells #[.pointer p,.int .i64 0,.int .i64 0,.pointer none,.slice none 0 0,.slice none 0 0] 195 (0,0)):=by rw[<-E];exact aM _ _ rfl _
  have ah:Below w.heap.size w z:=Q.trans ((u.mono (by omega)).trans (C.mono (by have:=u.size;omega)))
  have bi:XH z (.slice x1 n1 c1) j:=by
   rcases ht with ht|⟨g,o,c,e,hg,hc⟩
   ·exact av_ ht
   ·exact as_ ⟨g,o,c,e,az_ hg ah.size,fun i hi=>⟨(ah.cell (p:=⟨g,o+i,none⟩) hg).trans (hc i hi).1,(hc i hi).2⟩⟩
  obtain⟨x,n,c,e,bl⟩:=EK z _ j bi bh;rw[e];refine bl.mono ?_;rintro e H ⟨x',n',c',he,P,V⟩;have an:Below W.heap.size W H:=C.trans (P.mono (by omega))
  refine⟨x',n',c',he,fp,fun k=>(F k/\k≠w.heap.size)\/(z.heap.size<=k/\k<H.heap.size),aa,be.keep (fun k q=>an.block k (M k q.1)) fun _ h=>av_ h,u.trans (an.mono u.size),fun k q=>?_,u.size,by have:=P.size;omega,by rw[P.block _ (by omega)];exact ad,V.keep (fun _ _=>rfl) fun _ h=>as_ h,fun k q=>by
   rcases q with B|B
   ·exact B.2
   ·have:=u.size;omega⟩
  have:=P.size;rcases q with B|B
  ·have:=M k B.1;omega
  ·omega
 ·obtain⟨fp,F,aa,hT,u,M,bb,bk,ba,V,bj⟩:=hq;generalize E:W.alloc (.cells #[.int .i64 0,.slice (some ⟨y,0,none⟩) 1 1,.slice x n c,.slice none 0 0,.int .i64 0] 108)=z;have C:Below W.heap.size W z:=by rw[<-E];exact(ay_ _ _).alloc (au_ _) _
  have ay:z.heap.size=W.heap.size+1:=by rw[<-E];simp
  have ad:z.heap[W.heap.size]?=some (.cells #[.int .i64 0,.slice (some ⟨y,0,none⟩) 1 1,.slice x n c,.slice none 0 0,.int .i64 0] 108 (0,0)):=by rw[<-E];exact aM _ _ rfl _
  have Z:lA fp F z (cP fs d):=hT.keep (fun k q=>C.block k (M k q).1) fun _ h=>h
  have A:aF W.heap.size y (.slice none 0 0) [⟨.pointer p,.int .i64 0,.int .i64 0,.pointer none,.slice none 0 0,.slice none 0 0⟩]=[W.heap.size,y]:=rfl;have S:lZ F s.heap.size z (.slice none 0 0) []:=⟨⟨[],World.ownsRow_nil _ _ _ _,fT.nil _ _⟩,fun a ha=>by simp at ha⟩
  have ao:cT fp F s.heap.size z W.heap.size y 1 (.int .i64 ((0:Nat):Int)) (.slice x n c) (.slice none 0 0) (.int .i64 0) [⟨.pointer p,.int .i64 0,.int .i64 0,.pointer none,.slice none 0 0,.slice none 0 0⟩] ⟨[⟨f0,0,0,[],[],[]⟩],j,[]⟩:=by
   refine⟨ad,⟨rfl,as_ ⟨y,1,_,rfl,bb,by rw[C.block _ bk];exact ba,au_ _,by unfold maxLen;omega,rfl,rfl⟩⟩,⟨⟨?_,rfl,rfl,rfl,S,S⟩,trivial⟩,V.keep (fun k q=>C.block k (M k q).1) fun _ h=>h,World.ownsRow_nil _ _ _ _,?_,?_,fun k q=>?_⟩
   ·show F6 fp F z (.pointer p) f0
    rw[aa];exact Z _ _ L
   ·rw[A];simp;omega
   ·rw[A];simp;omega
   ·rw[A];have:=M k q;simp;omega
  have m:Below s.heap.size s z:=u.trans (C.mono u.size);have am:Below w.heap.size w z:=Q.trans (m.mono (by omega))
  refine(PK (iF X) hU ao Z (AB.of hp am fun k q=>?_) m.size aj aw (by simp) (by simp;omega) q (by omega) hr).mono ?_
  ·rw[A] at q;have:=u.size;simp at q;omega
  rintro e H ⟨he,Y,G,av,ai,au,I,T,d1,d2,d3⟩;rw[A] at d3 Y
  have ap:∀x∈aF W.heap.size av I T,s.heap.size<=x:=fun x hx=>by
   have:=u.size;rcases d3 x hx with B|B
   ·simp at B;omega
   ·omega
  have az:∀k∈[W.heap.size,y],s.heap.size<=k:=fun k q=>by have:=u.size;simp at q;omega
  refine⟨he,fp,G,av,ai,au,I,T,m.trans (Y.below m.size az),u.size,d2,?_,ap,fun k q=>?_⟩
  ·refine Z.keep (fun k q=>Y.block k (az_ (M k q).1 C.size) fun hm=>?_) d1.sub
   have:=M k q;simp at hm;omega
  ·rcases d1.new k q with B|B
   ·exact bj k B
   ·have:=m.size;omega
 ·obtain⟨fp,F,y,ac,O,t,D,g1,g2,g5,gT,g6,g7⟩:=hq;have al:=g5.blk;refine⟨_,_,_,_,_,al,⟨_,_,_,rfl⟩,?_,tU g5.out,by rw[g1.block _ (by omega)];exact ae,by omega,fun z J ag=>?_⟩
  ·rcases g5.tape with ⟨_,x,c,e⟩|⟨g,o,c,e,_⟩<;>exact⟨_,_,_,e⟩
  ·have m:Below w.heap.size w W:=Q.trans (g1.mono (by omega))
   have hS:=g5.kept (G:=fun k=>F k\/(k∈aF b y t D/\k≠b)) (fun _ h=>av_ h) (fun k l hn=>as_ ⟨l,hn⟩)
   have K:∀k,(F k\/(k∈aF b y t D/\k≠b))->k≠w.heap.size/\k<W.heap.size:=fun k l=>by
    rcases l with B|⟨B,_⟩
    ·exact⟨g7 k B,(g5.apart k B).1⟩
    ·have:=g6 k B;exact⟨by omega,g5.lt k B⟩
   have af:∀k,(F k\/(k∈aF b y t D/\k≠b))->z.heap[k]?=W.heap[k]?:=fun k l=>J.block k (K k l).2 (by simpa using (K k l).1)
   refine⟨⟨J.os.trans m.os,J.tape.trans m.tape,J.output.trans m.output,by rw[ag];exact m.size,fun k l=>?_⟩,fp,fun k=>F k\/(k∈aF b y t D/\k≠b),fun k l=>by rw[ag];exact(K k l).2,gT.keep (fun k l=>af k (av_ l)) fun _ h=>av_ h,hS.keep af fun _ h=>h⟩
   rw[J.block k (az_ l m.size) (by simp;omega),m.block k l]
end Go.Proofs.YtblbkfdhjfppkaaGreatDoor
