/- Contracts of the program: the compiler's blocks: the walks. -/
import Derived.Test.YtddnpoiiimjpcaaGreatDoorP30
import Derived.Test.YtddnpoiiimjpcaaGreatDoorP31
import Derived.Test.YtddnpoiiimjpcaaGreatDoorP29
set_option linter.defProp false
set_option maxRecDepth 100000
set_option maxHeartbeats 4000000
namespace Go.Proofs.YtddnpoiiimjpcaaGreatDoor
open Hs
open _root_.Go.Proofs.Tryz
open Go.RowKit
def yF(w:aH)(cb g n f:Nat)(C:Nat->World->Prop)(y:n<=1000000)(l:C 0 w)
 (q:Hid (∀j W,C j W->j<n->g<W.heap.size/\∃t z,W.cell? (aL g j)=some (.iface t z)/\Calls prog 190 #[bO cb,.iface t z] W fun e d=>e=bE (.tuple #[])/\C (j+1) d)):
 Calls prog 148 #[bO cb,.slice (some (aL g 0)) n f] w fun e d=>e=bE (.tuple #[])/\C n d:=by
 have o:=aB l;clear l;go_in
 go_wp2_with fail;go_loopg [5,8] n (fun gk _ i wr=>∃j:Nat,j+gk=n/\i=Iv0 j/\C j wr)
 case atStart=>exact⟨0,by omega,rfl,o⟩
 case round=>
  obtain⟨j,B,rfl,b⟩:=hrel;by_cases c:j<n
  ·obtain⟨m,rfl⟩:∃m,gk=m+1:=⟨gk-1,by omega⟩
   obtain⟨u,t,z,x,a⟩:=q _ _ b c;have r:=aB a;have A:(0:Int)<=(j:Int):=by omega
   have v:(j:Int)<(n:Int):=by omega
   clear b a;go_wp2_with fail;refine r.mono ?_;rintro e s ⟨rfl,p⟩;go_wp2
   go_roundg m
   case measure=>omega
   case rel=>exact⟨j+1,by omega,by go_num,p⟩
  ·have h:j=n:=by omega
   subst h;have k:=aB b;clear b;go_wp2
   go_end0;exact⟨rfl,k⟩
def AL(w:aH)(cb:Nat):Calls prog 148 #[bO cb,bV] w fun e a=>e=bE (.tuple #[])/\a=w:=by
 go_in
 go_wp2_with fail;go_loopg [5,8] 0 (fun _ _ i wr=>i=Iv0 0/\wr=w)
 case atStart=>exact⟨rfl,rfl⟩
 case round=>
  obtain⟨rfl,rfl⟩:=hrel;go_wp2
  go_end0;exact⟨rfl,rfl⟩
def TJ(w:aH)(cb:Nat)(p x:Option Addr)(n c:Nat)(P Q:World->Prop)(l:w.cell? (aL cb 2)=some (.pointer p))
 (h:Hid (Calls prog 148 #[bO cb,.slice x n c] w fun e a=>e=bE (.tuple #[])/\Q a))
 (f:Hid (∀W,Q W->(∃u,W.cell? (aL cb 2)=some u)/\W.frozen? (aL cb 2)=false/\cb<W.heap.size/\P (W.setCell (aL cb 2) (.pointer p)))):
 Calls prog 222 #[bO cb,.slice x n c] w fun e a=>e=bE (.tuple #[])/\P a:=by
 go_in
 go_wp2_with fail;refine h.mono ?_;rintro e i ⟨rfl,d⟩;obtain⟨⟨u,j⟩,m,k,b⟩:=f _ d;have g:=aB b;clear d b;go_wp2
 go_end0;exact⟨rfl,g⟩
def OV(w:aH)(cb d f:Nat)(l:Int)(A:TypeId)(z:aQ)(p k:Option Addr)(m o c1 j:Nat)(P M E F G r L:World->Prop)
 (HX:Hid (Calls prog 130 #[bO cb,.iface A z] (w.alloc (.cells #[Iv0 l,.iface A z,.slice p m c1,.slice k o j] 217)) fun e a=>e=bE (.tuple #[])/\M a))
 (v:Hid (∀W,M W->Calls prog 149 #[bO cb,.nilIface] W fun e a=>e=bE (Iv0 d)/\E a))
 (x:Hid (∀W,E W->W.cell? (aL w.heap.size 2)=some (.slice p m c1)/\w.heap.size<W.heap.size))
 (HT:Hid (∀W,E W->Calls prog 222 #[bO cb,.slice p m c1] W fun e a=>e=bE (.tuple #[])/\F a))
 (s:Hid (∀W,F W->Calls prog 149 #[bO cb,.nilIface] W fun e a=>e=bE (Iv0 f)/\G a))
 (D:Hid (∀W,G W->cb<W.heap.size/\∃g n c,W.cell? (aL cb 1)=some (.slice (some (aL g 0)) n c)/\d<n/\n<=1000000/\(∃u,W.cell? (aL g d)=some u)/\W.frozen? (aL g d)=false/\g<W.heap.size/\∀h,aY (W.setCell (aL g d) (.iface 344 (.agg #[Iv0 n]))) h->r h))
 (C:Hid (∀W,r W->W.cell? (aL w.heap.size 3)=some (.slice k o j)/\w.heap.size<W.heap.size))
 (HL:Hid (∀W,r W->Calls prog 222 #[bO cb,.slice k o j] W fun e a=>e=bE (.tuple #[])/\L a))
 (q:Hid (∀W,L W->cb<W.heap.size/\∃g n c,W.cell? (aL cb 1)=some (.slice (some (aL g 0)) n c)/\f<n/\n<=1000000/\(∃u,W.cell? (aL g f)=some u)/\W.frozen? (aL g f)=false/\g<W.heap.size/\∀h,aY (W.setCell (aL g f) (.iface 345 (.agg #[Iv0 n]))) h->P h)):
 Calls prog 212 #[bO cb,.agg #[Iv0 l,.iface A z,.slice p m c1,.slice k o j]] w fun e a=>e=bE (.tuple #[])/\P a:=by
 go_in
 go_wp2_with fail;refine HX.mono ?_;rintro e w1 ⟨rfl,K⟩;have T:=aB (v _ K);clear K;go_wp2_with fail;refine T.mono ?_;rintro e w2 ⟨rfl,y⟩;obtain⟨b1,b2⟩:=x _ y;have H2:=aB (HT _ y);clear y;go_wp2_with fail;refine H2.mono ?_;rintro e w3 ⟨rfl,H⟩;have H3:=aB (s _ H);clear H;go_wp2_with fail;refine H3.mono ?_;rintro e w4 ⟨rfl,I⟩;obtain⟨f3,g,n,c,f4,f5,f6,⟨u,f7⟩,f8,f9,i⟩:=D _ I;have HP:=aB i;have i1:(0:Int)<=(d:Int):=by omega
 have i2:(d:Int)<(n:Int):=by omega
 clear I i;go_wp2_with fail;go_region
 all_goals
  have t:=HP _ (aY.drew _);obtain⟨d1,d2⟩:=C _ t;have Q:=aB (HL _ t);clear t;generalize J:(w4.setCell (aL g d) (.iface 344 (.agg #[Iv0 n]))).drew=w5 at*;have HW:=aB J;clear J;go_wp2_with fail;refine Q.mono ?_;rintro e w6 ⟨rfl,N⟩;obtain⟨ac,g',U,c',X,ab,S,⟨u',aa⟩,Y,O,b⟩:=q _ N;have B:=aB b;have Z:(0:Int)<=(f:Int):=by omega
  have V:(f:Int)<(U:Int):=by omega
  clear N b;go_wp2_with fail;go_region
  all_goals
   go_wp2
   go_end0;exact⟨rfl,B _ (aY.drew _)⟩
def XL(w:aH)(cb k a:Nat)(l:Int)(p:TypeId)(j:aQ)(h:Option Addr)(f c1:Nat)(P A s t v:World->Prop)
 (H:Hid (Calls prog 130 #[bO cb,.iface p j] (w.alloc (.cells #[Iv0 l,.iface p j,.slice h f c1] 219)) fun e b=>e=bE (.tuple #[])/\A b))
 (o:Hid (∀W,A W->Calls prog 149 #[bO cb,.nilIface] W fun e b=>e=bE (Iv0 k)/\s b))
 (r:Hid (∀W,s W->W.cell? (aL w.heap.size 2)=some (.slice h f c1)/\w.heap.size<W.heap.size))
 (I:Hid (∀W,s W->Calls prog 222 #[bO cb,.slice h f c1] W fun e b=>e=bE (.tuple #[])/\t b))
 (C:Hid (∀W,t W->Calls prog 149 #[bO cb,.iface 345 (.agg #[Iv0 a])] W fun e b=>(∃k:Nat,e=bE (Iv0 k))/\v b))
 (q:Hid (∀W,v W->cb<W.heap.size/\∃g n c,W.cell? (aL cb 1)=some (.slice (some (aL g 0)) n c)/\k<n/\n<=1000000/\(∃u,W.cell? (aL g k)=some u)/\W.frozen? (aL g k)=false/\g<W.heap.size/\∀B,aY (W.setCell (aL g k) (.iface 344 (.agg #[Iv0 n]))) B->P B)):
 Calls prog 213 #[bO cb,.agg #[Iv0 l,.iface p j,.slice h f c1],Iv0 a] w fun e b=>e=bE (.tuple #[])/\P b:=by
 go_in
 go_wp2_with fail;refine H.mono ?_;rintro e K ⟨rfl,y⟩;have F:=aB (o _ y);clear y;go_wp2_with fail;refine F.mono ?_;rintro e w2 ⟨rfl,i⟩;obtain⟨L,T⟩:=r _ i;have G:=aB (I _ i);clear i;go_wp2_with fail;refine G.mono ?_;rintro e N ⟨rfl,z⟩;have D:=aB (C _ z);clear z;go_wp2_with fail;refine D.mono ?_;rintro e J ⟨⟨m,rfl⟩,x⟩;obtain⟨Y,g,n,c,X,S,U,⟨u,Q⟩,M,Z,d⟩:=q _ x;have E:=aB d;have V:(0:Int)<=(k:Int):=by omega
 have O:(k:Int)<(n:Int):=by omega
 clear x d;go_wp2_with fail;go_region
 all_goals
  go_wp2
  go_end0;exact⟨rfl,E _ (aY.drew _)⟩
def stC_seen{fs:List aC}{d:Nat}{seen:cO}{a:aC}(p:Nat)(h:dS fs d seen a):(bC fs d seen a p).2=cU seen a:=
 (mM fs d seen a (fun _ _=>False) p h ⟨fun _ _ _ h=>h.elim,fun _ _ h=>h.elim⟩).2.1
def StsOk.split{S:cO->aC->Prop}:∀{l m:List aC} {seen:cO},Hs.StsOk S seen (l++m)->Hs.StsOk S seen l/\Hs.StsOk S (dX seen l) m
 |[],_,_,h=>⟨trivial,h⟩
 |_::_,_,_,h=>by
  obtain⟨c,a⟩:=h;obtain⟨d,b⟩:=StsOk.split a;exact⟨⟨c,d⟩,b⟩
def pW:∀(l m:List aC) (seen:cO),dX seen (l++m)=dX (dX seen l) m
 |[],_,_=>rfl
 |a::l,m,seen=>pW l m (cU seen a)
def pQ{fs:List aC}{d:Nat}:∀{l:List aC} (m:List aC) {seen:cO} (p:Nat),Hs.StsOk (dS fs d) seen l->bI (bC fs d) seen (l++m) p=bI (bC fs d) seen l p++bI (bC fs d) (dX seen l) m (p+(bI (bC fs d) seen l p).length)
 |[],m,seen,p,_=>by simp[bI,dX]
 |a::l,m,seen,p,h=>by
  obtain⟨c,b⟩:=h;rw[l9,bI,bI,stC_seen p c,pQ m _ b,m8,Y5,ay_];rfl
def ZX{fs:List aC}{d:Nat}(a:aC)(seen:cO)(p:Nat):bI (bC fs d) seen [a] p=(bC fs d seen a p).1:=by simp[bI]
def KS(fp:fN)(fb:Nat->Nat)(nms:cO)(cb:Nat)(F:cC)(w:aH)(code:List (Option aG))(seen:cO)(w':aH):Prop:=
 ∃G,(∀k,F k->G k)/\gI fp fb nms cb G w code seen w'
def PH(fp:fN)(fb:Nat->Nat)(fs:List aC)(cb lo:Nat)(d:Nat):Prop:=
 ∀(F:cC) (seen:cO) (v:aQ) (a:aC) (code:List (Option aG)) (w:aH),CP fp fb (fs.map (·.text)) cb F w code seen->PN (Btw lo cb) w v a->dS fs d seen a->mF a->seen.length<=90001->code.length+(bC fs d seen a code.length).1.length<=1000000->
  Calls prog 190 #[bO cb,v] w fun e w'=>e=bE (.tuple #[])/\KS fp fb (fs.map (·.text)) cb F w (code++(bC fs d seen a code.length).1.map some) (bC fs d seen a code.length).2 w'
section
variable {fp:fN} {fb:Nat->Nat} {fs:List aC} {cb lo:Nat} {F:cC} {seen:cO} {d:Nat}
def KS.then{w w1 w':aH}{b:cO}{a:List (Option aG)}(c:FB cb cb w w1)(h:KS fp fb b cb F w1 a seen w'):KS fp fb b cb F w a seen w':=by
 obtain⟨G,d,h⟩:=h;exact⟨G,d,h.then c⟩
def KS.more{G:cC}{w w':aH}{b:cO}{a:List (Option aG)}(e:∀k,F k->G k)(h:KS fp fb b cb G w a seen w'):KS fp fb b cb F w a seen w':=by
 obtain⟨H,d,h⟩:=h;exact⟨H,fun k c=>d k (e k c),h⟩
def VS{fs:List aC}{d:Nat}{seen:cO}{a:aC}(h:dS fs d seen a)(f:seen.length<=90001):(cU seen a).length<=90001:=by
 cases d with
 |zero=>exact h.elim
 |succ d=>
  unfold cU;split
  ·rename_i c;rcases h with ⟨_,b,t,v,e,_⟩|⟨b,_⟩|⟨b,_⟩|⟨b,_⟩|⟨b,_⟩|⟨b,_⟩|⟨b,_⟩
   ·rw[e];simp;omega
   all_goals exact absurd (c.symm.trans b) (by decide)
  ·exact f
def wP{fs:List aC}{d:Nat}:∀{l:List aC} {seen:cO},Hs.StsOk (dS fs d) seen l->seen.length<=90001->(dX seen l).length<=90001
 |[],_,_,h=>h
 |a::l,seen,c,h=>by
  obtain⟨e,b⟩:=c;exact wP (l:=l) (seen:=cU seen a) b (VS e h)
def pE(O:PH fp fb fs cb lo d)(v:aQ)(l:List aC)(b:List (Option aG))(w:aH)(h:CP fp fb (fs.map (·.text)) cb F w b seen)(S:PKid (Btw lo cb) w v l)(J:Hs.StsOk (dS fs d) seen l)(E:∀a∈l,mF a)(N:l.length<=1000000)(z:seen.length<=90001)(V:b.length+(bI (bC fs d) seen l b.length).length<=1000000):
 Calls prog 148 #[bO cb,v] w fun e t=>e=bE (.tuple #[])/\KS fp fb (fs.map (·.text)) cb F w (b++(bI (bC fs d) seen l b.length).map some) (dX seen l) t:=by
 rcases S.get with ⟨rfl,rfl⟩|⟨g,B,rfl,K,H,I,U⟩
 ·refine(AL w cb).mono ?_;rintro e t ⟨rfl,rfl⟩;exact⟨rfl,F,fun _ h=>h,by simpa [bI,dX] using h,FB.refl _⟩
 ·refine(yF w cb g l.length B (fun j W=>j<=l.length/\KS fp fb (fs.map (·.text)) cb F w (b++(bI (bC fs d) seen (l.take j) b.length).map some) (dX seen (l.take j)) W) N ⟨n8 _,F,fun _ h=>h,by simpa [bI,dX] using h,FB.refl _⟩ (fun j W L x=>?_)).mono ?_
  ·obtain⟨_,G,Q,y,f⟩:=L;obtain⟨u,P,m⟩:=U j x;obtain⟨T,M,rfl⟩:=m.form;have k:l.take (j+1)=l.take j++[l[j]]:=i6 x
   have i:Hs.StsOk (dS fs d) seen (l.take j++(l[j]::l.drop (j+1))):=by
    have e:l.take j++(l[j]::l.drop (j+1))=l:=by
     rw[y6];exact l8 _ _
    rw[e];exact J
   obtain⟨n,o,_⟩:=StsOk.split i;have r:bI (bC fs d) seen (l.take (j+1)) b.length=bI (bC fs d) seen (l.take j) b.length++(bC fs d (dX seen (l.take j)) l[j] (b.length+(bI (bC fs d) seen (l.take j) b.length).length)).1:=by rw[k,pQ _ _ n,ZX]
   have q:(bI (bC fs d) seen (l.take (j+1)) b.length).length<=(bI (bC fs d) seen l b.length).length:=by
    have C:Hs.StsOk (dS fs d) seen (l.take (j+1)++l.drop (j+1)):=by rw[l8];exact J
    have:=pQ (l.drop (j+1)) b.length (StsOk.split C).1;rw[l8] at this;rw[this,Y5];omega
   have s:(b++(bI (bC fs d) seen (l.take j) b.length).map some).length=b.length+(bI (bC fs d) seen (l.take j) b.length).length:=by simp
   have A:dX seen (l.take (j+1))=(bC fs d (dX seen (l.take j)) l[j] (b.length+(bI (bC fs d) seen (l.take j) b.length).length)).2:=by
    rw[k,pW,stC_seen _ o];rfl
   refine⟨Y7 H f.bel.size,T,.agg M,by rw[f.bel.cell (p:=(aL g j)) K.2];exact P,(O G _ _ l[j] _ W y (m.below f.bel) o (E _ (e8 x)) (wP n z) ?_).mono ?_⟩
   ·rw[s];rw[r,Y5] at q;omega
   ·rintro e t ⟨D,c⟩;refine⟨D,x,?_⟩;rw[s] at c;rw[r,A,m6,<-m8];exact(c.then f).more Q
  ·rintro e t ⟨D,_,c⟩;rw[j7 dH] at c;exact⟨D,c⟩
def TE(N:PH fp fb fs cb lo d)(v:aQ)(l:List aC)(f:List (Option aG))(w:aH)(h:CP fp fb (fs.map (·.text)) cb F w f seen)(C:PKid (Btw lo cb) w v l)(L:Hs.StsOk (dS fs d) seen l)(z:∀a∈l,mF a)(M:l.length<=1000000)(r:seen.length<=90001)(P:f.length+(bI (bC fs d) seen l f.length).length<=1000000):
 Calls prog 222 #[bO cb,v] w fun e D=>e=bE (.tuple #[])/\KS fp fb (fs.map (·.text)) cb F w (f++(bI (bC fs d) seen l f.length).map some) seen D:=by
 obtain⟨x,c,rfl⟩:=C.sliceC;have s:=pE N _ l f w h C L z M r P;obtain⟨fv,Y,X,J,_,B,_⟩:=h.blk;obtain⟨p,rfl⟩:=B.form;refine TJ w cb p x l.length c _ _ (aA J rfl) s (fun W H=>?_)
 obtain⟨G,u,g,n⟩:=H;obtain⟨y,t,V,m,⟨O,A,U⟩,Z,Q⟩:=g.blk;refine⟨⟨_,aA m rfl⟩,aE m,aD m,G,u,⟨⟨y,t,.pointer p,aT m,⟨O,?_,?_⟩,?_,?_⟩,fun k j=>?_⟩,?_⟩
 all_goals have j:∀k,k≠cb->(W.setCell (aL cb 2) (.pointer p)).heap[k]?=W.heap[k]?:=fun k j=>Y6 _ _ _ _ j
 all_goals have i:∀b,G b->(W.setCell (aL cb 2) (.pointer p)).heap[b]?=W.heap[b]?:=fun b q=>j b (g.fix b q).2.1
 all_goals have o:kW cb (W.setCell (aL cb 2) (.pointer p))=kW cb W:=by rw[jA (aT m),jA m]
 ·exact bA A fun k e=>j k (by have:=(A.lt k e).1;omega)
 ·exact U.keep i eD
 ·exact fA.keep (fun b q=>by rw[i b (u b q),h.fixed n b q]) u B
 ·exact Q.keep i eD (by simp)
 ·obtain⟨S,K,T⟩:=g.fix k (by assumption)
  exact⟨by simpa using S,K,by rw[o];exact T⟩
 ·refine n.trans ⟨⟨rfl,rfl,rfl,by simp,fun k I=>j k (by omega)⟩,fun k _ E _=>j k E,fun k e=>Y4 (by rw[<-o];exact e)⟩
end
section
variable {fp:fN} {fb:Nat->Nat} {fs:List aC} {cb lo:Nat} {F:cC} {alone:Bool} {seen:cO} {d:Nat}
def YX(IH:CY fp fb fs cb lo F alone seen d)(S:fs.length<=1000000)(G:∀k,k<fs.length->fp k=bO (fb k))(a:aC)(Y:aQ)(l:Int)(b:List (Option aG))(w:aH)(K:CP fp fb (fs.map (·.text)) cb F w b seen)(y:a.op=[99,97,108,108])(V:PKid (Btw lo cb) w Y a.kids)(P:Hs.ExOk fs alone seen (d+1) a)(T:pG (d+1) a)(o:b.length+(aF fs seen (d+1) a b.length).length<=1000000):
 Calls prog 174 #[bO cb,.agg #[Iv0 l,.string (bs a.text),Y]] w fun e u=>e=bE (.tuple #[])/\gI fp fb (fs.map (·.text)) cb F w (b++(aF fs seen (d+1) a b.length).map some) seen u:=by
 have n:=ExOk.op P;obtain⟨_,L,D⟩:=T;rw[BV fs seen d a _ y] at o ⊢
 rw[Y5,s5] at o;have N:=n.1;have p:=n.2.2 y;obtain⟨x,c,rfl⟩:=V.sliceC;obtain⟨h,v⟩:=K.new (.cells #[Iv0 l,.string (bs a.text),.slice x a.kids.length c] 224);have B:∀{W:aH},FB cb cb (w.alloc (.cells #[Iv0 l,.string (bs a.text),.slice x a.kids.length c] 224)) W->W.heap[w.heap.size]?=some (.cells #[Iv0 l,.string (bs a.text),.slice x a.kids.length c] 224 (0,0)):=fun M=>(h.step M).blk
 have j:Calls prog 172 #[bO cb,.slice x a.kids.length c] (w.alloc (.cells #[Iv0 l,.string (bs a.text),.slice x a.kids.length c] 224)) fun e u=>e=bE (.tuple #[])/\(gI fp fb (fs.map (·.text)) cb F w (b++(bS (aF fs seen d) a.kids b.length).map some) seen u/\u.heap[w.heap.size]?=some (.cells #[Iv0 l,.string (bs a.text),.slice x a.kids.length c] 224 (0,0))):=by
  refine(rA IH _ _ _ _ v (V.below h.fb.bel) N D L (by omega)).mono ?_
  rintro e u ⟨H,z⟩;exact⟨H,z.then h.fb,B z.2⟩
 have m:∀{i:aG} {e:Ending} {W:aH},(e=bE (.tuple #[])/\gI fp fb (fs.map (·.text)) cb F w ((b++(bS (aF fs seen d) a.kids b.length).map some)++[some i]) seen W)->e=bE (.tuple #[])/\gI fp fb (fs.map (·.text)) cb F w (b++(bS (aF fs seen d) a.kids b.length++[i]).map some) seen W:=fun g=>by
  rw[m6,<-m8];exact g
 have t:(b++(bS (aF fs seen d) a.kids b.length).map some).length+1<=1000000:=by rw[fV];omega
 rcases p with q|q|⟨A,C,r⟩
 ·rw[q] at j ⊢
  refine(PA w cb a.kids.length c l x _ _ j (fun W g=>⟨aA g.2 rfl,aD g.2⟩) (fun W g=>emits (i:=.length) g.1 rfl t)).mono ?_
  intro e W g;exact m g
 ·rw[q] at j ⊢
  refine(GL w cb a.kids.length c l x _ _ j (fun W g=>⟨aA g.2 rfl,aD g.2⟩) (fun W g=>emits (i:=.read) g.1 rfl t)).mono ?_
  intro e W g;exact m g
 ·have s:dD fs a.text<fs.length:=by
   unfold fW at r;cases X:fs[dD fs a.text]? with
   |none=>rw[X] at r;cases r
   |some f=>exact(j4.1 X).1
  have E:a.text∈fs.map (·.text):=by
   have Q:=s;unfold dD at Q;have:=af_ (w:=Q);exact ac_.2 ⟨_,e8 Q,by simpa using this⟩
  have e1:(a.text==[108,101,110])=false:=by simpa using A
  have Z:(a.text==[114,101,97,100])=false:=by simpa using C
  rw[e1,Z];refine(CR w cb a.kids.length c (fb (dD fs a.text)) l a.text x (fun W=>gI fp fb (fs.map (·.text)) cb F w ((b++(bS (aF fs seen d) a.kids b.length).map some)++[some (.call (dD fs a.text) a.kids.length)]) seen W) _ A C j (fun W g=>⟨aA g.2 rfl,aA g.2 rfl,aD g.2⟩) (fun W U g I=>?_) (fun W U g I=>?_)).mono ?_
  ·refine(sH a.text (g.1.1.grow I.below) E (by simpa using S)).mono ?_
   rintro e u ⟨H,J⟩;rw[BS,G _ s] at H;exact⟨H,J⟩
  ·have O:gI fp fb (fs.map (·.text)) cb F w (b++(bS (aF fs seen d) a.kids b.length).map some) seen U:=⟨g.1.1.grow I.below,g.1.2.trans (FB.of_lt I.below g.1.1.lt)⟩
   exact emits (i:=.call (dD fs a.text) a.kids.length) O (by show _=_;rw[G _ s]) t
  ·intro e W g;exact m g
end
section
variable (fs:List aC) (seen:cO) (d:Nat) (a:aC) (p:Nat)
def K5(t v:aC)(h:a.op=[118,97,114])(b:a.kids=[t,v]):bC fs (d+1) seen a p=(.begin a.line seen::aF fs seen d v (p+1)++[.declare seen.length],t.text::seen):=by rw[bC];simp[h,b]
def K6(h:a.op=[115,101,116]):bC fs (d+1) seen a p=(.begin a.line seen::bS (aF fs seen d) a.kids (p+1)++[.assign (eE seen a.text) (a.kids.length-1)],seen):=by rw[bC];simp[h]
def K8(c t:aC)(h:a.op=[105,102])(b:a.kids=[c,t]):bC fs (d+1) seen a p=
 (.begin a.line seen::aF fs seen d c (p+1)++[.skip (p+1+(aF fs seen d c (p+1)).length+1+(bI (bC fs d) seen t.kids (p+1+(aF fs seen d c (p+1)).length+1)).length+1)]++bI (bC fs d) seen t.kids (p+1+(aF fs seen d c (p+1)).length+1)++[.jump (p+1+(aF fs seen d c (p+1)).length+1+(bI (bC fs d) seen t.kids (p+1+(aF fs seen d c (p+1)).length+1)).length+1)],seen):=by rw[bC];simp[h,b]
def K7(c t x:aC)(h:a.op=[105,102])(b:a.kids=[c,t,x]):bC fs (d+1) seen a p=
 (.begin a.line seen::aF fs seen d c (p+1)++[.skip (p+1+(aF fs seen d c (p+1)).length+1+(bI (bC fs d) seen t.kids (p+1+(aF fs seen d c (p+1)).length+1)).length+1)]++bI (bC fs d) seen t.kids (p+1+(aF fs seen d c (p+1)).length+1)++[.jump (p+1+(aF fs seen d c (p+1)).length+1+(bI (bC fs d) seen t.kids (p+1+(aF fs seen d c (p+1)).length+1)).length+1+(bI (bC fs d) seen x.kids (p+1+(aF fs seen d c (p+1)).length+1+(bI (bC fs d) seen t.kids (p+1+(aF fs seen d c (p+1)).length+1)).length+1)).length)]++
   bI (bC fs d) seen x.kids (p+1+(aF fs seen d c (p+1)).length+1+(bI (bC fs d) seen t.kids (p+1+(aF fs seen d c (p+1)).length+1)).length+1),seen):=by rw[bC];simp[h,b]
def VL(c b:aC)(h:a.op=[119,104,105,108,101])(e:a.kids=[c,b]):bC fs (d+1) seen a p=
 (.begin a.line seen::aF fs seen d c (p+1)++[.skip (p+1+(aF fs seen d c (p+1)).length+1+(bI (bC fs d) seen b.kids (p+1+(aF fs seen d c (p+1)).length+1)).length+1)]++bI (bC fs d) seen b.kids (p+1+(aF fs seen d c (p+1)).length+1)++[.jump p],seen):=by rw[bC];simp[h,e]
def LM(h:a.op=[114,101,116,117,114,110])(b:a.kids=[]):bC fs (d+1) seen a p=([.begin a.line seen,.push (bD 0),.give],seen):=by rw[bC];simp[h,b]
def LL(v:aC)(h:a.op=[114,101,116,117,114,110])(b:a.kids=[v]):bC fs (d+1) seen a p=(.begin a.line seen::aF fs seen d v (p+1)++[.give],seen):=by rw[bC];simp[h,b]
def VM(v:aC)(h:a.op=[112,114,105,110,116])(b:a.kids=[v]):bC fs (d+1) seen a p=(.begin a.line seen::aF fs seen d v (p+1)++[.print],seen):=by rw[bC];simp[h,b]
def S7(c:aC)(h:a.op=[100,111])(b:a.kids=[c]):bC fs (d+1) seen a p=(.begin a.line seen::aF fs seen d c (p+1)++[.drop],seen):=by rw[bC];simp[h,b]
end
section
variable {fp:fN} {fb:Nat->Nat} {fs:List aC} {cb lo:Nat} {F:cC} {seen:cO} {d:Nat}
def pH(fp:fN)(fb:Nat->Nat)(nms:cO)(cb:Nat)(F:cC)(w w1:aH)(b:Nat)(o:Obj)(seen:cO)(c:List (Option aG))(W:aH):Prop:=
 ∃G,(∀k,F k->G k)/\gI fp fb nms cb G w c seen W/\Loc cb cb w1 b o W
def pH.emit{d:cO}{w w1 W:aH}{b:Nat}{o:Obj}{c:List (Option aG)}(h:pH fp fb d cb F w w1 b o seen c W){u:aQ}{i:Option aG}(l:∀G,Q9 fp G W u i)(n:c.length<=1000000):
 Calls prog 149 #[bO cb,u] W fun e f=>e=bE (Iv0 c.length)/\pH fp fb d cb F w w1 b o seen (c++[i]) f:=by
 obtain⟨G,m,a,k⟩:=h;refine(qK (o:=i) a.1 (l G) n).mono ?_;rintro e f ⟨p,j,g⟩;exact⟨p,G,m,⟨j,a.2.trans g⟩,k.step g⟩
def pH.patch{e:cO}{w w1 W:aH}{b:Nat}{o:Obj}{d a:List (Option aG)}(v:pH fp fb e cb F w w1 b o seen (d++none::a) W)(k:Nat)(t:k=d.length)(l:TypeId)(i:Nat->aG)(A:∀G n,lC fp G W (.iface l (.agg #[Iv0 (n:Nat)])) (i n))(C:(d++none::a).length<=1000000):
 cb<W.heap.size/\∃g n c,W.cell? (aL cb 1)=some (.slice (some (aL g 0)) n c)/\k<n/\n<=1000000/\(∃u,W.cell? (aL g k)=some u)/\W.frozen? (aL g k)=false/\g<W.heap.size/\∀h,aY (W.setCell (aL g k) (.iface l (.agg #[Iv0 (n:Nat)]))) h->pH fp fb e cb F w w1 b o seen (d++some (i (d++none::a).length)::a) h:=by
 obtain⟨G,B,⟨f,j⟩,y⟩:=v;obtain⟨g,c,z,s,p,r,q⟩:=f.patch;subst t;refine⟨f.lt,g,_,c,z,by simp,C,s,p,r,fun h D=>?_⟩
 obtain⟨x,m⟩:=q _ _ h (A G _) D;exact⟨G,B,⟨x,j.trans m⟩,y.step m⟩
def pH.blockk(t:PH fp fb fs cb lo d){w w1 W:aH}{b:Nat}{o:Obj}{c:List (Option aG)}(n:pH fp fb (fs.map (·.text)) cb F w w1 b o seen c W)(v:aQ)(l:List aC)(y:PKid (Btw lo cb) w v l)(q:Hs.StsOk (dS fs d) seen l)(i:∀a∈l,mF a)(r:l.length<=1000000)(h:seen.length<=90001)(x:c.length+(bI (bC fs d) seen l c.length).length<=1000000):
 Calls prog 222 #[bO cb,v] W fun e j=>e=bE (.tuple #[])/\pH fp fb (fs.map (·.text)) cb F w w1 b o seen (c++(bI (bC fs d) seen l c.length).map some) j:=by
 obtain⟨G,u,g,p⟩:=n;refine(TE t v l c W g.1 (y.below g.2.bel) q i r h x).mono ?_;rintro e j ⟨z,H,s,f⟩;exact⟨z,H,fun k m=>s k (u k m),f.then g.2,p.step f.2⟩
def pH.exprk{w w1 W:aH}{b:Nat}{o:Obj}{c:List (Option aG)}(n:pH fp fb (fs.map (·.text)) cb F w w1 b o seen c W)(h:fs.length<=1000000)(i:∀k,k<fs.length->fp k=bO (fb k))(m:seen.length<=90001)(v:aQ)(a:aC)(t:PN (Btw lo cb) w v a)(q:Hs.ExOk fs false seen d a)(j:mF a)(s:c.length+(aF fs seen d a c.length).length<=1000000):
 Calls prog 130 #[bO cb,v] W fun e l=>e=bE (.tuple #[])/\pH fp fb (fs.map (·.text)) cb F w w1 b o seen (c++(aF fs seen d a c.length).map some) l:=by
 obtain⟨G,r,g,p⟩:=n;refine(rC (by omega) h i d v a c W g.1 (t.below g.2.bel) q (j d) s).mono ?_
 rintro e l ⟨u,f⟩;exact⟨u,G,r,f.then g.2,p.step f.2⟩
def pH.exprsk{w w1 W:aH}{b:Nat}{o:Obj}{c:List (Option aG)}(p:pH fp fb (fs.map (·.text)) cb F w w1 b o seen c W)(h:fs.length<=1000000)(i:∀k,k<fs.length->fp k=bO (fb k))(n:seen.length<=90001)(v:aQ)(l:List aC)(x:PKid (Btw lo cb) w v l)(r:∀a∈l,Hs.ExOk fs false seen d a)(j:∀a∈l,mF a)(s:l.length<=1000000)(u:c.length+(bS (aF fs seen d) l c.length).length<=1000000):
 Calls prog 172 #[bO cb,v] W fun e m=>e=bE (.tuple #[])/\pH fp fb (fs.map (·.text)) cb F w w1 b o seen (c++(bS (aF fs seen d) l c.length).map some) m:=by
 obtain⟨G,t,g,q⟩:=p;refine(rA (rC (by omega) h i d) v l c W g.1 (x.below g.2.bel) r (fun a z=>j a z d) s u).mono ?_
 rintro e m ⟨y,f⟩;exact⟨y,G,t,f.then g.2,q.step f.2⟩
def pH.fin{a:cO}{w w1 W:aH}{b:Nat}{o:Obj}{c:List (Option aG)}(e:pH fp fb a cb F w w1 b o seen c W):KS fp fb a cb F w c seen W:=by
 obtain⟨G,f,d,_⟩:=e;exact⟨G,f,d⟩
def pH.box{a:cO}{w w1 W:aH}{b:Nat}{cs:Array Value}{T:TypeId}{c:List (Option aG)}(d:pH fp fb a cb F w w1 b (.cells cs T) seen c W):W.heap[b]?=some (.cells cs T (0,0)):=by
 obtain⟨G,f,_,e⟩:=d;exact e.blk
def CP.cpB{c:cO}{w:aH}{a:List (Option aG)}(h:CP fp fb c cb F w a seen)(o:Obj):pH fp fb c cb F w w w.heap.size o seen a (w.alloc o):=by
 obtain⟨b,d⟩:=h.new o;exact⟨F,fun _ h=>h,⟨d,b.fb⟩,b⟩
def xG(V:PH fp fb fs cb lo d)(O:fs.length<=1000000)(Q:∀k,k<fs.length->fp k=bO (fb k))(B:seen.length<=90001)(l:Int)(v1 X U:aQ)(c:aC)(s r:List aC)(b:List (Option aG))(w:aH)(h:CP fp fb (fs.map (·.text)) cb F w b seen)
 (Y:PN (Btw lo cb) w v1 c) (T:PKid (Btw lo cb) w X s) (Z:PKid (Btw lo cb) w U r) (ho:Hs.ExOk fs false seen d c) (L:Hs.StsOk (dS fs d) seen s) (S:Hs.StsOk (dS fs d) seen r) (hl:mF c) (P:∀a∈s,mF a) (J:∀a∈r,mF a) (I:s.length<=1000000) (M:r.length<=1000000)
 (f j q:List aG) (C:aF fs seen d c b.length=f) (D:bI (bC fs d) seen s (b.length+f.length+1)=j) (E:bI (bC fs d) seen r (b.length+f.length+1+j.length+1)=q) (hn:b.length+f.length+1+j.length+1+q.length<=1000000):
 Calls prog 212 #[bO cb,.agg #[Iv0 l,v1,X,U]] w fun e w'=>e=bE (.tuple #[])/\KS fp fb (fs.map (·.text)) cb F w (b++(f++[aG.skip (b.length+f.length+1+j.length+1)]++j++[aG.jump (b.length+f.length+1+j.length+1+q.length)]++q).map some) seen w':=by
 obtain⟨v,o,rfl⟩:=Y.form;obtain⟨A,x,rfl⟩:=T.sliceC;obtain⟨z,y,rfl⟩:=Z.sliceC;have K:=h.cpB (.cells #[Iv0 l,.iface v (.agg o),.slice A s.length x,.slice z r.length y] 217)
 refine(OV w cb (b.length+f.length) (b.length+f.length+1+j.length) l v (.agg o) A z s.length r.length x y
  (fun W=>KS fp fb (fs.map (·.text)) cb F w ((b++f.map some++some (aG.skip (b.length+f.length+1+j.length+1))::j.map some)++some (aG.jump (b.length+f.length+1+j.length+1+q.length))::q.map some) seen W)
  (pH fp fb (fs.map (·.text)) cb F w w w.heap.size (.cells #[Iv0 l,.iface v (.agg o),.slice A s.length x,.slice z r.length y] 217) seen (b++f.map some))
  (pH fp fb (fs.map (·.text)) cb F w w w.heap.size (.cells #[Iv0 l,.iface v (.agg o),.slice A s.length x,.slice z r.length y] 217) seen (b++f.map some++[none]))
  (pH fp fb (fs.map (·.text)) cb F w w w.heap.size (.cells #[Iv0 l,.iface v (.agg o),.slice A s.length x,.slice z r.length y] 217) seen (b++f.map some++[none]++j.map some))
  (pH fp fb (fs.map (·.text)) cb F w w w.heap.size (.cells #[Iv0 l,.iface v (.agg o),.slice A s.length x,.slice z r.length y] 217) seen (b++f.map some++[none]++j.map some++[none]))
  (pH fp fb (fs.map (·.text)) cb F w w w.heap.size (.cells #[Iv0 l,.iface v (.agg o),.slice A s.length x,.slice z r.length y] 217) seen (b++f.map some++some (aG.skip (b.length+f.length+1+j.length+1))::(j.map some++[none])))
  (pH fp fb (fs.map (·.text)) cb F w w w.heap.size (.cells #[Iv0 l,.iface v (.agg o),.slice A s.length x,.slice z r.length y] 217) seen (b++f.map some++some (aG.skip (b.length+f.length+1+j.length+1))::(j.map some++[none])++q.map some))
  ?_ (fun W m=>?_) (fun W m=>?_) (fun W m=>?_) (fun W m=>?_) (fun W m=>?_) (fun W m=>?_) (fun W m=>?_) (fun W m=>?_)).mono ?_
 ·have:=K.exprk O Q B _ c Y ho hl (by rw[C];omega)
  rw[C] at this;exact this
 ·have:=m.emit (u:=.nilIface) (i:=none) (fun _=>rfl) (by simp;omega)
  rw[fV] at this;exact this
 ·exact⟨aA m.box rfl,aD m.box⟩
 ·have p:(b++f.map some++[none]).length=b.length+f.length+1:=by simp;omega
  have:=m.blockk V _ s T L P I B (by rw[p,D];omega)
  rw[p,D] at this;exact this
 ·have p:(b++f.map some++[none]++j.map some).length=b.length+f.length+1+j.length:=by simp;omega
  have:=m.emit (u:=.nilIface) (i:=none) (fun _=>rfl) (by rw[p];omega)
  rw[p] at this;exact this
 ·have G:b++f.map some++[none]++j.map some++[none]=(b++f.map some)++none::(j.map some++[none]):=by simp
  rw[G] at m;have t:((b++f.map some)++none::(j.map some++[none])).length=b.length+f.length+1+j.length+1:=by simp;omega
  have:=m.patch (b.length+f.length) (by rw[fV]) 344 (fun n=>.skip n) (fun _ _=>rfl) (by rw[t];omega)
  rw[t] at this;exact this
 ·exact⟨aA m.box rfl,aD m.box⟩
 ·have p:(b++f.map some++some (aG.skip (b.length+f.length+1+j.length+1))::(j.map some++[none])).length=b.length+f.length+1+j.length+1:=by simp;omega
  have:=m.blockk V _ r Z S J M B (by rw[p,E];omega)
  rw[p,E] at this;exact this
 ·have G:b++f.map some++some (aG.skip (b.length+f.length+1+j.length+1))::(j.map some++[none])++q.map some=(b++f.map some++some (aG.skip (b.length+f.length+1+j.length+1))::j.map some)++none::q.map some:=by simp
  rw[G] at m;have t:((b++f.map some++some (aG.skip (b.length+f.length+1+j.length+1))::j.map some)++none::q.map some).length=b.length+f.length+1+j.length+1+q.length:=by simp;omega
  have H:b.length+f.length+1+j.length=(b++f.map some++some (aG.skip (b.length+f.length+1+j.length+1))::j.map some).length:=by simp;omega
  have:=m.patch (b.length+f.length+1+j.length) H 345 (fun n=>.jump n) (fun _ _=>rfl) (by rw[t];omega)
  rw[t] at this;obtain⟨a1,g,n,N,a2,a3,a4,a5,a6,a7,a8⟩:=this;exact⟨a1,g,n,N,a2,a3,a4,a5,a6,a7,fun W' hS=>(a8 W' hS).fin⟩
 ·intro e W m;have e9:b++(f++[aG.skip (b.length+f.length+1+j.length+1)]++j++[aG.jump (b.length+f.length+1+j.length+1+q.length)]++q).map some=(b++f.map some++some (aG.skip (b.length+f.length+1+j.length+1))::j.map some)++some (aG.jump (b.length+f.length+1+j.length+1+q.length))::q.map some:=by simp
  rw[e9];exact m
def YO(Z:PH fp fb fs cb lo d)(G:fs.length<=1000000)(I:∀k,k<fs.length->fp k=bO (fb k))(x:seen.length<=90001)(l:Int)(f:Nat)(v1 L:aQ)(c:aC)(q:List aC)(b:List (Option aG))(w:aH)(h:CP fp fb (fs.map (·.text)) cb F w b seen)
 (M:PN (Btw lo cb) w v1 c) (K:PKid (Btw lo cb) w L q) (X:Hs.ExOk fs false seen d c) (D:Hs.StsOk (dS fs d) seen q) (Y:mF c) (H:∀a∈q,mF a) (B:q.length<=1000000)
 (j m:List aG) (y:aF fs seen d c b.length=j) (z:bI (bC fs d) seen q (b.length+j.length+1)=m) (hn:b.length+j.length+1+m.length+1<=1000000):
 Calls prog 213 #[bO cb,.agg #[Iv0 l,v1,L],Iv0 f] w fun e J=>e=bE (.tuple #[])/\KS fp fb (fs.map (·.text)) cb F w (b++(j++[aG.skip (b.length+j.length+1+m.length+1)]++m++[aG.jump f]).map some) seen J:=by
 obtain⟨s,p,rfl⟩:=M.form;obtain⟨v,t,rfl⟩:=K.sliceC;have C:=h.cpB (.cells #[Iv0 l,.iface s (.agg p),.slice v q.length t] 219)
 refine(XL w cb (b.length+j.length) f l s (.agg p) v q.length t
  (fun W=>KS fp fb (fs.map (·.text)) cb F w ((b++j.map some)++some (aG.skip (b.length+j.length+1+m.length+1))::(m.map some++[some (aG.jump f)])) seen W)
  (pH fp fb (fs.map (·.text)) cb F w w w.heap.size (.cells #[Iv0 l,.iface s (.agg p),.slice v q.length t] 219) seen (b++j.map some))
  (pH fp fb (fs.map (·.text)) cb F w w w.heap.size (.cells #[Iv0 l,.iface s (.agg p),.slice v q.length t] 219) seen (b++j.map some++[none]))
  (pH fp fb (fs.map (·.text)) cb F w w w.heap.size (.cells #[Iv0 l,.iface s (.agg p),.slice v q.length t] 219) seen (b++j.map some++[none]++m.map some))
  (pH fp fb (fs.map (·.text)) cb F w w w.heap.size (.cells #[Iv0 l,.iface s (.agg p),.slice v q.length t] 219) seen (b++j.map some++[none]++m.map some++[some (aG.jump f)]))
  ?_ (fun W o=>?_) (fun W o=>?_) (fun W o=>?_) (fun W o=>?_) (fun W o=>?_)).mono ?_
 ·have:=C.exprk G I x _ c M X Y (by rw[y];omega)
  rw[y] at this;exact this
 ·have:=o.emit (u:=.nilIface) (i:=none) (fun _=>rfl) (by simp;omega)
  rw[fV] at this;exact this
 ·exact⟨aA o.box rfl,aD o.box⟩
 ·have r:(b++j.map some++[none]).length=b.length+j.length+1:=by simp;omega
  have:=o.blockk Z _ q K D H B x (by rw[r,z];omega)
  rw[r,z] at this;exact this
 ·have r:(b++j.map some++[none]++m.map some).length=b.length+j.length+1+m.length:=by simp;omega
  refine(o.emit (u:=.iface 345 (.agg #[Iv0 f])) (i:=some (aG.jump f)) (fun _=>rfl) (by rw[r];omega)).mono ?_
  rintro e J ⟨he,P⟩;exact⟨⟨_,he⟩,P⟩
 ·have O:b++j.map some++[none]++m.map some++[some (aG.jump f)]=(b++j.map some)++none::(m.map some++[some (aG.jump f)]):=by simp
  rw[O] at o;have A:((b++j.map some)++none::(m.map some++[some (aG.jump f)])).length=b.length+j.length+1+m.length+1:=by simp;omega
  have:=o.patch (b.length+j.length) (by rw[fV]) 344 (fun n=>.skip n) (fun _ _=>rfl) (by rw[A];omega)
  rw[A] at this;obtain⟨a1,g,n,E,a2,T,V,U,a6,Q,N⟩:=this;exact⟨a1,g,n,E,a2,T,V,U,a6,Q,fun W' hS=>(N W' hS).fin⟩
 ·intro e W o;have S:b++(j++[aG.skip (b.length+j.length+1+m.length+1)]++m++[aG.jump f]).map some=(b++j.map some)++some (aG.skip (b.length+j.length+1+m.length+1))::(m.map some++[some (aG.jump f)]):=by simp
  rw[S];exact o
end
section
variable {fp:fN} {fb:Nat->Nat} {fs:List aC} {cb lo:Nat} {d:Nat}
def gI.cpB{F:cC}{seen:cO}{c:cO}{w W:aH}{a:List (Option aG)}(h:gI fp fb c cb F w a seen W)(o:Obj):pH fp fb c cb F w W W.heap.size o seen a (W.alloc o):=by
 obtain⟨b,d⟩:=h.1.new o;exact⟨F,fun _ h=>h,⟨d,h.2.trans b.fb⟩,b⟩
def G4(IH:PH fp fb fs cb lo d)(Y:fs.length<=1000000)(X:∀k,k<fs.length->fp k=bO (fb k)):PH fp fb fs cb lo (d+1):=by
 intro F f v a g w h bc Q J ac z;obtain⟨T,cs,ps,rfl,bd,L⟩:=bc.parts;obtain⟨fv,cv,sp,m,_,h4,_⟩:=h.blk;obtain⟨p,rfl⟩:=h4.form;have V:=h.lt;have ab:w.cell? (aL cb 2)=some (.pointer p):=aA m rfl
 have aa:g.length+1<=1000000->Calls prog 149 #[bO cb,.iface 260 (.agg #[Iv0 a.line,.pointer p])] (w.drew.alloc (.cells #[Iv0 a.line] 177)) fun e w'=>e=bE (Iv0 g.length)/\gI fp fb (fs.map (·.text)) cb F w (g++[some (.begin a.line f)]) f w':=fun hn=>by
  have hb:Below w.heap.size w (w.drew.alloc (.cells #[Iv0 a.line] 177)):=((Y8 _ w).drew).alloc dH _;have h':=h.grow hb;refine(qK (o:=some (.begin a.line f)) h' ⟨_,rfl,fA.keep (fun b az=>hb.block b (h.fix b az).1) eD h4⟩ (by omega)).mono ?_
  rintro e w' ⟨H,q1,q2⟩;exact⟨H,q1,(FB.of_lt hb V).trans q2⟩
 have B:(g++[some (aG.begin a.line f)]).length=g.length+1:=by simp
 have af:f.length<=1000000:=by omega
 have no:∀{x y:cE} {p:Prop},a.op=x->x≠y->a.op=y->p:=fun e1 e2 e3=>absurd (e1.symm.trans e3) e2
 rcases bd with ⟨_,_,_,n,_⟩|⟨_,_,n,_⟩|⟨_,_,n,_⟩|⟨_,_,_,n,_⟩|⟨_,_,_,n,_⟩|⟨_,_,n,_⟩|⟨_,_,_,_,_,_,_,n,_⟩|⟨_,o,_,_,_,ax,n,_⟩|⟨_,_,_,_,_,_,_,n,_⟩|⟨rfl,v1,t,A,rfl,n,j,rfl⟩|⟨rfl,sv,v1,l,A,rfl,n,j,rfl⟩|⟨rfl,v1,s1,A,N,rfl,n,au,j,rfl⟩|⟨rfl,v1,s1,s2,A,N,b2,rfl,n,au,bf,j,rfl⟩|⟨rfl,v1,s1,A,N,rfl,n,au,j,rfl⟩|⟨rfl,l,rfl,n,j,rfl⟩|⟨rfl,v1,A,rfl,n,j,rfl⟩|⟨rfl,v1,A,rfl,n,j,rfl⟩|⟨rfl,sv,c,rfl,n,av,be,j,aj,rfl⟩
 iterate 7
  ·exfalso;rcases Q with ⟨m,_⟩|⟨m,_⟩|⟨m,_⟩|⟨m,_⟩|⟨m,_⟩|⟨m,_⟩|⟨m,_⟩<;>exact no n (by decide) m
 ·exfalso;rcases ax with rfl|rfl<;>(rcases Q with ⟨m,_⟩|⟨m,_⟩|⟨m,_⟩|⟨m,_⟩|⟨m,_⟩|⟨m,_⟩|⟨m,_⟩<;>exact no n (by decide) m)
 ·exfalso;rcases Q with ⟨m,_⟩|⟨m,_⟩|⟨m,_⟩|⟨m,_⟩|⟨m,_⟩|⟨m,_⟩|⟨m,_⟩<;>(rw[m] at n;exact n rfl)
 ·-- var
  have S:Hs.ExOk fs false f d A/\f.length<=90000:=by
   rcases Q with ⟨_,D,t',v',r,K,_⟩|⟨m,_⟩|⟨m,_⟩|⟨m,_⟩|⟨m,_⟩|⟨m,_⟩|⟨m,_⟩
   ·rw[j] at r;simp at r;rw[r.2];exact⟨K,by omega⟩
   all_goals exact no n (by decide) m
  have E:=K5 fs f d a g.length t A n j;rw[E] at z ⊢
  simp only[Y5,Y9,Z5] at z;have hp:=L ⟨v1,[A],true⟩ (by simp)
  obtain⟨Z,C,rfl⟩:=hp.one'.form;have M:=J.kid (k:=A) (by rw[j];simp)
  refine(AM w cb g.length a.line p t.line (bs t.text) Z (.agg C) f.length (fun W=>KS fp fb (fs.map (·.text)) cb F w (g++(aG.begin a.line f::aF fs f d A (g.length+1)++[aG.declare f.length]).map some) (t.text::f) W) _
   (fun b W=>∃O,pH fp fb (fs.map (·.text)) cb F w O b (.cells #[Iv0 a.line,Iv0 t.line,.string (bs t.text),.iface Z (.agg C)] 210) f ((g++[some (.begin a.line f)])++(aF fs f d A (g.length+1)).map some) W)
   (fun b W=>∃O,pH fp fb (fs.map (·.text)) cb F w O b (.cells #[Iv0 a.line,Iv0 t.line,.string (bs t.text),.iface Z (.agg C)] 210) f ((g++[some (.begin a.line f)])++(aF fs f d A (g.length+1)).map some++[some (.declare f.length)]) W)
   V ab (aa (by omega)) (fun W s=>?_) (fun b W s=>?_) (fun b W s=>?_) (fun b W s=>?_) (fun b W s=>?_))
  ·refine((s.cpB _).exprk Y X ac _ A hp.one' S.1 M (by rw[B];omega)).mono ?_
   rintro e w' ⟨H,D⟩;rw[B] at D;exact⟨H,W,D⟩
  ·obtain⟨O,G,hG,q,_⟩:=s;exact NR q.1 af
  ·obtain⟨O,s⟩:=s;refine(s.emit (u:=.iface 330 (.agg #[Iv0 f.length])) (i:=some (.declare f.length)) (fun _=>rfl) (by simp;omega)).mono ?_
   rintro e w' ⟨H,D⟩;exact⟨⟨_,H⟩,O,D⟩
  ·obtain⟨O,s⟩:=s;exact⟨aA s.box rfl,aD s.box⟩
  ·obtain⟨O,G,hG,q,_⟩:=s;refine(TU t.text q.1 af).mono ?_;rintro e w' ⟨H,q1,q2⟩;refine⟨H,fun k=>G k\/k=W.heap.size,fun k r=>Y4 (hG k r),?_,q.2.trans q2⟩
   simpa using q1
 ·-- an assignment
  have S:a.text∈f/\∀k∈a.kids,Hs.ExOk fs false f d k:=by
   rcases Q with ⟨m,_⟩|⟨_,D,_,K⟩|⟨m,_⟩|⟨m,_⟩|⟨m,_⟩|⟨m,_⟩|⟨m,_⟩
   ·exact no n (by decide) m
   ·exact⟨D,K⟩
   all_goals exact no n (by decide) m
  have E:=K6 fs f d a g.length n;have ba:(l++[A]).length-1=l.length:=by simp
  rw[j,nF,AS] at E;rw[ba] at E;rw[E] at z ⊢
  simp only[Y5,Y9,Z5] at z;have hp:=L ⟨sv,l,false⟩ (by simp)
  have I:=L ⟨v1,[A],true⟩ (by simp)
  obtain⟨Z,C,rfl⟩:=I.one'.form;obtain⟨x,c,rfl⟩:=hp.many.sliceC;have aw:=J.len;rw[j,Y5] at aw;generalize aq:bS (aF fs f d) l (g.length+1)=q1 at*;generalize al:aF fs f d A (g.length+1+q1.length)=q2 at*
  refine(DS w cb g.length a.line p (bs a.text) x l.length c (eE f a.text) Z (.agg C) (fun W=>KS fp fb (fs.map (·.text)) cb F w (g++(aG.begin a.line f::(q1++q2)++[aG.assign (eE f a.text) l.length]).map some) f W) _
   (fun b W=>∃O,pH fp fb (fs.map (·.text)) cb F w O b (.cells #[Iv0 a.line,.string (bs a.text),.slice x l.length c,.iface Z (.agg C)] 213) f ((g++[some (.begin a.line f)])++q1.map some) W)
   (fun b W=>∃O,pH fp fb (fs.map (·.text)) cb F w O b (.cells #[Iv0 a.line,.string (bs a.text),.slice x l.length c,.iface Z (.agg C)] 213) f ((g++[some (.begin a.line f)])++q1.map some++q2.map some) W)
   V ab (aa (by omega)) (fun W s=>?_) (fun b W s=>?_) (fun b W s=>?_) (fun b W s=>?_) (fun b W W' s hS=>?_) (fun b W W' s hS=>?_))
  ·refine((s.cpB _).exprsk Y X ac _ l hp.many (fun k r=>S.2 k (by rw[j];simp[r])) (fun k r=>J.kid (by rw[j];simp[r])) (by omega) (by rw[B,aq];omega)).mono ?_
   rintro e w' ⟨H,D⟩;rw[B,aq] at D;exact⟨H,W,D⟩
  ·obtain⟨O,s⟩:=s;exact⟨aA s.box rfl,aD s.box⟩
  ·obtain⟨O,s⟩:=s;have ai:((g++[some (aG.begin a.line f)])++q1.map some).length=g.length+1+q1.length:=by simp;omega
   refine(s.exprk Y X ac _ A I.one' (S.2 A (by rw[j];simp)) (J.kid (by rw[j];simp)) (by rw[ai,al];omega)).mono ?_
   rintro e w' ⟨H,D⟩;rw[ai,al] at D;exact⟨H,O,D⟩
  ·obtain⟨O,s⟩:=s;exact⟨aA s.box rfl,aA s.box rfl,aD s.box⟩
  ·obtain⟨O,G,hG,q,_⟩:=s;exact LQ a.text (q.1.grow hS.below) S.1 af
  ·obtain⟨O,G,hG,q,hL⟩:=s;have ap:gI fp fb (fs.map (·.text)) cb G w ((g++[some (.begin a.line f)])++q1.map some++q2.map some) f W':=⟨q.1.grow hS.below,q.2.trans (FB.of_lt hS.below q.1.lt)⟩
   refine(emits (i:=.assign (eE f a.text) l.length) ap rfl (by simp;omega)).mono ?_
   rintro e w' ⟨H,D⟩;refine⟨H,G,hG,?_⟩;have e9:g++(aG.begin a.line f::(q1++q2)++[aG.assign (eE f a.text) l.length]).map some=(g++[some (.begin a.line f)])++q1.map some++q2.map some++[some (.assign (eE f a.text) l.length)]:=by simp
   rw[e9];exact D
 ·-- if,without else
  have S:Hs.ExOk fs false f d A/\Hs.StsOk (dS fs d) f N.kids:=by
   rcases Q with ⟨m,_⟩|⟨m,_⟩|⟨_,c',t',r,K,h4⟩|⟨m,_⟩|⟨m,_⟩|⟨m,_⟩|⟨m,_⟩
   rotate_left 2
   ·rcases r with r|⟨x,r,_⟩
    ·rw[j] at r;simp at r;rw[r.1,r.2];exact⟨K,h4⟩
    ·rw[j] at r;simp at r
   all_goals exact no n (by decide) m
  have E:=K8 fs f d a g.length A N n j;rw[E] at z ⊢
  have I:=L ⟨v1,[A],true⟩ (by simp)
  have ad:=L ⟨s1,N.kids,false⟩ (by simp)
  have M:=J.kid (k:=A) (by rw[j];simp)
  have ae:=J.kid (k:=N) (by rw[j];simp)
  obtain⟨Z,C,rfl⟩:=I.one'.form;obtain⟨x,c,rfl⟩:=ad.many.sliceC;generalize ag:aF fs f d A (g.length+1)=P at*;generalize ah:bI (bC fs d) f N.kids (g.length+1+P.length+1)=U at*;simp only[Y5,Y9,Z5] at z;refine FH w cb g.length a.line p Z (.agg C) x none N.kids.length 0 c 0 _ _ V ab (aa (by omega)) (fun W s=>?_)
  obtain⟨G,hG,q,_⟩:=s.cpB (.cells #[Iv0 a.line,.iface Z (.agg C),.slice x N.kids.length c,bV] 217);refine(xG (d:=d) IH Y X ac a.line _ _ _ A N.kids [] _ _ q.1 (I.one'.below q.2.bel) (ad.many.below q.2.bel) (Y4 ⟨rfl,rfl⟩) S.1 S.2 trivial M (fun k r=>ae.kid r) (fun k r=>by simp at r) ae.len (by simp) P U [] (by rw[B];exact ag) (by rw[B];exact ah) rfl (by rw[B];simp;omega)).mono ?_
  rintro e w' ⟨H,D⟩;refine⟨H,?_⟩;have K:=(D.then q.2).more hG
  rw[B] at K;have e9:(g++[some (aG.begin a.line f)])++(P++[aG.skip (g.length+1+P.length+1+U.length+1)]++U++[aG.jump (g.length+1+P.length+1+U.length+1+([]:List aG).length)]++[]).map some=g++(aG.begin a.line f::P++[aG.skip (g.length+1+P.length+1+U.length+1)]++U++[aG.jump (g.length+1+P.length+1+U.length+1)]).map some:=by simp
  rw[e9] at K;exact K
 ·-- if,with else
  have S:Hs.ExOk fs false f d A/\Hs.StsOk (dS fs d) f N.kids/\Hs.StsOk (dS fs d) f b2.kids:=by
   rcases Q with ⟨m,_⟩|⟨m,_⟩|⟨_,c',t',r,K,h4⟩|⟨m,_⟩|⟨m,_⟩|⟨m,_⟩|⟨m,_⟩
   rotate_left 2
   ·rcases r with r|⟨x,r,h5⟩
    ·rw[j] at r;simp at r
    ·rw[j] at r;simp at r;rw[r.1,r.2.1,r.2.2];exact⟨K,h4,h5⟩
   all_goals exact no n (by decide) m
  have E:=K7 fs f d a g.length A N b2 n j;rw[E] at z ⊢
  have I:=L ⟨v1,[A],true⟩ (by simp)
  have ad:=L ⟨s1,N.kids,false⟩ (by simp)
  have ak:=L ⟨s2,b2.kids,false⟩ (by simp)
  have M:=J.kid (k:=A) (by rw[j];simp)
  have ae:=J.kid (k:=N) (by rw[j];simp)
  have am:=J.kid (k:=b2) (by rw[j];simp)
  obtain⟨Z,C,rfl⟩:=I.one'.form;obtain⟨x,c,rfl⟩:=ad.many.sliceC;obtain⟨x2,ao,rfl⟩:=ak.many.sliceC;generalize ag:aF fs f d A (g.length+1)=P at*;generalize ah:bI (bC fs d) f N.kids (g.length+1+P.length+1)=U at*;generalize bb:bI (bC fs d) f b2.kids (g.length+1+P.length+1+U.length+1)=ce at*;simp only[Y5,Y9,Z5] at z;refine FH w cb g.length a.line p Z (.agg C) x x2 N.kids.length b2.kids.length c ao _ _ V ab (aa (by omega)) (fun W s=>?_)
  obtain⟨G,hG,q,_⟩:=s.cpB (.cells #[Iv0 a.line,.iface Z (.agg C),.slice x N.kids.length c,.slice x2 b2.kids.length ao] 217);refine(xG (d:=d) IH Y X ac a.line _ _ _ A N.kids b2.kids _ _ q.1 (I.one'.below q.2.bel) (ad.many.below q.2.bel) (ak.many.below q.2.bel) S.1 S.2.1 S.2.2 M (fun k r=>ae.kid r) (fun k r=>am.kid r) ae.len am.len P U ce (by rw[B];exact ag) (by rw[B];exact ah) (by rw[B];exact bb) (by rw[B];omega)).mono ?_
  rintro e w' ⟨H,D⟩;refine⟨H,?_⟩;have K:=(D.then q.2).more hG
  rw[B] at K;have e9:(g++[some (aG.begin a.line f)])++(P++[aG.skip (g.length+1+P.length+1+U.length+1)]++U++[aG.jump (g.length+1+P.length+1+U.length+1+ce.length)]++ce).map some=g++(aG.begin a.line f::P++[aG.skip (g.length+1+P.length+1+U.length+1)]++U++[aG.jump (g.length+1+P.length+1+U.length+1+ce.length)]++ce).map some:=by simp
  rw[e9] at K;exact K
 ·-- while
  have S:Hs.ExOk fs false f d A/\Hs.StsOk (dS fs d) f N.kids:=by
   rcases Q with ⟨m,_⟩|⟨m,_⟩|⟨m,_⟩|⟨_,c',t',r,K,h4⟩|⟨m,_⟩|⟨m,_⟩|⟨m,_⟩
   rotate_left 3
   ·rw[j] at r;simp at r;rw[r.1,r.2];exact⟨K,h4⟩
   all_goals exact no n (by decide) m
  have E:=VL fs f d a g.length A N n j;rw[E] at z ⊢
  have I:=L ⟨v1,[A],true⟩ (by simp)
  have ad:=L ⟨s1,N.kids,false⟩ (by simp)
  have M:=J.kid (k:=A) (by rw[j];simp)
  have ae:=J.kid (k:=N) (by rw[j];simp)
  obtain⟨Z,C,rfl⟩:=I.one'.form;obtain⟨x,c,rfl⟩:=ad.many.sliceC;generalize ag:aF fs f d A (g.length+1)=P at*;generalize ah:bI (bC fs d) f N.kids (g.length+1+P.length+1)=U at*;simp only[Y5,Y9,Z5] at z;refine II w cb g.length a.line p Z (.agg C) x N.kids.length c _ _ V ab (aa (by omega)) (fun W s=>?_)
  obtain⟨G,hG,q,_⟩:=s.cpB (.cells #[Iv0 a.line,.iface Z (.agg C),.slice x N.kids.length c] 219);refine(YO (d:=d) IH Y X ac a.line g.length _ _ A N.kids _ _ q.1 (I.one'.below q.2.bel) (ad.many.below q.2.bel) S.1 S.2 M (fun k r=>ae.kid r) ae.len P U (by rw[B];exact ag) (by rw[B];exact ah) (by rw[B];omega)).mono ?_
  rintro e w' ⟨H,D⟩;refine⟨H,?_⟩;have K:=(D.then q.2).more hG
  rw[B] at K;have e9:(g++[some (aG.begin a.line f)])++(P++[aG.skip (g.length+1+P.length+1+U.length+1)]++U++[aG.jump g.length]).map some=g++(aG.begin a.line f::P++[aG.skip (g.length+1+P.length+1+U.length+1)]++U++[aG.jump g.length]).map some:=by simp
  rw[e9] at K;exact K
 ·-- return,without a value
  have E:=LM fs f d a g.length n j;rw[E] at z ⊢
  simp only[Y9,Z5] at z;refine rS w cb g.length a.line p _ _ _ _ (fun W=>KS fp fb (fs.map (·.text)) cb F w ((g++[some (aG.begin a.line f)])++[some (.push (bD 0))]) f W) V ab (aa (by omega)) (fun W s=>?_) (fun W s=>?_)
  ·obtain⟨G,hG,q,_⟩:=s.cpB (.cells #[Iv0 a.line,.iface 279 (.agg #[Iv0 l,Iv0 0])] 221);obtain⟨G2,ay,ar,_⟩:=q.cpB (.cells #[Iv0 l,Iv0 0] 279);refine(rX _ cb l 0 _ (emits (i:=.push (bD 0)) ar ⟨_,rfl,PV.num _ _ _ (by omega) (by omega),by rw[kD];omega⟩ (by simp;omega))).mono ?_
   rintro e w' ⟨H,D⟩;exact⟨H,G2,fun k r=>ay k (hG k r),D⟩
  ·obtain⟨G,hG,q⟩:=s;refine(emits (i:=.give) q rfl (by simp;omega)).mono ?_
   rintro e w' ⟨H,D⟩;refine⟨H,G,hG,?_⟩;have e9:g++([aG.begin a.line f,.push (bD 0),.give]).map some=(g++[some (aG.begin a.line f)])++[some (.push (bD 0))]++[some .give]:=by simp
   rw[e9];exact D
 ·-- return
  have S:Hs.ExOk fs false f d A:=by
   rcases Q with ⟨m,_⟩|⟨m,_⟩|⟨m,_⟩|⟨m,_⟩|⟨_,r⟩|⟨m,_⟩|⟨m,_⟩
   rotate_left 4
   ·rcases r with r|⟨v',r,K⟩
    ·rw[j] at r;simp at r
    ·rw[j] at r;simp at r;rw[r];exact K
   all_goals exact no n (by decide) m
  have E:=LL fs f d a g.length A n j;rw[E] at z ⊢
  have I:=L ⟨v1,[A],true⟩ (by simp)
  have M:=J.kid (k:=A) (by rw[j];simp)
  obtain⟨Z,C,rfl⟩:=I.one'.form;simp only[Y5,Y9,Z5] at z;refine rS w cb g.length a.line p _ _ _ _ (fun W=>∃O,pH fp fb (fs.map (·.text)) cb F w O O.heap.size (.cells #[Iv0 a.line,.iface Z (.agg C)] 221) f ((g++[some (aG.begin a.line f)])++(aF fs f d A (g.length+1)).map some) W) V ab (aa (by omega)) (fun W s=>?_) (fun W s=>?_)
  ·refine((s.cpB _).exprk Y X ac _ A I.one' S M (by rw[B];omega)).mono ?_
   rintro e w' ⟨H,D⟩;rw[B] at D;exact⟨H,W,D⟩
  ·obtain⟨O,s⟩:=s;refine(s.emit (u:=.iface 258 (.agg #[])) (i:=some .give) (fun _=>rfl) (by simp;omega)).mono ?_
   rintro e w' ⟨H,D⟩;refine⟨⟨_,H⟩,?_⟩;have e9:g++(aG.begin a.line f::aF fs f d A (g.length+1)++[aG.give]).map some=(g++[some (aG.begin a.line f)])++(aF fs f d A (g.length+1)).map some++[some .give]:=by simp
   rw[e9];exact D.fin
 ·-- print
  have S:Hs.ExOk fs false f d A:=by
   rcases Q with ⟨m,_⟩|⟨m,_⟩|⟨m,_⟩|⟨m,_⟩|⟨m,_⟩|⟨_,v',r,K⟩|⟨m,_⟩
   rotate_left 5
   ·rw[j] at r;simp at r;rw[r];exact K
   all_goals exact no n (by decide) m
  have E:=VM fs f d a g.length A n j;rw[E] at z ⊢
  have I:=L ⟨v1,[A],true⟩ (by simp)
  have M:=J.kid (k:=A) (by rw[j];simp)
  obtain⟨Z,C,rfl⟩:=I.one'.form;simp only[Y5,Y9,Z5] at z;refine IJ w cb g.length a.line p _ _ _ _ (fun W=>∃O,pH fp fb (fs.map (·.text)) cb F w O O.heap.size (.cells #[Iv0 a.line,.iface Z (.agg C)] 222) f ((g++[some (aG.begin a.line f)])++(aF fs f d A (g.length+1)).map some) W) V ab (aa (by omega)) (fun W s=>?_) (fun W s=>?_)
  ·refine((s.cpB _).exprk Y X ac _ A I.one' S M (by rw[B];omega)).mono ?_
   rintro e w' ⟨H,D⟩;rw[B] at D;exact⟨H,W,D⟩
  ·obtain⟨O,s⟩:=s;refine(s.emit (u:=.iface 335 (.agg #[])) (i:=some .print) (fun _=>rfl) (by simp;omega)).mono ?_
   rintro e w' ⟨H,D⟩;refine⟨⟨_,H⟩,?_⟩;have e9:g++(aG.begin a.line f::aF fs f d A (g.length+1)++[aG.print]).map some=(g++[some (aG.begin a.line f)])++(aF fs f d A (g.length+1)).map some++[some .print]:=by simp
   rw[e9];exact D.fin
 ·-- a call alone
  have S:Hs.ExOk fs false f d c:=by
   rcases Q with ⟨m,_⟩|⟨m,_⟩|⟨m,_⟩|⟨m,_⟩|⟨m,_⟩|⟨m,_⟩|⟨_,v',r,K⟩
   rotate_left 6
   ·rw[j] at r;simp at r;rw[r];exact K
   all_goals exact no n (by decide) m
  have E:=S7 fs f d a g.length c n j;rw[E] at z ⊢
  rw[<-av];have hp:=L ⟨sv,c.kids,false⟩ (by simp)
  have M:=J.kid (k:=c) (by rw[j];simp)
  obtain⟨x,cp,rfl⟩:=hp.many.sliceC;simp only[Y5,Y9,Z5] at z;refine LJ w cb g.length a.line p _ _ _ _ _ _ (fun W=>KS fp fb (fs.map (·.text)) cb F w ((g++[some (aG.begin a.line f)])++(aF fs f d c (g.length+1)).map some) f W) V ab (aa (by omega)) (fun W s=>?_) (fun W s=>?_)
  ·cases d with
   |zero=>exact S.elim
   |succ d=>
    obtain⟨G,hG,q,_⟩:=s.cpB (.cells #[Iv0 a.line,.string (bs c.text),.slice x c.kids.length cp] 224);refine(YX (rC (by omega) Y X d) Y X c _ a.line _ _ q.1 aj (hp.many.below q.2.bel) S (M _) (by rw[B];omega)).mono ?_
    rintro e w' ⟨H,D⟩;rw[B] at D;exact⟨H,G,hG,D.then q.2⟩
  ·obtain⟨G,hG,q⟩:=s;refine(emits (i:=.drop) q rfl (by simp;omega)).mono ?_
   rintro e w' ⟨H,D⟩;refine⟨H,G,hG,?_⟩;have e9:g++(aG.begin a.line f::aF fs f d c (g.length+1)++[aG.drop]).map some=(g++[some (aG.begin a.line f)])++(aF fs f d c (g.length+1)).map some++[some .drop]:=by simp
   rw[e9];exact D
def UO(a:fs.length<=1000000)(b:∀k,k<fs.length->fp k=bO (fb k)):∀d,PH fp fb fs cb lo d
 |0=>fun _ _ _ _ _ _ _ _ h=>h.elim
 |d+1=>G4 (UO a b d) a b
end
def ZA(w:aH)(cb:Nat)(l:Int)(tx:ByteArray)(s g:Option Addr)(b H p r:Nat)(P:Value->World->Prop)(I:Nat->World->Prop)(Q R S:World->Prop)(hl:cb<w.heap.size)(T:b<=1000000)
 (c1:∃u,w.cell? (aL cb 1)=some u) (v:∃u,w.cell? (aL cb 2)=some u) (X:w.frozen? (aL cb 1)=false) (f2:w.frozen? (aL cb 2)=false)
 (K:Hid (I 0 (((w.setCell (aL cb 1) (bV)).setCell (aL cb 2) (.pointer none)).alloc (.cells #[Iv0 l,.string tx,.slice s b H,.slice g p r] 183))))
 (Z:Hid (∀j W,I j W->j<b->∃f C o,s=some (aL f 0)/\f<W.heap.size/\W.cell? (aL f (j*2))=some (Iv0 C)/\W.cell? (aL f (j*2+1))=some (.string o)/\Calls prog 147 #[bO cb,.string o] (W.alloc (.cells #[Iv0 C,.string o] 179)) fun e d=>e=bE (.tuple #[])/\I (j+1) d))
 (Y:Hid (∀W,I b W->W.cell? (aL w.heap.size 3)=some (.slice g p r)/\w.heap.size<W.heap.size/\Calls prog 148 #[bO cb,.slice g p r] W fun e d=>e=bE (.tuple #[])/\Q d))
 (HE:Hid (∀W,Q W->Calls prog 149 #[bO cb,.iface 256 (.agg #[.iface 195 (Iv0 0)])] W fun e d=>(∃k:Nat,e=bE (Iv0 k))/\R d))
 (V:Hid (∀W,R W->Calls prog 149 #[bO cb,.iface 258 (.agg #[])] W fun e d=>(∃k:Nat,e=bE (Iv0 k))/\S d))
 (HS:Hid (∀W,S W->cb<W.heap.size/\∃x n c,W.cell? (aL cb 1)=some (.slice x n c)/\P (.slice x n c) W)):
 Calls prog 109 #[bO cb,.agg #[Iv0 l,.string tx,.slice s b H,.slice g p r]] w fun e d=>∃E,e=bE E/\P E d:=by
 obtain⟨u1,c1⟩:=c1;obtain⟨u2,v⟩:=v;have O:¬cb=w.heap.size:=by omega
 have J:¬w.heap.size=cb:=by omega
 go_in
 go_wp2_with fail;go_loopg [6,16] b (fun gk _ i wr=>∃j:Nat,j+gk=b/\i=Iv0 j/\I j wr)
 case atStart=>exact⟨0,by omega,rfl,K⟩
 case round=>
  obtain⟨j,hj,rfl,h⟩:=hrel;clear c1 v X f2 K;by_cases t:j<b
  ·obtain⟨m,rfl⟩:∃m,gk=m+1:=⟨gk-1,by omega⟩
   obtain⟨f,C,o,rfl,hg,F,N,a⟩:=Z _ _ h t;have B:=aB a;have e1:(0:Int)<=(j:Int):=by omega
   have e2:(j:Int)<(b:Int):=by omega
   clear h a;go_wp2_with fail;refine B.mono ?_;rintro e M ⟨rfl,q⟩;go_wp2
   go_roundg m
   case measure=>omega
   case rel=>exact⟨j+1,by omega,by go_num,q⟩
  ·have y:j=b:=by omega
   subst y;obtain⟨F,N,a⟩:=Y _ h;have B:=aB a;clear h a;go_wp2_with fail;refine B.mono ?_;rintro e M ⟨rfl,q⟩;have A:=aB (HE _ q);clear q F;go_wp2_with fail;refine A.mono ?_;rintro e w2 ⟨⟨k,rfl⟩,D⟩;have z:=aB (V _ D);clear D;go_wp2_with fail;refine z.mono ?_;rintro e w3 ⟨⟨k2,rfl⟩,G⟩;obtain⟨g1,x,n,c,g2,L⟩:=HS _ G;have U:=aB L;clear G L;go_wp2
   go_ret;exact⟨_,rfl,U⟩
def N3:(prog.info? 124).map (fun i=>(i.zero,i.size,i.bytes))=some (some (.pointer none),1,8):=by kernel_rfl
def KD(w:aH)(p n ad:Nat)(P:Value->World->Prop)(H:Nat->World->Prop)(K:Nat->World->Prop)(hn:n<=1000000)
 (H0:Hid (H 0 (w.alloc (.cells #[bV,bV,.pointer none] 190))))
 (Y:Hid (∀j W,H j W->j<n->w.heap.size<W.heap.size/\p<W.heap.size/\∃l t z s r q y h x c M O L,W.cell? (aL p (j*4))=some (Iv0 l)/\W.cell? (aL p (j*4+1))=some (.string t)/\W.cell? (aL p (j*4+1+1))=some (.slice z s r)/\W.cell? (aL p (j*4+1+1+1))=some (.slice q y h)/\
   W.heap[w.heap.size]?=some (.cells #[.slice x j c,O,L] 190 (0,0))/\W.ownsRow (w.heap.size+1) 124 1 (.slice x j c) j M/\
   ∀W3 F d D,W3=((W.alloc (.cells #[Iv0 l,.string t,.slice z s r,.slice q y h] 183)).alloc (.cells #[.string t,bV] 136)).alloc (.cells #[bO (W.heap.size+1)] 124)->
    D.ownsRow (w.heap.size+1) 124 1 (.slice (some (aL F 0)) (j+1) d) (j+1) (M++[bO (W.heap.size+1)])->W3.grownBy D (Value.slice x j c).ownBlock->((Value.slice x j c).ownBlock=some F\/F=W.heap.size+3)->D.heap[w.heap.size]?=some (.cells #[.slice x j c,O,L] 190 (0,0))->H (j+1) (D.setCell (aL w.heap.size 0) (.slice (some (aL F 0)) (j+1) d))))
 (I:Hid (∀W,H n W->K 0 W))
 (H2:Hid (∀j W,K j W->j<n->w.heap.size<W.heap.size/\p<W.heap.size/\∃l t z s r q y h g c fb,W.cell? (aL p (j*4))=some (Iv0 l)/\W.cell? (aL p (j*4+1))=some (.string t)/\W.cell? (aL p (j*4+1+1))=some (.slice z s r)/\W.cell? (aL p (j*4+1+1+1))=some (.slice q y h)/\
   W.cell? (aL w.heap.size 0)=some (.slice (some (aL g 0)) n c)/\g<W.heap.size/\W.cell? (aL g j)=some (bO fb)/\
   ∀W',aY (W.alloc (.cells #[Iv0 l,.string t,.slice z s r,.slice q y h] 183)) W'->Calls prog 109 #[bO w.heap.size,.agg #[Iv0 l,.string t,.slice z s r,.slice q y h]] W' fun e f=>∃x n3 c3,e=bE (.slice x n3 c3)/\
    w.heap.size<f.heap.size/\(∃Q h,f.cell? (aL w.heap.size 0)=some (.slice (some (aL Q 0)) n h)/\Q<f.heap.size/\f.cell? (aL Q j)=some (bO fb))/\g<f.heap.size/\f.cell? (aL g j)=some (bO fb)/\fb<f.heap.size/\(∃u,f.cell? (aL fb 1)=some u)/\f.frozen? (aL fb 1)=false/\K (j+1) (f.setCell (aL fb 1) (.slice x n3 c3))))
 (H3:Hid (∀W,K n W->Calls prog 110 #[bO w.heap.size,.string ⟨#[109,97,105,110]⟩] W fun e f=>∃v,e=bE (.pointer v)/\P (.pointer v) f)):
 Calls prog 75 #[.slice (some (aL p 0)) n ad] w fun e f=>∃v,e=bE v/\P v f:=by
 obtain⟨i0,hi,aa,ae,ab⟩:=info_parts N3;go_in
 go_wp2_with fail;go_loopg [5,10] n (fun gk _ i wr=>∃j:Nat,j+gk=n/\i=Iv0 j/\H j wr)
 case atStart=>exact⟨0,by omega,rfl,H0⟩
 case round=>
  obtain⟨j,hj,rfl,A⟩:=hrel;clear H0;by_cases E:j<n
  ·obtain⟨m,rfl⟩:∃m,gk=m+1:=⟨gk-1,by omega⟩
   obtain⟨G,Z,l,t,z,s,r,q,y,h,x,c,M,O,L,d1,d2,d3,d4,N,V,U⟩:=Y _ _ A E;have HO:=aB V;have HB:=aB N;have HK:=aB U;have q0:wr.cell? (aL w.heap.size 0)=some (.slice x j c):=aA N rfl;have e1:(0:Int)<=(j:Int):=by omega
   have e2:(j:Int)<(n:Int):=by omega
   clear A N V U Y;have HN:Hid (∀W:aH,W.heap[wr.heap.size+1+1]?=some (.cells #[bO (wr.heap.size+1)] 124 (0,0))->∀k v,([bO (wr.heap.size+1)]:List Value)[k]?=some v->W.cell? ((⟨wr.heap.size+1+1,0,none⟩:Addr).add k)=some v):=fun W hW k v hk=>World.news_of_block hW k v (by simpa using hk)
   have HL:Hid ((((wr.alloc (.cells #[Iv0 l,.string t,.slice z s r,.slice q y h] 183)).alloc (.cells #[.string t,bV] 136)).alloc (.cells #[bO (wr.heap.size+1)] 124)).heap[wr.heap.size+1+1]?=some (.cells #[bO (wr.heap.size+1)] 124 (0,0))):=aU _ _ (by simp) _
   have B:∀v∈([bO (wr.heap.size+1)]:List Value),v.oneCell'=true:=fun v hv=>by simp at hv;rw[hv];rfl
   have HONE:=aB B;clear B;go_wp2_with (at_builtin;refine wpList_append_lies _ (by rfl) _ _ 188 (by rfl) (w.heap.size+1) 124 i0 _ 1 8 underlying188 hi aa ae ab rfl (by decide) (.slice x j c) j M (by rfl) (((HO.alloc _).alloc _).alloc _) (aL (wr.heap.size+1+1) 0) 1 1 [_] (by rfl) (by rfl) (HN _ HL) HONE (by decide) (by unfold maxLen;omega) (by omega) (by simp;omega) (wr.heap.size+3) (by simp) ?_)
   intro F d D o b C ac;have T:some w.heap.size≠(Value.slice x j c).ownBlock:=fun e=>by have:=(HO.lt _ e.symm).1;omega
   have a:D.heap[w.heap.size]?=some (.cells #[.slice x j c,O,L] 190 (0,0)):=by
    rw[b.block _ (by simp;omega) T,Z3 _ _ _ (by simp;omega),Z3 _ _ _ (by simp;omega),Z3 _ _ _ G];exact HB
   have ag:D.cell? (aL w.heap.size 0)=some (.slice x j c):=aA a rfl;have ai:=aE a (i:=0);have af:=aD a;have HFIN:=aB (HK _ F d D rfl o b C a);clear o b C a ac q0 d1 d2 d3 d4;go_wp2
   go_roundg m
   case measure=>omega
   case rel=>exact⟨j+1,by omega,by go_num,HFIN⟩
  ·have X:j=n:=by omega
   subst X;have J:=aB (I _ A);clear A I Y;go_wp2_with fail;go_loopg [6,7,27] j (fun gk _ _ i wr=>∃k:Nat,k+gk=j/\i=Iv0 k/\K k wr)
   case atStart=>exact⟨0,by omega,rfl,J⟩
   case round=>
    obtain⟨k,aj,rfl,A⟩:=hrel;clear J;by_cases E:k<j
    ·obtain⟨m,rfl⟩:∃m,gk=m+1:=⟨gk-1,by omega⟩
     obtain⟨G,Z,l,t,z,s,r,q,y,h,g,c,fb,d1,d2,d3,d4,N,V,U,d8⟩:=H2 _ _ A E;have HX:=aB (d8 _ (aY.drew _));have e1:(0:Int)<=(k:Int):=by omega
     have e2:(k:Int)<(j:Int):=by omega
     clear A d8 H2 H3;go_wp2_with fail;go_region_law (go_simp;go_at_call 109;refine HX.mono ?_;rintro e w1 ⟨x,n3,c3,rfl,a1,⟨Q,ah,b1,b2,b3⟩,a3,a4,a5,⟨u,a6⟩,a7,a8⟩;have HF:=aB a8;clear a8)
     all_goals
      go_wp2
      go_roundg m
      case measure=>omega
      case rel=>exact⟨k+1,by omega,by go_num,HF⟩
    ·have S:k=j:=by omega
     subst S;have HX:=aB (H3 _ A);clear A H2 H3;go_wp2_with fail;refine HX.mono ?_;rintro e w1 ⟨v,rfl,h1⟩;have HF:=aB h1;clear h1;go_wp2
     go_ret;exact⟨_,rfl,HF⟩
section
variable {fp:fN} {fb:Nat->Nat} {fs:List aC} {cb lo d:Nat} {F:cC}
def CQ(fp:fN)(fb:Nat->Nat)(nms:cO)(cb:Nat)(F:cC)(w:aH):Prop:=
 (∃fv cv sp,w.heap[cb]?=some (.cells #[fv,cv,sp] 190 (0,0))/\GR fp fb nms F w fv)/\∀k,F k->k<w.heap.size/\k≠cb
def GE(fs:List aC)(d:Nat){f b:aC}{ps:List aC}(a:f.kids=ps++[b]):(fR fs d f).code=bI (bC fs d) (ps.map (·.text)).reverse b.kids 0++[.push (bD 0),.give]:=by simp[fR,a]
def G9(ak:fs.length<=1000000)(ah:∀k,k<fs.length->fp k=bO (fb k)){w:aH}(h:CQ fp fb (fs.map (·.text)) cb F w)(f:aC)(v:aQ)(hv:yY (Btw lo cb) w v f)(ae:jY fs d f)(Y:∀k∈f.kids,mF k)(aa:f.kids.length<=90000):
 Calls prog 109 #[bO cb,v] w fun e r=>∃cv,e=bE cv/\∃G q,(∀k,F k->G k)/\CP fp fb (fs.map (·.text)) cb G r ((fR fs d f).code.map some) q/\r.cell? (aL cb 1)=some cv/\Below cb w r/\∀k,F k->r.heap[k]?=w.heap[k]?:=by
 obtain⟨⟨fv,ao,aw,n,X⟩,u⟩:=h;obtain⟨pv,bv,ps,b,rfl,m,V,ap,ac⟩:=hv;obtain⟨px,pc,rfl⟩:=V.slice;obtain⟨bx,bc,rfl⟩:=ac.sliceC;obtain⟨⟨g,t,O,af,_⟩,E⟩:=ae
 obtain⟨rfl,ad⟩:g=ps/\t=b:=by
  rw[m] at O;have:=p7 O rfl;simp at this;exact⟨this.1.symm,this.2.symm⟩
 subst ad;rw[GE fs d m] at E ⊢
 simp only[Y5,Y9,Z5] at E;rw[m] at aa;simp only[Y5,Y9,Z5] at aa;have Z:=aD n;obtain⟨s,z⟩:∃s,s=(w.setCell (aL cb 1) (bV)).setCell (aL cb 2) (.pointer none):=⟨_,rfl⟩;have J:Below cb w s:=by rw[z];exact((Y8 cb w).setCell dH _).setCell dH _
 have Q:s.heap.size=w.heap.size:=by rw[z];simp
 have U:∀k,k≠cb->s.heap[k]?=w.heap[k]?:=fun k m=>by rw[z,Y6 _ _ _ _ m,Y6 _ _ _ _ m]
 have P:∀k,F k->s.heap[k]?=w.heap[k]?:=fun k m=>U k (u k m).2
 have y:s.heap[cb]?=some (.cells #[fv,bV,.pointer none] 190 (0,0)):=by
  rw[z,aT (aT n)];rfl
 have H:CP fp fb (fs.map (·.text)) cb F s [] []:=by
  refine⟨⟨fv,_,_,y,⟨[],World.ownsRow_nil _ _ _ _,rfl,fun i o ho=>by simp at ho⟩,rfl,X.keep P eD (by omega)⟩,fun k m=>⟨by rw[Q];exact(u k m).1,(u k m).2,?_⟩⟩
  rw[jA y];simp[Value.ownBlock]
 obtain⟨T,ab⟩:=H.new (.cells #[Iv0 f.line,.string (bs f.text),.slice px g.length pc,.slice bx t.kids.length bc] 183);rw[Q] at T
 refine(ZA w cb f.line (bs f.text) px bx g.length pc t.kids.length bc (fun cv r=>∃G q,(∀k,F k->G k)/\CP fp fb (fs.map (·.text)) cb G r ((bI (bC fs d) (g.map fun a=>a.text).reverse t.kids 0++[aG.push (bD 0),aG.give]).map some) q/\r.cell? (aL cb 1)=some cv/\Below cb w r/\∀k,F k->r.heap[k]?=w.heap[k]?)
  (fun j W=>∃G,(∀k,F k->G k)/\CP fp fb (fs.map (·.text)) cb G W [] ((g.take j).map fun a=>a.text).reverse/\Loc cb cb s w.heap.size (.cells #[Iv0 f.line,.string (bs f.text),.slice px g.length pc,.slice bx t.kids.length bc] 183) W)
  (fun W=>∃G q,(∀k,F k->G k)/\gI fp fb (fs.map (·.text)) cb G s ((bI (bC fs d) (g.map fun a=>a.text).reverse t.kids 0).map some) q W)
  (fun W=>∃G q,(∀k,F k->G k)/\gI fp fb (fs.map (·.text)) cb G s ((bI (bC fs d) (g.map fun a=>a.text).reverse t.kids 0).map some++[some (aG.push (bD 0))]) q W)
  (fun W=>∃G q,(∀k,F k->G k)/\gI fp fb (fs.map (·.text)) cb G s ((bI (bC fs d) (g.map fun a=>a.text).reverse t.kids 0).map some++[some (aG.push (bD 0))]++[some aG.give]) q W)
  Z (by omega) ⟨_,aA n rfl⟩ ⟨_,aA n rfl⟩ (aE n) (aE n) ?_ (fun j W D hj=>?_) (fun W D=>?_) (fun W D=>?_) (fun W D=>?_) (fun W D=>?_))
 ·show ∃G,_
  rw[<-z];exact⟨F,fun _ h=>h,ab,T⟩
 ·obtain⟨G,C,B,K⟩:=D;rcases V.get with ⟨_,S⟩|⟨pg,an,am,M,au,av,I⟩
  ·rw[S] at hj;simp at hj
  cases am;obtain⟨al,aj⟩:=I j hj;have A:Below cb w W:=J.trans K.fb.bel;refine⟨pg,_,_,rfl,Y7 (Nat.lt_trans M.2 Z) A.size,(A.cell (p:=(aL pg (j*2))) M.2).trans al,(A.cell (p:=(aL pg (j*2+1))) M.2).trans aj,?_⟩;obtain⟨ai,N⟩:=B.new (.cells #[Iv0 g[j].line,.string (bs g[j].text)] 179);refine(TU g[j].text N (by simp;omega)).mono ?_
  rintro e r ⟨L,q1,q2⟩;refine⟨L,fun k=>G k\/k=(W.alloc (.cells #[Iv0 g[j].line,.string (bs g[j].text)] 179)).heap.size,fun k m=>Y4 (C k m),?_,K.step (ai.fb.trans q2)⟩
  have e9:((g.take (j+1)).map (·.text)).reverse=g[j].text::((g.take j).map (·.text)).reverse:=by
   rw[i6 hj,m6,List.reverse_append];rfl
  rw[e9];exact q1
 ·obtain⟨G,C,B,K⟩:=D;rw[j7 dH] at B;have A:Below cb w W:=J.trans K.fb.bel;refine⟨aA K.blk rfl,aD K.blk,?_⟩;refine(pE (UO ak ah d) _ t.kids [] W B (ac.below A) af (fun a ha=>(Y t (by rw[m];simp)).kid ha) (Y t (by rw[m];simp)).len (by simp;omega) (by simp;omega)).mono ?_
  rintro e r ⟨L,G2,ag,l⟩;exact⟨L,G2,_,fun k m=>ag k (C k m),by simpa using l.then K.fb⟩
 ·obtain⟨G,q,C,l⟩:=D;refine(emits (i:=.push (bD 0)) l ⟨_,rfl,PV.num _ _ _ (by omega) (by omega),by rw[kD];omega⟩ (by simp;omega)).mono ?_
  rintro e r ⟨L,h2⟩;exact⟨L,G,q,C,h2⟩
 ·obtain⟨G,q,C,l⟩:=D;refine(emits (i:=.give) l rfl (by simp;omega)).mono ?_
  rintro e r ⟨L,h2⟩;exact⟨L,G,q,C,h2⟩
 ·obtain⟨G,q,C,l⟩:=D;obtain⟨ar,aq,ax,g1,⟨xs,g2,g3⟩,g4,g5⟩:=l.1.blk;obtain⟨x,c,rfl⟩:=cY g2;refine⟨l.1.lt,x,_,c,aA g1 rfl,G,q,C,?_,aA g1 rfl,J.trans l.2.bel,fun k m=>?_⟩
  ·have:=l.1;simpa using this
  ·rw[H.fixed l.2 k m,P k m]
end
def I7(w:aH)(b:Nat):Prop:=∀c,w.heap[b]?≠some (.cells c 136 (0,0))
def fA.notFn{F:cC}{w:aH}:∀{l:cO} {v:aQ},fA F w v l->fA (fun b=>F b/\I7 w b) w v l
 |[],_,h=>h
 |_::_,_,⟨b,o,g,d,a,f⟩=>⟨b,o,g,⟨d,fun c e=>by rw[a] at e;cases e⟩,a,fA.notFn f⟩
def VR.notFn{F:cC}{w:aH}:∀{d:Nat} {v:aQ} {a:aI},VR d F w v a->VR d (fun b=>F b/\I7 w b) w v a
 |0,_,_,h=>h.elim
 |d+1,v,a,h=>by
  rcases h with h|h|h|⟨s,l,q,p,k⟩
  ·exact Y4 h
  ·exact Y3 (Y4 h)
  ·exact Y3 (Y3 (Y4 h))
  ·refine Y3 (Y3 (Y3 ⟨s,l,q,p,?_⟩));rcases k with k|⟨g,f,j,y,r,m,z,o⟩
   ·exact Y4 k
   ·refine Y3 ⟨g,f,j,y,⟨r,fun c e=>by rw[m] at e;cases e⟩,m,z,fun i t=>?_⟩
    obtain⟨u,n,x⟩:=o i t;exact⟨u,n,VR.notFn x⟩
def lC.notFn{e:fN}{F:cC}{w:aH}{v:aQ}{i:aG}(h:lC e F w v i):lC e (fun b=>F b/\I7 w b) w v i:=by
 cases i<;>first
  |exact h
  |(obtain⟨f,c,a⟩:=h;exact⟨f,c,a.notFn⟩)
  |(obtain⟨u,c,⟨d,a⟩,g⟩:=h;exact⟨u,c,⟨d,a.notFn⟩,g⟩)
def lC.setFn{d:fN}{F G:cC}{w:aH}{v u:aQ}{i:aG}{b o:Nat}{c:Array Value}(h:lC d F w v i)(f:w.heap[b]?=some (.cells c 136 (0,0)))(g:∀b,F b->G b):lC d G (w.setCell (aL b o) u) v i:=
 h.notFn.keep (fun k a=>Y6 _ _ _ _ fun e=>a.2 c (by rw[e];exact f)) fun k a=>g k a.1
section
variable {fp:fN} {fb:Nat->Nat} {nms:cO} {cb:Nat} {F:cC} {w:aH}
def KH(a:cE)(h:CQ fp fb nms cb F w)(v:a∈nms)(O:nms.length<=1000000):
 Calls prog 110 #[bO cb,.string (bs a)] w fun e B=>e=bE (fp (nms.findIdx fun x=>x==a))/\B=w:=by
 obtain⟨⟨T,L,J,p,C⟩,_⟩:=h;rcases C with ⟨rfl,_⟩|⟨g,q,rfl,H,t,I,b⟩
 ·cases v
 have N:=aD p;have M:w.cell? (aL cb 0)=some (.slice (some (aL g 0)) nms.length q):=aA p rfl;have u:=aB b;clear p b;go_in
 go_wp2_with fail;go_loopg [6,12] nms.length (fun gk _ i wr=>∃j:Nat,j+gk=nms.length/\i=Iv0 j/\j<=nms.findIdx (fun x=>x==a)/\wr=w)
 case atStart=>exact⟨0,by omega,rfl,n8 _,rfl⟩
 case round=>
  obtain⟨j,S,rfl,f,rfl⟩:=hrel;have s:nms.findIdx (fun x=>x==a)<nms.length:=List.findIdx_lt_length_of_exists ⟨a,v,by simp⟩
  have o:j<nms.length:=by omega
  obtain⟨m,rfl⟩:∃m,gk=m+1:=⟨gk-1,by omega⟩
  obtain⟨G,k,Q,x,n⟩:=u j o;rw[k] at G;have E:wr.cell? (aL (fb j) 0)=some (.string (bs nms[j])):=aA n rfl;have z:=aD n;have P:(0:Int)<=(j:Int):=by omega
  have K:(j:Int)<(nms.length:Int):=by omega
  by_cases l:nms[j]=a
  ·have r:nms.findIdx (fun x=>x==a)=j:=by
    refine Nat.le_antisymm (Nat.not_lt.1 fun c=>?_) f
    have:=List.not_of_lt_findIdx c;simp[l] at this
   have D:=aB k;rw[l] at E;clear n k u;go_wp2
   go_ret;exact⟨by rw[r,D.out];rfl,rfl⟩
  ·have A:((bs nms[j]).toList==(bs a).toList)=false:=by rw[cF,cF];simpa using l
   have d:j+1<=nms.findIdx (fun x=>x==a):=by
    rcases p9 f with e|e
    ·have:=af_ (w:=s);simp only[<-e] at this;simp at this;exact absurd this l
    ·exact e
   generalize nms[j]=y at*;clear n k;go_wp2
   go_roundg m
   case measure=>omega
   case rel=>exact⟨j+1,by omega,by go_num,d,rfl⟩
end
def nM(bl:List Nat)(k:Nat):Nat:=bl[k]?.getD 0
def BR(bl:List Nat)(k:Nat):Value:=bO (nM bl k)
def nZ{a:List Nat}{k:Nat}(h:k<a.length):nM a k=a[k]:=by simp[nM,h]
def CI1(w:aH)(fs:List aC)(j:Nat)(W:aH):Prop:=
 ∃(x:Option Addr) (c:Nat) (bl:List Nat),j<=fs.length/\W.heap[w.heap.size]?=some (.cells #[.slice x j c,bV,.pointer none] 190 (0,0))/\bl.length=j/\W.ownsRow (w.heap.size+1) 124 1 (.slice x j c) j (bl.map fun b=>bO b)/\bl.Nodup/\
  (∀i (h:i<fs.length),∀b,bl[i]?=some b->W.heap[b]?=some (.cells #[.string (bs fs[i].text),bV] 136 (0,0))/\w.heap.size<b/\b<W.heap.size/\(Value.slice x j c).ownBlock≠some b)/\Below w.heap.size w W
def CI2(w:aH)(fs:List aC)(d j:Nat)(W:aH):Prop:=
 ∃(bl:List Nat) (F:cC),bl.length=fs.length/\(bl.Nodup/\∀b∈bl,w.heap.size<b)/\j<=fs.length/\CQ (BR bl) (nM bl) (fs.map (·.text)) w.heap.size F W/\Below w.heap.size w W/\∀i (h:i<fs.length),i<j->ZG (BR bl) F W (BR bl i) (fR fs d fs[i])
def CI1.zero(w:aH)(fs:List aC):CI1 w fs 0 (w.alloc (.cells #[bV,bV,.pointer none] 190)):=
 ⟨none,0,[],n8 _,aU _ _ rfl _,rfl,World.ownsRow_nil _ _ _ _,List.nodup_nil,fun i h b a=>by simp at a,(Y8 _ _).alloc dH _⟩
def CI1.next{w W z y:aH}{fs:List aC}{j n f:Nat}{x:Option Addr}{c:Nat}{q:List Nat}{M O:Obj}(Q:j<fs.length)
 (r:q.length=j) (C:q.Nodup) (p:∀i (h:i<fs.length),∀b,q[i]?=some b->W.heap[b]?=some (.cells #[.string (bs fs[i].text),bV] 136 (0,0))/\w.heap.size<b/\b<W.heap.size/\(Value.slice x j c).ownBlock≠some b) (u:Below w.heap.size w W) (J:w.heap.size<W.heap.size)
 (o:W.ownsRow (w.heap.size+1) 124 1 (.slice x j c) j (q.map fun b=>bO b))
 (D:z=((W.alloc M).alloc (.cells #[.string (bs fs[j].text),bV] 136)).alloc O)
 (H:y.ownsRow (w.heap.size+1) 124 1 (.slice (some (aL n 0)) (j+1) f) (j+1) ((q.map fun b=>bO b)++[bO (W.heap.size+1)]))
 (d:z.grownBy y (Value.slice x j c).ownBlock) (s:(Value.slice x j c).ownBlock=some n\/n=W.heap.size+3)
 (F:y.heap[w.heap.size]?=some (.cells #[.slice x j c,bV,.pointer none] 190 (0,0))):
 CI1 w fs (j+1) (y.setCell (aL w.heap.size 0) (.slice (some (aL n 0)) (j+1) f)):=by
 have K:z.heap.size=W.heap.size+3:=by rw[D];simp
 have N:=d.size;have t:n≠w.heap.size:=by have:=(H.lt n rfl).1;omega
 have v:Below W.heap.size W z:=by rw[D];exact(((Y8 _ _).alloc dH _).alloc (by simp) _).alloc (by simp;omega) _
 refine⟨some (aL n 0),f,q++[W.heap.size+1],Q,?_,by simp[r],?_,?_,fun i E b l=>?_,?_⟩
 ·rw[aT F];rfl
 ·rw[m6];exact bA H fun k G=>Y6 _ _ _ _ (by cases G;exact t)
 ·refine m9.2 ⟨C,by simp,fun a T b l=>?_⟩
  simp at l;obtain⟨i,E,rfl⟩:=List.getElem_of_mem T;have:=(p i (by omega) _ (Z8 E)).2.2.1
  omega
 ·rcases l6 i q.length with m|m
  ·rw[l7 m] at l;obtain⟨P,L,S,I⟩:=p i E b l;refine⟨?_,L,by simp;omega,fun e=>?_⟩
   ·rw[Y6 _ _ _ _ (show b≠w.heap.size by omega),d.block b (by omega) (fun e=>I e.symm),v.block b S];exact P
   ·have B:n=b:=by simpa [Value.ownBlock] using e
    rcases s with h|h
    ·exact I (by rw[<-B];exact h)
    ·omega
  ·rw[j1 m] at l
   have A:i=j:=by
    rcases p9 m with h|h
    ·omega
    ·rw[j8 (by simp;omega)] at l;cases l
   subst A;rw[r,Nat.sub_self] at l;simp at l;subst l;have g:(Value.slice x i c).ownBlock≠some (W.heap.size+1):=fun e=>by have:=(o.lt _ e).2;omega
   refine⟨?_,by omega,by simp;omega,fun e=>?_⟩
   ·rw[Y6 _ _ _ _ (show W.heap.size+1≠w.heap.size by omega),d.block _ (by omega) (fun e=>g e.symm),D,Z3 _ _ _ (by simp)]
    exact aU _ _ (by simp) _
   ·have B:n=W.heap.size+1:=by simpa [Value.ownBlock] using e
    rcases s with h|h
    ·exact g (by rw[<-B];exact h)
    ·omega
 ·refine((u.trans (v.mono (by omega))).trans ?_).setCell dH _
  exact⟨d.os,d.tape,d.output,by omega,fun k G=>d.block k (by omega) (fun e=>by have:=(o.lt k e.symm).1;omega)⟩
def UB(fs:List aC)(k:Nat)(h:k<(fs.map (·.text)).length):(fs.map (·.text))[k]=(fs[k]'(by simpa using h)).text:=by simp
def zC(g j:Nat):(⟨g,0,none⟩:Addr).add j=⟨g,j,none⟩:=by unfold Addr.add;split<;>simp_all
def CI2.zero{w W:aH}{fs:List aC}{d:Nat}(n:fs≠[])(h:CI1 w fs fs.length W):CI2 w fs d 0 W:=by
 obtain⟨x,c,f,_,C,y,t,B,q,G⟩:=h;have s:0<fs.length:=v7.2 n;have e:=t;rcases t.2 with ⟨r,F⟩|⟨g,p,E,r,F,I,A,J⟩
 ·omega
 obtain⟨rfl,rfl⟩:x=some (aL g 0)/\c=p:=by simpa using r
 have l:=e.lt g rfl;refine⟨f,fun k=>k=g\/k∈f,y,⟨B,fun b z=>?_⟩,n8 _,⟨⟨_,_,_,C,Y3 ⟨g,c,by simp,Y4 rfl,by simp;exact A,l.2,fun k j=>?_⟩⟩,fun k j=>?_⟩,G,fun i _ m=>by omega⟩
 ·obtain⟨i,m,rfl⟩:=List.getElem_of_mem z;exact(q i (by omega) f[i] (Z8 m)).2.1
 ·have o:k<fs.length:=by simpa using j
  have a:k<f.length:=by omega
  obtain⟨u,D,v,H⟩:=q k o f[k] (Z8 a);refine⟨?_,rfl,Y3 (by rw[nZ a];exact e8 a),_,by rw[nZ a,u,UB]⟩
  have:=e.cells (g:=g) rfl k (BR f k) (by simp[BR,nZ a,a])
  rw[zC] at this;exact this
 ·rcases j with rfl|j
  ·exact⟨l.2,by omega⟩
  ·obtain⟨i,m,rfl⟩:=List.getElem_of_mem j;obtain⟨u,D,v,H⟩:=q i (by omega) f[i] (Z8 m)
   exact⟨v,by omega⟩
def CI2.next{w W w1:aH}{fs:List aC}{d j:Nat}{a:List Nat}{F G:cC}{sn:cO}{cv:aQ}(hj:j<fs.length)(Y:a.length=fs.length)(t:a.Nodup/\∀b∈a,w.heap.size<b)(A:Below w.heap.size w W)(J:∀i (h:i<fs.length),i<j->ZG (BR a) F W (BR a i) (fR fs d fs[i]))
 (s:∀k,F k->G k) (p:CP (BR a) (nM a) (fs.map (·.text)) w.heap.size G w1 ((fR fs d fs[j]).code.map some) sn) (X:w1.cell? (aL w.heap.size 1)=some cv) (ad:Below w.heap.size W w1) (T:∀k,F k->w1.heap[k]?=W.heap[k]?) (ae:0<(fR fs d fs[j]).code.length):
 CI2 w fs d (j+1) (w1.setCell (aL (nM a j) 1) cv):=by
 have r:j<a.length:=by omega
 obtain⟨fv,V,sp,h1,⟨xs,h2,h3⟩,h4,h5⟩:=p.blk
 obtain rfl:V=cv:=by
  have:=aA h1 (i:=1) rfl;rw[X] at this;exact(Option.some.inj this).symm
 have n:j<(fs.map (·.text)).length:=by simpa using hj
 rcases h5 with ⟨e,_⟩|⟨g,ac,rfl,k1,k2,k3,M⟩
 ·rw[e] at n;simp at n
 obtain⟨m1,m2,m3,x,B⟩:=M j n;have aa:=p.fix _ m3;rcases h2.2 with ⟨_,r2⟩|⟨v,c,P,rfl,r2,Z,r4,r5,r6,r7⟩
 ·rw[List.length_map] at r2;omega
 have Q:v≠nM a j:=fun e=>by rw[e,B] at Z;cases Z
 have E:∀k (h:k<(fs.map (·.text)).length),g≠nM a k:=fun k m e=>by
  obtain⟨z1,z2,z3,z,O⟩:=M k m;obtain⟨y1,_⟩:=M 0 (by omega)
  have:=aA O (i:=0) rfl;rw[<-e,y1] at this;cases this
 have f:∀k,k≠nM a j->(w1.setCell (aL (nM a j) 1) (.slice (some (aL v 0)) ((fR fs d fs[j]).code.map some).length c)).heap[k]?=w1.heap[k]?:=fun k m=>Y6 _ _ _ _ m
 have I:(w1.setCell (aL (nM a j) 1) (.slice (some (aL v 0)) ((fR fs d fs[j]).code.map some).length c)).heap[nM a j]?=some (.cells #[.string (bs (fs.map (·.text))[j]),.slice (some (aL v 0)) ((fR fs d fs[j]).code.map some).length c] 136 (0,0)):=by
  rw[aT B];rfl
 have l:∀i (L:i<a.length),i≠j->nM a i≠nM a j:=fun i L D e=>by
  rw[nZ L,nZ r] at e;exact D ((List.getElem_inj t.1).1 e)
 refine⟨a,fun k=>G k\/k=v,Y,t,hj,⟨⟨_,_,_,by rw[f _ (fun e=>aa.2.1 e.symm)];exact h1,Y3 ⟨g,ac,rfl,Y4 k1,k2,by simpa using k3,fun k m=>?_⟩⟩,fun k m=>?_⟩,?_,fun i L D=>?_⟩
 ·obtain⟨z1,z2,z3,z,O⟩:=M k m;refine⟨?_,z2,Y4 z3,?_⟩
  ·rw[World.cell?_of_block (f g (E j n))];exact z1
  ·by_cases y:k=j
   ·subst y;exact⟨_,I⟩
   ·exact⟨z,by rw[f _ (l k (by simp at m;omega) y)];exact O⟩
 ·rcases m with m|rfl
  ·have:=p.fix k m;exact⟨by simpa using this.1,this.2.1⟩
  ·have:=h2.lt k rfl;exact⟨by simpa using this.2,by omega⟩
 ·exact(A.trans ad).setCell (al_ (by show w.heap.size<nM a j;rw[nZ r];exact t.2 _ (e8 r))) _
 ·by_cases o:i=j
  ·subst o;refine⟨nM a i,v,c,P,rfl,Y4 m3,?_,Y3 rfl,by rw[f _ Q];exact Z,fun q N=>?_⟩
   ·rw[I,UB];simp only[List.length_map];rfl
   ·obtain⟨u,u1,u2⟩:=h3.2 q (some (fR fs d fs[i]).code[q]) (by simp[N])
    refine⟨u,?_,lC.setFn u2 B fun _ h=>Y4 h⟩
    rw[<-r7] at u1;have ab:q<((fR fs d fs[i]).code.map some).length*1:=by simpa using N
    rw[List.getElem?_take_of_lt ab] at u1;simpa using u1
  ·obtain⟨U,H,K,C,a1,a2,a3,a4,a5,a6⟩:=J i L (by omega)
   obtain rfl:U=nM a i:=by simpa [BR] using a1.symm
   have b3:w1.heap[nM a i]?=_:=(T _ a2).trans a3;have S:w1.heap[H]?=_:=(T _ a4).trans a5;refine⟨nM a i,H,K,C,rfl,Y4 (s _ a2),by rw[f _ (l i (by omega) o)];exact b3,Y4 (s _ a4),by rw[f _ (fun e=>by rw[e,B] at S;cases S)];exact S,fun q N=>?_⟩
   obtain⟨u,u1,u2⟩:=a6 q N;exact⟨u,u1,lC.setFn (u2.keep T s) B fun _ h=>Y4 h⟩
def OS{lo d:Nat}{fs:List aC}(v:aQ)(w:aH)(h:FSl (Btw lo w.heap.size) w v fs)(am:fs.length<=90000)(Z:∀f∈fs,jY fs d f)(ad:∀f∈fs,∀k∈f.kids,mF k)(s:∀f∈fs,f.kids.length<=90000)(hm:[109,97,105,110]∈fs.map (·.text)):
 Calls prog 75 #[v] w fun e r=>∃fp F,e=bE (fp (dD fs [109,97,105,110]))/\lA fp F r (dV fs d)/\Below w.heap.size w r/\∀k,F k->k<r.heap.size:=by
 have L:fs≠[]:=fun e=>by rw[e] at hm;simp at hm
 rcases h.cells with ⟨_,e⟩|⟨H,ae,rfl,al,z,ah,hc⟩
 ·exact absurd e L
 refine(KD w H fs.length ae (fun v r=>∃fp F,v=fp (dD fs [109,97,105,110])/\lA fp F r (dV fs d)/\Below w.heap.size w r/\∀k,F k->k<r.heap.size) (CI1 w fs) (CI2 w fs d) (by omega) (CI1.zero w fs) (fun j W E y=>?_) (fun W E=>CI2.zero L E) (fun j W E y=>?_) (fun W E=>?_)).mono ?_
 ·obtain⟨x,c,J,h0,K,V,U,D,C,I⟩:=E;obtain⟨pv,bv,ps,b,Y,e1,e2,e3,m,A,M,B⟩:=hc j y;obtain⟨px,pc,rfl⟩:=A.slice;obtain⟨bx,bc,rfl⟩:=B.sliceC;have a:∀o u,w.cell? (aL H o)=some u->W.cell? (aL H o)=some u:=fun o u hu=>by rw[I.cell (p:=(aL H o)) z];exact hu
  exact⟨aD K,Y7 z I.size,_,_,_,_,_,_,_,_,_,_,_,_,_,a _ _ Y,a _ _ e1,a _ _ e2,a _ _ e3,K,U,fun W3 g4 ai w4 a1 a2 a3 a4 a5=>CI1.next y V D C I (aD K) U a1 a2 a3 a4 a5⟩
 ·obtain⟨J,F,K,V,U,D,C,I⟩:=E;obtain⟨pv,bv,ps,b,Y,e1,e2,e3,m,A,M,B⟩:=hc j y;have ag:yY (Btw lo w.heap.size) w (.agg #[Iv0 fs[j].line,.string (bs fs[j].text),pv,bv]) fs[j]:=⟨pv,bv,ps,b,rfl,m,A,M,B⟩;obtain⟨px,pc,rfl⟩:=A.slice;obtain⟨bx,bc,rfl⟩:=B.sliceC;have a:∀o u,w.cell? (aL H o)=some u->W.cell? (aL H o)=some u:=fun o u hu=>by rw[C.cell (p:=(aL H o)) z];exact hu
  have ac:=D;obtain⟨⟨fv,cv,sp,q1,q2⟩,q3⟩:=D;have n:j<(fs.map (·.text)).length:=by simpa using y
  rcases q2 with ⟨e,_⟩|⟨g,c,rfl,k1,k2,k3,k4⟩
  ·rw[e] at n;simp at n
  obtain⟨m1,m2,m3,x,m4⟩:=k4 j n;rw[m2] at m1;have Q:(fs.map (·.text)).length=fs.length:=by simp
  refine⟨aD q1,Y7 z C.size,_,_,_,_,_,_,_,_,g,c,nM J j,a _ _ Y,a _ _ e1,a _ _ e2,a _ _ e3,by rw[<-Q];exact aA q1 rfl,k3,m1,fun W' hS=>?_⟩
  have l:Below W.heap.size W W':=((Y8 _ _).alloc dH _).trans (hS.below.mono (by simp))
  have P:CQ (BR J) (nM J) (fs.map (·.text)) w.heap.size F W':=by
   obtain⟨⟨fv,cv,sp,z1,z2⟩,z3⟩:=ac;exact⟨⟨fv,cv,sp,by rw[l.block _ (aD z1)];exact z1,z2.keep (fun k q=>l.block k (z3 k q).1) eD l.size⟩,fun k q=>⟨Y7 (z3 k q).1 l.size,(z3 k q).2⟩⟩
  have aj:=aD q1;refine(G9 (lo:=lo) (d:=d) (by omega) (fun k _=>rfl) P fs[j] _ (ag.keep (fun k q=>(C.trans (l.mono (by omega))).block k q.2) eD) (Z _ (e8 y)) (ad _ (e8 y)) (s _ (e8 y))).mono ?_
  rintro e r ⟨ab,X,G,sn,af,t,O,T,hF⟩;have N:0<(fR fs d fs[j]).code.length:=by rw[GE fs d m];simp
  have ak:=t;obtain⟨an,aa,ao,y1,⟨xs,y2,y3⟩,y4,y5⟩:=t.blk
  obtain rfl:aa=ab:=by
   have:=aA y1 (i:=1) rfl;rw[O] at this;exact(Option.some.inj this).symm
  obtain⟨x',c',rfl⟩:=cY y2;have S:∀k,F k->r.heap[k]?=W.heap[k]?:=fun k q=>by rw[hF k q,l.block k (q3 k q).1]
  rcases y5 with ⟨e,_⟩|⟨g2,c2,rfl,l1,l2,l3,l4⟩
  ·rw[e] at n;simp at n
  obtain⟨n1,n2,n3,x2,n4⟩:=l4 j n;rw[n2] at n1;refine⟨x',_,c',X,t.lt,⟨g2,c2,by rw[<-Q];exact aA y1 rfl,l3,n1⟩,Y7 k3 (Z4 l.size T.size),?_,aD n4,⟨_,aA n4 rfl⟩,aE n4,?_⟩
  ·rw[World.cell?_of_block (S g k1)];exact m1
  ·exact CI2.next y K V C I af t O ((l.mono (by omega)).trans T) S N
 ·obtain⟨J,F,K,V,U,D,C,I⟩:=E;refine(KH [109,97,105,110] D hm (by simpa using (by omega:fs.length<=1000000))).mono ?_
  rintro e r ⟨X,rfl⟩;rw[BS] at X;refine⟨_,X,BR J,F,rfl,fun k f hf=>?_,C,fun k q=>(D.2 k q).1⟩
  have s:k<fs.length:=by
   rcases l6 k fs.length with h|h
   ·exact h
   ·rw[j8 (by simpa [dV] using h)] at hf;cases hf
  have:f=fR fs d fs[k]:=by simpa [dV,s] using hf.symm
  rw[this];exact I k s s
 ·rintro e r ⟨v,rfl,fp,F,rfl,h⟩;exact⟨fp,F,rfl,h⟩
def QG(w:aH)(D:Option Addr)(N Z:Nat)(Y:Option Addr)(X c1:Nat)(P:Value->World->Prop)(A:Value->World->Prop)(T:Value->Nat->Value->World->Prop)(B:Nat->World->Prop)
 (HC:Hid (Calls prog 75 #[.slice D N Z] (w.alloc (.cells #[Iv0 0,bV,bV,bV,Iv0 0] 60)) fun e g=>∃p,e=bE (.pointer p)/\A (.pointer p) g))
 (HT:Hid (∀p W,A (.pointer p) W->Calls prog 76 #[.slice Y X c1] (W.alloc (.cells #[.pointer p,Iv0 0,Iv0 0,.pointer none,bV,bV] 131)) fun e g=>∃x n c,e=bE (.slice x n c)/\T (.pointer p) W.heap.size (.slice x n c) g))
 (HG:Hid (∀p u x n c W,T (.pointer p) u (.slice x n c) W->Calls prog 77 #[bO W.heap.size] (W.alloc (.cells #[Iv0 0,.slice (some (aL u 0)) 1 1,.slice x n c,bV,Iv0 0] 60)) fun e g=>e=bE (.tuple #[])/\B W.heap.size g))
 (HB:Hid (∀b W,B b W->∃(q:Nat) (f t o:aQ) (m:Nat),W.heap[b]?=some (.cells #[Iv0 q,f,t,o,Iv0 m] 60 (0,0))/\(∃x l c,f=.slice x l c)/\(∃x l c,t=.slice x l c)/\(∃x l c,o=.slice x l c)/\W.heap[w.heap.size]?=some (.cells #[Iv0 0,bV,bV,bV,Iv0 0] 60 (0,0))/\b≠w.heap.size/\
   ∀r,Kept [w.heap.size] W r->r.heap.size=W.heap.size->P (.agg #[Iv0 q,f,t,o,Iv0 m]) r)):
 Calls prog 44 #[.slice D N Z,.slice Y X c1] w fun e g=>∃F,e=bE F/\P F g:=by
 go_in
 go_wp2_with fail;refine HC.mono ?_;rintro e w1 ⟨p,rfl,M⟩;have k:=aB (HT _ _ M);generalize ab:w1.heap.size=u at k;clear M;go_wp2_with fail;refine k.mono ?_;rintro e w2 ⟨x,n,c,rfl,G⟩;have j:=aB (HG _ _ _ _ _ _ G);generalize hb:w2.heap.size=b at j;clear G;go_wp2_with fail;refine j.mono ?_;rintro e d ⟨rfl,K⟩;obtain⟨q,f,t,o,m,h,⟨L,H,Q,rfl⟩,⟨I,U,J,rfl⟩,⟨S,E,V,rfl⟩,a,q3,O⟩:=HB _ _ K;have HQ:=aB O;have aa:d.cell? (aL b 0)=some (Iv0 q):=aA h rfl;have am:d.cell? (aL b 1)=some (.slice L H Q):=aA h rfl;have ah:d.cell? (aL b 2)=some (.slice I U J):=aA h rfl;have al:d.cell? (aL b 3)=some (.slice S E V):=aA h rfl;have af:d.cell? (aL b 4)=some (Iv0 m):=aA h rfl;have s:d.cell? (aL w.heap.size 0)=some (Iv0 0):=aA a rfl;have z:d.cell? (aL w.heap.size 1)=some (bV):=aA a rfl;have v:d.cell? (aL w.heap.size 2)=some (bV):=aA a rfl;have C:d.cell? (aL w.heap.size 3)=some (bV):=aA a rfl;have y:d.cell? (aL w.heap.size 4)=some (Iv0 0):=aA a rfl;have ae:=aE (i:=0) a;have ak:=aE (i:=1) a;have ai:=aE (i:=2) a;have ac:=aE (i:=3) a;have ag:=aE (i:=4) a;have aj:=aD h;have ad:=aD a;clear K O h a;go_wp2_with fail;refine⟨rfl,.agg #[Iv0 q,.slice L H Q,.slice I U J,.slice S E V,Iv0 m],?_,_,rfl,HQ _ ?_ (by simp)⟩
 ·simp[results,results44,go_sem,s,z,v,C,y]
 ·exact(((((Kept.refl _ _).setCell _ _ (by simp)).setCell _ _ (by simp)).setCell _ _ (by simp)).setCell _ _ (by simp)).setCell _ _ (by simp)
def UQ(w:aH)(v:aQ)(l:List Int):Prop:=
 (l=[]/\v=bV)\/∃g o c,v=.slice (some (aL g o)) l.length c/\g<w.heap.size/\∀i (h:i<l.length),w.cell? (aL g (o+i))=some (Iv0 l[i])/\ -9223372036854775808<=l[i]/\l[i]<=9223372036854775807
def DD(w:aH)(v:aQ)(l:List Int)(h:UQ w v l)(E:l.length<=17592186044416):∃x n c,v=.slice x n c/\Calls prog 76 #[.slice x n c] w fun e d=>∃x n c,e=bE (.slice x n c)/\Below w.heap.size w d/\qQ (fun k=>w.heap.size<=k/\k<d.heap.size) d (.slice x n c) l:=by
 rcases h with ⟨rfl,rfl⟩|⟨g,o,c,rfl,H,y⟩
 ·refine⟨none,0,0,rfl,(EQ w).mono ?_⟩;rintro e d ⟨rfl,rfl⟩;exact⟨_,_,_,rfl,Y8 _ _,Y4 ⟨rfl,none,0,rfl⟩⟩
 ·refine⟨_,_,_,rfl,(ER g o l.length c (l.map fun n=>Value.int .i64 n) w (by simp) E (fun j u f=>?_) (fun u F=>?_)).mono ?_⟩
  ·rw[aa_] at f;cases b:l[j]? with
   |none=>rw[b] at f;cases f
   |some n=>
    rw[b] at f;obtain⟨r,rfl⟩:=j4.1 b;rw[(y j r).1];exact f
  ·obtain⟨n,_,rfl⟩:=ac_.1 F;rfl
  ·rintro e d ⟨G,rfl,a,B⟩;obtain⟨x,s,rfl⟩:=cY a;refine⟨x,_,s,rfl,B,?_⟩;rcases a.2 with ⟨p,m⟩|⟨t,q,D,p,m,A,C⟩
   ·exact Y4 ⟨s6.1 m,x,s,by rw[m]⟩
   ·refine Y3 ⟨t,0,q,p,C.1,⟨m,aD A⟩,fun i z=>⟨?_,(y i z).2⟩⟩
    have:=a.cells (g:=t) (by rw[p];rfl) i (Iv0 l[i]) (by simp[z])
    rw[zC] at this;simpa using this
def ZG.ptr{b:fN}{F:cC}{w:aH}{v:aQ}{f:eV}(h:ZG b F w v f):∃p,v=.pointer p:=by
 obtain⟨c,_,_,_,a,_⟩:=h;exact⟨_,a⟩
def Kept.below{own:List Nat}{w w':aH}{n:Nat}(h:Kept own w w')(d:n<=w.heap.size)(b:∀k∈own,n<=k):Below n w w':=
 ⟨h.os,h.tape,h.output,h.size,fun k c=>h.block k (by omega) fun a=>by have:=b k a;omega⟩
def R7(w:aH)(b:Nat):Prop:=∃c t,w.heap[b]?=some (.cells c t (0,0))/\(t=139\/t=142\/t=136\/t=238)
section
variable {fp:fN} {F:cC} {w:aH}
def fA.ty:∀{l:cO} {v:aQ},fA F w v l->fA (fun b=>F b/\R7 w b) w v l
 |[],_,h=>h
 |_::_,_,⟨b,o,e,c,a,d⟩=>⟨b,o,e,⟨c,_,_,a,Y4 rfl⟩,a,fA.ty d⟩
def VR.ty:∀{d:Nat} {v:aQ} {a:aI},VR d F w v a->VR d (fun b=>F b/\R7 w b) w v a
 |0,_,_,h=>h.elim
 |d+1,v,a,h=>by
  rcases h with h|h|h|⟨q,l,o,n,f⟩
  ·exact Y4 h
  ·exact Y3 (Y4 h)
  ·exact Y3 (Y3 (Y4 h))
  ·refine Y3 (Y3 (Y3 ⟨q,l,o,n,?_⟩));rcases f with f|⟨g,c,e,t,p,j,x,m⟩
   ·exact Y4 f
   ·refine Y3 ⟨g,c,e,t,⟨p,_,_,j,Y3 (Y4 rfl)⟩,j,x,fun i r=>?_⟩
    obtain⟨u,k,s⟩:=m i r;exact⟨u,k,VR.ty s⟩
def lC.ty{v:aQ}{i:aG}(h:lC fp F w v i):lC fp (fun b=>F b/\R7 w b) w v i:=by
 cases i<;>first
  |exact h
  |(obtain⟨e,c,a⟩:=h;exact⟨e,c,a.ty⟩)
  |(obtain⟨u,c,⟨d,a⟩,f⟩:=h;exact⟨u,c,⟨d,a.ty⟩,f⟩)
def lA.ty{a:List eV}(h:lA fp F w a):lA fp (fun b=>F b/\R7 w b) w a:=fun k f l=>by
 obtain⟨n,m,c,d,q,r,e,j,g,p⟩:=h k f l;refine⟨n,m,c,d,q,⟨r,_,_,e,Y3 (Y3 (Y4 rfl))⟩,e,⟨j,_,_,g,Y3 (Y3 (Y3 rfl))⟩,g,fun i o=>?_⟩
 obtain⟨u,u1,u2⟩:=p i o;exact⟨u,u1,u2.ty⟩
end
def New(w:aH)(b:Nat):Prop:=w.heap.size<b\/(b<w.heap.size/\R7 w b)
def New.ne{w:aH}{b:Nat}(h:New w b):b≠w.heap.size:=by
 rcases h with h|h<;>omega
def Nw(w:aH)(b:Nat):Prop:=w.heap.size<=b\/R7 w b
def Nw.of{w W:aH}{b:Nat}(e:Below w.heap.size w W)(h:Nw W b):Nw w b:=by
 rcases l6 b w.heap.size with a|a
 ·rcases h with h|⟨c,t,d,f⟩
  ·have:=e.size;omega
  ·rw[e.block _ a] at d;exact Y3 ⟨c,t,d,f⟩
 ·exact Y4 a
def New.nw{w:aH}{b:Nat}(h:New w b):Nw w b:=by
 rcases h with h|h
 ·exact Y4 (by omega)
 ·exact Y3 h.2
def RM{lo d k:Nat}{fs:List aC}{j:List Int}{r:cT × Nat}(v tv:aQ)(w:aH)(h:FSl (Btw lo w.heap.size) w v fs)(bd:fs.length<=90000)(Y:∀f∈fs,jY fs d f)(bf:∀f∈fs,∀k∈f.kids,mF k)(bg:∀f∈fs,f.kids.length<=90000)(hm:fW fs (dD fs [109,97,105,110])=some 0)
 (ht:UQ w tv j) (bh:j.length<=17592186044416) (hp:lB w) (hU:jO (dV fs d)) (q:dY (dV fs d) k (gV fs d j)=some r) (hr:r.2<=1000):
 Calls prog 44 #[v,tv] w fun e I=>∃v',e=bE v'/\Below w.heap.size w I/\∃fp G,(∀b,G b->b<I.heap.size/\New w b)/\lA fp G I (dV fs d)/\nO fp G I v' ⟨0,r.1,bU 0 r.2⟩:=by
 have V:dD fs [109,97,105,110]<fs.length:=by
  unfold fW at hm;rcases l6 (dD fs [109,97,105,110]) fs.length with h|h
  ·exact h
  ·rw[j8 h] at hm;cases hm
 have al:[109,97,105,110]∈fs.map (·.text):=by
  have:=af_ (p:=fun f:aC=>f.text==[109,97,105,110]) (xs:=fs) (w:=V)
  exact ac_.2 ⟨_,e8 V,eq_of_beq this⟩
 obtain⟨x0,c0,rfl⟩:∃x c,v=.slice x fs.length c:=by
  rcases h with ⟨rfl,rfl⟩|⟨g,ad,bm,us,rfl,_⟩
  ·exact⟨none,0,rfl⟩
  ·exact⟨_,_,rfl⟩
 obtain⟨x1,n1,c1,rfl⟩:∃x n c,tv=.slice x n c:=by
  rcases ht with ⟨_,rfl⟩|⟨g,o,c,rfl,_⟩
  ·exact⟨_,_,_,rfl⟩
  ·exact⟨_,_,_,rfl⟩
 generalize ac:(dV fs d)[dD fs [109,97,105,110]]?.getD ⟨[],[]⟩=f0
 have M:(dV fs d)[dD fs [109,97,105,110]]?=some f0:=by
  rw[Z8 (by simpa [dV] using V)] at ac ⊢
  simpa using ac
 have ar:gV fs d j=⟨[⟨f0,0,0,[],[],[]⟩],j,[]⟩:=by rw[<-ac];rfl
 have ak:=sY Y hm j
 have ax:fZ (gV fs d j):=by
  rw[ar];intro f hf;simp at hf;subst hf;exact⟨hU _ (p8 M),fun v hv=>by simp at hv,fun v hv=>by simp at hv⟩
 rw[ar] at ak ax q;obtain⟨s,P⟩:∃s,s=w.alloc (.cells #[Iv0 0,bV,bV,bV,Iv0 0] 60):=⟨_,rfl⟩;have N:Below w.heap.size w s:=by rw[P];exact(Y8 _ _).alloc dH _
 have bn:s.heap.size=w.heap.size+1:=by rw[P];simp
 have af:s.heap[w.heap.size]?=some (.cells #[Iv0 0,bV,bV,bV,Iv0 0] 60 (0,0)):=by rw[P];exact aU _ _ rfl _
 have ay:FSl (Btw lo s.heap.size) s (.slice x0 fs.length c0) fs:=h.grow (fun b z=>N.block b z.2) fun b z=>⟨z.1,by have:=z.2;omega⟩
 refine(QG w x0 fs.length c0 x1 n1 c1 (fun v' I=>Below w.heap.size w I/\∃fp G,(∀b,G b->b<I.heap.size/\New w b)/\lA fp G I (dV fs d)/\nO fp G I v' ⟨0,r.1,bU 0 r.2⟩)
  (fun p W=>∃fp F,p=fp (dD fs [109,97,105,110])/\lA fp F W (dV fs d)/\Below s.heap.size s W/\∀k,F k->k<W.heap.size)
  (fun p A Q W=>∃fp F,p=fp (dD fs [109,97,105,110])/\lA fp F W (dV fs d)/\Below s.heap.size s W/\(∀k,F k->k<W.heap.size/\k≠A)/\s.heap.size<=A/\A<W.heap.size/\W.heap[A]?=some (.cells #[p,Iv0 0,Iv0 0,.pointer none,bV,bV] 131 (0,0))/\qQ F W Q j/\∀k,F k->New w k)
  (fun b W=>∃fp F A ad Q y E,Below s.heap.size s W/\s.heap.size<=b/\cW false fp F s.heap.size W b A ad (Iv0 ((0:Nat):Int)) Q y (Iv0 (bU 0 r.2)) E r.1/\lA fp F W (dV fs d)/\(∀k∈aP false b A y E,s.heap.size<=k)/\∀k,F k->New w k)
  ?_ (fun p W hq=>?_) (fun p A x n c W hq=>?_) (fun b W hq=>?_))
 ·show Calls _ _ _ _ _
  rw[<-P];refine(OS (lo:=lo) (d:=d) _ s ay bd Y bf bg al).mono ?_;rintro e I ⟨fp,F,he,hT,z,O⟩;obtain⟨p,au⟩:=(hT _ _ M).ptr;exact⟨p,by rw[he,au],fp,F,au.symm,hT,z,O⟩
 ·obtain⟨fp,F,ab,hT,z,O⟩:=hq;have be:=hT.ty
  have hN:∀k,R7 W k->New w k:=fun k ⟨c,t,u,h2⟩=>by
   rcases Nat.lt_trichotomy k w.heap.size with h|rfl|h
   ·rw[z.block _ (by omega),N.block _ h] at u;exact Y3 ⟨h,c,t,u,h2⟩
   ·rw[z.block _ (by omega),af] at u
    simp only[Option.some.injEq,Obj.cells.injEq] at u;rw[<-u.2.1] at h2;exact absurd h2 (by decide)
   ·exact Y4 h
  generalize H:W.alloc (.cells #[.pointer p,Iv0 0,Iv0 0,.pointer none,bV,bV] 131)=B;have D:Below W.heap.size W B:=by rw[<-H];exact(Y8 _ _).alloc dH _
  have az:B.heap.size=W.heap.size+1:=by rw[<-H];simp
  have ae:B.heap[W.heap.size]?=some (.cells #[.pointer p,Iv0 0,Iv0 0,.pointer none,bV,bV] 131 (0,0)):=by rw[<-H];exact aU _ _ rfl _
  have ai:Below w.heap.size w B:=N.trans ((z.mono (by omega)).trans (D.mono (by have:=z.size;omega)))
  have bi:UQ B (.slice x1 n1 c1) j:=by
   rcases ht with ht|⟨g,o,c,e,hg,hc⟩
   ·exact Y4 ht
   ·exact Y3 ⟨g,o,c,e,Y7 hg ai.size,fun i hi=>⟨(ai.cell (p:=(aL g (o+i))) hg).trans (hc i hi).1,(hc i hi).2⟩⟩
  obtain⟨x,n,c,e,bl⟩:=DD B _ j bi bh;rw[e];refine bl.mono ?_;rintro e I ⟨x',n',c',he,S,X⟩;have ao:Below W.heap.size W I:=D.trans (S.mono (by omega))
  refine⟨x',n',c',he,fp,fun k=>(F k/\R7 W k)\/(B.heap.size<=k/\k<I.heap.size),ab,be.keep (fun k q=>ao.block k (O k q.1)) fun _ h=>Y4 h,z.trans (ao.mono z.size),fun k q=>?_,z.size,by have:=S.size;omega,by rw[S.block _ (by omega)];exact ae,X.keep (fun _ _=>rfl) fun _ h=>Y3 h,fun k q=>by
   rcases q with u|u
   ·exact hN k u.2
   ·have:=z.size;exact Y4 (by omega)⟩
  have:=S.size;rcases q with u|u
  ·have:=O k u.1;omega
  ·omega
 ·obtain⟨fp,F,ab,hT,z,O,bc,bk,bb,X,bj⟩:=hq;generalize H:W.alloc (.cells #[Iv0 0,.slice (some (aL A 0)) 1 1,.slice x n c,bV,Iv0 0] 60)=B;have D:Below W.heap.size W B:=by rw[<-H];exact(Y8 _ _).alloc dH _
  have az:B.heap.size=W.heap.size+1:=by rw[<-H];simp
  have ae:B.heap[W.heap.size]?=some (.cells #[Iv0 0,.slice (some (aL A 0)) 1 1,.slice x n c,bV,Iv0 0] 60 (0,0)):=by rw[<-H];exact aU _ _ rfl _
  have aa:lA fp F B (dV fs d):=hT.keep (fun k q=>D.block k (O k q).1) eD
  have C:aP false W.heap.size A (bV) [⟨.pointer p,Iv0 0,Iv0 0,.pointer none,bV,bV⟩]=[W.heap.size,A]:=rfl;have T:kZ F s.heap.size B (bV) []:=⟨⟨[],World.ownsRow_nil _ _ _ _,gF.nil _ _⟩,fun a ha=>by simp at ha⟩
  have ap:cW false fp F s.heap.size B W.heap.size A 1 (Iv0 ((0:Nat):Int)) (.slice x n c) (bV) (Iv0 0) [⟨.pointer p,Iv0 0,Iv0 0,.pointer none,bV,bV⟩] ⟨[⟨f0,0,0,[],[],[]⟩],j,[]⟩:=by
   refine⟨ae,⟨rfl,Y3 ⟨A,1,_,rfl,bc,by rw[D.block _ bk];exact bb,dH,by unfold maxLen;omega,rfl,rfl⟩⟩,⟨⟨?_,rfl,rfl,rfl,T,T⟩,trivial⟩,X.keep (fun k q=>D.block k (O k q).1) eD,World.ownsRow_nil _ _ _ _,?_,?_,fun k q=>?_⟩
   ·show ZG fp F B (.pointer p) f0
    rw[ab];exact aa _ _ M
   ·rw[C];simp;omega
   ·rw[C];simp;omega
   ·rw[C];have:=O k q;simp;omega
  have m:Below s.heap.size s B:=z.trans (D.mono z.size);have an:Below w.heap.size w B:=N.trans (m.mono (by omega))
  refine(NK (lI Y) hU ap aa (yX.of hp an fun k q=>?_) m.size ak ax (by simp) (by simp;omega) q (by omega) hr).mono ?_
  ·rw[C] at q;have:=z.size;simp at q;omega
  rintro e I ⟨he,Z,G,aw,aj,av,K,U,d1,d2,d3⟩;rw[C] at d3 Z
  have aq:∀x∈aP false W.heap.size aw K U,s.heap.size<=x:=fun x hx=>by
   have:=z.size;rcases d3 x hx with u|u
   ·simp at u;omega
   ·omega
  have ba:∀k∈[W.heap.size,A],s.heap.size<=k:=fun k q=>by have:=z.size;simp at q;omega
  refine⟨he,fp,G,aw,aj,av,K,U,m.trans (Z.below m.size ba),z.size,d2,?_,aq,fun k q=>?_⟩
  ·refine aa.keep (fun k q=>Z.block k (Y7 (O k q).1 D.size) fun hm=>?_) d1.sub
   have:=O k q;simp at hm;omega
  ·rcases d1.new k q with u|u
   ·exact bj k u
   ·have:=m.size;exact Y4 (by omega)
 ·obtain⟨fp,F,A,ad,Q,y,E,g1,g2,g5,gT,g6,g7⟩:=hq;have am:=g5.blk;refine⟨_,_,_,_,_,am,⟨_,_,_,rfl⟩,?_,sX g5.out,by rw[g1.block _ (by omega)];exact af,by omega,fun B L ah=>?_⟩
  ·rcases g5.tape with ⟨_,x,c,e⟩|⟨g,o,c,e,_⟩<;>exact⟨_,_,_,e⟩
  ·have m:Below w.heap.size w W:=N.trans (g1.mono (by omega))
   have hS:=g5.kept (G:=fun k=>F k\/(k∈aP false b A y E/\k≠b)) (fun _ h=>Y4 h) (fun k l hn=>Y3 ⟨l,hn⟩)
   have J:∀k,(F k\/(k∈aP false b A y E/\k≠b))->New w k/\k<W.heap.size:=fun k l=>by
    rcases l with u|⟨u,_⟩
    ·exact⟨g7 k u,(g5.apart k u).1⟩
    ·have:=g6 k u;exact⟨Y4 (by omega),g5.lt k u⟩
   have ag:∀k,(F k\/(k∈aP false b A y E/\k≠b))->B.heap[k]?=W.heap[k]?:=fun k l=>L.block k (J k l).2 (by simpa using (J k l).1.ne)
   refine⟨⟨L.os.trans m.os,L.tape.trans m.tape,L.output.trans m.output,by rw[ah];exact m.size,fun k l=>?_⟩,fp,fun k=>F k\/(k∈aP false b A y E/\k≠b),fun k l=>⟨by rw[ah];exact(J k l).2,(J k l).1⟩,gT.keep (fun k l=>ag k (Y4 l)) fun _ h=>Y4 h,hS.keep ag eD⟩
   rw[L.block k (Y7 l m.size) (by simp;omega),m.block k l]
end Go.Proofs.YtddnpoiiimjpcaaGreatDoor
