/- Contracts of the program: the compiler's blocks: the walks. -/
import Derived.Test.YtmjbnmpamlainaaGreatDoorP16
import Derived.Test.YtmjbnmpamlainaaGreatDoorP17
set_option linter.defProp false
set_option maxRecDepth 100000
set_option maxHeartbeats 4000000
namespace Go.Proofs.YtmjbnmpamlainaaGreatDoor
open Hs
open _root_.Go.Proofs.Tryz
open Go.RowKit
def BG(w:aG)(cb g n f:Nat)(C:Nat->World->Prop)(y:n<=1000000)(l:C 0 w)
 (q:Hid (∀j W,C j W->j<n->g<W.heap.size/\∃t z,W.cell? (aH g j)=some (.iface t z)/\Calls prog 158 #[bH cb,.iface t z] W fun e d=>e=aZ (.tuple #[])/\C (j+1) d)):
 Calls prog 116 #[bH cb,.slice (some (aH g 0)) n f] w fun e d=>e=aZ (.tuple #[])/\C n d:=by
 have o:=aB l;clear l;go_in
 go_wp2_with fail;go_loopg [5,8] n (fun gk _ i wr=>∃j:Nat,j+gk=n/\i=Iv0 j/\C j wr)
 case atStart=>exact⟨0,by omega,rfl,o⟩
 case round=>
  obtain⟨j,B,rfl,b⟩:=hrel;by_cases c:j<n
  ·obtain⟨m,rfl⟩:∃m,gk=m+1:=⟨gk-1,by omega⟩
   obtain⟨u,t,z,x,a⟩:=q _ _ b c;have r:=aB a;have A:(0:Int)<=(j:Int):=by omega
   have v:(j:Int)<(n:Int):=by omega
   clear b a;go_wp2_with fail;refine r.mono ?_;rintro e s ⟨rfl,p⟩;go_wp2
   go_roundg m
   case measure=>omega
   case rel=>exact⟨j+1,by omega,by go_num,p⟩
  ·have h:j=n:=by omega
   subst h;have k:=aB b;clear b;go_wp2
   go_end0;exact⟨rfl,k⟩
def DP(w:aG)(cb:Nat):Calls prog 116 #[bH cb,bF] w fun e a=>e=aZ (.tuple #[])/\a=w:=by
 go_in
 go_wp2_with fail;go_loopg [5,8] 0 (fun _ _ i wr=>i=Iv0 0/\wr=w)
 case atStart=>exact⟨rfl,rfl⟩
 case round=>
  obtain⟨rfl,rfl⟩:=hrel;go_wp2
  go_end0;exact⟨rfl,rfl⟩
def YF(w:aG)(cb:Nat)(p x:Option Addr)(n c:Nat)(P Q:World->Prop)(l:w.cell? (aH cb 2)=some (.pointer p))
 (h:Hid (Calls prog 116 #[bH cb,.slice x n c] w fun e a=>e=aZ (.tuple #[])/\Q a))
 (f:Hid (∀W,Q W->(∃u,W.cell? (aH cb 2)=some u)/\W.frozen? (aH cb 2)=false/\cb<W.heap.size/\P (W.setCell (aH cb 2) (.pointer p)))):
 Calls prog 198 #[bH cb,.slice x n c] w fun e a=>e=aZ (.tuple #[])/\P a:=by
 go_in
 go_wp2_with fail;refine h.mono ?_;rintro e i ⟨rfl,d⟩;obtain⟨⟨u,j⟩,m,k,b⟩:=f _ d;have g:=aB b;clear d b;go_wp2
 go_end0;exact⟨rfl,g⟩
def TI(w:aG)(cb d f:Nat)(l:Int)(A:TypeId)(z:aQ)(p k:Option Addr)(m o c1 j:Nat)(P M E F G r L:World->Prop)
 (HX:Hid (Calls prog 96 #[bH cb,.iface A z] (w.alloc (.cells #[Iv0 l,.iface A z,.slice p m c1,.slice k o j] 185)) fun e a=>e=aZ (.tuple #[])/\M a))
 (v:Hid (∀W,M W->Calls prog 117 #[bH cb,.nilIface] W fun e a=>e=aZ (Iv0 d)/\E a))
 (x:Hid (∀W,E W->W.cell? (aH w.heap.size 2)=some (.slice p m c1)/\w.heap.size<W.heap.size))
 (HT:Hid (∀W,E W->Calls prog 198 #[bH cb,.slice p m c1] W fun e a=>e=aZ (.tuple #[])/\F a))
 (s:Hid (∀W,F W->Calls prog 117 #[bH cb,.nilIface] W fun e a=>e=aZ (Iv0 f)/\G a))
 (D:Hid (∀W,G W->cb<W.heap.size/\∃g n c,W.cell? (aH cb 1)=some (.slice (some (aH g 0)) n c)/\d<n/\n<=1000000/\(∃u,W.cell? (aH g d)=some u)/\W.frozen? (aH g d)=false/\g<W.heap.size/\∀h,aV (W.setCell (aH g d) (.iface 327 (.agg #[Iv0 n]))) h->r h))
 (C:Hid (∀W,r W->W.cell? (aH w.heap.size 3)=some (.slice k o j)/\w.heap.size<W.heap.size))
 (HL:Hid (∀W,r W->Calls prog 198 #[bH cb,.slice k o j] W fun e a=>e=aZ (.tuple #[])/\L a))
 (q:Hid (∀W,L W->cb<W.heap.size/\∃g n c,W.cell? (aH cb 1)=some (.slice (some (aH g 0)) n c)/\f<n/\n<=1000000/\(∃u,W.cell? (aH g f)=some u)/\W.frozen? (aH g f)=false/\g<W.heap.size/\∀h,aV (W.setCell (aH g f) (.iface 328 (.agg #[Iv0 n]))) h->P h)):
 Calls prog 184 #[bH cb,.agg #[Iv0 l,.iface A z,.slice p m c1,.slice k o j]] w fun e a=>e=aZ (.tuple #[])/\P a:=by
 go_in
 go_wp2_with fail;refine HX.mono ?_;rintro e w1 ⟨rfl,K⟩;have T:=aB (v _ K);clear K;go_wp2_with fail;refine T.mono ?_;rintro e w2 ⟨rfl,y⟩;obtain⟨b1,b2⟩:=x _ y;have H2:=aB (HT _ y);clear y;go_wp2_with fail;refine H2.mono ?_;rintro e w3 ⟨rfl,H⟩;have H3:=aB (s _ H);clear H;go_wp2_with fail;refine H3.mono ?_;rintro e w4 ⟨rfl,I⟩;obtain⟨f3,g,n,c,f4,f5,f6,⟨u,f7⟩,f8,f9,i⟩:=D _ I;have HP:=aB i;have i1:(0:Int)<=(d:Int):=by omega
 have i2:(d:Int)<(n:Int):=by omega
 clear I i;go_wp2_with fail;go_region
 all_goals
  have t:=HP _ (aV.drew _);obtain⟨d1,d2⟩:=C _ t;have Q:=aB (HL _ t);clear t;generalize J:(w4.setCell (aH g d) (.iface 327 (.agg #[Iv0 n]))).drew=w5 at*;have HW:=aB J;clear J;go_wp2_with fail;refine Q.mono ?_;rintro e w6 ⟨rfl,N⟩;obtain⟨ac,g',U,c',X,ab,S,⟨u',aa⟩,Y,O,b⟩:=q _ N;have B:=aB b;have Z:(0:Int)<=(f:Int):=by omega
  have V:(f:Int)<(U:Int):=by omega
  clear N b;go_wp2_with fail;go_region
  all_goals
   go_wp2
   go_end0;exact⟨rfl,B _ (aV.drew _)⟩
def J8(w:aG)(cb k a:Nat)(l:Int)(p:TypeId)(j:aQ)(h:Option Addr)(f c1:Nat)(P A s t v:World->Prop)
 (H:Hid (Calls prog 96 #[bH cb,.iface p j] (w.alloc (.cells #[Iv0 l,.iface p j,.slice h f c1] 187)) fun e b=>e=aZ (.tuple #[])/\A b))
 (o:Hid (∀W,A W->Calls prog 117 #[bH cb,.nilIface] W fun e b=>e=aZ (Iv0 k)/\s b))
 (r:Hid (∀W,s W->W.cell? (aH w.heap.size 2)=some (.slice h f c1)/\w.heap.size<W.heap.size))
 (I:Hid (∀W,s W->Calls prog 198 #[bH cb,.slice h f c1] W fun e b=>e=aZ (.tuple #[])/\t b))
 (C:Hid (∀W,t W->Calls prog 117 #[bH cb,.iface 328 (.agg #[Iv0 a])] W fun e b=>(∃k:Nat,e=aZ (Iv0 k))/\v b))
 (q:Hid (∀W,v W->cb<W.heap.size/\∃g n c,W.cell? (aH cb 1)=some (.slice (some (aH g 0)) n c)/\k<n/\n<=1000000/\(∃u,W.cell? (aH g k)=some u)/\W.frozen? (aH g k)=false/\g<W.heap.size/\∀B,aV (W.setCell (aH g k) (.iface 327 (.agg #[Iv0 n]))) B->P B)):
 Calls prog 185 #[bH cb,.agg #[Iv0 l,.iface p j,.slice h f c1],Iv0 a] w fun e b=>e=aZ (.tuple #[])/\P b:=by
 go_in
 go_wp2_with fail;refine H.mono ?_;rintro e K ⟨rfl,y⟩;have F:=aB (o _ y);clear y;go_wp2_with fail;refine F.mono ?_;rintro e w2 ⟨rfl,i⟩;obtain⟨L,T⟩:=r _ i;have G:=aB (I _ i);clear i;go_wp2_with fail;refine G.mono ?_;rintro e N ⟨rfl,z⟩;have D:=aB (C _ z);clear z;go_wp2_with fail;refine D.mono ?_;rintro e J ⟨⟨m,rfl⟩,x⟩;obtain⟨Y,g,n,c,X,S,U,⟨u,Q⟩,M,Z,d⟩:=q _ x;have E:=aB d;have V:(0:Int)<=(k:Int):=by omega
 have O:(k:Int)<(n:Int):=by omega
 clear x d;go_wp2_with fail;go_region
 all_goals
  go_wp2
  go_end0;exact⟨rfl,E _ (aV.drew _)⟩
def stC_seen{fs:List aE}{d:Nat}{seen:cN}{a:aE}(p:Nat)(h:dM fs d seen a):(aX fs d seen a p).2=cZ seen a:=
 (mL fs d seen a (fun _ _=>False) p h ⟨fun _ _ _ h=>h.elim,fun _ _ h=>h.elim⟩).2.1
def StsOk.split{S:cN->aE->Prop}:∀{l m:List aE} {seen:cN},Hs.StsOk S seen (l++m)->Hs.StsOk S seen l/\Hs.StsOk S (eE seen l) m
 |[],_,_,h=>⟨trivial,h⟩
 |_::_,_,_,h=>by
  obtain⟨c,a⟩:=h;obtain⟨d,b⟩:=StsOk.split a;exact⟨⟨c,d⟩,b⟩
def rX:∀(l m:List aE) (seen:cN),eE seen (l++m)=eE (eE seen l) m
 |[],_,_=>rfl
 |a::l,m,seen=>rX l m (cZ seen a)
def rQ{fs:List aE}{d:Nat}:∀{l:List aE} (m:List aE) {seen:cN} (p:Nat),Hs.StsOk (dM fs d) seen l->bL (aX fs d) seen (l++m) p=bL (aX fs d) seen l p++bL (aX fs d) (eE seen l) m (p+(bL (aX fs d) seen l p).length)
 |[],m,seen,p,_=>by simp[bL,eE]
 |a::l,m,seen,p,h=>by
  obtain⟨c,b⟩:=h;rw[cP_,bL,bL,stC_seen p c,rQ m _ b,c4_,cp_,dX_];rfl
def S4{fs:List aE}{d:Nat}(a:aE)(seen:cN)(p:Nat):bL (aX fs d) seen [a] p=(aX fs d seen a p).1:=by simp[bL]
def OS(fp:eQ)(fb:Nat->Nat)(nms:cN)(cb:Nat)(F:bX)(w:aG)(code:List (Option aI))(seen:cN)(w':aG):Prop:=
 ∃G,(∀k,F k->G k)/\gX fp fb nms cb G w code seen w'
def TU(fp:eQ)(fb:Nat->Nat)(fs:List aE)(cb lo:Nat)(d:Nat):Prop:=
 ∀(F:bX) (seen:cN) (v:aQ) (a:aE) (code:List (Option aI)) (w:aG),CP fp fb (fs.map (·.text)) cb F w code seen->PN (Btw lo cb) w v a->dM fs d seen a->nB a->seen.length<=90001->code.length+(aX fs d seen a code.length).1.length<=1000000->
  Calls prog 158 #[bH cb,v] w fun e w'=>e=aZ (.tuple #[])/\OS fp fb (fs.map (·.text)) cb F w (code++(aX fs d seen a code.length).1.map some) (aX fs d seen a code.length).2 w'
section
variable {fp:eQ} {fb:Nat->Nat} {fs:List aE} {cb lo:Nat} {F:bX} {seen:cN} {d:Nat}
def OS.then{w w1 w':aG}{b:cN}{a:List (Option aI)}(c:FB cb cb w w1)(h:OS fp fb b cb F w1 a seen w'):OS fp fb b cb F w a seen w':=by
 obtain⟨G,d,h⟩:=h;exact⟨G,d,h.then c⟩
def OS.more{G:bX}{w w':aG}{b:cN}{a:List (Option aI)}(e:∀k,F k->G k)(h:OS fp fb b cb G w a seen w'):OS fp fb b cb F w a seen w':=by
 obtain⟨H,d,h⟩:=h;exact⟨H,fun k c=>d k (e k c),h⟩
def C4{fs:List aE}{d:Nat}{seen:cN}{a:aE}(h:dM fs d seen a)(f:seen.length<=90001):(cZ seen a).length<=90001:=by
 cases d with
 |zero=>exact h.elim
 |succ d=>
  unfold cZ;split
  ·rename_i c;rcases h with ⟨_,b,t,v,e,_⟩|⟨b,_⟩|⟨b,_⟩|⟨b,_⟩|⟨b,_⟩|⟨b,_⟩|⟨b,_⟩
   ·rw[e];simp;omega
   all_goals exact absurd (c.symm.trans b) (by decide)
  ·exact f
def zN{fs:List aE}{d:Nat}:∀{l:List aE} {seen:cN},Hs.StsOk (dM fs d) seen l->seen.length<=90001->(eE seen l).length<=90001
 |[],_,_,h=>h
 |a::l,seen,c,h=>by
  obtain⟨e,b⟩:=c;exact zN (l:=l) (seen:=cZ seen a) b (C4 e h)
def qZ(O:TU fp fb fs cb lo d)(v:aQ)(l:List aE)(b:List (Option aI))(w:aG)(h:CP fp fb (fs.map (·.text)) cb F w b seen)(S:PKid (Btw lo cb) w v l)(J:Hs.StsOk (dM fs d) seen l)(E:∀a∈l,nB a)(N:l.length<=1000000)(z:seen.length<=90001)(V:b.length+(bL (aX fs d) seen l b.length).length<=1000000):
 Calls prog 116 #[bH cb,v] w fun e t=>e=aZ (.tuple #[])/\OS fp fb (fs.map (·.text)) cb F w (b++(bL (aX fs d) seen l b.length).map some) (eE seen l) t:=by
 rcases S.get with ⟨rfl,rfl⟩|⟨g,B,rfl,K,H,I,U⟩
 ·refine(DP w cb).mono ?_;rintro e t ⟨rfl,rfl⟩;exact⟨rfl,F,fun _ h=>h,by simpa [bL,eE] using h,FB.refl _⟩
 ·refine(BG w cb g l.length B (fun j W=>j<=l.length/\OS fp fb (fs.map (·.text)) cb F w (b++(bL (aX fs d) seen (l.take j) b.length).map some) (eE seen (l.take j)) W) N ⟨cU_ _,F,fun _ h=>h,by simpa [bL,eE] using h,FB.refl _⟩ (fun j W L x=>?_)).mono ?_
  ·obtain⟨_,G,Q,y,f⟩:=L;obtain⟨u,P,m⟩:=U j x;obtain⟨T,M,rfl⟩:=m.form;have k:l.take (j+1)=l.take j++[l[j]]:=cK_ x
   have i:Hs.StsOk (dM fs d) seen (l.take j++(l[j]::l.drop (j+1))):=by
    have e:l.take j++(l[j]::l.drop (j+1))=l:=by
     rw[dq_];exact cY_ _ _
    rw[e];exact J
   obtain⟨n,o,_⟩:=StsOk.split i;have r:bL (aX fs d) seen (l.take (j+1)) b.length=bL (aX fs d) seen (l.take j) b.length++(aX fs d (eE seen (l.take j)) l[j] (b.length+(bL (aX fs d) seen (l.take j) b.length).length)).1:=by rw[k,rQ _ _ n,S4]
   have q:(bL (aX fs d) seen (l.take (j+1)) b.length).length<=(bL (aX fs d) seen l b.length).length:=by
    have C:Hs.StsOk (dM fs d) seen (l.take (j+1)++l.drop (j+1)):=by rw[cY_];exact J
    have:=rQ (l.drop (j+1)) b.length (StsOk.split C).1;rw[cY_] at this;rw[this,cp_];omega
   have s:(b++(bL (aX fs d) seen (l.take j) b.length).map some).length=b.length+(bL (aX fs d) seen (l.take j) b.length).length:=by simp
   have A:eE seen (l.take (j+1))=(aX fs d (eE seen (l.take j)) l[j] (b.length+(bL (aX fs d) seen (l.take j) b.length).length)).2:=by
    rw[k,rX,stC_seen _ o];rfl
   refine⟨cn_ H f.bel.size,T,.agg M,by rw[f.bel.cell (p:=(aH g j)) K.2];exact P,(O G _ _ l[j] _ W y (m.below f.bel) o (E _ (cG_ x)) (zN n z) ?_).mono ?_⟩
   ·rw[s];rw[r,cp_] at q;omega
   ·rintro e t ⟨D,c⟩;refine⟨D,x,?_⟩;rw[s] at c;rw[r,A,cZ_,<-c4_];exact(c.then f).more Q
  ·rintro e t ⟨D,_,c⟩;rw[cS_ cL] at c;exact⟨D,c⟩
def YB(N:TU fp fb fs cb lo d)(v:aQ)(l:List aE)(f:List (Option aI))(w:aG)(h:CP fp fb (fs.map (·.text)) cb F w f seen)(C:PKid (Btw lo cb) w v l)(L:Hs.StsOk (dM fs d) seen l)(z:∀a∈l,nB a)(M:l.length<=1000000)(r:seen.length<=90001)(P:f.length+(bL (aX fs d) seen l f.length).length<=1000000):
 Calls prog 198 #[bH cb,v] w fun e D=>e=aZ (.tuple #[])/\OS fp fb (fs.map (·.text)) cb F w (f++(bL (aX fs d) seen l f.length).map some) seen D:=by
 obtain⟨x,c,rfl⟩:=C.sliceC;have s:=qZ N _ l f w h C L z M r P;obtain⟨fv,Y,X,J,_,B,_⟩:=h.blk;obtain⟨p,rfl⟩:=B.form;refine YF w cb p x l.length c _ _ (aA J rfl) s (fun W H=>?_)
 obtain⟨G,u,g,n⟩:=H;obtain⟨y,t,V,m,⟨O,A,U⟩,Z,Q⟩:=g.blk;refine⟨⟨_,aA m rfl⟩,aD m,aC m,G,u,⟨⟨y,t,.pointer p,aK m,⟨O,?_,?_⟩,?_,?_⟩,fun k j=>?_⟩,?_⟩
 all_goals have j:∀k,k≠cb->(W.setCell (aH cb 2) (.pointer p)).heap[k]?=W.heap[k]?:=fun k j=>cm_ _ _ _ _ j
 all_goals have i:∀b,G b->(W.setCell (aH cb 2) (.pointer p)).heap[b]?=W.heap[b]?:=fun b q=>j b (g.fix b q).2.1
 all_goals have o:lV cb (W.setCell (aH cb 2) (.pointer p))=lV cb W:=by rw[jD (aK m),jD m]
 ·exact aW A fun k e=>j k (by have:=(A.lt k e).1;omega)
 ·exact U.keep i dX
 ·exact eF.keep (fun b q=>by rw[i b (u b q),h.fixed n b q]) u B
 ·exact Q.keep i dX (by simp)
 ·obtain⟨S,K,T⟩:=g.fix k (by assumption)
  exact⟨by simpa using S,K,by rw[o];exact T⟩
 ·refine n.trans ⟨⟨rfl,rfl,rfl,by simp,fun k I=>j k (by omega)⟩,fun k _ E _=>j k E,fun k e=>cl_ (by rw[<-o];exact e)⟩
end
section
variable {fp:eQ} {fb:Nat->Nat} {fs:List aE} {cb lo:Nat} {F:bX} {alone:Bool} {seen:cN} {d:Nat}
def O5(IH:GL fp fb fs cb lo F alone seen d)(S:fs.length<=1000000)(G:∀k,k<fs.length->fp k=bH (fb k))(a:aE)(Y:aQ)(l:Int)(b:List (Option aI))(w:aG)(K:CP fp fb (fs.map (·.text)) cb F w b seen)(y:a.op=[99,97,108,108])(V:PKid (Btw lo cb) w Y a.kids)(P:Hs.ExOk fs alone seen (d+1) a)(T:pA (d+1) a)(o:b.length+(aF fs seen (d+1) a b.length).length<=1000000):
 Calls prog 130 #[bH cb,.agg #[Iv0 l,.string (bs a.text),Y]] w fun e u=>e=aZ (.tuple #[])/\gX fp fb (fs.map (·.text)) cb F w (b++(aF fs seen (d+1) a b.length).map some) seen u:=by
 have n:=ExOk.op P;obtain⟨_,L,D⟩:=T;rw[FF fs seen d a _ y] at o ⊢
 rw[cp_,dg_] at o;have N:=n.1;have p:=n.2.2 y;obtain⟨x,c,rfl⟩:=V.sliceC;obtain⟨h,v⟩:=K.new (.cells #[Iv0 l,.string (bs a.text),.slice x a.kids.length c] 192);have B:∀{W:aG},FB cb cb (w.alloc (.cells #[Iv0 l,.string (bs a.text),.slice x a.kids.length c] 192)) W->W.heap[w.heap.size]?=some (.cells #[Iv0 l,.string (bs a.text),.slice x a.kids.length c] 192 (0,0)):=fun M=>(h.step M).blk
 have j:Calls prog 128 #[bH cb,.slice x a.kids.length c] (w.alloc (.cells #[Iv0 l,.string (bs a.text),.slice x a.kids.length c] 192)) fun e u=>e=aZ (.tuple #[])/\(gX fp fb (fs.map (·.text)) cb F w (b++(bV (aF fs seen d) a.kids b.length).map some) seen u/\u.heap[w.heap.size]?=some (.cells #[Iv0 l,.string (bs a.text),.slice x a.kids.length c] 192 (0,0))):=by
  refine(tH IH _ _ _ _ v (V.below h.fb.bel) N D L (by omega)).mono ?_
  rintro e u ⟨H,z⟩;exact⟨H,z.then h.fb,B z.2⟩
 have m:∀{i:aI} {e:Ending} {W:aG},(e=aZ (.tuple #[])/\gX fp fb (fs.map (·.text)) cb F w ((b++(bV (aF fs seen d) a.kids b.length).map some)++[some i]) seen W)->e=aZ (.tuple #[])/\gX fp fb (fs.map (·.text)) cb F w (b++(bV (aF fs seen d) a.kids b.length++[i]).map some) seen W:=fun g=>by
  rw[cZ_,<-c4_];exact g
 have t:(b++(bV (aF fs seen d) a.kids b.length).map some).length+1<=1000000:=by rw[gH];omega
 rcases p with q|q|⟨A,C,r⟩
 ·rw[q] at j ⊢
  refine(TM w cb a.kids.length c l x _ _ j (fun W g=>⟨aA g.2 rfl,aC g.2⟩) (fun W g=>emits (i:=.length) g.1 rfl t)).mono ?_
  intro e W g;exact m g
 ·rw[q] at j ⊢
  refine(LH w cb a.kids.length c l x _ _ j (fun W g=>⟨aA g.2 rfl,aC g.2⟩) (fun W g=>emits (i:=.read) g.1 rfl t)).mono ?_
  intro e W g;exact m g
 ·have s:dG fs a.text<fs.length:=by
   unfold fZ at r;cases X:fs[dG fs a.text]? with
   |none=>rw[X] at r;cases r
   |some f=>exact(cQ_.1 X).1
  have E:a.text∈fs.map (·.text):=by
   have Q:=s;unfold dG at Q;have:=dE_ (w:=Q);exact dn_.2 ⟨_,cG_ Q,by simpa using this⟩
  have e1:(a.text==[108,101,110])=false:=by simpa using A
  have Z:(a.text==[114,101,97,100])=false:=by simpa using C
  rw[e1,Z];refine(GC w cb a.kids.length c (fb (dG fs a.text)) l a.text x (fun W=>gX fp fb (fs.map (·.text)) cb F w ((b++(bV (aF fs seen d) a.kids b.length).map some)++[some (.call (dG fs a.text) a.kids.length)]) seen W) _ A C j (fun W g=>⟨aA g.2 rfl,aA g.2 rfl,aC g.2⟩) (fun W U g I=>?_) (fun W U g I=>?_)).mono ?_
  ·refine(uH a.text (g.1.1.grow I.below) E (by simpa using S)).mono ?_
   rintro e u ⟨H,J⟩;rw[FC,G _ s] at H;exact⟨H,J⟩
  ·have O:gX fp fb (fs.map (·.text)) cb F w (b++(bV (aF fs seen d) a.kids b.length).map some) seen U:=⟨g.1.1.grow I.below,g.1.2.trans (FB.of_lt I.below g.1.1.lt)⟩
   exact emits (i:=.call (dG fs a.text) a.kids.length) O (by show _=_;rw[G _ s]) t
  ·intro e W g;exact m g
end
section
variable (fs:List aE) (seen:cN) (d:Nat) (a:aE) (p:Nat)
def y9(t v:aE)(h:a.op=[118,97,114])(b:a.kids=[t,v]):aX fs (d+1) seen a p=(.begin a.line seen::aF fs seen d v (p+1)++[.declare seen.length],t.text::seen):=by rw[aX];simp[h,b]
def z6(h:a.op=[115,101,116]):aX fs (d+1) seen a p=(.begin a.line seen::bV (aF fs seen d) a.kids (p+1)++[.assign (dU seen a.text) (a.kids.length-1)],seen):=by rw[aX];simp[h]
def z8(c t:aE)(h:a.op=[105,102])(b:a.kids=[c,t]):aX fs (d+1) seen a p=
 (.begin a.line seen::aF fs seen d c (p+1)++[.skip (p+1+(aF fs seen d c (p+1)).length+1+(bL (aX fs d) seen t.kids (p+1+(aF fs seen d c (p+1)).length+1)).length+1)]++bL (aX fs d) seen t.kids (p+1+(aF fs seen d c (p+1)).length+1)++[.jump (p+1+(aF fs seen d c (p+1)).length+1+(bL (aX fs d) seen t.kids (p+1+(aF fs seen d c (p+1)).length+1)).length+1)],seen):=by rw[aX];simp[h,b]
def z7(c t x:aE)(h:a.op=[105,102])(b:a.kids=[c,t,x]):aX fs (d+1) seen a p=
 (.begin a.line seen::aF fs seen d c (p+1)++[.skip (p+1+(aF fs seen d c (p+1)).length+1+(bL (aX fs d) seen t.kids (p+1+(aF fs seen d c (p+1)).length+1)).length+1)]++bL (aX fs d) seen t.kids (p+1+(aF fs seen d c (p+1)).length+1)++[.jump (p+1+(aF fs seen d c (p+1)).length+1+(bL (aX fs d) seen t.kids (p+1+(aF fs seen d c (p+1)).length+1)).length+1+(bL (aX fs d) seen x.kids (p+1+(aF fs seen d c (p+1)).length+1+(bL (aX fs d) seen t.kids (p+1+(aF fs seen d c (p+1)).length+1)).length+1)).length)]++
   bL (aX fs d) seen x.kids (p+1+(aF fs seen d c (p+1)).length+1+(bL (aX fs d) seen t.kids (p+1+(aF fs seen d c (p+1)).length+1)).length+1),seen):=by rw[aX];simp[h,b]
def B8(c b:aE)(h:a.op=[119,104,105,108,101])(e:a.kids=[c,b]):aX fs (d+1) seen a p=
 (.begin a.line seen::aF fs seen d c (p+1)++[.skip (p+1+(aF fs seen d c (p+1)).length+1+(bL (aX fs d) seen b.kids (p+1+(aF fs seen d c (p+1)).length+1)).length+1)]++bL (aX fs d) seen b.kids (p+1+(aF fs seen d c (p+1)).length+1)++[.jump p],seen):=by rw[aX];simp[h,e]
def PO(h:a.op=[114,101,116,117,114,110])(b:a.kids=[]):aX fs (d+1) seen a p=([.begin a.line seen,.push (bG 0),.give],seen):=by rw[aX];simp[h,b]
def PM(v:aE)(h:a.op=[114,101,116,117,114,110])(b:a.kids=[v]):aX fs (d+1) seen a p=(.begin a.line seen::aF fs seen d v (p+1)++[.give],seen):=by rw[aX];simp[h,b]
def B9(v:aE)(h:a.op=[112,114,105,110,116])(b:a.kids=[v]):aX fs (d+1) seen a p=(.begin a.line seen::aF fs seen d v (p+1)++[.print],seen):=by rw[aX];simp[h,b]
def bu_(c:aE)(h:a.op=[100,111])(b:a.kids=[c]):aX fs (d+1) seen a p=(.begin a.line seen::aF fs seen d c (p+1)++[.drop],seen):=by rw[aX];simp[h,b]
end
section
variable {fp:eQ} {fb:Nat->Nat} {fs:List aE} {cb lo:Nat} {F:bX} {seen:cN} {d:Nat}
def rF(fp:eQ)(fb:Nat->Nat)(nms:cN)(cb:Nat)(F:bX)(w w1:aG)(b:Nat)(o:Obj)(seen:cN)(c:List (Option aI))(W:aG):Prop:=
 ∃G,(∀k,F k->G k)/\gX fp fb nms cb G w c seen W/\Loc cb cb w1 b o W
def rF.emit{d:cN}{w w1 W:aG}{b:Nat}{o:Obj}{c:List (Option aI)}(h:rF fp fb d cb F w w1 b o seen c W){u:aQ}{i:Option aI}(l:∀G,bg_ fp G W u i)(n:c.length<=1000000):
 Calls prog 117 #[bH cb,u] W fun e f=>e=aZ (Iv0 c.length)/\rF fp fb d cb F w w1 b o seen (c++[i]) f:=by
 obtain⟨G,m,a,k⟩:=h;refine(sO (o:=i) a.1 (l G) n).mono ?_;rintro e f ⟨p,j,g⟩;exact⟨p,G,m,⟨j,a.2.trans g⟩,k.step g⟩
def rF.patch{e:cN}{w w1 W:aG}{b:Nat}{o:Obj}{d a:List (Option aI)}(v:rF fp fb e cb F w w1 b o seen (d++none::a) W)(k:Nat)(t:k=d.length)(l:TypeId)(i:Nat->aI)(hi:∀G n,lQ fp G W (.iface l (.agg #[Iv0 (n:Nat)])) (i n))(B:(d++none::a).length<=1000000):
 cb<W.heap.size/\∃g n c,W.cell? (aH cb 1)=some (.slice (some (aH g 0)) n c)/\k<n/\n<=1000000/\(∃u,W.cell? (aH g k)=some u)/\W.frozen? (aH g k)=false/\g<W.heap.size/\∀h,aV (W.setCell (aH g k) (.iface l (.agg #[Iv0 (n:Nat)]))) h->rF fp fb e cb F w w1 b o seen (d++some (i (d++none::a).length)::a) h:=by
 obtain⟨G,A,⟨f,j⟩,y⟩:=v;obtain⟨g,c,z,s,p,r,q⟩:=f.patch;subst t;refine⟨f.lt,g,_,c,z,by simp,B,s,p,r,fun h C=>?_⟩
 obtain⟨x,m⟩:=q _ _ h (hi G _) C;exact⟨G,A,⟨x,j.trans m⟩,y.step m⟩
def rF.blockk(t:TU fp fb fs cb lo d){w w1 W:aG}{b:Nat}{o:Obj}{c:List (Option aI)}(n:rF fp fb (fs.map (·.text)) cb F w w1 b o seen c W)(v:aQ)(l:List aE)(y:PKid (Btw lo cb) w v l)(q:Hs.StsOk (dM fs d) seen l)(i:∀a∈l,nB a)(r:l.length<=1000000)(h:seen.length<=90001)(x:c.length+(bL (aX fs d) seen l c.length).length<=1000000):
 Calls prog 198 #[bH cb,v] W fun e j=>e=aZ (.tuple #[])/\rF fp fb (fs.map (·.text)) cb F w w1 b o seen (c++(bL (aX fs d) seen l c.length).map some) j:=by
 obtain⟨G,u,g,p⟩:=n;refine(YB t v l c W g.1 (y.below g.2.bel) q i r h x).mono ?_;rintro e j ⟨z,H,s,f⟩;exact⟨z,H,fun k m=>s k (u k m),f.then g.2,p.step f.2⟩
def rF.exprk{w w1 W:aG}{b:Nat}{o:Obj}{c:List (Option aI)}(n:rF fp fb (fs.map (·.text)) cb F w w1 b o seen c W)(h:fs.length<=1000000)(i:∀k,k<fs.length->fp k=bH (fb k))(m:seen.length<=90001)(v:aQ)(a:aE)(t:PN (Btw lo cb) w v a)(q:Hs.ExOk fs false seen d a)(j:nB a)(s:c.length+(aF fs seen d a c.length).length<=1000000):
 Calls prog 96 #[bH cb,v] W fun e l=>e=aZ (.tuple #[])/\rF fp fb (fs.map (·.text)) cb F w w1 b o seen (c++(aF fs seen d a c.length).map some) l:=by
 obtain⟨G,r,g,p⟩:=n;refine(pU (by omega) h i d v a c W g.1 (t.below g.2.bel) q (j d) s).mono ?_
 rintro e l ⟨u,f⟩;exact⟨u,G,r,f.then g.2,p.step f.2⟩
def rF.exprsk{w w1 W:aG}{b:Nat}{o:Obj}{c:List (Option aI)}(p:rF fp fb (fs.map (·.text)) cb F w w1 b o seen c W)(h:fs.length<=1000000)(i:∀k,k<fs.length->fp k=bH (fb k))(n:seen.length<=90001)(v:aQ)(l:List aE)(x:PKid (Btw lo cb) w v l)(r:∀a∈l,Hs.ExOk fs false seen d a)(j:∀a∈l,nB a)(s:l.length<=1000000)(u:c.length+(bV (aF fs seen d) l c.length).length<=1000000):
 Calls prog 128 #[bH cb,v] W fun e m=>e=aZ (.tuple #[])/\rF fp fb (fs.map (·.text)) cb F w w1 b o seen (c++(bV (aF fs seen d) l c.length).map some) m:=by
 obtain⟨G,t,g,q⟩:=p;refine(tH (pU (by omega) h i d) v l c W g.1 (x.below g.2.bel) r (fun a z=>j a z d) s u).mono ?_
 rintro e m ⟨y,f⟩;exact⟨y,G,t,f.then g.2,q.step f.2⟩
def rF.fin{a:cN}{w w1 W:aG}{b:Nat}{o:Obj}{c:List (Option aI)}(e:rF fp fb a cb F w w1 b o seen c W):OS fp fb a cb F w c seen W:=by
 obtain⟨G,f,d,_⟩:=e;exact⟨G,f,d⟩
def rF.box{a:cN}{w w1 W:aG}{b:Nat}{cs:Array Value}{T:TypeId}{c:List (Option aI)}(d:rF fp fb a cb F w w1 b (.cells cs T) seen c W):W.heap[b]?=some (.cells cs T (0,0)):=by
 obtain⟨G,f,_,e⟩:=d;exact e.blk
def CP.cpB{c:cN}{w:aG}{a:List (Option aI)}(h:CP fp fb c cb F w a seen)(o:Obj):rF fp fb c cb F w w w.heap.size o seen a (w.alloc o):=by
 obtain⟨b,d⟩:=h.new o;exact⟨F,fun _ h=>h,⟨d,b.fb⟩,b⟩
def AG(V:TU fp fb fs cb lo d)(O:fs.length<=1000000)(Q:∀k,k<fs.length->fp k=bH (fb k))(B:seen.length<=90001)(l:Int)(v1 s1 U:aQ)(c:aE)(s r:List aE)(b:List (Option aI))(w:aG)(h:CP fp fb (fs.map (·.text)) cb F w b seen)
 (X:PN (Btw lo cb) w v1 c) (T:PKid (Btw lo cb) w s1 s) (Y:PKid (Btw lo cb) w U r) (ho:Hs.ExOk fs false seen d c) (L:Hs.StsOk (dM fs d) seen s) (S:Hs.StsOk (dM fs d) seen r) (hl:nB c) (P:∀a∈s,nB a) (J:∀a∈r,nB a) (I:s.length<=1000000) (M:r.length<=1000000)
 (f j q:List aI) (C:aF fs seen d c b.length=f) (D:bL (aX fs d) seen s (b.length+f.length+1)=j) (E:bL (aX fs d) seen r (b.length+f.length+1+j.length+1)=q) (hn:b.length+f.length+1+j.length+1+q.length<=1000000):
 Calls prog 184 #[bH cb,.agg #[Iv0 l,v1,s1,U]] w fun e w'=>e=aZ (.tuple #[])/\OS fp fb (fs.map (·.text)) cb F w (b++(f++[aI.skip (b.length+f.length+1+j.length+1)]++j++[aI.jump (b.length+f.length+1+j.length+1+q.length)]++q).map some) seen w':=by
 obtain⟨v,o,rfl⟩:=X.form;obtain⟨A,x,rfl⟩:=T.sliceC;obtain⟨z,y,rfl⟩:=Y.sliceC;have K:=h.cpB (.cells #[Iv0 l,.iface v (.agg o),.slice A s.length x,.slice z r.length y] 185)
 refine(TI w cb (b.length+f.length) (b.length+f.length+1+j.length) l v (.agg o) A z s.length r.length x y
  (fun W=>OS fp fb (fs.map (·.text)) cb F w ((b++f.map some++some (aI.skip (b.length+f.length+1+j.length+1))::j.map some)++some (aI.jump (b.length+f.length+1+j.length+1+q.length))::q.map some) seen W)
  (rF fp fb (fs.map (·.text)) cb F w w w.heap.size (.cells #[Iv0 l,.iface v (.agg o),.slice A s.length x,.slice z r.length y] 185) seen (b++f.map some))
  (rF fp fb (fs.map (·.text)) cb F w w w.heap.size (.cells #[Iv0 l,.iface v (.agg o),.slice A s.length x,.slice z r.length y] 185) seen (b++f.map some++[none]))
  (rF fp fb (fs.map (·.text)) cb F w w w.heap.size (.cells #[Iv0 l,.iface v (.agg o),.slice A s.length x,.slice z r.length y] 185) seen (b++f.map some++[none]++j.map some))
  (rF fp fb (fs.map (·.text)) cb F w w w.heap.size (.cells #[Iv0 l,.iface v (.agg o),.slice A s.length x,.slice z r.length y] 185) seen (b++f.map some++[none]++j.map some++[none]))
  (rF fp fb (fs.map (·.text)) cb F w w w.heap.size (.cells #[Iv0 l,.iface v (.agg o),.slice A s.length x,.slice z r.length y] 185) seen (b++f.map some++some (aI.skip (b.length+f.length+1+j.length+1))::(j.map some++[none])))
  (rF fp fb (fs.map (·.text)) cb F w w w.heap.size (.cells #[Iv0 l,.iface v (.agg o),.slice A s.length x,.slice z r.length y] 185) seen (b++f.map some++some (aI.skip (b.length+f.length+1+j.length+1))::(j.map some++[none])++q.map some))
  ?_ (fun W m=>?_) (fun W m=>?_) (fun W m=>?_) (fun W m=>?_) (fun W m=>?_) (fun W m=>?_) (fun W m=>?_) (fun W m=>?_)).mono ?_
 ·have:=K.exprk O Q B _ c X ho hl (by rw[C];omega)
  rw[C] at this;exact this
 ·have:=m.emit (u:=.nilIface) (i:=none) (fun _=>rfl) (by simp;omega)
  rw[gH] at this;exact this
 ·exact⟨aA m.box rfl,aC m.box⟩
 ·have p:(b++f.map some++[none]).length=b.length+f.length+1:=by simp;omega
  have:=m.blockk V _ s T L P I B (by rw[p,D];omega)
  rw[p,D] at this;exact this
 ·have p:(b++f.map some++[none]++j.map some).length=b.length+f.length+1+j.length:=by simp;omega
  have:=m.emit (u:=.nilIface) (i:=none) (fun _=>rfl) (by rw[p];omega)
  rw[p] at this;exact this
 ·have G:b++f.map some++[none]++j.map some++[none]=(b++f.map some)++none::(j.map some++[none]):=by simp
  rw[G] at m;have t:((b++f.map some)++none::(j.map some++[none])).length=b.length+f.length+1+j.length+1:=by simp;omega
  have:=m.patch (b.length+f.length) (by rw[gH]) 327 (fun n=>.skip n) (fun _ _=>rfl) (by rw[t];omega)
  rw[t] at this;exact this
 ·exact⟨aA m.box rfl,aC m.box⟩
 ·have p:(b++f.map some++some (aI.skip (b.length+f.length+1+j.length+1))::(j.map some++[none])).length=b.length+f.length+1+j.length+1:=by simp;omega
  have:=m.blockk V _ r Y S J M B (by rw[p,E];omega)
  rw[p,E] at this;exact this
 ·have G:b++f.map some++some (aI.skip (b.length+f.length+1+j.length+1))::(j.map some++[none])++q.map some=(b++f.map some++some (aI.skip (b.length+f.length+1+j.length+1))::j.map some)++none::q.map some:=by simp
  rw[G] at m;have t:((b++f.map some++some (aI.skip (b.length+f.length+1+j.length+1))::j.map some)++none::q.map some).length=b.length+f.length+1+j.length+1+q.length:=by simp;omega
  have H:b.length+f.length+1+j.length=(b++f.map some++some (aI.skip (b.length+f.length+1+j.length+1))::j.map some).length:=by simp;omega
  have:=m.patch (b.length+f.length+1+j.length) H 328 (fun n=>.jump n) (fun _ _=>rfl) (by rw[t];omega)
  rw[t] at this;obtain⟨a1,g,n,N,a2,a3,a4,a5,a6,a7,Z⟩:=this;exact⟨a1,g,n,N,a2,a3,a4,a5,a6,a7,fun W' hS=>(Z W' hS).fin⟩
 ·intro e W m;have e9:b++(f++[aI.skip (b.length+f.length+1+j.length+1)]++j++[aI.jump (b.length+f.length+1+j.length+1+q.length)]++q).map some=(b++f.map some++some (aI.skip (b.length+f.length+1+j.length+1))::j.map some)++some (aI.jump (b.length+f.length+1+j.length+1+q.length))::q.map some:=by simp
  rw[e9];exact m
def N6(Y:TU fp fb fs cb lo d)(G:fs.length<=1000000)(I:∀k,k<fs.length->fp k=bH (fb k))(x:seen.length<=90001)(l:Int)(f:Nat)(v1 s1:aQ)(c:aE)(q:List aE)(b:List (Option aI))(w:aG)(h:CP fp fb (fs.map (·.text)) cb F w b seen)
 (L:PN (Btw lo cb) w v1 c) (K:PKid (Btw lo cb) w s1 q) (V:Hs.ExOk fs false seen d c) (D:Hs.StsOk (dM fs d) seen q) (X:nB c) (H:∀a∈q,nB a) (B:q.length<=1000000)
 (j m:List aI) (y:aF fs seen d c b.length=j) (z:bL (aX fs d) seen q (b.length+j.length+1)=m) (hn:b.length+j.length+1+m.length+1<=1000000):
 Calls prog 185 #[bH cb,.agg #[Iv0 l,v1,s1],Iv0 f] w fun e J=>e=aZ (.tuple #[])/\OS fp fb (fs.map (·.text)) cb F w (b++(j++[aI.skip (b.length+j.length+1+m.length+1)]++m++[aI.jump f]).map some) seen J:=by
 obtain⟨s,p,rfl⟩:=L.form;obtain⟨v,t,rfl⟩:=K.sliceC;have C:=h.cpB (.cells #[Iv0 l,.iface s (.agg p),.slice v q.length t] 187)
 refine(J8 w cb (b.length+j.length) f l s (.agg p) v q.length t
  (fun W=>OS fp fb (fs.map (·.text)) cb F w ((b++j.map some)++some (aI.skip (b.length+j.length+1+m.length+1))::(m.map some++[some (aI.jump f)])) seen W)
  (rF fp fb (fs.map (·.text)) cb F w w w.heap.size (.cells #[Iv0 l,.iface s (.agg p),.slice v q.length t] 187) seen (b++j.map some))
  (rF fp fb (fs.map (·.text)) cb F w w w.heap.size (.cells #[Iv0 l,.iface s (.agg p),.slice v q.length t] 187) seen (b++j.map some++[none]))
  (rF fp fb (fs.map (·.text)) cb F w w w.heap.size (.cells #[Iv0 l,.iface s (.agg p),.slice v q.length t] 187) seen (b++j.map some++[none]++m.map some))
  (rF fp fb (fs.map (·.text)) cb F w w w.heap.size (.cells #[Iv0 l,.iface s (.agg p),.slice v q.length t] 187) seen (b++j.map some++[none]++m.map some++[some (aI.jump f)]))
  ?_ (fun W o=>?_) (fun W o=>?_) (fun W o=>?_) (fun W o=>?_) (fun W o=>?_)).mono ?_
 ·have:=C.exprk G I x _ c L V X (by rw[y];omega)
  rw[y] at this;exact this
 ·have:=o.emit (u:=.nilIface) (i:=none) (fun _=>rfl) (by simp;omega)
  rw[gH] at this;exact this
 ·exact⟨aA o.box rfl,aC o.box⟩
 ·have r:(b++j.map some++[none]).length=b.length+j.length+1:=by simp;omega
  have:=o.blockk Y _ q K D H B x (by rw[r,z];omega)
  rw[r,z] at this;exact this
 ·have r:(b++j.map some++[none]++m.map some).length=b.length+j.length+1+m.length:=by simp;omega
  refine(o.emit (u:=.iface 328 (.agg #[Iv0 f])) (i:=some (aI.jump f)) (fun _=>rfl) (by rw[r];omega)).mono ?_
  rintro e J ⟨he,O⟩;exact⟨⟨_,he⟩,O⟩
 ·have N:b++j.map some++[none]++m.map some++[some (aI.jump f)]=(b++j.map some)++none::(m.map some++[some (aI.jump f)]):=by simp
  rw[N] at o;have A:((b++j.map some)++none::(m.map some++[some (aI.jump f)])).length=b.length+j.length+1+m.length+1:=by simp;omega
  have:=o.patch (b.length+j.length) (by rw[gH]) 327 (fun n=>.skip n) (fun _ _=>rfl) (by rw[A];omega)
  rw[A] at this;obtain⟨a1,g,n,E,a2,S,U,T,Z,P,M⟩:=this;exact⟨a1,g,n,E,a2,S,U,T,Z,P,fun W' hS=>(M W' hS).fin⟩
 ·intro e W o;have Q:b++(j++[aI.skip (b.length+j.length+1+m.length+1)]++m++[aI.jump f]).map some=(b++j.map some)++some (aI.skip (b.length+j.length+1+m.length+1))::(m.map some++[some (aI.jump f)]):=by simp
  rw[Q];exact o
end
section
variable {fp:eQ} {fb:Nat->Nat} {fs:List aE} {cb lo:Nat} {d:Nat}
def gX.cpB{F:bX}{seen:cN}{c:cN}{w W:aG}{a:List (Option aI)}(h:gX fp fb c cb F w a seen W)(o:Obj):rF fp fb c cb F w W W.heap.size o seen a (W.alloc o):=by
 obtain⟨b,d⟩:=h.1.new o;exact⟨F,fun _ h=>h,⟨d,h.2.trans b.fb⟩,b⟩
def i8(IH:TU fp fb fs cb lo d)(Y:fs.length<=1000000)(X:∀k,k<fs.length->fp k=bH (fb k)):TU fp fb fs cb lo (d+1):=by
 intro F f v a g w h bc Q J ac z;obtain⟨T,cs,ps,rfl,bd,L⟩:=bc.parts;obtain⟨fv,cv,sp,m,_,h4,_⟩:=h.blk;obtain⟨p,rfl⟩:=h4.form;have V:=h.lt;have ab:w.cell? (aH cb 2)=some (.pointer p):=aA m rfl
 have aa:g.length+1<=1000000->Calls prog 117 #[bH cb,.iface 233 (.agg #[Iv0 a.line,.pointer p])] (w.drew.alloc (.cells #[Iv0 a.line] 153)) fun e w'=>e=aZ (Iv0 g.length)/\gX fp fb (fs.map (·.text)) cb F w (g++[some (.begin a.line f)]) f w':=fun hn=>by
  have hb:Below w.heap.size w (w.drew.alloc (.cells #[Iv0 a.line] 153)):=((co_ _ w).drew).alloc cL _;have h':=h.grow hb;refine(sO (o:=some (.begin a.line f)) h' ⟨_,rfl,eF.keep (fun b az=>hb.block b (h.fix b az).1) dX h4⟩ (by omega)).mono ?_
  rintro e w' ⟨H,q1,q2⟩;exact⟨H,q1,(FB.of_lt hb V).trans q2⟩
 have B:(g++[some (aI.begin a.line f)]).length=g.length+1:=by simp
 have af:f.length<=1000000:=by omega
 have no:∀{x y:cD} {p:Prop},a.op=x->x≠y->a.op=y->p:=fun e1 e2 e3=>absurd (e1.symm.trans e3) e2
 rcases bd with ⟨_,_,_,n,_⟩|⟨_,_,n,_⟩|⟨_,_,n,_⟩|⟨_,_,_,n,_⟩|⟨_,_,_,n,_⟩|⟨_,_,n,_⟩|⟨_,_,_,_,_,_,_,n,_⟩|⟨_,o,_,_,_,ax,n,_⟩|⟨_,_,_,_,_,_,_,n,_⟩|⟨rfl,v1,t,A,rfl,n,j,rfl⟩|⟨rfl,sv,v1,l,A,rfl,n,j,rfl⟩|⟨rfl,v1,s1,A,N,rfl,n,au,j,rfl⟩|⟨rfl,v1,s1,s2,A,N,b2,rfl,n,au,bf,j,rfl⟩|⟨rfl,v1,s1,A,N,rfl,n,au,j,rfl⟩|⟨rfl,l,rfl,n,j,rfl⟩|⟨rfl,v1,A,rfl,n,j,rfl⟩|⟨rfl,v1,A,rfl,n,j,rfl⟩|⟨rfl,sv,c,rfl,n,av,be,j,aj,rfl⟩
 iterate 7
  ·exfalso;rcases Q with ⟨m,_⟩|⟨m,_⟩|⟨m,_⟩|⟨m,_⟩|⟨m,_⟩|⟨m,_⟩|⟨m,_⟩<;>exact no n (by decide) m
 ·exfalso;rcases ax with rfl|rfl<;>(rcases Q with ⟨m,_⟩|⟨m,_⟩|⟨m,_⟩|⟨m,_⟩|⟨m,_⟩|⟨m,_⟩|⟨m,_⟩<;>exact no n (by decide) m)
 ·exfalso;rcases Q with ⟨m,_⟩|⟨m,_⟩|⟨m,_⟩|⟨m,_⟩|⟨m,_⟩|⟨m,_⟩|⟨m,_⟩<;>(rw[m] at n;exact n rfl)
 ·-- var
  have S:Hs.ExOk fs false f d A/\f.length<=90000:=by
   rcases Q with ⟨_,D,t',v',r,K,_⟩|⟨m,_⟩|⟨m,_⟩|⟨m,_⟩|⟨m,_⟩|⟨m,_⟩|⟨m,_⟩
   ·rw[j] at r;simp at r;rw[r.2];exact⟨K,by omega⟩
   all_goals exact no n (by decide) m
  have E:=y9 fs f d a g.length t A n j;rw[E] at z ⊢
  simp only[cp_,ct_,cA_] at z;have hp:=L ⟨v1,[A],true⟩ (by simp)
  obtain⟨Z,C,rfl⟩:=hp.one'.form;have M:=J.kid (k:=A) (by rw[j];simp)
  refine(DS w cb g.length a.line p t.line (bs t.text) Z (.agg C) f.length (fun W=>OS fp fb (fs.map (·.text)) cb F w (g++(aI.begin a.line f::aF fs f d A (g.length+1)++[aI.declare f.length]).map some) (t.text::f) W) _
   (fun b W=>∃O,rF fp fb (fs.map (·.text)) cb F w O b (.cells #[Iv0 a.line,Iv0 t.line,.string (bs t.text),.iface Z (.agg C)] 178) f ((g++[some (.begin a.line f)])++(aF fs f d A (g.length+1)).map some) W)
   (fun b W=>∃O,rF fp fb (fs.map (·.text)) cb F w O b (.cells #[Iv0 a.line,Iv0 t.line,.string (bs t.text),.iface Z (.agg C)] 178) f ((g++[some (.begin a.line f)])++(aF fs f d A (g.length+1)).map some++[some (.declare f.length)]) W)
   V ab (aa (by omega)) (fun W s=>?_) (fun b W s=>?_) (fun b W s=>?_) (fun b W s=>?_) (fun b W s=>?_))
  ·refine((s.cpB _).exprk Y X ac _ A hp.one' S.1 M (by rw[B];omega)).mono ?_
   rintro e w' ⟨H,D⟩;rw[B] at D;exact⟨H,W,D⟩
  ·obtain⟨O,G,hG,q,_⟩:=s;exact RW q.1 af
  ·obtain⟨O,s⟩:=s;refine(s.emit (u:=.iface 309 (.agg #[Iv0 f.length])) (i:=some (.declare f.length)) (fun _=>rfl) (by simp;omega)).mono ?_
   rintro e w' ⟨H,D⟩;exact⟨⟨_,H⟩,O,D⟩
  ·obtain⟨O,s⟩:=s;exact⟨aA s.box rfl,aC s.box⟩
  ·obtain⟨O,G,hG,q,_⟩:=s;refine(YU t.text q.1 af).mono ?_;rintro e w' ⟨H,q1,q2⟩;refine⟨H,fun k=>G k\/k=W.heap.size,fun k r=>cl_ (hG k r),?_,q.2.trans q2⟩
   simpa using q1
 ·-- an assignment
  have S:a.text∈f/\∀k∈a.kids,Hs.ExOk fs false f d k:=by
   rcases Q with ⟨m,_⟩|⟨_,D,_,K⟩|⟨m,_⟩|⟨m,_⟩|⟨m,_⟩|⟨m,_⟩|⟨m,_⟩
   ·exact no n (by decide) m
   ·exact⟨D,K⟩
   all_goals exact no n (by decide) m
  have E:=z6 fs f d a g.length n;have ba:(l++[A]).length-1=l.length:=by simp
  rw[j,oQ,EA] at E;rw[ba] at E;rw[E] at z ⊢
  simp only[cp_,ct_,cA_] at z;have hp:=L ⟨sv,l,false⟩ (by simp)
  have I:=L ⟨v1,[A],true⟩ (by simp)
  obtain⟨Z,C,rfl⟩:=I.one'.form;obtain⟨x,c,rfl⟩:=hp.many.sliceC;have aw:=J.len;rw[j,cp_] at aw;generalize aq:bV (aF fs f d) l (g.length+1)=q1 at*;generalize al:aF fs f d A (g.length+1+q1.length)=q2 at*
  refine(IE w cb g.length a.line p (bs a.text) x l.length c (dU f a.text) Z (.agg C) (fun W=>OS fp fb (fs.map (·.text)) cb F w (g++(aI.begin a.line f::(q1++q2)++[aI.assign (dU f a.text) l.length]).map some) f W) _
   (fun b W=>∃O,rF fp fb (fs.map (·.text)) cb F w O b (.cells #[Iv0 a.line,.string (bs a.text),.slice x l.length c,.iface Z (.agg C)] 181) f ((g++[some (.begin a.line f)])++q1.map some) W)
   (fun b W=>∃O,rF fp fb (fs.map (·.text)) cb F w O b (.cells #[Iv0 a.line,.string (bs a.text),.slice x l.length c,.iface Z (.agg C)] 181) f ((g++[some (.begin a.line f)])++q1.map some++q2.map some) W)
   V ab (aa (by omega)) (fun W s=>?_) (fun b W s=>?_) (fun b W s=>?_) (fun b W s=>?_) (fun b W W' s hS=>?_) (fun b W W' s hS=>?_))
  ·refine((s.cpB _).exprsk Y X ac _ l hp.many (fun k r=>S.2 k (by rw[j];simp[r])) (fun k r=>J.kid (by rw[j];simp[r])) (by omega) (by rw[B,aq];omega)).mono ?_
   rintro e w' ⟨H,D⟩;rw[B,aq] at D;exact⟨H,W,D⟩
  ·obtain⟨O,s⟩:=s;exact⟨aA s.box rfl,aC s.box⟩
  ·obtain⟨O,s⟩:=s;have ai:((g++[some (aI.begin a.line f)])++q1.map some).length=g.length+1+q1.length:=by simp;omega
   refine(s.exprk Y X ac _ A I.one' (S.2 A (by rw[j];simp)) (J.kid (by rw[j];simp)) (by rw[ai,al];omega)).mono ?_
   rintro e w' ⟨H,D⟩;rw[ai,al] at D;exact⟨H,O,D⟩
  ·obtain⟨O,s⟩:=s;exact⟨aA s.box rfl,aA s.box rfl,aC s.box⟩
  ·obtain⟨O,G,hG,q,_⟩:=s;exact PT a.text (q.1.grow hS.below) S.1 af
  ·obtain⟨O,G,hG,q,hL⟩:=s;have ap:gX fp fb (fs.map (·.text)) cb G w ((g++[some (.begin a.line f)])++q1.map some++q2.map some) f W':=⟨q.1.grow hS.below,q.2.trans (FB.of_lt hS.below q.1.lt)⟩
   refine(emits (i:=.assign (dU f a.text) l.length) ap rfl (by simp;omega)).mono ?_
   rintro e w' ⟨H,D⟩;refine⟨H,G,hG,?_⟩;have e9:g++(aI.begin a.line f::(q1++q2)++[aI.assign (dU f a.text) l.length]).map some=(g++[some (.begin a.line f)])++q1.map some++q2.map some++[some (.assign (dU f a.text) l.length)]:=by simp
   rw[e9];exact D
 ·-- if,without else
  have S:Hs.ExOk fs false f d A/\Hs.StsOk (dM fs d) f N.kids:=by
   rcases Q with ⟨m,_⟩|⟨m,_⟩|⟨_,c',t',r,K,h4⟩|⟨m,_⟩|⟨m,_⟩|⟨m,_⟩|⟨m,_⟩
   rotate_left 2
   ·rcases r with r|⟨x,r,_⟩
    ·rw[j] at r;simp at r;rw[r.1,r.2];exact⟨K,h4⟩
    ·rw[j] at r;simp at r
   all_goals exact no n (by decide) m
  have E:=z8 fs f d a g.length A N n j;rw[E] at z ⊢
  have I:=L ⟨v1,[A],true⟩ (by simp)
  have ad:=L ⟨s1,N.kids,false⟩ (by simp)
  have M:=J.kid (k:=A) (by rw[j];simp)
  have ae:=J.kid (k:=N) (by rw[j];simp)
  obtain⟨Z,C,rfl⟩:=I.one'.form;obtain⟨x,c,rfl⟩:=ad.many.sliceC;generalize ag:aF fs f d A (g.length+1)=P at*;generalize ah:bL (aX fs d) f N.kids (g.length+1+P.length+1)=U at*;simp only[cp_,ct_,cA_] at z;refine KE w cb g.length a.line p Z (.agg C) x none N.kids.length 0 c 0 _ _ V ab (aa (by omega)) (fun W s=>?_)
  obtain⟨G,hG,q,_⟩:=s.cpB (.cells #[Iv0 a.line,.iface Z (.agg C),.slice x N.kids.length c,bF] 185);refine(AG (d:=d) IH Y X ac a.line _ _ _ A N.kids [] _ _ q.1 (I.one'.below q.2.bel) (ad.many.below q.2.bel) (cl_ ⟨rfl,rfl⟩) S.1 S.2 trivial M (fun k r=>ae.kid r) (fun k r=>by simp at r) ae.len (by simp) P U [] (by rw[B];exact ag) (by rw[B];exact ah) rfl (by rw[B];simp;omega)).mono ?_
  rintro e w' ⟨H,D⟩;refine⟨H,?_⟩;have K:=(D.then q.2).more hG
  rw[B] at K;have e9:(g++[some (aI.begin a.line f)])++(P++[aI.skip (g.length+1+P.length+1+U.length+1)]++U++[aI.jump (g.length+1+P.length+1+U.length+1+([]:List aI).length)]++[]).map some=g++(aI.begin a.line f::P++[aI.skip (g.length+1+P.length+1+U.length+1)]++U++[aI.jump (g.length+1+P.length+1+U.length+1)]).map some:=by simp
  rw[e9] at K;exact K
 ·-- if,with else
  have S:Hs.ExOk fs false f d A/\Hs.StsOk (dM fs d) f N.kids/\Hs.StsOk (dM fs d) f b2.kids:=by
   rcases Q with ⟨m,_⟩|⟨m,_⟩|⟨_,c',t',r,K,h4⟩|⟨m,_⟩|⟨m,_⟩|⟨m,_⟩|⟨m,_⟩
   rotate_left 2
   ·rcases r with r|⟨x,r,h5⟩
    ·rw[j] at r;simp at r
    ·rw[j] at r;simp at r;rw[r.1,r.2.1,r.2.2];exact⟨K,h4,h5⟩
   all_goals exact no n (by decide) m
  have E:=z7 fs f d a g.length A N b2 n j;rw[E] at z ⊢
  have I:=L ⟨v1,[A],true⟩ (by simp)
  have ad:=L ⟨s1,N.kids,false⟩ (by simp)
  have ak:=L ⟨s2,b2.kids,false⟩ (by simp)
  have M:=J.kid (k:=A) (by rw[j];simp)
  have ae:=J.kid (k:=N) (by rw[j];simp)
  have am:=J.kid (k:=b2) (by rw[j];simp)
  obtain⟨Z,C,rfl⟩:=I.one'.form;obtain⟨x,c,rfl⟩:=ad.many.sliceC;obtain⟨x2,ao,rfl⟩:=ak.many.sliceC;generalize ag:aF fs f d A (g.length+1)=P at*;generalize ah:bL (aX fs d) f N.kids (g.length+1+P.length+1)=U at*;generalize bb:bL (aX fs d) f b2.kids (g.length+1+P.length+1+U.length+1)=ce at*;simp only[cp_,ct_,cA_] at z;refine KE w cb g.length a.line p Z (.agg C) x x2 N.kids.length b2.kids.length c ao _ _ V ab (aa (by omega)) (fun W s=>?_)
  obtain⟨G,hG,q,_⟩:=s.cpB (.cells #[Iv0 a.line,.iface Z (.agg C),.slice x N.kids.length c,.slice x2 b2.kids.length ao] 185);refine(AG (d:=d) IH Y X ac a.line _ _ _ A N.kids b2.kids _ _ q.1 (I.one'.below q.2.bel) (ad.many.below q.2.bel) (ak.many.below q.2.bel) S.1 S.2.1 S.2.2 M (fun k r=>ae.kid r) (fun k r=>am.kid r) ae.len am.len P U ce (by rw[B];exact ag) (by rw[B];exact ah) (by rw[B];exact bb) (by rw[B];omega)).mono ?_
  rintro e w' ⟨H,D⟩;refine⟨H,?_⟩;have K:=(D.then q.2).more hG
  rw[B] at K;have e9:(g++[some (aI.begin a.line f)])++(P++[aI.skip (g.length+1+P.length+1+U.length+1)]++U++[aI.jump (g.length+1+P.length+1+U.length+1+ce.length)]++ce).map some=g++(aI.begin a.line f::P++[aI.skip (g.length+1+P.length+1+U.length+1)]++U++[aI.jump (g.length+1+P.length+1+U.length+1+ce.length)]++ce).map some:=by simp
  rw[e9] at K;exact K
 ·-- while
  have S:Hs.ExOk fs false f d A/\Hs.StsOk (dM fs d) f N.kids:=by
   rcases Q with ⟨m,_⟩|⟨m,_⟩|⟨m,_⟩|⟨_,c',t',r,K,h4⟩|⟨m,_⟩|⟨m,_⟩|⟨m,_⟩
   rotate_left 3
   ·rw[j] at r;simp at r;rw[r.1,r.2];exact⟨K,h4⟩
   all_goals exact no n (by decide) m
  have E:=B8 fs f d a g.length A N n j;rw[E] at z ⊢
  have I:=L ⟨v1,[A],true⟩ (by simp)
  have ad:=L ⟨s1,N.kids,false⟩ (by simp)
  have M:=J.kid (k:=A) (by rw[j];simp)
  have ae:=J.kid (k:=N) (by rw[j];simp)
  obtain⟨Z,C,rfl⟩:=I.one'.form;obtain⟨x,c,rfl⟩:=ad.many.sliceC;generalize ag:aF fs f d A (g.length+1)=P at*;generalize ah:bL (aX fs d) f N.kids (g.length+1+P.length+1)=U at*;simp only[cp_,ct_,cA_] at z;refine MC w cb g.length a.line p Z (.agg C) x N.kids.length c _ _ V ab (aa (by omega)) (fun W s=>?_)
  obtain⟨G,hG,q,_⟩:=s.cpB (.cells #[Iv0 a.line,.iface Z (.agg C),.slice x N.kids.length c] 187);refine(N6 (d:=d) IH Y X ac a.line g.length _ _ A N.kids _ _ q.1 (I.one'.below q.2.bel) (ad.many.below q.2.bel) S.1 S.2 M (fun k r=>ae.kid r) ae.len P U (by rw[B];exact ag) (by rw[B];exact ah) (by rw[B];omega)).mono ?_
  rintro e w' ⟨H,D⟩;refine⟨H,?_⟩;have K:=(D.then q.2).more hG
  rw[B] at K;have e9:(g++[some (aI.begin a.line f)])++(P++[aI.skip (g.length+1+P.length+1+U.length+1)]++U++[aI.jump g.length]).map some=g++(aI.begin a.line f::P++[aI.skip (g.length+1+P.length+1+U.length+1)]++U++[aI.jump g.length]).map some:=by simp
  rw[e9] at K;exact K
 ·-- return,without a value
  have E:=PO fs f d a g.length n j;rw[E] at z ⊢
  simp only[ct_,cA_] at z;refine tU w cb g.length a.line p _ _ _ _ (fun W=>OS fp fb (fs.map (·.text)) cb F w ((g++[some (aI.begin a.line f)])++[some (.push (bG 0))]) f W) V ab (aa (by omega)) (fun W s=>?_) (fun W s=>?_)
  ·obtain⟨G,hG,q,_⟩:=s.cpB (.cells #[Iv0 a.line,.iface 243 (.agg #[Iv0 l,Iv0 0])] 189);obtain⟨G2,ay,ar,_⟩:=q.cpB (.cells #[Iv0 l,Iv0 0] 243);refine(tX _ cb l 0 _ (emits (i:=.push (bG 0)) ar ⟨_,rfl,PV.num _ _ _ (by omega) (by omega),by rw[lB];omega⟩ (by simp;omega))).mono ?_
   rintro e w' ⟨H,D⟩;exact⟨H,G2,fun k r=>ay k (hG k r),D⟩
  ·obtain⟨G,hG,q⟩:=s;refine(emits (i:=.give) q rfl (by simp;omega)).mono ?_
   rintro e w' ⟨H,D⟩;refine⟨H,G,hG,?_⟩;have e9:g++([aI.begin a.line f,.push (bG 0),.give]).map some=(g++[some (aI.begin a.line f)])++[some (.push (bG 0))]++[some .give]:=by simp
   rw[e9];exact D
 ·-- return
  have S:Hs.ExOk fs false f d A:=by
   rcases Q with ⟨m,_⟩|⟨m,_⟩|⟨m,_⟩|⟨m,_⟩|⟨_,r⟩|⟨m,_⟩|⟨m,_⟩
   rotate_left 4
   ·rcases r with r|⟨v',r,K⟩
    ·rw[j] at r;simp at r
    ·rw[j] at r;simp at r;rw[r];exact K
   all_goals exact no n (by decide) m
  have E:=PM fs f d a g.length A n j;rw[E] at z ⊢
  have I:=L ⟨v1,[A],true⟩ (by simp)
  have M:=J.kid (k:=A) (by rw[j];simp)
  obtain⟨Z,C,rfl⟩:=I.one'.form;simp only[cp_,ct_,cA_] at z;refine tU w cb g.length a.line p _ _ _ _ (fun W=>∃O,rF fp fb (fs.map (·.text)) cb F w O O.heap.size (.cells #[Iv0 a.line,.iface Z (.agg C)] 189) f ((g++[some (aI.begin a.line f)])++(aF fs f d A (g.length+1)).map some) W) V ab (aa (by omega)) (fun W s=>?_) (fun W s=>?_)
  ·refine((s.cpB _).exprk Y X ac _ A I.one' S M (by rw[B];omega)).mono ?_
   rintro e w' ⟨H,D⟩;rw[B] at D;exact⟨H,W,D⟩
  ·obtain⟨O,s⟩:=s;refine(s.emit (u:=.iface 231 (.agg #[])) (i:=some .give) (fun _=>rfl) (by simp;omega)).mono ?_
   rintro e w' ⟨H,D⟩;refine⟨⟨_,H⟩,?_⟩;have e9:g++(aI.begin a.line f::aF fs f d A (g.length+1)++[aI.give]).map some=(g++[some (aI.begin a.line f)])++(aF fs f d A (g.length+1)).map some++[some .give]:=by simp
   rw[e9];exact D.fin
 ·-- print
  have S:Hs.ExOk fs false f d A:=by
   rcases Q with ⟨m,_⟩|⟨m,_⟩|⟨m,_⟩|⟨m,_⟩|⟨m,_⟩|⟨_,v',r,K⟩|⟨m,_⟩
   rotate_left 5
   ·rw[j] at r;simp at r;rw[r];exact K
   all_goals exact no n (by decide) m
  have E:=B9 fs f d a g.length A n j;rw[E] at z ⊢
  have I:=L ⟨v1,[A],true⟩ (by simp)
  have M:=J.kid (k:=A) (by rw[j];simp)
  obtain⟨Z,C,rfl⟩:=I.one'.form;simp only[cp_,ct_,cA_] at z;refine MD w cb g.length a.line p _ _ _ _ (fun W=>∃O,rF fp fb (fs.map (·.text)) cb F w O O.heap.size (.cells #[Iv0 a.line,.iface Z (.agg C)] 190) f ((g++[some (aI.begin a.line f)])++(aF fs f d A (g.length+1)).map some) W) V ab (aa (by omega)) (fun W s=>?_) (fun W s=>?_)
  ·refine((s.cpB _).exprk Y X ac _ A I.one' S M (by rw[B];omega)).mono ?_
   rintro e w' ⟨H,D⟩;rw[B] at D;exact⟨H,W,D⟩
  ·obtain⟨O,s⟩:=s;refine(s.emit (u:=.iface 314 (.agg #[])) (i:=some .print) (fun _=>rfl) (by simp;omega)).mono ?_
   rintro e w' ⟨H,D⟩;refine⟨⟨_,H⟩,?_⟩;have e9:g++(aI.begin a.line f::aF fs f d A (g.length+1)++[aI.print]).map some=(g++[some (aI.begin a.line f)])++(aF fs f d A (g.length+1)).map some++[some .print]:=by simp
   rw[e9];exact D.fin
 ·-- a call alone
  have S:Hs.ExOk fs false f d c:=by
   rcases Q with ⟨m,_⟩|⟨m,_⟩|⟨m,_⟩|⟨m,_⟩|⟨m,_⟩|⟨m,_⟩|⟨_,v',r,K⟩
   rotate_left 6
   ·rw[j] at r;simp at r;rw[r];exact K
   all_goals exact no n (by decide) m
  have E:=bu_ fs f d a g.length c n j;rw[E] at z ⊢
  rw[<-av];have hp:=L ⟨sv,c.kids,false⟩ (by simp)
  have M:=J.kid (k:=c) (by rw[j];simp)
  obtain⟨x,cp,rfl⟩:=hp.many.sliceC;simp only[cp_,ct_,cA_] at z;refine PK w cb g.length a.line p _ _ _ _ _ _ (fun W=>OS fp fb (fs.map (·.text)) cb F w ((g++[some (aI.begin a.line f)])++(aF fs f d c (g.length+1)).map some) f W) V ab (aa (by omega)) (fun W s=>?_) (fun W s=>?_)
  ·cases d with
   |zero=>exact S.elim
   |succ d=>
    obtain⟨G,hG,q,_⟩:=s.cpB (.cells #[Iv0 a.line,.string (bs c.text),.slice x c.kids.length cp] 192);refine(O5 (pU (by omega) Y X d) Y X c _ a.line _ _ q.1 aj (hp.many.below q.2.bel) S (M _) (by rw[B];omega)).mono ?_
    rintro e w' ⟨H,D⟩;rw[B] at D;exact⟨H,G,hG,D.then q.2⟩
  ·obtain⟨G,hG,q⟩:=s;refine(emits (i:=.drop) q rfl (by simp;omega)).mono ?_
   rintro e w' ⟨H,D⟩;refine⟨H,G,hG,?_⟩;have e9:g++(aI.begin a.line f::aF fs f d c (g.length+1)++[aI.drop]).map some=(g++[some (aI.begin a.line f)])++(aF fs f d c (g.length+1)).map some++[some .drop]:=by simp
   rw[e9];exact D
def ZK(a:fs.length<=1000000)(b:∀k,k<fs.length->fp k=bH (fb k)):∀d,TU fp fb fs cb lo d
 |0=>fun _ _ _ _ _ _ _ _ h=>h.elim
 |d+1=>i8 (ZK a b d) a b
end
def O8(w:aG)(cb:Nat)(l:Int)(tx:ByteArray)(s g:Option Addr)(b H p r:Nat)(P:Value->World->Prop)(I:Nat->World->Prop)(Q R S:World->Prop)(hl:cb<w.heap.size)(T:b<=1000000)
 (c1:∃u,w.cell? (aH cb 1)=some u) (v:∃u,w.cell? (aH cb 2)=some u) (X:w.frozen? (aH cb 1)=false) (f2:w.frozen? (aH cb 2)=false)
 (K:Hid (I 0 (((w.setCell (aH cb 1) (bF)).setCell (aH cb 2) (.pointer none)).alloc (.cells #[Iv0 l,.string tx,.slice s b H,.slice g p r] 159))))
 (Z:Hid (∀j W,I j W->j<b->∃f C o,s=some (aH f 0)/\f<W.heap.size/\W.cell? (aH f (j*2))=some (Iv0 C)/\W.cell? (aH f (j*2+1))=some (.string o)/\Calls prog 115 #[bH cb,.string o] (W.alloc (.cells #[Iv0 C,.string o] 155)) fun e d=>e=aZ (.tuple #[])/\I (j+1) d))
 (Y:Hid (∀W,I b W->W.cell? (aH w.heap.size 3)=some (.slice g p r)/\w.heap.size<W.heap.size/\Calls prog 116 #[bH cb,.slice g p r] W fun e d=>e=aZ (.tuple #[])/\Q d))
 (HE:Hid (∀W,Q W->Calls prog 117 #[bH cb,.iface 229 (.agg #[.iface 209 (Iv0 0)])] W fun e d=>(∃k:Nat,e=aZ (Iv0 k))/\R d))
 (V:Hid (∀W,R W->Calls prog 117 #[bH cb,.iface 231 (.agg #[])] W fun e d=>(∃k:Nat,e=aZ (Iv0 k))/\S d))
 (HS:Hid (∀W,S W->cb<W.heap.size/\∃x n c,W.cell? (aH cb 1)=some (.slice x n c)/\P (.slice x n c) W)):
 Calls prog 81 #[bH cb,.agg #[Iv0 l,.string tx,.slice s b H,.slice g p r]] w fun e d=>∃E,e=aZ E/\P E d:=by
 obtain⟨u1,c1⟩:=c1;obtain⟨u2,v⟩:=v;have O:¬cb=w.heap.size:=by omega
 have J:¬w.heap.size=cb:=by omega
 go_in
 go_wp2_with fail;go_loopg [6,16] b (fun gk _ i wr=>∃j:Nat,j+gk=b/\i=Iv0 j/\I j wr)
 case atStart=>exact⟨0,by omega,rfl,K⟩
 case round=>
  obtain⟨j,hj,rfl,h⟩:=hrel;clear c1 v X f2 K;by_cases t:j<b
  ·obtain⟨m,rfl⟩:∃m,gk=m+1:=⟨gk-1,by omega⟩
   obtain⟨f,C,o,rfl,hg,F,N,a⟩:=Z _ _ h t;have B:=aB a;have e1:(0:Int)<=(j:Int):=by omega
   have e2:(j:Int)<(b:Int):=by omega
   clear h a;go_wp2_with fail;refine B.mono ?_;rintro e M ⟨rfl,q⟩;go_wp2
   go_roundg m
   case measure=>omega
   case rel=>exact⟨j+1,by omega,by go_num,q⟩
  ·have y:j=b:=by omega
   subst y;obtain⟨F,N,a⟩:=Y _ h;have B:=aB a;clear h a;go_wp2_with fail;refine B.mono ?_;rintro e M ⟨rfl,q⟩;have A:=aB (HE _ q);clear q F;go_wp2_with fail;refine A.mono ?_;rintro e w2 ⟨⟨k,rfl⟩,D⟩;have z:=aB (V _ D);clear D;go_wp2_with fail;refine z.mono ?_;rintro e w3 ⟨⟨k2,rfl⟩,G⟩;obtain⟨g1,x,n,c,g2,L⟩:=HS _ G;have U:=aB L;clear G L;go_wp2
   go_ret;exact⟨_,rfl,U⟩
def aK_:(prog.info? 101).map (fun i=>(i.zero,i.size,i.bytes))=some (some (.pointer none),1,8):=by kernel_rfl
def OA(w:aG)(p n ad:Nat)(P:Value->World->Prop)(H:Nat->World->Prop)(K:Nat->World->Prop)(hn:n<=1000000)
 (H0:Hid (H 0 (w.alloc (.cells #[bF,bF,.pointer none] 167))))
 (Y:Hid (∀j W,H j W->j<n->w.heap.size<W.heap.size/\p<W.heap.size/\∃l t z s r q y h x c M O L,W.cell? (aH p (j*4))=some (Iv0 l)/\W.cell? (aH p (j*4+1))=some (.string t)/\W.cell? (aH p (j*4+1+1))=some (.slice z s r)/\W.cell? (aH p (j*4+1+1+1))=some (.slice q y h)/\
   W.heap[w.heap.size]?=some (.cells #[.slice x j c,O,L] 167 (0,0))/\W.ownsRow (w.heap.size+1) 101 1 (.slice x j c) j M/\
   ∀W3 F d D,W3=((W.alloc (.cells #[Iv0 l,.string t,.slice z s r,.slice q y h] 159)).alloc (.cells #[.string t,bF] 136)).alloc (.cells #[bH (W.heap.size+1)] 101)->
    D.ownsRow (w.heap.size+1) 101 1 (.slice (some (aH F 0)) (j+1) d) (j+1) (M++[bH (W.heap.size+1)])->W3.grownBy D (Value.slice x j c).ownBlock->((Value.slice x j c).ownBlock=some F\/F=W.heap.size+3)->D.heap[w.heap.size]?=some (.cells #[.slice x j c,O,L] 167 (0,0))->H (j+1) (D.setCell (aH w.heap.size 0) (.slice (some (aH F 0)) (j+1) d))))
 (I:Hid (∀W,H n W->K 0 W))
 (H2:Hid (∀j W,K j W->j<n->w.heap.size<W.heap.size/\p<W.heap.size/\∃l t z s r q y h g c fb,W.cell? (aH p (j*4))=some (Iv0 l)/\W.cell? (aH p (j*4+1))=some (.string t)/\W.cell? (aH p (j*4+1+1))=some (.slice z s r)/\W.cell? (aH p (j*4+1+1+1))=some (.slice q y h)/\
   W.cell? (aH w.heap.size 0)=some (.slice (some (aH g 0)) n c)/\g<W.heap.size/\W.cell? (aH g j)=some (bH fb)/\
   ∀W',aV (W.alloc (.cells #[Iv0 l,.string t,.slice z s r,.slice q y h] 159)) W'->Calls prog 81 #[bH w.heap.size,.agg #[Iv0 l,.string t,.slice z s r,.slice q y h]] W' fun e f=>∃x n3 c3,e=aZ (.slice x n3 c3)/\
    w.heap.size<f.heap.size/\(∃Q h,f.cell? (aH w.heap.size 0)=some (.slice (some (aH Q 0)) n h)/\Q<f.heap.size/\f.cell? (aH Q j)=some (bH fb))/\g<f.heap.size/\f.cell? (aH g j)=some (bH fb)/\fb<f.heap.size/\(∃u,f.cell? (aH fb 1)=some u)/\f.frozen? (aH fb 1)=false/\K (j+1) (f.setCell (aH fb 1) (.slice x n3 c3))))
 (H3:Hid (∀W,K n W->Calls prog 82 #[bH w.heap.size,.string ⟨#[109,97,105,110]⟩] W fun e f=>∃v,e=aZ (.pointer v)/\P (.pointer v) f)):
 Calls prog 49 #[.slice (some (aH p 0)) n ad] w fun e f=>∃v,e=aZ v/\P v f:=by
 obtain⟨i0,hi,aa,ae,ab⟩:=info_parts aK_;go_in
 go_wp2_with fail;go_loopg [5,10] n (fun gk _ i wr=>∃j:Nat,j+gk=n/\i=Iv0 j/\H j wr)
 case atStart=>exact⟨0,by omega,rfl,H0⟩
 case round=>
  obtain⟨j,hj,rfl,A⟩:=hrel;clear H0;by_cases E:j<n
  ·obtain⟨m,rfl⟩:∃m,gk=m+1:=⟨gk-1,by omega⟩
   obtain⟨G,Z,l,t,z,s,r,q,y,h,x,c,M,O,L,d1,d2,d3,d4,N,V,U⟩:=Y _ _ A E;have HO:=aB V;have HB:=aB N;have HK:=aB U;have q0:wr.cell? (aH w.heap.size 0)=some (.slice x j c):=aA N rfl;have e1:(0:Int)<=(j:Int):=by omega
   have e2:(j:Int)<(n:Int):=by omega
   clear A N V U Y;have HN:Hid (∀W:aG,W.heap[wr.heap.size+1+1]?=some (.cells #[bH (wr.heap.size+1)] 101 (0,0))->∀k v,([bH (wr.heap.size+1)]:List Value)[k]?=some v->W.cell? ((⟨wr.heap.size+1+1,0,none⟩:Addr).add k)=some v):=fun W hW k v hk=>World.news_of_block hW k v (by simpa using hk)
   have HL:Hid ((((wr.alloc (.cells #[Iv0 l,.string t,.slice z s r,.slice q y h] 159)).alloc (.cells #[.string t,bF] 136)).alloc (.cells #[bH (wr.heap.size+1)] 101)).heap[wr.heap.size+1+1]?=some (.cells #[bH (wr.heap.size+1)] 101 (0,0))):=aO _ _ (by simp) _
   have B:∀v∈([bH (wr.heap.size+1)]:List Value),v.oneCell'=true:=fun v hv=>by simp at hv;rw[hv];rfl
   have HONE:=aB B;clear B;go_wp2_with (at_builtin;refine wpList_append_lies _ (by rfl) _ _ 165 (by rfl) (w.heap.size+1) 101 i0 _ 1 8 underlying165 hi aa ae ab rfl (by decide) (.slice x j c) j M (by rfl) (((HO.alloc _).alloc _).alloc _) (aH (wr.heap.size+1+1) 0) 1 1 [_] (by rfl) (by rfl) (HN _ HL) HONE (by decide) (by unfold maxLen;omega) (by omega) (by simp;omega) (wr.heap.size+3) (by simp) ?_)
   intro F d D o b C ac;have T:some w.heap.size≠(Value.slice x j c).ownBlock:=fun e=>by have:=(HO.lt _ e.symm).1;omega
   have a:D.heap[w.heap.size]?=some (.cells #[.slice x j c,O,L] 167 (0,0)):=by
    rw[b.block _ (by simp;omega) T,cq_ _ _ _ (by simp;omega),cq_ _ _ _ (by simp;omega),cq_ _ _ _ G];exact HB
   have ag:D.cell? (aH w.heap.size 0)=some (.slice x j c):=aA a rfl;have ai:=aD a (i:=0);have af:=aC a;have HFIN:=aB (HK _ F d D rfl o b C a);clear o b C a ac q0 d1 d2 d3 d4;go_wp2
   go_roundg m
   case measure=>omega
   case rel=>exact⟨j+1,by omega,by go_num,HFIN⟩
  ·have X:j=n:=by omega
   subst X;have J:=aB (I _ A);clear A I Y;go_wp2_with fail;go_loopg [6,7,27] j (fun gk _ _ i wr=>∃k:Nat,k+gk=j/\i=Iv0 k/\K k wr)
   case atStart=>exact⟨0,by omega,rfl,J⟩
   case round=>
    obtain⟨k,aj,rfl,A⟩:=hrel;clear J;by_cases E:k<j
    ·obtain⟨m,rfl⟩:∃m,gk=m+1:=⟨gk-1,by omega⟩
     obtain⟨G,Z,l,t,z,s,r,q,y,h,g,c,fb,d1,d2,d3,d4,N,V,U,d8⟩:=H2 _ _ A E;have HX:=aB (d8 _ (aV.drew _));have e1:(0:Int)<=(k:Int):=by omega
     have e2:(k:Int)<(j:Int):=by omega
     clear A d8 H2 H3;go_wp2_with fail;go_region_law (go_simp;go_at_call 81;refine HX.mono ?_;rintro e w1 ⟨x,n3,c3,rfl,a1,⟨Q,ah,b1,b2,b3⟩,a3,a4,a5,⟨u,a6⟩,a7,a8⟩;have HF:=aB a8;clear a8)
     all_goals
      go_wp2
      go_roundg m
      case measure=>omega
      case rel=>exact⟨k+1,by omega,by go_num,HF⟩
    ·have S:k=j:=by omega
     subst S;have HX:=aB (H3 _ A);clear A H2 H3;go_wp2_with fail;refine HX.mono ?_;rintro e w1 ⟨v,rfl,h1⟩;have HF:=aB h1;clear h1;go_wp2
     go_ret;exact⟨_,rfl,HF⟩
section
variable {fp:eQ} {fb:Nat->Nat} {fs:List aE} {cb lo d:Nat} {F:bX}
def CQ(fp:eQ)(fb:Nat->Nat)(nms:cN)(cb:Nat)(F:bX)(w:aG):Prop:=
 (∃fv cv sp,w.heap[cb]?=some (.cells #[fv,cv,sp] 167 (0,0))/\LM fp fb nms F w fv)/\∀k,F k->k<w.heap.size/\k≠cb
def LA(fs:List aE)(d:Nat){f b:aE}{ps:List aE}(a:f.kids=ps++[b]):(fP fs d f).code=bL (aX fs d) (ps.map (·.text)).reverse b.kids 0++[.push (bG 0),.give]:=by simp[fP,a]
def l7(ak:fs.length<=1000000)(ah:∀k,k<fs.length->fp k=bH (fb k)){w:aG}(h:CQ fp fb (fs.map (·.text)) cb F w)(f:aE)(v:aQ)(hv:CA (Btw lo cb) w v f)(ae:jG fs d f)(Y:∀k∈f.kids,nB k)(aa:f.kids.length<=90000):
 Calls prog 81 #[bH cb,v] w fun e r=>∃cv,e=aZ cv/\∃G q,(∀k,F k->G k)/\CP fp fb (fs.map (·.text)) cb G r ((fP fs d f).code.map some) q/\r.cell? (aH cb 1)=some cv/\Below cb w r/\∀k,F k->r.heap[k]?=w.heap[k]?:=by
 obtain⟨⟨fv,ao,aw,n,X⟩,u⟩:=h;obtain⟨pv,bv,ps,b,rfl,m,V,ap,ac⟩:=hv;obtain⟨px,pc,rfl⟩:=V.slice;obtain⟨bx,bc,rfl⟩:=ac.sliceC;obtain⟨⟨g,t,O,af,_⟩,E⟩:=ae
 obtain⟨rfl,ad⟩:g=ps/\t=b:=by
  rw[m] at O;have:=db_ O rfl;simp at this;exact⟨this.1.symm,this.2.symm⟩
 subst ad;rw[LA fs d m] at E ⊢
 simp only[cp_,ct_,cA_] at E;rw[m] at aa;simp only[cp_,ct_,cA_] at aa;have Z:=aC n;obtain⟨s,z⟩:∃s,s=(w.setCell (aH cb 1) (bF)).setCell (aH cb 2) (.pointer none):=⟨_,rfl⟩;have J:Below cb w s:=by rw[z];exact((co_ cb w).setCell cL _).setCell cL _
 have Q:s.heap.size=w.heap.size:=by rw[z];simp
 have U:∀k,k≠cb->s.heap[k]?=w.heap[k]?:=fun k m=>by rw[z,cm_ _ _ _ _ m,cm_ _ _ _ _ m]
 have P:∀k,F k->s.heap[k]?=w.heap[k]?:=fun k m=>U k (u k m).2
 have y:s.heap[cb]?=some (.cells #[fv,bF,.pointer none] 167 (0,0)):=by
  rw[z,aK (aK n)];rfl
 have H:CP fp fb (fs.map (·.text)) cb F s [] []:=by
  refine⟨⟨fv,_,_,y,⟨[],World.ownsRow_nil _ _ _ _,rfl,fun i o ho=>by simp at ho⟩,rfl,X.keep P dX (by omega)⟩,fun k m=>⟨by rw[Q];exact(u k m).1,(u k m).2,?_⟩⟩
  rw[jD y];simp[Value.ownBlock]
 obtain⟨T,ab⟩:=H.new (.cells #[Iv0 f.line,.string (bs f.text),.slice px g.length pc,.slice bx t.kids.length bc] 159);rw[Q] at T
 refine(O8 w cb f.line (bs f.text) px bx g.length pc t.kids.length bc (fun cv r=>∃G q,(∀k,F k->G k)/\CP fp fb (fs.map (·.text)) cb G r ((bL (aX fs d) (g.map fun a=>a.text).reverse t.kids 0++[aI.push (bG 0),aI.give]).map some) q/\r.cell? (aH cb 1)=some cv/\Below cb w r/\∀k,F k->r.heap[k]?=w.heap[k]?)
  (fun j W=>∃G,(∀k,F k->G k)/\CP fp fb (fs.map (·.text)) cb G W [] ((g.take j).map fun a=>a.text).reverse/\Loc cb cb s w.heap.size (.cells #[Iv0 f.line,.string (bs f.text),.slice px g.length pc,.slice bx t.kids.length bc] 159) W)
  (fun W=>∃G q,(∀k,F k->G k)/\gX fp fb (fs.map (·.text)) cb G s ((bL (aX fs d) (g.map fun a=>a.text).reverse t.kids 0).map some) q W)
  (fun W=>∃G q,(∀k,F k->G k)/\gX fp fb (fs.map (·.text)) cb G s ((bL (aX fs d) (g.map fun a=>a.text).reverse t.kids 0).map some++[some (aI.push (bG 0))]) q W)
  (fun W=>∃G q,(∀k,F k->G k)/\gX fp fb (fs.map (·.text)) cb G s ((bL (aX fs d) (g.map fun a=>a.text).reverse t.kids 0).map some++[some (aI.push (bG 0))]++[some aI.give]) q W)
  Z (by omega) ⟨_,aA n rfl⟩ ⟨_,aA n rfl⟩ (aD n) (aD n) ?_ (fun j W D hj=>?_) (fun W D=>?_) (fun W D=>?_) (fun W D=>?_) (fun W D=>?_))
 ·show ∃G,_
  rw[<-z];exact⟨F,fun _ h=>h,ab,T⟩
 ·obtain⟨G,C,B,K⟩:=D;rcases V.get with ⟨_,S⟩|⟨pg,an,am,M,au,av,I⟩
  ·rw[S] at hj;simp at hj
  cases am;obtain⟨al,aj⟩:=I j hj;have A:Below cb w W:=J.trans K.fb.bel;refine⟨pg,_,_,rfl,cn_ (Nat.lt_trans M.2 Z) A.size,(A.cell (p:=(aH pg (j*2))) M.2).trans al,(A.cell (p:=(aH pg (j*2+1))) M.2).trans aj,?_⟩;obtain⟨ai,N⟩:=B.new (.cells #[Iv0 g[j].line,.string (bs g[j].text)] 155);refine(YU g[j].text N (by simp;omega)).mono ?_
  rintro e r ⟨L,q1,q2⟩;refine⟨L,fun k=>G k\/k=(W.alloc (.cells #[Iv0 g[j].line,.string (bs g[j].text)] 155)).heap.size,fun k m=>cl_ (C k m),?_,K.step (ai.fb.trans q2)⟩
  have e9:((g.take (j+1)).map (·.text)).reverse=g[j].text::((g.take j).map (·.text)).reverse:=by
   rw[cK_ hj,cZ_,List.reverse_append];rfl
  rw[e9];exact q1
 ·obtain⟨G,C,B,K⟩:=D;rw[cS_ cL] at B;have A:Below cb w W:=J.trans K.fb.bel;refine⟨aA K.blk rfl,aC K.blk,?_⟩;refine(qZ (ZK ak ah d) _ t.kids [] W B (ac.below A) af (fun a ha=>(Y t (by rw[m];simp)).kid ha) (Y t (by rw[m];simp)).len (by simp;omega) (by simp;omega)).mono ?_
  rintro e r ⟨L,G2,ag,l⟩;exact⟨L,G2,_,fun k m=>ag k (C k m),by simpa using l.then K.fb⟩
 ·obtain⟨G,q,C,l⟩:=D;refine(emits (i:=.push (bG 0)) l ⟨_,rfl,PV.num _ _ _ (by omega) (by omega),by rw[lB];omega⟩ (by simp;omega)).mono ?_
  rintro e r ⟨L,h2⟩;exact⟨L,G,q,C,h2⟩
 ·obtain⟨G,q,C,l⟩:=D;refine(emits (i:=.give) l rfl (by simp;omega)).mono ?_
  rintro e r ⟨L,h2⟩;exact⟨L,G,q,C,h2⟩
 ·obtain⟨G,q,C,l⟩:=D;obtain⟨ar,aq,ax,g1,⟨xs,g2,g3⟩,g4,g5⟩:=l.1.blk;obtain⟨x,c,rfl⟩:=dE g2;refine⟨l.1.lt,x,_,c,aA g1 rfl,G,q,C,?_,aA g1 rfl,J.trans l.2.bel,fun k m=>?_⟩
  ·have:=l.1;simpa using this
  ·rw[H.fixed l.2 k m,P k m]
end
def n9(w:aG)(b:Nat):Prop:=∀c,w.heap[b]?≠some (.cells c 136 (0,0))
def eF.notFn{F:bX}{w:aG}:∀{l:cN} {v:aQ},eF F w v l->eF (fun b=>F b/\n9 w b) w v l
 |[],_,h=>h
 |_::_,_,⟨b,o,g,d,a,f⟩=>⟨b,o,g,⟨d,fun c e=>by rw[a] at e;cases e⟩,a,eF.notFn f⟩
def VR.notFn{F:bX}{w:aG}:∀{d:Nat} {v:aQ} {a:aM},VR d F w v a->VR d (fun b=>F b/\n9 w b) w v a
 |0,_,_,h=>h.elim
 |d+1,v,a,h=>by
  rcases h with h|h|h|⟨s,l,q,p,k⟩
  ·exact cl_ h
  ·exact ck_ (cl_ h)
  ·exact ck_ (ck_ (cl_ h))
  ·refine ck_ (ck_ (ck_ ⟨s,l,q,p,?_⟩));rcases k with k|⟨g,f,j,y,r,m,z,o⟩
   ·exact cl_ k
   ·refine ck_ ⟨g,f,j,y,⟨r,fun c e=>by rw[m] at e;cases e⟩,m,z,fun i t=>?_⟩
    obtain⟨u,n,x⟩:=o i t;exact⟨u,n,VR.notFn x⟩
def lQ.notFn{fp:eQ}{F:bX}{w:aG}{v:aQ}{i:aI}(h:lQ fp F w v i):lQ fp (fun b=>F b/\n9 w b) w v i:=by
 cases i<;>first
  |exact h
  |(obtain⟨e,c,a⟩:=h;exact⟨e,c,a.notFn⟩)
  |(obtain⟨u,c,⟨d,a⟩,f⟩:=h;exact⟨u,c,⟨d,a.notFn⟩,f⟩)
def lQ.setFn{fp:eQ}{F G:bX}{w:aG}{v u:aQ}{i:aI}{b o:Nat}{c:Array Value}(h:lQ fp F w v i)(d:w.heap[b]?=some (.cells c 136 (0,0)))(f:∀b,F b->G b):lQ fp G (w.setCell (aH b o) u) v i:=
 h.notFn.keep (fun k a=>cm_ _ _ _ _ fun e=>a.2 c (by rw[e];exact d)) fun k a=>f k a.1
section
variable {fp:eQ} {fb:Nat->Nat} {nms:cN} {cb:Nat} {F:bX} {w:aG}
def OD(a:cD)(h:CQ fp fb nms cb F w)(v:a∈nms)(O:nms.length<=1000000):
 Calls prog 82 #[bH cb,.string (bs a)] w fun e B=>e=aZ (fp (nms.findIdx fun x=>x==a))/\B=w:=by
 obtain⟨⟨T,L,J,p,C⟩,_⟩:=h;rcases C with ⟨rfl,_⟩|⟨g,q,rfl,H,t,I,b⟩
 ·cases v
 have N:=aC p;have M:w.cell? (aH cb 0)=some (.slice (some (aH g 0)) nms.length q):=aA p rfl;have u:=aB b;clear p b;go_in
 go_wp2_with fail;go_loopg [6,12] nms.length (fun gk _ i wr=>∃j:Nat,j+gk=nms.length/\i=Iv0 j/\j<=nms.findIdx (fun x=>x==a)/\wr=w)
 case atStart=>exact⟨0,by omega,rfl,cU_ _,rfl⟩
 case round=>
  obtain⟨j,S,rfl,f,rfl⟩:=hrel;have s:nms.findIdx (fun x=>x==a)<nms.length:=List.findIdx_lt_length_of_exists ⟨a,v,by simp⟩
  have o:j<nms.length:=by omega
  obtain⟨m,rfl⟩:∃m,gk=m+1:=⟨gk-1,by omega⟩
  obtain⟨G,k,Q,x,n⟩:=u j o;rw[k] at G;have E:wr.cell? (aH (fb j) 0)=some (.string (bs nms[j])):=aA n rfl;have z:=aC n;have P:(0:Int)<=(j:Int):=by omega
  have K:(j:Int)<(nms.length:Int):=by omega
  by_cases l:nms[j]=a
  ·have r:nms.findIdx (fun x=>x==a)=j:=by
    refine dP_ (Nat.not_lt.1 fun c=>?_) f
    have:=List.not_of_lt_findIdx c;simp[l] at this
   have D:=aB k;rw[l] at E;clear n k u;go_wp2
   go_ret;exact⟨by rw[r,D.out];rfl,rfl⟩
  ·have A:((bs nms[j]).toList==(bs a).toList)=false:=by rw[cE,cE];simpa using l
   have d:j+1<=nms.findIdx (fun x=>x==a):=by
    rcases dd_ f with e|e
    ·have:=dE_ (w:=s);simp only[<-e] at this;simp at this;exact absurd this l
    ·exact e
   generalize nms[j]=y at*;clear n k;go_wp2
   go_roundg m
   case measure=>omega
   case rel=>exact⟨j+1,by omega,by go_num,d,rfl⟩
end
def pI(bl:List Nat)(k:Nat):Nat:=bl[k]?.getD 0
def FA(bl:List Nat)(k:Nat):Value:=bH (pI bl k)
def pS{a:List Nat}{k:Nat}(h:k<a.length):pI a k=a[k]:=by simp[pI,h]
def CI1(w:aG)(fs:List aE)(j:Nat)(W:aG):Prop:=
 ∃(x:Option Addr) (c:Nat) (bl:List Nat),j<=fs.length/\W.heap[w.heap.size]?=some (.cells #[.slice x j c,bF,.pointer none] 167 (0,0))/\bl.length=j/\W.ownsRow (w.heap.size+1) 101 1 (.slice x j c) j (bl.map fun b=>bH b)/\bl.Nodup/\
  (∀i (h:i<fs.length),∀b,bl[i]?=some b->W.heap[b]?=some (.cells #[.string (bs fs[i].text),bF] 136 (0,0))/\w.heap.size<b/\b<W.heap.size/\(Value.slice x j c).ownBlock≠some b)/\Below w.heap.size w W
def CI2(w:aG)(fs:List aE)(d j:Nat)(W:aG):Prop:=
 ∃(bl:List Nat) (F:bX),bl.length=fs.length/\(bl.Nodup/\∀b∈bl,w.heap.size<b)/\j<=fs.length/\CQ (FA bl) (pI bl) (fs.map (·.text)) w.heap.size F W/\Below w.heap.size w W/\∀i (h:i<fs.length),i<j->YL (FA bl) F W (FA bl i) (fP fs d fs[i])
def CI1.zero(w:aG)(fs:List aE):CI1 w fs 0 (w.alloc (.cells #[bF,bF,.pointer none] 167)):=
 ⟨none,0,[],cU_ _,aO _ _ rfl _,rfl,World.ownsRow_nil _ _ _ _,List.nodup_nil,fun i h b a=>by simp at a,(co_ _ _).alloc cL _⟩
def CI1.next{w W z y:aG}{fs:List aE}{j n f:Nat}{x:Option Addr}{c:Nat}{q:List Nat}{M O:Obj}(Q:j<fs.length)
 (r:q.length=j) (C:q.Nodup) (p:∀i (h:i<fs.length),∀b,q[i]?=some b->W.heap[b]?=some (.cells #[.string (bs fs[i].text),bF] 136 (0,0))/\w.heap.size<b/\b<W.heap.size/\(Value.slice x j c).ownBlock≠some b) (u:Below w.heap.size w W) (J:w.heap.size<W.heap.size)
 (o:W.ownsRow (w.heap.size+1) 101 1 (.slice x j c) j (q.map fun b=>bH b))
 (D:z=((W.alloc M).alloc (.cells #[.string (bs fs[j].text),bF] 136)).alloc O)
 (H:y.ownsRow (w.heap.size+1) 101 1 (.slice (some (aH n 0)) (j+1) f) (j+1) ((q.map fun b=>bH b)++[bH (W.heap.size+1)]))
 (d:z.grownBy y (Value.slice x j c).ownBlock) (s:(Value.slice x j c).ownBlock=some n\/n=W.heap.size+3)
 (F:y.heap[w.heap.size]?=some (.cells #[.slice x j c,bF,.pointer none] 167 (0,0))):
 CI1 w fs (j+1) (y.setCell (aH w.heap.size 0) (.slice (some (aH n 0)) (j+1) f)):=by
 have K:z.heap.size=W.heap.size+3:=by rw[D];simp
 have N:=d.size;have t:n≠w.heap.size:=by have:=(H.lt n rfl).1;omega
 have v:Below W.heap.size W z:=by rw[D];exact(((co_ _ _).alloc cL _).alloc (by simp) _).alloc (by simp;omega) _
 refine⟨some (aH n 0),f,q++[W.heap.size+1],Q,?_,by simp[r],?_,?_,fun i E b l=>?_,?_⟩
 ·rw[aK F];rfl
 ·rw[cZ_];exact aW H fun k G=>cm_ _ _ _ _ (by cases G;exact t)
 ·refine c5_.2 ⟨C,by simp,fun a T b l=>?_⟩
  simp at l;obtain⟨i,E,rfl⟩:=List.getElem_of_mem T;have:=(p i (by omega) _ (cz_ E)).2.2.1
  omega
 ·rcases cR_ i q.length with m|m
  ·rw[cX_ m] at l;obtain⟨P,L,S,I⟩:=p i E b l;refine⟨?_,L,by simp;omega,fun e=>?_⟩
   ·rw[cm_ _ _ _ _ (show b≠w.heap.size by omega),d.block b (by omega) (fun e=>I e.symm),v.block b S];exact P
   ·have B:n=b:=by simpa [Value.ownBlock] using e
    rcases s with h|h
    ·exact I (by rw[<-B];exact h)
    ·omega
  ·rw[cN_ m] at l
   have A:i=j:=by
    rcases dd_ m with h|h
    ·omega
    ·rw[cV_ (by simp;omega)] at l;cases l
   subst A;rw[r,Nat.sub_self] at l;simp at l;subst l;have g:(Value.slice x i c).ownBlock≠some (W.heap.size+1):=fun e=>by have:=(o.lt _ e).2;omega
   refine⟨?_,by omega,by simp;omega,fun e=>?_⟩
   ·rw[cm_ _ _ _ _ (show W.heap.size+1≠w.heap.size by omega),d.block _ (by omega) (fun e=>g e.symm),D,cq_ _ _ _ (by simp)]
    exact aO _ _ (by simp) _
   ·have B:n=W.heap.size+1:=by simpa [Value.ownBlock] using e
    rcases s with h|h
    ·exact g (by rw[<-B];exact h)
    ·omega
 ·refine((u.trans (v.mono (by omega))).trans ?_).setCell cL _
  exact⟨d.os,d.tape,d.output,by omega,fun k G=>d.block k (by omega) (fun e=>by have:=(o.lt k e.symm).1;omega)⟩
def ZA(fs:List aE)(k:Nat)(h:k<(fs.map (·.text)).length):(fs.map (·.text))[k]=(fs[k]'(by simpa using h)).text:=by simp
def oZ(g j:Nat):(⟨g,0,none⟩:Addr).add j=⟨g,j,none⟩:=by unfold Addr.add;split<;>simp_all
def CI2.zero{w W:aG}{fs:List aE}{d:Nat}(n:fs≠[])(h:CI1 w fs fs.length W):CI2 w fs d 0 W:=by
 obtain⟨x,c,f,_,C,y,t,B,q,G⟩:=h;have s:0<fs.length:=c7_.2 n;have e:=t;rcases t.2 with ⟨r,F⟩|⟨g,p,E,r,F,I,A,J⟩
 ·omega
 obtain⟨rfl,rfl⟩:x=some (aH g 0)/\c=p:=by simpa using r
 have l:=e.lt g rfl;refine⟨f,fun k=>k=g\/k∈f,y,⟨B,fun b z=>?_⟩,cU_ _,⟨⟨_,_,_,C,ck_ ⟨g,c,by simp,cl_ rfl,by simp;exact A,l.2,fun k j=>?_⟩⟩,fun k j=>?_⟩,G,fun i _ m=>by omega⟩
 ·obtain⟨i,m,rfl⟩:=List.getElem_of_mem z;exact(q i (by omega) f[i] (cz_ m)).2.1
 ·have o:k<fs.length:=by simpa using j
  have a:k<f.length:=by omega
  obtain⟨u,D,v,H⟩:=q k o f[k] (cz_ a);refine⟨?_,rfl,ck_ (by rw[pS a];exact cG_ a),_,by rw[pS a,u,ZA]⟩
  have:=e.cells (g:=g) rfl k (FA f k) (by simp[FA,pS a,a])
  rw[oZ] at this;exact this
 ·rcases j with rfl|j
  ·exact⟨l.2,by omega⟩
  ·obtain⟨i,m,rfl⟩:=List.getElem_of_mem j;obtain⟨u,D,v,H⟩:=q i (by omega) f[i] (cz_ m)
   exact⟨v,by omega⟩
def CI2.next{w W w1:aG}{fs:List aE}{d j:Nat}{a:List Nat}{F G:bX}{sn:cN}{cv:aQ}(hj:j<fs.length)(Y:a.length=fs.length)(t:a.Nodup/\∀b∈a,w.heap.size<b)(A:Below w.heap.size w W)(J:∀i (h:i<fs.length),i<j->YL (FA a) F W (FA a i) (fP fs d fs[i]))
 (s:∀k,F k->G k) (p:CP (FA a) (pI a) (fs.map (·.text)) w.heap.size G w1 ((fP fs d fs[j]).code.map some) sn) (X:w1.cell? (aH w.heap.size 1)=some cv) (ad:Below w.heap.size W w1) (T:∀k,F k->w1.heap[k]?=W.heap[k]?) (ae:0<(fP fs d fs[j]).code.length):
 CI2 w fs d (j+1) (w1.setCell (aH (pI a j) 1) cv):=by
 have r:j<a.length:=by omega
 obtain⟨fv,V,sp,h1,⟨xs,h2,h3⟩,h4,h5⟩:=p.blk
 obtain rfl:V=cv:=by
  have:=aA h1 (i:=1) rfl;rw[X] at this;exact(Option.some.inj this).symm
 have n:j<(fs.map (·.text)).length:=by simpa using hj
 rcases h5 with ⟨e,_⟩|⟨g,ac,rfl,k1,k2,k3,M⟩
 ·rw[e] at n;simp at n
 obtain⟨m1,m2,m3,x,B⟩:=M j n;have aa:=p.fix _ m3;rcases h2.2 with ⟨_,r2⟩|⟨v,c,P,rfl,r2,Z,r4,r5,r6,r7⟩
 ·rw[List.length_map] at r2;omega
 have Q:v≠pI a j:=fun e=>by rw[e,B] at Z;cases Z
 have E:∀k (h:k<(fs.map (·.text)).length),g≠pI a k:=fun k m e=>by
  obtain⟨z1,z2,z3,z,O⟩:=M k m;obtain⟨y1,_⟩:=M 0 (by omega)
  have:=aA O (i:=0) rfl;rw[<-e,y1] at this;cases this
 have f:∀k,k≠pI a j->(w1.setCell (aH (pI a j) 1) (.slice (some (aH v 0)) ((fP fs d fs[j]).code.map some).length c)).heap[k]?=w1.heap[k]?:=fun k m=>cm_ _ _ _ _ m
 have I:(w1.setCell (aH (pI a j) 1) (.slice (some (aH v 0)) ((fP fs d fs[j]).code.map some).length c)).heap[pI a j]?=some (.cells #[.string (bs (fs.map (·.text))[j]),.slice (some (aH v 0)) ((fP fs d fs[j]).code.map some).length c] 136 (0,0)):=by
  rw[aK B];rfl
 have l:∀i (L:i<a.length),i≠j->pI a i≠pI a j:=fun i L D e=>by
  rw[pS L,pS r] at e;exact D ((List.getElem_inj t.1).1 e)
 refine⟨a,fun k=>G k\/k=v,Y,t,hj,⟨⟨_,_,_,by rw[f _ (fun e=>aa.2.1 e.symm)];exact h1,ck_ ⟨g,ac,rfl,cl_ k1,k2,by simpa using k3,fun k m=>?_⟩⟩,fun k m=>?_⟩,?_,fun i L D=>?_⟩
 ·obtain⟨z1,z2,z3,z,O⟩:=M k m;refine⟨?_,z2,cl_ z3,?_⟩
  ·rw[World.cell?_of_block (f g (E j n))];exact z1
  ·by_cases y:k=j
   ·subst y;exact⟨_,I⟩
   ·exact⟨z,by rw[f _ (l k (by simp at m;omega) y)];exact O⟩
 ·rcases m with m|rfl
  ·have:=p.fix k m;exact⟨by simpa using this.1,this.2.1⟩
  ·have:=h2.lt k rfl;exact⟨by simpa using this.2,by omega⟩
 ·exact(A.trans ad).setCell (dv_ (by show w.heap.size<pI a j;rw[pS r];exact t.2 _ (cG_ r))) _
 ·by_cases o:i=j
  ·subst o;refine⟨pI a i,v,c,P,rfl,cl_ m3,?_,ck_ rfl,by rw[f _ Q];exact Z,fun q N=>?_⟩
   ·rw[I,ZA];simp only[List.length_map];rfl
   ·obtain⟨u,u1,u2⟩:=h3.2 q (some (fP fs d fs[i]).code[q]) (by simp[N])
    refine⟨u,?_,lQ.setFn u2 B fun _ h=>cl_ h⟩
    rw[<-r7] at u1;have ab:q<((fP fs d fs[i]).code.map some).length*1:=by simpa using N
    rw[List.getElem?_take_of_lt ab] at u1;simpa using u1
  ·obtain⟨U,H,K,C,a1,a2,a3,a4,a5,a6⟩:=J i L (by omega)
   obtain rfl:U=pI a i:=by simpa [FA] using a1.symm
   have b3:w1.heap[pI a i]?=_:=(T _ a2).trans a3;have S:w1.heap[H]?=_:=(T _ a4).trans a5;refine⟨pI a i,H,K,C,rfl,cl_ (s _ a2),by rw[f _ (l i (by omega) o)];exact b3,cl_ (s _ a4),by rw[f _ (fun e=>by rw[e,B] at S;cases S)];exact S,fun q N=>?_⟩
   obtain⟨u,u1,u2⟩:=a6 q N;exact⟨u,u1,lQ.setFn (u2.keep T s) B fun _ h=>cl_ h⟩
def TF{lo d:Nat}{fs:List aE}(v:aQ)(w:aG)(h:FSl (Btw lo w.heap.size) w v fs)(am:fs.length<=90000)(Z:∀f∈fs,jG fs d f)(ad:∀f∈fs,∀k∈f.kids,nB k)(s:∀f∈fs,f.kids.length<=90000)(hm:[109,97,105,110]∈fs.map (·.text)):
 Calls prog 49 #[v] w fun e r=>∃fp F,e=aZ (fp (dG fs [109,97,105,110]))/\mC fp F r (dC fs d)/\Below w.heap.size w r/\∀k,F k->k<r.heap.size:=by
 have L:fs≠[]:=fun e=>by rw[e] at hm;simp at hm
 rcases h.cells with ⟨_,e⟩|⟨H,ae,rfl,al,z,ah,hc⟩
 ·exact absurd e L
 refine(OA w H fs.length ae (fun v r=>∃fp F,v=fp (dG fs [109,97,105,110])/\mC fp F r (dC fs d)/\Below w.heap.size w r/\∀k,F k->k<r.heap.size) (CI1 w fs) (CI2 w fs d) (by omega) (CI1.zero w fs) (fun j W E y=>?_) (fun W E=>CI2.zero L E) (fun j W E y=>?_) (fun W E=>?_)).mono ?_
 ·obtain⟨x,c,J,h0,K,V,U,D,C,I⟩:=E;obtain⟨pv,bv,ps,b,Y,e1,e2,e3,m,A,M,B⟩:=hc j y;obtain⟨px,pc,rfl⟩:=A.slice;obtain⟨bx,bc,rfl⟩:=B.sliceC;have a:∀o u,w.cell? (aH H o)=some u->W.cell? (aH H o)=some u:=fun o u hu=>by rw[I.cell (p:=(aH H o)) z];exact hu
  exact⟨aC K,cn_ z I.size,_,_,_,_,_,_,_,_,_,_,_,_,_,a _ _ Y,a _ _ e1,a _ _ e2,a _ _ e3,K,U,fun W3 g4 ai w4 a1 a2 a3 a4 a5=>CI1.next y V D C I (aC K) U a1 a2 a3 a4 a5⟩
 ·obtain⟨J,F,K,V,U,D,C,I⟩:=E;obtain⟨pv,bv,ps,b,Y,e1,e2,e3,m,A,M,B⟩:=hc j y;have ag:CA (Btw lo w.heap.size) w (.agg #[Iv0 fs[j].line,.string (bs fs[j].text),pv,bv]) fs[j]:=⟨pv,bv,ps,b,rfl,m,A,M,B⟩;obtain⟨px,pc,rfl⟩:=A.slice;obtain⟨bx,bc,rfl⟩:=B.sliceC;have a:∀o u,w.cell? (aH H o)=some u->W.cell? (aH H o)=some u:=fun o u hu=>by rw[C.cell (p:=(aH H o)) z];exact hu
  have ac:=D;obtain⟨⟨fv,cv,sp,q1,q2⟩,q3⟩:=D;have n:j<(fs.map (·.text)).length:=by simpa using y
  rcases q2 with ⟨e,_⟩|⟨g,c,rfl,k1,k2,k3,k4⟩
  ·rw[e] at n;simp at n
  obtain⟨m1,m2,m3,x,m4⟩:=k4 j n;rw[m2] at m1;have Q:(fs.map (·.text)).length=fs.length:=by simp
  refine⟨aC q1,cn_ z C.size,_,_,_,_,_,_,_,_,g,c,pI J j,a _ _ Y,a _ _ e1,a _ _ e2,a _ _ e3,by rw[<-Q];exact aA q1 rfl,k3,m1,fun W' hS=>?_⟩
  have l:Below W.heap.size W W':=((co_ _ _).alloc cL _).trans (hS.below.mono (by simp))
  have P:CQ (FA J) (pI J) (fs.map (·.text)) w.heap.size F W':=by
   obtain⟨⟨fv,cv,sp,z1,z2⟩,z3⟩:=ac;exact⟨⟨fv,cv,sp,by rw[l.block _ (aC z1)];exact z1,z2.keep (fun k q=>l.block k (z3 k q).1) dX l.size⟩,fun k q=>⟨cn_ (z3 k q).1 l.size,(z3 k q).2⟩⟩
  have aj:=aC q1;refine(l7 (lo:=lo) (d:=d) (by omega) (fun k _=>rfl) P fs[j] _ (ag.keep (fun k q=>(C.trans (l.mono (by omega))).block k q.2) dX) (Z _ (cG_ y)) (ad _ (cG_ y)) (s _ (cG_ y))).mono ?_
  rintro e r ⟨ab,X,G,sn,af,t,O,T,hF⟩;have N:0<(fP fs d fs[j]).code.length:=by rw[LA fs d m];simp
  have ak:=t;obtain⟨an,aa,ao,y1,⟨xs,y2,y3⟩,y4,y5⟩:=t.blk
  obtain rfl:aa=ab:=by
   have:=aA y1 (i:=1) rfl;rw[O] at this;exact(Option.some.inj this).symm
  obtain⟨x',c',rfl⟩:=dE y2;have S:∀k,F k->r.heap[k]?=W.heap[k]?:=fun k q=>by rw[hF k q,l.block k (q3 k q).1]
  rcases y5 with ⟨e,_⟩|⟨g2,c2,rfl,l1,l2,l3,l4⟩
  ·rw[e] at n;simp at n
  obtain⟨n1,n2,n3,x2,n4⟩:=l4 j n;rw[n2] at n1;refine⟨x',_,c',X,t.lt,⟨g2,c2,by rw[<-Q];exact aA y1 rfl,l3,n1⟩,cn_ k3 (cw_ l.size T.size),?_,aC n4,⟨_,aA n4 rfl⟩,aD n4,?_⟩
  ·rw[World.cell?_of_block (S g k1)];exact m1
  ·exact CI2.next y K V C I af t O ((l.mono (by omega)).trans T) S N
 ·obtain⟨J,F,K,V,U,D,C,I⟩:=E;refine(OD [109,97,105,110] D hm (by simpa using (by omega:fs.length<=1000000))).mono ?_
  rintro e r ⟨X,rfl⟩;rw[FC] at X;refine⟨_,X,FA J,F,rfl,fun k f hf=>?_,C,fun k q=>(D.2 k q).1⟩
  have s:k<fs.length:=by
   rcases cR_ k fs.length with h|h
   ·exact h
   ·rw[cV_ (by simpa [dC] using h)] at hf;cases hf
  have:f=fP fs d fs[k]:=by simpa [dC,s] using hf.symm
  rw[this];exact I k s s
 ·rintro e r ⟨v,rfl,fp,F,rfl,h⟩;exact⟨fp,F,rfl,h⟩
def US(w:aG)(D:Option Addr)(N Z:Nat)(Y:Option Addr)(X c1:Nat)(P:Value->World->Prop)(A:Value->World->Prop)(T:Value->Nat->Value->World->Prop)(B:Nat->World->Prop)
 (HC:Hid (Calls prog 49 #[.slice D N Z] (w.alloc (.cells #[Iv0 0,bF,bF,bF,Iv0 0] 49)) fun e g=>∃p,e=aZ (.pointer p)/\A (.pointer p) g))
 (HT:Hid (∀p W,A (.pointer p) W->Calls prog 50 #[.slice Y X c1] (W.alloc (.cells #[.pointer p,Iv0 0,Iv0 0,.pointer none,bF,bF] 108)) fun e g=>∃x n c,e=aZ (.slice x n c)/\T (.pointer p) W.heap.size (.slice x n c) g))
 (HG:Hid (∀p u x n c W,T (.pointer p) u (.slice x n c) W->Calls prog 51 #[bH W.heap.size] (W.alloc (.cells #[Iv0 0,.slice (some (aH u 0)) 1 1,.slice x n c,bF,Iv0 0] 49)) fun e g=>e=aZ (.tuple #[])/\B W.heap.size g))
 (HB:Hid (∀b W,B b W->∃(q:Nat) (f t o:aQ) (m:Nat),W.heap[b]?=some (.cells #[Iv0 q,f,t,o,Iv0 m] 49 (0,0))/\(∃x l c,f=.slice x l c)/\(∃x l c,t=.slice x l c)/\(∃x l c,o=.slice x l c)/\W.heap[w.heap.size]?=some (.cells #[Iv0 0,bF,bF,bF,Iv0 0] 49 (0,0))/\b≠w.heap.size/\
   ∀r,Kept [w.heap.size] W r->r.heap.size=W.heap.size->P (.agg #[Iv0 q,f,t,o,Iv0 m]) r)):
 Calls prog 25 #[.slice D N Z,.slice Y X c1] w fun e g=>∃F,e=aZ F/\P F g:=by
 go_in
 go_wp2_with fail;refine HC.mono ?_;rintro e w1 ⟨p,rfl,M⟩;have k:=aB (HT _ _ M);generalize ab:w1.heap.size=u at k;clear M;go_wp2_with fail;refine k.mono ?_;rintro e w2 ⟨x,n,c,rfl,G⟩;have j:=aB (HG _ _ _ _ _ _ G);generalize hb:w2.heap.size=b at j;clear G;go_wp2_with fail;refine j.mono ?_;rintro e d ⟨rfl,K⟩;obtain⟨q,f,t,o,m,h,⟨L,H,Q,rfl⟩,⟨I,U,J,rfl⟩,⟨S,E,V,rfl⟩,a,q3,O⟩:=HB _ _ K;have HQ:=aB O;have aa:d.cell? (aH b 0)=some (Iv0 q):=aA h rfl;have am:d.cell? (aH b 1)=some (.slice L H Q):=aA h rfl;have ah:d.cell? (aH b 2)=some (.slice I U J):=aA h rfl;have al:d.cell? (aH b 3)=some (.slice S E V):=aA h rfl;have af:d.cell? (aH b 4)=some (Iv0 m):=aA h rfl;have s:d.cell? (aH w.heap.size 0)=some (Iv0 0):=aA a rfl;have z:d.cell? (aH w.heap.size 1)=some (bF):=aA a rfl;have v:d.cell? (aH w.heap.size 2)=some (bF):=aA a rfl;have C:d.cell? (aH w.heap.size 3)=some (bF):=aA a rfl;have y:d.cell? (aH w.heap.size 4)=some (Iv0 0):=aA a rfl;have ae:=aD (i:=0) a;have ak:=aD (i:=1) a;have ai:=aD (i:=2) a;have ac:=aD (i:=3) a;have ag:=aD (i:=4) a;have aj:=aC h;have ad:=aC a;clear K O h a;go_wp2_with fail;refine⟨rfl,.agg #[Iv0 q,.slice L H Q,.slice I U J,.slice S E V,Iv0 m],?_,_,rfl,HQ _ ?_ (by simp)⟩
 ·simp[results,results25,go_sem,s,z,v,C,y]
 ·exact(((((Kept.refl _ _).setCell _ _ (by simp)).setCell _ _ (by simp)).setCell _ _ (by simp)).setCell _ _ (by simp)).setCell _ _ (by simp)
def ZO(w:aG)(v:aQ)(l:List Int):Prop:=
 (l=[]/\v=bF)\/∃g o c,v=.slice (some (aH g o)) l.length c/\g<w.heap.size/\∀i (h:i<l.length),w.cell? (aH g (o+i))=some (Iv0 l[i])/\ -9223372036854775808<=l[i]/\l[i]<=9223372036854775807
def GP(w:aG)(v:aQ)(l:List Int)(h:ZO w v l)(E:l.length<=17592186044416):∃x n c,v=.slice x n c/\Calls prog 50 #[.slice x n c] w fun e d=>∃x n c,e=aZ (.slice x n c)/\Below w.heap.size w d/\sW (fun k=>w.heap.size<=k/\k<d.heap.size) d (.slice x n c) l:=by
 rcases h with ⟨rfl,rfl⟩|⟨g,o,c,rfl,H,y⟩
 ·refine⟨none,0,0,rfl,(JL w).mono ?_⟩;rintro e d ⟨rfl,rfl⟩;exact⟨_,_,_,rfl,co_ _ _,cl_ ⟨rfl,none,0,rfl⟩⟩
 ·refine⟨_,_,_,rfl,(JM g o l.length c (l.map fun n=>Value.int .i64 n) w (by simp) E (fun j u f=>?_) (fun u F=>?_)).mono ?_⟩
  ·rw[dw_] at f;cases b:l[j]? with
   |none=>rw[b] at f;cases f
   |some n=>
    rw[b] at f;obtain⟨r,rfl⟩:=cQ_.1 b;rw[(y j r).1];exact f
  ·obtain⟨n,_,rfl⟩:=dn_.1 F;rfl
  ·rintro e d ⟨G,rfl,a,B⟩;obtain⟨x,s,rfl⟩:=dE a;refine⟨x,_,s,rfl,B,?_⟩;rcases a.2 with ⟨p,m⟩|⟨t,q,D,p,m,A,C⟩
   ·exact cl_ ⟨dh_.1 m,x,s,by rw[m]⟩
   ·refine ck_ ⟨t,0,q,p,C.1,⟨m,aC A⟩,fun i z=>⟨?_,(y i z).2⟩⟩
    have:=a.cells (g:=t) (by rw[p];rfl) i (Iv0 l[i]) (by simp[z])
    rw[oZ] at this;simpa using this
def YL.ptr{fp:eQ}{F:bX}{w:aG}{v:aQ}{f:eU}(h:YL fp F w v f):∃p,v=.pointer p:=by
 obtain⟨b,_,_,_,a,_⟩:=h;exact⟨_,a⟩
def Kept.below{own:List Nat}{w w':aG}{n:Nat}(h:Kept own w w')(d:n<=w.heap.size)(b:∀k∈own,n<=k):Below n w w':=
 ⟨h.os,h.tape,h.output,h.size,fun k c=>h.block k (by omega) fun a=>by have:=b k a;omega⟩
section
variable {fp:eQ} {F:bX} {w:aG} {z:Nat} {c:Array Value} (hz:w.heap[z]?=some (.cells c 49 (0,0)))
include hz
def eF.off:∀{l:cN} {v:aQ},eF F w v l->eF (fun b=>F b/\b≠z) w v l
 |[],_,h=>h
 |_::_,_,⟨b,o,f,c,a,d⟩=>⟨b,o,f,⟨c,fun e=>by rw[e,hz] at a;cases a⟩,a,eF.off d⟩
def VR.off:∀{d:Nat} {v:aQ} {a:aM},VR d F w v a->VR d (fun b=>F b/\b≠z) w v a
 |0,_,_,h=>h.elim
 |d+1,v,a,h=>by
  rcases h with h|h|h|⟨r,l,p,o,j⟩
  ·exact cl_ h
  ·exact ck_ (cl_ h)
  ·exact ck_ (ck_ (cl_ h))
  ·refine ck_ (ck_ (ck_ ⟨r,l,p,o,?_⟩));rcases j with j|⟨g,c,f,x,q,k,y,n⟩
   ·exact cl_ j
   ·refine ck_ ⟨g,c,f,x,⟨q,fun e=>by rw[e,hz] at k;cases k⟩,k,y,fun i s=>?_⟩
    obtain⟨u,m,t⟩:=n i s;exact⟨u,m,VR.off t⟩
def lQ.off{v:aQ}{i:aI}(h:lQ fp F w v i):lQ fp (fun b=>F b/\b≠z) w v i:=by
 cases i<;>first
  |exact h
  |(obtain⟨e,c,a⟩:=h;exact⟨e,c,a.off hz⟩)
  |(obtain⟨u,c,⟨d,a⟩,f⟩:=h;exact⟨u,c,⟨d,a.off hz⟩,f⟩)
def mC.off{a:List eU}(h:mC fp F w a):mC fp (fun b=>F b/\b≠z) w a:=fun k f m=>by
 obtain⟨o,n,c,j,r,s,d,l,g,q⟩:=h k f m;refine⟨o,n,c,j,r,⟨s,fun e=>by rw[e,hz] at d;cases d⟩,d,⟨l,fun e=>by rw[e,hz] at g;cases g⟩,g,fun i p=>?_⟩
 obtain⟨u,u1,u2⟩:=q i p;exact⟨u,u1,u2.off hz⟩
end
def WF{lo d k:Nat}{fs:List aE}{j:List Int}{r:cR × Nat}(v tv:aQ)(w:aG)(h:FSl (Btw lo w.heap.size) w v fs)(bc:fs.length<=90000)(X:∀f∈fs,jG fs d f)(bf:∀f∈fs,∀k∈f.kids,nB k)(bg:∀f∈fs,f.kids.length<=90000)(hm:fZ fs (dG fs [109,97,105,110])=some 0)
 (ht:ZO w tv j) (bh:j.length<=17592186044416) (hp:kM w) (hU:kK (dC fs d)) (q:dQ (dC fs d) k (gD fs d j)=some r) (hr:r.2<=1000):
 Calls prog 25 #[v,tv] w fun e H=>∃v',e=aZ v'/\Below w.heap.size w H/\∃fp G,(∀b,G b->b<H.heap.size)/\mC fp G H (dC fs d)/\jT fp G H v' ⟨0,r.1,bZ 0 r.2⟩:=by
 have U:dG fs [109,97,105,110]<fs.length:=by
  unfold fZ at hm;rcases cR_ (dG fs [109,97,105,110]) fs.length with h|h
  ·exact h
  ·rw[cV_ h] at hm;cases hm
 have ak:[109,97,105,110]∈fs.map (·.text):=by
  have:=dE_ (p:=fun f:aE=>f.text==[109,97,105,110]) (xs:=fs) (w:=U)
  exact dn_.2 ⟨_,cG_ U,eq_of_beq this⟩
 obtain⟨x0,c0,rfl⟩:∃x c,v=.slice x fs.length c:=by
  rcases h with ⟨rfl,rfl⟩|⟨g,ac,bm,us,rfl,_⟩
  ·exact⟨none,0,rfl⟩
  ·exact⟨_,_,rfl⟩
 obtain⟨x1,n1,c1,rfl⟩:∃x n c,tv=.slice x n c:=by
  rcases ht with ⟨_,rfl⟩|⟨g,o,c,rfl,_⟩
  ·exact⟨_,_,_,rfl⟩
  ·exact⟨_,_,_,rfl⟩
 generalize ab:(dC fs d)[dG fs [109,97,105,110]]?.getD ⟨[],[]⟩=f0
 have L:(dC fs d)[dG fs [109,97,105,110]]?=some f0:=by
  rw[cz_ (by simpa [dC] using U)] at ab ⊢
  simpa using ab
 have aq:gD fs d j=⟨[⟨f0,0,0,[],[],[]⟩],j,[]⟩:=by rw[<-ab];rfl
 have aj:=vD X hm j
 have aw:gK (gD fs d j):=by
  rw[aq];intro f hf;simp at hf;subst hf;exact⟨hU _ (c0_ L),fun v hv=>by simp at hv,fun v hv=>by simp at hv⟩
 rw[aq] at aj aw q;obtain⟨s,N⟩:∃s,s=w.alloc (.cells #[Iv0 0,bF,bF,bF,Iv0 0] 49):=⟨_,rfl⟩;have Q:Below w.heap.size w s:=by rw[N];exact(co_ _ _).alloc cL _
 have bn:s.heap.size=w.heap.size+1:=by rw[N];simp
 have ae:s.heap[w.heap.size]?=some (.cells #[Iv0 0,bF,bF,bF,Iv0 0] 49 (0,0)):=by rw[N];exact aO _ _ rfl _
 have ax:FSl (Btw lo s.heap.size) s (.slice x0 fs.length c0) fs:=h.grow (fun b u=>Q.block b u.2) fun b u=>⟨u.1,by have:=u.2;omega⟩
 refine(US w x0 fs.length c0 x1 n1 c1 (fun v' H=>Below w.heap.size w H/\∃fp G,(∀b,G b->b<H.heap.size)/\mC fp G H (dC fs d)/\jT fp G H v' ⟨0,r.1,bZ 0 r.2⟩)
  (fun p W=>∃fp F,p=fp (dG fs [109,97,105,110])/\mC fp F W (dC fs d)/\Below s.heap.size s W/\∀k,F k->k<W.heap.size)
  (fun p y O W=>∃fp F,p=fp (dG fs [109,97,105,110])/\mC fp F W (dC fs d)/\Below s.heap.size s W/\(∀k,F k->k<W.heap.size/\k≠y)/\s.heap.size<=y/\y<W.heap.size/\W.heap[y]?=some (.cells #[p,Iv0 0,Iv0 0,.pointer none,bF,bF] 108 (0,0))/\sW F W O j/\∀k,F k->k≠w.heap.size)
  (fun b W=>∃fp F y ac O t D,Below s.heap.size s W/\s.heap.size<=b/\dA false fp F s.heap.size W b y ac (Iv0 ((0:Nat):Int)) O t (Iv0 (bZ 0 r.2)) D r.1/\mC fp F W (dC fs d)/\(∀k∈aR false b y t D,s.heap.size<=k)/\∀k,F k->k≠w.heap.size)
  ?_ (fun p W hq=>?_) (fun p y x n c W hq=>?_) (fun b W hq=>?_))
 ·show Calls _ _ _ _ _
  rw[<-N];refine(TF (lo:=lo) (d:=d) _ s ax bc X bf bg ak).mono ?_;rintro e H ⟨fp,F,he,hT,u,M⟩;obtain⟨p,ar⟩:=(hT _ _ L).ptr;exact⟨p,by rw[he,ar],fp,F,ar.symm,hT,u,M⟩
 ·obtain⟨fp,F,aa,hT,u,M⟩:=hq;have bd:W.heap[w.heap.size]?=some (.cells #[Iv0 0,bF,bF,bF,Iv0 0] 49 (0,0)):=by rw[u.block _ (by omega)];exact ae
  have be:=hT.off bd;generalize E:W.alloc (.cells #[.pointer p,Iv0 0,Iv0 0,.pointer none,bF,bF] 108)=z;have C:Below W.heap.size W z:=by rw[<-E];exact(co_ _ _).alloc cL _
  have ay:z.heap.size=W.heap.size+1:=by rw[<-E];simp
  have ad:z.heap[W.heap.size]?=some (.cells #[.pointer p,Iv0 0,Iv0 0,.pointer none,bF,bF] 108 (0,0)):=by rw[<-E];exact aO _ _ rfl _
  have ah:Below w.heap.size w z:=Q.trans ((u.mono (by omega)).trans (C.mono (by have:=u.size;omega)))
  have bi:ZO z (.slice x1 n1 c1) j:=by
   rcases ht with ht|⟨g,o,c,e,hg,hc⟩
   ·exact cl_ ht
   ·exact ck_ ⟨g,o,c,e,cn_ hg ah.size,fun i hi=>⟨(ah.cell (p:=(aH g (o+i))) hg).trans (hc i hi).1,(hc i hi).2⟩⟩
  obtain⟨x,n,c,e,bl⟩:=GP z _ j bi bh;rw[e];refine bl.mono ?_;rintro e H ⟨x',n',c',he,P,V⟩;have an:Below W.heap.size W H:=C.trans (P.mono (by omega))
  refine⟨x',n',c',he,fp,fun k=>(F k/\k≠w.heap.size)\/(z.heap.size<=k/\k<H.heap.size),aa,be.keep (fun k q=>an.block k (M k q.1)) fun _ h=>cl_ h,u.trans (an.mono u.size),fun k q=>?_,u.size,by have:=P.size;omega,by rw[P.block _ (by omega)];exact ad,V.keep (fun _ _=>rfl) fun _ h=>ck_ h,fun k q=>by
   rcases q with B|B
   ·exact B.2
   ·have:=u.size;omega⟩
  have:=P.size;rcases q with B|B
  ·have:=M k B.1;omega
  ·omega
 ·obtain⟨fp,F,aa,hT,u,M,bb,bk,ba,V,bj⟩:=hq;generalize E:W.alloc (.cells #[Iv0 0,.slice (some (aH y 0)) 1 1,.slice x n c,bF,Iv0 0] 49)=z;have C:Below W.heap.size W z:=by rw[<-E];exact(co_ _ _).alloc cL _
  have ay:z.heap.size=W.heap.size+1:=by rw[<-E];simp
  have ad:z.heap[W.heap.size]?=some (.cells #[Iv0 0,.slice (some (aH y 0)) 1 1,.slice x n c,bF,Iv0 0] 49 (0,0)):=by rw[<-E];exact aO _ _ rfl _
  have Z:mC fp F z (dC fs d):=hT.keep (fun k q=>C.block k (M k q).1) dX
  have A:aR false W.heap.size y (bF) [⟨.pointer p,Iv0 0,Iv0 0,.pointer none,bF,bF⟩]=[W.heap.size,y]:=rfl;have S:lC F s.heap.size z (bF) []:=⟨⟨[],World.ownsRow_nil _ _ _ _,gQ.nil _ _⟩,fun a ha=>by simp at ha⟩
  have ao:dA false fp F s.heap.size z W.heap.size y 1 (Iv0 ((0:Nat):Int)) (.slice x n c) (bF) (Iv0 0) [⟨.pointer p,Iv0 0,Iv0 0,.pointer none,bF,bF⟩] ⟨[⟨f0,0,0,[],[],[]⟩],j,[]⟩:=by
   refine⟨ad,⟨rfl,ck_ ⟨y,1,_,rfl,bb,by rw[C.block _ bk];exact ba,cL,by unfold maxLen;omega,rfl,rfl⟩⟩,⟨⟨?_,rfl,rfl,rfl,S,S⟩,trivial⟩,V.keep (fun k q=>C.block k (M k q).1) dX,World.ownsRow_nil _ _ _ _,?_,?_,fun k q=>?_⟩
   ·show YL fp F z (.pointer p) f0
    rw[aa];exact Z _ _ L
   ·rw[A];simp;omega
   ·rw[A];simp;omega
   ·rw[A];have:=M k q;simp;omega
  have m:Below s.heap.size s z:=u.trans (C.mono u.size);have am:Below w.heap.size w z:=Q.trans (m.mono (by omega))
  refine(RR (mJ X) hU ao Z (BZ.of hp am fun k q=>?_) m.size aj aw (by simp) (by simp;omega) q (by omega) hr).mono ?_
  ·rw[A] at q;have:=u.size;simp at q;omega
  rintro e H ⟨he,Y,G,av,ai,au,I,T,d1,d2,d3⟩;rw[A] at d3 Y
  have ap:∀x∈aR false W.heap.size av I T,s.heap.size<=x:=fun x hx=>by
   have:=u.size;rcases d3 x hx with B|B
   ·simp at B;omega
   ·omega
  have az:∀k∈[W.heap.size,y],s.heap.size<=k:=fun k q=>by have:=u.size;simp at q;omega
  refine⟨he,fp,G,av,ai,au,I,T,m.trans (Y.below m.size az),u.size,d2,?_,ap,fun k q=>?_⟩
  ·refine Z.keep (fun k q=>Y.block k (cn_ (M k q).1 C.size) fun hm=>?_) d1.sub
   have:=M k q;simp at hm;omega
  ·rcases d1.new k q with B|B
   ·exact bj k B
   ·have:=m.size;omega
 ·obtain⟨fp,F,y,ac,O,t,D,g1,g2,g5,gT,g6,g7⟩:=hq;have al:=g5.blk;refine⟨_,_,_,_,_,al,⟨_,_,_,rfl⟩,?_,vC g5.out,by rw[g1.block _ (by omega)];exact ae,by omega,fun z J ag=>?_⟩
  ·rcases g5.tape with ⟨_,x,c,e⟩|⟨g,o,c,e,_⟩<;>exact⟨_,_,_,e⟩
  ·have m:Below w.heap.size w W:=Q.trans (g1.mono (by omega))
   have hS:=g5.kept (G:=fun k=>F k\/(k∈aR false b y t D/\k≠b)) (fun _ h=>cl_ h) (fun k l hn=>ck_ ⟨l,hn⟩)
   have K:∀k,(F k\/(k∈aR false b y t D/\k≠b))->k≠w.heap.size/\k<W.heap.size:=fun k l=>by
    rcases l with B|⟨B,_⟩
    ·exact⟨g7 k B,(g5.apart k B).1⟩
    ·have:=g6 k B;exact⟨by omega,g5.lt k B⟩
   have af:∀k,(F k\/(k∈aR false b y t D/\k≠b))->z.heap[k]?=W.heap[k]?:=fun k l=>J.block k (K k l).2 (by simpa using (K k l).1)
   refine⟨⟨J.os.trans m.os,J.tape.trans m.tape,J.output.trans m.output,by rw[ag];exact m.size,fun k l=>?_⟩,fp,fun k=>F k\/(k∈aR false b y t D/\k≠b),fun k l=>by rw[ag];exact(K k l).2,gT.keep (fun k l=>af k (cl_ l)) fun _ h=>cl_ h,hS.keep af dX⟩
   rw[J.block k (cn_ l m.size) (by simp;omega),m.block k l]
end Go.Proofs.YtmjbnmpamlainaaGreatDoor
