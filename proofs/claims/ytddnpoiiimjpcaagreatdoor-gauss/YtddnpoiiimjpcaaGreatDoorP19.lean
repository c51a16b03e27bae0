/- Contracts of the program: names: calls, declarations. -/
import Derived.Test.YtddnpoiiimjpcaaGreatDoorP18
set_option linter.defProp false
set_option maxRecDepth 100000
set_option maxHeartbeats 4000000
namespace Go.Proofs.YtddnpoiiimjpcaaGreatDoor
open Hs
open _root_.Go.Proofs.Tryz
open Instr(typeAssert)
open Go.RowKit
def UC(cb l lo:Nat)(fs:List aC)(a:aQ)(r:fs.length<=90000)(u:∀f∈fs,f.kids.length<=90000)(d:Nat)(A:mE cb l lo fs a d)(c:aC)(v:aQ)(seen:cO)(w:aH)(h:CK cb l lo fs a w seen)(g:PKid (Btw lo l) w v c.kids)(y:∀k∈c.kids,fF d k)(q:seen.length+(c.kids.map (bY d)).sum<=90000):
 Calls prog 91 #[bO cb,.iface 224 (.agg #[Iv0 c.line,.string (bs c.text),v])] w (dB cb l lo fs a w (iP fs (fU a) d c.kids (eJ fs (fU a) ⟨seen,0,0⟩ c))):=by
 obtain⟨o,x,rfl⟩:=g.slice;have D:=xZ;have F:=AE;have J:=PZ;have G:=DK;have I:=AD;have H:=DL;have E:=IB;obtain⟨b,i⟩:=Loc.new h (.cells #[Iv0 c.line,.string (bs c.text),.slice o c.kids.length x] 224);have j:=aB b;have B:=aB (TC cb l lo fs a r u d A c (.slice o c.kids.length x) seen (w.alloc (.cells #[Iv0 c.line,.string (bs c.text),.slice o c.kids.length x] 224)) i (g.below b.fb.bel) y q (by have:=uD y;omega))
 clear h b i;generalize iP fs (fU a) d c.kids (eJ fs (fU a) ⟨seen,0,0⟩ c)=c at*;go_in
 go_wp2_with fail;refine B.mono ?_;rintro e C ⟨n,⟨s,z,rfl,m⟩|⟨g,rfl⟩⟩
 ·have p:=aB (j.fb.trans n);have t:=aB m;subst z;clear n m;go_wp2
  go_end0;exact dB.done p rfl t
 ·have p:=aB (j.fb.trans n);have t:=aB g;clear n g;go_wp2_with fail;exact⟨rfl,dB.fault (c1:=c) p t (Stk.refl _)⟩
def RJ(cb k lo:Nat)(fs:List aC)(b:aQ)(d:Nat)(z:jS cb k lo fs b d)(seen:cO)(w:aH)(h:CK cb k lo fs b w seen)(l:Nat)(t a:aC)(v1:aQ)(x:PN (Btw lo k) w v1 a)(q:fF d a)(r:seen.length+bY d a<=90000):
 Calls prog 91 #[bO cb,.iface 210 (.agg #[Iv0 l,Iv0 t.line,.string (bs t.text),v1])] w (dB cb k lo fs b w (({ aN fs (fU b) d a (Hs.declaresL ⟨seen,0,0⟩ t) with seen:=(aN fs (fU b) d a (Hs.declaresL ⟨seen,0,0⟩ t)).seen++[t.text] }:aZ))):=by
 obtain⟨o,g,rfl⟩:=x.form;have C:=sQ;obtain⟨f,i⟩:=Loc.new h (.cells #[Iv0 l,Iv0 t.line,.string (bs t.text),.iface o (.agg g)] 210);have j:=aB f;have A:=aB (OO cb k lo fs b d z (w.alloc (.cells #[Iv0 l,Iv0 t.line,.string (bs t.text),.iface o (.agg g)] 210)) seen i l t a (.iface o (.agg g)) (x.below f.fb.bel) q r);clear h f i;generalize ({ aN fs (fU b) d a (Hs.declaresL ⟨seen,0,0⟩ t) with seen:=(aN fs (fU b) d a (Hs.declaresL ⟨seen,0,0⟩ t)).seen++[t.text] }:aZ)=c at*
 go_in
 go_wp2_with fail;refine A.mono ?_;rintro e B ⟨n,⟨s,y,rfl,m⟩|⟨v,rfl⟩⟩
 ·have p:=aB (j.fb.trans n);have u:=aB m;subst y;clear n m;go_wp2
  go_end0;exact dB.done p rfl u
 ·have p:=aB (j.fb.trans n);have u:=aB v;clear n v;go_wp2_with fail;exact⟨rfl,dB.fault (c1:=c) p u (Stk.refl _)⟩
def RI(cb j lo:Nat)(fs:List aC)(n:aQ)(seen:cO)(w:aH)(h:CK cb j lo fs n w seen)(l m:Nat):
 Calls prog 91 #[bO cb,.iface 221 (.agg #[Iv0 l,.iface 279 (.agg #[Iv0 m,Iv0 0])])] w (dB cb j lo fs n w ((⟨seen,0,0⟩:aZ))):=by
 have t:=nD;have u:=nS;have y:=tO;have v:=oW;have x:=nR;obtain⟨a,b⟩:=Loc.new h (.cells #[Iv0 l,.iface 279 (.agg #[Iv0 m,Iv0 0])] 221);have d:=aB a;have q:=aB (FU cb j lo fs n seen (w.alloc (.cells #[Iv0 l,.iface 279 (.agg #[Iv0 m,Iv0 0])] 221)) b m 0);clear h a b;generalize (⟨seen,0,0⟩:aZ)=c at*;go_in
 go_wp2_with fail;refine q.mono ?_;rintro e r ⟨g,⟨s,p,rfl,f⟩|⟨o,rfl⟩⟩
 ·have i:=aB (d.fb.trans g);have k:=aB f;subst p;clear g f;go_wp2
  go_end0;exact dB.done i rfl k
 ·have i:=aB (d.fb.trans g);have k:=aB o;clear g o;go_wp2_with fail;exact⟨rfl,dB.fault (c1:=c) i k (Stk.refl _)⟩
def eB{fs:List aC}{b:Bool}{d:Nat}{a:aC}{s:aZ}(c:(a.op==[118,97,114])=false)(e:(a.op==[98,108,111,99,107])=false):aN fs b (d+1) a s=iP fs b d a.kids (cG fs b s a):=by
 rw[aN,if_neg (by rw[c];simp)]
 simp only[e];rfl
def look_plain{fs:List aC}{c:Bool}{a:aC}{s:aZ}(d:(a.op==[115,101,116])=false)(b:(a.op==[110,97,109,101])=false)(e:(a.op==[99,97,108,108])=false):cG fs c s a=s:=by
 unfold cG;rw[d,b,e];rfl
def MW{fs:List aC}{b:Bool}{a:aC}{s:aZ}(h:(a.op==[115,101,116] || a.op==[110,97,109,101])=true):cG fs b s a=zI s a.line a.text:=by
 unfold cG;rw[h];rfl
def FX{fs:List aC}{b:Bool}{a:aC}{s:aZ}(h:a.op=[99,97,108,108]):cG fs b s a=eJ fs b s a:=by
 unfold cG;rw[h];rfl
def ML{x y:cE}(h:cB x≠9)(a:cB y=9):(x==y)=false:=by
 rw[beq_eq_false_iff_ne];intro e;rw[e] at h;exact h a
def WO(cb q lo:Nat)(fs:List aC)(p:aQ)(F:fs.length<=90000)(H:∀f∈fs,f.kids.length<=90000)(d:Nat)(IHs:∀e,e<=d->jS cb q lo fs p e):jS cb q lo fs p (d+1):=by
 intro v a seen w h P D j;obtain⟨T,X,W,rfl,M,m⟩:=P.parts;have x:=IHs d dH;have J:=qY cb q lo fs p d x
 have B:rI cb q lo fs p d:=by
  cases d with
  |zero=>exact fun _ _ _ _ _ _ _ Q _=>Q.elim
  |succ e=>exact PD (qY cb q lo fs p e (IHs e (by omega)))
 rw[bY] at j;have i:∀k∈a.kids,fF d k:=D;clear P D;rcases M with ⟨rfl,k,rfl,b,N,g,rfl⟩|⟨rfl,rfl,b,g,rfl⟩|⟨rfl,rfl,b,g,rfl⟩|⟨rfl,z,rfl,b,rfl⟩|⟨rfl,z,rfl,b,rfl⟩|⟨rfl,rfl,b,g,rfl⟩|⟨rfl,l,r,G,n,C,rfl,b,g,rfl⟩|⟨rfl,o,r,n,rfl,V,b,g,rfl⟩|⟨rfl,l,r,G,n,C,rfl,b,g,rfl⟩|⟨rfl,r,t,n,rfl,b,g,rfl⟩|⟨rfl,z,r,l,n,rfl,b,g,rfl⟩|⟨rfl,r,A,n,s,rfl,b,y,g,rfl⟩|⟨rfl,r,A,O,n,s,K,rfl,b,y,L,g,rfl⟩|⟨rfl,r,A,n,s,rfl,b,y,g,rfl⟩|⟨rfl,l,rfl,b,g,rfl⟩|⟨rfl,r,n,rfl,b,g,rfl⟩|⟨rfl,r,n,rfl,b,g,rfl⟩|⟨rfl,z,c,rfl,b,U,S,g,u,rfl⟩
 ·have e:aN fs (fU p) (d+1) a ⟨seen,0,0⟩=⟨seen,0,0⟩:=by rw[eB (by rw[b];decide) (by rw[b];decide),look_plain (by rw[b];decide) (by rw[b];decide) (by rw[b];decide),g];rfl
  rw[e];exact FU cb q lo fs p seen w h _ k
 ·have e:aN fs (fU p) (d+1) a ⟨seen,0,0⟩=⟨seen,0,0⟩:=by rw[eB (by rw[b];decide) (by rw[b];decide),look_plain (by rw[b];decide) (by rw[b];decide) (by rw[b];decide),g];rfl
  rw[e];exact WT cb q lo fs p seen w h _ _
 ·have e:aN fs (fU p) (d+1) a ⟨seen,0,0⟩=⟨seen,0,0⟩:=by rw[eB (by rw[b];decide) (by rw[b];decide),look_plain (by rw[b];decide) (by rw[b];decide) (by rw[b];decide),g];rfl
  rw[e];exact L8 cb q lo fs p seen w h _ _
 ·rw[eB (by rw[b];decide) (by rw[b];decide),look_plain (by rw[b];decide) (by rw[b];decide) (by rw[b];decide)]
  exact L7 cb q lo fs p d J seen w h _ z a.kids (m _ (Z1.2 rfl)).many i (by omega)
 ·rw[eB (by rw[b];decide) (by rw[b];decide),FX b]
  exact UC cb q lo fs p F H d J a z seen w h (m _ (Z1.2 rfl)).many i (by omega)
 ·have e:aN fs (fU p) (d+1) a ⟨seen,0,0⟩=zI ⟨seen,0,0⟩ a.line a.text:=by rw[eB (by rw[b];decide) (by rw[b];decide),MW (by rw[b];decide),g];rfl
  rw[e];exact MS cb q lo fs p seen w h _ _ (by omega)
 ·rw[eB (by rw[b];decide) (by rw[b];decide),look_plain (by rw[b];decide) (by rw[b];decide) (by rw[b];decide),g]
  rw[g] at j i;simp only[b9,m7,d9,n9] at j;exact D0 cb q lo fs p d x seen w h l r n (m _ (by simp)).one' (i n (by simp)) G C (m ⟨G,[C],true⟩ (by simp)).one' (i C (by simp)) (by omega)
 ·have I:a.op=[45,120]\/a.op=[33,120]:=by rcases V with rfl|rfl<;>simp[b]
  have e:aN fs (fU p) (d+1) a ⟨seen,0,0⟩=aN fs (fU p) d n ⟨seen,0,0⟩:=by
   rcases I with b|b<;>(rw[eB (by rw[b];decide) (by rw[b];decide),look_plain (by rw[b];decide) (by rw[b];decide) (by rw[b];decide),g];rfl)
  rw[e];rw[g] at j i;simp only[b9,m7,d9,n9] at j;exact C8 cb q lo fs p d x seen w h _ _ r n (m _ (by simp)).one' (i n (by simp)) (by omega)
 ·rw[eB (ML b (by decide)) (ML b (by decide)),look_plain (ML b (by decide)) (ML b (by decide)) (ML b (by decide)),g]
  rw[g] at j i;simp only[b9,m7,d9,n9] at j;exact WV cb q lo fs p d x seen w h l _ r n (m _ (by simp)).one' (i n (by simp)) G C (m ⟨G,[C],true⟩ (by simp)).one' (i C (by simp)) (by omega)
 ·have e:aN fs (fU p) (d+1) a ⟨seen,0,0⟩={ aN fs (fU p) d n (Hs.declaresL ⟨seen,0,0⟩ t) with seen:=(aN fs (fU p) d n (Hs.declaresL ⟨seen,0,0⟩ t)).seen++[t.text] }:=by
   rw[aN,if_pos (by rw[b];rfl),g]
  rw[e];rw[g] at j i;simp only[b9,m7,d9,n9] at j;exact RJ cb q lo fs p d x seen w h _ t n r (m _ (by simp)).one' (i n (by simp)) (by omega)
 ·rw[eB (by rw[b];decide) (by rw[b];decide),MW (by rw[b];decide),g]
  rw[g] at j i;simp only[m6,b9,m7,z6,d9,n9] at j
  have e:iP fs (fU p) d (l++[n]) (zI ⟨seen,0,0⟩ a.line a.text)=aN fs (fU p) d n (iP fs (fU p) d l (zI ⟨seen,0,0⟩ a.line a.text)):=by
   show List.foldl _ _ (l++[n])=_
   rw[List.foldl_append];rfl
  rw[e];exact WW cb q lo fs p d x J seen w h _ _ z l (m ⟨z,l,false⟩ (by simp)).many (fun k N=>i k (j2 _ N)) r n (m ⟨r,[n],true⟩ (by simp)).one' (i n (by simp)) (by omega)
 ·rw[eB (by rw[b];decide) (by rw[b];decide),look_plain (by rw[b];decide) (by rw[b];decide) (by rw[b];decide),g]
  rw[g] at j i;simp only[b9,m7,d9,n9] at j;exact S9 cb q lo fs p d x J B seen w h _ r n (m ⟨r,[n],true⟩ (by simp)).one' (i n (by simp)) A s y (m ⟨A,s.kids,false⟩ (by simp)).many (i s (by simp)) (by omega)
 ·rw[eB (by rw[b];decide) (by rw[b];decide),look_plain (by rw[b];decide) (by rw[b];decide) (by rw[b];decide),g]
  rw[g] at j i;simp only[b9,m7,d9,n9] at j;exact W4 cb q lo fs p d x B seen w h _ r n (m ⟨r,[n],true⟩ (by simp)).one' (i n (by simp)) A s y (m ⟨A,s.kids,false⟩ (by simp)).many (i s (by simp)) O K L (m ⟨O,K.kids,false⟩ (by simp)).many (i K (by simp)) (by omega)
 ·rw[eB (by rw[b];decide) (by rw[b];decide),look_plain (by rw[b];decide) (by rw[b];decide) (by rw[b];decide),g]
  rw[g] at j i;simp only[b9,m7,d9,n9] at j;exact C7 cb q lo fs p d x B seen w h _ r n (m ⟨r,[n],true⟩ (by simp)).one' (i n (by simp)) A s y (m ⟨A,s.kids,false⟩ (by simp)).many (i s (by simp)) (by omega)
 ·have e:aN fs (fU p) (d+1) a ⟨seen,0,0⟩=⟨seen,0,0⟩:=by rw[eB (by rw[b];decide) (by rw[b];decide),look_plain (by rw[b];decide) (by rw[b];decide) (by rw[b];decide),g];rfl
  rw[e];exact RI cb q lo fs p seen w h _ l
 ·rw[eB (by rw[b];decide) (by rw[b];decide),look_plain (by rw[b];decide) (by rw[b];decide) (by rw[b];decide),g]
  rw[g] at j i;simp only[b9,m7,d9,n9] at j;exact WU cb q lo fs p d x seen w h _ r n (m _ (by simp)).one' (i n (by simp)) (by omega)
 ·rw[eB (by rw[b];decide) (by rw[b];decide),look_plain (by rw[b];decide) (by rw[b];decide) (by rw[b];decide),g]
  rw[g] at j i;simp only[b9,m7,d9,n9] at j;exact C9 cb q lo fs p d x seen w h _ r n (m _ (by simp)).one' (i n (by simp)) (by omega)
 ·rw[eB (by rw[b];decide) (by rw[b];decide),look_plain (by rw[b];decide) (by rw[b];decide) (by rw[b];decide),g]
  rw[g] at j i;simp only[b9,m7,d9,n9] at j;have E:=i c (by simp)
  cases d with
  |zero=>exact E.elim
  |succ e=>
   show Calls _ _ _ _ (dB cb q lo fs p w (aN fs (fU p) (e+1) c ⟨seen,0,0⟩))
   rw[bY] at j;rw[eB (by rw[u];decide) (by rw[u];decide),FX u]
   exact UC cb q lo fs p F H e (qY cb q lo fs p e (IHs e (by omega))) c z seen w h (m ⟨z,c.kids,false⟩ (by simp)).many E (by omega)
def C5(cb c lo:Nat)(fs:List aC)(g:aQ)(b:fs.length<=90000)(a:∀f∈fs,f.kids.length<=90000)(d:Nat):jS cb c lo fs g d:=by
 induction d using Nat.strongRecOn with
 |_ d i=>
  cases d with
  |zero=>exact fun _ _ _ _ _ _ h _=>h.elim
  |succ d=>exact WO cb c lo fs g b a d fun e j=>i e (by omega)
def Q8{ps:List aC}(k:Nat)(b:k<ps.length):(ZI ps)[k*2]?=some (Iv0 ps[k].line)/\(ZI ps)[k*2+1]?=some (.string (bs ps[k].text)):=by
 induction ps generalizing k with
 |nil=>simp at b
 |cons a ps c=>
  cases k with
  |zero=>exact⟨rfl,rfl⟩
  |succ k=>
   have:=c k (by simpa using b)
   have e:∀j,(ZI (a::ps))[(k+1)*2+j]?=(ZI ps)[k*2+j]?:=fun j=>by
    rw[ZI,show (k+1)*2+j=k*2+j+1+1 by omega];rfl
   exact⟨(e 0).trans this.1,(e 1).trans this.2⟩
def PNm.get{F:cC}{w:aH}{v:aQ}{ps:List aC}(h:PNm F w v ps):(v=bV/\ps=[])\/∃g a,v=.slice (some (aL g 0)) ps.length a/\F g/\g<w.heap.size/\ps.length<=a/\∀k (b:k<ps.length),w.cell? (aL g (k*2))=some (Iv0 ps[k].line)/\w.cell? (aL g (k*2+1))=some (.string (bs ps[k].text)):=by
 obtain⟨_,h|⟨g,a,o,l,f,d,i,m⟩⟩:=h
 ·exact Y4 h
 ·refine Y3 ⟨g,a,l,f,aD d,i,fun k b=>?_⟩
  obtain⟨p,n⟩:=Q8 k b
  have e:∀j u,j<ps.length*2->(ZI ps)[j]?=some u->w.cell? (aL g j)=some u:=fun j u q c=>by
   refine aA d ?_;rw[<-m,i8,if_pos q] at c;simpa using c
  exact⟨e _ _ (by omega) p,e _ _ (by omega) n⟩
def BT{F:cC}{w:aH}:∀{us:List Value} {fs:List aC} (i:Nat),jZ (yY F w) us fs->i<=fs.length->(jP us).take (i*4)=jP (us.take i)
 |[],[],i,_,h=>by simp[jP]
 |u::us,f::fs,0,_,_=>by simp[jP]
 |u::us,f::fs,i+1,⟨⟨g,d,j,b,c,_⟩,h⟩,e=>by
  subst c;have a:=BT i h (by simpa using e)
  rw[v8,jP,jP,<-a,List.take_append];have:(wE (Value.agg #[Iv0 f.line,.string (bs f.text),g,d])).length=4:=rfl;rw[this,j7 (by rw[this];omega)]
  congr 2;omega
 |[],_::_,_,h,_=>h.elim
 |_::_,[],_,h,_=>h.elim
def jZ.take{R:Value->aC->Prop}:∀{vs ks} (i:Nat),jZ R vs ks->jZ R (vs.take i) (ks.take i)
 |_,_,0,_=>by simp[jZ]
 |[],[],_+1,_=>trivial
 |_::_,_::_,i+1,⟨b,a⟩=>⟨b,jZ.take i a⟩
 |[],_::_,_,h=>h.elim
 |_::_,[],_,h=>h.elim
def FSl.take{F:cC}{w:aH}{g a:Nat}{fs:List aC}(h:FSl F w (.slice (some (aL g 0)) fs.length a) fs)(i:Nat)(m:i<=fs.length):FSl F w (.slice (some (aL g 0)) i a) (fs.take i):=by
 rcases h with ⟨b,_⟩|⟨p,d,c,n,b,j,l,o,k,f⟩
 ·cases b
 ·cases b;have e:(fs.take i).length=i:=by rw[o9];omega
  refine Y3 ⟨g,a,c,n.take i,by rw[e],j,l,by omega,?_,f.take i⟩
  rw[e,<-BT i f m,<-k,ag_];congr 1;omega
def CK.reset{cb c lo:Nat}{fs:List aC}{d i:aQ}{w:aH}{seen:cO}(h:CK cb c lo fs d w seen)(a:w.heap[cb]?=some (.cells #[d,i] 156 (0,0))):
 FB cb c w (w.setCell (aL cb 1) (bV))/\CK cb c lo fs d (w.setCell (aL cb 1) (bV)) []:=by
 have g:=aD a;have e:Below c w (w.setCell (aL cb 1) (bV)):=(Y8 _ _).setCell h.lt.2 _;have f:(w.setCell (aL cb 1) (bV)).heap[cb]?=some (.cells #[d,bV] 156 (0,0)):=by rw[aT a];rfl
 refine⟨⟨e,fun k b j l=>Y6 _ _ _ _ (by show k≠cb;exact j),fun k b=>?_⟩,⟨bV,f,World.ownsRow_nil _ _ _ _,(by simp[Value.ownBlock]),h.lt.2⟩,h.fun_.keep fun k b=>e.block k b.2⟩
 rw[mO f] at b;cases b
def RB(a:List aC)(x:cE):(kX a x).isSome=(fY x || !(dO a x).isNone):=by
 unfold kX fY;cases x==[108,101,110]<;>cases x==[114,101,97,100]<;>cases dO a x<;>rfl
def BG(fs:List aC)(d:Nat)(s:aZ)(k:aC):Stk s (eQ fs d s k):=by
 unfold eQ;split
 ·exact(Stk.declares s k).trans (Stk.seen _ _)
 ·exact Stk.walk fs false d k s
def B8(fs:List aC)(d:Nat)(s:aZ)(k:aC)(h:k.op=[112,97,114,97,109]):eQ fs d s k={ Hs.declaresL s k with seen:=(Hs.declaresL s k).seen++[k.text] }:=by
 unfold eQ;rw[h];rfl
def B9(fs:List aC)(d:Nat)(s:aZ)(k:aC)(h:k.op=[98,108,111,99,107]):eQ fs d s k=aN fs false d k s:=by
 unfold eQ;rw[h];rfl
def S4(cb tp lo:Nat)(fs:List aC)(fv:aQ)(d:Nat)(w:aH)(b0:Nat)(o:Obj)(ps:List aC)(b:aC)(c:aZ)(gk:Nat)(i:aQ)(wr:aH):Prop:=
 ∃k s,k+gk=ps.length/\i=Iv0 (k:Nat)/\Loc cb tp w b0 o wr/\CK cb tp lo fs fv wr s/\c=(ps.drop k++[b]).foldl (eQ fs d) ⟨s,0,0⟩/\s.length=k
def ST(fs:List aC)(d:Nat)(seen:cO)(f:aC)(first:Bool)(h:(fY f.text || !first)=true):Stk ⟨[],6,f.line⟩ (gD fs d ⟨seen,0,0⟩ f first):=by
 unfold gD;rw[h];exact Stk.fold (BG fs d) _ _
def O8(fs:List aC)(d:Nat)(seen:cO)(f:aC)(first:Bool)(h:(fY f.text || !first)=false):gD fs d ⟨seen,0,0⟩ f first=f.kids.foldl (eQ fs d) ⟨[],0,0⟩:=by
 unfold gD;rw[h];rfl
def YQ(cb B lo:Nat)(fs:List aC)(g n:Nat)(ck:fs.length<=90000)(I:∀f∈fs,f.kids.length<=90000)(d i:Nat)(hi:i<fs.length)(seen:List (List UInt8))(w:World)(h:CK cb B lo fs (FV (.slice (some ⟨g,0,none⟩) fs.length n)) w seen)
 (hd:∀k∈fs[i].kids,fF d k) (hw:fs[i].kids.length+(fs[i].kids.map (bY d)).sum<=90000):
 Calls prog 108 #[.pointer (some ⟨cb,0,none⟩),.slice (some ⟨g,0,none⟩) fs.length n,.int .i64 i] w (dB cb B lo fs (FV (.slice (some ⟨g,0,none⟩) fs.length n)) w (gD fs d ⟨seen,0,0⟩ fs[i] (dO (fs.take i) fs[i].text).isNone)):=by
 obtain⟨_,K,ab⟩|⟨K,_⟩:=h.fun_
 rotate_left
 ·cases K
 cases K;rcases ab.cells with ⟨h1,_⟩|⟨g',df,h1,cx,ds,da,hc⟩
 ·cases h1
 cases h1;obtain⟨pv,bv,o,b,e0,e1,e2,e3,z,ad,au,am⟩:=hc i hi;obtain⟨T,X,rfl⟩:=ad.slice;obtain⟨M,N,rfl⟩:=am.slice;have az:=aB (RB (fs.take i) fs[i].text);have bl:=I fs[i] (e8 hi);have bt:=aB (ab.take i (by omega))
 generalize dw:fs[i]=f at*;have bz:=aB (fun hx=>ST fs d seen f (dO (fs.take i) f.text).isNone hx)
 have cj:=aB (fun hx=>O8 fs d seen f (dO (fs.take i) f.text).isNone hx)
 have ai:=h.lt;obtain⟨an,aw⟩:=Loc.new h (.cells #[.int .i64 f.line,.string (bs f.text),.slice T o.length X,.slice M b.kids.length N] 183);obtain⟨sx,sc,U,dq,dd,bm, -⟩:=h.cut;obtain⟨q,c0,O,f1⟩:=jG U;have bw:=aB an;have ca:=aB aw;have bd:=aB ad;have cv:=aB am;have ax:=aB au;have ak:=aB z;have HD:=aB hd;have HW:=aB hw;have dx:=aB I;have ch:i<=n:=by omega
 have HBLK:Hid (rI cb B lo fs (FV (.slice (some ⟨g,0,none⟩) fs.length n)) d):=by
  cases d with
  |zero=>exact fun _ _ _ _ _ _ _ hd _=>hd.elim
  |succ e=>exact PD (qY cb B lo fs _ e (C5 cb B lo fs _ ck I e))
 have dh:o.length<=90000:=by rw[z] at bl;simp at bl;omega
 have co:Hid (Below w.heap.size w (w.alloc (.cells #[.int .i64 f.line,.string (bs f.text),.slice T o.length X,.slice M b.kids.length N] 183))):=(Y8 _ _).alloc (Z7 _) _;have J:=aB (BJ (fs.take i) (Btw lo B) (.slice (some ⟨g,0,none⟩) i n) f.text (w.alloc (.cells #[.int .i64 f.line,.string (bs f.text),.slice T o.length X,.slice M b.kids.length N] 183)).drew (by rw[o9];omega) (fun f hf=>I f (an_ hf)) (bt.out.keep fun k hk=>by have:=hk.2;exact Z3 _ _ _ (by omega)))
 rw[az.out] at J;generalize cz:((kX (List.take i fs) f.text).getD 0)=pn at J;obtain⟨tk,aj⟩:∃tk,tk=(fY f.text || !(dO (fs.take i) f.text).isNone):=⟨_,rfl⟩
 rw[<-aj] at J;have ao:=aB aj;obtain⟨cc,r⟩:∃cc,cc=gD fs d ⟨seen,0,0⟩ f (dO (fs.take i) f.text).isNone:=⟨_,rfl⟩;rw[<-r];have ba:=aB r;clear cz aj r h an aw ad am au z hd hw I ab hc U bm az bt cx;go_enter func108,ntmps108;go_wp2_with fail;go_cut [7,8] (fun _ tv wc=>tv=.bool tk/\Below w.heap.size w wc/\Loc cb B w w.heap.size (.cells #[.int .i64 f.line,.string (bs f.text),.slice T o.length X,.slice M b.kids.length N] 183) wc/\CK cb B lo fs (FV (.slice (some ⟨g,0,none⟩) fs.length n)) wc seen)
 case first=>
  go_region_law (go_simp;go_at_call 106;refine J.out.mono ?_;rintro e w1 ⟨rfl,bu⟩;have ag:=aB ((Y8 (w.alloc (.cells #[.int .i64 f.line,.string (bs f.text),.slice T o.length X,.slice M b.kids.length N] 183)).heap.size (w.alloc (.cells #[.int .i64 f.line,.string (bs f.text),.slice T o.length X,.slice M b.kids.length N] 183))).drew.trans bu);clear bu)
  all_goals
   go_wp2_with fail;go_meet
   case rel=>exact⟨rfl,co.out.trans (ag.out.mono (by simp)),bw.out.step (FB.of_below ag.out (by simp;omega)),ca.out.grow ag.out⟩
 case rest=>
  obtain⟨rfl,aq,y,S⟩:=hcut;clear c0 O f1 q e0 e1 e2 e3;obtain⟨dr,dn,v,dj,cu,ac, -⟩:=S.cut;obtain⟨q,c0,O,f1⟩:=jG v;have cm:=aB y;have du:=aB S;have m0:=aA y.blk (i:=0) rfl;have m1:=aA y.blk (i:=1) rfl;have m2:=aA y.blk (i:=2) rfl;have m3:=aA y.blk (i:=3) rfl;have Q:=aD y.blk;have Z:=aB (S.reset v);have bq:=aB aq;clear y S v ac aq J;cases tk;rotate_left
  ·go_wp2_with fail;refine(qG f.line _).mono ?_;rintro e L ⟨rfl,c⟩;have u:=aB (bq.out.trans (c.mono bq.out.size));clear c;go_wp2_with (go_at_call 107;refine(gN 6 f.line _).mono ?_;rintro e w3 ⟨rfl,hw⟩;obtain rfl:=hw.symm)
   exact⟨rfl,dB.fault (c1:=⟨[],6,f.line⟩) (FB.of_below u.out ai) (by simp) (by rw[ba.out];exact bz.out ao.out.symm)⟩
  have HI:Hid (S4 cb B lo fs (FV (.slice (some ⟨g,0,none⟩) fs.length n)) d w w.heap.size (.cells #[.int .i64 f.line,.string (bs f.text),.slice T o.length X,.slice M b.kids.length N] 183) o b cc o.length (.int .i64 (0:Nat)) (wc.setCell ⟨cb,1,none⟩ (.slice none 0 0))):=
   ⟨0,[],by omega,rfl,cm.out.step Z.out.1,Z.out.2,by rw[ba.out,cj.out ao.out.symm,ak.out];rfl,rfl⟩
  have dg:¬cb=w.heap.size:=by omega
  have ci:¬w.heap.size=cb:=by omega
  obtain⟨i0,cy,cf,bk,cs⟩:=info_parts UH;go_wp2_with fail;go_loopg [10,37] o.length (fun gk _ iv wr=>S4 cb B lo fs (FV (.slice (some ⟨g,0,none⟩) fs.length n)) d w w.heap.size (.cells #[.int .i64 f.line,.string (bs f.text),.slice T o.length X,.slice M b.kids.length N] 183) o b cc gk iv wr)
  case atStart=>exact HI.out
  case round=>
   obtain⟨k,s,hk,rfl,l,C,r,av⟩:=hrel;have bp:=aB av;have dc:s.length<=90000:=by omega
   clear av;have P:=aB l;have dm:=aB C;have bi:=aB r;clear m0 m1 m2 m3 Q c0 O f1 q HI Z;have m0:=aA l.blk (i:=0) rfl;have m1:=aA l.blk (i:=1) rfl;have m2:=aA l.blk (i:=2) rfl;have m3:=aA l.blk (i:=3) rfl;have Q:=aD l.blk;have ea:=C.lt;by_cases q:k<o.length
   ·obtain⟨j,rfl⟩:∃j,gk=j+1:=⟨gk-1,by omega⟩
    rcases bd.out.get with ⟨_,ap⟩|⟨pg,db,K,al,cp,cw,F⟩
    ·rw[ap] at q;simp at q
    obtain⟨bn,bg⟩:=F k q;have bo:=bd.out.1 o[k] (e8 q);have ar:o.drop k=o[k]::o.drop (k+1):=(y6 q).symm;have W:cc=(o.drop (k+1)++[b]).foldl (eQ fs d) (eQ fs d ⟨s,0,0⟩ o[k]):=by rw[r,ar];rfl
    generalize o[k]=a at*;cases K;have r0:wr.cell? ⟨pg,k*2,none⟩=some (.int .i64 a.line):=(l.fb.bel.cell (p:=⟨pg,k*2,none⟩) al.2).trans bn;have r1:wr.cell? ⟨pg,k*2+1,none⟩=some (.string (bs a.text)):=(l.fb.bel.cell (p:=⟨pg,k*2+1,none⟩) al.2).trans bg;have de:pg<wr.heap.size:=Y7 (Nat.lt_trans (Y7 al.2 ai.2) ai.1) l.fb.bel.size;obtain⟨bf,G⟩:=Loc.new C (.cells #[.int .i64 a.line,.string (bs a.text)] 179);have ae:=aB bf;have HM:=aB (qD cb B lo fs _ (wr.alloc (.cells #[.int .i64 a.line,.string (bs a.text)] 179)) s G (by omega) a.line a.text)
    have bb:Hid (Hs.declaresL ⟨s,0,0⟩ a=if fY a.text || s.contains a.text then aZ.found ⟨s,0,0⟩ a.line 6 else ⟨s,0,0⟩):=rfl
    rw[<-bb.out] at HM;have Y:=aB (B8 fs d ⟨s,0,0⟩ a bo);have be:=mW ⟨s,0,0⟩ a;have cn:=aB be;have t:=aB W;clear r W ar bn bg F cw cp bi be bb bf G l C bo;generalize Hs.declaresL ⟨s,0,0⟩ a=O at*;go_wp2_with fail;refine HM.out.mono ?_;rintro e L ⟨c,⟨s2,rfl,rfl,m⟩|⟨E,rfl⟩⟩
    rotate_left
    ·have cr:=aB (P.out.fb.trans (ae.out.fb.trans c));have HK:=aB E;clear c E;go_wp2_with fail;exact⟨rfl,dB.fault (c1:=O) cr.out HK.out (by rw[t.out,Y.out];exact(Stk.seen _ _).trans (Stk.fold (BG fs d) _ _))⟩
    obtain rfl:s2=s:=cn.out;have ah:=aB (ae.out.step c);have HLb:=aB ((P.out.step ae.out.fb).step c);obtain⟨cd,cg,x,dl,ce,D,br⟩:=m.cut;obtain⟨dk,c0,O,f1⟩:=jG x;have n0:=aA ah.out.blk (i:=0) rfl;have n1:=aA ah.out.blk (i:=1) rfl;have dz:=aD ah.out.blk;clear m0 m1 m2 m3 Q r0 r1;have m0:=aA HLb.out.blk (i:=0) rfl;have m1:=aA HLb.out.blk (i:=1) rfl;have m2:=aA HLb.out.blk (i:=2) rfl;have m3:=aA HLb.out.blk (i:=3) rfl;have Q:=aD HLb.out.blk;have u:=aB (show L.drew.heap[cb]?=_ from x)
    have ay:=aB (show L.drew.ownsRow _ _ _ _ _ _ from D)
    have H:=aB (show CK cb B lo fs (FV (.slice (some ⟨g,0,none⟩) fs.length n)) L.drew s2 from m.grow (Y8 _ _).drew)
    have ct:=aB br;have cq:=aB (FB.of_below (cb:=cb) (Y8 L.heap.size L).drew m.lt);clear x D m c HM;go_wp2_with fail;go_region_law (refine step_append_lies _ (by rfl) _ _ 32 (by rfl) B 9 i0 _ 1 16 underlying32 cy cf bk cs rfl (by decide) (.slice cd s2.length cg) s2.length (kJ s2) (by rfl) (ay.out.alloc _) ⟨L.heap.size,0,none⟩ 1 1 [.string (bs a.text)] (by rfl) (by rfl) (MR L.drew _) (TZ _) (by decide) (by unfold maxLen;omega) (by omega) (by simp;omega) (L.heap.size+1) (by simp) ?_;intro g5 di w5 af A bj eb;have bh:=CO u.out A ct.out;obtain⟨dv, -,q1,dt⟩:=jG bh;clear bh)
    all_goals
     go_wp2_with fail;go_roundg j
     case measure=>omega
     case rel=>
      have V:=H.out.add u.out ay.out af A (bj.imp_right fun e=>by show L.heap.size<=g5;omega)
      exact⟨k+1,s2++[a.text],by omega,by go_num,(HLb.out.step cq.out).step V.1,V.2,by rw[t.out,Y.out],by have:=bp.out;simp;omega⟩
   ·have dy:k=o.length:=by omega
    have aa:fF d b/\s.length+bY d b<=90000:=by
     have h1:=HW.out;have h2:=HD.out b (by rw[ak.out];simp)
     rw[ak.out] at h1;simp only[Y5,m6,z6,b9,m7,d9,n9,Y9,Z5] at h1;have:=bp.out;exact⟨h2,by omega⟩
    have HX:=aB (HBLK.out (.slice M b.kids.length N) b s wr C ax.out (cv.out.below l.fb.bel) aa.1 aa.2)
    have t:Hid (cc=aN fs (fU (FV (.slice (some ⟨g,0,none⟩) fs.length n))) d b ⟨s,0,0⟩):=by
     show _=_
     rw[r,o8 (by omega)]
     exact B9 fs d _ b ax.out
    rw[<-t.out] at HX;clear l C r bi t aa;go_wp2_with fail;refine HX.out.mono ?_;rintro e L ⟨c,⟨s2,G,rfl,m⟩|⟨E,rfl⟩⟩
    ·have u:=aB (P.out.fb.trans c);have H:=aB m;have cl:=aB G;clear c m G;go_wp2_with fail;go_end0;exact dB.done u.out cl.out H.out
    ·have u:=aB (P.out.fb.trans c);have H:=aB E;clear c E;go_wp2_with fail;exact⟨rfl,dB.fault (c1:=cc) u.out H.out (Stk.refl _)⟩
def qE(fs:List aC):Bool:=kX fs [109,97,105,110]==some 0
def TB(fs:List aC)(F:cC)(o:aQ)(w:aH)(u:fs.length<=90000)(i:∀f∈fs,f.kids.length<=90000)(h:FSl F w o fs):
 Calls prog 72 #[o] w fun e s=>Below w.heap.size w s/\((qE fs=true/\e=bE (.tuple #[]))\/(qE fs=false/\e=dF 5 0)):=by
 have d:=aB (BJ fs F o [109,97,105,110] w (by omega) i h)
 have g:Hid (qE fs=(kX fs [109,97,105,110]==some 0)):=rfl;have b:=aB (fun n r=>TY i (x:=[109,97,105,110]) (n:=n) r)
 clear h i;rw[show bs [109,97,105,110]=⟨#[109,97,105,110]⟩ from rfl] at d
 obtain⟨j,l⟩:∃j,j=qE fs:=⟨_,rfl⟩;rw[<-l] at g ⊢
 clear l;cases c:kX fs [109,97,105,110] with
 |none=>
  obtain rfl:j=false:=by rw[g.out,c];rfl
  rw[c] at d;simp only[Option.getD_none,Option.isSome_none] at d;clear c g b;go_in
  go_wp2_with fail;refine d.mono ?_;rintro e p ⟨rfl,a⟩;have k:=aB a;clear a;go_wp2_with (go_at_call 107;refine(gN 5 0 _).mono ?_;rintro e t ⟨rfl,m⟩;obtain rfl:=m.symm)
  exact⟨rfl,k,Y3 ⟨trivial,rfl⟩⟩
 |some n=>
  have r:=b n c;rw[c] at d;simp only[Option.getD_some,Option.isSome_some] at d;cases n with
  |zero=>
   obtain rfl:j=true:=by rw[g.out,c];rfl
   clear c g b;go_in
   go_wp2_with fail;refine d.mono ?_;rintro e p ⟨rfl,a⟩;have k:=aB a;clear a;go_wp2
   go_end0;exact⟨k,Y4 ⟨trivial,rfl⟩⟩
  |succ n=>
   obtain rfl:j=false:=by rw[g.out,c];rfl
   clear c g b;have q:decide ((0:Int)<((n:Int)+1))=true:=decide_eq_true (by omega)
   go_in
   go_wp2_with fail;refine d.mono ?_;rintro e p ⟨rfl,a⟩;have k:=aB a;clear a;go_wp2_with (go_at_call 107;refine(gN 5 0 _).mono ?_;rintro e t ⟨rfl,m⟩;obtain rfl:=m.symm)
   exact⟨rfl,k,Y3 ⟨trivial,rfl⟩⟩
def UP(fs:List aC)(d:Nat):∀(a b:List aC) (s:aZ),Stk s (fC fs d b a s)
 |[],_,s=>Stk.refl s
 |n::a,b,s=>by
  rw[fC];refine Stk.trans ?_ (UP fs d a _ _);unfold gD;refine Stk.trans ?_ (Stk.fold (BG fs d) _ _);refine Stk.trans ?_ (Stk.seen _ _);split
  ·exact Stk.found _ _ _
  ·exact Stk.refl _
def TN(cb tp lo:Nat)(fs:List aC)(fv:aQ)(d:Nat)(w:aH)(c:aZ)(gk:Nat)(i:aQ)(wr:aH):Prop:=
 ∃k s,k+gk=fs.length/\i=Iv0 (k:Nat)/\Below cb w wr/\CK cb tp lo fs fv wr s/\c=fC fs d (fs.take k) (fs.drop k) ⟨s,0,0⟩
def OU(lo:Nat)(fs:List aC)(M:aQ)(w:aH)(d:Nat)(H:fs.length<=90000)(z:∀f∈fs,f.kids.length<=90000)(h:FSl (Btw lo w.heap.size) w M fs)(N:∀f∈fs,∀k∈f.kids,fF d k)(P:∀f∈fs,f.kids.length+(f.kids.map (bY d)).sum<=90000):
 Calls prog 73 #[M] w fun e U=>Below w.heap.size w U/\(((fC fs d [] fs ⟨[],0,0⟩).kind=0/\(fC fs d [] fs ⟨[],0,0⟩).line=0/\e=bE (.tuple #[]))\/((fC fs d [] fs ⟨[],0,0⟩).kind≠0/\e=dF (fC fs d [] fs ⟨[],0,0⟩).kind (fC fs d [] fs ⟨[],0,0⟩).line)):=by
 obtain⟨y,r,rfl⟩:∃x c,M=.slice x fs.length c:=by
  rcases h.cells with ⟨t,C⟩|⟨g,F,t,_⟩
  ·exact⟨none,0,by rw[t,C];rfl⟩
  ·exact⟨_,_,t⟩
 obtain⟨c,G⟩:∃c,c=fC fs d [] fs ⟨[],0,0⟩:=⟨_,rfl⟩;have p:Below w.heap.size w (w.alloc (.cells #[FV (.slice y fs.length r),bV] 156)):=(Y8 _ _).alloc dH _
 have W:Hid (TN w.heap.size w.heap.size lo fs (FV (.slice y fs.length r)) d w c fs.length (Iv0 (0:Nat)) (w.alloc (.cells #[FV (.slice y fs.length r),bV] 156))):=
  ⟨0,[],by omega,rfl,p,⟨⟨bV,aU _ _ rfl _,World.ownsRow_nil _ _ _ _,(by simp[Value.ownBlock]),dH⟩,Y4 ⟨_,rfl,h.keep fun k O=>p.block k O.2⟩⟩,by rw[G];rfl⟩
 rw[<-G];have V:=aB h;have L:=aB z;have Z:=aB N;have HW:=aB P;clear h p G z N P;go_in
 go_wp2_with fail;go_loopg [3,9] fs.length (fun gk _ i wr=>TN w.heap.size w.heap.size lo fs (FV (.slice y fs.length r)) d w c gk i wr)
 case atStart=>exact W
 case round=>
  obtain⟨k,s,O,rfl,D,q,l⟩:=hrel;have E:=aB D;by_cases b:k<fs.length
  ·obtain⟨j,rfl⟩:∃j,gk=j+1:=⟨gk-1,by omega⟩
   obtain⟨g,rfl⟩:∃g,y=some ⟨g,0,none⟩:=by
    rcases V.cells with ⟨t,C⟩|⟨g,F,t,_⟩
    ·rw[C] at b;simp at b
    ·cases t;exact⟨g,rfl⟩
   have K:fs[k]∈fs:=e8 b;have S:=aB (YQ w.heap.size w.heap.size lo fs g r H L d k b s wr q (Z _ K) (HW _ K));have A:fs.drop k=fs[k]::fs.drop (k+1):=(y6 b).symm
   have a:c=fC fs d (fs.take (k+1)) (fs.drop (k+1)) (gD fs d ⟨s,0,0⟩ fs[k] (dO (fs.take k) fs[k].text).isNone):=by
    rw[l,A,fC,i6 b]
   have n:=aB a;clear D q l a A K;generalize gD fs d ⟨s,0,0⟩ fs[k] (dO (fs.take k) fs[k].text).isNone=Y at*;go_wp2_with fail;refine S.mono ?_;rintro e T ⟨m,⟨s1,rfl,rfl,o⟩|⟨u,rfl⟩⟩
   rotate_left
   ·have I:=aB (E.trans m.bel);have v:=aB u;have B:Hid (Stk Y c):=by show Stk _ _;rw[n.out];exact UP fs d _ _ _
    clear m u;go_wp2_with fail;obtain⟨Q,X⟩:=B v;exact⟨rfl,I,Y3 ⟨by rw[Q];exact v,by rw[Q,X]⟩⟩
   have J:Hid (TN w.heap.size w.heap.size lo fs (FV (.slice (some (aL g 0)) fs.length r)) d w c j (Iv0 ((k+1:Nat):Int)) T):=⟨k+1,s1,by omega,rfl,E.trans m.bel,o,n⟩
   clear m o S;go_wp2
   go_roundg j
   case measure=>omega
   case rel=>exact J
  ·have a:c=⟨s,0,0⟩:=by rw[l,o8 (by omega)];rfl
   have n:=aB a;clear D q l a;go_wp2
   go_end0;rw[n.out];exact⟨E,Y4 ⟨rfl,rfl,rfl⟩⟩
structure NTabs(w:aH):Prop where
 er:∃te pe,w.cell? (aL 8 0)=some (.iface te pe)
 big:9<=w.heap.size
def NTabs.fr{w w':aH}{sb:Nat}(h:NTabs w)(a:Fr sb w w')(e:9<=sb):NTabs w':=by
 obtain⟨b,d,c⟩:=h.er;have:=h.big;have:=a.size;exact⟨⟨b,d,by rw[wF (a.block 8 (by omega) (by omega))];exact c⟩,by omega⟩
def WH(l:cE)(i:∀c∈l,eI c=true)(a:l≠[])(q:l.length<=100000)(w:aH)(k:NTabs w):
 Calls prog 207 #[.string (bs l),Iv0 10,Iv0 64] w fun e b=>Below w.heap.size w b/\((∃v,dK 0 l=some v/\e=bE (.tuple #[Iv0 (v:Nat),.nilIface]))\/(dK 0 l=none/\∃x T p,e=bE (.tuple #[Iv0 x,.iface T p]))):=by
 have m:(bs l).size=l.length:=iM l;rcases XQ l i a with ⟨v,f,d⟩|⟨f,d⟩
 ·refine(strconv_ParseInt_10_at64_ok (bs l) (by omega) v (by rw[jN];exact d) w).mono ?_
  rintro e b ⟨rfl,n⟩;refine⟨?_,Y4 ⟨v,f,rfl⟩⟩;rcases n with rfl|⟨t,rfl⟩
  ·exact Y8 _ _
  ·exact Lib.bytesWorld_below _ _ _
 ·obtain⟨h,g,o⟩:=k.er;refine(strconv_ParseInt_10_at64_range (bs l) (by omega) (by rw[jN];exact d) (.iface h g) w o (Y3 ⟨h,g,rfl⟩)).mono ?_
  rintro e b ⟨N,rfl,_,_,j⟩;exact⟨j,Y3 ⟨f,_,_,_,rfl⟩⟩
def sJ(c:UInt8):eK false c=eI c:=by unfold eK;simp
def LC(sb:Nat)(a:ByteArray)(n L:Nat)(w:aH)(h:SC sb a n L w)(Z:NTabs w)(F:9<=sb)(hs:a.size<=100000)(hn:n<a.size)(D:eI a[n]=true):
 Calls prog 184 #[bO sb] w (I0 sb a n L w (gP (a.data.toList.drop n) false)):=by
 obtain⟨k,m⟩:∃k,k=bL (eK false) (a.data.toList.drop n):=⟨_,rfl⟩
 have ac:k<=a.size-n:=by
  have:=kK (eK false) (a.data.toList.drop n);rw[m];simpa using this
 have aa:1<=k:=by
  rw[m,kO a n hn,qU _ _ _ (by rw[sJ];exact D)];omega
 have ae:n<=a.size:=by omega
 have Q:=(SC.cells h).1;have J:w.heap.size≠sb:=by omega
 have U:SC sb a n L (w.alloc (.cells #[Iv0 0,.string ⟨#[]⟩,Iv0 0,Iv0 0] 174)):=by unfold SC;rw[Z3 _ _ _ Q];exact h
 obtain⟨h0,c0,c1,V,f1,X⟩:=U.cells;have E:Hid (ZTok (w.alloc (.cells #[Iv0 0,.string ⟨#[]⟩,Iv0 0,Iv0 0] 174)).drew w.heap.size):=aU _ _ rfl _;have z:=aB (fun w=>tU (eK false) 183 (fun _ _=>rfl) (fun c w=>by rw[sJ];exact sW c w) (a.extract n a.size) w (by rw[qX];omega))
 rw[mT,<-m] at z;have y:=aB (nQ sb a n L k (w.alloc (.cells #[Iv0 0,.string ⟨#[]⟩,Iv0 0,Iv0 0] 174)).drew U (by omega) (by omega))
 obtain⟨d,o⟩:∃d,d=(a.data.toList.drop n).take k:=⟨_,rfl⟩;rw[<-o] at y;have j:d.length=k:=by rw[o,o9];simp;omega
 have G:=aB (fun W (hW:NTabs W)=>WH d (fun c Y=>by
  rw[o,m] at Y;rw[<-sJ];exact qV _ _ c Y) (fun e=>by rw[e] at j;simp at j;omega) (by omega) W hW)
 have HW:Hid (gP (a.data.toList.drop n) false={ sort:=48,text:=d,size:=k,ok:=(dK 0 d).isSome }):=by
  show _=_
  unfold gP;rw[<-m,<-o];rfl
 rw[HW.out];have P:Hid (Fr sb w (w.alloc (.cells #[Iv0 0,.string ⟨#[]⟩,Iv0 0,Iv0 0] 174))):=(Fr.refl _ _).alloc _;have HG:=aB Z;have ab:(bs d).size=k:=by rw[iM];exact j
 clear h U m o HW Z j D;obtain⟨rr,C⟩:∃rr:oS,rr={ sort:=48,text:=d,size:=k,ok:=(dK 0 d).isSome }:=⟨_,rfl⟩;rw[<-C];have K:=aB C;clear C;go_in
 go_wp2_with fail;go_cut [3] (fun v wc=>v=.string (bs d)/\SC sb a (n+k) L wc/\Fr sb w wc/\ZTok wc w.heap.size)
 case first=>
  go_region_law (first|(go_simp;go_at_call 179;refine(z _).mono ?_;rintro e w1 ⟨rfl,S⟩;obtain rfl:=S.symm)|(go_simp;go_at_call 203;refine y.mono ?_;rintro e w2 ⟨rfl,q,f⟩;have l:=aB q;have t:=aB (P.drew.trans f);have r:=aB (f.keepS E J);clear q f))
  all_goals
   go_wp2_with fail;go_meet
   case rel=>exact⟨rfl,l,t,r⟩
 case rest=>
  obtain⟨rfl,q,f,H⟩:=hcut;have l:=aB q;have t:=aB f;have r:=aB H;have A:=aB (G wc (HG.fr f F));clear c0 c1 V f1 X h0 q f H y z E G;go_wp2_with fail;refine A.mono ?_;rintro e M ⟨g,⟨v,I,rfl⟩|⟨I,x,T,p,rfl⟩⟩
  ·have s:Hid (SC sb a (n+k) L M):=(g.block sb (aD l)).trans l;have b:Hid (ZTok M w.heap.size):=(g.block _ (aD r)).trans r;have B:=aB (t.trans (Fr.below g));obtain⟨h0,c0,c1,V,f1,X⟩:=s.cells;have z0:=aA b (i:=0) rfl;have z1:=aA b (i:=1) rfl;have z2:=aA b (i:=2) rfl;have z3:=aA b (i:=3) rfl;have y0:=aE (i:=0) b;have y1:=aE (i:=1) b;have y2:=aE (i:=2) b;have y3:=aE (i:=3) b;have ad:=aD b;have N:=aB I;clear g I A;go_wp2_with fail;rw[K.out];refine bodyPost_ret (v:=.agg #[Iv0 2,.string (bs d),Iv0 v,Iv0 L]) (by simp[results,results184,go_sem,z0,z1,z2,z3]) rfl ?_
   have u:=lZ B s dH J (Iv0 2) (.string (bs d)) (Iv0 v) (Iv0 L);refine⟨u.1,Y4 ⟨by show (dK 0 d).isSome=true;rw[N.out];rfl,?_,u.2⟩⟩
   show _=Ending.returned (.agg #[Iv0 2,.string (bs d),Iv0 (pval ⟨48,d,L⟩),Iv0 L])
   have e:pval ⟨48,d,L⟩=v:=by unfold pval;rw[if_pos rfl,N.out];rfl
   rw[e]
  ·have s:Hid (SC sb a (n+k) L M):=(g.block sb (aD l)).trans l;have B:=aB (t.trans (Fr.below g));have O:=aB (qW sb a (n+k) L M s);have N:=aB I;clear g I A;go_wp2_with fail;refine O.mono ?_;rintro e w4 ⟨rfl,S⟩;obtain rfl:=S.symm;go_wp2_with fail;rw[K.out];exact⟨rfl,B,Y3 ⟨by show (dK 0 d).isSome=false;rw[N.out];rfl,rfl⟩⟩
def VE(sb:Nat)(b:ByteArray)(n L:Nat)(w:aH)(h:SC sb b n L w)(hg:NTabs w)(hm:PTabs w)(z:9<=sb)(hs:b.size<=100000)(S:n<b.size):
 Calls prog 140 #[bO sb] w (I0 sb b n L w (cA (b.data.toList.drop n))):=by
 have W:=(SC.cells h).1;have r:w.heap.size≠sb:=by omega
 have hb:(b[n].toNat:Int)<=255:=nI _;have V:SC sb b n L (w.alloc (.cells #[Iv0 0,.string ⟨#[]⟩,Iv0 0,Iv0 0] 174)):=by unfold SC;rw[Z3 _ _ _ W];exact h
 obtain⟨h0,c0,c1,c2,f1,f2⟩:=V.cells;have p:Hid (∀q,ZTok ((w.alloc (.cells #[Iv0 0,.string ⟨#[]⟩,Iv0 0,Iv0 0] 174)).drewN q) w.heap.size):=fun _=>aU _ _ rfl _
 have D:Fr sb w (w.alloc (.cells #[Iv0 0,.string ⟨#[]⟩,Iv0 0,Iv0 0] 174)):=(Fr.refl _ _).alloc _;have l:=aB D;have O:Hid (∀q,NTabs ((w.alloc (.cells #[Iv0 0,.string ⟨#[]⟩,Iv0 0,Iv0 0] 174)).drewN q)):=fun q=>hg.fr (D.drewN q) z
 have A:Hid (∀q,PTabs ((w.alloc (.cells #[Iv0 0,.string ⟨#[]⟩,Iv0 0,Iv0 0] 174)).drewN q)):=fun q=>hm.fr (D.drewN q) z
 have Q:=aB V;obtain⟨c,I⟩:∃c,c=cA (b.data.toList.drop n):=⟨_,rfl⟩;rw[<-I];have F:c=if eI b[n] || fI b[n] then gP (b.data.toList.drop n) (fI b[n]) else if b[n].toNat=34 then nE (b.data.toList.drop (n+1)) else gO (b.data.toList.drop n):=by rw[I,kO b n S];rfl
 have t:=aB F;have s:=aB (wU b[n]);have u:=aB (sW b[n]);clear h V hg hm I F D;cases y:fI b[n]
 ·cases B:eI b[n]
  ·by_cases E:b[n].toNat=34
   ·have e:c=nE (b.data.toList.drop (n+1)):=by rw[t.out,y,B];simp[E]
    have C:=aB (fun q=>VC sb b n L ((w.alloc (.cells #[Iv0 0,.string ⟨#[]⟩,Iv0 0,Iv0 0] 174)).drewN q) Q (by omega) S)
    rw[<-e] at C;rw[y] at s;rw[B] at u;have P:((b[n].toNat:Int)==34)=true:=by simp;omega
    clear y B e t E;go_in
    go_wp2_with fail;go_quiet (fail)
    go_wp2_with fail;refine(s _).mono ?_;rintro e N ⟨rfl,x⟩;obtain rfl:=x.symm;go_wp2_with fail;refine(u _).mono ?_;rintro e N ⟨rfl,x⟩;obtain rfl:=x.symm;go_wp2_with fail;refine(C _).mono ?_;rintro e w2 ⟨f,⟨d,rfl,o⟩|⟨d,rfl⟩⟩
    ·have j:=aB ((l.drewN _).trans f);have m:=aB o;have a:=aB (f.keepS (p _) r);have g:=aB d;have K:=aA a (i:=0) rfl;have H:=aA a (i:=1) rfl;have G:=aA a (i:=2) rfl;have J:=aA a (i:=3) rfl;have Y:=aE (i:=0) a;have T:=aE (i:=1) a;have y2:=aE (i:=2) a;have U:=aE (i:=3) a;have M:=aD a;clear f o d;simp only[nU];go_wp2
     refine bodyPost_ret (v:=.agg #[Iv0 (psort c.sort),.string (bs c.text),Iv0 (pval ⟨c.sort,c.text,L⟩),Iv0 L]) (by clear O A p l j m a g;generalize psort c.sort=Z;generalize pval ⟨c.sort,c.text,L⟩=X;simp[results,results140,go_sem,K,H,G,J]) rfl ?_
     have k:=lZ j m dH r (Iv0 (psort c.sort)) (.string (bs c.text)) (Iv0 (pval ⟨c.sort,c.text,L⟩)) (Iv0 L);exact⟨k.1,Y4 ⟨g,rfl,k.2⟩⟩
    ·have j:=aB ((l.drewN _).trans f);have g:=aB d;clear f d;go_wp2_with fail;exact⟨rfl,j,Y3 ⟨g,rfl⟩⟩
   ·have e:gO (b.data.toList.drop n)=c:=by rw[t.out,y,B];simp[E]
    have C:=aB (fun q=>VH sb b n L ((w.alloc (.cells #[Iv0 0,.string ⟨#[]⟩,Iv0 0,Iv0 0] 174)).drewN q) Q (A q) (by omega) S c e)
    rw[y] at s;rw[B] at u;have P:((b[n].toNat:Int)==34)=false:=by simp;omega
    clear y B e t E;go_in
    go_wp2_with fail;go_quiet (fail)
    go_wp2_with fail;refine(s _).mono ?_;rintro e N ⟨rfl,x⟩;obtain rfl:=x.symm;go_wp2_with fail;refine(u _).mono ?_;rintro e N ⟨rfl,x⟩;obtain rfl:=x.symm;go_wp2_with fail;refine(C _).mono ?_;rintro e w2 ⟨f,⟨d,rfl,o⟩|⟨d,rfl⟩⟩
    ·have j:=aB ((l.drewN _).trans f);have m:=aB o;have a:=aB (f.keepS (p _) r);have g:=aB d;have K:=aA a (i:=0) rfl;have H:=aA a (i:=1) rfl;have G:=aA a (i:=2) rfl;have J:=aA a (i:=3) rfl;have Y:=aE (i:=0) a;have T:=aE (i:=1) a;have y2:=aE (i:=2) a;have U:=aE (i:=3) a;have M:=aD a;clear f o d;simp only[nU];go_wp2
     refine bodyPost_ret (v:=.agg #[Iv0 (psort c.sort),.string (bs c.text),Iv0 (pval ⟨c.sort,c.text,L⟩),Iv0 L]) (by clear O A p l j m a g;generalize psort c.sort=Z;generalize pval ⟨c.sort,c.text,L⟩=X;simp[results,results140,go_sem,K,H,G,J]) rfl ?_
     have k:=lZ j m dH r (Iv0 (psort c.sort)) (.string (bs c.text)) (Iv0 (pval ⟨c.sort,c.text,L⟩)) (Iv0 L);exact⟨k.1,Y4 ⟨g,rfl,k.2⟩⟩
    ·have j:=aB ((l.drewN _).trans f);have g:=aB d;clear f d;go_wp2_with fail;exact⟨rfl,j,Y3 ⟨g,rfl⟩⟩
  ·have e:c=gP (b.data.toList.drop n) false:=by rw[t.out,y,B];rfl
   have C:=aB (fun q=>LC sb b n L ((w.alloc (.cells #[Iv0 0,.string ⟨#[]⟩,Iv0 0,Iv0 0] 174)).drewN q) Q (O q) z hs S B)
   rw[<-e] at C;rw[y] at s;rw[B] at u;clear y B e t;go_in
   go_wp2_with fail;go_quiet (fail)
   go_wp2_with fail;refine(s _).mono ?_;rintro e N ⟨rfl,x⟩;obtain rfl:=x.symm;go_wp2_with fail;refine(u _).mono ?_;rintro e N ⟨rfl,x⟩;obtain rfl:=x.symm;go_wp2_with fail;refine(C _).mono ?_;rintro e w2 ⟨f,⟨d,rfl,o⟩|⟨d,rfl⟩⟩
   ·have j:=aB ((l.drewN _).trans f);have m:=aB o;have a:=aB (f.keepS (p _) r);have g:=aB d;have K:=aA a (i:=0) rfl;have H:=aA a (i:=1) rfl;have G:=aA a (i:=2) rfl;have J:=aA a (i:=3) rfl;have Y:=aE (i:=0) a;have T:=aE (i:=1) a;have y2:=aE (i:=2) a;have U:=aE (i:=3) a;have M:=aD a;clear f o d;simp only[nU];go_wp2
    refine bodyPost_ret (v:=.agg #[Iv0 (psort c.sort),.string (bs c.text),Iv0 (pval ⟨c.sort,c.text,L⟩),Iv0 L]) (by clear O A p l j m a g;generalize psort c.sort=Z;generalize pval ⟨c.sort,c.text,L⟩=X;simp[results,results140,go_sem,K,H,G,J]) rfl ?_
    have k:=lZ j m dH r (Iv0 (psort c.sort)) (.string (bs c.text)) (Iv0 (pval ⟨c.sort,c.text,L⟩)) (Iv0 L);exact⟨k.1,Y4 ⟨g,rfl,k.2⟩⟩
   ·have j:=aB ((l.drewN _).trans f);have g:=aB d;clear f d;go_wp2_with fail;exact⟨rfl,j,Y3 ⟨g,rfl⟩⟩
 ·have e:c=gP (b.data.toList.drop n) true:=by rw[t.out,y,Bool.or_true];rfl
  have C:=aB (fun q=>VG sb b n L ((w.alloc (.cells #[Iv0 0,.string ⟨#[]⟩,Iv0 0,Iv0 0] 174)).drewN q) Q (by omega) (by omega))
  rw[<-e] at C;rw[y] at s;clear y e t u;go_in
  go_wp2_with fail;go_quiet (fail)
  go_wp2_with fail;refine(s _).mono ?_;rintro e N ⟨rfl,x⟩;obtain rfl:=x.symm;go_wp2_with fail;refine(C _).mono ?_;rintro e w2 ⟨f,⟨d,rfl,o⟩|⟨d,rfl⟩⟩
  ·have j:=aB ((l.drewN _).trans f);have m:=aB o;have a:=aB (f.keepS (p _) r);have g:=aB d;have K:=aA a (i:=0) rfl;have H:=aA a (i:=1) rfl;have G:=aA a (i:=2) rfl;have J:=aA a (i:=3) rfl;have Y:=aE (i:=0) a;have T:=aE (i:=1) a;have y2:=aE (i:=2) a;have U:=aE (i:=3) a;have M:=aD a;clear f o d;simp only[nU];go_wp2
   refine bodyPost_ret (v:=.agg #[Iv0 (psort c.sort),.string (bs c.text),Iv0 (pval ⟨c.sort,c.text,L⟩),Iv0 L]) (by clear O A p l j m a g;generalize psort c.sort=Z;generalize pval ⟨c.sort,c.text,L⟩=X;simp[results,results140,go_sem,K,H,G,J]) rfl ?_
   have k:=lZ j m dH r (Iv0 (psort c.sort)) (.string (bs c.text)) (Iv0 (pval ⟨c.sort,c.text,L⟩)) (Iv0 L);exact⟨k.1,Y4 ⟨g,rfl,k.2⟩⟩
  ·have j:=aB ((l.drewN _).trans f);have g:=aB d;clear f d;go_wp2_with fail;exact⟨rfl,j,Y3 ⟨g,rfl⟩⟩
def E5:(prog.info? 174).map (fun i=>(i.zero,i.size,i.bytes))=some (some (.agg #[Iv0 0,.string (bs []),Iv0 0,Iv0 0]),4,40):=by kernel_rfl
def FR(w:aH)(a b c d:aQ):∀j u,([a,b,c,d]:List Value)[j]?=some u->(w.alloc (.cells #[a,b,c,d] 174)).cell? ((⟨w.heap.size,0,none⟩:Addr).add j)=some u:=by
 intro j u e;match j,e with
 |0,e=>simp at e;subst e;simp[Addr.add,go_sem]
 |1,e=>simp at e;subst e;simp[Addr.add,go_sem]
 |2,e=>simp at e;subst e;simp[Addr.add,go_sem]
 |3,e=>simp at e;subst e;simp[Addr.add,go_sem]
 |j+4,e=>simp at e
def MN(l m n:Int)(b:ByteArray):∀u∈([Iv0 l,.string b,Iv0 m,Iv0 n]:List Value),u.oneCell'=true:=by
 intro u a;simp at a;rcases a with rfl|rfl|rfl|rfl<;>rfl
def VT{w:aH}{b:Nat}{e:TypeId}{a:Nat}{v:aQ}{n:Nat}{xs:List Value}(h:w.ownsRow b e a v n xs):∃x c,v=.slice x n c:=by
 rcases h.2 with ⟨d,i⟩|⟨g,f,j,d,_⟩
 ·exact⟨none,0,by rw[d,i]⟩
 ·exact⟨_,f,d⟩
def tD{l:cE}(h:∀c∈l,c≠10):l.count 10=0:=List.count_eq_zero.2 fun a=>h 10 a rfl
def PW(l:cE)(h:(cA l).ok=true):(l.take (cA l).size).count 10=0:=by
 cases l with
 |nil=>simp[cA] at h
 |cons c r=>
  rw[cA] at h ⊢
  split
  ·rename_i i;rw[rM];refine tD fun x a=>?_
   have:=qV _ _ x a;intro e;subst e;revert this
   cases fI c<;>decide
  ·rename_i i;rw[if_neg i] at h;split
   ·rename_i b;rw[if_pos b] at h;have d:(decide (r[bL fH r]?=some 34) && decide (bL fH r<=100))=true:=h;rw[j3,decide_eq_true_eq] at d
    have k:bL fH r<r.length:=by
     by_cases a:bL fH r<r.length
     ·exact a
     ·rw[j8 (by omega)] at d;exact absurd d.1 (by simp)
    show ((c::r).take (bL fH r+1+1)).count 10=0
    rw[v8,List.take_add_one,d.1];refine tD fun x a=>?_
    rcases Z6.1 a with rfl|a
    ·intro e;rw[e] at b;exact absurd b (by decide)
    rcases Z2.1 a with a|a
    ·have:=qV _ _ x a;intro e;subst e;exact absurd this (by decide)
    ·intro e;rw[e] at a;exact absurd a (by decide)
   ·rename_i b;rw[if_neg b] at h;unfold gO at h ⊢
    cases f:cR.find? (fun o=>cS (c::r) o) with
    |none=>rw[f] at h;simp at h
    |some o=>
     have j:=List.find?_some f;have m:=r9 f
     have n:(c::r).take o.length=o:=by
      have g:=j;unfold cS at g;rw[lW _ _ (kV j)] at g;simpa using g
     show ((c::r).take o.length).count 10=0
     rw[n];have:∀o∈cR,o.count 10=0:=by decide
     exact this o m
def B2(x:Except Nat (List aX))(w:aH)(e:Ending)(w':aH):Prop:=
 Below w.heap.size w w'/\
  match x with
  |.error n=>e=dF 3 n
  |.ok ts=>∃v,e=bE v/\w'.ownsRow (w.heap.size+1) 174 4 v ts.length (ptoks ts)
def I4(src:ByteArray)(w:aH)(TS:Except Nat (List aX))(gk:Nat)(v:aQ)(wr:aH):Prop:=
 ∃(k f:Nat) (ts:List aX),k<=src.size/\src.size+1<=k+f/\src.size<=k+gk/\ts.length<=k/\SC w.heap.size src k (bB (src.data.toList.take k)) wr/\Fr w.heap.size w wr/\wr.ownsRow (w.heap.size+1) 174 4 v ts.length (ptoks ts)/\TS=iK ts (eP f (src.data.toList.take k) (src.data.toList.drop k))
def Fr.to_below{w w':aH}(h:Fr w.heap.size w w'):Below w.heap.size w w':=⟨h.os,h.tape,h.output,h.size,fun k a=>h.block k a (by omega)⟩
def B1(a:ByteArray)(w:World)(hg:NTabs w)(U:PTabs w)(hs:a.size<=2000):
 Calls prog 103 #[.string a] w (B2 (gM a.data.toList) w):=by
 obtain⟨i0,H,Z,ak,af⟩:=info_parts E5;have B:=hg.big;have h0:SC w.heap.size a 0 (bB (a.data.toList.take 0)) (w.alloc (.cells #[.string a,.int .i64 0,.int .i64 1] 249)):=aU _ _ rfl _;have l:=aB (LR w.heap.size a 0 (w.alloc (.cells #[.string a,.int .i64 0,.int .i64 1] 249)) h0 (by omega) (n8 _))
 simp only[List.drop_zero,x9] at l;obtain⟨T,F⟩:∃T,T=Hs.blankL a.size a.data.toList:=⟨_,rfl⟩;have al:T<=a.size:=by have:=uL a.size a.data.toList;rw[F];simpa using this
 rw[<-F] at l;obtain⟨D,s⟩:∃D,D=gM a.data.toList:=⟨_,rfl⟩
 have n:Hid (D=eP (a.size+1) (a.data.toList.take T) (a.data.toList.drop T)):=by
  show _=_
  rw[s];unfold gM;rw[show a.data.toList.length=a.size by simp,<-F]
 rw[<-s];have ad:Hid (Fr w.heap.size w (w.alloc (.cells #[.string a,.int .i64 0,.int .i64 1] 249))):=(Fr.refl _ _).alloc _;have HG:=aB hg;have HM:=aB U;clear h0 hg U F s;go_enter func103,ntmps103;go_wp2_with fail;refine l.out.mono ?_;rintro e w1 ⟨rfl,ag,an⟩;have HI:Hid (I4 a w D a.size (.slice none 0 0) w1):=⟨T,a.size+1,[],al,by omega,by omega,by simp,ag,ad.out.trans an,World.ownsRow_nil _ _ _ _,by rw[n.out,BC]⟩
 clear ag an l n ad;go_wp2_with fail;go_loopg [4] a.size (fun gk v wr=>I4 a w D gk v wr)
 case atStart=>exact HI.out
 case round=>
  obtain⟨k,f,u,hk,hf,bb,ba,K,Q,g,s⟩:=hrel
  have hL:bB (a.data.toList.take k)<=k+1:=by
   have:=oJ (a.data.toList.take k);have:=List.length_take_le k a.data.toList;omega
  obtain⟨h0,c0,c1,c2,f1,f2⟩:=K.cells;have az:=Q.size;have av:=aB K;have y:=aB Q;have n:=aB s;obtain⟨x,c,rfl⟩:=VT g;have G:∀k,(Value.slice x u.length c).ownBlock=some k->w.heap.size+1<=k:=cM g;clear HI K Q s;by_cases Y:k<a.size
  ·obtain⟨f,rfl⟩:∃f',f=f'+1:=⟨f-1,by omega⟩
   obtain⟨j,rfl⟩:∃j,gk=j+1:=⟨gk-1,by omega⟩
   have aj:decide ((k:Int)<(a.size:Int))=true:=decide_eq_true (by omega)
   have hl:(a.data.toList.drop k).length=a.size-k:=by simp
   have E:=aB (VE w.heap.size a k (bB (a.data.toList.take k)) wr av.out (HG.out.fr y.out B) (HM.out.fr y.out B) B (by omega) Y)
   cases o:(cA (a.data.toList.drop k)).ok
   ·have HF:Hid (D=.error (bB (a.data.toList.take k))):=by
     show _=_
     rw[n.out,lY _ _ _ (by omega) o];rfl
    have P:=aB o;clear n hl o;generalize bB (a.data.toList.take k)=L at*;go_wp2_with fail;refine E.out.mono ?_;rintro e w2 ⟨q,⟨h,_,_⟩|⟨h,rfl⟩⟩
    ·rw[P.out] at h;cases h
    have A:=aB (y.out.trans q);clear q h E;go_wp2_with fail;rw[HF.out];exact⟨rfl,A.out.to_below,rfl⟩
   ·have ao:=tI _ o;rw[hl] at ao;have am:=PW _ o;obtain⟨m,U⟩:∃m,m=k+(cA (a.data.toList.drop k)).size+Hs.blankL a.size (a.data.toList.drop (k+(cA (a.data.toList.drop k)).size)):=⟨_,rfl⟩
    have aq:m<=a.size:=by
     have:=uL a.size (a.data.toList.drop (k+(cA (a.data.toList.drop k)).size));rw[o7,show a.data.toList.length=a.size by simp] at this
     omega
    have HT:=ZT a k f Y o m U
    have HF:Hid (D=iK (u++[{ sort:=(cA (a.data.toList.drop k)).sort,text:=(cA (a.data.toList.drop k)).text,line:=bB (a.data.toList.take k) }]) (eP f (a.data.toList.take m) (a.data.toList.drop m))):=by
     show _=_
     rw[n.out,HT,yM]
    have X:bB (a.data.toList.take (k+(cA (a.data.toList.drop k)).size))=bB (a.data.toList.take k):=by
     rw[List.take_add,jJ,am];rfl
    have l:=aB (fun W (hW:SC w.heap.size a (k+(cA (a.data.toList.drop k)).size) (bB (a.data.toList.take (k+(cA (a.data.toList.drop k)).size))) W)=>LR w.heap.size a _ W hW (by omega) (by omega))
    rw[X] at l;simp only[<-U] at l;have P:=aB o;have ay:k<m:=by omega
    clear n hl o HT am X U;generalize cA (a.data.toList.drop k)=r at*;obtain⟨pa,S⟩:∃pa,pa=psort r.sort:=⟨_,rfl⟩;obtain⟨pb,I⟩:∃pb,pb=pval ⟨r.sort,r.text,bB (a.data.toList.take k)⟩:=⟨_,rfl⟩;have ac:Hid (nU ⟨r.sort,r.text,bB (a.data.toList.take k)⟩=.agg #[.int .i64 pa,.string (bs r.text),.int .i64 pb,.int .i64 (bB (a.data.toList.take k))]):=by show _=_;rw[S,I];rfl
    have ap:Hid (ptok ⟨r.sort,r.text,bB (a.data.toList.take k)⟩=[.int .i64 pa,.string (bs r.text),.int .i64 pb,.int .i64 (bB (a.data.toList.take k))]):=by show _=_;rw[S,I];rfl
    clear S I;generalize bB (a.data.toList.take k)=L at*;have O:=aB G;have ah:=aB g;clear g G;go_wp2_with fail;refine E.out.mono ?_;rintro e w2 ⟨q,⟨h,rfl,J⟩|⟨h,rfl⟩⟩
    rotate_left
    ·rw[P.out] at h;cases h
    rw[ac.out];have t:=bA (w1:=w2) ah.out fun i H=>q.block i (cP ah.out i H) (by have:=O.out i H;omega)
    have A:=aB (y.out.trans q);have aa:=aB J;have ax:=A.out.size;have ae:=aD J;clear q h J E ac;go_wp2_with (at_builtin;refine wpList_append_lies _ (by rfl) _ _ 118 (by rfl) (w.heap.size+1) 174 i0 _ 4 40 underlying118 H Z ak af rfl (by decide) _ _ _ (by rfl) (t.alloc _) ⟨w2.heap.size,0,none⟩ 1 1 [.int .i64 pa,.string (bs r.text),.int .i64 pb,.int .i64 L] (by rfl) (by rfl) (FR _ _ _ _ _) (MN _ _ _ _) (by decide) (by unfold maxLen;omega) (by omega) (by simp;omega) (w2.heap.size+1) (by simp) ?_)
    intro g7 p V d b C ar;have N:=aB ((A.out.alloc _).grown b (fun k hk=>by have:=O.out k hk;omega))
    have aw:Hid (SC w.heap.size a (k+r.size) L V):=by
     show _=_
     rw[b.block _ (by simp;omega) (fun e=>by have:=O.out _ e.symm;omega),Z3 _ _ _ ae]
     exact aa.out
    have z:Hid (V.ownsRow (w.heap.size+1) 174 4 (.slice (some ⟨g7,0,none⟩) (u.length+1) p) (u++[(⟨r.sort,r.text,L⟩:aX)]).length (ptoks (u++[⟨r.sort,r.text,L⟩]))):=by
     rw[BA,ap.out,Y5];exact d
    have ai:=aB (l.out V aw.out);clear t d b C aa A l;go_wp2_with fail;refine ai.out.mono ?_;rintro e w8 ⟨rfl,ab,M⟩
    have au:Hid (I4 a w D j (.slice (some ⟨g7,0,none⟩) (u.length+1) p) w8):=by
     refine⟨m,f,u++[⟨r.sort,r.text,L⟩],aq,by omega,by omega,by simp;omega,ab,N.out.trans M,?_,HF.out⟩
     exact bA z.out fun i H=>M.block i (cP z.out i H) (by have:=cM z.out i H;omega)
    clear ab M ai;go_wp2_with fail;go_roundg j
    case measure=>omega
    case rel=>exact au.out
  ·obtain⟨f,rfl⟩:∃f',f=f'+1:=⟨f-1,by omega⟩
   have HF:Hid (D=.ok (u++[{ sort:=101,text:=[],line:=bB (a.data.toList.take k) }])):=by
    show _=_
    rw[n.out,lX _ _ _ (by simp;omega)];rfl
   have aj:decide ((k:Int)<(a.size:Int))=false:=decide_eq_false (by omega)
   clear n;generalize bB (a.data.toList.take k)=L at*;go_wp2_with (at_builtin;refine wpList_append_lies _ (by rfl) _ _ 118 (by rfl) (w.heap.size+1) 174 i0 _ 4 40 underlying118 H Z ak af rfl (by decide) _ _ _ (by rfl) (g.alloc _) ⟨wr.heap.size,0,none⟩ 1 1 [.int .i64 4,.string ⟨#[]⟩,.int .i64 0,.int .i64 L] (by rfl) (by rfl) (FR _ _ _ _ _) (MN _ _ _ _) (by decide) (by unfold maxLen;omega) (by omega) (by simp;omega) (wr.heap.size+1) (by simp) ?_)
   intro g7 p V d b C ar;have N:=aB ((y.out.alloc _).grown b (fun k hk=>by have:=G k hk;omega))
   have z:Hid (V.ownsRow (w.heap.size+1) 174 4 (.slice (some ⟨g7,0,none⟩) (u.length+1) p) (u++[(⟨101,[],L⟩:aX)]).length (ptoks (u++[⟨101,[],L⟩]))):=by
    rw[BA,Y5];exact d
   clear g d b C G;go_wp2_with fail;go_ret;rw[HF.out];exact⟨N.out.to_below,_,rfl,z.out⟩
def RZ(a:ByteArray)(w:aH)(_hs:a.size<=maxLen):
 Calls prog 101 #[.string a] w fun e d=>d=w/\((a.size<=2000/\e=bE (.tuple #[]))\/(2000<a.size/\e=dF 1 0)):=by
 by_cases h:a.size<=2000
 ·have c:decide ((2000:Int)<(a.size:Int))=false:=decide_eq_false (by omega)
  go_in
  go_wp2
  go_end0;exact⟨rfl,Y4 ⟨h,rfl⟩⟩
 ·have c:decide ((2000:Int)<(a.size:Int))=true:=decide_eq_true (by omega)
  go_in
  go_wp2_with (go_at_call 107;refine(gN 1 0 _).mono ?_;rintro e f ⟨rfl,b⟩;obtain rfl:=b.symm)
  exact⟨rfl,rfl,Y3 ⟨by omega,rfl⟩⟩
def JD{l:cE}{c:Nat}{x:UInt8}(h:x∈l.take c):∃i,i<c/\l[i]?=some x:=by
 obtain⟨i,b,e⟩:=List.mem_iff_getElem.1 h;have a:=b;rw[o9] at a;refine⟨i,by omega,?_⟩
 rw[List.getElem_take] at e;rw[Z8 (by omega),e]
def vR{l:cE}{i lo a:Nat}(h:dI l i lo a=true){x:UInt8}(b:l[i]?=some x):lo<=x.toNat:=by
 unfold dI at h;rw[b] at h;simp at h;exact h.1
def OY{l:cE}(h:2<=bG l):(l.take (bG l)).count 10=0:=by
 refine tD fun x o=>?_
 obtain⟨i,c,e⟩:=JD o;suffices 128<=x.toNat by intro e;rw[e] at this;exact absurd this (by decide)
 revert h c
 unfold bG;cases m:l[0]? with
 |none=>simp
 |some b=>
  simp only;have d:i=0->x=b:=fun g=>by subst g;rw[m] at e;exact(Option.some.inj e).symm
  split
  ·intro h;omega
  ·rename_i k;split
   ·rename_i f;split
    ·rename_i a;intro _ c;match i,c with
     |0,_=>rw[d rfl];omega
     |1,_=>exact vR a e
    ·intro h;omega
   ·split
    ·rename_i n;by_cases a:(dI l 1 (if b.toNat=224 then 160 else 128) (if b.toNat=237 then 159 else 191) && dI l 2 128 191)=true
     ·rw[if_pos a];rw[j3] at a;intro _ c;match i,c with
      |0,_=>rw[d rfl];omega
      |1,_=>have:=vR a.1 e;split at this<;>omega
      |2,_=>exact vR a.2 e
     ·rw[if_neg a];intro h;omega
    ·split
     ·rename_i j;by_cases a:(dI l 1 (if b.toNat=240 then 144 else 128) (if b.toNat=244 then 143 else 191) && dI l 2 128 191 && dI l 3 128 191)=true
      ·rw[if_pos a];rw[j3,j3] at a;intro _ c;match i,c with
       |0,_=>rw[d rfl];omega
       |1,_=>have:=vR a.1.1 e;split at this<;>omega
       |2,_=>exact vR a.1.2 e
       |3,_=>exact vR a.2 e
      ·rw[if_neg a];intro h;omega
     ·intro h;omega
def O9(n a b c d:Nat)(e:a<256):(Lib.decodeN n a b c d).1<=1114111:=by
 unfold Lib.decodeN;repeat' split
 all_goals (simp only;omega)
def U3(a:ByteArray)(k:Nat)(p:k<a.size):∃r z,Lib.decodeGo (a.extract k a.size)=(r,z)/\r<=1114111/\
 ((bG (a.data.toList.drop k)=0/\r=65533/\z=1)\/(bG (a.data.toList.drop k)≠0/\z=bG (a.data.toList.drop k)/\¬(r=65533/\z=1)/\(r=10↔a[k].toNat=10))):=by
 have m:(a.extract k a.size).size=a.size-k:=by simp
 have b:0<(a.extract k a.size).size:=by omega
 have j:((a.extract k a.size).get! 0).toNat=a[k].toNat:=by rw[nX _ 0 b];simp[ByteArray.getElem_extract]
 have f:=P4 (a.extract k a.size) b;rw[mT] at f
 have h:Lib.decodeGo (a.extract k a.size)=Lib.decodeN (a.extract k a.size).size ((a.extract k a.size).get! 0).toNat ((a.extract k a.size).get! 1).toNat ((a.extract k a.size).get! 2).toNat ((a.extract k a.size).get! 3).toNat:=by
  unfold Lib.decodeGo;rw[if_neg (by omega),Lib.decode_at];rfl
 obtain⟨g,d⟩:=G5 (a.extract k a.size).size ((a.extract k a.size).get! 0).toNat ((a.extract k a.size).get! 1).toNat ((a.extract k a.size).get! 2).toNat ((a.extract k a.size).get! 3).toNat (ah_ _) (ah_ _) (ah_ _) (ah_ _);have i:=O9 (a.extract k a.size).size ((a.extract k a.size).get! 0).toNat ((a.extract k a.size).get! 1).toNat ((a.extract k a.size).get! 2).toNat ((a.extract k a.size).get! 3).toNat (ah_ _);rw[<-f] at g d;rw[<-h] at g d i;rw[j] at d;clear h f;generalize Lib.decodeGo (a.extract k a.size)=D at*;obtain⟨r,z⟩:=D;refine⟨r,z,rfl,i,?_⟩;by_cases e:bG (a.data.toList.drop k)=0
 ·have:=g e;cases this;exact Y4 ⟨e,rfl,rfl⟩
 ·obtain⟨n,l,o⟩:=d e;have c:z=bG (a.data.toList.drop k):=n;exact Y3 ⟨e,c,by rw[c];exact l,o⟩
def zL{w w':aH}(h:Lib.Utf8Tabs 4 5 w)(a:Below w.heap.size w w')(e:9<=w.heap.size):Lib.Utf8Tabs 4 5 w':=
 ⟨fun c d=>(a.cell (p:=(aL 4 c)) (by show 4<_;omega)).trans (h.1 c d),fun i b=>⟨(a.cell (p:=(aL 5 (2*i))) (by show 5<_;omega)).trans (h.2 i b).1,(a.cell (p:=(aL 5 (2*i+1))) (by show 5<_;omega)).trans (h.2 i b).2⟩⟩
def O6(x:Option Nat)(l:cE)(w:aH)(e:Ending)(w':aH):Prop:=
 Below w.heap.size w w'/\
  match x with
  |none=>e=bE (.tuple #[])
  |some k=>e=dF 2 (bB (l.take k))
def O5(a:ByteArray)(w:aH)(N:Lib.Utf8Tabs 4 5 w)(Y:9<=w.heap.size)(hs:a.size<=2000):
 Calls prog 102 #[.string a] w (O6 (dU a.size a.data.toList 0) a.data.toList w):=by
 have Q:=aB N;obtain⟨X,F⟩:∃X,X=dU a.size a.data.toList 0:=⟨_,rfl⟩;rw[<-F];have H:Hid (X=dU a.size (a.data.toList.drop 0) 0):=F;clear N F;go_in
 go_wp2_with fail;go_loopg [2,3,4,5] a.size (fun gk lv iv _ _ wr=>∃k f:Nat,k<=a.size/\a.size<=k+f/\a.size<=k+gk/\iv=Iv0 k/\lv=Iv0 (bB (a.data.toList.take k))/\Below w.heap.size w wr/\Hid (X=dU f (a.data.toList.drop k) k))
 case atStart=>exact⟨0,a.size,n8 _,by omega,by omega,rfl,rfl,Y8 _ _,H⟩
 case round=>
  obtain⟨k,f,hk,hf,V,rfl,rfl,C,v⟩:=hrel
  have hL:bB (a.data.toList.take k)<=k+1:=by
   have:=oJ (a.data.toList.take k);have:=List.length_take_le k a.data.toList;omega
  have s:=aB C;by_cases p:k<a.size
  ·obtain⟨f,rfl⟩:∃f',f=f'+1:=⟨f-1,by omega⟩
   obtain⟨j,rfl⟩:∃j,gk=j+1:=⟨gk-1,by omega⟩
   have d:0<(a.data.toList.drop k).length:=by simp;omega
   obtain⟨r,z,K,hr,hc⟩:=U3 a k p;have t:=aB (utf8_DecodeRuneInString (a.extract k a.size) wr (zL Q C Y));rw[K] at t;clear K C;rcases hc with ⟨g,rfl,rfl⟩|⟨g,n,A,c⟩
   ·have u:Hid (X=some k):=by show _=_;rw[v.out,LO _ _ _ d g]
    generalize x:bB (a.data.toList.take k)=L at*;have G:=aB x;clear v g d x;go_wp2_with fail;refine t.mono ?_;rintro e J ⟨rfl,b⟩;have h:=aB (s.trans (b.mono s.size));clear b t;go_wp2_with (go_at_call 107;refine(gN 2 L _).mono ?_;rintro e w3 ⟨rfl,Z⟩;obtain rfl:=Z.symm)
    rw[u.out];exact⟨rfl,h,congrArg (dF 2) G.symm⟩
   ·have u:Hid (X=dU f (a.data.toList.drop (k+z)) (k+z)):=by
     show _=_
     rw[v.out,IK _ _ _ d g,ab_,<-n]
    have W:z<=a.size-k:=by rw[n];have:=YR (a.data.toList.drop k);simpa using this
    have U:1<=z:=by omega
    have B:bB (a.data.toList.take (k+z))=bB (a.data.toList.take k)+if r=10 then 1 else 0:=by
     by_cases h2:2<=z
     ·have I:=OY (l:=a.data.toList.drop k) (by omega)
      rw[<-n] at I;rw[List.take_add,jJ,I];rw[if_neg];intro e;have S:=c.1 e
      have O:a[k]∈(a.data.toList.drop k).take z:=by
       rw[kO a k p];obtain⟨y,rfl⟩:∃y,z=y+1:=⟨z-1,by omega⟩
       rw[v8];exact j0 ..
      exact List.count_eq_zero.1 I (by have:a[k]=10:=aj_.1 S;rw[this] at O;exact O)
     ·obtain rfl:z=1:=by omega
      rw[FZ a k p];congr 1
      by_cases D:r=10
      ·rw[if_pos D,if_pos (aj_.1 (c.1 D))]
      ·rw[if_neg D,if_neg (fun e=>D (c.2 (by rw[e];rfl)))]
    have i:=aB B;generalize bB (a.data.toList.take k)=L at*
    have o:((r:Int)==65533)=false\/((r:Int)==65533)=true/\((z:Int)==1)=false:=by
     by_cases T:r=65533
     ·refine Y3 ⟨by simp;omega,?_⟩
      simp;intro e;exact A ⟨T,by omega⟩
     ·exact Y4 (by simp;omega)
    have E:(a.data.toList.drop k).length=a.size-k:=by simp
    clear v g d n c B A E;by_cases m:r=10
    ·have e1:((r:Int)==10)=true:=by simp;omega
     have P:((r:Int)==65533)=false:=by simp;omega
     have q:Hid (bB (a.data.toList.take (k+z))=L+1):=by show _=_;rw[i.out,if_pos m]
     clear o m i;go_wp2_with fail;refine t.mono ?_;rintro e J ⟨rfl,b⟩;have h:=aB (s.trans (b.mono s.size));clear b t;go_wp2
     go_roundg j
     case measure=>omega
     case rel=>exact⟨k+z,f,by omega,by omega,by omega,by go_num,by rw[q.out];go_num,h,u⟩
    ·have e1:((r:Int)==10)=false:=by simp;omega
     have q:Hid (bB (a.data.toList.take (k+z))=L):=by show _=_;rw[i.out,if_neg m];rfl
     clear m i;rcases o with P|⟨P,e3⟩
     all_goals
      go_wp2_with fail;refine t.mono ?_;rintro e J ⟨rfl,b⟩;have h:=aB (s.trans (b.mono s.size));clear b t;go_wp2
      go_roundg j
      case measure=>omega
      case rel=>exact⟨k+z,f,by omega,by omega,by omega,by go_num,by rw[q.out],h,u⟩
  ·have u:Hid (X=none):=by show _=_;rw[v.out,LN _ _ _ (by simp;omega)]
   have M:decide ((k:Int)<(a.size:Int))=false:=decide_eq_false (by omega)
   clear v C;generalize bB (a.data.toList.take k)=L at*;go_wp2
   go_end0;rw[u.out];exact⟨s,rfl⟩
structure lD(w:aH):Prop where
 n:NTabs w
 p:PTabs w
 u:Lib.Utf8Tabs 4 5 w
def lD.below{w w':aH}(h:lD w)(a:Below w.heap.size w w'):lD w':=
 ⟨h.n.fr (sb:=w.heap.size) ⟨a.os,a.tape,a.output,a.size,fun k b _=>a.block k b⟩ h.n.big,h.p.fr (sb:=w.heap.size) ⟨a.os,a.tape,a.output,a.size,fun k b _=>a.block k b⟩ h.n.big,zL h.u a h.n.big⟩
def FineA.kid{m:Nat}{f k:aC}(h:Hs.FineA m f)(a:k∈f.kids):Hs.FineA m k:=fun d=>by
 have b:=h (d+1);refine⟨?_,b.2.2 k a⟩;have c:=b.1;rw[bY] at c;have:=sS (f:=bY d) a;omega
def FineA.kids{m:Nat}{f:aC}(h:Hs.FineA m f)(d:Nat):f.kids.length<=m/\(f.kids.map (bY d)).sum<=m:=by
 have b:=(h (d+1)).1;have a:=(h 2).1;rw[bY] at b a;have c:f.kids.length<=(f.kids.map (bY 1)).sum:=oK 0 f.kids;exact⟨by omega,by omega⟩
def rK(l:cE):Except (Nat × Nat) (List aX):=
 if 2000<l.length then .error (1,0)
 else match dU l.length l 0 with
  |some k=>.error (2,bB (l.take k))
  |none=>
   match gM l with
   |.error n=>.error (3,n)
   |.ok ts=>.ok ts
def BH(l:cE):dA l=match rK l with
 |.error f=>.error f
 |.ok a=>match lT a with
  |.error n=>.error (4,n)
  |.ok (b,_)=>.ok b:=by
 unfold dA rK;by_cases h:2000<l.length
 ·rw[if_pos h,if_pos h]
 ·rw[if_neg h,if_neg h];cases dU l.length l 0 with
  |some k=>rfl
  |none=>
   cases gM l with
   |error n=>rfl
   |ok a=>rfl
def TQ{l:cE}{ts:List aX}(h:rK l=.ok ts):gM l=.ok ts/\l.length<=2000:=by
 unfold rK at h;split at h
 ·cases h
 ·split at h
  ·cases h
  ·split at h
   ·cases h
   ·cases h;exact⟨by assumption,by omega⟩
def VF{l:cE}{f:Nat × Nat}(h:rK l=.error f):f.1≠0:=by
 unfold rK at h;split at h
 ·cases h;simp
 ·split at h
  ·cases h;simp
  ·split at h
   ·cases h;simp
   ·cases h
def QZ(l:cE)(w:aH)(e:Ending)(w':aH):Prop:=
 Below w.heap.size w w'/\
  match rK l with
  |.error f=>e=dF f.1 f.2
  |.ok ts=>∃v,e=bE (.agg #[v,Iv0 0])/\w'.ownsRow w.heap.size 174 4 v ts.length (ptoks ts)
def FM(l:cE)(w:aH)(e:Ending)(w':aH):Prop:=
 Below w.heap.size w w'/\((dQ l=(0,0)/\∃v ks,e=bE v/\dA l=.ok ks/\FSl (Btw w.heap.size w'.heap.size) w' v ks)\/((dQ l).1≠0/\e=dF (dQ l).1 (dQ l).2))
def RL{ks:List aC}(d:Nat)(h:qE ks=false)(b:∀f∈ks,1<=f.kids.length):kM d ks=(5,0):=by
 unfold kM;unfold qE kX at h;cases a:dO ks [109,97,105,110] with
 |none=>rfl
 |some m=>
  rw[a] at h;have g:=b m (r9 a)
  have c:¬m.kids.length-1=0:=by
   intro e;rw[show (([109,97,105,110]:cE)==[108,101,110])=false by decide,show (([109,97,105,110]:cE)==[114,101,97,100])=false by decide] at h
   simp[e] at h
  show (if 1<m.kids.length then _ else _)=_
  rw[if_pos (by omega)]
def D6{ks:List aC}(d:Nat)(h:qE ks=true):kM d ks=((fC ks d [] ks ⟨[],0,0⟩).kind,(fC ks d [] ks ⟨[],0,0⟩).line):=by
 unfold kM;unfold qE kX at h;rw[show (([109,97,105,110]:cE)==[108,101,110])=false by decide,show (([109,97,105,110]:cE)==[114,101,97,100])=false by decide] at h
 cases a:dO ks [109,97,105,110] with
 |none=>rw[a] at h;simp at h
 |some m=>
  rw[a] at h;simp at h;show (if 1<m.kids.length then _ else _)=_
  rw[if_neg (by omega)]
def FSl.grow{F G:cC}{w w':aH}{v:aQ}{fs:List aC}(h:FSl F w v fs)(e:∀b,F b->w'.heap[b]?=w.heap[b]?)(f:∀b,F b->G b):FSl G w' v fs:=by
 rcases h with h|⟨g,a,c,n,j,d,l,i,k,m⟩
 ·exact Y4 h
 ·exact Y3 ⟨g,a,c,n,j,f g d,by rw[e g d];exact l,i,k,m.mono fun _ _ h=>h.keep e f⟩
def S8{w:aH}{b:Nat}{v:aQ}{ts:List aX}(h:w.ownsRow b 174 4 v ts.length (ptoks ts))(k:0<ts.length):∃g c a,v=.slice (some (aL g 0)) ts.length c/\b<=g/\ts.length<=c/\w.heap[g]?=some (.cells a 174 (0,0))/\a.toList.take (ts.length*4)=ptoks ts:=by
 rcases h.2 with ⟨e,d⟩|⟨g,c,a,e,d,i,f,m,l,j⟩
 ·omega
 ·exact⟨g,c,a,e,d,f,i,j⟩
def IZ(b:ByteArray)(w:aH)(X:lD w)(hs:b.size<=maxLen):
 Calls prog 70 #[.string b] w (QZ b.data.toList w):=by
 have J:b.data.toList.length=b.size:=by simp
 obtain⟨l,T⟩:∃l,l=b.data.toList:=⟨_,rfl⟩;rw[<-T] at J ⊢
 obtain⟨D,r⟩:∃D,D=w.alloc (.cells #[bV,Iv0 0] 120):=⟨_,rfl⟩;have C:Below w.heap.size w D:=by rw[r];exact(Y8 _ _).alloc dH _
 have p:D.heap[w.heap.size]?=some (.cells #[bV,Iv0 0] 120 (0,0)):=by rw[r];exact aU _ _ rfl _
 have Y:D.heap.size=w.heap.size+1:=by rw[r];simp
 have G:=aB (RZ b D hs);have Z:=aB T;have N:=aB (X.below C);have f:=aB C;have U:=aB p;have O:=aB r;clear T X C p r;go_in
 go_wp2_with fail;rw[<-O.out];refine G.mono ?_;rintro e V ⟨Q,⟨B,rfl⟩|⟨B,rfl⟩⟩
 rotate_left
 ·obtain rfl:=Q.symm
  have A:Hid (rK l=.error (1,0)):=by
   show _=_
   unfold rK;rw[if_pos (by omega)]
  go_wp2_with fail;exact⟨rfl,f,by rw[A.out];rfl⟩
 obtain rfl:=Q.symm;have M:=aB (O5 b D N.u N.n.big B);rw[<-Z.out,<-J] at M;have z:¬2000<l.length:=by omega
 clear Q G;go_wp2_with fail;refine M.mono ?_;rintro e V ⟨m,y⟩;cases j:dU l.length l 0 with
 |some k=>
  rw[j] at y;obtain rfl:e=dF 2 (bB (l.take k)):=y;have A:Hid (rK l=.error (2,bB (l.take k))):=by show _=_;unfold rK;rw[if_neg z,j]
  have d:=aB (f.trans (m.mono f.size));clear m M j;go_wp2_with fail;exact⟨rfl,d,by rw[A.out];rfl⟩
 |none=>
  rw[j] at y;obtain rfl:e=bE (.tuple #[]):=y;have s:=aB (B1 b V (N.below m).n (N.below m).p B);rw[<-Z.out] at s;have d:=aB m
  have L:rK l=match gM l with
   |.error n=>.error (3,n)
   |.ok K=>.ok K:=by unfold rK;rw[if_neg z,j]
  have t:=aB L;clear m M j L;go_wp2_with fail;refine s.mono ?_;rintro e w2 ⟨q,u⟩;cases h:gM l with
  |error n=>
   rw[h] at u;obtain rfl:e=dF 3 n:=u;have A:Hid (rK l=.error (3,n)):=by show _=_;rw[t.out,h]
   have E:=aB (f.trans ((d.trans (q.mono d.size)).mono f.size));clear q s h t;go_wp2_with fail;exact⟨rfl,E,by rw[A.out];rfl⟩
  |ok K=>
   rw[h] at u;obtain⟨v,rfl,o⟩:=u
   obtain⟨x,c,rfl⟩:∃x c,v=.slice x K.length c:=by
    rcases o.2 with ⟨F,r2⟩|⟨g,H,I,F,_⟩
    ·exact⟨none,0,by rw[F,r2]⟩
    ·exact⟨_,_,F⟩
   have A:Hid (rK l=.ok K):=by show _=_;rw[t.out,h]
   have W:=d.size
   have a:w2.heap[w.heap.size]?=some (.cells #[bV,Iv0 0] 120 (0,0)):=by
    rw[q.block _ (by omega),d.out.block _ (by omega)];exact U
   have aa:=aD a;have m0:=aA a (i:=0) rfl;have m1:=aA a (i:=1) rfl;have fz:=aE a (i:=0);have ab:=aE a (i:=1);have E:=aB (f.trans ((d.trans (q.mono d.size)).mono f.size));have P:=aB o;clear o q s h t a;go_wp2
   refine bodyPost_ret (v:=.agg #[.slice x K.length c,Iv0 0]) (by simp[results,results70,go_sem,m0,m1]) rfl ?_
   refine⟨(E.setCell (by simp) _).setCell (by simp) _,?_⟩
   rw[A.out];refine⟨_,rfl,?_⟩;have S:=P;rcases S.2 with hn|⟨g,H,I,F,r2,r3,r4⟩
   ·exact⟨S.1,Y4 hn⟩
   ·refine⟨S.1,Y3 ⟨g,H,I,F,by omega,?_,r4⟩⟩
    rw[Y6 _ _ _ _ (by show g≠w.heap.size;omega),Y6 _ _ _ _ (by show g≠w.heap.size;omega)]
    exact r3
def WC(A:ByteArray)(w:aH)(hT:lD w)(hs:A.size<=maxLen):
 Calls prog 42 #[.string A] w (FM A.data.toList w):=by
 have F:=aB (IZ A w hT hs);obtain⟨l,hl⟩:∃l,l=A.data.toList:=⟨_,rfl⟩;rw[<-hl] at F ⊢
 clear hl hT;go_in
 go_wp2_with fail;refine F.mono ?_;rintro e E ⟨J,N⟩
 cases i:rK l with
  |error f=>
   rw[i] at N;obtain rfl:e=dF f.1 f.2:=N;have Q:Hid (dQ l=f):=by show _=_;unfold dQ;rw[BH,i]
   have HK:=aB (VF i);have y:=aB J;clear J F i;go_wp2_with fail;exact⟨rfl,y,by rw[Q.out];exact Y3 ⟨HK,rfl⟩⟩
  |ok H=>
   rw[i] at N;obtain⟨v,rfl,O⟩:=N;have U:=(TQ i).1;have ap:=(TQ i).2;have h:=rN U
   have ac:dA l=match lT H with
    |.error n=>.error (4,n)
    |.ok (d,_)=>.ok d:=by rw[BH,i]
   have I:=aB ac;obtain⟨g,o,ai,rfl,hg,Y,D,P⟩:=S8 O h.1.some_;have aj:=aD D
   have af:PAt ⟨E.heap.size,g,o,H⟩ (E.alloc (.cells #[.slice (some (aL g 0)) H.length o,Iv0 0] 120)) 0:=
    ⟨aU _ _ rfl _,⟨ai,oM _ _ aj _ D,P⟩,by show g≠E.heap.size;omega,h.1.some_,by show H.length<=3000;omega,Y,h.1,LB U⟩
   have HP:=aB (MA ⟨E.heap.size,g,o,H⟩ (E.alloc (.cells #[.slice (some (aL g 0)) H.length o,Iv0 0] 120)) af (bT.prog h.1.ok h.1.some_));have y:=aB J;clear O J F i U ac af D P h;go_wp2_with fail;refine HP.mono ?_;rintro e w3 ⟨m,L⟩;have S:Below E.heap.size E w3:=⟨m.os.trans rfl,m.tape.trans rfl,m.output.trans rfl,Z4 (by simp) m.size,fun k hk=>by rw[m.block k (by simp;omega) (by show k≠E.heap.size;omega)];exact Z3 _ _ _ hk⟩
   have B:=aB (y.trans (S.mono y.size));cases r:lT H with
   |error n=>
    rw[r] at L;obtain rfl:e=dF 4 n:=L;have Q:Hid (dQ l=(4,n)):=by show _=_;unfold dQ;rw[I.out,r]
    clear m S HP r I;go_wp2_with fail;exact⟨rfl,B,by rw[Q.out];exact Y3 ⟨by simp,rfl⟩⟩
   |ok kq=>
    obtain⟨d,q⟩:=kq;rw[r] at L;obtain⟨_,v3,rfl,ae⟩:=L;have K:dA l=.ok d:=by rw[I.out,r]
    have a:=kU K;have Q:Hid (dQ l=kM 2001 d):=by show _=_;unfold dQ;rw[K]
    have aq:=FineL.len a;have T:∀f∈d,f.kids.length<=90000:=fun f hf=>by have:=(FineA.kids (FineL.mem a hf) 0).1;omega
    have ad:∀f∈d,∀k∈f.kids,fF 2001 k:=fun f hf k hk=>nN 2001 k (FineA.kid (FineL.mem a hf) hk)
    have aa:∀f∈d,f.kids.length+(f.kids.map (bY 2001)).sum<=90000:=fun f hf=>by have:=FineA.kids (FineL.mem a hf) 2001;omega
    have u:FSl (Btw (E.alloc (.cells #[.slice (some (aL g 0)) H.length o,Iv0 0] 120)).heap.size w3.heap.size) w3 v3 d:=ae
    obtain⟨fx,fc,rfl⟩:∃x c,v3=.slice x d.length c:=by
     rcases u.cells with ⟨h1,h2⟩|⟨g,o,h1,_⟩
     ·exact⟨none,0,by rw[h1,h2];rfl⟩
     ·exact⟨_,_,h1⟩
    have X:=aB u.kids;have HM:=aB (TB d _ _ w3 (by omega) T u)
    have W:=aB u;have ab:=aB T;have ah:=aB ad;have Z:=aB aa;have ak:=aB K;clear m S HP r I ae K a T ad aa u;go_wp2_with fail;refine HM.mono ?_;rintro e w4 ⟨j,⟨z,rfl⟩|⟨z,rfl⟩⟩
    rotate_left
    ·have s:=aB (B.trans (j.mono B.size));have M:Hid (dQ l=(5,0)):=by show _=_;rw[Q.out,RL 2001 z X.out]
     clear j z HM;go_wp2_with fail;exact⟨rfl,s,by rw[M.out];exact Y3 ⟨by decide,rfl⟩⟩
    have s:=aB (B.trans (j.mono B.size));have M:Hid (dQ l=((fC d 2001 [] d ⟨[],0,0⟩).kind,(fC d 2001 [] d ⟨[],0,0⟩).line)):=by show _=_;rw[Q.out,D6 2001 z]
    have HN:=aB (OU (E.alloc (.cells #[.slice (some (aL g 0)) H.length o,Iv0 0] 120)).heap.size d (.slice fx d.length fc) w4 2001 (by omega) ab (W.grow (fun b p=>j.block b p.2) fun b p=>⟨p.1,Y7 p.2 j.size⟩) ah Z)
    have al:=aB (W.grow (G:=Btw w.heap.size w4.heap.size) (fun b p=>j.block b p.2) fun b p=>⟨by have h1:=p.1;have h2:=y.size;simp at h1;omega,Y7 p.2 j.size⟩)
    clear j z HM Q ab ah Z X W;generalize (fC d 2001 [] d ⟨[],0,0⟩).kind=kd at*;generalize (fC d 2001 [] d ⟨[],0,0⟩).line=ld at*;go_wp2_with fail;refine HN.mono ?_;rintro e w5 ⟨t,⟨C,ag,rfl⟩|⟨C,rfl⟩⟩
    ·have V:=aB (s.trans (t.mono s.size));have ao:Hid (dQ l=(0,0)):=by show _=_;rw[M.out,C,ag]
     have am:=aB (al.grow (G:=Btw w.heap.size w5.heap.size) (fun b p=>t.block b p.2) fun b p=>⟨p.1,Y7 p.2 t.size⟩)
     clear t C ag HN;go_wp2
     go_ret;exact⟨V,Y4 ⟨ao,_,d,rfl,ak,am⟩⟩
    ·have V:=aB (s.trans (t.mono s.size));have an:=aB C;clear t C HN;go_wp2_with fail;exact⟨rfl,V,by rw[M.out];exact Y3 ⟨an,rfl⟩⟩
def qF{w:aH}{b:Nat}{o:Obj}(h:w.heap[b]?=some o):b<w.heap.size:=by
 rcases l6 b w.heap.size with a|a
 ·exact a
 ·rw[r8 a] at h;cases h
def lU{w:aH}{b i:Nat}{c:Array Value}{e:TypeId}(h:w.heap[b]?=some (.cells c e (0,0))){v:aQ}(a:c[i]?=some v):w.cell? (aL b i)=some v:=by
 simp[World.cell?,h,a]
def oN{w:aH}{b i:Nat}{c:Array Value}{e:TypeId}(h:w.heap[b]?=some (.cells c e (0,0))):w.frozen? (aL b i)=false:=by
 simp[World.frozen?,h]
def L2(p q k n:Nat)(w:World)(b:w.heap[p]?=some (.cells #[.int .i64 0] 39 (0,0)))(c:w.heap[q]?=some (.cells #[.int .i64 0] 3 (0,0)))(a:p<q):
 Below p w (((w.setCell ⟨p,0,none⟩ (.int .i64 k)).setCell ⟨q,0,none⟩ (.int .i64 n)).alloc (.cells #[.int .i64 k,.int .i64 n] 117)).drew
 /\(((w.setCell ⟨p,0,none⟩ (.int .i64 k)).setCell ⟨q,0,none⟩ (.int .i64 n)).alloc (.cells #[.int .i64 k,.int .i64 n] 117)).drew.cell? ⟨p,0,none⟩=some (.int .i64 k)
 /\(((w.setCell ⟨p,0,none⟩ (.int .i64 k)).setCell ⟨q,0,none⟩ (.int .i64 n)).alloc (.cells #[.int .i64 k,.int .i64 n] 117)).drew.cell? ⟨q,0,none⟩=some (.int .i64 n):=by
 have i:w.cell? ⟨p,0,none⟩=some (.int .i64 0):=lU b rfl;have l:w.cell? ⟨q,0,none⟩=some (.int .i64 0):=lU c rfl;have e:=qF b;have g:=qF c;have h:¬p=q:=by omega
 have j:¬q=p:=by omega
 have f:¬p=w.heap.size:=by omega
 have d:¬q=w.heap.size:=by omega
 refine⟨((((Y8 p w).setCell (Z7 p) _).setCell (al_ a) _).alloc (by simp;omega) _).drew,?_,?_⟩
 ·simp[go_sem,i,e]
 ·simp[go_sem,l,g]
def A8(p q k n:Nat)(w:World)(b:w.heap[p]?=some (.cells #[.int .i64 0] 39 (0,0)))(c:w.heap[q]?=some (.cells #[.int .i64 0] 3 (0,0)))(a:p<q):
 Below p w (((w.setCell ⟨q,0,none⟩ (.int .i64 n)).setCell ⟨p,0,none⟩ (.int .i64 k)).alloc (.cells #[.int .i64 k,.int .i64 n] 117)).drew
 /\(((w.setCell ⟨q,0,none⟩ (.int .i64 n)).setCell ⟨p,0,none⟩ (.int .i64 k)).alloc (.cells #[.int .i64 k,.int .i64 n] 117)).drew.cell? ⟨p,0,none⟩=some (.int .i64 k)
 /\(((w.setCell ⟨q,0,none⟩ (.int .i64 n)).setCell ⟨p,0,none⟩ (.int .i64 k)).alloc (.cells #[.int .i64 k,.int .i64 n] 117)).drew.cell? ⟨q,0,none⟩=some (.int .i64 n):=by
 have i:w.cell? ⟨p,0,none⟩=some (.int .i64 0):=lU b rfl;have l:w.cell? ⟨q,0,none⟩=some (.int .i64 0):=lU c rfl;have e:=qF b;have g:=qF c;have h:¬p=q:=by omega
 have j:¬q=p:=by omega
 have f:¬p=w.heap.size:=by omega
 have d:¬q=w.heap.size:=by omega
 refine⟨((((Y8 p w).setCell (al_ a) _).setCell (Z7 p) _).alloc (by simp;omega) _).drew,?_,?_⟩
 ·simp[go_sem,i,e]
 ·simp[go_sem,l,g]
def N1(v:aQ)(w:aH):(typeAssert (.iface 117 v) 20 117 true).run prog w=.ok (.tuple #[v,.bool true]) w:=by kernel_rfl
def OZ(p q k n:Nat)(a:List PanicEntry)(w:aH)(c:w.heap[p]?=some (.cells #[Iv0 0] 39 (0,0)))(b:w.heap[q]?=some (.cells #[Iv0 0] 3 (0,0)))(d:p<q):
 CallsD prog 69 #[bO p,bO q] (.panicking ({ v:=.iface 117 (.agg #[Iv0 k,Iv0 n]),recovered:=false }::a)) w fun e u f=>
  e=bE (.tuple #[])/\u=.panicking ({ v:=.iface 117 (.agg #[Iv0 k,Iv0 n]),recovered:=true }::a)/\Below p w f/\f.cell? (aL p 0)=some (Iv0 k)/\f.cell? (aL q 0)=some (Iv0 n):=by
 have H:=lU c (i:=0) rfl;have E:=lU b (i:=0) rfl;have B:=oN (i:=0) c;have C:=oN (i:=0) b;have F:=qF c;have G:=qF b;have A:=N1;refine callsD_of_wpS func69 rfl fun r D y=>?_
 apply wpS_seq
 apply wpS_region
 simp[wpOpsS,go_sem,recoverD,y,ntmps69,Exit.thenS];refine wpS_of_wp ?_;have t:¬p=q:=by omega
 have z:¬q=p:=by omega
 have x:¬p=w.heap.size:=by omega
 have s:¬q=w.heap.size:=by omega
 obtain⟨o,j,m⟩:=L2 p q k n w c b d;obtain⟨g,l,h⟩:=A8 p q k n w c b d;clear c b;go_wp2_with fail;go_region
 all_goals
  go_wp2_with fail;first
  |exact⟨rfl,_,rfl,.tuple #[],by simp[results,results69],rfl,rfl,o,j,m⟩
  |exact⟨rfl,_,rfl,.tuple #[],by simp[results,results69],rfl,rfl,g,l,h⟩
def TH(p q:Addr)(w:aH):
 CallsD prog 69 #[.pointer (some p),.pointer (some q)] .returning w fun e d c=>e=bE (.tuple #[])/\d=.returning/\c=w:=by
 refine callsD_of_wpS func69 rfl fun a f b=>?_
 apply wpS_seq
 apply wpS_region
 simp[wpOpsS,go_sem,recoverD,b,ntmps69,Exit.thenS];refine wpS_of_wp ?_;go_wp2_with fail;exact⟨rfl,a.mode,rfl,.tuple #[],by simp[results,results69],rfl,b,rfl⟩
def nY(w:aH)(o a:Obj):((w.alloc o).alloc a).heap[w.heap.size]?=some o:=by
 rw[Z3 _ _ _ (by simp)]
 show (w.heap.push o)[w.heap.size]?=_
 rw[Array.getElem?_push,if_pos rfl]
def lK(w:aH)(o a:Obj):((w.alloc o).alloc a).heap[w.heap.size+1]?=some a:=by
 show ((w.alloc o).heap.push a)[w.heap.size+1]?=_
 rw[Array.getElem?_push,if_pos (by simp)]
def D9(b:Fn)(first a:Array Value)(w:aH):(Instr.makeFunc b first a).run prog w=.ok (.func b first a) w:=rfl
end Go.Proofs.YtddnpoiiimjpcaaGreatDoor
