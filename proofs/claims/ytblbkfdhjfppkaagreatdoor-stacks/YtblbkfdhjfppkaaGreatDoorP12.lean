/- Contracts of the program: names: calls, declarations. -/
import Derived.Test.YtblbkfdhjfppkaaGreatDoorP11
import Derived.Test.YtblbkfdhjfppkaaGreatDoorP03
set_option linter.defProp false
set_option maxRecDepth 100000
set_option maxHeartbeats 4000000
namespace Go.Proofs.YtblbkfdhjfppkaaGreatDoor
open Hs
open _root_.Go.Proofs.Tryz
open Go.RowKit
def WT(cb lo:Nat)(fs:List aC)(m:Value)(q:fs.length<=90000)(t:∀f∈fs,f.kids.length<=90000)(d:Nat)(z:mI cb lo fs m d)(c:aC)(v:Value)(seen:List (List UInt8))(w:World)(h:CK cb lo fs m w seen)(b:PKid (Btw lo cb) w v c.kids)(x:∀k∈c.kids,eY d k)(p:seen.length+(c.kids.map (bW d)).sum<=90000):
 Calls prog 167 #[.pointer (some ⟨cb,0,none⟩),.iface 341 (.agg #[.int .i64 c.line,.string (bs c.text),v])] w (cY cb lo fs m w (foldL fs d c.kids (eB fs false ⟨seen,0,0⟩ c))):=by
 obtain⟨n,u,rfl⟩:=b.slice;have C:=zD;have E:=BF;have I:=SF;have F:=ER;have H:=BE;have G:=ES;have D:=JQ;obtain⟨a,g⟩:=Loc.new h (.cells #[.int .i64 c.line,.string (bs c.text),.slice n c.kids.length u] 341);have i:=aB a;have A:=aB (VO cb lo fs m q t d z c (.slice n c.kids.length u) seen (w.alloc (.cells #[.int .i64 c.line,.string (bs c.text),.slice n c.kids.length u] 341)) g (b.below a.fb.bel) x p (by have:=vA x;omega))
 clear h a g;generalize foldL fs d c.kids (eB fs false ⟨seen,0,0⟩ c)=c at*;go_enter func167,ntmps167;go_wp2_with fail;refine A.out.mono ?_;rintro e B ⟨l,⟨s,y,rfl,j⟩|⟨b,rfl⟩⟩
 ·have o:=aB (i.out.fb.trans l);have r:=aB j;subst y;clear l j;go_wp2_with fail;go_end0;exact cY.done o.out rfl r.out
 ·have o:=aB (i.out.fb.trans l);have r:=aB b;clear l b;go_wp2_with fail;exact⟨rfl,cY.fault (c1:=c) o.out r.out (Stk.refl _)⟩
def TT(cb lo:Nat)(fs:List aC)(m:Value)(d:Nat)(y:jQ cb lo fs m d)(seen:List (List UInt8))(w:World)(h:CK cb lo fs m w seen)(l:Nat)(t a:aC)(v1:Value)(v:PN (Btw lo cb) w v1 a)(p:eY d a)(q:seen.length+bW d a<=90000):
 Calls prog 167 #[.pointer (some ⟨cb,0,none⟩),.iface 329 (.agg #[.int .i64 l,.int .i64 t.line,.string (bs t.text),v1])] w (cY cb lo fs m w (({ aO fs false d a (Hs.declaresL ⟨seen,0,0⟩ t) with seen:=(aO fs false d a (Hs.declaresL ⟨seen,0,0⟩ t)).seen++[t.text] }:aZ))):=by
 obtain⟨n,f,rfl⟩:=v.form;have B:=tK;obtain⟨b,g⟩:=Loc.new h (.cells #[.int .i64 l,.int .i64 t.line,.string (bs t.text),.iface n (.agg f)] 329);have i:=aB b;have z:=aB (QV cb lo fs m d y (w.alloc (.cells #[.int .i64 l,.int .i64 t.line,.string (bs t.text),.iface n (.agg f)] 329)) seen g l t a (.iface n (.agg f)) (v.below b.fb.bel) p q);clear h b g;generalize ({ aO fs false d a (Hs.declaresL ⟨seen,0,0⟩ t) with seen:=(aO fs false d a (Hs.declaresL ⟨seen,0,0⟩ t)).seen++[t.text] }:aZ)=c at*
 go_enter func167,ntmps167;go_wp2_with fail;refine z.out.mono ?_;rintro e A ⟨k,⟨s,x,rfl,j⟩|⟨u,rfl⟩⟩
 ·have o:=aB (i.out.fb.trans k);have r:=aB j;subst x;clear k j;go_wp2_with fail;go_end0;exact cY.done o.out rfl r.out
 ·have o:=aB (i.out.fb.trans k);have r:=aB u;clear k u;go_wp2_with fail;exact⟨rfl,cY.fault (c1:=c) o.out r.out (Stk.refl _)⟩
def TR(cb lo:Nat)(fs:List aC)(k:Value)(seen:List (List UInt8))(w:World)(h:CK cb lo fs k w seen)(l m:Nat):
 Calls prog 167 #[.pointer (some ⟨cb,0,none⟩),.iface 338 (.agg #[.int .i64 l,.iface 397 (.agg #[.int .i64 m,.int .i64 0])])] w (cY cb lo fs k w ((⟨seen,0,0⟩:aZ))):=by
 have r:=nI;have t:=oC;have x:=uM;have u:=pH;have v:=oB;obtain⟨a,b⟩:=Loc.new h (.cells #[.int .i64 l,.iface 397 (.agg #[.int .i64 m,.int .i64 0])] 338);have d:=aB a;have o:=aB (IG cb lo fs k seen (w.alloc (.cells #[.int .i64 l,.iface 397 (.agg #[.int .i64 m,.int .i64 0])] 338)) b m 0);clear h a b;generalize (⟨seen,0,0⟩:aZ)=c at*;go_enter func167,ntmps167;go_wp2_with fail;refine o.out.mono ?_;rintro e q ⟨g,⟨s,p,rfl,f⟩|⟨n,rfl⟩⟩
 ·have i:=aB (d.out.fb.trans g);have j:=aB f;subst p;clear g f;go_wp2_with fail;go_end0;exact cY.done i.out rfl j.out
 ·have i:=aB (d.out.fb.trans g);have j:=aB n;clear g n;go_wp2_with fail;exact⟨rfl,cY.fault (c1:=c) i.out j.out (Stk.refl _)⟩
def dU{fs:List aC}{d:Nat}{a:aC}{s:aZ}(b:(a.op==[118,97,114])=false)(c:(a.op==[98,108,111,99,107])=false):aO fs false (d+1) a s=foldL fs d a.kids (cD fs false s a):=by
 rw[aO,if_neg (by rw[b];simp)]
 simp only[c];rfl
def look_plain{fs:List aC}{a:aC}{s:aZ}(c:(a.op==[115,101,116])=false)(b:(a.op==[110,97,109,101])=false)(d:(a.op==[99,97,108,108])=false):cD fs false s a=s:=by
 unfold cD;rw[c,b,d];rfl
def OV{fs:List aC}{a:aC}{s:aZ}(h:(a.op==[115,101,116] || a.op==[110,97,109,101])=true):cD fs false s a=AK s a.line a.text:=by
 unfold cD;rw[h];rfl
def IJ{fs:List aC}{a:aC}{s:aZ}(h:a.op=[99,97,108,108]):cD fs false s a=eB fs false s a:=by
 unfold cD;rw[h];rfl
def OK{x y:List UInt8}(h:bZ x≠9)(a:bZ y=9):(x==y)=false:=by
 rw[beq_eq_false_iff_ne];intro e;rw[e] at h;exact h a
def ZF(cb lo:Nat)(fs:List aC)(p:Value)(E:fs.length<=90000)(G:∀f∈fs,f.kids.length<=90000)(d:Nat)(IHs:∀e,e<=d->jQ cb lo fs p e):jQ cb lo fs p (d+1):=by
 intro v a seen w h O C j;obtain⟨T,W,V,rfl,L,m⟩:=O.parts;have u:=IHs d (au_ _);have I:=rS cb lo fs p d u
 have A:sF cb lo fs p d:=by
  cases d with
  |zero=>exact fun _ _ _ _ _ _ _ P _=>P.elim
  |succ e=>exact RK (rS cb lo fs p e (IHs e (by omega)))
 rw[bW] at j;have i:∀k∈a.kids,eY d k:=C;clear O C;rcases L with ⟨rfl,k,rfl,b,M,g,rfl⟩|⟨rfl,rfl,b,g,rfl⟩|⟨rfl,rfl,b,g,rfl⟩|⟨rfl,y,rfl,b,rfl⟩|⟨rfl,y,rfl,b,rfl⟩|⟨rfl,rfl,b,g,rfl⟩|⟨rfl,l,q,F,n,B,rfl,b,g,rfl⟩|⟨rfl,o,q,n,rfl,U,b,g,rfl⟩|⟨rfl,l,q,F,n,B,rfl,b,g,rfl⟩|⟨rfl,q,t,n,rfl,b,g,rfl⟩|⟨rfl,y,q,l,n,rfl,b,g,rfl⟩|⟨rfl,q,z,n,r,rfl,b,x,g,rfl⟩|⟨rfl,q,z,N,n,r,J,rfl,b,x,K,g,rfl⟩|⟨rfl,q,z,n,r,rfl,b,x,g,rfl⟩|⟨rfl,l,rfl,b,g,rfl⟩|⟨rfl,q,n,rfl,b,g,rfl⟩|⟨rfl,q,n,rfl,b,g,rfl⟩|⟨rfl,y,c,rfl,b,S,Q,g,s,rfl⟩
 ·have e:aO fs false (d+1) a ⟨seen,0,0⟩=⟨seen,0,0⟩:=by rw[dU (by rw[b];decide) (by rw[b];decide),look_plain (by rw[b];decide) (by rw[b];decide) (by rw[b];decide),g];rfl
  rw[e];exact IG cb lo fs p seen w h _ k
 ·have e:aO fs false (d+1) a ⟨seen,0,0⟩=⟨seen,0,0⟩:=by rw[dU (by rw[b];decide) (by rw[b];decide),look_plain (by rw[b];decide) (by rw[b];decide) (by rw[b];decide),g];rfl
  rw[e];exact ZK cb lo fs p seen w h _ _
 ·have e:aO fs false (d+1) a ⟨seen,0,0⟩=⟨seen,0,0⟩:=by rw[dU (by rw[b];decide) (by rw[b];decide),look_plain (by rw[b];decide) (by rw[b];decide) (by rw[b];decide),g];rfl
  rw[e];exact V6 cb lo fs p seen w h _ _
 ·rw[dU (by rw[b];decide) (by rw[b];decide),look_plain (by rw[b];decide) (by rw[b];decide) (by rw[b];decide)]
  exact V0 cb lo fs p d I seen w h _ y a.kids (m _ (aD_.2 rfl)).many i (by omega)
 ·rw[dU (by rw[b];decide) (by rw[b];decide),IJ b]
  exact WT cb lo fs p E G d I a y seen w h (m _ (aD_.2 rfl)).many i (by omega)
 ·have e:aO fs false (d+1) a ⟨seen,0,0⟩=AK ⟨seen,0,0⟩ a.line a.text:=by rw[dU (by rw[b];decide) (by rw[b];decide),OV (by rw[b];decide),g];rfl
  rw[e];exact OS cb lo fs p seen w h _ _ (by omega)
 ·rw[dU (by rw[b];decide) (by rw[b];decide),look_plain (by rw[b];decide) (by rw[b];decide) (by rw[b];decide),g]
  rw[g] at j i;simp only[aM_,a8_,aO_,bg_] at j;exact M3 cb lo fs p d u seen w h l q n (m _ (by simp)).one' (i n (by simp)) F B (m ⟨F,[B],true⟩ (by simp)).one' (i B (by simp)) (by omega)
 ·have H:a.op=[45,120]\/a.op=[33,120]:=by rcases U with rfl|rfl<;>simp[b]
  have e:aO fs false (d+1) a ⟨seen,0,0⟩=aO fs false d n ⟨seen,0,0⟩:=by
   rcases H with b|b<;>(rw[dU (by rw[b];decide) (by rw[b];decide),look_plain (by rw[b];decide) (by rw[b];decide) (by rw[b];decide),g];rfl)
  rw[e];rw[g] at j i;simp only[aM_,a8_,aO_,bg_] at j;exact M1 cb lo fs p d u seen w h _ _ q n (m _ (by simp)).one' (i n (by simp)) (by omega)
 ·rw[dU (OK b (by decide)) (OK b (by decide)),look_plain (OK b (by decide)) (OK b (by decide)) (OK b (by decide)),g]
  rw[g] at j i;simp only[aM_,a8_,aO_,bg_] at j;exact ZM cb lo fs p d u seen w h l _ q n (m _ (by simp)).one' (i n (by simp)) F B (m ⟨F,[B],true⟩ (by simp)).one' (i B (by simp)) (by omega)
 ·have e:aO fs false (d+1) a ⟨seen,0,0⟩={ aO fs false d n (Hs.declaresL ⟨seen,0,0⟩ t) with seen:=(aO fs false d n (Hs.declaresL ⟨seen,0,0⟩ t)).seen++[t.text] }:=by
   rw[aO,if_pos (by rw[b];rfl),g]
  rw[e];rw[g] at j i;simp only[aM_,a8_,aO_,bg_] at j;exact TT cb lo fs p d u seen w h _ t n q (m _ (by simp)).one' (i n (by simp)) (by omega)
 ·rw[dU (by rw[b];decide) (by rw[b];decide),OV (by rw[b];decide),g]
  rw[g] at j i;simp only[a7_,aM_,a8_,bC_,aO_,bg_] at j
  have e:foldL fs d (l++[n]) (AK ⟨seen,0,0⟩ a.line a.text)=aO fs false d n (foldL fs d l (AK ⟨seen,0,0⟩ a.line a.text)):=by
   show List.foldl _ _ (l++[n])=_
   rw[List.foldl_append];rfl
  rw[e];exact ZN cb lo fs p d u I seen w h _ _ y l (m ⟨y,l,false⟩ (by simp)).many (fun k M=>i k (aP_ _ M)) q n (m ⟨q,[n],true⟩ (by simp)).one' (i n (by simp)) (by omega)
 ·rw[dU (by rw[b];decide) (by rw[b];decide),look_plain (by rw[b];decide) (by rw[b];decide) (by rw[b];decide),g]
  rw[g] at j i;simp only[aM_,a8_,aO_,bg_] at j;exact m7 cb lo fs p d u I A seen w h _ q n (m ⟨q,[n],true⟩ (by simp)).one' (i n (by simp)) z r x (m ⟨z,r.kids,false⟩ (by simp)).many (i r (by simp)) (by omega)
 ·rw[dU (by rw[b];decide) (by rw[b];decide),look_plain (by rw[b];decide) (by rw[b];decide) (by rw[b];decide),g]
  rw[g] at j i;simp only[aM_,a8_,aO_,bg_] at j;exact z7 cb lo fs p d u A seen w h _ q n (m ⟨q,[n],true⟩ (by simp)).one' (i n (by simp)) z r x (m ⟨z,r.kids,false⟩ (by simp)).many (i r (by simp)) N J K (m ⟨N,J.kids,false⟩ (by simp)).many (i J (by simp)) (by omega)
 ·rw[dU (by rw[b];decide) (by rw[b];decide),look_plain (by rw[b];decide) (by rw[b];decide) (by rw[b];decide),g]
  rw[g] at j i;simp only[aM_,a8_,aO_,bg_] at j;exact M0 cb lo fs p d u A seen w h _ q n (m ⟨q,[n],true⟩ (by simp)).one' (i n (by simp)) z r x (m ⟨z,r.kids,false⟩ (by simp)).many (i r (by simp)) (by omega)
 ·have e:aO fs false (d+1) a ⟨seen,0,0⟩=⟨seen,0,0⟩:=by rw[dU (by rw[b];decide) (by rw[b];decide),look_plain (by rw[b];decide) (by rw[b];decide) (by rw[b];decide),g];rfl
  rw[e];exact TR cb lo fs p seen w h _ l
 ·rw[dU (by rw[b];decide) (by rw[b];decide),look_plain (by rw[b];decide) (by rw[b];decide) (by rw[b];decide),g]
  rw[g] at j i;simp only[aM_,a8_,aO_,bg_] at j;exact ZL cb lo fs p d u seen w h _ q n (m _ (by simp)).one' (i n (by simp)) (by omega)
 ·rw[dU (by rw[b];decide) (by rw[b];decide),look_plain (by rw[b];decide) (by rw[b];decide) (by rw[b];decide),g]
  rw[g] at j i;simp only[aM_,a8_,aO_,bg_] at j;exact M2 cb lo fs p d u seen w h _ q n (m _ (by simp)).one' (i n (by simp)) (by omega)
 ·rw[dU (by rw[b];decide) (by rw[b];decide),look_plain (by rw[b];decide) (by rw[b];decide) (by rw[b];decide),g]
  rw[g] at j i;simp only[aM_,a8_,aO_,bg_] at j;have D:=i c (by simp)
  cases d with
  |zero=>exact D.elim
  |succ e=>
   show Calls _ _ _ _ (cY cb lo fs p w (aO fs false (e+1) c ⟨seen,0,0⟩))
   rw[bW] at j;rw[dU (by rw[s];decide) (by rw[s];decide),IJ s]
   exact WT cb lo fs p E G e (rS cb lo fs p e (IHs e (by omega))) c y seen w h (m ⟨y,c.kids,false⟩ (by simp)).many D (by omega)
def L5(cb lo:Nat)(fs:List aC)(c:Value)(b:fs.length<=90000)(a:∀f∈fs,f.kids.length<=90000)(d:Nat):jQ cb lo fs c d:=by
 induction d using Nat.strongRecOn with
 |_ d h=>
  cases d with
  |zero=>exact fun _ _ _ _ _ _ g _=>g.elim
  |succ d=>exact ZF cb lo fs c b a d fun e i=>h e (by omega)
def j2{ps:List aC}(k:Nat)(b:k<ps.length):(F8 ps)[k*2]?=some (.int .i64 ps[k].line)/\(F8 ps)[k*2+1]?=some (.string (bs ps[k].text)):=by
 induction ps generalizing k with
 |nil=>simp at b
 |cons a ps c=>
  cases k with
  |zero=>exact⟨rfl,rfl⟩
  |succ k=>
   have:=c k (by simpa using b)
   have e:∀j,(F8 (a::ps))[(k+1)*2+j]?=(F8 ps)[k*2+j]?:=fun j=>by
    rw[F8,show (k+1)*2+j=k*2+j+1+1 by omega];rfl
   exact⟨(e 0).trans this.1,(e 1).trans this.2⟩
def PNm.get{F:Nat->Prop}{w:World}{v:Value}{ps:List aC}(h:PNm F w v ps):(v=.slice none 0 0/\ps=[])\/∃g a,v=.slice (some ⟨g,0,none⟩) ps.length a/\F g/\g<w.heap.size/\ps.length<=a/\∀k (b:k<ps.length),w.cell? ⟨g,k*2,none⟩=some (.int .i64 ps[k].line)/\w.cell? ⟨g,k*2+1,none⟩=some (.string (bs ps[k].text)):=by
 obtain⟨_,h|⟨g,a,o,l,f,d,i,m⟩⟩:=h
 ·exact av_ h
 ·refine as_ ⟨g,a,l,f,aD d,i,fun k b=>?_⟩
  obtain⟨p,n⟩:=j2 k b
  have e:∀j u,j<ps.length*2->(F8 ps)[j]?=some u->w.cell? ⟨g,j,none⟩=some u:=fun j u q c=>by
   refine aA d ?_;rw[<-m,aU_,if_pos q] at c;simpa using c
  exact⟨e _ _ (by omega) p,e _ _ (by omega) n⟩
def DD{F:Nat->Prop}{w:World}:∀{us:List Value} {fs:List aC} (i:Nat),jX (AC F w) us fs->i<=fs.length->(jO us).take (i*4)=jO (us.take i)
 |[],[],i,_,h=>by simp[jO]
 |u::us,f::fs,0,_,_=>by simp[jO]
 |u::us,f::fs,i+1,⟨⟨g,d,j,b,c,_⟩,h⟩,e=>by
  subst c;have a:=DD i h (by simpa using e)
  rw[bu_,jO,jO,<-a,List.take_append];have:(xD (Value.agg #[.int .i64 f.line,.string (bs f.text),g,d])).length=4:=rfl;rw[this,a0_ (by rw[this];omega)]
  congr 2;omega
 |[],_::_,_,h,_=>h.elim
 |_::_,[],_,h,_=>h.elim
def jX.take{R:Value->aC->Prop}:∀{vs ks} (i:Nat),jX R vs ks->jX R (vs.take i) (ks.take i)
 |_,_,0,_=>by simp[jX]
 |[],[],_+1,_=>trivial
 |_::_,_::_,i+1,⟨b,a⟩=>⟨b,jX.take i a⟩
 |[],_::_,_,h=>h.elim
 |_::_,[],_,h=>h.elim
def FSl.take{F:Nat->Prop}{w:World}{g a:Nat}{fs:List aC}(h:FSl F w (.slice (some ⟨g,0,none⟩) fs.length a) fs)(i:Nat)(m:i<=fs.length):FSl F w (.slice (some ⟨g,0,none⟩) i a) (fs.take i):=by
 rcases h with ⟨b,_⟩|⟨p,d,c,n,b,j,l,o,k,f⟩
 ·cases b
 ·cases b;have e:(fs.take i).length=i:=by rw[bc_];omega
  refine as_ ⟨g,a,c,n.take i,by rw[e],j,l,by omega,?_,f.take i⟩
  rw[e,<-DD i f m,<-k,bO_];congr 1;omega
def CK.reset{cb lo:Nat}{fs:List aC}{c g:Value}{w:World}{seen:List (List UInt8)}(h:CK cb lo fs c w seen)(a:w.heap[cb]?=some (.cells #[c,g] 220 (0,0))):
 FB cb w (w.setCell ⟨cb,1,none⟩ (.slice none 0 0))/\CK cb lo fs c (w.setCell ⟨cb,1,none⟩ (.slice none 0 0)) []:=by
 have f:=aD a;have d:Below cb w (w.setCell ⟨cb,1,none⟩ (.slice none 0 0)):=(ay_ _ _).setCell (by simp) _
 have e:(w.setCell ⟨cb,1,none⟩ (.slice none 0 0)).heap[cb]?=some (.cells #[c,.slice none 0 0] 220 (0,0)):=by rw[aS a];rfl
 refine⟨⟨d,fun k b i j=>ax_ _ _ _ _ (by show k≠cb;exact i),fun k b=>?_⟩,⟨.slice none 0 0,e,World.ownsRow_nil _ _ _ _⟩,h.fun_.keep fun k b=>d.block k b.2⟩
 rw[mS e] at b;cases b
def TJ(a:List aC)(x:List UInt8):(kX a x).isSome=(fL x || !(dL a x).isNone):=by
 unfold kX fL;cases x==[108,101,110]<;>cases x==[114,101,97,100]<;>cases dL a x<;>rfl
def CN(fs:List aC)(d:Nat)(s:aZ)(k:aC):Stk s (eJ fs d s k):=by
 unfold eJ;split
 ·exact(Stk.declares s k).trans (Stk.seen _ _)
 ·exact Stk.walk fs false d k s
def K9(fs:List aC)(d:Nat)(s:aZ)(k:aC)(h:k.op=[112,97,114,97,109]):eJ fs d s k={ Hs.declaresL s k with seen:=(Hs.declaresL s k).seen++[k.text] }:=by
 unfold eJ;rw[h];rfl
def L0(fs:List aC)(d:Nat)(s:aZ)(k:aC)(h:k.op=[98,108,111,99,107]):eJ fs d s k=aO fs false d k s:=by
 unfold eJ;rw[h];rfl
def k9(cb lo:Nat)(fs:List aC)(fv:Value)(d:Nat)(w:World)(b0:Nat)(o:Obj)(ps:List aC)(b:aC)(c:aZ)(gk:Nat)(i:Value)(wr:World):Prop:=
 ∃k s,k+gk=ps.length/\i=.int .i64 (k:Nat)/\Loc cb w b0 o wr/\CK cb lo fs fv wr s/\c=(ps.drop k++[b]).foldl (eJ fs d) ⟨s,0,0⟩/\s.length=k
def VG(fs:List aC)(d:Nat)(seen:List (List UInt8))(f:aC)(first:Bool)(h:(fL f.text || !first)=true):Stk ⟨[],6,f.line⟩ (fR fs d ⟨seen,0,0⟩ f first):=by
 unfold fR;rw[h];exact Stk.fold (CN fs d) _ _
def Z4(fs:List aC)(d:Nat)(seen:List (List UInt8))(f:aC)(first:Bool)(h:(fL f.text || !first)=false):fR fs d ⟨seen,0,0⟩ f first=f.kids.foldl (eJ fs d) ⟨[],0,0⟩:=by
 unfold fR;rw[h];rfl
def D7(cb lo:Nat)(fs:List aC)(g n:Nat)(ck:fs.length<=90000)(H:∀f∈fs,f.kids.length<=90000)(d i:Nat)(hi:i<fs.length)(seen:List (List UInt8))(w:World)(h:CK cb lo fs (FV (.slice (some ⟨g,0,none⟩) fs.length n)) w seen)
 (hd:∀k∈fs[i].kids,eY d k) (hw:fs[i].kids.length+(fs[i].kids.map (bW d)).sum<=90000):
 Calls prog 137 #[.pointer (some ⟨cb,0,none⟩),.slice (some ⟨g,0,none⟩) fs.length n,.int .i64 i] w (cY cb lo fs (FV (.slice (some ⟨g,0,none⟩) fs.length n)) w (fR fs d ⟨seen,0,0⟩ fs[i] (dL (fs.take i) fs[i].text).isNone)):=by
 obtain⟨_,aj,aa⟩:=h.fun_;cases aj;rcases aa.cells with ⟨h1,_⟩|⟨g',de,h1,cw,dq,cz,hc⟩
 ·cases h1
 cases h1;obtain⟨pv,bv,m,b,e0,e1,e2,e3,z,ad,au,am⟩:=hc i hi;obtain⟨Q,V,rfl⟩:=ad.slice;obtain⟨K,L,rfl⟩:=am.slice;have ay:=aB (TJ (fs.take i) fs[i].text);have bk:=H fs[i] (aR_ hi);have br:=aB (aa.take i (by omega))
 generalize du:fs[i]=f at*;have bz:=aB (fun hx=>VG fs d seen f (dL (fs.take i) f.text).isNone hx)
 have cj:=aB (fun hx=>Z4 fs d seen f (dL (fs.take i) f.text).isNone hx)
 have bl:=h.lt;obtain⟨an,aw⟩:=Loc.new h (.cells #[.int .i64 f.line,.string (bs f.text),.slice Q m.length V,.slice K b.kids.length L] 215);obtain⟨sx,sc,S,dm,dc,bm⟩:=h.cut;obtain⟨q,c0,M,f1⟩:=jF S;have bw:=aB an;have ca:=aB aw;have bb:=aB ad;have cu:=aB am;have ax:=aB au;have ak:=aB z;have HD:=aB hd;have HW:=aB hw;have dv:=aB H;have ch:i<=n:=by omega
 have HBLK:Hid (sF cb lo fs (FV (.slice (some ⟨g,0,none⟩) fs.length n)) d):=by
  cases d with
  |zero=>exact fun _ _ _ _ _ _ _ hd _=>hd.elim
  |succ e=>exact RK (rS cb lo fs _ e (L5 cb lo fs _ ck H e))
 have dg:m.length<=90000:=by rw[z] at bk;simp at bk;omega
 have co:Hid (Below w.heap.size w (w.alloc (.cells #[.int .i64 f.line,.string (bs f.text),.slice Q m.length V,.slice K b.kids.length L] 215))):=(ay_ _ _).alloc (au_ _) _;have I:=aB (CS (fs.take i) (Btw lo cb) (.slice (some ⟨g,0,none⟩) i n) f.text (w.alloc (.cells #[.int .i64 f.line,.string (bs f.text),.slice Q m.length V,.slice K b.kids.length L] 215)).drew (by rw[bc_];omega) (fun f hf=>H f (bJ_ hf)) (br.out.keep fun k hk=>by have:=hk.2;exact aA_ _ _ _ (by omega)))
 rw[ay.out] at I;generalize cy:((kX (List.take i fs) f.text).getD 0)=pn at I;obtain⟨tk,ai⟩:∃tk,tk=(fL f.text || !(dL (fs.take i) f.text).isNone):=⟨_,rfl⟩
 rw[<-ai] at I;have ao:=aB ai;obtain⟨Y,r⟩:∃Y,Y=fR fs d ⟨seen,0,0⟩ f (dL (fs.take i) f.text).isNone:=⟨_,rfl⟩;rw[<-r];have az:=aB r;clear cy ai r h an aw ad am au z hd hw H aa hc S bm ay br cw;go_enter func137,ntmps137;go_wp2_with fail;go_cut [7,8] (fun _ tv wc=>tv=.bool tk/\Below w.heap.size w wc/\Loc cb w w.heap.size (.cells #[.int .i64 f.line,.string (bs f.text),.slice Q m.length V,.slice K b.kids.length L] 215) wc/\CK cb lo fs (FV (.slice (some ⟨g,0,none⟩) fs.length n)) wc seen)
 case first=>
  go_region_law (go_simp;go_at_call 135;refine I.out.mono ?_;rintro e w1 ⟨rfl,bu⟩;have ag:=aB ((ay_ (w.alloc (.cells #[.int .i64 f.line,.string (bs f.text),.slice Q m.length V,.slice K b.kids.length L] 215)).heap.size (w.alloc (.cells #[.int .i64 f.line,.string (bs f.text),.slice Q m.length V,.slice K b.kids.length L] 215))).drew.trans bu);clear bu)
  all_goals
   go_wp2_with fail;go_meet
   case rel=>exact⟨rfl,co.out.trans (ag.out.mono (by simp)),bw.out.step (FB.of_below ag.out (by simp;omega)),ca.out.grow ag.out⟩
 case rest=>
  obtain⟨rfl,aq,y,P⟩:=hcut;clear c0 M f1 q e0 e1 e2 e3;obtain⟨dn,dl,v,di,ct,ac⟩:=P.cut;obtain⟨q,c0,M,f1⟩:=jF v;have cm:=aB y;have ds:=aB P;have m0:=aA y.blk (i:=0) rfl;have m1:=aA y.blk (i:=1) rfl;have m2:=aA y.blk (i:=2) rfl;have m3:=aA y.blk (i:=3) rfl;have O:=aD y.blk;have X:=aB (P.reset v);have bq:=aB aq;clear y P v ac aq I;cases tk;rotate_left
  ·go_wp2_with fail;refine(qT f.line _).mono ?_;rintro e J ⟨rfl,c⟩;have u:=aB (bq.out.trans (c.mono bq.out.size));clear c;go_wp2_with (go_at_call 136;refine(gF 6 f.line _).mono ?_;rintro e w3 ⟨rfl,hw⟩;obtain rfl:=hw.symm)
   exact⟨rfl,cY.fault (c1:=⟨[],6,f.line⟩) (FB.of_below u.out bl) (by simp) (by rw[az.out];exact bz.out ao.out.symm)⟩
  have HI:Hid (k9 cb lo fs (FV (.slice (some ⟨g,0,none⟩) fs.length n)) d w w.heap.size (.cells #[.int .i64 f.line,.string (bs f.text),.slice Q m.length V,.slice K b.kids.length L] 215) m b Y m.length (.int .i64 (0:Nat)) (wc.setCell ⟨cb,1,none⟩ (.slice none 0 0))):=
   ⟨0,[],by omega,rfl,cm.out.step X.out.1,X.out.2,by rw[az.out,cj.out ao.out.symm,ak.out];rfl,rfl⟩
  have df:¬cb=w.heap.size:=by omega
  have ci:¬w.heap.size=cb:=by omega
  obtain⟨i0,cx,cf,bj,cs⟩:=info_parts WY;go_wp2_with fail;go_loopg [10,37] m.length (fun gk _ iv wr=>k9 cb lo fs (FV (.slice (some ⟨g,0,none⟩) fs.length n)) d w w.heap.size (.cells #[.int .i64 f.line,.string (bs f.text),.slice Q m.length V,.slice K b.kids.length L] 215) m b Y gk iv wr)
  case atStart=>exact HI.out
  case round=>
   obtain⟨k,s,hk,rfl,l,B,r,av⟩:=hrel;have bp:=aB av;have db:s.length<=90000:=by omega
   clear av;have N:=aB l;have dk:=aB B;have bh:=aB r;clear m0 m1 m2 m3 O c0 M f1 q HI X;have m0:=aA l.blk (i:=0) rfl;have m1:=aA l.blk (i:=1) rfl;have m2:=aA l.blk (i:=2) rfl;have m3:=aA l.blk (i:=3) rfl;have O:=aD l.blk;have dy:=B.lt;by_cases q:k<m.length
   ·obtain⟨j,rfl⟩:∃j,gk=j+1:=⟨gk-1,by omega⟩
    rcases bb.out.get with ⟨_,ap⟩|⟨pg,da,aj,al,cp,cv,E⟩
    ·rw[ap] at q;simp at q
    obtain⟨bn,bf⟩:=E k q;have bo:=bb.out.1 m[k] (aR_ q);have ar:m.drop k=m[k]::m.drop (k+1):=(bA_ q).symm;have U:Y=(m.drop (k+1)++[b]).foldl (eJ fs d) (eJ fs d ⟨s,0,0⟩ m[k]):=by rw[r,ar];rfl
    generalize m[k]=a at*;cases aj;have r0:wr.cell? ⟨pg,k*2,none⟩=some (.int .i64 a.line):=(l.fb.bel.cell (p:=⟨pg,k*2,none⟩) al.2).trans bn;have r1:wr.cell? ⟨pg,k*2+1,none⟩=some (.string (bs a.text)):=(l.fb.bel.cell (p:=⟨pg,k*2+1,none⟩) al.2).trans bf;have dd:pg<wr.heap.size:=az_ (Nat.lt_trans al.2 bl) l.fb.bel.size;obtain⟨be,F⟩:=Loc.new B (.cells #[.int .i64 a.line,.string (bs a.text)] 211);have ae:=aB be;have HM:=aB (qR cb lo fs _ (wr.alloc (.cells #[.int .i64 a.line,.string (bs a.text)] 211)) s F (by omega) a.line a.text)
    have ba:Hid (Hs.declaresL ⟨s,0,0⟩ a=if fL a.text || s.contains a.text then aZ.found ⟨s,0,0⟩ a.line 6 else ⟨s,0,0⟩):=rfl
    rw[<-ba.out] at HM;have W:=aB (K9 fs d ⟨s,0,0⟩ a bo);have bd:=nA ⟨s,0,0⟩ a;have cn:=aB bd;have t:=aB U;clear r U ar bn bf E cv cp bh bd ba be F l B bo;generalize Hs.declaresL ⟨s,0,0⟩ a=M at*;go_wp2_with fail;refine HM.out.mono ?_;rintro e J ⟨c,⟨s2,rfl,rfl,o⟩|⟨D,rfl⟩⟩
    rotate_left
    ·have cr:=aB (N.out.fb.trans (ae.out.fb.trans c));have HK:=aB D;clear c D;go_wp2_with fail;exact⟨rfl,cY.fault (c1:=M) cr.out HK.out (by rw[t.out,W.out];exact(Stk.seen _ _).trans (Stk.fold (CN fs d) _ _))⟩
    obtain rfl:s2=s:=cn.out;have ah:=aB (ae.out.step c);have HLb:=aB ((N.out.step ae.out.fb).step c);obtain⟨cd,cg,x,dj,ce,C⟩:=o.cut;obtain⟨bt,c0,M,f1⟩:=jF x;have n0:=aA ah.out.blk (i:=0) rfl;have n1:=aA ah.out.blk (i:=1) rfl;have dx:=aD ah.out.blk;clear m0 m1 m2 m3 O r0 r1;have m0:=aA HLb.out.blk (i:=0) rfl;have m1:=aA HLb.out.blk (i:=1) rfl;have m2:=aA HLb.out.blk (i:=2) rfl;have m3:=aA HLb.out.blk (i:=3) rfl;have O:=aD HLb.out.blk;have u:=aB (show J.drew.heap[cb]?=_ from x)
    have ab:=aB (show J.drew.ownsRow _ _ _ _ _ _ from C)
    have G:=aB (show CK cb lo fs (FV (.slice (some ⟨g,0,none⟩) fs.length n)) J.drew s2 from o.grow (ay_ _ _).drew)
    have cq:=aB (FB.of_below (cb:=cb) (ay_ J.heap.size J).drew bt);clear x C o c HM;go_wp2_with fail;go_region_law (refine step_append_lies _ (by rfl) _ _ 60 (by rfl) (cb+1) 9 i0 _ 1 16 underlying60 cx cf bj cs rfl (by decide) (.slice cd s2.length cg) s2.length (kJ s2) (by rfl) (ab.out.alloc _) ⟨J.heap.size,0,none⟩ 1 1 [.string (bs a.text)] (by rfl) (by rfl) (OR J.drew _) (WR _) (by decide) (by unfold maxLen;omega) (by omega) (by simp;omega) (J.heap.size+1) (by simp) ?_;intro g5 dh w5 af A bi dz;have bg:=DV u.out ab.out A;obtain⟨dt, -,q1,dr⟩:=jF bg;clear bg)
    all_goals
     go_wp2_with fail;go_roundg j
     case measure=>omega
     case rel=>
      have T:=G.out.add u.out ab.out af A (bi.imp_right fun e=>by show J.heap.size<=g5;omega)
      exact⟨k+1,s2++[a.text],by omega,by go_num,(HLb.out.step cq.out).step T.1,T.2,by rw[t.out,W.out],by have:=bp.out;simp;omega⟩
   ·have dw:k=m.length:=by omega
    have Z:eY d b/\s.length+bW d b<=90000:=by
     have h1:=HW.out;have h2:=HD.out b (by rw[ak.out];simp)
     rw[ak.out] at h1;simp only[aw_,a7_,bC_,aM_,a8_,aO_,bg_,aB_,aI_] at h1;have:=bp.out;exact⟨h2,by omega⟩
    have HX:=aB (HBLK.out (.slice K b.kids.length L) b s wr B ax.out (cu.out.below l.fb.bel) Z.1 Z.2)
    have t:Hid (Y=aO fs false d b ⟨s,0,0⟩):=by
     show _=_
     rw[r,ba_ (by omega)]
     exact L0 fs d _ b ax.out
    rw[<-t.out] at HX;clear l B r bh t Z;go_wp2_with fail;refine HX.out.mono ?_;rintro e J ⟨c,⟨s2,F,rfl,o⟩|⟨D,rfl⟩⟩
    ·have u:=aB (N.out.fb.trans c);have G:=aB o;have cl:=aB F;clear c o F;go_wp2_with fail;go_end0;exact cY.done u.out cl.out G.out
    ·have u:=aB (N.out.fb.trans c);have G:=aB D;clear c D;go_wp2_with fail;exact⟨rfl,cY.fault (c1:=Y) u.out G.out (Stk.refl _)⟩
def qS(fs:List aC):Bool:=kX fs [109,97,105,110]==some 0
def VN(fs:List aC)(F:Nat->Prop)(o:Value)(w:World)(u:fs.length<=90000)(i:∀f∈fs,f.kids.length<=90000)(h:FSl F w o fs):
 Calls prog 78 #[o] w fun e s=>Below w.heap.size w s/\((qS fs=true/\e=.returned (.tuple #[]))\/(qS fs=false/\e=cX 5 0)):=by
 have d:=aB (CS fs F o [109,97,105,110] w (by omega) i h)
 have g:Hid (qS fs=(kX fs [109,97,105,110]==some 0)):=rfl;have b:=aB (fun n r=>WQ i (x:=[109,97,105,110]) (n:=n) r)
 clear h i;rw[show bs [109,97,105,110]=⟨#[109,97,105,110]⟩ from rfl] at d
 obtain⟨j,l⟩:∃j,j=qS fs:=⟨_,rfl⟩;rw[<-l] at g ⊢
 clear l;cases c:kX fs [109,97,105,110] with
 |none=>
  obtain rfl:j=false:=by rw[g.out,c];rfl
  rw[c] at d;simp only[Option.getD_none,Option.isSome_none] at d;clear c g b;go_enter func78,ntmps78;go_wp2_with fail;refine d.out.mono ?_;rintro e p ⟨rfl,a⟩;have k:=aB a;clear a;go_wp2_with (go_at_call 136;refine(gF 5 0 _).mono ?_;rintro e t ⟨rfl,m⟩;obtain rfl:=m.symm)
  exact⟨rfl,k.out,as_ ⟨trivial,rfl⟩⟩
 |some n=>
  have r:=b.out n c;rw[c] at d;simp only[Option.getD_some,Option.isSome_some] at d;cases n with
  |zero=>
   obtain rfl:j=true:=by rw[g.out,c];rfl
   clear c g b;go_enter func78,ntmps78;go_wp2_with fail;refine d.out.mono ?_;rintro e p ⟨rfl,a⟩;have k:=aB a;clear a;go_wp2_with fail;go_end0;exact⟨k.out,av_ ⟨trivial,rfl⟩⟩
  |succ n=>
   obtain rfl:j=false:=by rw[g.out,c];rfl
   clear c g b;have q:decide ((0:Int)<((n:Int)+1))=true:=decide_eq_true (by omega)
   go_enter func78,ntmps78;go_wp2_with fail;refine d.out.mono ?_;rintro e p ⟨rfl,a⟩;have k:=aB a;clear a;go_wp2_with (go_at_call 136;refine(gF 5 0 _).mono ?_;rintro e t ⟨rfl,m⟩;obtain rfl:=m.symm)
   exact⟨rfl,k.out,as_ ⟨trivial,rfl⟩⟩
def XG(fs:List aC)(d:Nat):∀(a b:List aC) (s:aZ),Stk s (eU fs d b a s)
 |[],_,s=>Stk.refl s
 |n::a,b,s=>by
  rw[eU];refine Stk.trans ?_ (XG fs d a _ _);unfold fR;refine Stk.trans ?_ (Stk.fold (CN fs d) _ _);refine Stk.trans ?_ (Stk.seen _ _);split
  ·exact Stk.found _ _ _
  ·exact Stk.refl _
def WD(cb lo:Nat)(fs:List aC)(fv:Value)(d:Nat)(w:World)(c:aZ)(gk:Nat)(i:Value)(wr:World):Prop:=
 ∃k s,k+gk=fs.length/\i=.int .i64 (k:Nat)/\Below cb w wr/\CK cb lo fs fv wr s/\c=eU fs d (fs.take k) (fs.drop k) ⟨s,0,0⟩
def RB(lo:Nat)(fs:List aC)(M:Value)(w:World)(d:Nat)(H:fs.length<=90000)(z:∀f∈fs,f.kids.length<=90000)(h:FSl (Btw lo w.heap.size) w M fs)(N:∀f∈fs,∀k∈f.kids,eY d k)(P:∀f∈fs,f.kids.length+(f.kids.map (bW d)).sum<=90000):
 Calls prog 79 #[M] w fun e U=>Below w.heap.size w U/\(((eU fs d [] fs ⟨[],0,0⟩).kind=0/\(eU fs d [] fs ⟨[],0,0⟩).line=0/\e=.returned (.tuple #[]))\/((eU fs d [] fs ⟨[],0,0⟩).kind≠0/\e=cX (eU fs d [] fs ⟨[],0,0⟩).kind (eU fs d [] fs ⟨[],0,0⟩).line)):=by
 obtain⟨y,r,rfl⟩:∃x c,M=.slice x fs.length c:=by
  rcases h.cells with ⟨t,C⟩|⟨g,F,t,_⟩
  ·exact⟨none,0,by rw[t,C];rfl⟩
  ·exact⟨_,_,t⟩
 obtain⟨c,G⟩:∃c,c=eU fs d [] fs ⟨[],0,0⟩:=⟨_,rfl⟩;have p:Below w.heap.size w (w.alloc (.cells #[FV (.slice y fs.length r),.slice none 0 0] 220)):=(ay_ _ _).alloc (au_ _) _
 have W:Hid (WD w.heap.size lo fs (FV (.slice y fs.length r)) d w c fs.length (.int .i64 (0:Nat)) (w.alloc (.cells #[FV (.slice y fs.length r),.slice none 0 0] 220))):=
  ⟨0,[],by omega,rfl,p,⟨⟨.slice none 0 0,aM _ _ rfl _,World.ownsRow_nil _ _ _ _⟩,⟨_,rfl,h.keep fun k O=>p.block k O.2⟩⟩,by rw[G];rfl⟩
 rw[<-G];have V:=aB h;have L:=aB z;have Z:=aB N;have HW:=aB P;clear h p G z N P;go_enter func79,ntmps79;go_wp2_with fail;go_loopg [3,9] fs.length (fun gk _ i wr=>WD w.heap.size lo fs (FV (.slice y fs.length r)) d w c gk i wr)
 case atStart=>exact W.out
 case round=>
  obtain⟨k,s,O,rfl,D,q,l⟩:=hrel;have E:=aB D;by_cases b:k<fs.length
  ·obtain⟨j,rfl⟩:∃j,gk=j+1:=⟨gk-1,by omega⟩
   obtain⟨g,rfl⟩:∃g,y=some ⟨g,0,none⟩:=by
    rcases V.out.cells with ⟨t,C⟩|⟨g,F,t,_⟩
    ·rw[C] at b;simp at b
    ·cases t;exact⟨g,rfl⟩
   have K:fs[k]∈fs:=aR_ b;have S:=aB (D7 w.heap.size lo fs g r H L.out d k b s wr q (Z.out _ K) (HW.out _ K));have A:fs.drop k=fs[k]::fs.drop (k+1):=(bA_ b).symm
   have a:c=eU fs d (fs.take (k+1)) (fs.drop (k+1)) (fR fs d ⟨s,0,0⟩ fs[k] (dL (fs.take k) fs[k].text).isNone):=by
    rw[l,A,eU,aT_ b]
   have n:=aB a;clear D q l a A K;generalize fR fs d ⟨s,0,0⟩ fs[k] (dL (fs.take k) fs[k].text).isNone=Y at*;go_wp2_with fail;refine S.out.mono ?_;rintro e T ⟨m,⟨s1,rfl,rfl,o⟩|⟨u,rfl⟩⟩
   rotate_left
   ·have I:=aB (E.out.trans m.bel);have v:=aB u;have B:Hid (Stk Y c):=by show Stk _ _;rw[n.out];exact XG fs d _ _ _
    clear m u;go_wp2_with fail;obtain⟨Q,X⟩:=B.out v.out;exact⟨rfl,I.out,as_ ⟨by rw[Q];exact v.out,by rw[Q,X]⟩⟩
   have J:Hid (WD w.heap.size lo fs (FV (.slice (some ⟨g,0,none⟩) fs.length r)) d w c j (.int .i64 ((k+1:Nat):Int)) T):=⟨k+1,s1,by omega,rfl,E.out.trans m.bel,o,n.out⟩
   clear m o S;go_wp2_with fail;go_roundg j
   case measure=>omega
   case rel=>exact J.out
  ·have a:c=⟨s,0,0⟩:=by rw[l,ba_ (by omega)];rfl
   have n:=aB a;clear D q l a;go_wp2_with fail;go_end0;rw[n.out];exact⟨E.out,av_ ⟨rfl,rfl,rfl⟩⟩
structure NTabs(w:World):Prop where
 er:∃te pe,w.cell? ⟨10,0,none⟩=some (.iface te pe)
 big:11<=w.heap.size
def NTabs.fr{w w':World}{sb:Nat}(h:NTabs w)(a:Fr sb w w')(e:11<=sb):NTabs w':=by
 obtain⟨b,d,c⟩:=h.er;have:=h.big;have:=a.size;exact⟨⟨b,d,by rw[xE (a.block 10 (by omega) (by omega))];exact c⟩,by omega⟩
def YX(l:List UInt8)(i:∀c∈l,eA c=true)(a:l≠[])(q:l.length<=100000)(w:World)(k:NTabs w):
 Calls prog 300 #[.string (bs l),.int .i64 10,.int .i64 64] w fun e b=>Below w.heap.size w b/\((∃v,dG 0 l=some v/\e=.returned (.tuple #[.int .i64 (v:Nat),.nilIface]))\/(dG 0 l=none/\∃x T p,e=.returned (.tuple #[.int .i64 x,.iface T p]))):=by
 have m:(bs l).size=l.length:=gA l;rcases B0 l i a with ⟨v,f,d⟩|⟨f,d⟩
 ·refine(strconv_ParseInt_10_at64_ok (bs l) (by omega) v (by rw[fS];exact d) w).mono ?_
  rintro e b ⟨rfl,n⟩;refine⟨?_,av_ ⟨v,f,rfl⟩⟩;rcases n with rfl|⟨t,rfl⟩
  ·exact ay_ _ _
  ·exact Lib.bytesWorld_below _ _ _
 ·obtain⟨h,g,o⟩:=k.er;refine(strconv_ParseInt_10_at64_range (bs l) (by omega) (by rw[fS];exact d) (.iface h g) w o (as_ ⟨h,g,rfl⟩)).mono ?_
  rintro e b ⟨N,rfl,_,_,j⟩;exact⟨j,as_ ⟨f,_,_,_,rfl⟩⟩
def tD(c:UInt8):eC false c=eA c:=by unfold eC;simp
def MW(sb:Nat)(a:ByteArray)(n L:Nat)(w:World)(h:SC sb a n L w)(Z:NTabs w)(F:11<=sb)(hs:a.size<=100000)(hn:n<a.size)(D:eA a[n]=true):
 Calls prog 253 #[.pointer (some ⟨sb,0,none⟩)] w (P9 sb a n L w (gH (a.data.toList.drop n) false)):=by
 obtain⟨k,m⟩:∃k,k=bL (eC false) (a.data.toList.drop n):=⟨_,rfl⟩
 have ac:k<=a.size-n:=by
  have:=kK (eC false) (a.data.toList.drop n);rw[m];simpa using this
 have aa:1<=k:=by
  rw[m,kO a n hn,rM _ _ _ (by rw[tD];exact D)];omega
 have ae:n<=a.size:=by omega
 have Q:=(SC.cells h).1;have J:w.heap.size≠sb:=by omega
 have U:SC sb a n L (w.alloc (.cells #[.int .i64 0,.string ⟨#[]⟩,.int .i64 0,.int .i64 0] 206)):=by unfold SC;rw[aA_ _ _ _ Q];exact h
 obtain⟨h0,c0,c1,V,f1,X⟩:=U.cells;have E:Hid (ZTok (w.alloc (.cells #[.int .i64 0,.string ⟨#[]⟩,.int .i64 0,.int .i64 0] 206)).drew w.heap.size):=aM _ _ rfl _;have z:=aB (fun w=>uS (eC false) 252 (fun _ _=>rfl) (fun c w=>by rw[tD];exact tT c w) (a.extract n a.size) w (by rw[rR];omega))
 rw[mX,<-m] at z;have y:=aB (oA sb a n L k (w.alloc (.cells #[.int .i64 0,.string ⟨#[]⟩,.int .i64 0,.int .i64 0] 206)).drew U (by omega) (by omega))
 obtain⟨d,o⟩:∃d,d=(a.data.toList.drop n).take k:=⟨_,rfl⟩;rw[<-o] at y;have j:d.length=k:=by rw[o,bc_];simp;omega
 have G:=aB (fun W (hW:NTabs W)=>YX d (fun c Y=>by
  rw[o,m] at Y;rw[<-tD];exact rN _ _ c Y) (fun e=>by rw[e] at j;simp at j;omega) (by omega) W hW)
 have HW:Hid (gH (a.data.toList.drop n) false={ sort:=48,text:=d,size:=k,ok:=(dG 0 d).isSome }):=by
  show _=_
  unfold gH;rw[<-m,<-o];rfl
 rw[HW.out];have P:Hid (Fr sb w (w.alloc (.cells #[.int .i64 0,.string ⟨#[]⟩,.int .i64 0,.int .i64 0] 206))):=(Fr.refl _ _).alloc _;have HG:=aB Z;have ab:(bs d).size=k:=by rw[gA];exact j
 clear h U m o HW Z j D;obtain⟨rr,C⟩:∃rr:pA,rr={ sort:=48,text:=d,size:=k,ok:=(dG 0 d).isSome }:=⟨_,rfl⟩;rw[<-C];have K:=aB C;clear C;go_enter func253,ntmps253;go_wp2_with fail;go_cut [3] (fun v wc=>v=.string (bs d)/\SC sb a (n+k) L wc/\Fr sb w wc/\ZTok wc w.heap.size)
 case first=>
  go_region_law (first|(go_simp;go_at_call 248;refine(z.out _).mono ?_;rintro e w1 ⟨rfl,S⟩;obtain rfl:=S.symm)|(go_simp;go_at_call 296;refine y.out.mono ?_;rintro e w2 ⟨rfl,q,f⟩;have l:=aB q;have t:=aB (P.out.drew.trans f);have r:=aB (f.keepS E.out J);clear q f))
  all_goals
   go_wp2_with fail;go_meet
   case rel=>exact⟨rfl,l.out,t.out,r.out⟩
 case rest=>
  obtain⟨rfl,q,f,H⟩:=hcut;have l:=aB q;have t:=aB f;have r:=aB H;have A:=aB (G.out wc (HG.out.fr f F));clear c0 c1 V f1 X h0 q f H y z E G;go_wp2_with fail;refine A.out.mono ?_;rintro e M ⟨g,⟨v,I,rfl⟩|⟨I,x,T,p,rfl⟩⟩
  ·have s:Hid (SC sb a (n+k) L M):=(g.block sb (aD l.out)).trans l.out;have b:Hid (ZTok M w.heap.size):=(g.block _ (aD r.out)).trans r.out;have B:=aB (t.out.trans (Fr.below g));obtain⟨h0,c0,c1,V,f1,X⟩:=s.out.cells;have z0:=aA b.out (i:=0) rfl;have z1:=aA b.out (i:=1) rfl;have z2:=aA b.out (i:=2) rfl;have z3:=aA b.out (i:=3) rfl;have y0:=aE (i:=0) b.out;have y1:=aE (i:=1) b.out;have y2:=aE (i:=2) b.out;have y3:=aE (i:=3) b.out;have ad:=aD b.out;have N:=aB I;clear g I A;go_wp2_with fail;rw[K.out];refine bodyPost_ret (v:=.agg #[.int .i64 2,.string (bs d),.int .i64 v,.int .i64 L]) (by simp[results,results253,go_sem,z0,z1,z2,z3]) rfl ?_
   have u:=mD B.out s.out (au_ _) J (.int .i64 2) (.string (bs d)) (.int .i64 v) (.int .i64 L);refine⟨u.1,av_ ⟨by show (dG 0 d).isSome=true;rw[N.out];rfl,?_,u.2⟩⟩
   show _=Ending.returned (.agg #[.int .i64 2,.string (bs d),.int .i64 (pval ⟨48,d,L⟩),.int .i64 L])
   have e:pval ⟨48,d,L⟩=v:=by unfold pval;rw[if_pos rfl,N.out];rfl
   rw[e]
  ·have s:Hid (SC sb a (n+k) L M):=(g.block sb (aD l.out)).trans l.out;have B:=aB (t.out.trans (Fr.below g));have O:=aB (rQ sb a (n+k) L M s.out);have N:=aB I;clear g I A;go_wp2_with fail;refine O.out.mono ?_;rintro e w4 ⟨rfl,S⟩;obtain rfl:=S.symm;go_wp2_with fail;rw[K.out];exact⟨rfl,B.out,as_ ⟨by show (dG 0 d).isSome=false;rw[N.out];rfl,rfl⟩⟩
def XV(sb:Nat)(b:ByteArray)(n L:Nat)(w:World)(h:SC sb b n L w)(hg:NTabs w)(hm:PTabs w)(z:11<=sb)(hs:b.size<=100000)(S:n<b.size):
 Calls prog 183 #[.pointer (some ⟨sb,0,none⟩)] w (P9 sb b n L w (bY (b.data.toList.drop n))):=by
 have W:=(SC.cells h).1;have r:w.heap.size≠sb:=by omega
 have hb:(b[n].toNat:Int)<=255:=nP _;have V:SC sb b n L (w.alloc (.cells #[.int .i64 0,.string ⟨#[]⟩,.int .i64 0,.int .i64 0] 206)):=by unfold SC;rw[aA_ _ _ _ W];exact h
 obtain⟨h0,c0,c1,c2,f1,f2⟩:=V.cells;have p:Hid (∀q,ZTok ((w.alloc (.cells #[.int .i64 0,.string ⟨#[]⟩,.int .i64 0,.int .i64 0] 206)).drewN q) w.heap.size):=fun _=>aM _ _ rfl _
 have D:Fr sb w (w.alloc (.cells #[.int .i64 0,.string ⟨#[]⟩,.int .i64 0,.int .i64 0] 206)):=(Fr.refl _ _).alloc _;have l:=aB D;have O:Hid (∀q,NTabs ((w.alloc (.cells #[.int .i64 0,.string ⟨#[]⟩,.int .i64 0,.int .i64 0] 206)).drewN q)):=fun q=>hg.fr (D.drewN q) z
 have A:Hid (∀q,PTabs ((w.alloc (.cells #[.int .i64 0,.string ⟨#[]⟩,.int .i64 0,.int .i64 0] 206)).drewN q)):=fun q=>hm.fr (D.drewN q) z
 have Q:=aB V;obtain⟨c,I⟩:∃c,c=bY (b.data.toList.drop n):=⟨_,rfl⟩;rw[<-I];have F:c=if eA b[n] || fA b[n] then gH (b.data.toList.drop n) (fA b[n]) else if b[n].toNat=34 then nJ (b.data.toList.drop (n+1)) else gG (b.data.toList.drop n):=by rw[I,kO b n S];rfl
 have t:=aB F;have s:=aB (xV b[n]);have u:=aB (tT b[n]);clear h V hg hm I F D;cases y:fA b[n]
 ·cases B:eA b[n]
  ·by_cases E:b[n].toNat=34
   ·have e:c=nJ (b.data.toList.drop (n+1)):=by rw[t.out,y,B];simp[E]
    have C:=aB (fun q=>XU sb b n L ((w.alloc (.cells #[.int .i64 0,.string ⟨#[]⟩,.int .i64 0,.int .i64 0] 206)).drewN q) Q.out (by omega) S)
    rw[<-e] at C;rw[y] at s;rw[B] at u;have P:((b[n].toNat:Int)==34)=true:=by simp;omega
    clear y B e t E;go_enter func183,ntmps183;go_wp2_with fail;go_quiet (fail)
    go_wp2_with fail;refine(s.out _).mono ?_;rintro e N ⟨rfl,x⟩;obtain rfl:=x.symm;go_wp2_with fail;refine(u.out _).mono ?_;rintro e N ⟨rfl,x⟩;obtain rfl:=x.symm;go_wp2_with fail;refine(C.out _).mono ?_;rintro e w2 ⟨f,⟨d,rfl,o⟩|⟨d,rfl⟩⟩
    ·have j:=aB ((l.out.drewN _).trans f);have m:=aB o;have a:=aB (f.keepS (p.out _) r);have g:=aB d;have K:=aA a.out (i:=0) rfl;have H:=aA a.out (i:=1) rfl;have G:=aA a.out (i:=2) rfl;have J:=aA a.out (i:=3) rfl;have Y:=aE (i:=0) a.out;have T:=aE (i:=1) a.out;have y2:=aE (i:=2) a.out;have U:=aE (i:=3) a.out;have M:=aD a.out;clear f o d;simp only[oE];go_wp2_with fail;refine bodyPost_ret (v:=.agg #[.int .i64 (psort c.sort),.string (bs c.text),.int .i64 (pval ⟨c.sort,c.text,L⟩),.int .i64 L]) (by clear O A p l j m a g;generalize psort c.sort=Z;generalize pval ⟨c.sort,c.text,L⟩=X;simp[results,results183,go_sem,K,H,G,J]) rfl ?_
     have k:=mD j.out m.out (au_ _) r (.int .i64 (psort c.sort)) (.string (bs c.text)) (.int .i64 (pval ⟨c.sort,c.text,L⟩)) (.int .i64 L);exact⟨k.1,av_ ⟨g.out,rfl,k.2⟩⟩
    ·have j:=aB ((l.out.drewN _).trans f);have g:=aB d;clear f d;go_wp2_with fail;exact⟨rfl,j.out,as_ ⟨g.out,rfl⟩⟩
   ·have e:gG (b.data.toList.drop n)=c:=by rw[t.out,y,B];simp[E]
    have C:=aB (fun q=>XY sb b n L ((w.alloc (.cells #[.int .i64 0,.string ⟨#[]⟩,.int .i64 0,.int .i64 0] 206)).drewN q) Q.out (A.out q) (by omega) S c e)
    rw[y] at s;rw[B] at u;have P:((b[n].toNat:Int)==34)=false:=by simp;omega
    clear y B e t E;go_enter func183,ntmps183;go_wp2_with fail;go_quiet (fail)
    go_wp2_with fail;refine(s.out _).mono ?_;rintro e N ⟨rfl,x⟩;obtain rfl:=x.symm;go_wp2_with fail;refine(u.out _).mono ?_;rintro e N ⟨rfl,x⟩;obtain rfl:=x.symm;go_wp2_with fail;refine(C.out _).mono ?_;rintro e w2 ⟨f,⟨d,rfl,o⟩|⟨d,rfl⟩⟩
    ·have j:=aB ((l.out.drewN _).trans f);have m:=aB o;have a:=aB (f.keepS (p.out _) r);have g:=aB d;have K:=aA a.out (i:=0) rfl;have H:=aA a.out (i:=1) rfl;have G:=aA a.out (i:=2) rfl;have J:=aA a.out (i:=3) rfl;have Y:=aE (i:=0) a.out;have T:=aE (i:=1) a.out;have y2:=aE (i:=2) a.out;have U:=aE (i:=3) a.out;have M:=aD a.out;clear f o d;simp only[oE];go_wp2_with fail;refine bodyPost_ret (v:=.agg #[.int .i64 (psort c.sort),.string (bs c.text),.int .i64 (pval ⟨c.sort,c.text,L⟩),.int .i64 L]) (by clear O A p l j m a g;generalize psort c.sort=Z;generalize pval ⟨c.sort,c.text,L⟩=X;simp[results,results183,go_sem,K,H,G,J]) rfl ?_
     have k:=mD j.out m.out (au_ _) r (.int .i64 (psort c.sort)) (.string (bs c.text)) (.int .i64 (pval ⟨c.sort,c.text,L⟩)) (.int .i64 L);exact⟨k.1,av_ ⟨g.out,rfl,k.2⟩⟩
    ·have j:=aB ((l.out.drewN _).trans f);have g:=aB d;clear f d;go_wp2_with fail;exact⟨rfl,j.out,as_ ⟨g.out,rfl⟩⟩
  ·have e:c=gH (b.data.toList.drop n) false:=by rw[t.out,y,B];rfl
   have C:=aB (fun q=>MW sb b n L ((w.alloc (.cells #[.int .i64 0,.string ⟨#[]⟩,.int .i64 0,.int .i64 0] 206)).drewN q) Q.out (O.out q) z hs S B)
   rw[<-e] at C;rw[y] at s;rw[B] at u;clear y B e t;go_enter func183,ntmps183;go_wp2_with fail;go_quiet (fail)
   go_wp2_with fail;refine(s.out _).mono ?_;rintro e N ⟨rfl,x⟩;obtain rfl:=x.symm;go_wp2_with fail;refine(u.out _).mono ?_;rintro e N ⟨rfl,x⟩;obtain rfl:=x.symm;go_wp2_with fail;refine(C.out _).mono ?_;rintro e w2 ⟨f,⟨d,rfl,o⟩|⟨d,rfl⟩⟩
   ·have j:=aB ((l.out.drewN _).trans f);have m:=aB o;have a:=aB (f.keepS (p.out _) r);have g:=aB d;have K:=aA a.out (i:=0) rfl;have H:=aA a.out (i:=1) rfl;have G:=aA a.out (i:=2) rfl;have J:=aA a.out (i:=3) rfl;have Y:=aE (i:=0) a.out;have T:=aE (i:=1) a.out;have y2:=aE (i:=2) a.out;have U:=aE (i:=3) a.out;have M:=aD a.out;clear f o d;simp only[oE];go_wp2_with fail;refine bodyPost_ret (v:=.agg #[.int .i64 (psort c.sort),.string (bs c.text),.int .i64 (pval ⟨c.sort,c.text,L⟩),.int .i64 L]) (by clear O A p l j m a g;generalize psort c.sort=Z;generalize pval ⟨c.sort,c.text,L⟩=X;simp[results,results183,go_sem,K,H,G,J]) rfl ?_
    have k:=mD j.out m.out (au_ _) r (.int .i64 (psort c.sort)) (.string (bs c.text)) (.int .i64 (pval ⟨c.sort,c.text,L⟩)) (.int .i64 L);exact⟨k.1,av_ ⟨g.out,rfl,k.2⟩⟩
   ·have j:=aB ((l.out.drewN _).trans f);have g:=aB d;clear f d;go_wp2_with fail;exact⟨rfl,j.out,as_ ⟨g.out,rfl⟩⟩
 ·have e:c=gH (b.data.toList.drop n) true:=by rw[t.out,y,Bool.or_true];rfl
  have C:=aB (fun q=>XX sb b n L ((w.alloc (.cells #[.int .i64 0,.string ⟨#[]⟩,.int .i64 0,.int .i64 0] 206)).drewN q) Q.out (by omega) (by omega))
  rw[<-e] at C;rw[y] at s;clear y e t u;go_enter func183,ntmps183;go_wp2_with fail;go_quiet (fail)
  go_wp2_with fail;refine(s.out _).mono ?_;rintro e N ⟨rfl,x⟩;obtain rfl:=x.symm;go_wp2_with fail;refine(C.out _).mono ?_;rintro e w2 ⟨f,⟨d,rfl,o⟩|⟨d,rfl⟩⟩
  ·have j:=aB ((l.out.drewN _).trans f);have m:=aB o;have a:=aB (f.keepS (p.out _) r);have g:=aB d;have K:=aA a.out (i:=0) rfl;have H:=aA a.out (i:=1) rfl;have G:=aA a.out (i:=2) rfl;have J:=aA a.out (i:=3) rfl;have Y:=aE (i:=0) a.out;have T:=aE (i:=1) a.out;have y2:=aE (i:=2) a.out;have U:=aE (i:=3) a.out;have M:=aD a.out;clear f o d;simp only[oE];go_wp2_with fail;refine bodyPost_ret (v:=.agg #[.int .i64 (psort c.sort),.string (bs c.text),.int .i64 (pval ⟨c.sort,c.text,L⟩),.int .i64 L]) (by clear O A p l j m a g;generalize psort c.sort=Z;generalize pval ⟨c.sort,c.text,L⟩=X;simp[results,results183,go_sem,K,H,G,J]) rfl ?_
   have k:=mD j.out m.out (au_ _) r (.int .i64 (psort c.sort)) (.string (bs c.text)) (.int .i64 (pval ⟨c.sort,c.text,L⟩)) (.int .i64 L);exact⟨k.1,av_ ⟨g.out,rfl,k.2⟩⟩
  ·have j:=aB ((l.out.drewN _).trans f);have g:=aB d;clear f d;go_wp2_with fail;exact⟨rfl,j.out,as_ ⟨g.out,rfl⟩⟩
def N7:(prog.info? 206).map (fun i=>(i.zero,i.size,i.bytes))=some (some (.agg #[.int .i64 0,.string (bs []),.int .i64 0,.int .i64 0]),4,40):=by kernel_rfl
def IE(w:World)(a b c d:Value):∀j u,([a,b,c,d]:List Value)[j]?=some u->(w.alloc (.cells #[a,b,c,d] 206)).cell? ((⟨w.heap.size,0,none⟩:Addr).add j)=some u:=by
 intro j u e;match j,e with
 |0,e=>simp at e;subst e;simp[Addr.add,go_sem]
 |1,e=>simp at e;subst e;simp[Addr.add,go_sem]
 |2,e=>simp at e;subst e;simp[Addr.add,go_sem]
 |3,e=>simp at e;subst e;simp[Addr.add,go_sem]
 |j+4,e=>simp at e
def OM(l m n:Int)(b:ByteArray):∀u∈([.int .i64 l,.string b,.int .i64 m,.int .i64 n]:List Value),u.oneCell'=true:=by
 intro u a;simp at a;rcases a with rfl|rfl|rfl|rfl<;>rfl
def YK{w:World}{b:Nat}{e:TypeId}{a:Nat}{v:Value}{n:Nat}{xs:List Value}(h:w.ownsRow b e a v n xs):∃x c,v=.slice x n c:=by
 rcases h.2 with ⟨d,i⟩|⟨g,f,j,d,_⟩
 ·exact⟨none,0,by rw[d,i]⟩
 ·exact⟨_,f,d⟩
def tZ{l:List UInt8}(h:∀c∈l,c≠10):l.count 10=0:=List.count_eq_zero.2 fun a=>h 10 a rfl
def SB(l:List UInt8)(h:(bY l).ok=true):(l.take (bY l).size).count 10=0:=by
 cases l with
 |nil=>simp[bY] at h
 |cons c r=>
  rw[bY] at h ⊢
  split
  ·rename_i i;rw[sK];refine tZ fun x a=>?_
   have:=rN _ _ x a;intro e;subst e;revert this
   cases fA c<;>decide
  ·rename_i i;rw[if_neg i] at h;split
   ·rename_i b;rw[if_pos b] at h;have d:(decide (r[bL eZ r]?=some 34) && decide (bL eZ r<=100))=true:=h;rw[aX_,decide_eq_true_eq] at d
    have k:bL eZ r<r.length:=by
     by_cases a:bL eZ r<r.length
     ·exact a
     ·rw[a4_ (by omega)] at d;exact absurd d.1 (by simp)
    show ((c::r).take (bL eZ r+1+1)).count 10=0
    rw[bu_,List.take_add_one,d.1];refine tZ fun x a=>?_
    rcases aG_.1 a with rfl|a
    ·intro e;rw[e] at b;exact absurd b (by decide)
    rcases aE_.1 a with a|a
    ·have:=rN _ _ x a;intro e;subst e;exact absurd this (by decide)
    ·intro e;rw[e] at a;exact absurd a (by decide)
   ·rename_i b;rw[if_neg b] at h;unfold gG at h ⊢
    cases f:cM.find? (fun o=>cN (c::r) o) with
    |none=>rw[f] at h;simp at h
    |some o=>
     have j:=List.find?_some f;have m:=bn_ f
     have n:(c::r).take o.length=o:=by
      have g:=j;unfold cN at g;rw[lY _ _ (kU j)] at g;simpa using g
     show ((c::r).take o.length).count 10=0
     rw[n];have:∀o∈cM,o.count 10=0:=by decide
     exact this o m
def J8(x:Except Nat (List aX))(w:World)(e:Ending)(w':World):Prop:=
 Below w.heap.size w w'/\
  match x with
  |.error n=>e=cX 3 n
  |.ok ts=>∃v,e=.returned v/\w'.ownsRow (w.heap.size+1) 206 4 v ts.length (ptoks ts)
def Q7(src:ByteArray)(w:World)(TS:Except Nat (List aX))(gk:Nat)(v:Value)(wr:World):Prop:=
 ∃(k f:Nat) (ts:List aX),k<=src.size/\src.size+1<=k+f/\src.size<=k+gk/\ts.length<=k/\SC w.heap.size src k (bA (src.data.toList.take k)) wr/\Fr w.heap.size w wr/\wr.ownsRow (w.heap.size+1) 206 4 v ts.length (ptoks ts)/\TS=iG ts (eI f (src.data.toList.take k) (src.data.toList.drop k))
def Fr.to_below{w w':World}(h:Fr w.heap.size w w'):Below w.heap.size w w':=⟨h.os,h.tape,h.output,h.size,fun k a=>h.block k a (by omega)⟩
def J7(a:ByteArray)(w:World)(hg:NTabs w)(U:PTabs w)(hs:a.size<=2000):
 Calls prog 132 #[.string a] w (J8 (gE a.data.toList) w):=by
 obtain⟨i0,H,Z,ak,af⟩:=info_parts N7;have B:=hg.big;have h0:SC w.heap.size a 0 (bA (a.data.toList.take 0)) (w.alloc (.cells #[.string a,.int .i64 0,.int .i64 1] 290)):=aM _ _ rfl _;have l:=aB (NP w.heap.size a 0 (w.alloc (.cells #[.string a,.int .i64 0,.int .i64 1] 290)) h0 (by omega) (a9_ _))
 simp only[List.drop_zero,bk_] at l;obtain⟨T,F⟩:∃T,T=Hs.blankL a.size a.data.toList:=⟨_,rfl⟩;have al:T<=a.size:=by have:=vJ a.size a.data.toList;rw[F];simpa using this
 rw[<-F] at l;obtain⟨D,s⟩:∃D,D=gE a.data.toList:=⟨_,rfl⟩
 have n:Hid (D=eI (a.size+1) (a.data.toList.take T) (a.data.toList.drop T)):=by
  show _=_
  rw[s];unfold gE;rw[show a.data.toList.length=a.size by simp,<-F]
 rw[<-s];have ad:Hid (Fr w.heap.size w (w.alloc (.cells #[.string a,.int .i64 0,.int .i64 1] 290))):=(Fr.refl _ _).alloc _;have HG:=aB hg;have HM:=aB U;clear h0 hg U F s;go_enter func132,ntmps132;go_wp2_with fail;refine l.out.mono ?_;rintro e w1 ⟨rfl,ag,an⟩;have HI:Hid (Q7 a w D a.size (.slice none 0 0) w1):=⟨T,a.size+1,[],al,by omega,by omega,by simp,ag,ad.out.trans an,World.ownsRow_nil _ _ _ _,by rw[n.out,CG]⟩
 clear ag an l n ad;go_wp2_with fail;go_loopg [4] a.size (fun gk v wr=>Q7 a w D gk v wr)
 case atStart=>exact HI.out
 case round=>
  obtain⟨k,f,u,hk,hf,bb,ba,K,Q,g,s⟩:=hrel
  have hL:bA (a.data.toList.take k)<=k+1:=by
   have:=oR (a.data.toList.take k);have:=List.length_take_le k a.data.toList;omega
  obtain⟨h0,c0,c1,c2,f1,f2⟩:=K.cells;have az:=Q.size;have av:=aB K;have y:=aB Q;have n:=aB s;obtain⟨x,c,rfl⟩:=YK g;have G:∀k,(Value.slice x u.length c).ownBlock=some k->w.heap.size+1<=k:=cC g;clear HI K Q s;by_cases Y:k<a.size
  ·obtain⟨f,rfl⟩:∃f',f=f'+1:=⟨f-1,by omega⟩
   obtain⟨j,rfl⟩:∃j,gk=j+1:=⟨gk-1,by omega⟩
   have aj:decide ((k:Int)<(a.size:Int))=true:=decide_eq_true (by omega)
   have hl:(a.data.toList.drop k).length=a.size-k:=by simp
   have E:=aB (XV w.heap.size a k (bA (a.data.toList.take k)) wr av.out (HG.out.fr y.out B) (HM.out.fr y.out B) B (by omega) Y)
   cases o:(bY (a.data.toList.drop k)).ok
   ·have HF:Hid (D=.error (bA (a.data.toList.take k))):=by
     show _=_
     rw[n.out,mC _ _ _ (by omega) o];rfl
    have P:=aB o;clear n hl o;generalize bA (a.data.toList.take k)=L at*;go_wp2_with fail;refine E.out.mono ?_;rintro e w2 ⟨q,⟨h,_,_⟩|⟨h,rfl⟩⟩
    ·rw[P.out] at h;cases h
    have A:=aB (y.out.trans q);clear q h E;go_wp2_with fail;rw[HF.out];exact⟨rfl,A.out.to_below,rfl⟩
   ·have ao:=uG _ o;rw[hl] at ao;have am:=SB _ o;obtain⟨m,U⟩:∃m,m=k+(bY (a.data.toList.drop k)).size+Hs.blankL a.size (a.data.toList.drop (k+(bY (a.data.toList.drop k)).size)):=⟨_,rfl⟩
    have aq:m<=a.size:=by
     have:=vJ a.size (a.data.toList.drop (k+(bY (a.data.toList.drop k)).size));rw[bf_,show a.data.toList.length=a.size by simp] at this
     omega
    have HT:=I0 a k f Y o m U
    have HF:Hid (D=iG (u++[{ sort:=(bY (a.data.toList.drop k)).sort,text:=(bY (a.data.toList.drop k)).text,line:=bA (a.data.toList.take k) }]) (eI f (a.data.toList.take m) (a.data.toList.drop m))):=by
     show _=_
     rw[n.out,HT,zQ]
    have X:bA (a.data.toList.take (k+(bY (a.data.toList.drop k)).size))=bA (a.data.toList.take k):=by
     rw[List.take_add,jI,am];rfl
    have l:=aB (fun W (hW:SC w.heap.size a (k+(bY (a.data.toList.drop k)).size) (bA (a.data.toList.take (k+(bY (a.data.toList.drop k)).size))) W)=>NP w.heap.size a _ W hW (by omega) (by omega))
    rw[X] at l;simp only[<-U] at l;have P:=aB o;have ay:k<m:=by omega
    clear n hl o HT am X U;generalize bY (a.data.toList.drop k)=r at*;obtain⟨pa,S⟩:∃pa,pa=psort r.sort:=⟨_,rfl⟩;obtain⟨pb,I⟩:∃pb,pb=pval ⟨r.sort,r.text,bA (a.data.toList.take k)⟩:=⟨_,rfl⟩;have ac:Hid (oE ⟨r.sort,r.text,bA (a.data.toList.take k)⟩=.agg #[.int .i64 pa,.string (bs r.text),.int .i64 pb,.int .i64 (bA (a.data.toList.take k))]):=by show _=_;rw[S,I];rfl
    have ap:Hid (ptok ⟨r.sort,r.text,bA (a.data.toList.take k)⟩=[.int .i64 pa,.string (bs r.text),.int .i64 pb,.int .i64 (bA (a.data.toList.take k))]):=by show _=_;rw[S,I];rfl
    clear S I;generalize bA (a.data.toList.take k)=L at*;have O:=aB G;have ah:=aB g;clear g G;go_wp2_with fail;refine E.out.mono ?_;rintro e w2 ⟨q,⟨h,rfl,J⟩|⟨h,rfl⟩⟩
    rotate_left
    ·rw[P.out] at h;cases h
    rw[ac.out];have t:=aY (w1:=w2) ah.out fun i H=>q.block i (cK ah.out i H) (by have:=O.out i H;omega)
    have A:=aB (y.out.trans q);have aa:=aB J;have ax:=A.out.size;have ae:=aD J;clear q h J E ac;go_wp2_with (at_builtin;refine wpList_append_lies _ (by rfl) _ _ 142 (by rfl) (w.heap.size+1) 206 i0 _ 4 40 underlying142 H Z ak af rfl (by decide) _ _ _ (by rfl) (t.alloc _) ⟨w2.heap.size,0,none⟩ 1 1 [.int .i64 pa,.string (bs r.text),.int .i64 pb,.int .i64 L] (by rfl) (by rfl) (IE _ _ _ _ _) (OM _ _ _ _) (by decide) (by unfold maxLen;omega) (by omega) (by simp;omega) (w2.heap.size+1) (by simp) ?_)
    intro g7 p V d b C ar;have N:=aB ((A.out.alloc _).grown b (fun k hk=>by have:=O.out k hk;omega))
    have aw:Hid (SC w.heap.size a (k+r.size) L V):=by
     show _=_
     rw[b.block _ (by simp;omega) (fun e=>by have:=O.out _ e.symm;omega),aA_ _ _ _ ae]
     exact aa.out
    have z:Hid (V.ownsRow (w.heap.size+1) 206 4 (.slice (some ⟨g7,0,none⟩) (u.length+1) p) (u++[(⟨r.sort,r.text,L⟩:aX)]).length (ptoks (u++[⟨r.sort,r.text,L⟩]))):=by
     rw[CE,ap.out,aw_];exact d
    have ai:=aB (l.out V aw.out);clear t d b C aa A l;go_wp2_with fail;refine ai.out.mono ?_;rintro e w8 ⟨rfl,ab,M⟩
    have au:Hid (Q7 a w D j (.slice (some ⟨g7,0,none⟩) (u.length+1) p) w8):=by
     refine⟨m,f,u++[⟨r.sort,r.text,L⟩],aq,by omega,by omega,by simp;omega,ab,N.out.trans M,?_,HF.out⟩
     exact aY z.out fun i H=>M.block i (cK z.out i H) (by have:=cC z.out i H;omega)
    clear ab M ai;go_wp2_with fail;go_roundg j
    case measure=>omega
    case rel=>exact au.out
  ·obtain⟨f,rfl⟩:∃f',f=f'+1:=⟨f-1,by omega⟩
   have HF:Hid (D=.ok (u++[{ sort:=101,text:=[],line:=bA (a.data.toList.take k) }])):=by
    show _=_
    rw[n.out,mB _ _ _ (by simp;omega)];rfl
   have aj:decide ((k:Int)<(a.size:Int))=false:=decide_eq_false (by omega)
   clear n;generalize bA (a.data.toList.take k)=L at*;go_wp2_with (at_builtin;refine wpList_append_lies _ (by rfl) _ _ 142 (by rfl) (w.heap.size+1) 206 i0 _ 4 40 underlying142 H Z ak af rfl (by decide) _ _ _ (by rfl) (g.alloc _) ⟨wr.heap.size,0,none⟩ 1 1 [.int .i64 4,.string ⟨#[]⟩,.int .i64 0,.int .i64 L] (by rfl) (by rfl) (IE _ _ _ _ _) (OM _ _ _ _) (by decide) (by unfold maxLen;omega) (by omega) (by simp;omega) (wr.heap.size+1) (by simp) ?_)
   intro g7 p V d b C ar;have N:=aB ((y.out.alloc _).grown b (fun k hk=>by have:=G k hk;omega))
   have z:Hid (V.ownsRow (w.heap.size+1) 206 4 (.slice (some ⟨g7,0,none⟩) (u.length+1) p) (u++[(⟨101,[],L⟩:aX)]).length (ptoks (u++[⟨101,[],L⟩]))):=by
    rw[CE,aw_];exact d
   clear g d b C G;go_wp2_with fail;go_ret;rw[HF.out];exact⟨N.out.to_below,_,rfl,z.out⟩
def UK(a:ByteArray)(w:World)(_hs:a.size<=maxLen):
 Calls prog 130 #[.string a] w fun e d=>d=w/\((a.size<=2000/\e=.returned (.tuple #[]))\/(2000<a.size/\e=cX 1 0)):=by
 by_cases h:a.size<=2000
 ·have c:decide ((2000:Int)<(a.size:Int))=false:=decide_eq_false (by omega)
  go_enter func130,ntmps130;go_wp2_with fail;go_end0;exact⟨rfl,av_ ⟨h,rfl⟩⟩
 ·have c:decide ((2000:Int)<(a.size:Int))=true:=decide_eq_true (by omega)
  go_enter func130,ntmps130;go_wp2_with (go_at_call 136;refine(gF 1 0 _).mono ?_;rintro e f ⟨rfl,b⟩;obtain rfl:=b.symm)
  exact⟨rfl,rfl,as_ ⟨by omega,rfl⟩⟩
def KU{l:List UInt8}{c:Nat}{x:UInt8}(h:x∈l.take c):∃i,i<c/\l[i]?=some x:=by
 obtain⟨i,b,e⟩:=List.mem_iff_getElem.1 h;have a:=b;rw[bc_] at a;refine⟨i,by omega,?_⟩
 rw[List.getElem_take] at e;rw[aH_ (by omega),e]
def wS{l:List UInt8}{i lo a:Nat}(h:dE l i lo a=true){x:UInt8}(b:l[i]?=some x):lo<=x.toNat:=by
 unfold dE at h;rw[b] at h;simp at h;exact h.1
def RF{l:List UInt8}(h:2<=bF l):(l.take (bF l)).count 10=0:=by
 refine tZ fun x o=>?_
 obtain⟨i,c,e⟩:=KU o;suffices 128<=x.toNat by intro e;rw[e] at this;exact absurd this (by decide)
 revert h c
 unfold bF;cases m:l[0]? with
 |none=>simp
 |some b=>
  simp only;have d:i=0->x=b:=fun g=>by subst g;rw[m] at e;exact(Option.some.inj e).symm
  split
  ·intro h;omega
  ·rename_i k;split
   ·rename_i f;split
    ·rename_i a;intro _ c;match i,c with
     |0,_=>rw[d rfl];omega
     |1,_=>exact wS a e
    ·intro h;omega
   ·split
    ·rename_i n;by_cases a:(dE l 1 (if b.toNat=224 then 160 else 128) (if b.toNat=237 then 159 else 191) && dE l 2 128 191)=true
     ·rw[if_pos a];rw[aX_] at a;intro _ c;match i,c with
      |0,_=>rw[d rfl];omega
      |1,_=>have:=wS a.1 e;split at this<;>omega
      |2,_=>exact wS a.2 e
     ·rw[if_neg a];intro h;omega
    ·split
     ·rename_i j;by_cases a:(dE l 1 (if b.toNat=240 then 144 else 128) (if b.toNat=244 then 143 else 191) && dE l 2 128 191 && dE l 3 128 191)=true
      ·rw[if_pos a];rw[aX_,aX_] at a;intro _ c;match i,c with
       |0,_=>rw[d rfl];omega
       |1,_=>have:=wS a.1.1 e;split at this<;>omega
       |2,_=>exact wS a.1.2 e
       |3,_=>exact wS a.2 e
      ·rw[if_neg a];intro h;omega
     ·intro h;omega
def Z5(n a b c d:Nat)(e:a<256):(Lib.decodeN n a b c d).1<=1114111:=by
 unfold Lib.decodeN;repeat' split
 all_goals (simp only;omega)
def o8(a:ByteArray)(k:Nat)(p:k<a.size):∃r z,Lib.decodeGo (a.extract k a.size)=(r,z)/\r<=1114111/\
 ((bF (a.data.toList.drop k)=0/\r=65533/\z=1)\/(bF (a.data.toList.drop k)≠0/\z=bF (a.data.toList.drop k)/\¬(r=65533/\z=1)/\(r=10↔a[k].toNat=10))):=by
 have m:(a.extract k a.size).size=a.size-k:=by simp
 have b:0<(a.extract k a.size).size:=by omega
 have j:((a.extract k a.size).get! 0).toNat=a[k].toNat:=by rw[oH _ 0 b];simp[ByteArray.getElem_extract]
 have f:=Z9 (a.extract k a.size) b;rw[mX] at f
 have h:Lib.decodeGo (a.extract k a.size)=Lib.decodeN (a.extract k a.size).size ((a.extract k a.size).get! 0).toNat ((a.extract k a.size).get! 1).toNat ((a.extract k a.size).get! 2).toNat ((a.extract k a.size).get! 3).toNat:=by
  unfold Lib.decodeGo;rw[if_neg (by omega),Lib.decode_at];rfl
 obtain⟨g,d⟩:=P2 (a.extract k a.size).size ((a.extract k a.size).get! 0).toNat ((a.extract k a.size).get! 1).toNat ((a.extract k a.size).get! 2).toNat ((a.extract k a.size).get! 3).toNat (bP_ _) (bP_ _) (bP_ _) (bP_ _);have i:=Z5 (a.extract k a.size).size ((a.extract k a.size).get! 0).toNat ((a.extract k a.size).get! 1).toNat ((a.extract k a.size).get! 2).toNat ((a.extract k a.size).get! 3).toNat (bP_ _);rw[<-f] at g d;rw[<-h] at g d i;rw[j] at d;clear h f;generalize Lib.decodeGo (a.extract k a.size)=D at*;obtain⟨r,z⟩:=D;refine⟨r,z,rfl,i,?_⟩;by_cases e:bF (a.data.toList.drop k)=0
 ·have:=g e;cases this;exact av_ ⟨e,rfl,rfl⟩
 ·obtain⟨n,l,o⟩:=d e;have c:z=bF (a.data.toList.drop k):=n;exact as_ ⟨e,c,by rw[c];exact l,o⟩
def AM{w w':World}(h:Lib.Utf8Tabs 4 5 w)(a:Below w.heap.size w w')(e:11<=w.heap.size):Lib.Utf8Tabs 4 5 w':=
 ⟨fun c d=>(a.cell (p:=⟨4,c,none⟩) (by show 4<_;omega)).trans (h.1 c d),fun i b=>⟨(a.cell (p:=⟨5,2*i,none⟩) (by show 5<_;omega)).trans (h.2 i b).1,(a.cell (p:=⟨5,2*i+1,none⟩) (by show 5<_;omega)).trans (h.2 i b).2⟩⟩
def Z2(x:Option Nat)(l:List UInt8)(w:World)(e:Ending)(w':World):Prop:=
 Below w.heap.size w w'/\
  match x with
  |none=>e=.returned (.tuple #[])
  |some k=>e=cX 2 (bA (l.take k))
def Z1(a:ByteArray)(w:World)(N:Lib.Utf8Tabs 4 5 w)(Y:11<=w.heap.size)(hs:a.size<=2000):
 Calls prog 131 #[.string a] w (Z2 (dN a.size a.data.toList 0) a.data.toList w):=by
 have Q:=aB N;obtain⟨X,F⟩:∃X,X=dN a.size a.data.toList 0:=⟨_,rfl⟩;rw[<-F];have H:Hid (X=dN a.size (a.data.toList.drop 0) 0):=F;clear N F;go_enter func131,ntmps131;go_wp2_with fail;go_loopg [2,3,4,5] a.size (fun gk lv iv _ _ wr=>∃k f:Nat,k<=a.size/\a.size<=k+f/\a.size<=k+gk/\iv=.int .i64 k/\lv=.int .i64 (bA (a.data.toList.take k))/\Below w.heap.size w wr/\Hid (X=dN f (a.data.toList.drop k) k))
 case atStart=>exact⟨0,a.size,a9_ _,by omega,by omega,rfl,rfl,ay_ _ _,H⟩
 case round=>
  obtain⟨k,f,hk,hf,V,rfl,rfl,C,v⟩:=hrel
  have hL:bA (a.data.toList.take k)<=k+1:=by
   have:=oR (a.data.toList.take k);have:=List.length_take_le k a.data.toList;omega
  have s:=aB C;by_cases p:k<a.size
  ·obtain⟨f,rfl⟩:∃f',f=f'+1:=⟨f-1,by omega⟩
   obtain⟨j,rfl⟩:∃j,gk=j+1:=⟨gk-1,by omega⟩
   have d:0<(a.data.toList.drop k).length:=by simp;omega
   obtain⟨r,z,K,hr,hc⟩:=o8 a k p;have t:=aB (utf8_DecodeRuneInString (a.extract k a.size) wr (AM Q.out C Y));rw[K] at t;clear K C;rcases hc with ⟨g,rfl,rfl⟩|⟨g,n,A,c⟩
   ·have u:Hid (X=some k):=by show _=_;rw[v.out,NL _ _ _ d g]
    generalize x:bA (a.data.toList.take k)=L at*;have G:=aB x;clear v g d x;go_wp2_with fail;refine t.out.mono ?_;rintro e J ⟨rfl,b⟩;have h:=aB (s.out.trans (b.mono s.out.size));clear b t;go_wp2_with (go_at_call 136;refine(gF 2 L _).mono ?_;rintro e w3 ⟨rfl,Z⟩;obtain rfl:=Z.symm)
    rw[u.out];exact⟨rfl,h.out,congrArg (cX 2) G.out.symm⟩
   ·have u:Hid (X=dN f (a.data.toList.drop (k+z)) (k+z)):=by
     show _=_
     rw[v.out,KB _ _ _ d g,bH_,<-n]
    have W:z<=a.size-k:=by rw[n];have:=D8 (a.data.toList.drop k);simpa using this
    have U:1<=z:=by omega
    have B:bA (a.data.toList.take (k+z))=bA (a.data.toList.take k)+if r=10 then 1 else 0:=by
     by_cases h2:2<=z
     ·have I:=RF (l:=a.data.toList.drop k) (by omega)
      rw[<-n] at I;rw[List.take_add,jI,I];rw[if_neg];intro e;have S:=c.1 e
      have O:a[k]∈(a.data.toList.drop k).take z:=by
       rw[kO a k p];obtain⟨y,rfl⟩:∃y,z=y+1:=⟨z-1,by omega⟩
       rw[bu_];exact aS_ ..
      exact List.count_eq_zero.1 I (by have:a[k]=10:=bT_.1 S;rw[this] at O;exact O)
     ·obtain rfl:z=1:=by omega
      rw[IL a k p];congr 1
      by_cases D:r=10
      ·rw[if_pos D,if_pos (bT_.1 (c.1 D))]
      ·rw[if_neg D,if_neg (fun e=>D (c.2 (by rw[e];rfl)))]
    have i:=aB B;generalize bA (a.data.toList.take k)=L at*
    have o:((r:Int)==65533)=false\/((r:Int)==65533)=true/\((z:Int)==1)=false:=by
     by_cases T:r=65533
     ·refine as_ ⟨by simp;omega,?_⟩
      simp;intro e;exact A ⟨T,by omega⟩
     ·exact av_ (by simp;omega)
    have E:(a.data.toList.drop k).length=a.size-k:=by simp
    clear v g d n c B A E;by_cases m:r=10
    ·have e1:((r:Int)==10)=true:=by simp;omega
     have P:((r:Int)==65533)=false:=by simp;omega
     have q:Hid (bA (a.data.toList.take (k+z))=L+1):=by show _=_;rw[i.out,if_pos m]
     clear o m i;go_wp2_with fail;refine t.out.mono ?_;rintro e J ⟨rfl,b⟩;have h:=aB (s.out.trans (b.mono s.out.size));clear b t;go_wp2_with fail;go_roundg j
     case measure=>omega
     case rel=>exact⟨k+z,f,by omega,by omega,by omega,by go_num,by rw[q.out];go_num,h.out,u⟩
    ·have e1:((r:Int)==10)=false:=by simp;omega
     have q:Hid (bA (a.data.toList.take (k+z))=L):=by show _=_;rw[i.out,if_neg m];rfl
     clear m i;rcases o with P|⟨P,e3⟩
     all_goals
      go_wp2_with fail;refine t.out.mono ?_;rintro e J ⟨rfl,b⟩;have h:=aB (s.out.trans (b.mono s.out.size));clear b t;go_wp2_with fail;go_roundg j
      case measure=>omega
      case rel=>exact⟨k+z,f,by omega,by omega,by omega,by go_num,by rw[q.out],h.out,u⟩
  ·have u:Hid (X=none):=by show _=_;rw[v.out,NK _ _ _ (by simp;omega)]
   have M:decide ((k:Int)<(a.size:Int))=false:=decide_eq_false (by omega)
   clear v C;generalize bA (a.data.toList.take k)=L at*;go_wp2_with fail;go_end0;rw[u.out];exact⟨s.out,rfl⟩
structure iT(w:World):Prop where
 n:NTabs w
 p:PTabs w
 u:Lib.Utf8Tabs 4 5 w
def iT.below{w w':World}(h:iT w)(a:Below w.heap.size w w'):iT w':=
 ⟨h.n.fr (sb:=w.heap.size) ⟨a.os,a.tape,a.output,a.size,fun k b _=>a.block k b⟩ h.n.big,h.p.fr (sb:=w.heap.size) ⟨a.os,a.tape,a.output,a.size,fun k b _=>a.block k b⟩ h.n.big,AM h.u a h.n.big⟩
def FineA.kid{m:Nat}{f k:aC}(h:Hs.FineA m f)(a:k∈f.kids):Hs.FineA m k:=fun d=>by
 have b:=h (d+1);refine⟨?_,b.2.2 k a⟩;have c:=b.1;rw[bW] at c;have:=tM (f:=bW d) a;omega
def FineA.kids{m:Nat}{f:aC}(h:Hs.FineA m f)(d:Nat):f.kids.length<=m/\(f.kids.map (bW d)).sum<=m:=by
 have b:=(h (d+1)).1;have a:=(h 2).1;rw[bW] at b a;have c:f.kids.length<=(f.kids.map (bW 1)).sum:=oS 0 f.kids;exact⟨by omega,by omega⟩
def sH(l:List UInt8):Except (Nat × Nat) (List aX):=
 if 2000<l.length then .error (1,0)
 else match dN l.length l 0 with
  |some k=>.error (2,bA (l.take k))
  |none=>
   match gE l with
   |.error n=>.error (3,n)
   |.ok ts=>.ok ts
def CO(l:List UInt8):cW l=match sH l with
 |.error f=>.error f
 |.ok a=>match lW a with
  |.error n=>.error (4,n)
  |.ok (b,_)=>.ok b:=by
 unfold cW sH;by_cases h:2000<l.length
 ·rw[if_pos h,if_pos h]
 ·rw[if_neg h,if_neg h];cases dN l.length l 0 with
  |some k=>rfl
  |none=>
   cases gE l with
   |error n=>rfl
   |ok a=>rfl
def WG{l:List UInt8}{ts:List aX}(h:sH l=.ok ts):gE l=.ok ts/\l.length<=2000:=by
 unfold sH at h;split at h
 ·cases h
 ·split at h
  ·cases h
  ·split at h
   ·cases h
   ·cases h;exact⟨by assumption,by omega⟩
def XW{l:List UInt8}{f:Nat × Nat}(h:sH l=.error f):f.1≠0:=by
 unfold sH at h;split at h
 ·cases h;simp
 ·split at h
  ·cases h;simp
  ·split at h
   ·cases h;simp
   ·cases h
def TH(l:List UInt8)(w:World)(e:Ending)(w':World):Prop:=
 Below w.heap.size w w'/\
  match sH l with
  |.error f=>e=cX f.1 f.2
  |.ok ts=>∃v,e=.returned (.agg #[v,.int .i64 0])/\w'.ownsRow w.heap.size 206 4 v ts.length (ptoks ts)
def wO(l:List UInt8)(w:World)(e:Ending)(w':World):Prop:=
 Below w.heap.size w w'/\((cG l=(0,0)/\∃v ks,e=.returned v/\cW l=.ok ks/\FSl (Btw w.heap.size w'.heap.size) w' v ks)\/((cG l).1≠0/\e=cX (cG l).1 (cG l).2))
def TV{ks:List aC}(d:Nat)(h:qS ks=false)(b:∀f∈ks,1<=f.kids.length):kM d ks=(5,0):=by
 unfold kM;unfold qS kX at h;cases a:dL ks [109,97,105,110] with
 |none=>rfl
 |some m=>
  rw[a] at h;have g:=b m (bn_ a)
  have c:¬m.kids.length-1=0:=by
   intro e;rw[show (([109,97,105,110]:List UInt8)==[108,101,110])=false by decide,show (([109,97,105,110]:List UInt8)==[114,101,97,100])=false by decide] at h
   simp[e] at h
  show (if 1<m.kids.length then _ else _)=_
  rw[if_pos (by omega)]
def M7{ks:List aC}(d:Nat)(h:qS ks=true):kM d ks=((eU ks d [] ks ⟨[],0,0⟩).kind,(eU ks d [] ks ⟨[],0,0⟩).line):=by
 unfold kM;unfold qS kX at h;rw[show (([109,97,105,110]:List UInt8)==[108,101,110])=false by decide,show (([109,97,105,110]:List UInt8)==[114,101,97,100])=false by decide] at h
 cases a:dL ks [109,97,105,110] with
 |none=>rw[a] at h;simp at h
 |some m=>
  rw[a] at h;simp at h;show (if 1<m.kids.length then _ else _)=_
  rw[if_neg (by omega)]
def FSl.grow{F G:Nat->Prop}{w w':World}{v:Value}{fs:List aC}(h:FSl F w v fs)(e:∀b,F b->w'.heap[b]?=w.heap[b]?)(f:∀b,F b->G b):FSl G w' v fs:=by
 rcases h with h|⟨g,a,c,n,j,d,l,i,k,m⟩
 ·exact av_ h
 ·exact as_ ⟨g,a,c,n,j,f g d,by rw[e g d];exact l,i,k,m.mono fun _ _ h=>h.keep e f⟩
def m6{w:World}{b:Nat}{v:Value}{ts:List aX}(h:w.ownsRow b 206 4 v ts.length (ptoks ts))(k:0<ts.length):∃g c a,v=.slice (some ⟨g,0,none⟩) ts.length c/\b<=g/\ts.length<=c/\w.heap[g]?=some (.cells a 206 (0,0))/\a.toList.take (ts.length*4)=ptoks ts:=by
 rcases h.2 with ⟨e,d⟩|⟨g,c,a,e,d,i,f,m,l,j⟩
 ·omega
 ·exact⟨g,c,a,e,d,f,i,j⟩
def KQ(b:ByteArray)(w:World)(X:iT w)(hs:b.size<=maxLen):
 Calls prog 76 #[.string b] w (TH b.data.toList w):=by
 have J:b.data.toList.length=b.size:=by simp
 obtain⟨l,T⟩:∃l,l=b.data.toList:=⟨_,rfl⟩;rw[<-T] at J ⊢
 obtain⟨D,r⟩:∃D,D=w.alloc (.cells #[.slice none 0 0,.int .i64 0] 144):=⟨_,rfl⟩;have C:Below w.heap.size w D:=by rw[r];exact(ay_ _ _).alloc (au_ _) _
 have p:D.heap[w.heap.size]?=some (.cells #[.slice none 0 0,.int .i64 0] 144 (0,0)):=by rw[r];exact aM _ _ rfl _
 have Y:D.heap.size=w.heap.size+1:=by rw[r];simp
 have G:=aB (UK b D hs);have Z:=aB T;have N:=aB (X.below C);have f:=aB C;have U:=aB p;have O:=aB r;clear T X C p r;go_enter func76,ntmps76;go_wp2_with fail;rw[<-O.out];refine G.out.mono ?_;rintro e V ⟨Q,⟨B,rfl⟩|⟨B,rfl⟩⟩
 rotate_left
 ·obtain rfl:=Q.symm
  have A:Hid (sH l=.error (1,0)):=by
   show _=_
   unfold sH;rw[if_pos (by omega)]
  go_wp2_with fail;exact⟨rfl,f.out,by rw[A.out];rfl⟩
 obtain rfl:=Q.symm;have M:=aB (Z1 b D N.out.u N.out.n.big B);rw[<-Z.out,<-J] at M;have z:¬2000<l.length:=by omega
 clear Q G;go_wp2_with fail;refine M.out.mono ?_;rintro e V ⟨m,y⟩;cases j:dN l.length l 0 with
 |some k=>
  rw[j] at y;obtain rfl:e=cX 2 (bA (l.take k)):=y;have A:Hid (sH l=.error (2,bA (l.take k))):=by show _=_;unfold sH;rw[if_neg z,j]
  have d:=aB (f.out.trans (m.mono f.out.size));clear m M j;go_wp2_with fail;exact⟨rfl,d.out,by rw[A.out];rfl⟩
 |none=>
  rw[j] at y;obtain rfl:e=.returned (.tuple #[]):=y;have s:=aB (J7 b V (N.out.below m).n (N.out.below m).p B);rw[<-Z.out] at s;have d:=aB m
  have L:sH l=match gE l with
   |.error n=>.error (3,n)
   |.ok K=>.ok K:=by unfold sH;rw[if_neg z,j]
  have t:=aB L;clear m M j L;go_wp2_with fail;refine s.out.mono ?_;rintro e w2 ⟨q,u⟩;cases h:gE l with
  |error n=>
   rw[h] at u;obtain rfl:e=cX 3 n:=u;have A:Hid (sH l=.error (3,n)):=by show _=_;rw[t.out,h]
   have E:=aB (f.out.trans ((d.out.trans (q.mono d.out.size)).mono f.out.size));clear q s h t;go_wp2_with fail;exact⟨rfl,E.out,by rw[A.out];rfl⟩
  |ok K=>
   rw[h] at u;obtain⟨v,rfl,o⟩:=u
   obtain⟨x,c,rfl⟩:∃x c,v=.slice x K.length c:=by
    rcases o.2 with ⟨F,r2⟩|⟨g,H,I,F,_⟩
    ·exact⟨none,0,by rw[F,r2]⟩
    ·exact⟨_,_,F⟩
   have A:Hid (sH l=.ok K):=by show _=_;rw[t.out,h]
   have W:=d.out.size
   have a:w2.heap[w.heap.size]?=some (.cells #[.slice none 0 0,.int .i64 0] 144 (0,0)):=by
    rw[q.block _ (by omega),d.out.block _ (by omega)];exact U.out
   have aa:=aD a;have m0:=aA a (i:=0) rfl;have m1:=aA a (i:=1) rfl;have fz:=aE a (i:=0);have ab:=aE a (i:=1);have E:=aB (f.out.trans ((d.out.trans (q.mono d.out.size)).mono f.out.size));have P:=aB o;clear o q s h t a;go_wp2_with fail;refine bodyPost_ret (v:=.agg #[.slice x K.length c,.int .i64 0]) (by simp[results,results76,go_sem,m0,m1]) rfl ?_
   refine⟨(E.out.setCell (by simp) _).setCell (by simp) _,?_⟩
   rw[A.out];refine⟨_,rfl,?_⟩;have S:=P.out;rcases S.2 with hn|⟨g,H,I,F,r2,r3,r4⟩
   ·exact⟨S.1,av_ hn⟩
   ·refine⟨S.1,as_ ⟨g,H,I,F,by omega,?_,r4⟩⟩
    rw[ax_ _ _ _ _ (by show g≠w.heap.size;omega),ax_ _ _ _ _ (by show g≠w.heap.size;omega)]
    exact r3
def IA(A:ByteArray)(w:World)(hT:iT w)(hs:A.size<=maxLen):
 Calls prog 44 #[.string A] w (wO A.data.toList w):=by
 have F:=aB (KQ A w hT hs);obtain⟨l,hl⟩:∃l,l=A.data.toList:=⟨_,rfl⟩;rw[<-hl] at F ⊢
 clear hl hT;go_enter func44,ntmps44;go_wp2_with fail;refine F.out.mono ?_;rintro e E ⟨J,N⟩
 cases i:sH l with
  |error f=>
   rw[i] at N;obtain rfl:e=cX f.1 f.2:=N;have Q:Hid (cG l=f):=by show _=_;unfold cG;rw[CO,i]
   have HK:=aB (XW i);have y:=aB J;clear J F i;go_wp2_with fail;exact⟨rfl,y.out,by rw[Q.out];exact as_ ⟨HK.out,rfl⟩⟩
  |ok H=>
   rw[i] at N;obtain⟨v,rfl,O⟩:=N;have U:=(WG i).1;have ap:=(WG i).2;have h:=sL U
   have ac:cW l=match lW H with
    |.error n=>.error (4,n)
    |.ok (d,_)=>.ok d:=by rw[CO,i]
   have I:=aB ac;obtain⟨g,o,ai,rfl,hg,Y,D,P⟩:=m6 O h.1.some_;have aj:=aD D
   have af:PAt ⟨E.heap.size,g,o,H⟩ (E.alloc (.cells #[.slice (some ⟨g,0,none⟩) H.length o,.int .i64 0] 144)) 0:=
    ⟨aM _ _ rfl _,⟨ai,oU _ _ aj _ D,P⟩,by show g≠E.heap.size;omega,h.1.some_,by show H.length<=3000;omega,Y,h.1,MV U⟩
   have HP:=aB (NZ ⟨E.heap.size,g,o,H⟩ (E.alloc (.cells #[.slice (some ⟨g,0,none⟩) H.length o,.int .i64 0] 144)) af (bS.prog h.1.ok h.1.some_));have y:=aB J;clear O J F i U ac af D P h;go_wp2_with fail;refine HP.out.mono ?_;rintro e w3 ⟨m,L⟩;have S:Below E.heap.size E w3:=⟨m.os.trans rfl,m.tape.trans rfl,m.output.trans rfl,aF_ (by simp) m.size,fun k hk=>by rw[m.block k (by simp;omega) (by show k≠E.heap.size;omega)];exact aA_ _ _ _ hk⟩
   have B:=aB (y.out.trans (S.mono y.out.size));cases r:lW H with
   |error n=>
    rw[r] at L;obtain rfl:e=cX 4 n:=L;have Q:Hid (cG l=(4,n)):=by show _=_;unfold cG;rw[I.out,r]
    clear m S HP r I;go_wp2_with fail;exact⟨rfl,B.out,by rw[Q.out];exact as_ ⟨by simp,rfl⟩⟩
   |ok kq=>
    obtain⟨d,q⟩:=kq;rw[r] at L;obtain⟨_,v3,rfl,ae⟩:=L;have K:cW l=.ok d:=by rw[I.out,r]
    have a:=kT K;have Q:Hid (cG l=kM 2001 d):=by show _=_;unfold cG;rw[K]
    have aq:=FineL.len a;have T:∀f∈d,f.kids.length<=90000:=fun f hf=>by have:=(FineA.kids (FineL.mem a hf) 0).1;omega
    have ad:∀f∈d,∀k∈f.kids,eY 2001 k:=fun f hf k hk=>nW 2001 k (FineA.kid (FineL.mem a hf) hk)
    have aa:∀f∈d,f.kids.length+(f.kids.map (bW 2001)).sum<=90000:=fun f hf=>by have:=FineA.kids (FineL.mem a hf) 2001;omega
    have u:FSl (Btw (E.alloc (.cells #[.slice (some ⟨g,0,none⟩) H.length o,.int .i64 0] 144)).heap.size w3.heap.size) w3 v3 d:=ae
    obtain⟨fx,fc,rfl⟩:∃x c,v3=.slice x d.length c:=by
     rcases u.cells with ⟨h1,h2⟩|⟨g,o,h1,_⟩
     ·exact⟨none,0,by rw[h1,h2];rfl⟩
     ·exact⟨_,_,h1⟩
    have X:=aB u.kids;have HM:=aB (VN d _ _ w3 (by omega) T u)
    have W:=aB u;have ab:=aB T;have ah:=aB ad;have Z:=aB aa;have ak:=aB K;clear m S HP r I ae K a T ad aa u;go_wp2_with fail;refine HM.out.mono ?_;rintro e w4 ⟨j,⟨z,rfl⟩|⟨z,rfl⟩⟩
    rotate_left
    ·have s:=aB (B.out.trans (j.mono B.out.size));have M:Hid (cG l=(5,0)):=by show _=_;rw[Q.out,TV 2001 z X.out]
     clear j z HM;go_wp2_with fail;exact⟨rfl,s.out,by rw[M.out];exact as_ ⟨by decide,rfl⟩⟩
    have s:=aB (B.out.trans (j.mono B.out.size));have M:Hid (cG l=((eU d 2001 [] d ⟨[],0,0⟩).kind,(eU d 2001 [] d ⟨[],0,0⟩).line)):=by show _=_;rw[Q.out,M7 2001 z]
    have HN:=aB (RB (E.alloc (.cells #[.slice (some ⟨g,0,none⟩) H.length o,.int .i64 0] 144)).heap.size d (.slice fx d.length fc) w4 2001 (by omega) ab.out (W.out.grow (fun b p=>j.block b p.2) fun b p=>⟨p.1,az_ p.2 j.size⟩) ah.out Z.out)
    have al:=aB (W.out.grow (G:=Btw w.heap.size w4.heap.size) (fun b p=>j.block b p.2) fun b p=>⟨by have h1:=p.1;have h2:=y.out.size;simp at h1;omega,az_ p.2 j.size⟩)
    clear j z HM Q ab ah Z X W;generalize (eU d 2001 [] d ⟨[],0,0⟩).kind=kd at*;generalize (eU d 2001 [] d ⟨[],0,0⟩).line=ld at*;go_wp2_with fail;refine HN.out.mono ?_;rintro e w5 ⟨t,⟨C,ag,rfl⟩|⟨C,rfl⟩⟩
    ·have V:=aB (s.out.trans (t.mono s.out.size));have ao:Hid (cG l=(0,0)):=by show _=_;rw[M.out,C,ag]
     have am:=aB (al.out.grow (G:=Btw w.heap.size w5.heap.size) (fun b p=>t.block b p.2) fun b p=>⟨p.1,az_ p.2 t.size⟩)
     clear t C ag HN;go_wp2_with fail;go_ret;exact⟨V.out,av_ ⟨ao.out,_,d,rfl,ak.out,am.out⟩⟩
    ·have V:=aB (s.out.trans (t.mono s.out.size));have an:=aB C;clear t C HN;go_wp2_with fail;exact⟨rfl,V.out,by rw[M.out];exact as_ ⟨an.out,rfl⟩⟩
def VP(a:ByteArray)(b:Nat)(w:World)(h:iT w)(k:a.size<=maxLen)(n:w.cell? ⟨b,0,none⟩=some (.string a))(_hbl:b<w.heap.size):
 Calls prog 43 #[.pointer (some ⟨b,0,none⟩)] w fun e j=>Below w.heap.size w j/\((cG a.data.toList=(0,0)/\e=.returned (.tuple #[]))\/((cG a.data.toList).1≠0/\e=cX (cG a.data.toList).1 (cG a.data.toList).2)):=by
 have i:=aB (IA a w h k);unfold wO at i;clear h;generalize cG a.data.toList=m at*;go_enter func43,ntmps43;go_wp2_with fail;refine i.out.mono ?_;rintro e l ⟨c,⟨d,v,_,rfl,_,_⟩|⟨d,rfl⟩⟩
 ·have g:=aB c;have f:=aB d;clear c d;go_wp2_with fail;go_end0;exact⟨g.out,av_ ⟨f.out,rfl⟩⟩
 ·have g:=aB c;have f:=aB d;clear c d;go_wp2_with fail;exact⟨rfl,g.out,as_ ⟨f.out,rfl⟩⟩
end Go.Proofs.YtblbkfdhjfppkaaGreatDoor
