/- Contracts of the program: names: calls, declarations. -/
import Derived.Test.YtblbkfdhjfppkaaGreatDoorP11
import Derived.Test.YtblbkfdhjfppkaaGreatDoorP03
set_option linter.defProp false
set_option maxRecDepth 100000
set_option maxHeartbeats 4000000
namespace Go.Proofs.YtblbkfdhjfppkaaGreatDoor
open Hs
open _root_.Go.Proofs.Tryz(prog)
open Go.RowKit
def WT(cb lo:Nat)(fs:List aC)(m:Value)(q:fs.length<=90000)(o:∀f∈fs,f.kids.length<=90000)(d:Nat)(z:mI cb lo fs m d)(c:aC)(v:Value)(seen:List (List UInt8))(w:World)(h:CK cb lo fs m w seen)(i:PKid (Btw lo cb) w v c.kids)(x:∀k∈c.kids,eY d k)(r:seen.length+(c.kids.map (bW d)).sum<=90000):
 Calls prog 167 #[.pointer (some ⟨cb,0,none⟩),.iface 341 (.agg #[.int .i64 c.line,.string (bs c.text),v])] w (cY cb lo fs m w (foldL fs d c.kids (eB fs false ⟨seen,0,0⟩ c))):=by
 obtain⟨p,u,rfl⟩:=i.slice;have G:=zD;have E:=BF;have D:=SF;have C:=ER;have B:=BE;have H:=ES;have I:=JQ;obtain⟨a,g⟩:=Loc.new h (.cells #[.int .i64 c.line,.string (bs c.text),.slice p c.kids.length u] 341);have b:=aB a;have y:=aB (VO cb lo fs m q o d z c (.slice p c.kids.length u) seen (w.alloc (.cells #[.int .i64 c.line,.string (bs c.text),.slice p c.kids.length u] 341)) g (i.below a.fb.bel) x r (by have:=vA x;omega))
 clear h a g;generalize foldL fs d c.kids (eB fs false ⟨seen,0,0⟩ c)=c at*;go_enter Tryz.func167,Tryz.ntmps167;go_wp2_with fail;refine y.out.mono ?_;rintro e F ⟨l,⟨s,A,rfl,j⟩|⟨i,rfl⟩⟩
 ·have t:=aB (b.out.fb.trans l);have n:=aB j;subst A;clear l j;go_wp2_with fail;go_end0;exact cY.done t.out rfl n.out
 ·have t:=aB (b.out.fb.trans l);have n:=aB i;clear l i;go_wp2_with fail;exact⟨rfl,cY.fault (c1:=c) t.out n.out (Stk.refl _)⟩
def TT(cb lo:Nat)(fs:List aC)(m:Value)(d:Nat)(x:jQ cb lo fs m d)(seen:List (List UInt8))(w:World)(h:CK cb lo fs m w seen)(l:Nat)(t a:aC)(v1:Value)(v:PN (Btw lo cb) w v1 a)(o:eY d a)(q:seen.length+bW d a<=90000):
 Calls prog 167 #[.pointer (some ⟨cb,0,none⟩),.iface 329 (.agg #[.int .i64 l,.int .i64 t.line,.string (bs t.text),v1])] w (cY cb lo fs m w (({ aO fs false d a (Hs.declaresL ⟨seen,0,0⟩ t) with seen:=(aO fs false d a (Hs.declaresL ⟨seen,0,0⟩ t)).seen++[t.text] }:aZ))):=by
 obtain⟨p,b,rfl⟩:=v.form;have B:=tK;obtain⟨f,i⟩:=Loc.new h (.cells #[.int .i64 l,.int .i64 t.line,.string (bs t.text),.iface p (.agg b)] 329);have g:=aB f;have y:=aB (QV cb lo fs m d x (w.alloc (.cells #[.int .i64 l,.int .i64 t.line,.string (bs t.text),.iface p (.agg b)] 329)) seen i l t a (.iface p (.agg b)) (v.below f.fb.bel) o q);clear h f i;generalize ({ aO fs false d a (Hs.declaresL ⟨seen,0,0⟩ t) with seen:=(aO fs false d a (Hs.declaresL ⟨seen,0,0⟩ t)).seen++[t.text] }:aZ)=c at*
 go_enter Tryz.func167,Tryz.ntmps167;go_wp2_with fail;refine y.out.mono ?_;rintro e A ⟨k,⟨s,z,rfl,j⟩|⟨u,rfl⟩⟩
 ·have r:=aB (g.out.fb.trans k);have n:=aB j;subst z;clear k j;go_wp2_with fail;go_end0;exact cY.done r.out rfl n.out
 ·have r:=aB (g.out.fb.trans k);have n:=aB u;clear k u;go_wp2_with fail;exact⟨rfl,cY.fault (c1:=c) r.out n.out (Stk.refl _)⟩
def TR(cb lo:Nat)(fs:List aC)(j:Value)(seen:List (List UInt8))(w:World)(h:CK cb lo fs j w seen)(l m:Nat):
 Calls prog 167 #[.pointer (some ⟨cb,0,none⟩),.iface 338 (.agg #[.int .i64 l,.iface 397 (.agg #[.int .i64 m,.int .i64 0])])] w (cY cb lo fs j w ((⟨seen,0,0⟩:aZ))):=by
 have x:=nI;have u:=oC;have t:=uM;have r:=pH;have q:=oB;obtain⟨f,b⟩:=Loc.new h (.cells #[.int .i64 l,.iface 397 (.agg #[.int .i64 m,.int .i64 0])] 338);have a:=aB f;have o:=aB (IG cb lo fs j seen (w.alloc (.cells #[.int .i64 l,.iface 397 (.agg #[.int .i64 m,.int .i64 0])] 338)) b m 0);clear h f b;generalize (⟨seen,0,0⟩:aZ)=c at*;go_enter Tryz.func167,Tryz.ntmps167;go_wp2_with fail;refine o.out.mono ?_;rintro e v ⟨g,⟨s,p,rfl,d⟩|⟨n,rfl⟩⟩
 ·have k:=aB (a.out.fb.trans g);have i:=aB d;subst p;clear g d;go_wp2_with fail;go_end0;exact cY.done k.out rfl i.out
 ·have k:=aB (a.out.fb.trans g);have i:=aB n;clear g n;go_wp2_with fail;exact⟨rfl,cY.fault (c1:=c) k.out i.out (Stk.refl _)⟩
def dU{fs:List aC}{d:Nat}{a:aC}{s:aZ}(c:(a.op==[118,97,114])=false)(b:(a.op==[98,108,111,99,107])=false):aO fs false (d+1) a s=foldL fs d a.kids (cD fs false s a):=by
 rw[aO,if_neg (by rw[c];simp)]
 simp only[b];rfl
def look_plain{fs:List aC}{a:aC}{s:aZ}(b:(a.op==[115,101,116])=false)(c:(a.op==[110,97,109,101])=false)(d:(a.op==[99,97,108,108])=false):cD fs false s a=s:=by
 unfold cD;rw[b,c,d];rfl
def OV{fs:List aC}{a:aC}{s:aZ}(h:(a.op==[115,101,116] || a.op==[110,97,109,101])=true):cD fs false s a=AK s a.line a.text:=by
 unfold cD;rw[h];rfl
def IJ{fs:List aC}{a:aC}{s:aZ}(h:a.op=[99,97,108,108]):cD fs false s a=eB fs false s a:=by
 unfold cD;rw[h];rfl
def OK{x y:List UInt8}(h:bZ x≠9)(a:bZ y=9):(x==y)=false:=by
 rw[beq_eq_false_iff_ne];intro e;rw[e] at h;exact h a
def ZF(cb lo:Nat)(fs:List aC)(q:Value)(H:fs.length<=90000)(F:∀f∈fs,f.kids.length<=90000)(d:Nat)(IHs:∀e,e<=d->jQ cb lo fs q e):jQ cb lo fs q (d+1):=by
 intro v a i w h N I m;obtain⟨T,W,X,rfl,K,n⟩:=N.parts;have x:=IHs d (au_ _);have J:=rS cb lo fs q d x
 have C:sF cb lo fs q d:=by
  cases d with
  |zero=>exact fun _ _ _ _ _ _ _ V _=>V.elim
  |succ e=>exact RK (rS cb lo fs q e (IHs e (by omega)))
 rw[bW] at m;have j:∀k∈a.kids,eY d k:=I;clear N I;rcases K with ⟨rfl,k,rfl,b,P,g,rfl⟩|⟨rfl,rfl,b,g,rfl⟩|⟨rfl,rfl,b,g,rfl⟩|⟨rfl,z,rfl,b,rfl⟩|⟨rfl,z,rfl,b,rfl⟩|⟨rfl,rfl,b,g,rfl⟩|⟨rfl,l,r,D,p,B,rfl,b,g,rfl⟩|⟨rfl,o,r,p,rfl,Q,b,g,rfl⟩|⟨rfl,l,r,D,p,B,rfl,b,g,rfl⟩|⟨rfl,r,t,p,rfl,b,g,rfl⟩|⟨rfl,z,r,l,p,rfl,b,g,rfl⟩|⟨rfl,r,A,p,s,rfl,b,u,g,rfl⟩|⟨rfl,r,A,O,p,s,L,rfl,b,u,M,g,rfl⟩|⟨rfl,r,A,p,s,rfl,b,u,g,rfl⟩|⟨rfl,l,rfl,b,g,rfl⟩|⟨rfl,r,p,rfl,b,g,rfl⟩|⟨rfl,r,p,rfl,b,g,rfl⟩|⟨rfl,z,c,rfl,b,S,U,g,y,rfl⟩
 ·have e:aO fs false (d+1) a ⟨i,0,0⟩=⟨i,0,0⟩:=by rw[dU (by rw[b];decide) (by rw[b];decide),look_plain (by rw[b];decide) (by rw[b];decide) (by rw[b];decide),g];rfl
  rw[e];exact IG cb lo fs q i w h _ k
 ·have e:aO fs false (d+1) a ⟨i,0,0⟩=⟨i,0,0⟩:=by rw[dU (by rw[b];decide) (by rw[b];decide),look_plain (by rw[b];decide) (by rw[b];decide) (by rw[b];decide),g];rfl
  rw[e];exact ZK cb lo fs q i w h _ _
 ·have e:aO fs false (d+1) a ⟨i,0,0⟩=⟨i,0,0⟩:=by rw[dU (by rw[b];decide) (by rw[b];decide),look_plain (by rw[b];decide) (by rw[b];decide) (by rw[b];decide),g];rfl
  rw[e];exact V6 cb lo fs q i w h _ _
 ·rw[dU (by rw[b];decide) (by rw[b];decide),look_plain (by rw[b];decide) (by rw[b];decide) (by rw[b];decide)]
  exact V0 cb lo fs q d J i w h _ z a.kids (n _ (aD_.2 rfl)).many j (by omega)
 ·rw[dU (by rw[b];decide) (by rw[b];decide),IJ b]
  exact WT cb lo fs q H F d J a z i w h (n _ (aD_.2 rfl)).many j (by omega)
 ·have e:aO fs false (d+1) a ⟨i,0,0⟩=AK ⟨i,0,0⟩ a.line a.text:=by rw[dU (by rw[b];decide) (by rw[b];decide),OV (by rw[b];decide),g];rfl
  rw[e];exact OS cb lo fs q i w h _ _ (by omega)
 ·rw[dU (by rw[b];decide) (by rw[b];decide),look_plain (by rw[b];decide) (by rw[b];decide) (by rw[b];decide),g]
  rw[g] at m j;simp only[aM_,a8_,aO_,bg_] at m;exact M3 cb lo fs q d x i w h l r p (n _ (by simp)).one' (j p (by simp)) D B (n ⟨D,[B],true⟩ (by simp)).one' (j B (by simp)) (by omega)
 ·have G:a.op=[45,120]\/a.op=[33,120]:=by rcases Q with rfl|rfl<;>simp[b]
  have e:aO fs false (d+1) a ⟨i,0,0⟩=aO fs false d p ⟨i,0,0⟩:=by
   rcases G with b|b<;>(rw[dU (by rw[b];decide) (by rw[b];decide),look_plain (by rw[b];decide) (by rw[b];decide) (by rw[b];decide),g];rfl)
  rw[e];rw[g] at m j;simp only[aM_,a8_,aO_,bg_] at m;exact M1 cb lo fs q d x i w h _ _ r p (n _ (by simp)).one' (j p (by simp)) (by omega)
 ·rw[dU (OK b (by decide)) (OK b (by decide)),look_plain (OK b (by decide)) (OK b (by decide)) (OK b (by decide)),g]
  rw[g] at m j;simp only[aM_,a8_,aO_,bg_] at m;exact ZM cb lo fs q d x i w h l _ r p (n _ (by simp)).one' (j p (by simp)) D B (n ⟨D,[B],true⟩ (by simp)).one' (j B (by simp)) (by omega)
 ·have e:aO fs false (d+1) a ⟨i,0,0⟩={ aO fs false d p (Hs.declaresL ⟨i,0,0⟩ t) with seen:=(aO fs false d p (Hs.declaresL ⟨i,0,0⟩ t)).seen++[t.text] }:=by
   rw[aO,if_pos (by rw[b];rfl),g]
  rw[e];rw[g] at m j;simp only[aM_,a8_,aO_,bg_] at m;exact TT cb lo fs q d x i w h _ t p r (n _ (by simp)).one' (j p (by simp)) (by omega)
 ·rw[dU (by rw[b];decide) (by rw[b];decide),OV (by rw[b];decide),g]
  rw[g] at m j;simp only[a7_,aM_,a8_,bC_,aO_,bg_] at m
  have e:foldL fs d (l++[p]) (AK ⟨i,0,0⟩ a.line a.text)=aO fs false d p (foldL fs d l (AK ⟨i,0,0⟩ a.line a.text)):=by
   show List.foldl _ _ (l++[p])=_
   rw[List.foldl_append];rfl
  rw[e];exact ZN cb lo fs q d x J i w h _ _ z l (n ⟨z,l,false⟩ (by simp)).many (fun k P=>j k (aP_ _ P)) r p (n ⟨r,[p],true⟩ (by simp)).one' (j p (by simp)) (by omega)
 ·rw[dU (by rw[b];decide) (by rw[b];decide),look_plain (by rw[b];decide) (by rw[b];decide) (by rw[b];decide),g]
  rw[g] at m j;simp only[aM_,a8_,aO_,bg_] at m;exact m7 cb lo fs q d x J C i w h _ r p (n ⟨r,[p],true⟩ (by simp)).one' (j p (by simp)) A s u (n ⟨A,s.kids,false⟩ (by simp)).many (j s (by simp)) (by omega)
 ·rw[dU (by rw[b];decide) (by rw[b];decide),look_plain (by rw[b];decide) (by rw[b];decide) (by rw[b];decide),g]
  rw[g] at m j;simp only[aM_,a8_,aO_,bg_] at m;exact z7 cb lo fs q d x C i w h _ r p (n ⟨r,[p],true⟩ (by simp)).one' (j p (by simp)) A s u (n ⟨A,s.kids,false⟩ (by simp)).many (j s (by simp)) O L M (n ⟨O,L.kids,false⟩ (by simp)).many (j L (by simp)) (by omega)
 ·rw[dU (by rw[b];decide) (by rw[b];decide),look_plain (by rw[b];decide) (by rw[b];decide) (by rw[b];decide),g]
  rw[g] at m j;simp only[aM_,a8_,aO_,bg_] at m;exact M0 cb lo fs q d x C i w h _ r p (n ⟨r,[p],true⟩ (by simp)).one' (j p (by simp)) A s u (n ⟨A,s.kids,false⟩ (by simp)).many (j s (by simp)) (by omega)
 ·have e:aO fs false (d+1) a ⟨i,0,0⟩=⟨i,0,0⟩:=by rw[dU (by rw[b];decide) (by rw[b];decide),look_plain (by rw[b];decide) (by rw[b];decide) (by rw[b];decide),g];rfl
  rw[e];exact TR cb lo fs q i w h _ l
 ·rw[dU (by rw[b];decide) (by rw[b];decide),look_plain (by rw[b];decide) (by rw[b];decide) (by rw[b];decide),g]
  rw[g] at m j;simp only[aM_,a8_,aO_,bg_] at m;exact ZL cb lo fs q d x i w h _ r p (n _ (by simp)).one' (j p (by simp)) (by omega)
 ·rw[dU (by rw[b];decide) (by rw[b];decide),look_plain (by rw[b];decide) (by rw[b];decide) (by rw[b];decide),g]
  rw[g] at m j;simp only[aM_,a8_,aO_,bg_] at m;exact M2 cb lo fs q d x i w h _ r p (n _ (by simp)).one' (j p (by simp)) (by omega)
 ·rw[dU (by rw[b];decide) (by rw[b];decide),look_plain (by rw[b];decide) (by rw[b];decide) (by rw[b];decide),g]
  rw[g] at m j;simp only[aM_,a8_,aO_,bg_] at m;have E:=j c (by simp)
  cases d with
  |zero=>exact E.elim
  |succ e=>
   show Calls _ _ _ _ (cY cb lo fs q w (aO fs false (e+1) c ⟨i,0,0⟩))
   rw[bW] at m;rw[dU (by rw[y];decide) (by rw[y];decide),IJ y]
   exact WT cb lo fs q H F e (rS cb lo fs q e (IHs e (by omega))) c z i w h (n ⟨z,c.kids,false⟩ (by simp)).many E (by omega)
def L5(cb lo:Nat)(fs:List aC)(c:Value)(a:fs.length<=90000)(b:∀f∈fs,f.kids.length<=90000)(d:Nat):jQ cb lo fs c d:=by
 induction d using Nat.strongRecOn with
 |_ d g=>
  cases d with
  |zero=>exact fun _ _ _ _ _ _ h _=>h.elim
  |succ d=>exact ZF cb lo fs c a b d fun e i=>g e (by omega)
def j2{ps:List aC}(k:Nat)(b:k<ps.length):(F8 ps)[k*2]?=some (.int .i64 ps[k].line)/\(F8 ps)[k*2+1]?=some (.string (bs ps[k].text)):=by
 induction ps generalizing k with
 |nil=>simp at b
 |cons a ps c=>
  cases k with
  |zero=>exact⟨rfl,rfl⟩
  |succ k=>
   have:=c k (by simpa using b)
   have e:∀j,(F8 (a::ps))[(k+1)*2+j]?=(F8 ps)[k*2+j]?:=fun j=>by
    rw[F8,show (k+1)*2+j=k*2+j+1+1 by omega];rfl
   exact⟨(e 0).trans this.1,(e 1).trans this.2⟩
def PNm.get{F:Nat->Prop}{w:World}{v:Value}{ps:List aC}(h:PNm F w v ps):(v=.slice none 0 0/\ps=[])\/∃g a,v=.slice (some ⟨g,0,none⟩) ps.length a/\F g/\g<w.heap.size/\ps.length<=a/\∀k (b:k<ps.length),w.cell? ⟨g,k*2,none⟩=some (.int .i64 ps[k].line)/\w.cell? ⟨g,k*2+1,none⟩=some (.string (bs ps[k].text)):=by
 obtain⟨_,h|⟨g,a,n,o,l,d,q,i⟩⟩:=h
 ·exact av_ h
 ·refine as_ ⟨g,a,o,l,aD d,q,fun k b=>?_⟩
  obtain⟨p,m⟩:=j2 k b
  have e:∀j u,j<ps.length*2->(F8 ps)[j]?=some u->w.cell? ⟨g,j,none⟩=some u:=fun j u f c=>by
   refine aA d ?_;rw[<-i,aU_,if_pos f] at c;simpa using c
  exact⟨e _ _ (by omega) p,e _ _ (by omega) m⟩
def DD{F:Nat->Prop}{w:World}:∀{us:List Value} {fs:List aC} (i:Nat),jX (AC F w) us fs->i<=fs.length->(jO us).take (i*4)=jO (us.take i)
 |[],[],i,_,h=>by simp[jO]
 |u::us,f::fs,0,_,_=>by simp[jO]
 |u::us,f::fs,i+1,⟨⟨e,c,j,b,g,_⟩,h⟩,a=>by
  subst g;have d:=DD i h (by simpa using a)
  rw[bu_,jO,jO,<-d,List.take_append];have:(xD (Value.agg #[.int .i64 f.line,.string (bs f.text),e,c])).length=4:=rfl;rw[this,a0_ (by rw[this];omega)]
  congr 2;omega
 |[],_::_,_,h,_=>h.elim
 |_::_,[],_,h,_=>h.elim
def jX.take{R:Value->aC->Prop}:∀{a b} (i:Nat),jX R a b->jX R (a.take i) (b.take i)
 |_,_,0,_=>by simp[jX]
 |[],[],_+1,_=>trivial
 |_::_,_::_,i+1,⟨c,d⟩=>⟨c,jX.take i d⟩
 |[],_::_,_,h=>h.elim
 |_::_,[],_,h=>h.elim
def FSl.take{F:Nat->Prop}{w:World}{g a:Nat}{fs:List aC}(h:FSl F w (.slice (some ⟨g,0,none⟩) fs.length a) fs)(i:Nat)(m:i<=fs.length):FSl F w (.slice (some ⟨g,0,none⟩) i a) (fs.take i):=by
 rcases h with ⟨c,_⟩|⟨o,f,b,l,c,k,n,p,j,e⟩
 ·cases c
 ·cases c;have d:(fs.take i).length=i:=by rw[bc_];omega
  refine as_ ⟨g,a,b,l.take i,by rw[d],k,n,by omega,?_,e.take i⟩
  rw[d,<-DD i e m,<-j,bO_];congr 1;omega
def CK.reset{cb lo:Nat}{fs:List aC}{c i:Value}{w:World}{seen:List (List UInt8)}(h:CK cb lo fs c w seen)(a:w.heap[cb]?=some (.cells #[c,i] 220 (0,0))):
 FB cb w (w.setCell ⟨cb,1,none⟩ (.slice none 0 0))/\CK cb lo fs c (w.setCell ⟨cb,1,none⟩ (.slice none 0 0)) []:=by
 have f:=aD a;have d:Below cb w (w.setCell ⟨cb,1,none⟩ (.slice none 0 0)):=(ay_ _ _).setCell (by simp) _
 have e:(w.setCell ⟨cb,1,none⟩ (.slice none 0 0)).heap[cb]?=some (.cells #[c,.slice none 0 0] 220 (0,0)):=by rw[aS a];rfl
 refine⟨⟨d,fun k b g j=>ax_ _ _ _ _ (by show k≠cb;exact g),fun k b=>?_⟩,⟨.slice none 0 0,e,World.ownsRow_nil _ _ _ _⟩,h.fun_.keep fun k b=>d.block k b.2⟩
 rw[mS e] at b;cases b
def TJ(a:List aC)(x:List UInt8):(kX a x).isSome=(fL x || !(dL a x).isNone):=by
 unfold kX fL;cases x==[108,101,110]<;>cases x==[114,101,97,100]<;>cases dL a x<;>rfl
def CN(fs:List aC)(d:Nat)(s:aZ)(k:aC):Stk s (eJ fs d s k):=by
 unfold eJ;split
 ·exact(Stk.declares s k).trans (Stk.seen _ _)
 ·exact Stk.walk fs false d k s
def K9(fs:List aC)(d:Nat)(s:aZ)(k:aC)(h:k.op=[112,97,114,97,109]):eJ fs d s k={ Hs.declaresL s k with seen:=(Hs.declaresL s k).seen++[k.text] }:=by
 unfold eJ;rw[h];rfl
def L0(fs:List aC)(d:Nat)(s:aZ)(k:aC)(h:k.op=[98,108,111,99,107]):eJ fs d s k=aO fs false d k s:=by
 unfold eJ;rw[h];rfl
def k9(cb lo:Nat)(fs:List aC)(fv:Value)(d:Nat)(w:World)(b0:Nat)(o:Obj)(ps:List aC)(b:aC)(c:aZ)(gk:Nat)(i:Value)(wr:World):Prop:=
 ∃k s,k+gk=ps.length/\i=.int .i64 (k:Nat)/\Loc cb w b0 o wr/\CK cb lo fs fv wr s/\c=(ps.drop k++[b]).foldl (eJ fs d) ⟨s,0,0⟩/\s.length=k
def VG(fs:List aC)(d:Nat)(seen:List (List UInt8))(f:aC)(first:Bool)(h:(fL f.text || !first)=true):Stk ⟨[],6,f.line⟩ (fR fs d ⟨seen,0,0⟩ f first):=by
 unfold fR;rw[h];exact Stk.fold (CN fs d) _ _
def Z4(fs:List aC)(d:Nat)(seen:List (List UInt8))(f:aC)(first:Bool)(h:(fL f.text || !first)=false):fR fs d ⟨seen,0,0⟩ f first=f.kids.foldl (eJ fs d) ⟨[],0,0⟩:=by
 unfold fR;rw[h];rfl
def D7(cb lo:Nat)(fs:List aC)(g n:Nat)(cs:fs.length<=90000)(H:∀f∈fs,f.kids.length<=90000)(d i:Nat)(hi:i<fs.length)(seen:List (List UInt8))(w:World)(h:CK cb lo fs (FV (.slice (some ⟨g,0,none⟩) fs.length n)) w seen)
 (hd:∀k∈fs[i].kids,eY d k) (hw:fs[i].kids.length+(fs[i].kids.map (bW d)).sum<=90000):
 Calls prog 137 #[.pointer (some ⟨cb,0,none⟩),.slice (some ⟨g,0,none⟩) fs.length n,.int .i64 i] w (cY cb lo fs (FV (.slice (some ⟨g,0,none⟩) fs.length n)) w (fR fs d ⟨seen,0,0⟩ fs[i] (dL (fs.take i) fs[i].text).isNone)):=by
 obtain⟨_,ad,af⟩:=h.fun_;cases ad;rcases af.cells with ⟨h1,_⟩|⟨g',de,h1,cd,dm,cy,hc⟩
 ·cases h1
 cases h1;obtain⟨pv,bv,m,b,e0,e1,e2,e3,y,ak,ba,ae⟩:=hc i hi;obtain⟨Q,S,rfl⟩:=ak.slice;obtain⟨O,L,rfl⟩:=ae.slice;have bq:=aB (TJ (fs.take i) fs[i].text);have an:=H fs[i] (aR_ hi);have bj:=aB (af.take i (by omega))
 generalize du:fs[i]=f at*;have ck:=aB (fun hx=>VG fs d seen f (dL (fs.take i) f.text).isNone hx)
 have ci:=aB (fun hx=>Z4 fs d seen f (dL (fs.take i) f.text).isNone hx)
 have bp:=h.lt;obtain⟨ar,am⟩:=Loc.new h (.cells #[.int .i64 f.line,.string (bs f.text),.slice Q m.length S,.slice O b.kids.length L] 215);obtain⟨sx,sc,W,dy,dd,ay⟩:=h.cut;obtain⟨r,c0,K,f1⟩:=jF W;have cg:=aB ar;have bz:=aB am;have az:=aB ak;have cl:=aB ae;have ao:=aB ba;have Z:=aB y;have HD:=aB hd;have HW:=aB hw;have dk:=aB H;have cn:i<=n:=by omega
 have HBLK:Hid (sF cb lo fs (FV (.slice (some ⟨g,0,none⟩) fs.length n)) d):=by
  cases d with
  |zero=>exact fun _ _ _ _ _ _ _ hd _=>hd.elim
  |succ e=>exact RK (rS cb lo fs _ e (L5 cb lo fs _ cs H e))
 have di:m.length<=90000:=by rw[y] at an;simp at an;omega
 have cp:Hid (Below w.heap.size w (w.alloc (.cells #[.int .i64 f.line,.string (bs f.text),.slice Q m.length S,.slice O b.kids.length L] 215))):=(ay_ _ _).alloc (au_ _) _;have F:=aB (CS (fs.take i) (Btw lo cb) (.slice (some ⟨g,0,none⟩) i n) f.text (w.alloc (.cells #[.int .i64 f.line,.string (bs f.text),.slice Q m.length S,.slice O b.kids.length L] 215)).drew (by rw[bc_];omega) (fun f hf=>H f (bJ_ hf)) (bj.out.keep fun k hk=>by have:=hk.2;exact aA_ _ _ _ (by omega)))
 rw[bq.out] at F;generalize bu:((kX (List.take i fs) f.text).getD 0)=pn at F;obtain⟨tk,ah⟩:∃tk,tk=(fL f.text || !(dL (fs.take i) f.text).isNone):=⟨_,rfl⟩
 rw[<-ah] at F;have au:=aB ah;obtain⟨cc,q⟩:∃cc,cc=fR fs d ⟨seen,0,0⟩ f (dL (fs.take i) f.text).isNone:=⟨_,rfl⟩;rw[<-q];have aw:=aB q;clear bu ah q h ar am ak ae ba y hd hw H af hc W ay bq bj cd;go_enter Tryz.func137,Tryz.ntmps137;go_wp2_with fail;go_cut [7,8] (fun _ tv wc=>tv=.bool tk/\Below w.heap.size w wc/\Loc cb w w.heap.size (.cells #[.int .i64 f.line,.string (bs f.text),.slice Q m.length S,.slice O b.kids.length L] 215) wc/\CK cb lo fs (FV (.slice (some ⟨g,0,none⟩) fs.length n)) wc seen)
 case first=>
  go_region_law (go_simp;go_at_call 135;refine F.out.mono ?_;rintro e w1 ⟨rfl,bk⟩;have Y:=aB ((ay_ (w.alloc (.cells #[.int .i64 f.line,.string (bs f.text),.slice Q m.length S,.slice O b.kids.length L] 215)).heap.size (w.alloc (.cells #[.int .i64 f.line,.string (bs f.text),.slice Q m.length S,.slice O b.kids.length L] 215))).drew.trans bk);clear bk)
  all_goals
   go_wp2_with fail;go_meet
   case rel=>exact⟨rfl,cp.out.trans (Y.out.mono (by simp)),cg.out.step (FB.of_below Y.out (by simp;omega)),bz.out.grow Y.out⟩
 case rest=>
  obtain⟨rfl,aq,z,M⟩:=hcut;clear c0 K f1 r e0 e1 e2 e3;obtain⟨dl,dw,x,dh,ch,al⟩:=M.cut;obtain⟨r,c0,K,f1⟩:=jF x;have cv:=aB z;have ds:=aB M;have m0:=aA z.blk (i:=0) rfl;have m1:=aA z.blk (i:=1) rfl;have m2:=aA z.blk (i:=2) rfl;have m3:=aA z.blk (i:=3) rfl;have N:=aD z.blk;have ai:=aB (M.reset x);have br:=aB aq;clear z M x al aq F;cases tk;rotate_left
  ·go_wp2_with fail;refine(qT f.line _).mono ?_;rintro e C ⟨rfl,c⟩;have u:=aB (br.out.trans (c.mono br.out.size));clear c;go_wp2_with (go_at_call 136;refine(gF 6 f.line _).mono ?_;rintro e w3 ⟨rfl,hw⟩;obtain rfl:=hw.symm)
   exact⟨rfl,cY.fault (c1:=⟨[],6,f.line⟩) (FB.of_below u.out bp) (by simp) (by rw[aw.out];exact ck.out au.out.symm)⟩
  have HI:Hid (k9 cb lo fs (FV (.slice (some ⟨g,0,none⟩) fs.length n)) d w w.heap.size (.cells #[.int .i64 f.line,.string (bs f.text),.slice Q m.length S,.slice O b.kids.length L] 215) m b cc m.length (.int .i64 (0:Nat)) (wc.setCell ⟨cb,1,none⟩ (.slice none 0 0))):=
   ⟨0,[],by omega,rfl,cv.out.step ai.out.1,ai.out.2,by rw[aw.out,ci.out au.out.symm,Z.out];rfl,rfl⟩
  have da:¬cb=w.heap.size:=by omega
  have co:¬w.heap.size=cb:=by omega
  obtain⟨i0,cx,cu,bg,cf⟩:=info_parts WY;go_wp2_with fail;go_loopg [10,37] m.length (fun gk _ iv wr=>k9 cb lo fs (FV (.slice (some ⟨g,0,none⟩) fs.length n)) d w w.heap.size (.cells #[.int .i64 f.line,.string (bs f.text),.slice Q m.length S,.slice O b.kids.length L] 215) m b cc gk iv wr)
  case atStart=>exact HI.out
  case round=>
   obtain⟨k,s,hk,rfl,l,B,q,bi⟩:=hrel;have bf:=aB bi;have dg:s.length<=90000:=by omega
   clear bi;have P:=aB l;have dj:=aB B;have bl:=aB q;clear m0 m1 m2 m3 N c0 K f1 r HI ai;have m0:=aA l.blk (i:=0) rfl;have m1:=aA l.blk (i:=1) rfl;have m2:=aA l.blk (i:=2) rfl;have m3:=aA l.blk (i:=3) rfl;have N:=aD l.blk;have dr:=B.lt;by_cases r:k<m.length
   ·obtain⟨j,rfl⟩:∃j,gk=j+1:=⟨gk-1,by omega⟩
    rcases az.out.get with ⟨_,bd⟩|⟨pg,db,ad,aa,ce,cm,J⟩
    ·rw[bd] at r;simp at r
    obtain⟨bo,bm⟩:=J k r;have be:=az.out.1 m[k] (aR_ r);have bb:m.drop k=m[k]::m.drop (k+1):=(bA_ r).symm;have V:cc=(m.drop (k+1)++[b]).foldl (eJ fs d) (eJ fs d ⟨s,0,0⟩ m[k]):=by rw[q,bb];rfl
    generalize m[k]=a at*;cases ad;have r0:wr.cell? ⟨pg,k*2,none⟩=some (.int .i64 a.line):=(l.fb.bel.cell (p:=⟨pg,k*2,none⟩) aa.2).trans bo;have r1:wr.cell? ⟨pg,k*2+1,none⟩=some (.string (bs a.text)):=(l.fb.bel.cell (p:=⟨pg,k*2+1,none⟩) aa.2).trans bm;have df:pg<wr.heap.size:=az_ (Nat.lt_trans aa.2 bp) l.fb.bel.size;obtain⟨bh,D⟩:=Loc.new B (.cells #[.int .i64 a.line,.string (bs a.text)] 211);have ab:=aB bh;have HM:=aB (qR cb lo fs _ (wr.alloc (.cells #[.int .i64 a.line,.string (bs a.text)] 211)) s D (by omega) a.line a.text)
    have ax:Hid (Hs.declaresL ⟨s,0,0⟩ a=if fL a.text || s.contains a.text then aZ.found ⟨s,0,0⟩ a.line 6 else ⟨s,0,0⟩):=rfl
    rw[<-ax.out] at HM;have T:=aB (K9 fs d ⟨s,0,0⟩ a be);have av:=nA ⟨s,0,0⟩ a;have cq:=aB av;have t:=aB V;clear q V bb bo bm J cm ce bl av ax bh D l B be;generalize Hs.declaresL ⟨s,0,0⟩ a=K at*;go_wp2_with fail;refine HM.out.mono ?_;rintro e C ⟨c,⟨s2,rfl,rfl,o⟩|⟨E,rfl⟩⟩
    rotate_left
    ·have cj:=aB (P.out.fb.trans (ab.out.fb.trans c));have HK:=aB E;clear c E;go_wp2_with fail;exact⟨rfl,cY.fault (c1:=K) cj.out HK.out (by rw[t.out,T.out];exact(Stk.seen _ _).trans (Stk.fold (CN fs d) _ _))⟩
    obtain rfl:s2=s:=cq.out;have ag:=aB (ab.out.step c);have HLb:=aB ((P.out.step ab.out.fb).step c);obtain⟨cr,ca,v,cz,bw,G⟩:=o.cut;obtain⟨bn,c0,K,f1⟩:=jF v;have n0:=aA ag.out.blk (i:=0) rfl;have n1:=aA ag.out.blk (i:=1) rfl;have dn:=aD ag.out.blk;clear m0 m1 m2 m3 N r0 r1;have m0:=aA HLb.out.blk (i:=0) rfl;have m1:=aA HLb.out.blk (i:=1) rfl;have m2:=aA HLb.out.blk (i:=2) rfl;have m3:=aA HLb.out.blk (i:=3) rfl;have N:=aD HLb.out.blk;have u:=aB (show C.drew.heap[cb]?=_ from v)
    have X:=aB (show C.drew.ownsRow _ _ _ _ _ _ from G)
    have I:=aB (show CK cb lo fs (FV (.slice (some ⟨g,0,none⟩) fs.length n)) C.drew s2 from o.grow (ay_ _ _).drew)
    have cw:=aB (FB.of_below (cb:=cb) (ay_ C.heap.size C).drew bn);clear v G o c HM;go_wp2_with fail;go_region_law (refine step_append_lies _ (by rfl) _ _ 60 (by rfl) (cb+1) 9 i0 _ 1 16 Tryz.underlying60 cx cu bg cf rfl (by decide) (.slice cr s2.length ca) s2.length (kJ s2) (by rfl) (X.out.alloc _) ⟨C.heap.size,0,none⟩ 1 1 [.string (bs a.text)] (by rfl) (by rfl) (OR C.drew _) (WR _) (by decide) (by unfold maxLen;omega) (by omega) (by simp;omega) (C.heap.size+1) (by simp) ?_;intro g5 dc w5 ac A ap dv;have bt:=DV u.out X.out A;obtain⟨dq, -,q1,dx⟩:=jF bt;clear bt)
    all_goals
     go_wp2_with fail;go_roundg j
     case measure=>omega
     case rel=>
      have U:=I.out.add u.out X.out ac A (ap.imp_right fun e=>by show C.heap.size<=g5;omega)
      exact⟨k+1,s2++[a.text],by omega,by go_num,(HLb.out.step cw.out).step U.1,U.2,by rw[t.out,T.out],by have:=bf.out;simp;omega⟩
   ·have dt:k=m.length:=by omega
    have aj:eY d b/\s.length+bW d b<=90000:=by
     have h1:=HW.out;have h2:=HD.out b (by rw[Z.out];simp)
     rw[Z.out] at h1;simp only[aw_,a7_,bC_,aM_,a8_,aO_,bg_,aB_,aI_] at h1;have:=bf.out;exact⟨h2,by omega⟩
    have HX:=aB (HBLK.out (.slice O b.kids.length L) b s wr B ao.out (cl.out.below l.fb.bel) aj.1 aj.2)
    have t:Hid (cc=aO fs false d b ⟨s,0,0⟩):=by
     show _=_
     rw[q,ba_ (by omega)]
     exact L0 fs d _ b ao.out
    rw[<-t.out] at HX;clear l B q bl t aj;go_wp2_with fail;refine HX.out.mono ?_;rintro e C ⟨c,⟨s2,D,rfl,o⟩|⟨E,rfl⟩⟩
    ·have u:=aB (P.out.fb.trans c);have I:=aB o;have ct:=aB D;clear c o D;go_wp2_with fail;go_end0;exact cY.done u.out ct.out I.out
    ·have u:=aB (P.out.fb.trans c);have I:=aB E;clear c E;go_wp2_with fail;exact⟨rfl,cY.fault (c1:=cc) u.out I.out (Stk.refl _)⟩
def qS(fs:List aC):Bool:=kX fs [109,97,105,110]==some 0
def VN(fs:List aC)(F:Nat->Prop)(m:Value)(w:World)(u:fs.length<=90000)(g:∀f∈fs,f.kids.length<=90000)(h:FSl F w m fs):
 Calls prog 78 #[m] w fun e s=>Below w.heap.size w s/\((qS fs=true/\e=.returned (.tuple #[]))\/(qS fs=false/\e=cX 5 0)):=by
 have d:=aB (CS fs F m [109,97,105,110] w (by omega) g h)
 have i:Hid (qS fs=(kX fs [109,97,105,110]==some 0)):=rfl;have b:=aB (fun n p=>WQ g (x:=[109,97,105,110]) (n:=n) p)
 clear h g;rw[show bs [109,97,105,110]=⟨#[109,97,105,110]⟩ from rfl] at d
 obtain⟨k,j⟩:∃k,k=qS fs:=⟨_,rfl⟩;rw[<-j] at i ⊢
 clear j;cases c:kX fs [109,97,105,110] with
 |none=>
  obtain rfl:k=false:=by rw[i.out,c];rfl
  rw[c] at d;simp only[Option.getD_none,Option.isSome_none] at d;clear c i b;go_enter Tryz.func78,Tryz.ntmps78;go_wp2_with fail;refine d.out.mono ?_;rintro e r ⟨rfl,a⟩;have l:=aB a;clear a;go_wp2_with (go_at_call 136;refine(gF 5 0 _).mono ?_;rintro e t ⟨rfl,o⟩;obtain rfl:=o.symm)
  exact⟨rfl,l.out,as_ ⟨trivial,rfl⟩⟩
 |some n=>
  have p:=b.out n c;rw[c] at d;simp only[Option.getD_some,Option.isSome_some] at d;cases n with
  |zero=>
   obtain rfl:k=true:=by rw[i.out,c];rfl
   clear c i b;go_enter Tryz.func78,Tryz.ntmps78;go_wp2_with fail;refine d.out.mono ?_;rintro e r ⟨rfl,a⟩;have l:=aB a;clear a;go_wp2_with fail;go_end0;exact⟨l.out,av_ ⟨trivial,rfl⟩⟩
  |succ n=>
   obtain rfl:k=false:=by rw[i.out,c];rfl
   clear c i b;have q:decide ((0:Int)<((n:Int)+1))=true:=decide_eq_true (by omega)
   go_enter Tryz.func78,Tryz.ntmps78;go_wp2_with fail;refine d.out.mono ?_;rintro e r ⟨rfl,a⟩;have l:=aB a;clear a;go_wp2_with (go_at_call 136;refine(gF 5 0 _).mono ?_;rintro e t ⟨rfl,o⟩;obtain rfl:=o.symm)
   exact⟨rfl,l.out,as_ ⟨trivial,rfl⟩⟩
def XG(fs:List aC)(d:Nat):∀(a b:List aC) (s:aZ),Stk s (eU fs d b a s)
 |[],_,s=>Stk.refl s
 |n::a,b,s=>by
  rw[eU];refine Stk.trans ?_ (XG fs d a _ _);unfold fR;refine Stk.trans ?_ (Stk.fold (CN fs d) _ _);refine Stk.trans ?_ (Stk.seen _ _);split
  ·exact Stk.found _ _ _
  ·exact Stk.refl _
def WD(cb lo:Nat)(fs:List aC)(fv:Value)(d:Nat)(w:World)(c:aZ)(gk:Nat)(i:Value)(wr:World):Prop:=
 ∃k s,k+gk=fs.length/\i=.int .i64 (k:Nat)/\Below cb w wr/\CK cb lo fs fv wr s/\c=eU fs d (fs.take k) (fs.drop k) ⟨s,0,0⟩
def RB(lo:Nat)(fs:List aC)(E:Value)(w:World)(d:Nat)(J:fs.length<=90000)(z:∀f∈fs,f.kids.length<=90000)(h:FSl (Btw lo w.heap.size) w E fs)(Q:∀f∈fs,∀k∈f.kids,eY d k)(O:∀f∈fs,f.kids.length+(f.kids.map (bW d)).sum<=90000):
 Calls prog 79 #[E] w fun e T=>Below w.heap.size w T/\(((eU fs d [] fs ⟨[],0,0⟩).kind=0/\(eU fs d [] fs ⟨[],0,0⟩).line=0/\e=.returned (.tuple #[]))\/((eU fs d [] fs ⟨[],0,0⟩).kind≠0/\e=cX (eU fs d [] fs ⟨[],0,0⟩).kind (eU fs d [] fs ⟨[],0,0⟩).line)):=by
 obtain⟨v,r,rfl⟩:∃x c,E=.slice x fs.length c:=by
  rcases h.cells with ⟨t,F⟩|⟨g,M,t,_⟩
  ·exact⟨none,0,by rw[t,F];rfl⟩
  ·exact⟨_,_,t⟩
 obtain⟨c,G⟩:∃c,c=eU fs d [] fs ⟨[],0,0⟩:=⟨_,rfl⟩;have p:Below w.heap.size w (w.alloc (.cells #[FV (.slice v fs.length r),.slice none 0 0] 220)):=(ay_ _ _).alloc (au_ _) _
 have Y:Hid (WD w.heap.size lo fs (FV (.slice v fs.length r)) d w c fs.length (.int .i64 (0:Nat)) (w.alloc (.cells #[FV (.slice v fs.length r),.slice none 0 0] 220))):=
  ⟨0,[],by omega,rfl,p,⟨⟨.slice none 0 0,aM _ _ rfl _,World.ownsRow_nil _ _ _ _⟩,⟨_,rfl,h.keep fun k P=>p.block k P.2⟩⟩,by rw[G];rfl⟩
 rw[<-G];have V:=aB h;have H:=aB z;have HD:=aB Q;have W:=aB O;clear h p G z Q O;go_enter Tryz.func79,Tryz.ntmps79;go_wp2_with fail;go_loopg [3,9] fs.length (fun gk _ i wr=>WD w.heap.size lo fs (FV (.slice v fs.length r)) d w c gk i wr)
 case atStart=>exact Y.out
 case round=>
  obtain⟨k,s,P,rfl,B,q,n⟩:=hrel;have L:=aB B;by_cases b:k<fs.length
  ·obtain⟨j,rfl⟩:∃j,gk=j+1:=⟨gk-1,by omega⟩
   obtain⟨g,rfl⟩:∃g,v=some ⟨g,0,none⟩:=by
    rcases V.out.cells with ⟨t,F⟩|⟨g,M,t,_⟩
    ·rw[F] at b;simp at b
    ·cases t;exact⟨g,rfl⟩
   have I:fs[k]∈fs:=aR_ b;have N:=aB (D7 w.heap.size lo fs g r J H.out d k b s wr q (HD.out _ I) (W.out _ I));have u:fs.drop k=fs[k]::fs.drop (k+1):=(bA_ b).symm
   have a:c=eU fs d (fs.take (k+1)) (fs.drop (k+1)) (fR fs d ⟨s,0,0⟩ fs[k] (dL (fs.take k) fs[k].text).isNone):=by
    rw[n,u,eU,aT_ b]
   have l:=aB a;clear B q n a u I;generalize fR fs d ⟨s,0,0⟩ fs[k] (dL (fs.take k) fs[k].text).isNone=U at*;go_wp2_with fail;refine N.out.mono ?_;rintro e Z ⟨m,⟨s1,rfl,rfl,o⟩|⟨y,rfl⟩⟩
   rotate_left
   ·have C:=aB (L.out.trans m.bel);have A:=aB y;have D:Hid (Stk U c):=by show Stk _ _;rw[l.out];exact XG fs d _ _ _
    clear m y;go_wp2_with fail;obtain⟨S,X⟩:=D.out A.out;exact⟨rfl,C.out,as_ ⟨by rw[S];exact A.out,by rw[S,X]⟩⟩
   have K:Hid (WD w.heap.size lo fs (FV (.slice (some ⟨g,0,none⟩) fs.length r)) d w c j (.int .i64 ((k+1:Nat):Int)) Z):=⟨k+1,s1,by omega,rfl,L.out.trans m.bel,o,l.out⟩
   clear m o N;go_wp2_with fail;go_roundg j
   case measure=>omega
   case rel=>exact K.out
  ·have a:c=⟨s,0,0⟩:=by rw[n,ba_ (by omega)];rfl
   have l:=aB a;clear B q n a;go_wp2_with fail;go_end0;rw[l.out];exact⟨L.out,av_ ⟨rfl,rfl,rfl⟩⟩
structure NTabs(w:World):Prop where
 er:∃te pe,w.cell? ⟨10,0,none⟩=some (.iface te pe)
 big:11<=w.heap.size
def NTabs.fr{w w':World}{sb:Nat}(h:NTabs w)(a:Fr sb w w')(e:11<=sb):NTabs w':=by
 obtain⟨c,b,d⟩:=h.er;have:=h.big;have:=a.size;exact⟨⟨c,b,by rw[xE (a.block 10 (by omega) (by omega))];exact d⟩,by omega⟩
def YX(l:List UInt8)(m:∀c∈l,eA c=true)(b:l≠[])(q:l.length<=100000)(w:World)(o:NTabs w):
 Calls prog 300 #[.string (bs l),.int .i64 10,.int .i64 64] w fun e a=>Below w.heap.size w a/\((∃v,dG 0 l=some v/\e=.returned (.tuple #[.int .i64 (v:Nat),.nilIface]))\/(dG 0 l=none/\∃x T p,e=.returned (.tuple #[.int .i64 x,.iface T p]))):=by
 have k:(bs l).size=l.length:=gA l;rcases B0 l m b with ⟨v,f,d⟩|⟨f,d⟩
 ·refine(Tryz.strconv_ParseInt_10_at64_ok (bs l) (by omega) v (by rw[fS];exact d) w).mono ?_
  rintro e a ⟨rfl,j⟩;refine⟨?_,av_ ⟨v,f,rfl⟩⟩;rcases j with rfl|⟨t,rfl⟩
  ·exact ay_ _ _
  ·exact Lib.bytesWorld_below _ _ _
 ·obtain⟨h,g,n⟩:=o.er;refine(Tryz.strconv_ParseInt_10_at64_range (bs l) (by omega) (by rw[fS];exact d) (.iface h g) w n (as_ ⟨h,g,rfl⟩)).mono ?_
  rintro e a ⟨N,rfl,_,_,i⟩;exact⟨i,as_ ⟨f,_,_,_,rfl⟩⟩
def tD(c:UInt8):eC false c=eA c:=by unfold eC;simp
def MW(sb:Nat)(a:ByteArray)(n L:Nat)(w:World)(h:SC sb a n L w)(hg:NTabs w)(G:11<=sb)(hs:a.size<=100000)(hn:n<a.size)(E:eA a[n]=true):
 Calls prog 253 #[.pointer (some ⟨sb,0,none⟩)] w (P9 sb a n L w (gH (a.data.toList.drop n) false)):=by
 obtain⟨j,l⟩:∃j,j=bL (eC false) (a.data.toList.drop n):=⟨_,rfl⟩
 have ab:j<=a.size-n:=by
  have:=kK (eC false) (a.data.toList.drop n);rw[l];simpa using this
 have aa:1<=j:=by
  rw[l,kO a n hn,rM _ _ _ (by rw[tD];exact E)];omega
 have ae:n<=a.size:=by omega
 have S:=(SC.cells h).1;have J:w.heap.size≠sb:=by omega
 have U:SC sb a n L (w.alloc (.cells #[.int .i64 0,.string ⟨#[]⟩,.int .i64 0,.int .i64 0] 206)):=by unfold SC;rw[aA_ _ _ _ S];exact h
 obtain⟨h0,c0,Y,X,f1,V⟩:=U.cells;have I:Hid (ZTok (w.alloc (.cells #[.int .i64 0,.string ⟨#[]⟩,.int .i64 0,.int .i64 0] 206)).drew w.heap.size):=aM _ _ rfl _;have z:=aB (fun w=>uS (eC false) 252 (fun _ _=>rfl) (fun c w=>by rw[tD];exact tT c w) (a.extract n a.size) w (by rw[rR];omega))
 rw[mX,<-l] at z;have y:=aB (oA sb a n L j (w.alloc (.cells #[.int .i64 0,.string ⟨#[]⟩,.int .i64 0,.int .i64 0] 206)).drew U (by omega) (by omega))
 obtain⟨d,q⟩:∃d,d=(a.data.toList.drop n).take j:=⟨_,rfl⟩;rw[<-q] at y;have k:d.length=j:=by rw[q,bc_];simp;omega
 have D:=aB (fun W (hW:NTabs W)=>YX d (fun c Z=>by
  rw[q,l] at Z;rw[<-tD];exact rN _ _ c Z) (fun e=>by rw[e] at k;simp at k;omega) (by omega) W hW)
 have HW:Hid (gH (a.data.toList.drop n) false={ sort:=48,text:=d,size:=j,ok:=(dG 0 d).isSome }):=by
  show _=_
  unfold gH;rw[<-l,<-q];rfl
 rw[HW.out];have Q:Hid (Fr sb w (w.alloc (.cells #[.int .i64 0,.string ⟨#[]⟩,.int .i64 0,.int .i64 0] 206))):=(Fr.refl _ _).alloc _;have HG:=aB hg;have ad:(bs d).size=j:=by rw[gA];exact k
 clear h U l q HW hg k E;obtain⟨rr,B⟩:∃rr:pA,rr={ sort:=48,text:=d,size:=j,ok:=(dG 0 d).isSome }:=⟨_,rfl⟩;rw[<-B];have K:=aB B;clear B;go_enter Tryz.func253,Tryz.ntmps253;go_wp2_with fail;go_cut [3] (fun v wc=>v=.string (bs d)/\SC sb a (n+j) L wc/\Fr sb w wc/\ZTok wc w.heap.size)
 case first=>
  go_region_law (first|(go_simp;go_at_call 248;refine(z.out _).mono ?_;rintro e w1 ⟨rfl,O⟩;obtain rfl:=O.symm)|(go_simp;go_at_call 296;refine y.out.mono ?_;rintro e w2 ⟨rfl,o,g⟩;have m:=aB o;have s:=aB (Q.out.drew.trans g);have t:=aB (g.keepS I.out J);clear o g))
  all_goals
   go_wp2_with fail;go_meet
   case rel=>exact⟨rfl,m.out,s.out,t.out⟩
 case rest=>
  obtain⟨rfl,o,g,F⟩:=hcut;have m:=aB o;have s:=aB g;have t:=aB F;have C:=aB (D.out wc (HG.out.fr g G));clear c0 Y X f1 V h0 o g F y z I D;go_wp2_with fail;refine C.out.mono ?_;rintro e M ⟨f,⟨v,H,rfl⟩|⟨H,x,T,p,rfl⟩⟩
  ·have r:Hid (SC sb a (n+j) L M):=(f.block sb (aD m.out)).trans m.out;have b:Hid (ZTok M w.heap.size):=(f.block _ (aD t.out)).trans t.out;have A:=aB (s.out.trans (Fr.below f));obtain⟨h0,c0,Y,X,f1,V⟩:=r.out.cells;have z0:=aA b.out (i:=0) rfl;have z1:=aA b.out (i:=1) rfl;have z2:=aA b.out (i:=2) rfl;have z3:=aA b.out (i:=3) rfl;have y0:=aE (i:=0) b.out;have y1:=aE (i:=1) b.out;have y2:=aE (i:=2) b.out;have y3:=aE (i:=3) b.out;have ac:=aD b.out;have N:=aB H;clear f H C;go_wp2_with fail;rw[K.out];refine bodyPost_ret (v:=.agg #[.int .i64 2,.string (bs d),.int .i64 v,.int .i64 L]) (by simp[results,Tryz.results253,go_sem,z0,z1,z2,z3]) rfl ?_
   have u:=mD A.out r.out (au_ _) J (.int .i64 2) (.string (bs d)) (.int .i64 v) (.int .i64 L);refine⟨u.1,av_ ⟨by show (dG 0 d).isSome=true;rw[N.out];rfl,?_,u.2⟩⟩
   show _=Ending.returned (.agg #[.int .i64 2,.string (bs d),.int .i64 (pval ⟨48,d,L⟩),.int .i64 L])
   have e:pval ⟨48,d,L⟩=v:=by unfold pval;rw[if_pos rfl,N.out];rfl
   rw[e]
  ·have r:Hid (SC sb a (n+j) L M):=(f.block sb (aD m.out)).trans m.out;have A:=aB (s.out.trans (Fr.below f));have P:=aB (rQ sb a (n+j) L M r.out);have N:=aB H;clear f H C;go_wp2_with fail;refine P.out.mono ?_;rintro e w4 ⟨rfl,O⟩;obtain rfl:=O.symm;go_wp2_with fail;rw[K.out];exact⟨rfl,A.out,as_ ⟨by show (dG 0 d).isSome=false;rw[N.out];rfl,rfl⟩⟩
def XV(sb:Nat)(b:ByteArray)(n L:Nat)(w:World)(h:SC sb b n L w)(hg:NTabs w)(hm:PTabs w)(A:11<=sb)(hs:b.size<=100000)(Q:n<b.size):
 Calls prog 183 #[.pointer (some ⟨sb,0,none⟩)] w (P9 sb b n L w (bY (b.data.toList.drop n))):=by
 have Z:=(SC.cells h).1;have p:w.heap.size≠sb:=by omega
 have hb:(b[n].toNat:Int)<=255:=nP _;have h1:SC sb b n L (w.alloc (.cells #[.int .i64 0,.string ⟨#[]⟩,.int .i64 0,.int .i64 0] 206)):=by unfold SC;rw[aA_ _ _ _ Z];exact h
 obtain⟨h0,c0,c1,c2,f1,f2⟩:=h1.cells;have s:Hid (∀q,ZTok ((w.alloc (.cells #[.int .i64 0,.string ⟨#[]⟩,.int .i64 0,.int .i64 0] 206)).drewN q) w.heap.size):=fun _=>aM _ _ rfl _
 have D:Fr sb w (w.alloc (.cells #[.int .i64 0,.string ⟨#[]⟩,.int .i64 0,.int .i64 0] 206)):=(Fr.refl _ _).alloc _;have l:=aB D;have O:Hid (∀q,NTabs ((w.alloc (.cells #[.int .i64 0,.string ⟨#[]⟩,.int .i64 0,.int .i64 0] 206)).drewN q)):=fun q=>hg.fr (D.drewN q) A
 have z:Hid (∀q,PTabs ((w.alloc (.cells #[.int .i64 0,.string ⟨#[]⟩,.int .i64 0,.int .i64 0] 206)).drewN q)):=fun q=>hm.fr (D.drewN q) A
 have S:=aB h1;obtain⟨c,M⟩:∃c,c=bY (b.data.toList.drop n):=⟨_,rfl⟩;rw[<-M];have F:c=if eA b[n] || fA b[n] then gH (b.data.toList.drop n) (fA b[n]) else if b[n].toNat=34 then nJ (b.data.toList.drop (n+1)) else gG (b.data.toList.drop n):=by rw[M,kO b n Q];rfl
 have t:=aB F;have r:=aB (xV b[n]);have u:=aB (tT b[n]);clear h h1 hg hm M F D;cases y:fA b[n]
 ·cases C:eA b[n]
  ·by_cases E:b[n].toNat=34
   ·have e:c=nJ (b.data.toList.drop (n+1)):=by rw[t.out,y,C];simp[E]
    have B:=aB (fun q=>XU sb b n L ((w.alloc (.cells #[.int .i64 0,.string ⟨#[]⟩,.int .i64 0,.int .i64 0] 206)).drewN q) S.out (by omega) Q)
    rw[<-e] at B;rw[y] at r;rw[C] at u;have P:((b[n].toNat:Int)==34)=true:=by simp;omega
    clear y C e t E;go_enter Tryz.func183,Tryz.ntmps183;go_wp2_with fail;go_quiet (fail)
    go_wp2_with fail;refine(r.out _).mono ?_;rintro e N ⟨rfl,x⟩;obtain rfl:=x.symm;go_wp2_with fail;refine(u.out _).mono ?_;rintro e N ⟨rfl,x⟩;obtain rfl:=x.symm;go_wp2_with fail;refine(B.out _).mono ?_;rintro e V ⟨d,⟨f,rfl,m⟩|⟨f,rfl⟩⟩
    ·have j:=aB ((l.out.drewN _).trans d);have o:=aB m;have a:=aB (d.keepS (s.out _) p);have g:=aB f;have G:=aA a.out (i:=0) rfl;have J:=aA a.out (i:=1) rfl;have I:=aA a.out (i:=2) rfl;have K:=aA a.out (i:=3) rfl;have T:=aE (i:=0) a.out;have U:=aE (i:=1) a.out;have y2:=aE (i:=2) a.out;have W:=aE (i:=3) a.out;have H:=aD a.out;clear d m f;simp only[oE];go_wp2_with fail;refine bodyPost_ret (v:=.agg #[.int .i64 (psort c.sort),.string (bs c.text),.int .i64 (pval ⟨c.sort,c.text,L⟩),.int .i64 L]) (by clear O z s l j o a g;generalize psort c.sort=X;generalize pval ⟨c.sort,c.text,L⟩=Y;simp[results,Tryz.results183,go_sem,G,J,I,K]) rfl ?_
     have k:=mD j.out o.out (au_ _) p (.int .i64 (psort c.sort)) (.string (bs c.text)) (.int .i64 (pval ⟨c.sort,c.text,L⟩)) (.int .i64 L);exact⟨k.1,av_ ⟨g.out,rfl,k.2⟩⟩
    ·have j:=aB ((l.out.drewN _).trans d);have g:=aB f;clear d f;go_wp2_with fail;exact⟨rfl,j.out,as_ ⟨g.out,rfl⟩⟩
   ·have e:gG (b.data.toList.drop n)=c:=by rw[t.out,y,C];simp[E]
    have B:=aB (fun q=>XY sb b n L ((w.alloc (.cells #[.int .i64 0,.string ⟨#[]⟩,.int .i64 0,.int .i64 0] 206)).drewN q) S.out (z.out q) (by omega) Q c e)
    rw[y] at r;rw[C] at u;have P:((b[n].toNat:Int)==34)=false:=by simp;omega
    clear y C e t E;go_enter Tryz.func183,Tryz.ntmps183;go_wp2_with fail;go_quiet (fail)
    go_wp2_with fail;refine(r.out _).mono ?_;rintro e N ⟨rfl,x⟩;obtain rfl:=x.symm;go_wp2_with fail;refine(u.out _).mono ?_;rintro e N ⟨rfl,x⟩;obtain rfl:=x.symm;go_wp2_with fail;refine(B.out _).mono ?_;rintro e V ⟨d,⟨f,rfl,m⟩|⟨f,rfl⟩⟩
    ·have j:=aB ((l.out.drewN _).trans d);have o:=aB m;have a:=aB (d.keepS (s.out _) p);have g:=aB f;have G:=aA a.out (i:=0) rfl;have J:=aA a.out (i:=1) rfl;have I:=aA a.out (i:=2) rfl;have K:=aA a.out (i:=3) rfl;have T:=aE (i:=0) a.out;have U:=aE (i:=1) a.out;have y2:=aE (i:=2) a.out;have W:=aE (i:=3) a.out;have H:=aD a.out;clear d m f;simp only[oE];go_wp2_with fail;refine bodyPost_ret (v:=.agg #[.int .i64 (psort c.sort),.string (bs c.text),.int .i64 (pval ⟨c.sort,c.text,L⟩),.int .i64 L]) (by clear O z s l j o a g;generalize psort c.sort=X;generalize pval ⟨c.sort,c.text,L⟩=Y;simp[results,Tryz.results183,go_sem,G,J,I,K]) rfl ?_
     have k:=mD j.out o.out (au_ _) p (.int .i64 (psort c.sort)) (.string (bs c.text)) (.int .i64 (pval ⟨c.sort,c.text,L⟩)) (.int .i64 L);exact⟨k.1,av_ ⟨g.out,rfl,k.2⟩⟩
    ·have j:=aB ((l.out.drewN _).trans d);have g:=aB f;clear d f;go_wp2_with fail;exact⟨rfl,j.out,as_ ⟨g.out,rfl⟩⟩
  ·have e:c=gH (b.data.toList.drop n) false:=by rw[t.out,y,C];rfl
   have B:=aB (fun q=>MW sb b n L ((w.alloc (.cells #[.int .i64 0,.string ⟨#[]⟩,.int .i64 0,.int .i64 0] 206)).drewN q) S.out (O.out q) A hs Q C)
   rw[<-e] at B;rw[y] at r;rw[C] at u;clear y C e t;go_enter Tryz.func183,Tryz.ntmps183;go_wp2_with fail;go_quiet (fail)
   go_wp2_with fail;refine(r.out _).mono ?_;rintro e N ⟨rfl,x⟩;obtain rfl:=x.symm;go_wp2_with fail;refine(u.out _).mono ?_;rintro e N ⟨rfl,x⟩;obtain rfl:=x.symm;go_wp2_with fail;refine(B.out _).mono ?_;rintro e V ⟨d,⟨f,rfl,m⟩|⟨f,rfl⟩⟩
   ·have j:=aB ((l.out.drewN _).trans d);have o:=aB m;have a:=aB (d.keepS (s.out _) p);have g:=aB f;have G:=aA a.out (i:=0) rfl;have J:=aA a.out (i:=1) rfl;have I:=aA a.out (i:=2) rfl;have K:=aA a.out (i:=3) rfl;have T:=aE (i:=0) a.out;have U:=aE (i:=1) a.out;have y2:=aE (i:=2) a.out;have W:=aE (i:=3) a.out;have H:=aD a.out;clear d m f;simp only[oE];go_wp2_with fail;refine bodyPost_ret (v:=.agg #[.int .i64 (psort c.sort),.string (bs c.text),.int .i64 (pval ⟨c.sort,c.text,L⟩),.int .i64 L]) (by clear O z s l j o a g;generalize psort c.sort=X;generalize pval ⟨c.sort,c.text,L⟩=Y;simp[results,Tryz.results183,go_sem,G,J,I,K]) rfl ?_
    have k:=mD j.out o.out (au_ _) p (.int .i64 (psort c.sort)) (.string (bs c.text)) (.int .i64 (pval ⟨c.sort,c.text,L⟩)) (.int .i64 L);exact⟨k.1,av_ ⟨g.out,rfl,k.2⟩⟩
   ·have j:=aB ((l.out.drewN _).trans d);have g:=aB f;clear d f;go_wp2_with fail;exact⟨rfl,j.out,as_ ⟨g.out,rfl⟩⟩
 ·have e:c=gH (b.data.toList.drop n) true:=by rw[t.out,y,Bool.or_true];rfl
  have B:=aB (fun q=>XX sb b n L ((w.alloc (.cells #[.int .i64 0,.string ⟨#[]⟩,.int .i64 0,.int .i64 0] 206)).drewN q) S.out (by omega) (by omega))
  rw[<-e] at B;rw[y] at r;clear y e t u;go_enter Tryz.func183,Tryz.ntmps183;go_wp2_with fail;go_quiet (fail)
  go_wp2_with fail;refine(r.out _).mono ?_;rintro e N ⟨rfl,x⟩;obtain rfl:=x.symm;go_wp2_with fail;refine(B.out _).mono ?_;rintro e V ⟨d,⟨f,rfl,m⟩|⟨f,rfl⟩⟩
  ·have j:=aB ((l.out.drewN _).trans d);have o:=aB m;have a:=aB (d.keepS (s.out _) p);have g:=aB f;have G:=aA a.out (i:=0) rfl;have J:=aA a.out (i:=1) rfl;have I:=aA a.out (i:=2) rfl;have K:=aA a.out (i:=3) rfl;have T:=aE (i:=0) a.out;have U:=aE (i:=1) a.out;have y2:=aE (i:=2) a.out;have W:=aE (i:=3) a.out;have H:=aD a.out;clear d m f;simp only[oE];go_wp2_with fail;refine bodyPost_ret (v:=.agg #[.int .i64 (psort c.sort),.string (bs c.text),.int .i64 (pval ⟨c.sort,c.text,L⟩),.int .i64 L]) (by clear O z s l j o a g;generalize psort c.sort=X;generalize pval ⟨c.sort,c.text,L⟩=Y;simp[results,Tryz.results183,go_sem,G,J,I,K]) rfl ?_
   have k:=mD j.out o.out (au_ _) p (.int .i64 (psort c.sort)) (.string (bs c.text)) (.int .i64 (pval ⟨c.sort,c.text,L⟩)) (.int .i64 L);exact⟨k.1,av_ ⟨g.out,rfl,k.2⟩⟩
  ·have j:=aB ((l.out.drewN _).trans d);have g:=aB f;clear d f;go_wp2_with fail;exact⟨rfl,j.out,as_ ⟨g.out,rfl⟩⟩
def N7:(prog.info? 206).map (fun i=>(i.zero,i.size,i.bytes))=some (some (.agg #[.int .i64 0,.string (bs []),.int .i64 0,.int .i64 0]),4,40):=by kernel_rfl
def IE(w:World)(a b c d:Value):∀j u,([a,b,c,d]:List Value)[j]?=some u->(w.alloc (.cells #[a,b,c,d] 206)).cell? ((⟨w.heap.size,0,none⟩:Addr).add j)=some u:=by
 intro j u e;match j,e with
 |0,e=>simp at e;subst e;simp[Addr.add,go_sem]
 |1,e=>simp at e;subst e;simp[Addr.add,go_sem]
 |2,e=>simp at e;subst e;simp[Addr.add,go_sem]
 |3,e=>simp at e;subst e;simp[Addr.add,go_sem]
 |j+4,e=>simp at e
def OM(l m n:Int)(b:ByteArray):∀u∈([.int .i64 l,.string b,.int .i64 m,.int .i64 n]:List Value),u.oneCell'=true:=by
 intro u a;simp at a;rcases a with rfl|rfl|rfl|rfl<;>rfl
def YK{w:World}{b:Nat}{e:TypeId}{a:Nat}{v:Value}{n:Nat}{xs:List Value}(h:w.ownsRow b e a v n xs):∃x c,v=.slice x n c:=by
 rcases h.2 with ⟨d,j⟩|⟨g,f,i,d,_⟩
 ·exact⟨none,0,by rw[d,j]⟩
 ·exact⟨_,f,d⟩
def tZ{l:List UInt8}(h:∀c∈l,c≠10):l.count 10=0:=List.count_eq_zero.2 fun a=>h 10 a rfl
def SB(l:List UInt8)(h:(bY l).ok=true):(l.take (bY l).size).count 10=0:=by
 cases l with
 |nil=>simp[bY] at h
 |cons c r=>
  rw[bY] at h ⊢
  split
  ·rename_i j;rw[sK];refine tZ fun x a=>?_
   have:=rN _ _ x a;intro e;subst e;revert this
   cases fA c<;>decide
  ·rename_i j;rw[if_neg j] at h;split
   ·rename_i b;rw[if_pos b] at h;have d:(decide (r[bL eZ r]?=some 34) && decide (bL eZ r<=100))=true:=h;rw[aX_,decide_eq_true_eq] at d
    have k:bL eZ r<r.length:=by
     by_cases a:bL eZ r<r.length
     ·exact a
     ·rw[a4_ (by omega)] at d;exact absurd d.1 (by simp)
    show ((c::r).take (bL eZ r+1+1)).count 10=0
    rw[bu_,List.take_add_one,d.1];refine tZ fun x a=>?_
    rcases aG_.1 a with rfl|a
    ·intro e;rw[e] at b;exact absurd b (by decide)
    rcases aE_.1 a with a|a
    ·have:=rN _ _ x a;intro e;subst e;exact absurd this (by decide)
    ·intro e;rw[e] at a;exact absurd a (by decide)
   ·rename_i b;rw[if_neg b] at h;unfold gG at h ⊢
    cases g:cM.find? (fun o=>cN (c::r) o) with
    |none=>rw[g] at h;simp at h
    |some o=>
     have i:=List.find?_some g;have m:=bn_ g
     have n:(c::r).take o.length=o:=by
      have f:=i;unfold cN at f;rw[lY _ _ (kU i)] at f;simpa using f
     show ((c::r).take o.length).count 10=0
     rw[n];have:∀o∈cM,o.count 10=0:=by decide
     exact this o m
def J8(x:Except Nat (List aX))(w:World)(e:Ending)(w':World):Prop:=
 Below w.heap.size w w'/\
  match x with
  |.error n=>e=cX 3 n
  |.ok ts=>∃v,e=.returned v/\w'.ownsRow (w.heap.size+1) 206 4 v ts.length (ptoks ts)
def Q7(src:ByteArray)(w:World)(TS:Except Nat (List aX))(gk:Nat)(v:Value)(wr:World):Prop:=
 ∃(k f:Nat) (ts:List aX),k<=src.size/\src.size+1<=k+f/\src.size<=k+gk/\ts.length<=k/\SC w.heap.size src k (bA (src.data.toList.take k)) wr/\Fr w.heap.size w wr/\wr.ownsRow (w.heap.size+1) 206 4 v ts.length (ptoks ts)/\TS=iG ts (eI f (src.data.toList.take k) (src.data.toList.drop k))
def Fr.to_below{w w':World}(h:Fr w.heap.size w w'):Below w.heap.size w w':=⟨h.os,h.tape,h.output,h.size,fun k a=>h.block k a (by omega)⟩
def J7(a:ByteArray)(w:World)(hg:NTabs w)(U:PTabs w)(hs:a.size<=2000):
 Calls prog 132 #[.string a] w (J8 (gE a.data.toList) w):=by
 obtain⟨i0,H,am,ad,Z⟩:=info_parts N7;have C:=hg.big;have h0:SC w.heap.size a 0 (bA (a.data.toList.take 0)) (w.alloc (.cells #[.string a,.int .i64 0,.int .i64 1] 290)):=aM _ _ rfl _;have n:=aB (NP w.heap.size a 0 (w.alloc (.cells #[.string a,.int .i64 0,.int .i64 1] 290)) h0 (by omega) (a9_ _))
 simp only[List.drop_zero,bk_] at n;obtain⟨T,F⟩:∃T,T=Hs.blankL a.size a.data.toList:=⟨_,rfl⟩;have aa:T<=a.size:=by have:=vJ a.size a.data.toList;rw[F];simpa using this
 rw[<-F] at n;obtain⟨G,q⟩:∃G,G=gE a.data.toList:=⟨_,rfl⟩
 have l:Hid (G=eI (a.size+1) (a.data.toList.take T) (a.data.toList.drop T)):=by
  show _=_
  rw[q];unfold gE;rw[show a.data.toList.length=a.size by simp,<-F]
 rw[<-q];have af:Hid (Fr w.heap.size w (w.alloc (.cells #[.string a,.int .i64 0,.int .i64 1] 290))):=(Fr.refl _ _).alloc _;have HG:=aB hg;have HM:=aB U;clear h0 hg U F q;go_enter Tryz.func132,Tryz.ntmps132;go_wp2_with fail;refine n.out.mono ?_;rintro e w1 ⟨rfl,X,al⟩;have HI:Hid (Q7 a w G a.size (.slice none 0 0) w1):=⟨T,a.size+1,[],aa,by omega,by omega,by simp,X,af.out.trans al,World.ownsRow_nil _ _ _ _,by rw[l.out,CG]⟩
 clear X al n l af;go_wp2_with fail;go_loopg [4] a.size (fun gk v wr=>Q7 a w G gk v wr)
 case atStart=>exact HI.out
 case round=>
  obtain⟨k,f,z,hk,hf,ba,az,Q,K,g,q⟩:=hrel
  have hL:bA (a.data.toList.take k)<=k+1:=by
   have:=oR (a.data.toList.take k);have:=List.length_take_le k a.data.toList;omega
  obtain⟨h0,c0,c1,c2,f1,f2⟩:=Q.cells;have ay:=K.size;have aw:=aB Q;have t:=aB K;have l:=aB q;obtain⟨x,c,rfl⟩:=YK g;have E:∀k,(Value.slice x z.length c).ownBlock=some k->w.heap.size+1<=k:=cC g;clear HI Q K q;by_cases aj:k<a.size
  ·obtain⟨f,rfl⟩:∃f',f=f'+1:=⟨f-1,by omega⟩
   obtain⟨j,rfl⟩:∃j,gk=j+1:=⟨gk-1,by omega⟩
   have ag:decide ((k:Int)<(a.size:Int))=true:=decide_eq_true (by omega)
   have hl:(a.data.toList.drop k).length=a.size-k:=by simp
   have D:=aB (XV w.heap.size a k (bA (a.data.toList.take k)) wr aw.out (HG.out.fr t.out C) (HM.out.fr t.out C) C (by omega) aj)
   cases o:(bY (a.data.toList.drop k)).ok
   ·have HF:Hid (G=.error (bA (a.data.toList.take k))):=by
     show _=_
     rw[l.out,mC _ _ _ (by omega) o];rfl
    have I:=aB o;clear l hl o;generalize bA (a.data.toList.take k)=L at*;go_wp2_with fail;refine D.out.mono ?_;rintro e w2 ⟨s,⟨h,_,_⟩|⟨h,rfl⟩⟩
    ·rw[I.out] at h;cases h
    have y:=aB (t.out.trans s);clear s h D;go_wp2_with fail;rw[HF.out];exact⟨rfl,y.out.to_below,rfl⟩
   ·have au:=uG _ o;rw[hl] at au;have ab:=SB _ o;obtain⟨m,U⟩:∃m,m=k+(bY (a.data.toList.drop k)).size+Hs.blankL a.size (a.data.toList.drop (k+(bY (a.data.toList.drop k)).size)):=⟨_,rfl⟩
    have ap:m<=a.size:=by
     have:=vJ a.size (a.data.toList.drop (k+(bY (a.data.toList.drop k)).size));rw[bf_,show a.data.toList.length=a.size by simp] at this
     omega
    have HT:=I0 a k f aj o m U
    have HF:Hid (G=iG (z++[{ sort:=(bY (a.data.toList.drop k)).sort,text:=(bY (a.data.toList.drop k)).text,line:=bA (a.data.toList.take k) }]) (eI f (a.data.toList.take m) (a.data.toList.drop m))):=by
     show _=_
     rw[l.out,HT,zQ]
    have ae:bA (a.data.toList.take (k+(bY (a.data.toList.drop k)).size))=bA (a.data.toList.take k):=by
     rw[List.take_add,jI,ab];rfl
    have n:=aB (fun W (hW:SC w.heap.size a (k+(bY (a.data.toList.drop k)).size) (bA (a.data.toList.take (k+(bY (a.data.toList.drop k)).size))) W)=>NP w.heap.size a _ W hW (by omega) (by omega))
    rw[ae] at n;simp only[<-U] at n;have I:=aB o;have bb:k<m:=by omega
    clear l hl o HT ab ae U;generalize bY (a.data.toList.drop k)=r at*;obtain⟨Y,O⟩:∃Y,Y=psort r.sort:=⟨_,rfl⟩;obtain⟨pb,N⟩:∃pb,pb=pval ⟨r.sort,r.text,bA (a.data.toList.take k)⟩:=⟨_,rfl⟩;have an:Hid (oE ⟨r.sort,r.text,bA (a.data.toList.take k)⟩=.agg #[.int .i64 Y,.string (bs r.text),.int .i64 pb,.int .i64 (bA (a.data.toList.take k))]):=by show _=_;rw[O,N];rfl
    have ao:Hid (ptok ⟨r.sort,r.text,bA (a.data.toList.take k)⟩=[.int .i64 Y,.string (bs r.text),.int .i64 pb,.int .i64 (bA (a.data.toList.take k))]):=by show _=_;rw[O,N];rfl
    clear O N;generalize bA (a.data.toList.take k)=L at*;have S:=aB E;have ai:=aB g;clear g E;go_wp2_with fail;refine D.out.mono ?_;rintro e w2 ⟨s,⟨h,rfl,J⟩|⟨h,rfl⟩⟩
    rotate_left
    ·rw[I.out] at h;cases h
    rw[an.out];have A:=aY (w1:=w2) ai.out fun i H=>s.block i (cK ai.out i H) (by have:=S.out i H;omega)
    have y:=aB (t.out.trans s);have ah:=aB J;have ax:=y.out.size;have ac:=aD J;clear s h J D an;go_wp2_with (at_builtin;refine wpList_append_lies _ (by rfl) _ _ 142 (by rfl) (w.heap.size+1) 206 i0 _ 4 40 Tryz.underlying142 H am ad Z rfl (by decide) _ _ _ (by rfl) (A.alloc _) ⟨w2.heap.size,0,none⟩ 1 1 [.int .i64 Y,.string (bs r.text),.int .i64 pb,.int .i64 L] (by rfl) (by rfl) (IE _ _ _ _ _) (OM _ _ _ _) (by decide) (by unfold maxLen;omega) (by omega) (by simp;omega) (w2.heap.size+1) (by simp) ?_)
    intro g7 p w7 d b B aq;have P:=aB ((y.out.alloc _).grown b (fun k hk=>by have:=S.out k hk;omega))
    have ar:Hid (SC w.heap.size a (k+r.size) L w7):=by
     show _=_
     rw[b.block _ (by simp;omega) (fun e=>by have:=S.out _ e.symm;omega),aA_ _ _ _ ac]
     exact ah.out
    have u:Hid (w7.ownsRow (w.heap.size+1) 206 4 (.slice (some ⟨g7,0,none⟩) (z.length+1) p) (z++[(⟨r.sort,r.text,L⟩:aX)]).length (ptoks (z++[⟨r.sort,r.text,L⟩]))):=by
     rw[CE,ao.out,aw_];exact d
    have V:=aB (n.out w7 ar.out);clear A d b B ah y n;go_wp2_with fail;refine V.out.mono ?_;rintro e w8 ⟨rfl,ak,M⟩
    have av:Hid (Q7 a w G j (.slice (some ⟨g7,0,none⟩) (z.length+1) p) w8):=by
     refine⟨m,f,z++[⟨r.sort,r.text,L⟩],ap,by omega,by omega,by simp;omega,ak,P.out.trans M,?_,HF.out⟩
     exact aY u.out fun i H=>M.block i (cK u.out i H) (by have:=cC u.out i H;omega)
    clear ak M V;go_wp2_with fail;go_roundg j
    case measure=>omega
    case rel=>exact av.out
  ·obtain⟨f,rfl⟩:∃f',f=f'+1:=⟨f-1,by omega⟩
   have HF:Hid (G=.ok (z++[{ sort:=101,text:=[],line:=bA (a.data.toList.take k) }])):=by
    show _=_
    rw[l.out,mB _ _ _ (by simp;omega)];rfl
   have ag:decide ((k:Int)<(a.size:Int))=false:=decide_eq_false (by omega)
   clear l;generalize bA (a.data.toList.take k)=L at*;go_wp2_with (at_builtin;refine wpList_append_lies _ (by rfl) _ _ 142 (by rfl) (w.heap.size+1) 206 i0 _ 4 40 Tryz.underlying142 H am ad Z rfl (by decide) _ _ _ (by rfl) (g.alloc _) ⟨wr.heap.size,0,none⟩ 1 1 [.int .i64 4,.string ⟨#[]⟩,.int .i64 0,.int .i64 L] (by rfl) (by rfl) (IE _ _ _ _ _) (OM _ _ _ _) (by decide) (by unfold maxLen;omega) (by omega) (by simp;omega) (wr.heap.size+1) (by simp) ?_)
   intro g7 p w7 d b B aq;have P:=aB ((t.out.alloc _).grown b (fun k hk=>by have:=E k hk;omega))
   have u:Hid (w7.ownsRow (w.heap.size+1) 206 4 (.slice (some ⟨g7,0,none⟩) (z.length+1) p) (z++[(⟨101,[],L⟩:aX)]).length (ptoks (z++[⟨101,[],L⟩]))):=by
    rw[CE,aw_];exact d
   clear g d b B E;go_wp2_with fail;go_ret;rw[HF.out];exact⟨P.out.to_below,_,rfl,u.out⟩
def UK(a:ByteArray)(w:World)(_hs:a.size<=maxLen):
 Calls prog 130 #[.string a] w fun e b=>b=w/\((a.size<=2000/\e=.returned (.tuple #[]))\/(2000<a.size/\e=cX 1 0)):=by
 by_cases h:a.size<=2000
 ·have d:decide ((2000:Int)<(a.size:Int))=false:=decide_eq_false (by omega)
  go_enter Tryz.func130,Tryz.ntmps130;go_wp2_with fail;go_end0;exact⟨rfl,av_ ⟨h,rfl⟩⟩
 ·have d:decide ((2000:Int)<(a.size:Int))=true:=decide_eq_true (by omega)
  go_enter Tryz.func130,Tryz.ntmps130;go_wp2_with (go_at_call 136;refine(gF 1 0 _).mono ?_;rintro e f ⟨rfl,c⟩;obtain rfl:=c.symm)
  exact⟨rfl,rfl,as_ ⟨by omega,rfl⟩⟩
def KU{l:List UInt8}{c:Nat}{x:UInt8}(h:x∈l.take c):∃i,i<c/\l[i]?=some x:=by
 obtain⟨i,b,e⟩:=List.mem_iff_getElem.1 h;have a:=b;rw[bc_] at a;refine⟨i,by omega,?_⟩
 rw[List.getElem_take] at e;rw[aH_ (by omega),e]
def wS{l:List UInt8}{i lo a:Nat}(h:dE l i lo a=true){x:UInt8}(b:l[i]?=some x):lo<=x.toNat:=by
 unfold dE at h;rw[b] at h;simp at h;exact h.1
def RF{l:List UInt8}(h:2<=bF l):(l.take (bF l)).count 10=0:=by
 refine tZ fun x g=>?_
 obtain⟨i,c,e⟩:=KU g;suffices 128<=x.toNat by intro e;rw[e] at this;exact absurd this (by decide)
 revert h c
 unfold bF;cases f:l[0]? with
 |none=>simp
 |some b=>
  simp only;have d:i=0->x=b:=fun j=>by subst j;rw[f] at e;exact(Option.some.inj e).symm
  split
  ·intro h;omega
  ·rename_i o;split
   ·rename_i m;split
    ·rename_i a;intro _ c;match i,c with
     |0,_=>rw[d rfl];omega
     |1,_=>exact wS a e
    ·intro h;omega
   ·split
    ·rename_i n;by_cases a:(dE l 1 (if b.toNat=224 then 160 else 128) (if b.toNat=237 then 159 else 191) && dE l 2 128 191)=true
     ·rw[if_pos a];rw[aX_] at a;intro _ c;match i,c with
      |0,_=>rw[d rfl];omega
      |1,_=>have:=wS a.1 e;split at this<;>omega
      |2,_=>exact wS a.2 e
     ·rw[if_neg a];intro h;omega
    ·split
     ·rename_i k;by_cases a:(dE l 1 (if b.toNat=240 then 144 else 128) (if b.toNat=244 then 143 else 191) && dE l 2 128 191 && dE l 3 128 191)=true
      ·rw[if_pos a];rw[aX_,aX_] at a;intro _ c;match i,c with
       |0,_=>rw[d rfl];omega
       |1,_=>have:=wS a.1.1 e;split at this<;>omega
       |2,_=>exact wS a.1.2 e
       |3,_=>exact wS a.2 e
      ·rw[if_neg a];intro h;omega
     ·intro h;omega
def Z5(n a c d b:Nat)(e:a<256):(Lib.decodeN n a c d b).1<=1114111:=by
 unfold Lib.decodeN;repeat' split
 all_goals (simp only;omega)
def o8(a:ByteArray)(k:Nat)(p:k<a.size):∃r z,Lib.decodeGo (a.extract k a.size)=(r,z)/\r<=1114111/\
 ((bF (a.data.toList.drop k)=0/\r=65533/\z=1)\/(bF (a.data.toList.drop k)≠0/\z=bF (a.data.toList.drop k)/\¬(r=65533/\z=1)/\(r=10↔a[k].toNat=10))):=by
 have o:(a.extract k a.size).size=a.size-k:=by simp
 have b:0<(a.extract k a.size).size:=by omega
 have j:((a.extract k a.size).get! 0).toNat=a[k].toNat:=by rw[oH _ 0 b];simp[ByteArray.getElem_extract]
 have f:=Z9 (a.extract k a.size) b;rw[mX] at f
 have i:Lib.decodeGo (a.extract k a.size)=Lib.decodeN (a.extract k a.size).size ((a.extract k a.size).get! 0).toNat ((a.extract k a.size).get! 1).toNat ((a.extract k a.size).get! 2).toNat ((a.extract k a.size).get! 3).toNat:=by
  unfold Lib.decodeGo;rw[if_neg (by omega),Lib.decode_at];rfl
 obtain⟨g,d⟩:=P2 (a.extract k a.size).size ((a.extract k a.size).get! 0).toNat ((a.extract k a.size).get! 1).toNat ((a.extract k a.size).get! 2).toNat ((a.extract k a.size).get! 3).toNat (bP_ _) (bP_ _) (bP_ _) (bP_ _);have h:=Z5 (a.extract k a.size).size ((a.extract k a.size).get! 0).toNat ((a.extract k a.size).get! 1).toNat ((a.extract k a.size).get! 2).toNat ((a.extract k a.size).get! 3).toNat (bP_ _);rw[<-f] at g d;rw[<-i] at g d h;rw[j] at d;clear i f;generalize Lib.decodeGo (a.extract k a.size)=D at*;obtain⟨r,z⟩:=D;refine⟨r,z,rfl,h,?_⟩;by_cases e:bF (a.data.toList.drop k)=0
 ·have:=g e;cases this;exact av_ ⟨e,rfl,rfl⟩
 ·obtain⟨n,m,l⟩:=d e;have c:z=bF (a.data.toList.drop k):=n;exact as_ ⟨e,c,by rw[c];exact m,l⟩
def AM{w w':World}(h:Lib.Utf8Tabs 4 5 w)(a:Below w.heap.size w w')(e:11<=w.heap.size):Lib.Utf8Tabs 4 5 w':=
 ⟨fun c d=>(a.cell (p:=⟨4,c,none⟩) (by show 4<_;omega)).trans (h.1 c d),fun i b=>⟨(a.cell (p:=⟨5,2*i,none⟩) (by show 5<_;omega)).trans (h.2 i b).1,(a.cell (p:=⟨5,2*i+1,none⟩) (by show 5<_;omega)).trans (h.2 i b).2⟩⟩
def Z2(x:Option Nat)(l:List UInt8)(w:World)(e:Ending)(w':World):Prop:=
 Below w.heap.size w w'/\
  match x with
  |none=>e=.returned (.tuple #[])
  |some k=>e=cX 2 (bA (l.take k))
def Z1(a:ByteArray)(w:World)(P:Lib.Utf8Tabs 4 5 w)(hz:11<=w.heap.size)(hs:a.size<=2000):
 Calls prog 131 #[.string a] w (Z2 (dN a.size a.data.toList 0) a.data.toList w):=by
 have HT:=aB P;obtain⟨X,E⟩:∃X,X=dN a.size a.data.toList 0:=⟨_,rfl⟩;rw[<-E];have F:Hid (X=dN a.size (a.data.toList.drop 0) 0):=E;clear P E;go_enter Tryz.func131,Tryz.ntmps131;go_wp2_with fail;go_loopg [2,3,4,5] a.size (fun gk Q W _ _ wr=>∃k f:Nat,k<=a.size/\a.size<=k+f/\a.size<=k+gk/\W=.int .i64 k/\Q=.int .i64 (bA (a.data.toList.take k))/\Below w.heap.size w wr/\Hid (X=dN f (a.data.toList.drop k) k))
 case atStart=>exact⟨0,a.size,a9_ _,by omega,by omega,rfl,rfl,ay_ _ _,F⟩
 case round=>
  obtain⟨k,f,hk,hf,S,rfl,rfl,C,v⟩:=hrel
  have hL:bA (a.data.toList.take k)<=k+1:=by
   have:=oR (a.data.toList.take k);have:=List.length_take_le k a.data.toList;omega
  have t:=aB C;by_cases q:k<a.size
  ·obtain⟨f,rfl⟩:∃Z,f=Z+1:=⟨f-1,by omega⟩
   obtain⟨j,rfl⟩:∃j,gk=j+1:=⟨gk-1,by omega⟩
   have d:0<(a.data.toList.drop k).length:=by simp;omega
   obtain⟨r,z,M,hr,Y⟩:=o8 a k q;have s:=aB (Tryz.utf8_DecodeRuneInString (a.extract k a.size) wr (AM HT.out C hz));rw[M] at s;clear M C;rcases Y with ⟨h,rfl,rfl⟩|⟨h,m,B,c⟩
   ·have u:Hid (X=some k):=by show _=_;rw[v.out,NL _ _ _ d h]
    generalize A:bA (a.data.toList.take k)=L at*;have H:=aB A;clear v h d A;go_wp2_with fail;refine s.out.mono ?_;rintro e O ⟨rfl,b⟩;have g:=aB (t.out.trans (b.mono t.out.size));clear b s;go_wp2_with (go_at_call 136;refine(gF 2 L _).mono ?_;rintro e w3 ⟨rfl,V⟩;obtain rfl:=V.symm)
    rw[u.out];exact⟨rfl,g.out,congrArg (cX 2) H.out.symm⟩
   ·have u:Hid (X=dN f (a.data.toList.drop (k+z)) (k+z)):=by
     show _=_
     rw[v.out,KB _ _ _ d h,bH_,<-m]
    have aa:z<=a.size-k:=by rw[m];have:=D8 (a.data.toList.drop k);simpa using this
    have U:1<=z:=by omega
    have x:bA (a.data.toList.take (k+z))=bA (a.data.toList.take k)+if r=10 then 1 else 0:=by
     by_cases h2:2<=z
     ·have I:=RF (l:=a.data.toList.drop k) (by omega)
      rw[<-m] at I;rw[List.take_add,jI,I];rw[if_neg];intro e;have h4:=c.1 e
      have J:a[k]∈(a.data.toList.drop k).take z:=by
       rw[kO a k q];obtain⟨y,rfl⟩:∃y,z=y+1:=⟨z-1,by omega⟩
       rw[bu_];exact aS_ ..
      exact List.count_eq_zero.1 I (by have:a[k]=10:=bT_.1 h4;rw[this] at J;exact J)
     ·obtain rfl:z=1:=by omega
      rw[IL a k q];congr 1
      by_cases D:r=10
      ·rw[if_pos D,if_pos (bT_.1 (c.1 D))]
      ·rw[if_neg D,if_neg (fun e=>D (c.2 (by rw[e];rfl)))]
    have i:=aB x;generalize bA (a.data.toList.take k)=L at*
    have o:((r:Int)==65533)=false\/((r:Int)==65533)=true/\((z:Int)==1)=false:=by
     by_cases T:r=65533
     ·refine as_ ⟨by simp;omega,?_⟩
      simp;intro e;exact B ⟨T,by omega⟩
     ·exact av_ (by simp;omega)
    have G:(a.data.toList.drop k).length=a.size-k:=by simp
    clear v h d m c x B G;by_cases n:r=10
    ·have e1:((r:Int)==10)=true:=by simp;omega
     have K:((r:Int)==65533)=false:=by simp;omega
     have p:Hid (bA (a.data.toList.take (k+z))=L+1):=by show _=_;rw[i.out,if_pos n]
     clear o n i;go_wp2_with fail;refine s.out.mono ?_;rintro e O ⟨rfl,b⟩;have g:=aB (t.out.trans (b.mono t.out.size));clear b s;go_wp2_with fail;go_roundg j
     case measure=>omega
     case rel=>exact⟨k+z,f,by omega,by omega,by omega,by go_num,by rw[p.out];go_num,g.out,u⟩
    ·have e1:((r:Int)==10)=false:=by simp;omega
     have p:Hid (bA (a.data.toList.take (k+z))=L):=by show _=_;rw[i.out,if_neg n];rfl
     clear n i;rcases o with K|⟨K,e3⟩
     all_goals
      go_wp2_with fail;refine s.out.mono ?_;rintro e O ⟨rfl,b⟩;have g:=aB (t.out.trans (b.mono t.out.size));clear b s;go_wp2_with fail;go_roundg j
      case measure=>omega
      case rel=>exact⟨k+z,f,by omega,by omega,by omega,by go_num,by rw[p.out],g.out,u⟩
  ·have u:Hid (X=none):=by show _=_;rw[v.out,NK _ _ _ (by simp;omega)]
   have N:decide ((k:Int)<(a.size:Int))=false:=decide_eq_false (by omega)
   clear v C;generalize bA (a.data.toList.take k)=L at*;go_wp2_with fail;go_end0;rw[u.out];exact⟨t.out,rfl⟩
structure iT(w:World):Prop where
 n:NTabs w
 p:PTabs w
 u:Lib.Utf8Tabs 4 5 w
def iT.below{w w':World}(h:iT w)(a:Below w.heap.size w w'):iT w':=
 ⟨h.n.fr (sb:=w.heap.size) ⟨a.os,a.tape,a.output,a.size,fun k b _=>a.block k b⟩ h.n.big,h.p.fr (sb:=w.heap.size) ⟨a.os,a.tape,a.output,a.size,fun k b _=>a.block k b⟩ h.n.big,AM h.u a h.n.big⟩
def FineA.kid{m:Nat}{f k:aC}(h:Hs.FineA m f)(b:k∈f.kids):Hs.FineA m k:=fun d=>by
 have a:=h (d+1);refine⟨?_,a.2.2 k b⟩;have c:=a.1;rw[bW] at c;have:=tM (f:=bW d) b;omega
def FineA.kids{m:Nat}{f:aC}(h:Hs.FineA m f)(d:Nat):f.kids.length<=m/\(f.kids.map (bW d)).sum<=m:=by
 have a:=(h (d+1)).1;have b:=(h 2).1;rw[bW] at a b;have c:f.kids.length<=(f.kids.map (bW 1)).sum:=oS 0 f.kids;exact⟨by omega,by omega⟩
def sH(l:List UInt8):Except (Nat × Nat) (List aX):=
 if 2000<l.length then .error (1,0)
 else match dN l.length l 0 with
  |some k=>.error (2,bA (l.take k))
  |none=>
   match gE l with
   |.error n=>.error (3,n)
   |.ok ts=>.ok ts
def CO(l:List UInt8):cW l=match sH l with
 |.error f=>.error f
 |.ok a=>match lW a with
  |.error n=>.error (4,n)
  |.ok (b,_)=>.ok b:=by
 unfold cW sH;by_cases h:2000<l.length
 ·rw[if_pos h,if_pos h]
 ·rw[if_neg h,if_neg h];cases dN l.length l 0 with
  |some k=>rfl
  |none=>
   cases gE l with
   |error n=>rfl
   |ok a=>rfl
def WG{l:List UInt8}{ts:List aX}(h:sH l=.ok ts):gE l=.ok ts/\l.length<=2000:=by
 unfold sH at h;split at h
 ·cases h
 ·split at h
  ·cases h
  ·split at h
   ·cases h
   ·cases h;exact⟨by assumption,by omega⟩
def XW{l:List UInt8}{f:Nat × Nat}(h:sH l=.error f):f.1≠0:=by
 unfold sH at h;split at h
 ·cases h;simp
 ·split at h
  ·cases h;simp
  ·split at h
   ·cases h;simp
   ·cases h
def TH(l:List UInt8)(w:World)(e:Ending)(w':World):Prop:=
 Below w.heap.size w w'/\
  match sH l with
  |.error f=>e=cX f.1 f.2
  |.ok ts=>∃v,e=.returned (.agg #[v,.int .i64 0])/\w'.ownsRow w.heap.size 206 4 v ts.length (ptoks ts)
def wO(l:List UInt8)(w:World)(e:Ending)(w':World):Prop:=
 Below w.heap.size w w'/\((cG l=(0,0)/\∃v ks,e=.returned v/\cW l=.ok ks/\FSl (Btw w.heap.size w'.heap.size) w' v ks)\/((cG l).1≠0/\e=cX (cG l).1 (cG l).2))
def TV{ks:List aC}(d:Nat)(h:qS ks=false)(b:∀f∈ks,1<=f.kids.length):kM d ks=(5,0):=by
 unfold kM;unfold qS kX at h;cases a:dL ks [109,97,105,110] with
 |none=>rfl
 |some m=>
  rw[a] at h;have c:=b m (bn_ a)
  have g:¬m.kids.length-1=0:=by
   intro e;rw[show (([109,97,105,110]:List UInt8)==[108,101,110])=false by decide,show (([109,97,105,110]:List UInt8)==[114,101,97,100])=false by decide] at h
   simp[e] at h
  show (if 1<m.kids.length then _ else _)=_
  rw[if_pos (by omega)]
def M7{ks:List aC}(d:Nat)(h:qS ks=true):kM d ks=((eU ks d [] ks ⟨[],0,0⟩).kind,(eU ks d [] ks ⟨[],0,0⟩).line):=by
 unfold kM;unfold qS kX at h;rw[show (([109,97,105,110]:List UInt8)==[108,101,110])=false by decide,show (([109,97,105,110]:List UInt8)==[114,101,97,100])=false by decide] at h
 cases a:dL ks [109,97,105,110] with
 |none=>rw[a] at h;simp at h
 |some m=>
  rw[a] at h;simp at h;show (if 1<m.kids.length then _ else _)=_
  rw[if_neg (by omega)]
def FSl.grow{F G:Nat->Prop}{w w':World}{v:Value}{fs:List aC}(h:FSl F w v fs)(f:∀b,F b->w'.heap[b]?=w.heap[b]?)(d:∀b,F b->G b):FSl G w' v fs:=by
 rcases h with h|⟨g,c,a,k,m,e,l,n,i,j⟩
 ·exact av_ h
 ·exact as_ ⟨g,c,a,k,m,d g e,by rw[f g e];exact l,n,i,j.mono fun _ _ h=>h.keep f d⟩
def m6{w:World}{b:Nat}{v:Value}{ts:List aX}(h:w.ownsRow b 206 4 v ts.length (ptoks ts))(l:0<ts.length):∃g c a,v=.slice (some ⟨g,0,none⟩) ts.length c/\b<=g/\ts.length<=c/\w.heap[g]?=some (.cells a 206 (0,0))/\a.toList.take (ts.length*4)=ptoks ts:=by
 rcases h.2 with ⟨d,e⟩|⟨g,c,a,d,e,j,i,k,m,f⟩
 ·omega
 ·exact⟨g,c,a,d,e,i,j,f⟩
def KQ(b:ByteArray)(w:World)(Y:iT w)(hs:b.size<=maxLen):
 Calls prog 76 #[.string b] w (TH b.data.toList w):=by
 have H:b.data.toList.length=b.size:=by simp
 obtain⟨l,S⟩:∃l,l=b.data.toList:=⟨_,rfl⟩;rw[<-S] at H ⊢
 obtain⟨A,o⟩:∃A,A=w.alloc (.cells #[.slice none 0 0,.int .i64 0] 144):=⟨_,rfl⟩;have C:Below w.heap.size w A:=by rw[o];exact(ay_ _ _).alloc (au_ _) _
 have p:A.heap[w.heap.size]?=some (.cells #[.slice none 0 0,.int .i64 0] 144 (0,0)):=by rw[o];exact aM _ _ rfl _
 have aa:A.heap.size=w.heap.size+1:=by rw[o];simp
 have G:=aB (UK b A hs);have Z:=aB S;have N:=aB (Y.below C);have f:=aB C;have U:=aB p;have O:=aB o;clear S Y C p o;go_enter Tryz.func76,Tryz.ntmps76;go_wp2_with fail;rw[<-O.out];refine G.out.mono ?_;rintro e X ⟨T,⟨E,rfl⟩|⟨E,rfl⟩⟩
 rotate_left
 ·obtain rfl:=T.symm
  have B:Hid (sH l=.error (1,0)):=by
   show _=_
   unfold sH;rw[if_pos (by omega)]
  go_wp2_with fail;exact⟨rfl,f.out,by rw[B.out];rfl⟩
 obtain rfl:=T.symm;have M:=aB (Z1 b A N.out.u N.out.n.big E);rw[<-Z.out,<-H] at M;have z:¬2000<l.length:=by omega
 clear T G;go_wp2_with fail;refine M.out.mono ?_;rintro e X ⟨j,u⟩;cases h:dN l.length l 0 with
 |some k=>
  rw[h] at u;obtain rfl:e=cX 2 (bA (l.take k)):=u;have B:Hid (sH l=.error (2,bA (l.take k))):=by show _=_;unfold sH;rw[if_neg z,h]
  have d:=aB (f.out.trans (j.mono f.out.size));clear j M h;go_wp2_with fail;exact⟨rfl,d.out,by rw[B.out];rfl⟩
 |none=>
  rw[h] at u;obtain rfl:e=.returned (.tuple #[]):=u;have y:=aB (J7 b X (N.out.below j).n (N.out.below j).p E);rw[<-Z.out] at y;have d:=aB j
  have L:sH l=match gE l with
   |.error n=>.error (3,n)
   |.ok F=>.ok F:=by unfold sH;rw[if_neg z,h]
  have s:=aB L;clear j M h L;go_wp2_with fail;refine y.out.mono ?_;rintro e w2 ⟨r,t⟩;cases m:gE l with
  |error n=>
   rw[m] at t;obtain rfl:e=cX 3 n:=t;have B:Hid (sH l=.error (3,n)):=by show _=_;rw[s.out,m]
   have D:=aB (f.out.trans ((d.out.trans (r.mono d.out.size)).mono f.out.size));clear r y m s;go_wp2_with fail;exact⟨rfl,D.out,by rw[B.out];rfl⟩
  |ok F=>
   rw[m] at t;obtain⟨v,rfl,q⟩:=t
   obtain⟨x,c,rfl⟩:∃x c,v=.slice x F.length c:=by
    rcases q.2 with ⟨I,r2⟩|⟨g,K,J,I,_⟩
    ·exact⟨none,0,by rw[I,r2]⟩
    ·exact⟨_,_,I⟩
   have B:Hid (sH l=.ok F):=by show _=_;rw[s.out,m]
   have W:=d.out.size
   have a:w2.heap[w.heap.size]?=some (.cells #[.slice none 0 0,.int .i64 0] 144 (0,0)):=by
    rw[r.block _ (by omega),d.out.block _ (by omega)];exact U.out
   have V:=aD a;have m0:=aA a (i:=0) rfl;have m1:=aA a (i:=1) rfl;have fz:=aE a (i:=0);have ab:=aE a (i:=1);have D:=aB (f.out.trans ((d.out.trans (r.mono d.out.size)).mono f.out.size));have Q:=aB q;clear q r y m s a;go_wp2_with fail;refine bodyPost_ret (v:=.agg #[.slice x F.length c,.int .i64 0]) (by simp[results,Tryz.results76,go_sem,m0,m1]) rfl ?_
   refine⟨(D.out.setCell (by simp) _).setCell (by simp) _,?_⟩
   rw[B.out];refine⟨_,rfl,?_⟩;have P:=Q.out;rcases P.2 with hn|⟨g,K,J,I,r2,r3,r4⟩
   ·exact⟨P.1,av_ hn⟩
   ·refine⟨P.1,as_ ⟨g,K,J,I,by omega,?_,r4⟩⟩
    rw[ax_ _ _ _ _ (by show g≠w.heap.size;omega),ax_ _ _ _ _ (by show g≠w.heap.size;omega)]
    exact r3
def IA(z:ByteArray)(w:World)(hT:iT w)(hs:z.size<=maxLen):
 Calls prog 44 #[.string z] w (wO z.data.toList w):=by
 have M:=aB (KQ z w hT hs);obtain⟨l,hl⟩:∃l,l=z.data.toList:=⟨_,rfl⟩;rw[<-hl] at M ⊢
 clear hl hT;go_enter Tryz.func44,Tryz.ntmps44;go_wp2_with fail;refine M.out.mono ?_;rintro e E ⟨N,L⟩
 cases i:sH l with
  |error f=>
   rw[i] at L;obtain rfl:e=cX f.1 f.2:=L;have T:Hid (cG l=f):=by show _=_;unfold cG;rw[CO,i]
   have HK:=aB (XW i);have C:=aB N;clear N M i;go_wp2_with fail;exact⟨rfl,C.out,by rw[T.out];exact as_ ⟨HK.out,rfl⟩⟩
  |ok K=>
   rw[i] at L;obtain⟨v,rfl,P⟩:=L;have V:=(WG i).1;have ap:=(WG i).2;have h:=sL V
   have aa:cW l=match lW K with
    |.error n=>.error (4,n)
    |.ok (d,_)=>.ok d:=by rw[CO,i]
   have F:=aB aa;obtain⟨g,m,aj,rfl,hg,X,D,O⟩:=m6 P h.1.some_;have ak:=aD D
   have ab:PAt ⟨E.heap.size,g,m,K⟩ (E.alloc (.cells #[.slice (some ⟨g,0,none⟩) K.length m,.int .i64 0] 144)) 0:=
    ⟨aM _ _ rfl _,⟨aj,oU _ _ ak _ D,O⟩,by show g≠E.heap.size;omega,h.1.some_,by show K.length<=3000;omega,X,h.1,MV V⟩
   have HP:=aB (NZ ⟨E.heap.size,g,m,K⟩ (E.alloc (.cells #[.slice (some ⟨g,0,none⟩) K.length m,.int .i64 0] 144)) ab (bS.prog h.1.ok h.1.some_));have C:=aB N;clear P N M i V aa ab D O h;go_wp2_with fail;refine HP.out.mono ?_;rintro e w3 ⟨o,H⟩;have W:Below E.heap.size E w3:=⟨o.os.trans rfl,o.tape.trans rfl,o.output.trans rfl,aF_ (by simp) o.size,fun k hk=>by rw[o.block k (by simp;omega) (by show k≠E.heap.size;omega)];exact aA_ _ _ _ hk⟩
   have y:=aB (C.out.trans (W.mono C.out.size));cases t:lW K with
   |error n=>
    rw[t] at H;obtain rfl:e=cX 4 n:=H;have T:Hid (cG l=(4,n)):=by show _=_;unfold cG;rw[F.out,t]
    clear o W HP t F;go_wp2_with fail;exact⟨rfl,y.out,by rw[T.out];exact as_ ⟨by simp,rfl⟩⟩
   |ok kq=>
    obtain⟨d,q⟩:=kq;rw[t] at H;obtain⟨_,v3,rfl,Z⟩:=H;have I:cW l=.ok d:=by rw[F.out,t]
    have a:=kT I;have T:Hid (cG l=kM 2001 d):=by show _=_;unfold cG;rw[I]
    have aq:=FineL.len a;have U:∀f∈d,f.kids.length<=90000:=fun f hf=>by have:=(FineA.kids (FineL.mem a hf) 0).1;omega
    have ae:∀f∈d,∀k∈f.kids,eY 2001 k:=fun f hf k hk=>nW 2001 k (FineA.kid (FineL.mem a hf) hk)
    have af:∀f∈d,f.kids.length+(f.kids.map (bW 2001)).sum<=90000:=fun f hf=>by have:=FineA.kids (FineL.mem a hf) 2001;omega
    have A:FSl (Btw (E.alloc (.cells #[.slice (some ⟨g,0,none⟩) K.length m,.int .i64 0] 144)).heap.size w3.heap.size) w3 v3 d:=Z
    obtain⟨fx,fc,rfl⟩:∃x c,v3=.slice x d.length c:=by
     rcases A.cells with ⟨h1,h2⟩|⟨g,m,h1,_⟩
     ·exact⟨none,0,by rw[h1,h2];rfl⟩
     ·exact⟨_,_,h1⟩
    have ac:=aB A.kids;have HM:=aB (VN d _ _ w3 (by omega) U A)
    have S:=aB A;have Y:=aB U;have ag:=aB ae;have ad:=aB af;have ao:=aB I;clear o W HP t F Z I a U ae af A;go_wp2_with fail;refine HM.out.mono ?_;rintro e w4 ⟨j,⟨B,rfl⟩|⟨B,rfl⟩⟩
    rotate_left
    ·have r:=aB (y.out.trans (j.mono y.out.size));have J:Hid (cG l=(5,0)):=by show _=_;rw[T.out,TV 2001 B ac.out]
     clear j B HM;go_wp2_with fail;exact⟨rfl,r.out,by rw[J.out];exact as_ ⟨by decide,rfl⟩⟩
    have r:=aB (y.out.trans (j.mono y.out.size));have J:Hid (cG l=((eU d 2001 [] d ⟨[],0,0⟩).kind,(eU d 2001 [] d ⟨[],0,0⟩).line)):=by show _=_;rw[T.out,M7 2001 B]
    have HN:=aB (RB (E.alloc (.cells #[.slice (some ⟨g,0,none⟩) K.length m,.int .i64 0] 144)).heap.size d (.slice fx d.length fc) w4 2001 (by omega) Y.out (S.out.grow (fun b p=>j.block b p.2) fun b p=>⟨p.1,az_ p.2 j.size⟩) ag.out ad.out)
    have ai:=aB (S.out.grow (G:=Btw w.heap.size w4.heap.size) (fun b p=>j.block b p.2) fun b p=>⟨by have h1:=p.1;have h2:=C.out.size;simp at h1;omega,az_ p.2 j.size⟩)
    clear j B HM T Y ag ad ac S;generalize (eU d 2001 [] d ⟨[],0,0⟩).kind=kd at*;generalize (eU d 2001 [] d ⟨[],0,0⟩).line=ld at*;go_wp2_with fail;refine HN.out.mono ?_;rintro e w5 ⟨s,⟨u,ah,rfl⟩|⟨u,rfl⟩⟩
    ·have Q:=aB (r.out.trans (s.mono r.out.size));have an:Hid (cG l=(0,0)):=by show _=_;rw[J.out,u,ah]
     have am:=aB (ai.out.grow (G:=Btw w.heap.size w5.heap.size) (fun b p=>s.block b p.2) fun b p=>⟨p.1,az_ p.2 s.size⟩)
     clear s u ah HN;go_wp2_with fail;go_ret;exact⟨Q.out,av_ ⟨an.out,_,d,rfl,ao.out,am.out⟩⟩
    ·have Q:=aB (r.out.trans (s.mono r.out.size));have al:=aB u;clear s u HN;go_wp2_with fail;exact⟨rfl,Q.out,by rw[J.out];exact as_ ⟨al.out,rfl⟩⟩
def VP(a:ByteArray)(b:Nat)(w:World)(i:iT w)(k:a.size<=maxLen)(l:w.cell? ⟨b,0,none⟩=some (.string a))(_hbl:b<w.heap.size):
 Calls prog 43 #[.pointer (some ⟨b,0,none⟩)] w fun e j=>Below w.heap.size w j/\((cG a.data.toList=(0,0)/\e=.returned (.tuple #[]))\/((cG a.data.toList).1≠0/\e=cX (cG a.data.toList).1 (cG a.data.toList).2)):=by
 have h:=aB (IA a w i k);unfold wO at h;clear i;generalize cG a.data.toList=n at*;go_enter Tryz.func43,Tryz.ntmps43;go_wp2_with fail;refine h.out.mono ?_;rintro e m ⟨c,⟨d,v,_,rfl,_,_⟩|⟨d,rfl⟩⟩
 ·have g:=aB c;have f:=aB d;clear c d;go_wp2_with fail;go_end0;exact⟨g.out,av_ ⟨f.out,rfl⟩⟩
 ·have g:=aB c;have f:=aB d;clear c d;go_wp2_with fail;exact⟨rfl,g.out,as_ ⟨f.out,rfl⟩⟩
end Go.Proofs.YtblbkfdhjfppkaaGreatDoor
