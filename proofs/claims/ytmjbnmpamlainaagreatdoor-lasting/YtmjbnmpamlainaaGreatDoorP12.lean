/- Contracts of the program: an operation of two values. -/
import Derived.Test.YtmjbnmpamlainaaGreatDoorP11
set_option linter.defProp false
set_option maxRecDepth 100000
set_option maxHeartbeats 4000000
namespace Go.Proofs.YtmjbnmpamlainaaGreatDoor
open Hs
open _root_.Go.Proofs.Tryz
open Go.RowKit
def fC.ofQ{F:bX}{w w':aG}{r:aM × Nat}{e:Ending}(h:mE F w r e w'):fC F w r e w':=by
 obtain⟨rfl,⟨b,u,a,c⟩|⟨b,a⟩⟩:=h
 ·exact⟨co_ _ _,cl_ ⟨b,u,a,c.mono fun _ d=>cl_ d⟩⟩
 ·exact⟨co_ _ _,ck_ ⟨b,a⟩⟩
def R6{op:cD}(b:op≠[61,61])(a:op≠[33,61])(n m:Int):eZ op (bG n) (bG m)=kA op n m:=by
 unfold eZ;rw[if_neg b,if_neg a,if_neg (by simp[bG]),if_pos (by simp[bG])];rfl
def R5{op:cD}(i:op≠[61,61])(g:op≠[33,61])(a b:cD):eZ op (bO a) (bO b)=KD op a b:=by
 unfold eZ KD jZ;rw[if_neg i,if_neg g,if_neg (by simp[bO]),if_neg (by simp[bO])]
 by_cases c:op=[60]
 ·rw[if_neg (by rw[c];decide),if_pos ⟨rfl,c⟩,if_pos c];rfl
 by_cases d:op=[60,61]
 ·rw[if_neg (by rw[d];decide),if_neg (fun h=>c h.2),if_pos ⟨rfl,d⟩,if_neg c,if_pos d];rfl
 by_cases f:op=[43]
 ·rw[if_pos f,if_neg c,if_neg d,if_pos f];have e:(if (bO a).sort=3 then bA ((bO a).l++(bO b).l) else bO ((bO a).s++(bO b).s))=bO (a++b):=rfl
  simp only[e]
 ·rw[if_neg f,if_neg (fun h=>c h.2),if_neg (fun h=>d h.2),if_neg c,if_neg d,if_neg f]
def A4{op:cD}(f:op≠[61,61])(d:op≠[33,61])(a b:List aM):eZ op (bA a) (bA b)=yL op a b:=by
 unfold eZ yL jZ;rw[if_neg f,if_neg d,if_neg (by simp[bA]),if_neg (by simp[bA])]
 by_cases c:op=[43]
 ·rw[if_pos c,if_pos c];have e:(if (bA a).sort=3 then bA ((bA a).l++(bA b).l) else bO ((bA a).s++(bA b).s))=bA (a++b):=rfl
  simp only[e]
 ·rw[if_neg c,if_neg c,if_neg (by simp[bA]),if_neg (by simp[bA])]
def gV{op:cD}(d:op≠[61,61])(c:op≠[33,61]){a b:aM}(h:a.sort≠b.sort\/a.sort=1):eZ op a b=(bR,2):=by
 unfold eZ;rw[if_neg d,if_neg c,if_pos h]
def QP(op:cD)(F:bX)(u v:aQ)(a b:aM)(w:aG)(j:PV F w u a)(i:PV F w v b)(o:∀k,F k->k<w.heap.size)(d:aN a<=400000)(h:aN b<=400000):
 Calls prog 255 #[.string (bs op),u,v] w (fC F w (eZ op a b)):=by
 have q:=cE op;by_cases f:op=[61,61]
 ·have W:((bs op).toList==[61,61])=true:=by rw[q,f];rfl
  have G:Hid (eZ op a b=(bT (cO a b),0)):=by show _=_;unfold eZ;rw[if_pos f]
  have K:=aB (vA F 400000 u v a b w j i d (by omega) (by omega))
  obtain⟨t,z,rfl⟩:=j.form;obtain⟨Y,Z,rfl⟩:=i.form;clear j i q f;rw[G.out];generalize cO a b=s at*;go_in
  go_wp2_with fail;refine K.mono ?_;rintro e N ⟨rfl,rfl⟩;go_wp2
  go_ret;exact fC.ok (co_ _ _) rfl (PV.tru _ _ s)
 have W:((bs op).toList==[61,61])=false:=by rw[q];simpa using f
 by_cases g:op=[33,61]
 ·have e1:((bs op).toList==[33,61])=true:=by rw[q,g];rfl
  have G:Hid (eZ op a b=(bT (!cO a b),0)):=by show _=_;unfold eZ;rw[if_neg f,if_pos g]
  have K:=aB (vA F 400000 u v a b w j i d (by omega) (by omega))
  obtain⟨t,z,rfl⟩:=j.form;obtain⟨Y,Z,rfl⟩:=i.form;clear j i q f g;rw[G.out];generalize cO a b=s at*;go_in
  go_wp2_with fail;refine K.mono ?_;rintro e N ⟨rfl,rfl⟩;go_wp2
  go_ret;exact fC.ok (co_ _ _) rfl (PV.tru _ _ (!s))
 have e1:((bs op).toList==[33,61])=false:=by rw[q];simpa using g
 clear q;rcases j.cases with ⟨n,rfl,rfl,h1,X⟩|⟨s,rfl,rfl⟩|⟨s,rfl,rfl⟩|⟨x,c,l,rfl,rfl,V⟩
 ·have S:=mH;rcases i.cases with ⟨L,rfl,rfl,I,H⟩|⟨E,rfl,rfl⟩|⟨E,rfl,rfl⟩|⟨P,O,M,rfl,rfl,C⟩
  ·have p:=mH;rw[R6 f g];have K:=aB (E0 op F n L w h1 X I H);generalize kA op n L=r at*;clear j i o f g d h;go_in
   go_wp2_with fail;refine K.mono ?_;rintro e N ⟨rfl,⟨m,u1,rfl,A⟩|⟨m,rfl⟩⟩
   ·have G:=aB A;have D:=aB m;obtain⟨U,T,rfl⟩:=A.form;clear A m;go_wp2
    go_ret;exact fC.ofQ ⟨rfl,cl_ ⟨D,_,rfl,G⟩⟩
   ·have D:=aB m;clear m;go_wp2_with fail;exact⟨rfl,fC.ofQ ⟨rfl,ck_ ⟨D,rfl⟩⟩⟩
  ·have p:=lH;rw[gV f g (by simp[bG,bT])]
   clear j i o f g d h;go_in
   go_wp2_with fail;exact⟨rfl,fC.stop (co_ _ _) rfl (by decide)⟩
  ·have p:=mG;rw[gV f g (by simp[bG,bO])]
   clear j i o f g d h;go_in
   go_wp2_with fail;exact⟨rfl,fC.stop (co_ _ _) rfl (by decide)⟩
  ·have p:=lF;rw[gV f g (by simp[bG,bA])]
   clear j i o f g d h;go_in
   go_wp2_with fail;exact⟨rfl,fC.stop (co_ _ _) rfl (by decide)⟩
 ·have S:=lH;have y:=lG;have B:=iH;rcases i.cases with ⟨L,rfl,rfl,I,H⟩|⟨E,rfl,rfl⟩|⟨E,rfl,rfl⟩|⟨P,O,M,rfl,rfl,C⟩
  ·have p:=mH;rw[gV f g (by simp[bT,bG])]
   clear j i o f g d h;go_in
   go_wp2_with fail;exact⟨rfl,fC.stop (co_ _ _) rfl (by decide)⟩
  ·have p:=lH;rw[gV f g (by simp[bT])]
   clear j i o f g d h;go_in
   go_wp2_with fail;exact⟨rfl,fC.stop (co_ _ _) rfl (by decide)⟩
  ·have p:=mG;rw[gV f g (by simp[bT,bO])]
   clear j i o f g d h;go_in
   go_wp2_with fail;exact⟨rfl,fC.stop (co_ _ _) rfl (by decide)⟩
  ·have p:=lF;rw[gV f g (by simp[bT,bA])]
   clear j i o f g d h;go_in
   go_wp2_with fail;exact⟨rfl,fC.stop (co_ _ _) rfl (by decide)⟩
 ·have S:=mG;have y:=kZ;rcases i.cases with ⟨L,rfl,rfl,I,H⟩|⟨E,rfl,rfl⟩|⟨E,rfl,rfl⟩|⟨P,O,M,rfl,rfl,C⟩
  ·have p:=nU;rw[gV f g (by simp[bO,bG])]
   clear j i o f g d h;go_in
   go_wp2_with fail;exact⟨rfl,fC.stop (co_ _ _) rfl (by decide)⟩
  ·have p:=lG;rw[gV f g (by simp[bO,bT])]
   clear j i o f g d h;go_in
   go_wp2_with fail;exact⟨rfl,fC.stop (co_ _ _) rfl (by decide)⟩
  ·have p:=kZ;rw[R5 f g];rw[lO] at d h;have K:=aB (D7 op F s E w (by omega))
   generalize KD op s E=r at*;clear j i o f g d h;go_in
   go_wp2_with fail;refine K.mono ?_;rintro e N ⟨rfl,⟨m,u1,rfl,A⟩|⟨m,rfl⟩⟩
   ·have G:=aB A;have D:=aB m;obtain⟨U,T,rfl⟩:=A.form;clear A m;go_wp2
    go_ret;exact fC.ofQ ⟨rfl,cl_ ⟨D,_,rfl,G⟩⟩
   ·have D:=aB m;clear m;go_wp2_with fail;exact⟨rfl,fC.ofQ ⟨rfl,ck_ ⟨D,rfl⟩⟩⟩
  ·have p:=mX;rw[gV f g (by simp[bO,bA])]
   clear j i o f g d h;go_in
   go_wp2_with fail;exact⟨rfl,fC.stop (co_ _ _) rfl (by decide)⟩
 ·have S:=lF;have y:=mX;have B:=iG;rcases i.cases with ⟨L,rfl,rfl,I,H⟩|⟨E,rfl,rfl⟩|⟨E,rfl,rfl⟩|⟨P,O,M,rfl,rfl,C⟩
  ·have p:=jU;rw[gV f g (by simp[bA,bG])]
   clear j i o f g d h;go_in
   go_wp2_with fail;exact⟨rfl,fC.stop (co_ _ _) rfl (by decide)⟩
  ·have p:=iH;rw[gV f g (by simp[bA,bT])]
   clear j i o f g d h;go_in
   go_wp2_with fail;exact⟨rfl,fC.stop (co_ _ _) rfl (by decide)⟩
  ·have p:=lE;rw[gV f g (by simp[bA,bO])]
   clear j i o f g d h;go_in
   go_wp2_with fail;exact⟨rfl,fC.stop (co_ _ _) rfl (by decide)⟩
  ·have p:=iG;rw[A4 f g];have K:=aB (VN op F x P c O l M w V C o (by omega))
   generalize yL op l M=r at*;clear j i o f g d h V C;go_in
   go_wp2_with fail;refine K.mono ?_;rintro e N ⟨J,⟨m,u1,rfl,A⟩|⟨m,rfl⟩⟩
   ·have G:=aB A;have D:=aB m;have Q:=aB J;obtain⟨U,T,rfl⟩:=A.form;clear A m J;go_wp2
    go_ret;exact⟨Q,cl_ ⟨D,_,rfl,G⟩⟩
   ·have D:=aB m;have Q:=aB J;clear m J;go_wp2_with fail;exact⟨rfl,Q,ck_ ⟨D,rfl⟩⟩
structure Chg(gf:Nat)(row:Option Nat)(w w':aG):Prop where
 os:w'.os=w.os
 tape:w'.tape=w.tape
 output:w'.output=w.output
 size:w.heap.size<=w'.heap.size
 block:∀k,k<w.heap.size->k≠gf->some k≠row->w'.heap[k]?=w.heap[k]?
def ET(w:aG)(u:aQ):∀j v,([u]:List Value)[j]?=some v->(w.alloc (.cells #[u] 129)).cell? ((⟨w.heap.size,0,none⟩:Addr).add j)=some v:=by
 intro j v a;match j,a with
 |0,a=>simp at a;subst a;simp[Addr.add,go_sem]
 |j+1,a=>simp at a
def yI(t:TypeId)(z:aQ):∀u∈([.iface t z]:List Value),u.oneCell'=true:=by
 intro u a;simp at a;rw[a];rfl
def yN(base gf o n:Nat)(cur:Array Value)(s:aQ)(xs:List Value)(t:TypeId)(z:aQ)(w:aG)(u:w.heap[gf]?=some (.cells cur 108 (0,0)))(H:cur[o+5]?=some s)(d:w.ownsRow base 129 1 s n xs)(l:s.ownBlock≠some gf)(A:base<=w.heap.size)(V:n<=1000000):
 Calls prog 239 #[.pointer (some (aH gf o)),.iface t z] w fun e w'=>e=aZ (.tuple #[])/\∃j,w'.heap[gf]?=some (.cells (cur.setIfInBounds (o+5) j) 108 (0,0))/\w'.ownsRow base 129 1 j (n+1) (xs++[.iface t z])/\(∀k,j.ownBlock=some k->s.ownBlock=some k\/w.heap.size<=k)/\Chg gf s.ownBlock w w':=by
 obtain⟨O,S,v,B,D⟩:=info_parts oA;obtain⟨x,c,rfl⟩:=dE d;have G:=aC u;have U:=aA u H;have P:=aB d;have M:=aB u;have r:=aB l;clear d u l;go_in
 go_wp2_with (at_builtin;refine wpList_append_lies _ (by rfl) _ _ 106 (by rfl) base 129 O _ 1 16 underlying106 S v B D rfl (by decide) (.slice x n c) n xs (by rfl) (P.alloc _) (aH w.heap.size 0) 1 1 [.iface t z] (by rfl) (by rfl) (ET w _) (yI t z) (by decide) (by unfold maxLen;omega) (by omega) (by simp;omega) (w.heap.size+1) (by simp) ?_)
 intro C q J g b f L
 have a:J.heap[gf]?=some (.cells cur 108 (0,0)):=by
  rw[b.block gf (by simp;omega) (fun e=>r.out e.symm),cq_ _ _ _ G];exact M
 have Q:=aA a H;have T:=aD a (i:=o+5);have I:=aC a
 have F:C≠gf:=by
  rcases f with h|h
  ·exact fun e=>r (by rw[<-e];exact h)
  ·omega
 have HOWN:=aB g;have p:=aB b;have y:=aB f;have E:=aB a;clear g b f a;go_wp2
 go_end0;refine⟨rfl,.slice (some (aH C 0)) (n+1) q,aK E,?_,?_,?_⟩
 ·exact aW HOWN fun k m=>cm_ _ _ _ _ (by cases m;exact F)
 ·intro k m;cases m;rcases y with h|h
  ·exact cl_ h
  ·exact ck_ (by show w.heap.size<=C;omega)
 ·refine⟨p.os.trans rfl,p.tape.trans rfl,p.output.trans rfl,cw_ (by simp) (cw_ p.size (by simp)),fun k m N K=>?_⟩
  rw[cm_ _ _ _ _ N,p.out.block k (by simp;omega) K,cq_ _ _ _ m]
def RX(base gf o n:Nat)(cur:Array Value)(q:aQ)(xs:List Value)(u:aQ)(w:aG)(k:w.heap[gf]?=some (.cells cur 108 (0,0)))(v:cur[o+5]?=some q)(d:w.ownsRow base 129 1 q (n+1) (xs++[u]))(r:xs.length=n)(x:∃t z,u=.iface t z)(F:n<=1000000):
 Calls prog 65 #[.pointer (some (aH gf o))] w fun e w'=>e=aZ u/\∃h,w'=w.setCell (aH gf (o+5)) h/\w.ownsRow base 129 1 h n xs/\h.ownBlock=q.ownBlock:=by
 obtain⟨t,z,rfl⟩:=x;rcases d.2 with ⟨B,G⟩|⟨g,c,j,rfl,m,a,s,l,p,f⟩
 ·omega
 have A:=aC k;have E:=aA k v;have D:=aD k (i:=o+5);have y:=aC a
 have b:j[n]?=some (.iface t z):=by
  have:(xs++[Value.iface t z])[n]?=some (.iface t z):=by rw[<-r];simp
  rw[<-f,cM_,if_pos (by omega)] at this
  simpa using this
 have H:=aA a b
 have HOWN:Hid (w.ownsRow base 129 1 (.slice (some (aH g 0)) n c) n xs):=by
  refine⟨by rw[r];omega,ck_ ⟨g,c,j,rfl,m,a,by omega,l,p,?_⟩⟩
  have:=congrArg (List.take n) f;rw[dF_] at this;rw[show min n ((n+1)*1)=n by omega] at this
  rw[dW_,this,<-r];simp
 have I:(0:Int)<=n:=by omega
 have C:(n:Int)<(n:Int)+1:=by omega
 have J:(n:Int)<=c:=by omega
 clear d k v a f b;go_in
 go_wp2
 go_ret;exact⟨rfl,_,rfl,HOWN,rfl⟩
def oN(sb gf n a:Nat)(w:aG)(d:w.cell? (aH sb 1)=some (.slice (some (aH gf 0)) (n+1) a))(f:n<=1000):
 Calls prog 64 #[bH sb] w fun e w'=>e=aZ (.pointer (some (aH gf (n*6))))/\∃q,w'=w.drewN q:=by
 have b:(0:Int)<=(n:Int):=by omega
 have c:(n:Int)<(n:Int)+1:=by omega
 go_in
 go_wp2_with fail;go_quiet (fail)
 go_wp2
 go_ret;exact⟨rfl,_,rfl⟩
def L8(gf o fb g n b k:Nat)(cur:Array Value)(h u:aQ)(w:aG)(a:w.heap[gf]?=some (.cells cur 108 (0,0)))(d:cur[o]?=some (bH fb))(f:cur[o+1]?=some (Iv0 k))
 (c:w.heap[fb]?=some (.cells #[h,.slice (some (aH g 0)) n b] 136 (0,0))) (x:w.cell? (aH g k)=some u) (hi:∃t z,u=.iface t z) (m:k<n) (y:n<=1000000):
 Calls prog 98 #[.pointer (some (aH gf o))] w fun e w'=>e=aZ u/\∃q,w'=(w.drewN q).setCell (aH gf (o+1)) (Iv0 ((k+1:Nat):Int)):=by
 obtain⟨t,z,rfl⟩:=hi;have l:=aC a;have j:=aC c;have B:=aA a d;have v:=aA a f;have p:=aD a (i:=o+1);have r:=aA c (i:=1) rfl;have A:(0:Int)<=(k:Int):=by omega
 have s:(k:Int)<(n:Int):=by omega
 clear a c d f;go_in
 go_wp2_with fail;go_quiet (fail)
 go_wp2
 go_ret;exact⟨rfl,_,by congr 2⟩
def wR(base gf o n k:Nat)(cur:Array Value)(I:aQ)(xs r:List Value)(w:aG)(v:w.heap[gf]?=some (.cells cur 108 (0,0)))(G:cur[o+5]?=some I)(d:w.ownsRow base 129 1 I (n+k) (xs++r))(A:xs.length=n)(U:r.length=k)(S:∀u∈r,u.oneCell'=true)(hn:n+k<=1000000):
 Calls prog 245 #[.pointer (some (aH gf o)),Iv0 k] w fun e w'=>∃B t b,e=aZ B/\Below w.heap.size w b/\b.ownsRow w.heap.size 129 1 B k r/\w'=b.setCell (aH gf (o+5)) t/\w.ownsRow base 129 1 t n xs/\t.ownBlock=I.ownBlock:=by
 have K:=aC v;have c5:=aA v G;have f5:=aD v (i:=o+5);have e1:(0:Int)<=(n:Int):=by omega
 have Z:(n:Int)<=(n:Int)+(k:Int):=by omega
 rcases d.2 with ⟨rfl,r2⟩|⟨g,c,J,rfl,E,p,L,C,H,s⟩
 ·obtain⟨rfl,rfl⟩:n=0/\k=0:=by omega
  obtain rfl:=cF_ A;obtain rfl:=cF_ U;have F:=aB (tZ w);clear d v G;go_in
  go_wp2_with fail;refine F.mono ?_;rintro e b ⟨rfl,rfl⟩;go_wp2
  go_ret;exact⟨_,_,_,rfl,co_ _ _,World.ownsRow_nil _ _ _ _,rfl,World.ownsRow_nil _ _ _ _,rfl⟩
 ·have e3:(n:Int)<=(c:Int):=by omega
  have e4:(n:Int)+(k:Int)<=(c:Int):=by omega
  have X:((n+k:Nat):Int)-(k:Int)=(n:Int):=by omega
  have F:Hid (∀f q,f=n\/k=0->Calls prog 122 #[.slice (some (aH g f)) k q] w fun e w'=>∃y x,e=aZ (.slice y k x)/\w'.ownsRow w.heap.size 129 1 (.slice y k x) k r/\Below w.heap.size w w'):=fun f q z=>by
   refine(uA g f k q r w (by omega) (by omega) (fun j u N=>?_) S).mono ?_
   ·have P:j<r.length:=(cQ_.1 N).1;rcases z with rfl|Y
    ·refine aA p ?_;have M:(xs++r)[f+j]?=some u:=by rw[cN_ (by omega),A,di_];exact N
     rw[<-s,cM_,if_pos (by omega)] at M
     simpa using M
    ·omega
   ·rintro e b ⟨B,rfl,l,m⟩;obtain⟨y,x,rfl⟩:=dE l;exact⟨y,x,rfl,l,m⟩
  have HOWN:Hid (∀q,q=c->w.ownsRow base 129 1 (.slice (some (aH g 0)) n q) n xs):=by
   rintro q rfl;refine⟨by rw[A];omega,ck_ ⟨g,q,J,rfl,E,p,by omega,C,H,?_⟩⟩
   have:=congrArg (List.take n) s;rw[dF_] at this;rw[show min n ((n+k)*1)=n by omega] at this
   rw[dW_,this,<-A];simp
  have Q:Hid (∀b,Below w.heap.size w b->b.heap[gf]?=some (.cells cur 108 (0,0))):=fun b h=>by rw[h.block gf K];exact v
  clear d v p s;go_in
  go_wp2_with fail
  all_goals
   refine(F _ _ (by omega)).mono ?_
   rintro e b ⟨y,x,rfl,l,m⟩;have a:=Q b m;have O:=aC a;have V:=aA a G;have W:=aD a (i:=o+5);have T:=aB l;have D:=aB m;clear l m a;go_wp2
   go_ret;exact⟨_,_,b,rfl,D,T,rfl,HOWN _ (by first|rfl|omega),rfl⟩
def eF(F:bX)(w:aG):Value->cN->Prop
 |v,[]=>v=.pointer none
 |v,x::l=>∃b o,v=bH b/\F b/\w.heap[b]?=some (.cells #[.string (bs x),Iv0 l.length,o] 124 (0,0))/\eF F w o l
def eF.keep{F G:bX}{w w':aG}(a:∀b,F b->w'.heap[b]?=w.heap[b]?)(d:∀b,F b->G b):∀{l:cN} {v:aQ},eF F w v l->eF G w' v l
 |[],_,h=>h
 |_::_,_,⟨b,o,f,c,g,e⟩=>⟨b,o,f,d b c,by rw[a b c];exact g,eF.keep a d e⟩
def eF.form{F:bX}{w:aG}{l:cN}{v:aQ}(h:eF F w v l):∃p,v=.pointer p:=by
 cases l with
 |nil=>exact⟨none,h⟩
 |cons x l=>obtain⟨b,o,a,_⟩:=h;exact⟨_,a⟩
def lQ(fp:eQ)(F:bX)(w:aG)(v:aQ):aI->Prop
 |.begin l s=>∃sp,v=.iface 233 (.agg #[Iv0 l,sp])/\eF F w sp s
 |.push a=>∃u,v=.iface 229 (.agg #[u])/\PV F w u a/\aN a<=200
 |.load k=>v=.iface 249 (.agg #[Iv0 k])
 |.declare k=>v=.iface 309 (.agg #[Iv0 k])
 |.assign k n=>v=.iface 311 (.agg #[Iv0 k,Iv0 n])
 |.jump t=>v=.iface 328 (.agg #[Iv0 t])
 |.skip t=>v=.iface 327 (.agg #[Iv0 t])
 |.shortcut b t=>v=.iface 277 (.agg #[.bool b,Iv0 t])
 |.truth=>v=.iface 275 (.agg #[])
 |.unary op=>v=.iface 254 (.agg #[.string (bs op)])
 |.binary op=>v=.iface 274 (.agg #[.string (bs op)])
 |.index=>v=.iface 252 (.agg #[])
 |.list n=>v=.iface 251 (.agg #[Iv0 n])
 |.length=>v=.iface 278 (.agg #[])
 |.read=>v=.iface 279 (.agg #[])
 |.call k n=>v=.iface 281 (.agg #[fp k,Iv0 n])
 |.give=>v=.iface 231 (.agg #[])
 |.drop=>v=.iface 315 (.agg #[])
 |.print=>v=.iface 314 (.agg #[])
def lQ.keep{fp:eQ}{F G:bX}{w w':aG}{v:aQ}{i:aI}(h:lQ fp F w v i)(d:∀b,F b->w'.heap[b]?=w.heap[b]?)(e:∀b,F b->G b):lQ fp G w' v i:=by
 cases i<;>first
  |exact h
  |(obtain⟨f,c,a⟩:=h;exact⟨f,c,eF.keep d e a⟩)
  |(obtain⟨u,c,a,g⟩:=h;exact⟨u,c,(a.keep d).mono e,g⟩)
def lQ.form{fp:eQ}{F:bX}{w:aG}{v:aQ}{i:aI}(h:lQ fp F w v i):∃t z,v=.iface t z:=by
 cases i<;>first
  |exact⟨_,_,h⟩
  |(obtain⟨b,a,c⟩:=h;exact⟨_,_,a⟩)
def YL(fp:eQ)(F:bX)(w:aG)(v:aQ)(f:eU):Prop:=
 ∃fb gc cap cur,v=bH fb/\F fb/\w.heap[fb]?=some (.cells #[.string (bs f.name),.slice (some (aH gc 0)) f.code.length cap] 136 (0,0))/\F gc/\w.heap[gc]?=some (.cells cur 206 (0,0))/\
  ∀i (h:i<f.code.length),∃u,cur[i]?=some u/\lQ fp F w u f.code[i]
def YL.keep{fp:eQ}{F G:bX}{w w':aG}{v:aQ}{f:eU}(h:YL fp F w v f)(a:∀b,F b->w'.heap[b]?=w.heap[b]?)(d:∀b,F b->G b):YL fp G w' v f:=by
 obtain⟨p,n,c,e,k,g,o,j,l,r⟩:=h;refine⟨p,n,c,e,k,d _ g,by rw[a _ g];exact o,d _ j,by rw[a _ j];exact l,fun i q=>?_⟩
 obtain⟨u,s,m⟩:=r i q;exact⟨u,s,m.keep a d⟩
def mC(fp:eQ)(F:bX)(w:aG)(tab:List eU):Prop:=∀k f,tab[k]?=some f->YL fp F w (fp k) f
def mC.keep{fp:eQ}{F G:bX}{w w':aG}{a:List eU}(h:mC fp F w a)(c:∀b,F b->w'.heap[b]?=w.heap[b]?)(e:∀b,F b->G b):mC fp G w' a:=fun k f d=>(h k f d).keep c e
structure FVal where
 fp:Value
 nx:Value
 ln:Value
 sp:Value
 vv:Value
 ov:Value
def FVal.cells(f:FVal):List Value:=[f.fp,f.nx,f.ln,f.sp,f.vv,f.ov]
def gU:List FVal->List Value
 |[]=>[]
 |f::l=>f.cells++gU l
def kJ(l m:List FVal):gU (l++m)=gU l++gU m:=by
 induction l with
 |nil=>rfl
 |cons f l a=>simp[gU,a]
def eM(l:List FVal):(gU l).length=l.length*6:=by
 induction l with
 |nil=>rfl
 |cons f l a=>simp[gU,FVal.cells,a];omega
def FVal.ownX(sh:Bool)(f:FVal):List Nat:=(cond sh [] f.vv.ownBlock.toList)++f.ov.ownBlock.toList
def lC(F:bX)(base:Nat)(w:aG)(v:aQ)(l:List aM):Prop:=(∃xs,w.ownsRow base 129 1 v l.length xs/\gQ F w xs l)/\∀a∈l,aN a<=200
def lC.keep{F G:bX}{base:Nat}{w w':aG}{v:aQ}{l:List aM}(h:lC F base w v l)(a:∀b,F b->w'.heap[b]?=w.heap[b]?)(i:∀b,F b->G b)(c:∀k,v.ownBlock=some k->w'.heap[k]?=w.heap[k]?):lC G base w' v l:=by
 obtain⟨⟨f,e,d⟩,g⟩:=h;exact⟨⟨f,aW e c,(d.keep a).mono i⟩,g⟩
def P5(sh:Bool)(F:bX)(base:Nat)(w:aG)(v:aQ)(l:List aM):Prop:=cond sh (PVs F w v l/\∀a∈l,aN a<=200) (lC F base w v l)
def P5.keep{a:Bool}{F G:bX}{base:Nat}{w w':aG}{v:aQ}{l:List aM}(h:P5 a F base w v l)(c:∀b,F b->w'.heap[b]?=w.heap[b]?)(d:∀b,F b->G b)(e:a=false->∀k,v.ownBlock=some k->w'.heap[k]?=w.heap[k]?):P5 a G base w' v l:=by
 cases a
 ·exact lC.keep h c d (e rfl)
 ·exact⟨(PVs.keep h.1 c).mono d,h.2⟩
structure OP(sh:Bool)(fp:eQ)(F:bX)(base:Nat)(w:aG)(v:FVal)(f:aJ):Prop where
 fn:YL fp F w v.fp f.fn
 nx:v.nx=Iv0 f.next
 ln:v.ln=Iv0 f.line
 sp:eF F w v.sp f.seen
 vars:P5 sh F base w v.vv f.vars
 ops:lC F base w v.ov f.ops
def OP.keep{d:Bool}{fp:eQ}{F G:bX}{base:Nat}{w w':aG}{v:FVal}{f:aJ}(h:OP d fp F base w v f)(a:∀b,F b->w'.heap[b]?=w.heap[b]?)(c:∀b,F b->G b)(g:∀k∈(v.ownX d),w'.heap[k]?=w.heap[k]?):OP d fp G base w' v f:=
 ⟨h.fn.keep a c,h.nx,h.ln,eF.keep a c h.sp,h.vars.keep a c (fun i k e=>g k (by simp[FVal.ownX,i,e])),h.ops.keep a c fun k e=>g k (by simp[FVal.ownX,e])⟩
def jQ(sh:Bool)(fp:eQ)(F:bX)(base:Nat)(w:aG):List FVal->List aJ->Prop
 |[],[]=>True
 |v::vs,f::fs=>OP sh fp F base w v f/\jQ sh fp F base w vs fs
 |_,_=>False
def jQ.keep{a:Bool}{fp:eQ}{F G:bX}{base:Nat}{w w':aG}(c:∀b,F b->w'.heap[b]?=w.heap[b]?)(d:∀b,F b->G b):∀{vs:List FVal} {fs:List aJ},jQ a fp F base w vs fs->(∀v∈vs,∀k∈(v.ownX a),w'.heap[k]?=w.heap[k]?)->jQ a fp G base w' vs fs
 |[],[],_,_=>trivial
 |v::_,_::_,⟨g,f⟩,e=>⟨g.keep c d (e v (cJ_ ..)),jQ.keep c d f fun u i=>e u (cx_ _ i)⟩
 |[],_::_,h,_=>h.elim
 |_::_,[],h,_=>h.elim
def jQ.length{a:Bool}{fp:eQ}{F:bX}{base:Nat}{w:aG}:∀{vs:List FVal} {fs:List aJ},jQ a fp F base w vs fs->vs.length=fs.length
 |[],[],_=>rfl
 |_::_,_::_,⟨_,h⟩=>by simp[jQ.length h]
 |[],_::_,h=>h.elim
 |_::_,[],h=>h.elim
def jQ.snoc{a:Bool}{fp:eQ}{F:bX}{base:Nat}{w:aG}{v:FVal}{f:aJ}:∀{vs:List FVal} {fs:List aJ},jQ a fp F base w vs fs->OP a fp F base w v f->jQ a fp F base w (vs++[v]) (fs++[f])
 |[],[],_,h=>⟨h,trivial⟩
 |_::_,_::_,⟨c,b⟩,h=>⟨c,jQ.snoc b h⟩
 |[],_::_,h,_=>h.elim
 |_::_,[],h,_=>h.elim
def jQ.unsnoc{c:Bool}{fp:eQ}{F:bX}{base:Nat}{w:aG}{f:aJ}:∀{vs:List FVal} {fs:List aJ},jQ c fp F base w vs (fs++[f])->∃a v,vs=a++[v]/\jQ c fp F base w a fs/\OP c fp F base w v f
 |[],[],h=>h.elim
 |[v],[],⟨b,d⟩=>⟨[],v,rfl,trivial,b⟩
 |_::_::_,[],⟨_,h⟩=>h.elim
 |v::vs,g::fs,⟨b,d⟩=>by
  obtain⟨a,u,e,j,i⟩:=jQ.unsnoc (vs:=vs) (fs:=fs) d;exact⟨v::a,u,by rw[e];rfl,⟨b,j⟩,i⟩
 |[],_::_,h=>h.elim
def cA(sh:Bool)(l:List FVal):List Nat:=l.flatMap (FVal.ownX sh)
def aR(sh:Bool)(sb gf:Nat)(outv:aQ)(fvs:List FVal):List Nat:=sb::gf::(outv.ownBlock.toList++cA sh fvs)
def mZ(l:cN):List Value:=l.map fun x=>Value.string (bs x)
def sW(F:bX)(w:aG)(v:aQ)(l:List Int):Prop:=
 (l=[]/\∃x c,v=.slice x 0 c)\/∃g o c,v=.slice (some (aH g o)) l.length c/\l.length<=c/\F g/\∀i (h:i<l.length),w.cell? (aH g (o+i))=some (Iv0 l[i])/\ -9223372036854775808<=l[i]/\l[i]<=9223372036854775807
def sW.keep{F G:bX}{w w':aG}{v:aQ}{l:List Int}(h:sW F w v l)(j:∀b,F b->w'.heap[b]?=w.heap[b]?)(m:∀b,F b->G b):sW G w' v l:=by
 rcases h with h|⟨g,o,c,k,f,d,a⟩
 ·exact cl_ h
 ·exact ck_ ⟨g,o,c,k,f,m g d,fun i e=>⟨by rw[World.cell?_of_block (j g d)];exact(a i e).1,(a i e).2⟩⟩
structure dA(sh:Bool)(fp:eQ)(F:bX)(base:Nat)(w:aG)(sb gf cap:Nat)(t0 tv outv s0:aQ)(fvs:List FVal)(m:cR):Prop where
 blk:w.heap[sb]?=some (.cells #[t0,.slice (some (aH gf 0)) fvs.length cap,tv,outv,s0] 49 (0,0))
 row:w.ownsRow base 108 6 (.slice (some (aH gf 0)) fvs.length cap) fvs.length (gU fvs)
 frs:jQ sh fp F base w fvs m.frames
 tape:sW F w tv m.tape
 out:w.ownsRow base 9 1 outv m.out.length (mZ m.out)
 nodup:(aR sh sb gf outv fvs).Nodup
 lt:∀k∈aR sh sb gf outv fvs,k<w.heap.size
 apart:∀k,F k->k<w.heap.size/\k∉aR sh sb gf outv fvs
def dA.step{m:Bool}{fp:eQ}{F G:bX}{base:Nat}{w w':aG}{sb gf A:Nat}{t0 X i Y:aQ}{fb:List FVal}{v v':FVal}{q:List aJ}{f f':aJ}{z:List Int}{I:cN}
 (h:dA m fp F base w sb gf A t0 X i Y (fb++[v]) ⟨q++[f],z,I⟩) (K:w.heap.size<=w'.heap.size) (O:∀k,k<w.heap.size->k≠gf->k∉(v.ownX m)->w'.heap[k]?=w.heap[k]?)
 (M:w'.ownsRow base 108 6 (.slice (some (aH gf 0)) (fb.length+1) A) (fb.length+1) (gU (fb++[v'])))
 (P:OP m fp G base w' v' f') (T:∀k∈(v'.ownX m),k<w'.heap.size/\(k∈(v.ownX m)\/w.heap.size<=k)) (V:(v'.ownX m).Nodup)
 (hF:∀k,F k->G k) (hG:∀k,G k->F k\/(w.heap.size<=k/\k<w'.heap.size/\k∉(v'.ownX m))):
 dA m fp G base w' sb gf A t0 X i Y (fb++[v']) ⟨q++[f'],z,I⟩:=by
 have J:(fb++[v']).length=(fb++[v]).length:=by simp
 have B:(fb++[v']).length=fb.length+1:=by simp
 have j:∀u:FVal,aR m sb gf i (fb++[u])=(sb::gf::(i.ownBlock.toList++cA m fb))++(u.ownX m):=fun u=>by simp[aR,cA]
 have p:=h.nodup;have r:=h.lt;have n:=h.apart;rw[j] at p r n;generalize c:(sb::gf::(i.ownBlock.toList++cA m fb))=o at p r n j;obtain⟨l,aa,S⟩:=c5_.1 p;have g:∀k∈o,k<w.heap.size/\k∉(v.ownX m):=fun k d=>⟨r k (cC_ _ d),fun W=>S k d k W rfl⟩
 have y:sb∈o:=by rw[<-c];simp
 have E:gf∈o:=by rw[<-c];simp
 have U:sb≠gf:=by
  rw[<-c] at l;have:=(cB_.1 l).1;intro e;exact this (by simp[e])
 have N:∀b,F b->w'.heap[b]?=w.heap[b]?:=fun b Q=>by
  obtain⟨x,D⟩:=n b Q;exact O b x (fun e=>D (cC_ _ (by rw[e];exact E))) fun W=>D (cI_ _ W)
 have t:∀u∈fb,∀k∈(u.ownX m),k∈o/\k≠gf:=fun u L k d=>by
  have H:k∈cA m fb:=de_.2 ⟨u,L,d⟩;refine⟨by rw[<-c];simp[H],?_⟩
  rw[<-c] at l;have:=(cB_.1 (cB_.1 l).2).1;intro e;exact this (by rw[<-e];simp[H])
 have C:∀k,i.ownBlock=some k->k∈o/\k≠gf:=fun k d=>by
  refine⟨by rw[<-c];simp[d],?_⟩
  rw[<-c] at l;have:=(cB_.1 (cB_.1 l).2).1;intro e;exact this (by rw[<-e];simp[d])
 refine⟨?_,by rw[B];exact M,?_,h.tape.keep N hF,aW h.out fun k d=>?_,?_,?_,?_⟩
 ·rw[J,O sb (g sb y).1 U (g sb y).2];exact h.blk
 ·obtain⟨ab,u,e,k1,k2⟩:=jQ.unsnoc h.frs;obtain⟨rfl,e2⟩:=db_ e rfl;exact(k1.keep N hF fun u L k d=>O k (g k (t u L k d).1).1 (t u L k d).2 (g k (t u L k d).1).2).snoc P
 ·obtain⟨x,D⟩:=C k d;exact O k (g k x).1 D (g k x).2
 ·rw[j];refine c5_.2 ⟨l,V,fun a ha b Q e=>?_⟩
  subst e;rcases(T a Q).2 with x|x
  ·exact(g a ha).2 x
  ·have:=(g a ha).1;omega
 ·intro k d;rw[j] at d;rcases cu_.1 d with d|d
  ·exact cn_ (g k d).1 K
  ·exact(T k d).1
 ·intro k d;rw[j];rcases hG k d with x|⟨x,D,h3⟩
  ·obtain⟨h4,Z⟩:=n k x;refine⟨cn_ h4 K,fun s=>?_⟩
   rcases cu_.1 s with s|s
   ·exact Z (cC_ _ s)
   ·rcases(T k s).2 with h6|h6
    ·exact Z (cI_ _ h6)
    ·omega
  ·refine⟨D,fun s=>?_⟩
   rcases cu_.1 s with s|s
   ·have:=(g k s).1;omega
   ·exact h3 s
structure Kept(own:List Nat)(w w':aG):Prop where
 os:w'.os=w.os
 tape:w'.tape=w.tape
 output:w'.output=w.output
 size:w.heap.size<=w'.heap.size
 block:∀k,k<w.heap.size->k∉own->w'.heap[k]?=w.heap[k]?
structure Ext(F G:bX)(n:Nat):Prop where
 sub:∀k,F k->G k
 new:∀k,G k->F k\/n<=k
def Ext.refl(F:bX)(n:Nat):Ext F F n:=⟨fun _ h=>h,fun _ h=>cl_ h⟩
def Ext.trans{F G H:bX}{n m:Nat}(h:Ext F G n)(k:Ext G H m)(c:n<=m):Ext F H n:=⟨fun x b=>k.sub x (h.sub x b),fun x b=>by
 rcases k.new x b with a|a
 ·exact h.new x a
 ·exact ck_ (cw_ c a)⟩
def Ext.le{F G:bX}{n m:Nat}(h:Ext F G n)(b:m<=n):Ext F G m:=⟨h.sub,fun x a=>(h.new x a).imp_right (cw_ b)⟩
def gB(sh:Bool)(fp:eQ)(F:bX)(base sb gf:Nat)(t0 s0:aQ)(own:List Nat)(w:aG)(m:cR)(w':aG):Prop:=
 Kept own w w'/\∃G cap tv outv fvs,Ext F G w.heap.size/\dA sh fp G base w' sb gf cap t0 tv outv s0 fvs m/\∀k∈aR sh sb gf outv fvs,k∈own\/w.heap.size<=k
def Done(fp:eQ)(F:bX)(base:Nat)(sb:Nat)(t0 s0:aQ)(own:List Nat)(w:aG)(m:cR)(w':aG):Prop:=
 Kept own w w'/\∃G gf cap tv outv fvs,Ext F G w.heap.size/\dA false fp G base w' sb gf cap t0 tv outv s0 fvs m/\∀k∈aR false sb gf outv fvs,k∈own\/w.heap.size<=k
def gB.done{fp:eQ}{F:bX}{base sb gf:Nat}{b a:aQ}{own:List Nat}{w:aG}{m:cR}{w':aG}(h:gB false fp F base sb gf b a own w m w'):Done fp F base sb b a own w m w':=by
 obtain⟨d,G,c⟩:=h;exact⟨d,G,gf,c⟩
def wJ{w:aG}{base gf b j:Nat}{fb:List FVal}{v:FVal}{x:aQ}(h:w.ownsRow base 108 6 (.slice (some (aH gf 0)) (fb.length+1) b) (fb.length+1) (gU (fb++[v])))(z:j<6):
 ∃a,w.heap[gf]?=some (.cells a 108 (0,0))/\(∀i,i<6->a[fb.length*6+i]?=v.cells[i]?)/\
  ∀W:aG,W.heap[gf]?=some (.cells (a.setIfInBounds (fb.length*6+j) x) 108 (0,0))->∀d:FVal,d.cells=v.cells.set j x->W.ownsRow base 108 6 (.slice (some (aH gf 0)) (fb.length+1) b) (fb.length+1) (gU (fb++[d])):=by
 rcases h.2 with ⟨e,_⟩|⟨t,g,a,e,r,n,l,p,k,m⟩
 ·cases e
 cases e;have c:∀u:FVal,gU (fb++[u])=gU fb++u.cells:=fun u=>by rw[kJ];simp[gU]
 have s:∀u:FVal,u.cells.length=6:=fun _=>rfl
 have q:(fb.length+1)*6<=a.size:=by rw[k];exact Nat.mul_le_mul_right _ l
 refine⟨a,n,fun i y=>?_,fun W o d f=>?_⟩
 ·have:(gU (fb++[v]))[fb.length*6+i]?=v.cells[i]?:=by
   rw[c,cN_ (by rw[eM];omega),eM,di_]
  rw[<-m,cM_,if_pos (by omega)] at this
  simpa using this
 ·refine⟨by rw[eM];simp,ck_ ⟨gf,b,_,rfl,r,o,l,p,by simpa using k,?_⟩⟩
  rw[dr_,dY_,m,c,c,f,List.set_append_right _ _ (by rw[eM];omega),eM,di_]
def Kept.refl(own:List Nat)(w:aG):Kept own w w:=⟨rfl,rfl,rfl,cL,fun _ _ _=>rfl⟩
def Kept.trans{own d:List Nat}{a b c:aG}(h:Kept own a b)(k:Kept d b c)(j:∀x∈d,x∈own\/a.heap.size<=x):Kept own a c:=
 ⟨k.os.trans h.os,k.tape.trans h.tape,k.output.trans h.output,cw_ h.size k.size,fun x f g=>by
   rw[k.block x (cn_ f h.size) (fun i=>by rcases j x i with e|e;·exact g e
                                          ·omega),h.block x f g]⟩
def Kept.of_below{own:List Nat}{w w':aG}(h:Below w.heap.size w w'):Kept own w w':=⟨h.os,h.tape,h.output,h.size,fun k a _=>h.block k a⟩
def dA.grow{j:Bool}{fp:eQ}{F G:bX}{base:Nat}{w w':aG}{sb gf f:Nat}{r o c p:aQ}{e:List FVal}{m:cR}(h:dA j fp F base w sb gf f r o c p e m)(i:Below w.heap.size w w')(q:∀k,F k->G k)(t:∀k,G k->F k\/(w.heap.size<=k/\k<w'.heap.size)):dA j fp G base w' sb gf f r o c p e m:=by
 have g:∀b,F b->w'.heap[b]?=w.heap[b]?:=fun b n=>i.block b (h.apart b n).1
 have d:∀k,k∈aR j sb gf c e->w'.heap[k]?=w.heap[k]?:=fun k a=>i.block k (h.lt k a)
 refine⟨by rw[d sb (by simp[aR])];exact h.blk,aW h.row fun k a=>?_,h.frs.keep g q fun v x k a=>d k ?_,h.tape.keep g q,aW h.out fun k a=>d k (by simp[aR,a]),h.nodup,fun k a=>cn_ (h.lt k a) i.size,fun k a=>?_⟩
 ·cases a;exact d gf (by simp[aR])
 ·have:k∈cA j e:=de_.2 ⟨v,x,a⟩;simp[aR,this]
 ·rcases t k a with l|⟨l,s⟩
  ·exact⟨cn_ (h.apart k l).1 i.size,(h.apart k l).2⟩
  ·exact⟨s,fun u=>by have:=h.lt k u;omega⟩
def dA.pushed{g:Bool}{fp:eQ}{F:bX}{base:Nat}{w w':aG}{sb gf K:Nat}{Y U d V:aQ}{fb:List FVal}{v:FVal}{p:List aJ}{f:aJ}{A:List Int}{J:cN}{cur:Array Value}{c u:aQ}{a:aM}{xs:List Value}
 (h:dA g fp F base w sb gf K Y U d V (fb++[v]) ⟨p++[f],A,J⟩) (L:w.heap[gf]?=some (.cells cur 108 (0,0)))
 (P:gQ F w xs f.ops) (hu:PV F w u a) (O:aN a<=200)
 (p1:w'.heap[gf]?=some (.cells (cur.setIfInBounds (fb.length*6+5) c) 108 (0,0))) (T:w'.ownsRow base 129 1 c (f.ops.length+1) (xs++[u])) (S:∀k,c.ownBlock=some k->v.ov.ownBlock=some k\/w.heap.size<=k) (r:Chg gf v.ov.ownBlock w w'):
 dA g fp F base w' sb gf K Y U d V (fb++[{ v with ov:=c }]) ⟨p++[f.push a],A,J⟩/\Kept (aR g sb gf d (fb++[v])) w w':=by
 obtain⟨ab,v0,e,aa,I⟩:=jQ.unsnoc h.frs;obtain⟨rfl,e2⟩:=db_ e rfl;cases e2;have B:=h.row;rw[show (fb++[v]).length=fb.length+1 by simp] at B
 obtain⟨M,X,_,c3⟩:=wJ (j:=5) (x:=c) B (by omega)
 obtain rfl:M=cur:=by rw[L] at X;cases X;rfl
 have E:∀k∈(v.ownX g),k∈aR g sb gf d (fb++[v]):=fun k l=>by simp[aR,cA,l]
 have Q:gf∉(v.ownX g):=fun H=>by
  have:=(cB_.1 (cB_.1 h.nodup).2).1;exact this (by simp[cA,H])
 have C:(v.ownX g).Nodup:=by
  have m:=h.nodup;have:aR g sb gf d (fb++[v])=(sb::gf::(d.ownBlock.toList++cA g fb))++(v.ownX g):=by simp[aR,cA]
  rw[this] at m;exact(c5_.1 m).2.1
 have q:∀b,F b->w'.heap[b]?=w.heap[b]?:=fun b D=>by
  obtain⟨m,t⟩:=h.apart b D;exact r.block b m (fun e=>t (by simp[aR,e])) (fun e=>t (E b (by simp[FVal.ownX,<-e])))
 have z:∀k,k<w.heap.size->k≠gf->k∉(v.ownX g)->w'.heap[k]?=w.heap[k]?:=fun k m t N=>r.block k m t fun e=>N (by simp[FVal.ownX,<-e])
 have n:∀k,g=false->v.vv.ownBlock=some k->k<w.heap.size/\k≠gf/\v.ov.ownBlock≠some k:=fun k s l=>by
  have H:k∈(v.ownX g):=by simp[FVal.ownX,s,l]
  refine⟨h.lt k (E k H),fun e=>Q (by rw[<-e];exact H),fun e=>?_⟩
  unfold FVal.ownX at C;rw[l,e,s] at C;simp at C
 refine⟨h.step (G:=F) r.size z (c3 w' p1 _ rfl) ?_ ?_ ?_ dX (fun _ h=>cl_ h),?_⟩
 ·refine⟨I.fn.keep q dX,I.nx,I.ln,eF.keep q dX I.sp,I.vars.keep q dX fun s k l=>?_,⟨xs++[u],?_,?_⟩,?_⟩
  ·obtain⟨m,t,N⟩:=n k s l;exact r.block k m t (fun e=>N e.symm)
  ·show w'.ownsRow base 129 1 c (f.ops++[a]).length _
   rw[cp_];exact T
  ·exact(P.keep q).append ⟨rfl,fun i hi=>by
    obtain rfl:i=0:=by simpa using hi
    exact⟨u,rfl,hu.keep q⟩⟩
  ·intro b D;rcases cu_.1 D with D|D
   ·exact I.ops.2 b D
   ·rw[cs_.1 D];exact O
 ·intro k l;rcases cu_.1 l with l|l
  ·obtain⟨s,o⟩:g=false/\v.vv.ownBlock=some k:=by
    cases g
    ·exact⟨rfl,by simpa using l⟩
    ·cases l
   exact⟨cn_ (n k s o).1 r.size,cl_ (by simp[FVal.ownX,s,o])⟩
  ·have o:c.ownBlock=some k:=by simpa using l
   refine⟨cP T k o,?_⟩;rcases S k o with m|m
   ·exact cl_ (by simp[FVal.ownX,m])
   ·exact ck_ m
 ·show ((cond g [] v.vv.ownBlock.toList)++c.ownBlock.toList).Nodup
  refine c5_.2 ⟨by cases g<;>cases v.vv.ownBlock<;>simp,by cases c.ownBlock<;>simp,fun x Z y hy e=>?_⟩
  subst e
  obtain⟨s,m⟩:g=false/\v.vv.ownBlock=some x:=by
   cases g
   ·exact⟨rfl,by simpa using Z⟩
   ·cases Z
  have t:c.ownBlock=some x:=by simpa using hy
  obtain⟨N,_,h4⟩:=n x s m;rcases S x t with W|W
  ·exact h4 W
  ·omega
 ·exact⟨r.os,r.tape,r.output,r.size,fun k l hn=>z k l (fun e=>hn (by simp[aR,e])) fun H=>hn (E k H)⟩
structure aV(w w':aG):Prop where
 os:w'.os=w.os
 tape:w'.tape=w.tape
 output:w'.output=w.output
 heap:w'.heap=w.heap
def aV.refl(w:aG):aV w w:=⟨rfl,rfl,rfl,rfl⟩
def aV.drewN(w:aG)(n:Nat):aV w (w.drewN n):=⟨rfl,rfl,rfl,rfl⟩
def aV.drew(w:aG):aV w w.drew:=⟨rfl,rfl,rfl,rfl⟩
def aV.trans{a b c:aG}(h:aV a b)(k:aV b c):aV a c:=⟨k.os.trans h.os,k.tape.trans h.tape,k.output.trans h.output,k.heap.trans h.heap⟩
def aV.below{w w':aG}(h:aV w w'):Below w.heap.size w w':=⟨h.os,h.tape,h.output,by rw[h.heap];exact cy_ _,fun k _=>by rw[h.heap]⟩
def dA.top{r:Bool}{fp:eQ}{F:bX}{base:Nat}{w:aG}{sb gf e:Nat}{u s i t:aQ}{m:List FVal}{c:List aJ}{f:aJ}{n:List Int}{p:cN}(h:dA r fp F base w sb gf e u s i t m ⟨c++[f],n,p⟩):
 ∃b v a,m=b++[v]/\b.length=c.length/\OP r fp F base w v f/\w.heap[sb]?=some (.cells #[u,.slice (some (aH gf 0)) (b.length+1) e,s,i,t] 49 (0,0))/\w.heap[gf]?=some (.cells a 108 (0,0))/\b.length+1<=e/\
  a[b.length*6]?=some v.fp/\a[b.length*6+1]?=some v.nx/\a[b.length*6+2]?=some v.ln/\a[b.length*6+3]?=some v.sp/\a[b.length*6+4]?=some v.vv/\a[b.length*6+5]?=some v.ov:=by
 obtain⟨b,v,rfl,A,y⟩:=jQ.unsnoc h.frs;have d:=h.row;have g:=h.blk;rw[show (b++[v]).length=b.length+1 by simp] at d g
 obtain⟨a,B,k,_⟩:=wJ (j:=0) (x:=undef) d (by omega)
 have l:b.length+1<=e:=by
  rcases d.2 with ⟨o,_⟩|⟨D,q,a,o,E,C,z,_⟩
  ·cases o
  ·cases o;exact z
 exact⟨b,v,a,rfl,A.length,y,g,B,l,k 0 (by omega),k 1 (by omega),k 2 (by omega),k 3 (by omega),k 4 (by omega),k 5 (by omega)⟩
def cM{w W:aG}(h:W.heap=w.heap){a:Addr}{v:aQ}(b:w.cell? a=some v):W.cell? a=some v:=by
 have e:W.cell? a=w.cell? a:=World.cell?_of_block (by rw[h])
 rw[e];exact b
def QF(w c:aG)(sb i j:Nat)(t:TypeId)(z:aQ)(P:World->Prop)(g:w.alloc (.cells #[.iface t z] 229)=c)
 (p:Hid (∀W,aV c W->Calls prog 64 #[bH sb] W fun e w'=>e=aZ (.pointer (some (aH i j)))/\aV c w'))
 (o:Hid (∀W,aV c W->Calls prog 239 #[.pointer (some (aH i j)),.iface t z] W fun e w'=>e=aZ (.tuple #[])/\P w')):
 Calls prog 238 #[.agg #[.iface t z],bH sb] w fun e w'=>e=aZ (.tuple #[])/\P w':=by
 have a:(w.alloc (.cells #[.iface t z] 229)).heap[w.heap.size]?=some (.cells #[.iface t z] 229 (0,0)):=aO _ _ rfl _;rw[g] at a;have l:=aB g;have n:c.cell? (aH w.heap.size 0)=some (.iface t z):=aA a rfl;have h:=aB n;have f:=aC a;clear g a;go_in
 go_wp2_with fail;rw[l.out];go_region_law (go_simp;first|(go_at_call 64;refine(p _ (aV.drew _)).mono ?_;rintro e k ⟨rfl,b⟩;have q:=cM b.heap h;have m:w.heap.size<k.heap.size:=by (rw[b.heap];exact f))|(go_at_call 239;refine(o _ b).mono ?_;rintro e r ⟨rfl,d⟩))
 all_goals
  go_wp2
  go_end0;exact⟨rfl,d⟩
def VJ{d:Bool}(fp:eQ)(F:bX)(base:Nat)(w:aG)(sb gf B:Nat)(L T b N:aQ)(D:List FVal)(c:List aJ)(f:aJ)(j:List Int)(A:cN)(u:aQ)(a:aM)
 (h:dA d fp F base w sb gf B L T b N D ⟨c++[f],j,A⟩) (Z:PV F w u a) (K:aN a<=200) (Y:f.ops.length<=100000) (V:c.length<=15) (s:base<=w.heap.size):
 Calls prog 238 #[.agg #[u],bH sb] w fun e w'=>e=aZ (.tuple #[])/\gB d fp F base sb gf L N (aR d sb gf b D) w ⟨c++[f.push a],j,A⟩ w':=by
 obtain⟨t,z,rfl⟩:=Z.form;have g:Below w.heap.size w (w.alloc (.cells #[.iface t z] 229)):=(co_ _ _).alloc cL _;have aa:(w.alloc (.cells #[.iface t z] 229)).heap[w.heap.size]?=some (.cells #[.iface t z] 229 (0,0)):=aO _ _ rfl _;have Q:=h.grow g dX (fun _ h=>cl_ h)
 have O:PV F (w.alloc (.cells #[.iface t z] 229)) (.iface t z) a:=Z.keep fun k M=>g.block k (h.apart k M).1
 generalize hW:w.alloc (.cells #[.iface t z] 229)=J at*;have HW:=aB hW;obtain⟨i,v,o,rfl,ac,hv,E,n,U,k0,k1,k2,k3,k4,k5⟩:=Q.top;obtain⟨⟨xs,m,H⟩,y⟩:=hv.ops
 have G:v.ov.ownBlock≠some gf:=fun e=>by
  have:=(cB_.1 (cB_.1 Q.nodup).2).1;exact this (by simp[cA,FVal.ownX,e])
 have HT:Hid (∀W,aV J W->Calls prog 64 #[bH sb] W fun e w'=>e=aZ (.pointer (some (aH gf (i.length*6))))/\aV J w'):=fun W l=>by
  refine(oN sb gf i.length B W (cM l.heap (aA E rfl)) (by omega)).mono ?_
  rintro e w' ⟨P,q,rfl⟩;exact⟨P,l.trans (aV.drewN _ _)⟩
 have HP:Hid (∀W,aV J W->Calls prog 239 #[.pointer (some (aH gf (i.length*6))),.iface t z] W fun e w'=>e=aZ (.tuple #[])/\gB d fp F base sb gf L N (aR d sb gf b (i++[v])) w ⟨c++[f.push a],j,A⟩ w'):=fun W l=>by
  have I:=l.below;have hR:=Q.grow I dX (fun _ h=>cl_ h)
  refine(yN base gf (i.length*6) f.ops.length o v.ov xs t z W (by rw[l.heap];exact n) k5 (aW m fun k _=>by rw[l.heap]) G (by rw[l.heap];exact cw_ s g.size) (by omega)).mono ?_
  rintro e w' ⟨P,r,p1,p2,S,p4⟩;obtain⟨q1,q2⟩:=hR.pushed (cur:=o) (by rw[l.heap];exact n) (H.keep fun k _=>by rw[l.heap]) (O.keep fun k _=>by rw[l.heap]) K p1 p2 S p4
  have M:Kept (aR d sb gf b (i++[v])) w w':=(Kept.of_below (own:=aR d sb gf b (i++[v])) (g.trans (I.mono g.size))).trans q2 fun x hx=>cl_ hx
  refine⟨P,M,F,B,T,b,_,Ext.refl _ _,q1,fun k C=>?_⟩
  have ab:W.heap.size=J.heap.size:=by rw[l.heap]
  have h1:aR d sb gf b (i++[{ v with ov:=r }])=(sb::gf::(b.ownBlock.toList++cA d i))++({ v with ov:=r }:FVal).ownX d:=by simp[aR,cA]
  have h2:aR d sb gf b (i++[v])=(sb::gf::(b.ownBlock.toList++cA d i))++(v.ownX d):=by simp[aR,cA]
  rw[h1] at C;rw[h2];rcases cu_.1 C with p|p
  ·exact cl_ (cC_ _ p)
  ·rcases cu_.1 p with p|p
   ·exact cl_ (cI_ _ (cC_ _ p))
   ·have h4:r.ownBlock=some k:=by simpa using p
    rcases S k h4 with X|X
    ·exact cl_ (cI_ _ (by simp[FVal.ownX,X]))
    ·exact ck_ (by have:=g.size;omega)
 clear m H y G;exact QF w J sb gf (i.length*6) t z _ HW HT HP
def gQ.split{F:bX}{w:aG}{xs:List Value}{l m:List aM}(h:gQ F w xs (l++m)):∃c e,xs=c++e/\c.length=l.length/\e.length=m.length/\gQ F w c l/\gQ F w e m:=by
 obtain⟨g,f⟩:=h;rw[cp_] at g;refine⟨xs.take l.length,xs.drop l.length,(cY_ _ _).symm,by simp;omega,by simp;omega,⟨by simp;omega,fun i d=>?_⟩,⟨by simp;omega,fun i d=>?_⟩⟩
 ·obtain⟨u,b,a⟩:=f i (by simp;omega)
  rw[dH_ d] at a;exact⟨u,by rw[cM_,if_pos d];exact b,a⟩
 ·obtain⟨u,b,a⟩:=f (l.length+i) (by simp;omega)
  rw[dD_ (by omega)] at a
  simp only[di_] at a;exact⟨u,by rw[dK_];exact b,a⟩
def gQ.unsnoc{F:bX}{w:aG}{xs:List Value}{l:List aM}{a:aM}(h:gQ F w xs (l++[a])):∃b u,xs=b++[u]/\b.length=l.length/\gQ F w b l/\PV F w u a:=by
 obtain⟨b,j,e,i,f,k,g⟩:=h.split;match j,f with
 |[u],_=>
  obtain⟨m,c,d⟩:=g.2 0 (by simp)
  simp at c d;subst c;exact⟨b,u,e,i,k,d⟩
def dA.setTop{c:Bool}{fp:eQ}{F:bX}{base:Nat}{w:aG}{sb gf o:Nat}{C z a B:aQ}{fb:List FVal}{v v':FVal}{d:List aJ}{f D:aJ}{i:List Int}{n:cN}{j:Nat}{x:aQ}
 (h:dA c fp F base w sb gf o C z a B (fb++[v]) ⟨d++[f],i,n⟩) (M:j<6) (r:v'.cells=v.cells.set j x) (t:(v'.ownX c)=(v.ownX c)) (p:OP c fp F base w v' D):
 dA c fp F base (w.setCell (aH gf (fb.length*6+j)) x) sb gf o C z a B (fb++[v']) ⟨d++[D],i,n⟩/\Kept (aR c sb gf a (fb++[v])) w (w.setCell (aH gf (fb.length*6+j)) x):=by
 have l:=h.row;rw[show (fb++[v]).length=fb.length+1 by simp] at l
 obtain⟨J,I,_,K⟩:=wJ (j:=j) (x:=x) l M;have s:∀k∈(v.ownX c),k∈aR c sb gf a (fb++[v]):=fun k g=>by simp[aR,cA,g]
 have u:gf∉(v.ownX c):=fun m=>by
  have:=(cB_.1 (cB_.1 h.nodup).2).1;exact this (by simp[cA,m])
 have q:(v.ownX c).Nodup:=by
  have A:=h.nodup;have:aR c sb gf a (fb++[v])=(sb::gf::(a.ownBlock.toList++cA c fb))++(v.ownX c):=by simp[aR,cA]
  rw[this] at A;exact(c5_.1 A).2.1
 have g:∀k,k≠gf->(w.setCell (aH gf (fb.length*6+j)) x).heap[k]?=w.heap[k]?:=fun k g=>cm_ _ _ _ _ g
 have y:∀b,F b->(w.setCell (aH gf (fb.length*6+j)) x).heap[b]?=w.heap[b]?:=fun b H=>g b fun e=>(h.apart b H).2 (by simp[aR,e])
 refine⟨h.step (G:=F) (by simp) (fun k _ E _=>g k E) (K _ (aK I) _ r) (p.keep y dX fun k m=>g k fun e=>u (by rw[<-t,<-e];exact m)) (fun k m=>?_) (by rw[t];exact q) dX (fun _ h=>cl_ h),⟨rfl,rfl,rfl,by simp,fun k _ L=>g k fun e=>L (by simp[aR,e])⟩⟩
 rw[t] at m;exact⟨cn_ (h.lt k (s k m)) (by simp),cl_ m⟩
def dV(sh:Bool)(fp:eQ)(base sb gf n:Nat)(t0 s0:aQ)(own:List Nat)(w0:aG)(G:bX)(m:cR)(w:aG):Prop:=
 Kept own w0 w/\base<=w.heap.size/\∃cap tv outv fvs,fvs.length=n+1/\dA sh fp G base w sb gf cap t0 tv outv s0 fvs m/\∀k∈aR sh sb gf outv fvs,k∈own\/w0.heap.size<=k
section
variable {sh:Bool} {fp:eQ} {base sb gf n:Nat} {t0 s0:aQ} {own:List Nat} {w0 w w':aG} {G G':bX} {m:cR} {below:List aJ} {f f':aJ} {tape:List Int} {out:cN}
def dV.init{c:Nat}{d a:aQ}{b:List FVal}(h:dA sh fp G base w sb gf c t0 d a s0 b m)(g:b.length=n+1)(f:base<=w.heap.size)(e:Obj):dV sh fp base sb gf n t0 s0 (aR sh sb gf a b) (w.alloc e) G m (w.alloc e):=
 ⟨Kept.refl _ _,cw_ f (by simp),c,d,a,b,g,h.grow ((co_ _ _).alloc cL _) dX (fun _ h=>cl_ h),fun _ h=>cl_ h⟩
def dV.same(h:dV sh fp base sb gf n t0 s0 own w0 G m w)(d:aV w w'):dV sh fp base sb gf n t0 s0 own w0 G m w':=by
 obtain⟨i,f,b,e,a,c,k,g,j⟩:=h;exact⟨i.trans (Kept.of_below (own:=[]) d.below) (fun x l=>by simp at l),by rw[d.heap];exact f,b,e,a,c,k,g.grow d.below dX (fun _ h=>cl_ h),j⟩
def dV.grow(h:dV sh fp base sb gf n t0 s0 own w0 G m w)(d:Below w.heap.size w w')(p:∀k,G k->G' k)(o:∀k,G' k->G k\/(w.heap.size<=k/\k<w'.heap.size)):dV sh fp base sb gf n t0 s0 own w0 G' m w':=by
 obtain⟨i,f,b,e,a,c,l,g,j⟩:=h;exact⟨i.trans (Kept.of_below (own:=[]) d) (fun x q=>by simp at q),cw_ f d.size,b,e,a,c,l,g.grow d p o,j⟩
def dV.old(h:dV sh fp base sb gf n t0 s0 own w0 G m w){k:Nat}(a:k<w0.heap.size)(b:k∉own):w.heap[k]?=w0.heap[k]?:=h.1.block k a b
def dV.doneX{F:bX}{d:Obj}(h:dV sh fp base sb gf n t0 s0 own (w.alloc d) G m w')(l:Ext F G w.heap.size):gB sh fp F base sb gf t0 s0 own w m w':=by
 obtain⟨i,p,b,e,a,c,q,g,j⟩:=h
 exact⟨(Kept.of_below (own:=own) ((co_ _ w).alloc cL d)).trans i (fun x o=>cl_ o),G,b,e,a,c,l,g,fun k f=>by
  rcases j k f with h|h
  ·exact cl_ h
  ·exact ck_ (cw_ (by simp) h)⟩
def dV.done{F:bX}{a:Obj}(h:dV false fp base sb gf n t0 s0 own (w.alloc a) G m w')(b:Ext F G w.heap.size):Done fp F base sb t0 s0 own w m w':=(h.doneX b).done
def dV.top(h:dV sh fp base sb gf n t0 s0 own w0 G m w)(o:n<=15):Calls prog 64 #[bH sb] w fun e w'=>e=aZ (.pointer (some (aH gf (n*6))))/\aV w w':=by
 obtain⟨k,j,a,i,b,f,g,d,l⟩:=h;have:=d.blk;rw[g] at this;refine(oN sb gf n a w (aA this rfl) (by omega)).mono ?_
 rintro e w' ⟨c,q,rfl⟩;exact⟨c,aV.drewN _ _⟩
def dV.cells(h:dV sh fp base sb gf n t0 s0 own w0 G ⟨below++[f],tape,out⟩ w):∃v:FVal,OP sh fp G base w v f/\gf<w.heap.size/\∀j x,v.cells[j]?=some x->w.cell? (aH gf (n*6+j))=some x/\w.frozen? (aH gf (n*6+j))=false:=by
 obtain⟨E,C,o,D,g,s,t,l,F⟩:=h;obtain⟨u,v,q,rfl,r,z,e,a,c,m,i,y,k,B,p⟩:=l.top;have b:u.length=n:=by simpa using t
 subst b;refine⟨v,z,aC a,fun j x d=>?_⟩
 have A:j<6:=(cQ_.1 d).1;refine⟨aA a ?_,aD a⟩;rw[<-d];match j,A with
 |0,_=>exact m
 |1,_=>exact i
 |2,_=>exact y
 |3,_=>exact k
 |4,_=>exact B
 |5,_=>exact p
def dV.set(h:dV sh fp base sb gf n t0 s0 own w0 G ⟨below++[f],tape,out⟩ w)(j:Nat)(x:aQ)(B:j<6)(g:FVal->FVal)(q:∀v,(g v).cells=v.cells.set j x)(m:∀v,OP sh fp G base w v f->(g v).ownX sh=(v.ownX sh))(b:∀v,OP sh fp G base w v f->OP sh fp G base w (g v) f'):
 dV sh fp base sb gf n t0 s0 own w0 G ⟨below++[f'],tape,out⟩ (w.setCell (aH gf (n*6+j)) x):=by
 obtain⟨t,p,c,r,a,z,A,k,l⟩:=h;obtain⟨d,v,u,rfl,y,e,_⟩:=k.top;have i:d.length=n:=by simpa using A
 subst i;obtain⟨s,o⟩:=k.setTop B (q v) (m v e) (b v e);refine⟨t.trans o l,cw_ p o.size,c,r,a,_,by simp,s,?_⟩
 rw[show aR sh sb gf a (d++[g v])=aR sh sb gf a (d++[v]) by simp[aR,cA,m v e]]
 exact l
def dV.push(h:dV sh fp base sb gf n t0 s0 own w0 G ⟨below++[f],tape,out⟩ w){t:TypeId}{z:aQ}{a:aM}(T:PV G w (.iface t z) a)(q:aN a<=200)(D:f.ops.length<=100000):Calls prog 239 #[.pointer (some (aH gf (n*6))),.iface t z] w fun e w'=>e=aZ (.tuple #[])/\dV sh fp base sb gf n t0 s0 own w0 G ⟨below++[f.push a],tape,out⟩ w':=by
 obtain⟨E,C,u,L,b,U,c,o,p⟩:=h;obtain⟨j,v,g,rfl,Q,X,H,d,F,k0,Y,k2,Z,k4,N⟩:=o.top;have A:j.length=n:=by simpa using c
 subst A;obtain⟨⟨S,l,r⟩,x⟩:=X.ops
 have s:v.ov.ownBlock≠some gf:=fun e=>by
  have:=(cB_.1 (cB_.1 o.nodup).2).1;exact this (by simp[cA,FVal.ownX,e])
 refine(yN base gf (j.length*6) f.ops.length g v.ov S t z w d N l s C (by omega)).mono ?_
 rintro e w' ⟨W,i,P,K,B,J⟩;obtain⟨M,I⟩:=o.pushed (cur:=g) d r T q P K B J;refine⟨W,E.trans I p,cw_ C I.size,u,L,b,_,by simp,M,fun k m=>?_⟩
 have V:aR sh sb gf b (j++[{ v with ov:=i }])=(sb::gf::(b.ownBlock.toList++cA sh j))++({ v with ov:=i }:FVal).ownX sh:=by simp[aR,cA]
 have O:aR sh sb gf b (j++[v])=(sb::gf::(b.ownBlock.toList++cA sh j))++(v.ownX sh):=by simp[aR,cA]
 rw[V] at m;rw[O] at p;rcases cu_.1 m with c|c
 ·exact p k (cC_ _ c)
 ·rcases cu_.1 c with c|c
  ·exact p k (cI_ _ (cC_ _ c))
  ·have o:i.ownBlock=some k:=by simpa using c
   rcases B k o with y|y
   ·exact p k (cI_ _ (by simp[FVal.ownX,y]))
   ·exact ck_ (cw_ E.size y)
def dV.popK(h:dV sh fp base sb gf n t0 s0 own w0 G ⟨below++[f],tape,out⟩ w){vs:List aM}{a:aM}(L:f.ops=vs++[a])(m:f.ops.length<=100000):Calls prog 65 #[.pointer (some (aH gf (n*6)))] w fun e w'=>∃t z,e=aZ (.iface t z)/\PV G w' (.iface t z) a/\aN a<=200/\dV sh fp base sb gf n t0 s0 own w0 G ⟨below++[f.pop],tape,out⟩ w'/\∀k,G k->w'.heap[k]?=w.heap[k]?:=by
 obtain⟨V,P,D,S,l,Z,h3,C,J⟩:=h;obtain⟨A,v,E,rfl,Y,o,N,y,K,k0,k1,k2,k3,k4,W⟩:=C.top;have F:A.length=n:=by simpa using h3
 subst F;obtain⟨⟨xs,d,s⟩,c⟩:=o.ops;rw[L] at d s c m;obtain⟨p,u,rfl,X,r,M⟩:=gQ.unsnoc s;obtain⟨t,z,rfl⟩:=M.form;rw[cp_] at d m;refine(RX base gf (A.length*6) vs.length E v.ov p _ w y W d X ⟨t,z,rfl⟩ (by omega)).mono ?_
 rintro e w' ⟨rfl,g,rfl,Q,H⟩;have i:f.pop.ops=vs:=by simp[aJ.pop,L]
 have B:OP sh fp G base w { v with ov:=g } f.pop:=⟨o.fn,o.nx,o.ln,o.sp,o.vars,⟨p,by rw[i];exact Q,by rw[i];exact r⟩,fun b I=>c b (cC_ _ (by rw[i] at I;exact I))⟩
 obtain⟨U,O⟩:=C.setTop (j:=5) (x:=g) (v':={ v with ov:=g }) (by omega) rfl (by simp[FVal.ownX,H]) B
 have q:∀k,G k->(w.setCell (aH gf (A.length*6+5)) g).heap[k]?=w.heap[k]?:=fun k T=>cm_ _ _ _ _ fun e=>(C.apart k T).2 (by simp[aR,e])
 refine⟨t,z,rfl,M.keep q,c a (by simp),⟨V.trans O J,cw_ P O.size,D,S,l,_,by simp,U,?_⟩,q⟩
 rw[show aR sh sb gf l (A++[{ v with ov:=g }])=aR sh sb gf l (A++[v]) by simp[aR,cA,FVal.ownX,H]]
 exact J
def dV.pop(h:dV sh fp base sb gf n t0 s0 own w0 G ⟨below++[f],tape,out⟩ w){vs:List aM}{a:aM}(c:f.ops=vs++[a])(b:f.ops.length<=100000):Calls prog 65 #[.pointer (some (aH gf (n*6)))] w fun e w'=>∃t z,e=aZ (.iface t z)/\PV G w' (.iface t z) a/\aN a<=200/\dV sh fp base sb gf n t0 s0 own w0 G ⟨below++[f.pop],tape,out⟩ w':=by
 refine(h.popK c b).mono ?_;rintro e w' ⟨t,z,i,d,j,g,_⟩;exact⟨t,z,i,d,j,g⟩
end
def p9(k:Nat)(e:Ending):Prop:=(k=0/\e=aZ (.tuple #[]))\/(k≠0/\e=fR k)
def kX{w W:aG}(h:W.heap=w.heap){k:Nat}(a:k<w.heap.size):k<W.heap.size:=by rw[h];exact a
def sK{w W:aG}(h:W.heap=w.heap){a:Addr}(b:w.frozen? a=false):W.frozen? a=false:=by
 have e:W.frozen? a=w.frozen? a:=by unfold World.frozen?;rw[h]
 rw[e];exact b
def SR(w a:aG)(sb c f:Nat)(P:World->Prop)(d:w.alloc (.cells #[] 315)=a)
 (j:Hid (∀W,aV a W->Calls prog 64 #[bH sb] W fun e w'=>e=aZ (.pointer (some (aH c f)))/\aV a w'))
 (i:Hid (∀W,aV a W->Calls prog 65 #[.pointer (some (aH c f))] W fun e w'=>∃t z,e=aZ (.iface t z)/\P w')):
 Calls prog 278 #[.agg #[],bH sb] w fun e w'=>e=aZ (.tuple #[])/\P w':=by
 have h:=aB d;clear d;go_in
 go_wp2_with fail;rw[h.out];refine(j _ (aV.refl _)).mono ?_;rintro e k ⟨rfl,b⟩;go_wp2_with fail;refine(i _ b).mono ?_;rintro e l ⟨t,z,rfl,g⟩;go_wp2
 go_end0;exact⟨rfl,g⟩
def LP(w c:aG)(sb d h:Nat)(P S:World->Prop)(k:TypeId->Value->World->Prop)(l:Bool->World->Prop)(j:w.alloc (.cells #[] 275)=c)
 (q:Hid (∀W,aV c W->Calls prog 64 #[bH sb] W fun e w'=>e=aZ (.pointer (some (aH d h)))/\aV c w'))
 (p:Hid (∀W,aV c W->Calls prog 65 #[.pointer (some (aH d h))] W fun e w'=>∃t z,e=aZ (.iface t z)/\k t z w'))
 (o:Hid (∀W t z,k t z W->Calls prog 253 #[.iface t z] W fun e w'=>(∃b,e=aZ (.bool b)/\l b w')\/(e=fR 2/\S w')))
 (m:Hid (∀W b,l b W->Calls prog 239 #[.pointer (some (aH d h)),.iface 211 (.bool b)] W fun e w'=>e=aZ (.tuple #[])/\P w')):
 Calls prog 263 #[.agg #[],bH sb] w fun e w'=>(e=aZ (.tuple #[])/\P w')\/(e=fR 2/\S w'):=by
 have n:=aB j;clear j;go_in
 go_wp2_with fail;rw[n.out];refine(q _ (aV.refl _)).mono ?_;rintro e s ⟨rfl,g⟩;go_wp2_with fail;refine(p _ g).mono ?_;rintro e v ⟨t,z,rfl,i⟩;have a:=aB (o _ t z i);clear i;go_wp2_with fail;refine a.mono ?_;rintro e u (⟨b,rfl,a⟩|⟨rfl,a⟩)
 ·have f:=aB (m _ b a);clear a;go_wp2_with fail;refine f.mono ?_;rintro e r ⟨rfl,f⟩;go_wp2
  go_end0;exact cl_ ⟨rfl,f⟩
 ·go_wp2_with fail;exact⟨rfl,ck_ ⟨rfl,a⟩⟩
def GN(w g:aG)(sb c d f:Nat)(P S:World->Prop)(m:TypeId->Value->World->Prop)(h:Bool->World->Prop)(l:w.alloc (.cells #[Iv0 f] 327)=g)
 (v:Hid (∀W,aV g W->Calls prog 64 #[bH sb] W fun e w'=>e=aZ (.pointer (some (aH c d)))/\aV g w'))
 (s:Hid (∀W,aV g W->Calls prog 65 #[.pointer (some (aH c d))] W fun e w'=>∃t z,e=aZ (.iface t z)/\m t z w'))
 (r:Hid (∀W t z,m t z W->Calls prog 253 #[.iface t z] W fun e w'=>(∃b,e=aZ (.bool b)/\h b w')\/(e=fR 2/\S w')))
 (n:Hid (∀W,h true W->P W)) (p:Hid (∀W,h false W->P (W.setCell (aH c (d+1)) (Iv0 f))))
 (o:Hid (∀W b,h b W->W.cell? (aH w.heap.size 0)=some (Iv0 f)/\w.heap.size<W.heap.size/\(∃u,W.cell? (aH c (d+1))=some u)/\W.frozen? (aH c (d+1))=false/\c<W.heap.size)):
 Calls prog 279 #[.agg #[Iv0 f],bH sb] w fun e w'=>(e=aZ (.tuple #[])/\P w')\/(e=fR 2/\S w'):=by
 have q:=aB l;clear l;go_in
 go_wp2_with fail;rw[q.out];refine(v _ (aV.refl _)).mono ?_;rintro e x ⟨rfl,j⟩;go_wp2_with fail;refine(s _ j).mono ?_;rintro e E ⟨t,z,rfl,k⟩;have a:=aB (r _ t z k);clear k;go_wp2_with fail;refine a.mono ?_;rintro e y (⟨b,rfl,a⟩|⟨rfl,a⟩)
 ·obtain⟨A,B,⟨u,C⟩,F,D⟩:=o _ b a;cases b with
  |false=>
   have i:=aB (p _ a);clear a;go_wp2
   go_end0;exact cl_ ⟨rfl,i⟩
  |true=>
   have i:=aB (n _ a);clear a;go_wp2
   go_end0;exact cl_ ⟨rfl,i⟩
 ·go_wp2_with fail;exact⟨rfl,ck_ ⟨rfl,a⟩⟩
def RM(w c:aG)(sb f g d:Nat)(P:World->Prop)(j:w.alloc (.cells #[Iv0 d] 328)=c)
 (v:Hid (∀W,aV c W->Calls prog 64 #[bH sb] W fun e w'=>e=aZ (.pointer (some (aH f g)))/\aV c w'))
 (h:∃u,c.cell? (aH f (g+1))=some u) (l:c.frozen? (aH f (g+1))=false) (q:f<c.heap.size)
 (r:Hid (∀W,aV c W->P (W.setCell (aH f (g+1)) (Iv0 d)))):
 Calls prog 280 #[.agg #[Iv0 d],bH sb] w fun e w'=>e=aZ (.tuple #[])/\P w':=by
 have a:(w.alloc (.cells #[Iv0 d] 328)).heap[w.heap.size]?=some (.cells #[Iv0 d] 328 (0,0)):=aO _ _ rfl _;rw[j] at a;have s:=aB j;have o:c.cell? (aH w.heap.size 0)=some (Iv0 d):=aA a rfl;have k:=aB o;have i:=aC a;obtain⟨u,h⟩:=h;have p:=aB h;have m:=aB l;clear j a h l;go_in
 go_wp2_with fail;rw[s.out];go_region_law (go_simp;go_at_call 64;refine(v _ (aV.drew _)).mono ?_;rintro e x ⟨rfl,b⟩;have y:=cM b.heap k;have z:=cM b.heap p;have A:=sK b.heap m;have t:=kX b.heap i;have n:=kX b.heap q)
 all_goals
  go_wp2
  go_end0;exact⟨rfl,r _ b⟩
def BH(w j:aG)(sb f g i:Nat)(d:Bool)(P S:World->Prop)(v:TypeId->Value->World->Prop)(k l:Bool->World->Prop)(q:w.alloc (.cells #[.bool d,Iv0 i] 277)=j)
 (J:Hid (∀W,aV j W->Calls prog 64 #[bH sb] W fun e w'=>e=aZ (.pointer (some (aH f g)))/\aV j w'))
 (I:Hid (∀W,aV j W->Calls prog 65 #[.pointer (some (aH f g))] W fun e w'=>∃t z,e=aZ (.iface t z)/\v t z w'))
 (H:Hid (∀W t z,v t z W->Calls prog 253 #[.iface t z] W fun e w'=>(∃b,e=aZ (.bool b)/\k b w')\/(e=fR 2/\S w')))
 (E:Hid (∀W b,k b W->Calls prog 239 #[.pointer (some (aH f g)),.iface 211 (.bool b)] W fun e w'=>e=aZ (.tuple #[])/\l b w'))
 (B:Hid (∀W b,k b W->b≠d->P W)) (s:Hid (∀W b,l b W->b=d->P (W.setCell (aH f (g+1)) (Iv0 i))))
 (o:Hid (∀W b,k b W->W.cell? (aH w.heap.size 0)=some (.bool d)/\w.heap.size<W.heap.size))
 (r:Hid (∀W b,l b W->W.cell? (aH w.heap.size 1)=some (Iv0 i)/\w.heap.size<W.heap.size/\(∃u,W.cell? (aH f (g+1))=some u)/\W.frozen? (aH f (g+1))=false/\f<W.heap.size)):
 Calls prog 264 #[.agg #[.bool d,Iv0 i],bH sb] w fun e w'=>(e=aZ (.tuple #[])/\P w')\/(e=fR 2/\S w'):=by
 have F:=aB q;clear q;go_in
 go_wp2_with fail;rw[F.out];refine(J _ (aV.refl _)).mono ?_;rintro e K ⟨rfl,n⟩;go_wp2_with fail;refine(I _ n).mono ?_;rintro e O ⟨t,z,rfl,p⟩;have c:=aB (H _ t z p);clear p;go_wp2_with fail;refine c.mono ?_;rintro e L (⟨b,rfl,c⟩|⟨rfl,c⟩)
 ·obtain⟨M,N⟩:=o _ b c;by_cases h:b=d
  ·subst h;have a:=aB (E _ b c);clear c;cases b with
   |true=>
    go_wp2_with fail;refine a.mono ?_;rintro e x ⟨rfl,a⟩;obtain⟨C,y,⟨u,A⟩,G,D⟩:=r _ _ a;have m:=aB (s _ _ a rfl);clear a;go_wp2
    go_end0;exact cl_ ⟨rfl,m⟩
   |false=>
    go_wp2_with fail;refine a.mono ?_;rintro e x ⟨rfl,a⟩;obtain⟨C,y,⟨u,A⟩,G,D⟩:=r _ _ a;have m:=aB (s _ _ a rfl);clear a;go_wp2
    go_end0;exact cl_ ⟨rfl,m⟩
  ·have a:=aB (B _ b c h);clear c;cases b<;>cases d<;>first|exact absurd rfl h|(clear h;go_wp2_with fail;go_end0;exact cl_ ⟨rfl,a⟩)
 ·go_wp2_with fail;exact⟨rfl,ck_ ⟨rfl,c⟩⟩
def JQ(w d:aG)(sb c g:Nat)(op:cD)(k:Nat)(P S:World->Prop)(r:TypeId->Value->World->Prop)(n:TypeId->Value->TypeId->Value->World->Prop)(p:TypeId->Value->World->Prop)(q:w.alloc (.cells #[.string (bs op)] 274)=d)
 (E:Hid (∀W,aV d W->Calls prog 64 #[bH sb] W fun e w'=>e=aZ (.pointer (some (aH c g)))/\aV d w'))
 (D:Hid (∀W,aV d W->Calls prog 65 #[.pointer (some (aH c g))] W fun e w'=>∃t z,e=aZ (.iface t z)/\r t z w'))
 (m:Hid (∀W t z,r t z W->Calls prog 65 #[.pointer (some (aH c g))] W fun e w'=>∃a b,e=aZ (.iface a b)/\n t z a b w'))
 (s:Hid (∀W t z a b,n t z a b W->W.cell? (aH w.heap.size 0)=some (.string (bs op))/\w.heap.size<W.heap.size))
 (C:Hid (∀W t z a b,n t z a b W->Calls prog 255 #[.string (bs op),.iface a b,.iface t z] W fun e w'=>(∃j i,e=aZ (.iface j i)/\p j i w')\/(e=fR k/\S w')))
 (A:Hid (∀W t z,p t z W->Calls prog 239 #[.pointer (some (aH c g)),.iface t z] W fun e w'=>e=aZ (.tuple #[])/\P w')):
 Calls prog 254 #[.agg #[.string (bs op)],bH sb] w fun e w'=>(e=aZ (.tuple #[])/\P w')\/(e=fR k/\S w'):=by
 have B:=aB q;clear q;go_in
 go_wp2_with fail;rw[B.out];refine(E _ (aV.refl _)).mono ?_;rintro e G ⟨rfl,l⟩;go_wp2_with fail;refine(D _ l).mono ?_;rintro e K ⟨t,z,rfl,o⟩;have y:=aB (m _ t z o);clear o;go_wp2_with fail;refine y.mono ?_;rintro e H ⟨a,b,rfl,h⟩;obtain⟨I,J⟩:=s _ _ _ _ _ h;have v:=aB (C _ _ _ _ _ h);clear h;go_wp2_with fail;refine v.mono ?_;rintro e F (⟨j,i,rfl,f⟩|⟨rfl,f⟩)
 ·have u:=aB (A _ _ _ f);clear f;go_wp2_with fail;refine u.mono ?_;rintro e L ⟨rfl,x⟩;go_wp2
  go_end0;exact cl_ ⟨rfl,x⟩
 ·go_wp2_with fail;exact⟨rfl,ck_ ⟨rfl,f⟩⟩
def NH(w d:aG)(sb c g:Nat)(k:Nat)(P S:World->Prop)(q:TypeId->Value->World->Prop)(r:TypeId->Value->TypeId->Value->World->Prop)(n:TypeId->Value->World->Prop)(o:w.alloc (.cells #[] 252)=d)
 (D:Hid (∀W,aV d W->Calls prog 64 #[bH sb] W fun e w'=>e=aZ (.pointer (some (aH c g)))/\aV d w'))
 (C:Hid (∀W,aV d W->Calls prog 65 #[.pointer (some (aH c g))] W fun e w'=>∃t z,e=aZ (.iface t z)/\q t z w'))
 (l:Hid (∀W t z,q t z W->Calls prog 65 #[.pointer (some (aH c g))] W fun e w'=>∃a b,e=aZ (.iface a b)/\r t z a b w'))
 (B:Hid (∀W t z a b,r t z a b W->Calls prog 249 #[.iface a b,.iface t z] W fun e w'=>(∃i h,e=aZ (.iface i h)/\n i h w')\/(e=fR k/\S w')))
 (y:Hid (∀W t z,n t z W->Calls prog 239 #[.pointer (some (aH c g)),.iface t z] W fun e w'=>e=aZ (.tuple #[])/\P w')):
 Calls prog 248 #[.agg #[],bH sb] w fun e w'=>(e=aZ (.tuple #[])/\P w')\/(e=fR k/\S w'):=by
 have A:=aB o;clear o;go_in
 go_wp2_with fail;rw[A.out];refine(D _ (aV.refl _)).mono ?_;rintro e F ⟨rfl,j⟩;go_wp2_with fail;refine(C _ j).mono ?_;rintro e H ⟨t,z,rfl,m⟩;have x:=aB (l _ t z m);clear m;go_wp2_with fail;refine x.mono ?_;rintro e G ⟨a,b,rfl,p⟩;have u:=aB (B _ _ _ _ _ p);clear p;go_wp2_with fail;refine u.mono ?_;rintro e E (⟨i,h,rfl,f⟩|⟨rfl,f⟩)
 ·have s:=aB (y _ _ _ f);clear f;go_wp2_with fail;refine s.mono ?_;rintro e I ⟨rfl,v⟩;go_wp2
  go_end0;exact cl_ ⟨rfl,v⟩
 ·go_wp2_with fail;exact⟨rfl,ck_ ⟨rfl,f⟩⟩
def IP(w a:aG)(sb c h:Nat)(k:Nat)(P S:World->Prop)(m j:TypeId->Value->World->Prop)(l:w.alloc (.cells #[] 278)=a)
 (v:Hid (∀W,aV a W->Calls prog 64 #[bH sb] W fun e w'=>e=aZ (.pointer (some (aH c h)))/\aV a w'))
 (u:Hid (∀W,aV a W->Calls prog 65 #[.pointer (some (aH c h))] W fun e w'=>∃t z,e=aZ (.iface t z)/\m t z w'))
 (s:Hid (∀W t z,m t z W->Calls prog 266 #[.iface t z] W fun e w'=>(∃f d,e=aZ (.iface f d)/\j f d w')\/(e=fR k/\S w')))
 (q:Hid (∀W t z,j t z W->Calls prog 239 #[.pointer (some (aH c h)),.iface t z] W fun e w'=>e=aZ (.tuple #[])/\P w')):
 Calls prog 265 #[.agg #[],bH sb] w fun e w'=>(e=aZ (.tuple #[])/\P w')\/(e=fR k/\S w'):=by
 have r:=aB l;clear l;go_in
 go_wp2_with fail;rw[r.out];refine(v _ (aV.refl _)).mono ?_;rintro e y ⟨rfl,g⟩;go_wp2_with fail;refine(u _ g).mono ?_;rintro e A ⟨t,z,rfl,i⟩;have o:=aB (s _ t z i);clear i;go_wp2_with fail;refine o.mono ?_;rintro e x (⟨f,d,rfl,b⟩|⟨rfl,b⟩)
 ·have n:=aB (q _ _ _ b);clear b;go_wp2_with fail;refine n.mono ?_;rintro e B ⟨rfl,p⟩;go_wp2
  go_end0;exact cl_ ⟨rfl,p⟩
 ·go_wp2_with fail;exact⟨rfl,ck_ ⟨rfl,b⟩⟩
def RF(w f:aG)(sb j p c:Nat)(k:Nat)(P S:World->Prop)(s:Option Addr->Nat->World->Prop)(r:TypeId->Value->World->Prop)(l:w.alloc (.cells #[Iv0 c] 251)=f)
 (F:Hid (∀W,aV f W->Calls prog 64 #[bH sb] W fun e w'=>e=aZ (.pointer (some (aH j p)))/\aV f w'))
 (E:Hid (∀W,aV f W->Calls prog 245 #[.pointer (some (aH j p)),Iv0 c] W fun e w'=>∃x d,e=aZ (.slice x c d)/\s x d w'))
 (D:Hid (∀W x d,s x d W->Calls prog 244 #[.slice x c d] W fun e w'=>(∃n m,e=aZ (.iface n m)/\r n m w')\/(e=fR k/\S w')))
 (A:Hid (∀W t z,r t z W->Calls prog 239 #[.pointer (some (aH j p)),.iface t z] W fun e w'=>e=aZ (.tuple #[])/\P w')):
 Calls prog 243 #[.agg #[Iv0 c],bH sb] w fun e w'=>(e=aZ (.tuple #[])/\P w')\/(e=fR k/\S w'):=by
 have a:(w.alloc (.cells #[Iv0 c] 251)).heap[w.heap.size]?=some (.cells #[Iv0 c] 251 (0,0)):=aO _ _ rfl _;rw[l] at a;have B:=aB l;have o:=aB (aA (i:=0) a rfl);have h:=aC a;clear l a;go_in
 go_wp2_with fail;rw[B.out];refine(F _ (aV.refl _)).mono ?_;rintro e H ⟨rfl,b⟩;have I:=cM b.heap o;have C:=kX b.heap h;go_wp2_with fail;refine(E _ b).mono ?_;rintro e J ⟨x,d,rfl,q⟩;have v:=aB (D _ x d q);clear q;go_wp2_with fail;refine v.mono ?_;rintro e G (⟨n,m,rfl,g⟩|⟨rfl,g⟩)
 ·have u:=aB (A _ _ _ g);clear g;go_wp2_with fail;refine u.mono ?_;rintro e K ⟨rfl,y⟩;go_wp2
  go_end0;exact cl_ ⟨rfl,y⟩
 ·go_wp2_with fail;exact⟨rfl,ck_ ⟨rfl,g⟩⟩
def LR{P:Program}{b:Array Oper}{o:Oper}{a:Act}{w:aG}{K:Act->World->Prop}{Q:Exit->Act->World->Prop}{E:Prop}(c:aQ)
 (h:if Region.wanted o (yielded b a.tmps)=true then Oper.wp P o a w K Q else E) (_d:Hid False->K (a.put o.dst c) w):
 if Region.wanted o (yielded b a.tmps)=true then Oper.wp P o a w K Q else E:=h
def UF(w d:aG)(sb g n:Nat)(op:cD)(P:World->Prop)(l p:TypeId->Value->World->Prop)(h:w.alloc (.cells #[.string (bs op)] 254)=d)
 (B:Hid (∀W,aV d W->Calls prog 64 #[bH sb] W fun e w'=>e=aZ (.pointer (some (aH g n)))/\aV d w'))
 (A:Hid (∀W,aV d W->Calls prog 65 #[.pointer (some (aH g n))] W fun e w'=>∃t z,e=aZ (.iface t z)/\l t z w'))
 (q:Hid (∀W t z,l t z W->W.cell? (aH w.heap.size 0)=some (.string (bs op))/\w.heap.size<W.heap.size))
 (y:Hid (∀W t z,l t z W->Calls prog 252 #[.string (bs op),.iface t z] W fun e w'=>∃k j,e=aZ (.iface k j)/\p k j w'))
 (u:Hid (∀W t z,p t z W->Calls prog 239 #[.pointer (some (aH g n)),.iface t z] W fun e w'=>e=aZ (.tuple #[])/\P w')):
 Calls prog 251 #[.agg #[.string (bs op)],bH sb] w fun e w'=>e=aZ (.tuple #[])/\P w':=by
 have a:(w.alloc (.cells #[.string (bs op)] 254)).heap[w.heap.size]?=some (.cells #[.string (bs op)] 254 (0,0)):=aO _ _ rfl _;rw[h] at a;have v:=aB h;have m:=aB (aA (i:=0) a rfl);have f:=aC a;clear h a;go_in
 go_wp2_with fail;rw[v.out];refine(B _ (aV.refl _)).mono ?_;rintro e D ⟨rfl,b⟩;have G:=cM b.heap m;have x:=kX b.heap f;go_wp2_with fail;go_region_law (go_simp;first|(go_at_call 65;refine(A _ (b.trans (aV.drew _))).mono ?_;rintro e I ⟨t,z,rfl,o⟩;have c:=q _ _ _ o;have E:=c.1;have H:=c.2;clear c)|(go_at_call 252;refine(y _ _ _ o).mono ?_;rintro e F ⟨k,j,rfl,s⟩)|(go_at_call 239;refine(u _ _ _ s).mono ?_;rintro e C ⟨rfl,r⟩))
 all_goals
  go_wp2
  go_end0;exact⟨rfl,r⟩
def LN(w g:aG)(sb o p:Nat)(op:cD)(k:Nat)(S:World->Prop)(l:TypeId->Value->World->Prop)(j:w.alloc (.cells #[.string (bs op)] 254)=g)
 (y:Hid (∀W,aV g W->Calls prog 64 #[bH sb] W fun e w'=>e=aZ (.pointer (some (aH o p)))/\aV g w'))
 (x:Hid (∀W,aV g W->Calls prog 65 #[.pointer (some (aH o p))] W fun e w'=>∃t z,e=aZ (.iface t z)/\l t z w'))
 (q:Hid (∀W t z,l t z W->W.cell? (aH w.heap.size 0)=some (.string (bs op))/\w.heap.size<W.heap.size))
 (v:Hid (∀W t z,l t z W->Calls prog 252 #[.string (bs op),.iface t z] W fun e w'=>e=fR k/\S w')):
 Calls prog 251 #[.agg #[.string (bs op)],bH sb] w fun e w'=>e=fR k/\S w':=by
 have b:(w.alloc (.cells #[.string (bs op)] 254)).heap[w.heap.size]?=some (.cells #[.string (bs op)] 254 (0,0)):=aO _ _ rfl _;rw[j] at b;have s:=aB j;have m:=aB (aA (i:=0) b rfl);have h:=aC b;clear j b;go_in
 go_wp2_with fail;rw[s.out];refine(y _ (aV.refl _)).mono ?_;rintro e A ⟨rfl,c⟩;have D:=cM c.heap m;have u:=kX c.heap h;go_wp2_with fail;go_region_law (first|(go_simp;go_at_call 65;refine(x _ (c.trans (aV.drew _))).mono ?_;rintro e F ⟨t,z,rfl,n⟩;have d:=q _ _ _ n;have B:=d.1;have E:=d.2;clear d)|(refine LR (.iface 211 (.bool true)) ?_ ?_;(focus go_simp;go_at_call 252;refine(v _ _ _ n).mono ?_;rintro e C ⟨rfl,r⟩;exact⟨rfl,rfl,r⟩);intro a)|(refine LR (.tuple #[]) a.out.elim ?_;intro f))
 all_goals exact a.out.elim
def RE(w d:World)(sb k p c g n m:Nat)(t:TypeId)(z:Value)(P:World->Prop)(l:w.alloc (.cells #[.int .i64 c] 249)=d)
 (A:Hid (∀W,aV d W->Calls prog 64 #[.pointer (some ⟨sb,0,none⟩)] W fun e w'=>e=.returned (.pointer (some ⟨k,p,none⟩))/\aV d w'))
 (r:d.cell? ⟨k,p+4,none⟩=some (.slice (some ⟨g,0,none⟩) n m)) (q:d.cell? ⟨g,c,none⟩=some (.iface t z)) (s:c<n)
 (v:Hid (∀W,aV d W->Calls prog 239 #[.pointer (some ⟨k,p,none⟩),.iface t z] W fun e w'=>e=.returned (.tuple #[])/\P w')):
 Calls prog 242 #[.agg #[.int .i64 c],.pointer (some ⟨sb,0,none⟩)] w fun e w'=>e=.returned (.tuple #[])/\P w':=by
 have a:(w.alloc (.cells #[.int .i64 c] 249)).heap[w.heap.size]?=some (.cells #[.int .i64 c] 249 (0,0)):=aO _ _ rfl _;rw[l] at a;have x:=aB l;have f:=aB (aA (i:=0) a rfl);have h:=aC a;have j:=aB r;have o:=aB q;have I:(0:Int)<=(c:Int):=by omega
 have E:(c:Int)<(n:Int):=by omega
 clear l a r q;go_enter func242,ntmps242;go_wp2_with fail;rw[x.out];have D:=f.out;go_region_law (go_simp;first|(go_at_call 64;refine(A.out _ (by first|assumption|exact aV.drew _)).mono ?_;rintro e C ⟨rfl,b⟩;have F:=cM b.heap f.out;have y:=kX b.heap h;have G:=cM b.heap j.out;have H:=cM b.heap o.out)|(go_at_call 239;refine(v.out _ b).mono ?_;rintro e B ⟨rfl,u⟩))
 all_goals
  go_wp2_with fail;go_end0;exact⟨rfl,u⟩
def OJ(w d:World)(sb g h o:Nat)(j:Option Addr)(P:World->Prop)(q:w.alloc (.cells #[.int .i64 o,.pointer j] 233)=d)
 (C:Hid (∀W,aV d W->Calls prog 64 #[.pointer (some ⟨sb,0,none⟩)] W fun e w'=>e=.returned (.pointer (some ⟨g,h,none⟩))/\aV d w'))
 (c:∃u,d.cell? ⟨g,h+2,none⟩=some u) (f:∃u,d.cell? ⟨g,h+3,none⟩=some u) (m:d.frozen? ⟨g,h+2,none⟩=false) (l:d.frozen? ⟨g,h+3,none⟩=false) (y:g<d.heap.size)
 (z:Hid (∀W,aV d W->P ((W.setCell ⟨g,h+2,none⟩ (.int .i64 o)).setCell ⟨g,h+3,none⟩ (.pointer j)))):
 Calls prog 241 #[.agg #[.int .i64 o,.pointer j],.pointer (some ⟨sb,0,none⟩)] w fun e w'=>e=.returned (.tuple #[])/\P w':=by
 have b:(w.alloc (.cells #[.int .i64 o,.pointer j] 233)).heap[w.heap.size]?=some (.cells #[.int .i64 o,.pointer j] 233 (0,0)):=aO _ _ rfl _;rw[q] at b;have A:=aB q;have n:=aB (aA (i:=0) b rfl);have k:=aB (aA (i:=1) b rfl);have p:=aC b;obtain⟨u2,c⟩:=c;obtain⟨u3,f⟩:=f;have v:=aB c;have r:=aB f;have s:=aB m;have t:=aB l;have H:=n.out;have I:=k.out;clear q b c f m l;go_enter func241,ntmps241;go_wp2_with fail;rw[A.out];go_region_law (go_simp;go_at_call 64;refine(C.out _ (aV.drew _)).mono ?_;rintro e D ⟨rfl,a⟩;have J:=cM a.heap n.out;have G:=cM a.heap k.out;have E:=cM a.heap v.out;have F:=cM a.heap r.out;have L:=sK a.heap s.out;have K:=sK a.heap t.out;have B:=kX a.heap p;have x:=kX a.heap y)
 all_goals
  go_wp2_with fail;go_end0;exact⟨rfl,z.out _ a⟩
def lB(n:Int):aN (bG n)=1:=by rw[fJ];rfl
def mP(b:Bool):aN (bT b)=1:=by rw[fJ];rfl
def kD:aN bR<=200:=by rw[fJ];decide
def F4(op:cD)(a:aM):aN (fW op a).1<=200:=by
 unfold fW;repeat' split
 all_goals first|(show aN (bG _)<=200;rw[lB];omega)|(show aN (bT _)<=200;rw[mP];omega)|exact kD
def WY(op:cD)(x y:Int):aN (kA op x y).1<=200:=by
 unfold kA;repeat' split
 all_goals first|(show aN (bG _)<=200;rw[lB];omega)|(show aN (bT _)<=200;rw[mP];omega)|exact kD
def NF(a b:aM):aN (jZ a b).1<=200:=by
 unfold jZ;dsimp only;by_cases h:200<aN (if a.sort=3 then bA (a.l++b.l) else bO (a.s++b.s))
 ·rw[if_pos h];exact kD
 ·rw[if_neg h];exact Nat.le_of_not_lt h
def A5(op:cD)(a b:aM):aN (eZ op a b).1<=200:=by
 unfold eZ;repeat' split
 all_goals first|exact WY _ _ _|exact NF _ _|(show aN (bT _)<=200;rw[mP];omega)|exact kD
def RH(r:aM × Nat)(h:(iQ r).2=0):aN (iQ r).1<=200:=by
 unfold iQ at h ⊢
 by_cases a:r.2=0
 ·rw[if_pos a] at h ⊢
  by_cases b:200<aN r.1
  ·rw[if_pos b] at h;cases h
  ·rw[if_neg b];omega
 ·rw[if_neg a] at h;exact absurd h a
def PV.bool{F:bX}{w:aG}{v:aQ}{a:aM}(h:PV F w v a)(d:a.sort=1):a=bT (decide (a.n=1)):=by
 rcases h.cases with ⟨n,_,rfl,_⟩|⟨b,_,rfl⟩|⟨s,_,rfl⟩|⟨x,c,l,_,rfl,_⟩
 ·simp[bG] at d
 ·cases b<;>rfl
 ·simp[bO] at d
 ·simp[bA] at d
def jS{f:aJ}{vs:List aM}{a:aM}(h:f.ops=vs++[a]):f.last=a:=by simp[aJ.last,h]
def nJ{f:aJ}{vs:List aM}{a:aM}(h:f.ops=vs++[a]):f.pop.ops=vs:=by simp[aJ.pop,h]
def iV(sh:Bool)(fp:eQ)(F:bX)(base sb gf:Nat)(t0 s0:aQ)(own:List Nat)(w:aG)(below:List aJ)(tape:List Int)(out:cN)(r:aJ × Nat)(e:Ending)(w':aG):Prop:=
 p9 r.2 e/\gB sh fp F base sb gf t0 s0 own w ⟨below++[r.1],tape,out⟩ w'
def r9(fp:eQ)(F:bX)(base sb:Nat)(t0 s0:aQ)(own:List Nat)(w:aG)(below:List aJ)(tape:List Int)(out:cN)(r:aJ × Nat)(e:Ending)(w':aG):Prop:=
 p9 r.2 e/\Done fp F base sb t0 s0 own w ⟨below++[r.1],tape,out⟩ w'
section
variable {sh:Bool} {fp:eQ} {F:bX} {base:Nat} {w:aG} {sb gf cap:Nat} {t0 tv outv s0:aQ} {fvs:List FVal} {below:List aJ} {f:aJ} {tape:List Int} {out:cN}
def iV.ok{own:List Nat}{r:aJ × Nat}{g:aJ}{w':aG}(a:r=(g,0))(h:gB sh fp F base sb gf t0 s0 own w ⟨below++[g],tape,out⟩ w'):iV sh fp F base sb gf t0 s0 own w below tape out r (aZ (.tuple #[])) w':=by
 subst a;exact⟨cl_ ⟨rfl,rfl⟩,h⟩
def iV.stop{own:List Nat}{r:aJ × Nat}{g:aJ}{k:Nat}{w':aG}(b:r=(g,k))(a:k≠0)(h:gB sh fp F base sb gf t0 s0 own w ⟨below++[g],tape,out⟩ w'):iV sh fp F base sb gf t0 s0 own w below tape out r (fR k) w':=by
 subst b;exact⟨ck_ ⟨a,rfl⟩,h⟩
def iV.toP{own:List Nat}{r:aJ × Nat}{e:Ending}{w':aG}(h:iV false fp F base sb gf t0 s0 own w below tape out r e w'):r9 fp F base sb t0 s0 own w below tape out r e w':=⟨h.1,h.2.done⟩
def r9.ok{own:List Nat}{r:aJ × Nat}{g:aJ}{w':aG}(a:r=(g,0))(h:Done fp F base sb t0 s0 own w ⟨below++[g],tape,out⟩ w'):r9 fp F base sb t0 s0 own w below tape out r (aZ (.tuple #[])) w':=by
 subst a;exact⟨cl_ ⟨rfl,rfl⟩,h⟩
def r9.stop{own:List Nat}{r:aJ × Nat}{g:aJ}{k:Nat}{w':aG}(b:r=(g,k))(a:k≠0)(h:Done fp F base sb t0 s0 own w ⟨below++[g],tape,out⟩ w'):r9 fp F base sb t0 s0 own w below tape out r (fR k) w':=by
 subst b;exact⟨ck_ ⟨a,rfl⟩,h⟩
def dA.count{m:cR}(h:dA sh fp F base w sb gf cap t0 tv outv s0 fvs m):fvs.length=m.frames.length:=h.frs.length
def dA.mid(h:dA sh fp F base w sb gf cap t0 tv outv s0 fvs ⟨below++[f],tape,out⟩)(b:base<=w.heap.size)(a:Obj):dV sh fp base sb gf below.length t0 s0 (aR sh sb gf outv fvs) (w.alloc a) F ⟨below++[f],tape,out⟩ (w.alloc a):=
 dV.init h (by rw[h.count];simp) b a
def dV.topS{own:List Nat}{a:aG}{G:bX}{n:Nat}{m:cR}(h:dV sh fp base sb gf n t0 s0 own a G m a)(f:n<=15):Hid (∀W,aV a W->Calls prog 64 #[bH sb] W fun e w'=>e=aZ (.pointer (some (aH gf (n*6))))/\aV a w'):=fun W b=>by
 refine((h.same b).top f).mono ?_;rintro e w' ⟨c,d⟩;exact⟨c,b.trans d⟩
def dV.box{n:Nat}{G:bX}{m:cR}{cs:Array Value}{a:TypeId}{W:aG}(h:dA sh fp F base w sb gf cap t0 tv outv s0 fvs ⟨below++[f],tape,out⟩)(c:dV sh fp base sb gf n t0 s0 (aR sh sb gf outv fvs) (w.alloc (.cells cs a)) G m W):W.heap[w.heap.size]?=some (.cells cs a (0,0)):=by
 rw[c.old (by simp) (fun b=>Nat.lt_irrefl _ (h.lt _ b))]
 exact aO _ _ rfl _
def aU_(h:dA sh fp F base w sb gf cap t0 tv outv s0 fvs ⟨below++[f],tape,out⟩)(c:below.length<=15)(b:base<=w.heap.size)(l:f.ops.length<=99000)(d:∃j a,f.ops=j++[a]):
 Calls prog 278 #[.agg #[],bH sb] w (iV sh fp F base sb gf t0 s0 (aR sh sb gf outv fvs) w below tape out (aL .drop f)):=by
 obtain⟨j,a,m⟩:=d;have k:=h.mid b (.cells #[] 315);refine(SR w _ sb gf (below.length*6) (fun g=>gB sh fp F base sb gf t0 s0 (aR sh sb gf outv fvs) w ⟨below++[f.pop],tape,out⟩ g) rfl (k.topS c) fun W o=>?_).mono ?_
 ·refine((k.same o).pop m (by omega)).mono ?_
  rintro e g ⟨t,z,n,_,_,i⟩;exact⟨t,z,n,i.doneX (Ext.refl _ _)⟩
 ·rintro e g ⟨rfl,i⟩;exact iV.ok rfl i
def R7(h:dA sh fp F base w sb gf cap t0 tv outv s0 fvs ⟨below++[f],tape,out⟩)(l:below.length<=15)(i:base<=w.heap.size)(k:f.ops.length<=99000)(o:∃s a,f.ops=s++[a]):
 Calls prog 263 #[.agg #[],bH sb] w (iV sh fp F base sb gf t0 s0 (aR sh sb gf outv fvs) w below tape out (aL .truth f)):=by
 obtain⟨s,a,m⟩:=o;have r:=h.mid i (.cells #[] 275);have v:f.pop.ops.length<=100000:=by rw[nJ m];rw[m,cp_] at k;omega
 refine(LP w _ sb gf (below.length*6) (fun g=>a.sort=1/\gB sh fp F base sb gf t0 s0 (aR sh sb gf outv fvs) w ⟨below++[f.pop.push a],tape,out⟩ g) (fun g=>a.sort≠1/\gB sh fp F base sb gf t0 s0 (aR sh sb gf outv fvs) w ⟨below++[f.pop],tape,out⟩ g)
  (fun t z W=>PV F W (.iface t z) a/\aN a<=200/\dV sh fp base sb gf below.length t0 s0 (aR sh sb gf outv fvs) (w.alloc (.cells #[] 275)) F ⟨below++[f.pop],tape,out⟩ W)
  (fun b W=>a.sort=1/\a=bT b/\dV sh fp base sb gf below.length t0 s0 (aR sh sb gf outv fvs) (w.alloc (.cells #[] 275)) F ⟨below++[f.pop],tape,out⟩ W) rfl (r.topS l) (fun W y=>?_) (fun W t z p=>?_) (fun W b p=>?_)).mono ?_
 ·refine((r.same y).pop m (by omega)).mono ?_
  rintro e g ⟨t,z,q,c,d,j⟩;exact⟨t,z,q,c,d,j⟩
 ·obtain⟨c,d,j⟩:=p;refine(qB F _ a W c).mono ?_;rintro e g ⟨rfl,⟨n,rfl⟩|⟨n,rfl⟩⟩
  ·exact cl_ ⟨_,rfl,n,c.bool n,j⟩
  ·exact ck_ ⟨rfl,n,j.doneX (Ext.refl _ _)⟩
 ·obtain⟨c,d,j⟩:=p;rw[d] at c ⊢
  refine(j.push (PV.tru F W b) (by rw[mP];omega) v).mono ?_
  rintro e g ⟨q,u⟩;exact⟨q,c,u.doneX (Ext.refl _ _)⟩
 ·have x:aL .truth f=if a.sort=1 then (f.pop.push a,0) else (f.pop,2):=by simp[aL,jS m]
  rw[x];rintro e g (⟨rfl,c,d⟩|⟨rfl,c,d⟩)
  ·exact iV.ok (if_pos c) d
  ·exact iV.stop (if_neg c) (by decide) d
end
section
variable {sh:Bool} {fp:eQ} {F:bX} {base:Nat} {w:aG} {sb gf cap:Nat} {t0 tv outv s0:aQ} {fvs:List FVal} {below:List aJ} {f:aJ} {tape:List Int} {out:cN}
def dV.next{own:List Nat}{c:aG}{G:bX}{n:Nat}(h:dV sh fp base sb gf n t0 s0 own c G ⟨below++[f],tape,out⟩ w)(b:Nat):dV sh fp base sb gf n t0 s0 own c G ⟨below++[{ f with next:=b }],tape,out⟩ (w.setCell (aH gf (n*6+1)) (Iv0 b)):=
 h.set 1 (Iv0 b) (by omega) (fun v=>{ v with nx:=Iv0 b }) (fun _=>rfl) (fun _ _=>rfl) fun _ a=>⟨a.fn,rfl,a.ln,a.sp,a.vars,a.ops⟩
def dV.cell{own:List Nat}{e:aG}{G:bX}{n:Nat}(h:dV sh fp base sb gf n t0 s0 own e G ⟨below++[f],tape,out⟩ w)(j:Nat)(a:j<6):(∃u,w.cell? (aH gf (n*6+j))=some u)/\w.frozen? (aH gf (n*6+j))=false/\gf<w.heap.size:=by
 obtain⟨v,i,b,g⟩:=h.cells;obtain⟨d,c⟩:=g j (v.cells[j]'(by simpa [FVal.cells] using a)) (cz_ _)
 exact⟨⟨_,d⟩,c,b⟩
def aE_(b:Nat)(h:dA sh fp F base w sb gf cap t0 tv outv s0 fvs ⟨below++[f],tape,out⟩)(c:below.length<=15)(a:base<=w.heap.size):
 Calls prog 280 #[.agg #[Iv0 b],bH sb] w (iV sh fp F base sb gf t0 s0 (aR sh sb gf outv fvs) w below tape out (aL (.jump b) f)):=by
 have g:=h.mid a (.cells #[Iv0 b] 328);obtain⟨k,d,l⟩:=g.cell 1 (by omega)
 refine(RM w _ sb gf (below.length*6) b (fun i=>gB sh fp F base sb gf t0 s0 (aR sh sb gf outv fvs) w ⟨below++[{ f with next:=b }],tape,out⟩ i) rfl (g.topS c) k d l fun W j=>?_).mono ?_
 ·exact((g.same j).next b).doneX (Ext.refl _ _)
 ·rintro e i ⟨rfl,d⟩;exact iV.ok rfl d
def ZY(i:Nat)(h:dA sh fp F base w sb gf cap t0 tv outv s0 fvs ⟨below++[f],tape,out⟩)(m:below.length<=15)(j:base<=w.heap.size)(q:f.ops.length<=99000)(n:∃s a,f.ops=s++[a]):
 Calls prog 279 #[.agg #[Iv0 i],bH sb] w (iV sh fp F base sb gf t0 s0 (aR sh sb gf outv fvs) w below tape out (aL (.skip i) f)):=by
 obtain⟨s,a,u⟩:=n;have p:=h.mid j (.cells #[Iv0 i] 327)
 refine(GN w _ sb gf (below.length*6) i (fun l=>a.sort=1/\gB sh fp F base sb gf t0 s0 (aR sh sb gf outv fvs) w ⟨below++[if a.n=1 then f.pop else { f.pop with next:=i }],tape,out⟩ l) (fun l=>a.sort≠1/\gB sh fp F base sb gf t0 s0 (aR sh sb gf outv fvs) w ⟨below++[f.pop],tape,out⟩ l)
  (fun t z W=>PV F W (.iface t z) a/\aN a<=200/\dV sh fp base sb gf below.length t0 s0 (aR sh sb gf outv fvs) (w.alloc (.cells #[Iv0 i] 327)) F ⟨below++[f.pop],tape,out⟩ W)
  (fun b W=>a.sort=1/\b=decide (a.n=1)/\dV sh fp base sb gf below.length t0 s0 (aR sh sb gf outv fvs) (w.alloc (.cells #[Iv0 i] 327)) F ⟨below++[f.pop],tape,out⟩ W) rfl (p.topS m) (fun W C=>?_) (fun W t z k=>?_) (fun W k=>?_) (fun W k=>?_) (fun W b k=>?_)).mono ?_
 ·refine((p.same C).pop u (by omega)).mono ?_
  rintro e l ⟨t,z,B,c,d,g⟩;exact⟨t,z,B,c,d,g⟩
 ·obtain⟨c,d,g⟩:=k;refine(qB F _ a W c).mono ?_;rintro e l ⟨rfl,⟨o,rfl⟩|⟨o,rfl⟩⟩
  ·exact cl_ ⟨_,rfl,o,rfl,g⟩
  ·exact ck_ ⟨rfl,o,g.doneX (Ext.refl _ _)⟩
 ·obtain⟨c,d,g⟩:=k;refine⟨c,?_⟩;rw[if_pos (of_decide_eq_true d.symm)];exact g.doneX (Ext.refl _ _)
 ·obtain⟨c,d,g⟩:=k;refine⟨c,?_⟩;rw[if_neg (of_decide_eq_false d.symm)];exact(g.next i).doneX (Ext.refl _ _)
 ·obtain⟨c,d,g⟩:=k;have r:=dV.box h g;obtain⟨v,A,x⟩:=g.cell 1 (by omega)
  exact⟨aA r rfl,aC r,v,A,x⟩
 ·have y:aL (.skip i) f=if a.sort=1 then (if a.n=1 then f.pop else { f.pop with next:=i },0) else (f.pop,2):=by simp[aL,jS u]
  rw[y];rintro e l (⟨rfl,c,d⟩|⟨rfl,c,d⟩)
  ·exact iV.ok (if_pos c) d
  ·exact iV.stop (if_neg c) (by decide) d
def PW(k:Bool)(j:Nat)(h:dA sh fp F base w sb gf cap t0 tv outv s0 fvs ⟨below++[f],tape,out⟩)(r:below.length<=15)(n:base<=w.heap.size)(o:f.ops.length<=99000)(l:∃y a,f.ops=y++[a]):
 Calls prog 264 #[.agg #[.bool k,Iv0 j],bH sb] w (iV sh fp F base sb gf t0 s0 (aR sh sb gf outv fvs) w below tape out (aL (.shortcut k j) f)):=by
 obtain⟨y,a,u⟩:=l;have x:=h.mid n (.cells #[.bool k,Iv0 j] 277);have D:f.pop.ops.length<=100000:=by rw[nJ u];rw[u,cp_] at o;omega
 refine(BH w _ sb gf (below.length*6) j k (fun m=>a.sort=1/\gB sh fp F base sb gf t0 s0 (aR sh sb gf outv fvs) w ⟨below++[if decide (a.n=1)=k then { f.pop.push a with next:=j } else f.pop],tape,out⟩ m) (fun m=>a.sort≠1/\gB sh fp F base sb gf t0 s0 (aR sh sb gf outv fvs) w ⟨below++[f.pop],tape,out⟩ m)
  (fun t z W=>PV F W (.iface t z) a/\aN a<=200/\dV sh fp base sb gf below.length t0 s0 (aR sh sb gf outv fvs) (w.alloc (.cells #[.bool k,Iv0 j] 277)) F ⟨below++[f.pop],tape,out⟩ W)
  (fun b W=>a.sort=1/\b=decide (a.n=1)/\a=bT b/\dV sh fp base sb gf below.length t0 s0 (aR sh sb gf outv fvs) (w.alloc (.cells #[.bool k,Iv0 j] 277)) F ⟨below++[f.pop],tape,out⟩ W)
  (fun b W=>a.sort=1/\b=decide (a.n=1)/\dV sh fp base sb gf below.length t0 s0 (aR sh sb gf outv fvs) (w.alloc (.cells #[.bool k,Iv0 j] 277)) F ⟨below++[f.pop.push a],tape,out⟩ W) rfl (x.topS r) (fun W H=>?_) (fun W t z i=>?_) (fun W b i=>?_) (fun W b i l=>?_) (fun W b i s=>?_) (fun W b i=>?_) (fun W b i=>?_)).mono ?_
 ·refine((x.same H).pop u (by omega)).mono ?_
  rintro e m ⟨t,z,s,c,d,g⟩;exact⟨t,z,s,c,d,g⟩
 ·obtain⟨c,d,g⟩:=i;refine(qB F _ a W c).mono ?_;rintro e m ⟨rfl,⟨v,rfl⟩|⟨v,rfl⟩⟩
  ·exact cl_ ⟨_,rfl,v,rfl,c.bool v,g⟩
  ·exact ck_ ⟨rfl,v,g.doneX (Ext.refl _ _)⟩
 ·obtain⟨c,d,g,q⟩:=i;refine(q.push (a:=a) (by rw[g];exact PV.tru F W b) (by rw[g,mP];omega) D).mono ?_
  rintro e m ⟨s,C⟩;exact⟨s,c,d,C⟩
 ·obtain⟨c,d,g,q⟩:=i;refine⟨c,?_⟩;rw[if_neg (by rw[<-d];exact l)]
  exact q.doneX (Ext.refl _ _)
 ·obtain⟨c,d,g⟩:=i;refine⟨c,?_⟩;rw[if_pos (by rw[<-d];exact s)]
  exact(g.next j).doneX (Ext.refl _ _)
 ·obtain⟨c,d,g,q⟩:=i;have p:=dV.box h q;exact⟨aA p rfl,aC p⟩
 ·obtain⟨c,d,g⟩:=i;have p:=dV.box h g;obtain⟨A,G,B⟩:=g.cell 1 (by omega)
  exact⟨aA p rfl,aC p,A,G,B⟩
 ·have E:aL (.shortcut k j) f=if a.sort=1 then (if decide (a.n=1)=k then { f.pop.push a with next:=j } else f.pop,0) else (f.pop,2):=by simp[aL,jS u]
  rw[E];rintro e m (⟨rfl,c,d⟩|⟨rfl,c,d⟩)
  ·exact iV.ok (if_pos c) d
  ·exact iV.stop (if_neg c) (by decide) d
end
section
variable {sh:Bool} {fp:eQ} {F:bX} {base:Nat} {w:aG} {sb gf cap:Nat} {t0 tv outv s0:aQ} {fvs:List FVal} {below:List aJ} {f:aJ} {tape:List Int} {out:cN}
def dV.apart{own:List Nat}{d:aG}{G:bX}{n:Nat}{m:cR}(h:dV sh fp base sb gf n t0 s0 own d G m w):∀k,G k->k<w.heap.size/\k≠gf:=by
 obtain⟨l,j,f,i,c,g,o,b,p⟩:=h;exact fun k a=>⟨(b.apart k a).1,fun e=>(b.apart k a).2 (by simp[aR,e])⟩
def lC.cell{G:bX}{v:aQ}{l:List aM}{k:Nat}(h:lC G base w v l)(j:k<l.length):∃g cap t z,v=.slice (some (aH g 0)) l.length cap/\w.cell? (aH g k)=some (.iface t z)/\PV G w (.iface t z) l[k]/\aN l[k]<=200:=by
 obtain⟨⟨y,n,s,p⟩,m⟩:=h;obtain⟨u,b,f⟩:=p k j;obtain⟨t,z,rfl⟩:=f.form;rcases n.2 with ⟨x,A⟩|⟨g,c,r,rfl,o,a,e,i,q,d⟩
 ·omega
 refine⟨g,c,t,z,rfl,aA a ?_,f,m _ (cG_ _)⟩;rw[<-d,cM_] at b;split at b
 ·simpa using b
 ·cases b
def P5.cell{G:bX}{v:aQ}{l:List aM}{k:Nat}(h:P5 sh G base w v l)(a:k<l.length):∃g cap t z,v=.slice (some (aH g 0)) l.length cap/\w.cell? (aH g k)=some (.iface t z)/\PV G w (.iface t z) l[k]/\aN l[k]<=200:=by
 cases sh
 ·exact lC.cell h a
 ·obtain⟨d,c⟩:=h;rcases PVs.row d with ⟨rfl,_⟩|⟨g,cap,m,e,_,_,⟨_,f⟩,j⟩
  ·cases a
  ·obtain⟨u,i,b⟩:=f k a;obtain⟨t,z,rfl⟩:=b.form;exact⟨g,cap,t,z,e,j k _ i,b,c _ (cG_ _)⟩
def ay_(k:Nat)(h:dA sh fp F base w sb gf cap t0 tv outv s0 fvs ⟨below++[f],tape,out⟩)(d:below.length<=15)(a:base<=w.heap.size)(n:f.ops.length<=99000)(m:k<f.vars.length):
 Calls prog 242 #[.agg #[Iv0 k],bH sb] w (iV sh fp F base sb gf t0 s0 (aR sh sb gf outv fvs) w below tape out (aL (.load k) f)):=by
 have l:=h.mid a (.cells #[Iv0 k] 249);obtain⟨v,u,B,A⟩:=l.cells;obtain⟨g,c,t,z,r,q,x,y⟩:=u.vars.cell m;have o:=(A 4 v.vv rfl).1;rw[r] at o;refine(RE w _ sb gf (below.length*6) k g f.vars.length c t z (fun i=>gB sh fp F base sb gf t0 s0 (aR sh sb gf outv fvs) w ⟨below++[f.push f.vars[k]],tape,out⟩ i) rfl (l.topS d) o q m fun W p=>?_).mono ?_
 ·refine((l.same p).push (x.keep fun b _=>by rw[p.heap]) y (by omega)).mono ?_
  rintro e i ⟨s,j⟩;exact⟨s,j.doneX (Ext.refl _ _)⟩
 ·rintro e i ⟨rfl,j⟩;refine iV.ok ?_ j;simp[aL,cz_ m]
def l8(l:Nat)(sp:aQ)(s:cN)(h:dA sh fp F base w sb gf cap t0 tv outv s0 fvs ⟨below++[f],tape,out⟩)(d:below.length<=15)(c:base<=w.heap.size)(p:eF F w sp s):
 Calls prog 241 #[.agg #[Iv0 l,sp],bH sb] w (iV sh fp F base sb gf t0 s0 (aR sh sb gf outv fvs) w below tape out (aL (.begin l s) f)):=by
 obtain⟨sp,rfl⟩:=p.form;have g:=h.mid c (.cells #[Iv0 l,.pointer sp] 233);obtain⟨t,i,x⟩:=g.cell 2 (by omega)
 obtain⟨r,z,A⟩:=g.cell 3 (by omega)
 refine(OJ w _ sb gf (below.length*6) l sp (fun n=>gB sh fp F base sb gf t0 s0 (aR sh sb gf outv fvs) w ⟨below++[{ f with line:=l,seen:=s }],tape,out⟩ n) rfl (g.topS d) t r i z x fun W q=>?_).mono ?_
 ·have o:=g.same q
  have k:eF F W (.pointer sp) s:=eF.keep (fun b j=>by
   rw[q.heap];exact cq_ _ _ _ (h.apart b j).1) dX p
  have u:dV sh fp base sb gf below.length t0 s0 (aR sh sb gf outv fvs) _ F ⟨below++[{ f with line:=l }],tape,out⟩ _:=o.set 2 (Iv0 l) (by omega) (fun v=>{ v with ln:=Iv0 l }) (fun _=>rfl) (fun _ _=>rfl) fun _ a=>⟨a.fn,a.nx,rfl,a.sp,a.vars,a.ops⟩
  have m:eF F (W.setCell (aH gf (below.length*6+2)) (Iv0 l)) (.pointer sp) s:=eF.keep (fun b j=>cm_ _ _ _ _ (o.apart b j).2) dX k
  have y:dV sh fp base sb gf below.length t0 s0 (aR sh sb gf outv fvs) _ F ⟨below++[{ f with line:=l,seen:=s }],tape,out⟩ _:=u.set 3 (.pointer sp) (by omega) (fun v=>{ v with sp:=.pointer sp }) (fun _=>rfl) (fun _ _=>rfl) fun _ a=>⟨a.fn,a.nx,a.ln,m,a.vars,a.ops⟩
  exact y.doneX (Ext.refl _ _)
 ·rintro e n ⟨rfl,i⟩;exact iV.ok rfl i
def Q9(op:cD)(I:op=[45]\/op=[33])(h:dA sh fp F base w sb gf cap t0 tv outv s0 fvs ⟨below++[f],tape,out⟩)(d:below.length<=15)(g:base<=w.heap.size)(j:f.ops.length<=99000)(q:∃y a,f.ops=y++[a]):
 Calls prog 251 #[.agg #[.string (bs op)],bH sb] w (iV sh fp F base sb gf t0 s0 (aR sh sb gf outv fvs) w below tape out (aL (.unary op) f)):=by
 obtain⟨y,a,p⟩:=q;have s:=h.mid g (.cells #[.string (bs op)] 254);have K:f.pop.ops.length<=100000:=by rw[nJ p];rw[p,cp_] at j;omega
 have i:∀(W:aG) (v:aQ),PV F W v a->Calls prog 252 #[.string (bs op),v] W (mE F W (fW (op++[120]) a)):=fun W v C=>by
  rcases I with rfl|rfl
  ·exact EH 45 (cl_ rfl) F v a W C
  ·exact EH 33 (ck_ rfl) F v a W C
 have A:aL (.unary op) f=if (fW (op++[120]) a).2=0 then (f.pop.push (fW (op++[120]) a).1,0) else (f.pop,(fW (op++[120]) a).2):=by simp[aL,jS p]
 have m:=F4 (op++[120]) a;generalize fW (op++[120]) a=r at i A m;rw[A]
 have D:Hid (∀W,aV (w.alloc (.cells #[.string (bs op)] 254)) W->Calls prog 65 #[.pointer (some (aH gf (below.length*6)))] W fun e b=>∃t z,e=aZ (.iface t z)/\PV F b (.iface t z) a/\dV sh fp base sb gf below.length t0 s0 (aR sh sb gf outv fvs) (w.alloc (.cells #[.string (bs op)] 254)) F ⟨below++[f.pop],tape,out⟩ b):=fun W M=>by
  refine((s.same M).pop p (by omega)).mono ?_
  rintro e b ⟨t,z,x,H,n,L⟩;exact⟨t,z,x,H,L⟩
 by_cases l:r.2=0
 ·rw[if_pos l];refine(UF w _ sb gf (below.length*6) op (fun b=>gB sh fp F base sb gf t0 s0 (aR sh sb gf outv fvs) w ⟨below++[f.pop.push r.1],tape,out⟩ b) (fun t z W=>PV F W (.iface t z) a/\dV sh fp base sb gf below.length t0 s0 (aR sh sb gf outv fvs) (w.alloc (.cells #[.string (bs op)] 254)) F ⟨below++[f.pop],tape,out⟩ W) (fun t z W=>PV F W (.iface t z) r.1/\dV sh fp base sb gf below.length t0 s0 (aR sh sb gf outv fvs) (w.alloc (.cells #[.string (bs op)] 254)) F ⟨below++[f.pop],tape,out⟩ W) rfl (s.topS d) D (fun W t z c=>?_) (fun W t z c=>?_) (fun W t z c=>?_)).mono ?_
  ·have k:=dV.box h c.2;exact⟨aA k rfl,aC k⟩
  ·refine(i W _ c.1).mono ?_;rintro e b ⟨rfl,⟨_,u,rfl,B⟩|⟨o,_⟩⟩
   ·obtain⟨J,G,rfl⟩:=B.form;exact⟨J,G,rfl,B,c.2⟩
   ·exact absurd l o
  ·refine(c.2.push c.1 m K).mono ?_;rintro e b ⟨x,E⟩;exact⟨x,E.doneX (Ext.refl _ _)⟩
  ·rintro e b ⟨rfl,n⟩;exact iV.ok rfl n
 ·rw[if_neg l];refine(LN w _ sb gf (below.length*6) op r.2 (fun b=>gB sh fp F base sb gf t0 s0 (aR sh sb gf outv fvs) w ⟨below++[f.pop],tape,out⟩ b) (fun t z W=>PV F W (.iface t z) a/\dV sh fp base sb gf below.length t0 s0 (aR sh sb gf outv fvs) (w.alloc (.cells #[.string (bs op)] 254)) F ⟨below++[f.pop],tape,out⟩ W) rfl (s.topS d) D (fun W t z c=>?_) (fun W t z c=>?_)).mono ?_
  ·have k:=dV.box h c.2;exact⟨aA k rfl,aC k⟩
  ·refine(i W _ c.1).mono ?_;rintro e b ⟨rfl,⟨o,_⟩|⟨o,rfl⟩⟩
   ·exact absurd o l
   ·exact⟨rfl,c.2.doneX (Ext.refl _ _)⟩
  ·rintro e b ⟨rfl,n⟩;exact iV.stop rfl l n
def O9(op:cD)(h:dA sh fp F base w sb gf cap t0 tv outv s0 fvs ⟨below++[f],tape,out⟩)(C:below.length<=15)(j:base<=w.heap.size)(p:f.ops.length<=99000)(J:∃H a b,f.ops=H++[a,b]):
 Calls prog 254 #[.agg #[.string (bs op)],bH sb] w (iV sh fp F base sb gf t0 s0 (aR sh sb gf outv fvs) w below tape out (aL (.binary op) f)):=by
 obtain⟨H,a,b,n⟩:=J;have n:f.ops=(H++[a])++[b]:=by rw[n];simp
 have N:=h.mid j (.cells #[.string (bs op)] 274);have i:f.pop.ops=H++[a]:=nJ n;have A:=p;rw[n,cp_,cp_] at A;have M:f.pop.ops.length<=100000:=by rw[i,cp_];omega
 have L:f.pop.pop.ops.length<=100000:=by rw[nJ i];omega
 have O:aL (.binary op) f=if (eZ op a b).2=0 then (f.pop.pop.push (eZ op a b).1,0) else (f.pop.pop,(eZ op a b).2):=by simp[aL,jS n,jS i]
 have E:=A5 op a b;have x:∀(W:aG) (u v:aQ),PV F W u a->PV F W v b->(∀k,F k->k<W.heap.size)->aN a<=200->aN b<=200->Calls prog 255 #[.string (bs op),u,v] W (fC F W (eZ op a b)):=fun W u v c d m I y=>QP op F u v a b W c d m (by omega) (by omega)
 generalize eZ op a b=r at x O E;rw[O]
 refine(JQ w _ sb gf (below.length*6) op r.2 (fun g=>r.2=0/\gB sh fp F base sb gf t0 s0 (aR sh sb gf outv fvs) w ⟨below++[f.pop.pop.push r.1],tape,out⟩ g) (fun g=>r.2≠0/\gB sh fp F base sb gf t0 s0 (aR sh sb gf outv fvs) w ⟨below++[f.pop.pop],tape,out⟩ g)
  (fun t z W=>PV F W (.iface t z) b/\aN b<=200/\dV sh fp base sb gf below.length t0 s0 (aR sh sb gf outv fvs) (w.alloc (.cells #[.string (bs op)] 274)) F ⟨below++[f.pop],tape,out⟩ W)
  (fun t z o s W=>PV F W (.iface t z) b/\aN b<=200/\PV F W (.iface o s) a/\aN a<=200/\dV sh fp base sb gf below.length t0 s0 (aR sh sb gf outv fvs) (w.alloc (.cells #[.string (bs op)] 274)) F ⟨below++[f.pop.pop],tape,out⟩ W)
  (fun t z W=>r.2=0/\∃G,Ext F G w.heap.size/\PV G W (.iface t z) r.1/\dV sh fp base sb gf below.length t0 s0 (aR sh sb gf outv fvs) (w.alloc (.cells #[.string (bs op)] 274)) G ⟨below++[f.pop.pop],tape,out⟩ W) rfl (N.topS C) (fun W Y=>?_) (fun W t z l=>?_) (fun W t z o s l=>?_) (fun W t z o s l=>?_) (fun W t z l=>?_)).mono ?_
 ·refine((N.same Y).pop n (by omega)).mono ?_
  rintro e g ⟨t,z,D,c,d,m⟩;exact⟨t,z,D,c,d,m⟩
 ·obtain⟨c,d,m⟩:=l;refine(m.popK i M).mono ?_;rintro e g ⟨o,s,D,Q,X,S,Z⟩;exact⟨o,s,D,c.keep Z,d,Q,X,S⟩
 ·have q:=dV.box h l.2.2.2.2;exact⟨aA q rfl,aC q⟩
 ·obtain⟨c,d,m,I,y⟩:=l;refine(x W _ _ m c (fun k K=>(y.apart k K).1) I d).mono ?_
  rintro e g ⟨q,⟨B,u,rfl,P⟩|⟨B,rfl⟩⟩
  ·obtain⟨U,T,rfl⟩:=P.form;exact cl_ ⟨U,T,rfl,B,Grow F W g,⟨fun _=>cl_,fun k K=>K.imp_right fun c=>cw_ (cw_ (by simp) y.1.size) c.1⟩,P,y.grow q (fun _=>cl_) dX⟩
  ·exact ck_ ⟨rfl,B,(y.grow q dX fun _=>cl_).doneX (Ext.refl _ _)⟩
 ·obtain⟨B,G,V,c,d⟩:=l;refine(d.push c E L).mono ?_;rintro e g ⟨D,I⟩;exact⟨D,B,I.doneX V⟩
 ·rintro e g (⟨rfl,c,d⟩|⟨rfl,c,d⟩)
  ·exact iV.ok (if_pos c) d
  ·exact iV.stop (if_neg c) c d
end
section
variable {sh:Bool} {fp:eQ} {F G G':bX} {base:Nat} {w:aG} {sb gf cap:Nat} {t0 tv outv s0:aQ} {fvs:List FVal} {below:List aJ} {f:aJ} {tape:List Int} {out:cN}
def dA.more{m:cR}(h:dA sh fp G base w sb gf cap t0 tv outv s0 fvs m)(b:∀k,G k->G' k)(d:∀k,G' k->G k\/(k<w.heap.size/\k∉aR sh sb gf outv fvs)):dA sh fp G' base w sb gf cap t0 tv outv s0 fvs m:=
 ⟨h.blk,h.row,h.frs.keep (fun _ _=>rfl) b fun _ _ _ _=>rfl,h.tape.keep (fun _ _=>rfl) b,h.out,h.nodup,h.lt,fun k c=>by
   rcases d k c with a|a
   ·exact h.apart k a
   ·exact a⟩
def dA.popMany{vs us:List aM}(h:dA sh fp G base w sb gf cap t0 tv outv s0 fvs ⟨below++[f],tape,out⟩)(J:f.ops=vs++us)(u:f.ops.length<=100000):
 Calls prog 245 #[.pointer (some (aH gf (below.length*6))),Iv0 us.length] w fun e w'=>∃t B g,e=aZ t/\Kept (aR sh sb gf outv fvs) w w'/\aR sh sb gf outv g=aR sh sb gf outv fvs/\g.length=fvs.length/\dA sh fp G base w' sb gf cap t0 tv outv s0 g ⟨below++[f.popMany us.length],tape,out⟩/\
  w'.ownsRow w.heap.size 129 1 t us.length B/\gQ G w' B us/\(∀a∈us,aN a<=200)/\∀k,G k->w'.heap[k]?=w.heap[k]?:=by
 obtain⟨P,v,I,rfl,K,Q,S,p,N,k0,k1,k2,k3,k4,W⟩:=h.top;rw[<-K];obtain⟨⟨xs,d,z⟩,c⟩:=Q.ops;rw[J] at d z c;obtain⟨r,B,rfl,L,F,H,s⟩:=z.split;rw[J,cp_] at u;rw[cp_] at d;refine(wR base gf (P.length*6) vs.length us.length I v.ov r B w p W d L F (pQ s) (by omega)).mono ?_
 rintro e w' ⟨t,n,D,Z,q,O,rfl,T,C⟩;have l:(f.popMany us.length).ops=vs:=by simp[aJ.popMany,J]
 have M:=h.grow q dX (fun _ h=>cl_ h)
 have E:OP sh fp G base D { v with ov:=n } (f.popMany us.length):=by
  have m:∀b,G b->D.heap[b]?=w.heap[b]?:=fun b o=>q.block b (h.apart b o).1
  have A:∀k∈(v.ownX sh),k<w.heap.size:=fun k m=>h.lt k (by simp[aR,cA,m])
  have i:=Q.keep m dX fun k Y=>q.block k (A k Y)
  refine⟨i.fn,i.nx,i.ln,i.sp,i.vars,⟨r,?_,?_⟩,fun b o=>c b (cC_ _ (by rw[l] at o;exact o))⟩
  ·rw[l];exact aW T fun k e=>q.block k (A k (by rw[C] at e;simp[FVal.ownX,e]))
  ·rw[l];exact H.keep m
 obtain⟨V,q2⟩:=M.setTop (j:=5) (x:=n) (v':={ v with ov:=n }) (by omega) rfl (by simp[FVal.ownX,C]) E
 have U:gf<w.heap.size:=aC p
 have y:∀k,G k->(D.setCell (aH gf (P.length*6+5)) n).heap[k]?=w.heap[k]?:=fun k m=>by
  rw[cm_ _ _ _ _ fun e=>(h.apart k m).2 (by simp[aR,e]),q.block k (h.apart k m).1]
 refine⟨t,B,_,Z,(Kept.of_below q).trans q2 fun x X=>cl_ X,by simp[aR,cA,FVal.ownX,C],by simp,V,aW O fun k m=>cm_ _ _ _ _ ?_,s.keep y,fun a ha=>c a (cI_ _ ha),y⟩
 have:=cS O k m;show k≠gf
 omega
def dV.popMany{own:List Nat}{q:aG}{n:Nat}{vs us:List aM}(h:dV sh fp base sb gf n t0 s0 own q G ⟨below++[f],tape,out⟩ w)(F:n=below.length)(B:f.ops=vs++us)(g:f.ops.length<=100000):
 Calls prog 245 #[.pointer (some (aH gf (n*6))),Iv0 us.length] w fun e w'=>∃x d,e=aZ (.slice x us.length d)/\∃G',Ext G G' w.heap.size/\PVs G' w' (.slice x us.length d) us/\(∀a∈us,aN a<=200)/\dV sh fp base sb gf n t0 s0 own q G' ⟨below++[f.popMany us.length],tape,out⟩ w'/\∀k,G k->w'.heap[k]?=w.heap[k]?:=by
 obtain⟨A,t,l,y,j,D,E,o,p⟩:=h;subst F;refine(o.popMany B g).mono ?_;rintro e w' ⟨J,K,c,H,m,s,z,I,i,C,v,u⟩;obtain⟨x,d,rfl⟩:=dE i;refine⟨x,d,H,fun k=>G k\/(Value.slice x us.length d).ownBlock=some k,⟨fun _=>cl_,fun k b=>b.imp_right fun e=>cS i k e⟩,PVs.ofRow i (C.mono fun _=>cl_) fun _=>ck_,v,⟨A.trans m p,cw_ t m.size,l,y,j,c,by rw[z,E],I.more (fun _=>cl_) fun k b=>?_,by rw[s];exact p⟩,u⟩
 rcases b with b|b
 ·exact cl_ b
 ·refine ck_ ⟨cP i k b,fun r=>?_⟩
  rw[s] at r;have:=o.lt k r;have:=cS i k b;omega
def az_(vs us:List aM)(h:dA sh fp F base w sb gf cap t0 tv outv s0 fvs ⟨below++[f],tape,out⟩)(q:below.length<=15)(k:base<=w.heap.size)(i:f.ops.length<=99000)(p:f.ops=vs++us):
 Calls prog 243 #[.agg #[Iv0 us.length],bH sb] w (iV sh fp F base sb gf t0 s0 (aR sh sb gf outv fvs) w below tape out (aL (.list us.length) f)):=by
 have A:=h.mid k (.cells #[Iv0 us.length] 251);have L:f.many us.length=us:=by simp[aJ.many,p]
 have r:(f.popMany us.length).ops=vs:=by simp[aJ.popMany,p]
 have H:(f.popMany us.length).ops.length<=100000:=by rw[r];rw[p,cp_] at i;omega
 have J:us.length<=99000:=by rw[p,cp_] at i;omega
 have I:aL (.list us.length) f=if aN (bA us)<=200 then ((f.popMany us.length).push (bA us),0) else (f.popMany us.length,6):=by
  simp only[aL,L,iQ,if_true];by_cases D:200<aN (bA us)
  ·rw[if_pos D];exact(if_neg (by omega)).symm
  ·rw[if_neg D];exact(if_pos (by omega)).symm
 rw[I]
 refine(RF w _ sb gf (below.length*6) us.length 6 (fun j=>aN (bA us)<=200/\gB sh fp F base sb gf t0 s0 (aR sh sb gf outv fvs) w ⟨below++[(f.popMany us.length).push (bA us)],tape,out⟩ j) (fun j=>¬aN (bA us)<=200/\gB sh fp F base sb gf t0 s0 (aR sh sb gf outv fvs) w ⟨below++[f.popMany us.length],tape,out⟩ j)
  (fun x d W=>∃G,Ext F G w.heap.size/\PVs G W (.slice x us.length d) us/\(∀a∈us,aN a<=200)/\dV sh fp base sb gf below.length t0 s0 (aR sh sb gf outv fvs) (w.alloc (.cells #[Iv0 us.length] 251)) G ⟨below++[f.popMany us.length],tape,out⟩ W)
  (fun t z W=>aN (bA us)<=200/\∃G,Ext F G w.heap.size/\PV G W (.iface t z) (bA us)/\dV sh fp base sb gf below.length t0 s0 (aR sh sb gf outv fvs) (w.alloc (.cells #[Iv0 us.length] 251)) G ⟨below++[f.popMany us.length],tape,out⟩ W) rfl (A.topS q) (fun W C=>?_) (fun W x d u=>?_) (fun W t z u=>?_)).mono ?_
 ·refine((A.same C).popMany rfl p (by omega)).mono ?_
  rintro e j ⟨x,d,y,G,g,c,v,m,_⟩;exact⟨x,d,y,G,g.le (by rw[C.heap];simp),c,v,m⟩
 ·obtain⟨G,g,c,v,m⟩:=u
  have n:∀l:List aM,(∀a∈l,aN a<=200)->(l.map aN).sum<=200*l.length:=fun l=>by
   induction l with
   |nil=>simp
   |cons a l M=>intro B;have O:=B a (by simp);have N:=M fun b E=>B b (by simp[E]);simp;omega
  have s:aN (bA us)<=1000000000:=by
   have:=n us v;rw[fJ];simp[bA];omega
  refine(MT G x d us W c s).mono ?_;rintro e j ⟨rfl,⟨o,rfl⟩|⟨o,rfl⟩⟩
  ·exact cl_ ⟨_,_,rfl,o,G,g,PV.lst c,m⟩
  ·exact ck_ ⟨rfl,by omega,m.doneX g⟩
 ·obtain⟨o,G,K,g,c⟩:=u;refine(c.push g o H).mono ?_;rintro e j ⟨y,m⟩;exact⟨y,o,m.doneX K⟩
 ·rintro e j (⟨rfl,g,c⟩|⟨rfl,g,c⟩)
  ·exact iV.ok (if_pos g) c
  ·exact iV.stop (if_neg g) (by decide) c
end
end Go.Proofs.YtmjbnmpamlainaaGreatDoor
