/- Contracts of the program: an operation of two values. -/
import Derived.Test.YthbffcmfmjpncaaGreatDoorB05c
import Derived.Test.YthbffcmfmjpncaaGreatDoorP10c
set_option linter.defProp false
set_option maxRecDepth 100000
set_option maxHeartbeats 4000000
namespace Go.Proofs.YthbffcmfmjpncaaGreatDoor
open Hs
open _root_.Go.Proofs.Tryz
open Go.RowKit
variable{op:List UInt8}{xs:List Value}{l:List aJ}{b_ gf sb:Nat}{F G:Nat->Prop}{c u v:Value}{W w w':World}{f:aI}{a:aJ}
def eO.ofQ{r:aJ × Nat}{e:Ending}(h:lH F w r e w'):eO F w r e w':=by
 obtain⟨rfl,⟨b,u,a,c⟩|⟨b,a⟩⟩:=h
 ·exact⟨eh _ _,d6 ⟨b,u,a,c.mono λ_ d=>d6 d⟩⟩
 ·exact⟨eh _ _,d5 ⟨b,a⟩⟩
def I6(b:op≠[61,61])(a:op≠[33,61])(n m:Int):eN op (aW n) (aW m)=jH op n m:=by
 unfold eN;rw[if_neg b,if_neg a,if_neg (by simp[aW]),if_pos (by simp[aW])];rfl
def I5(i:op≠[61,61])(g:op≠[33,61])(a b:List UInt8):eN op (bI a) (bI b)=IL op a b:=by
 unfold eN IL jG;rw[if_neg i,if_neg g,if_neg (by simp[bI]),if_neg (by simp[bI])]
 by_cases c:op=[60]
 ·rw[if_neg (by rw[c];decide),if_pos ⟨rfl,c⟩,if_pos c];rfl
 by_cases d:op=[60,61]
 ·rw[if_neg (by rw[d];decide),if_neg (λh=>c h.2),if_pos ⟨rfl,d⟩,if_neg c,if_pos d];rfl
 by_cases f:op=[43]
 ·rw[if_pos f,if_neg c,if_neg d,if_pos f];have e:(if (bI a).sort=3 then aT ((bI a).l++(bI b).l) else bI ((bI a).s++(bI b).s))=bI (a++b):=rfl
  simp only[e]
 ·rw[if_neg f,if_neg (λh=>c h.2),if_neg (λh=>d h.2),if_neg c,if_neg d,if_neg f]
def YD(f:op≠[61,61])(d:op≠[33,61])(a b:List aJ):eN op (aT a) (aT b)=wW op a b:=by
 unfold eN wW jG;rw[if_neg f,if_neg d,if_neg (by simp[aT]),if_neg (by simp[aT])]
 by_cases c:op=[43]
 ·rw[if_pos c,if_pos c];have e:(if (aT a).sort=3 then aT ((aT a).l++(aT b).l) else bI ((aT a).s++(aT b).s))=aT (a++b):=rfl
  simp only[e]
 ·rw[if_neg c,if_neg c,if_neg (by simp[aT]),if_neg (by simp[aT])]
def gB(d:op≠[61,61])(c:op≠[33,61]){b:aJ}(h:a.sort≠b.sort\/a.sort=1):eN op a b=(bL,2):=by
 unfold eN;rw[if_neg d,if_neg c,if_pos h]
def PJ(op:List UInt8)(F:Nat->Prop)(u v:Value)(a b:aJ)(w:World)(m:PV F w u a)(j:PV F w v b)(p:∀k,F k->k<w.heap.size)(d:aK a<=400000)(i:aK b<=400000):
 Calls prog 306 #[.string (bs op),u,v] w (eO F w (eN op a b)):=by
 have y:=cE op;by_cases f:op=[61,61]
 ·have X:((bs op).toList==[61,61])=true:=by rw[y,f];rfl
  have H:Hid (eN op a b=(bM (cG a b),0)):=by show _=_;unfold eN;rw[if_pos f]
  have L:=aB (tU F 400000 u v a b w m j d o_ o_)
  obtain⟨t,z,rfl⟩:=m.form;obtain⟨Z,z',rfl⟩:=j.form;clear m j y f;rw[H.out];generalize cG a b=s at*;go_enter func306,ntmps306;go_wp2_with fail;refine L.out.mono ?_;rintro e O ⟨rfl,rfl⟩;go_wp2_with fail;go_ret;exact eO.ok (eh _ _) rfl (PV.tru _ _ s)
 have X:((bs op).toList==[61,61])=false:=by rw[y];simpa using f
 by_cases g:op=[33,61]
 ·have e1:((bs op).toList==[33,61])=true:=by rw[y,g];rfl
  have H:Hid (eN op a b=(bM (!cG a b),0)):=by show _=_;unfold eN;rw[if_neg f,if_pos g]
  have L:=aB (tU F 400000 u v a b w m j d o_ o_)
  obtain⟨t,z,rfl⟩:=m.form;obtain⟨Z,z',rfl⟩:=j.form;clear m j y f g;rw[H.out];generalize cG a b=s at*;go_enter func306,ntmps306;go_wp2_with fail;refine L.out.mono ?_;rintro e O ⟨rfl,rfl⟩;go_wp2_with fail;go_ret;exact eO.ok (eh _ _) rfl (PV.tru _ _ (!s))
 have e1:((bs op).toList==[33,61])=false:=by rw[y];simpa using g
 clear y;rcases m.cases with ⟨n,rfl,rfl,h1,Y⟩|⟨s,rfl,rfl⟩|⟨s,rfl,rfl⟩|⟨x,c,l,rfl,rfl,W⟩
 ·have T:=lK;rcases j.cases with ⟨M,rfl,rfl,J,I⟩|⟨G,rfl,rfl⟩|⟨G,rfl,rfl⟩|⟨Q,P,N,rfl,rfl,D⟩
  ·have q:=lK;rw[I6 f g];have L:=aB (ZH op F n M w h1 Y J I);generalize jH op n M=r at*;clear m j p f g d i;go_enter func306,ntmps306;go_wp2_with fail;refine L.out.mono ?_;rintro e O ⟨rfl,⟨o,u1,rfl,B⟩|⟨o,rfl⟩⟩
   ·have H:=aB B;have E:=aB o;obtain⟨V,U,rfl⟩:=B.form;clear B o;go_wp2_with fail;go_ret;exact eO.ofQ ⟨rfl,d6 ⟨E.out,_,rfl,H.out⟩⟩
   ·have E:=aB o;clear o;go_wp2_with fail;exact⟨rfl,eO.ofQ ⟨rfl,d5 ⟨E.out,rfl⟩⟩⟩
  ·have q:=kN;rw[gB f g (by simp[aW,bM])]
   clear m j p f g d i;go_enter func306,ntmps306;go_wp2_with fail;exact⟨rfl,eO.stop (eh _ _) rfl d_⟩
  ·have q:=lJ;rw[gB f g (by simp[aW,bI])]
   clear m j p f g d i;go_enter func306,ntmps306;go_wp2_with fail;exact⟨rfl,eO.stop (eh _ _) rfl d_⟩
  ·have q:=kL;rw[gB f g (by simp[aW,aT])]
   clear m j p f g d i;go_enter func306,ntmps306;go_wp2_with fail;exact⟨rfl,eO.stop (eh _ _) rfl d_⟩
 ·have T:=kN;have A:=kM;have C:=gQ;rcases j.cases with ⟨M,rfl,rfl,J,I⟩|⟨G,rfl,rfl⟩|⟨G,rfl,rfl⟩|⟨Q,P,N,rfl,rfl,D⟩
  ·have q:=lK;rw[gB f g (by simp[bM,aW])]
   clear m j p f g d i;go_enter func306,ntmps306;go_wp2_with fail;exact⟨rfl,eO.stop (eh _ _) rfl d_⟩
  ·have q:=kN;rw[gB f g (by simp[bM])]
   clear m j p f g d i;go_enter func306,ntmps306;go_wp2_with fail;exact⟨rfl,eO.stop (eh _ _) rfl d_⟩
  ·have q:=lJ;rw[gB f g (by simp[bM,bI])]
   clear m j p f g d i;go_enter func306,ntmps306;go_wp2_with fail;exact⟨rfl,eO.stop (eh _ _) rfl d_⟩
  ·have q:=kL;rw[gB f g (by simp[bM,aT])]
   clear m j p f g d i;go_enter func306,ntmps306;go_wp2_with fail;exact⟨rfl,eO.stop (eh _ _) rfl d_⟩
 ·have T:=lJ;have A:=kG;rcases j.cases with ⟨M,rfl,rfl,J,I⟩|⟨G,rfl,rfl⟩|⟨G,rfl,rfl⟩|⟨Q,P,N,rfl,rfl,D⟩
  ·have q:=mR;rw[gB f g (by simp[bI,aW])]
   clear m j p f g d i;go_enter func306,ntmps306;go_wp2_with fail;exact⟨rfl,eO.stop (eh _ _) rfl d_⟩
  ·have q:=kM;rw[gB f g (by simp[bI,bM])]
   clear m j p f g d i;go_enter func306,ntmps306;go_wp2_with fail;exact⟨rfl,eO.stop (eh _ _) rfl d_⟩
  ·have q:=kG;rw[I5 f g];rw[kT] at d i;have L:=aB (ZC op F s G w o_)
   generalize IL op s G=r at*;clear m j p f g d i;go_enter func306,ntmps306;go_wp2_with fail;refine L.out.mono ?_;rintro e O ⟨rfl,⟨o,u1,rfl,B⟩|⟨o,rfl⟩⟩
   ·have H:=aB B;have E:=aB o;obtain⟨V,U,rfl⟩:=B.form;clear B o;go_wp2_with fail;go_ret;exact eO.ofQ ⟨rfl,d6 ⟨E.out,_,rfl,H.out⟩⟩
   ·have E:=aB o;clear o;go_wp2_with fail;exact⟨rfl,eO.ofQ ⟨rfl,d5 ⟨E.out,rfl⟩⟩⟩
  ·have q:=lX;rw[gB f g (by simp[bI,aT])]
   clear m j p f g d i;go_enter func306,ntmps306;go_wp2_with fail;exact⟨rfl,eO.stop (eh _ _) rfl d_⟩
 ·have T:=kL;have A:=lX;have C:=gP;rcases j.cases with ⟨M,rfl,rfl,J,I⟩|⟨G,rfl,rfl⟩|⟨G,rfl,rfl⟩|⟨Q,P,N,rfl,rfl,D⟩
  ·have q:=jC;rw[gB f g (by simp[aT,aW])]
   clear m j p f g d i;go_enter func306,ntmps306;go_wp2_with fail;exact⟨rfl,eO.stop (eh _ _) rfl d_⟩
  ·have q:=gQ;rw[gB f g (by simp[aT,bM])]
   clear m j p f g d i;go_enter func306,ntmps306;go_wp2_with fail;exact⟨rfl,eO.stop (eh _ _) rfl d_⟩
  ·have q:=kK;rw[gB f g (by simp[aT,bI])]
   clear m j p f g d i;go_enter func306,ntmps306;go_wp2_with fail;exact⟨rfl,eO.stop (eh _ _) rfl d_⟩
  ·have q:=gP;rw[YD f g];have L:=aB (UE op F x Q c P l N w W D p o_)
   generalize wW op l N=r at*;clear m j p f g d i W D;go_enter func306,ntmps306;go_wp2_with fail;refine L.out.mono ?_;rintro e O ⟨K,⟨o,u1,rfl,B⟩|⟨o,rfl⟩⟩
   ·have H:=aB B;have E:=aB o;have S:=aB K;obtain⟨V,U,rfl⟩:=B.form;clear B o K;go_wp2_with fail;go_ret;exact⟨S.out,d6 ⟨E.out,_,rfl,H.out⟩⟩
   ·have E:=aB o;have S:=aB K;clear o K;go_wp2_with fail;exact⟨rfl,S.out,d5 ⟨E.out,rfl⟩⟩
structure Chg(gf:Nat)(row:Option Nat)(w w':World):Prop where
 os:w'.os=w.os
 tape:w'.tape=w.tape
 output:w'.output=w.output
 size:w.heap.size<=w'.heap.size
 block:∀k,k<w.heap.size->k≠gf->some k≠row->w'.heap[k]?=w.heap[k]?
def DJ(w:World)(u:Value):∀j v,([u]:List Value)[j]?=some v->(w.alloc (.cells #[u] 180)).cell? ((⟨w.heap.size,0,none⟩:Addr).add j)=some v:=by
 intro j v a;match j,a with
 |0,a=>simp at a;subst a;simp[Addr.add,go_sem]
 |j+1,a=>simp at a
def wU(t:TypeId)(z:Value):∀u∈([.iface t z]:List Value),u.oneCell'=true:=by
 intro u a;simp at a;rw[a];rfl
def wZ(b_ gf o n:Nat)(cur:Array Value)(s:Value)(xs:List Value)(t:TypeId)(z:Value)(w:World)(u:w.heap[gf]?=some (.cells cur 136 (0,0)))(H:cur[o+5]?=some s)(d:w.ownsRow b_ 180 1 s n xs)(l:s.ownBlock≠some gf)(A:b_<=w.heap.size)(V:n<=1000000):
 Calls prog 281 #[.pointer (some ⟨gf,o,none⟩),.iface t z] w λe w'=>e=.returned (.tuple #[])/\∃j,w'.heap[gf]?=some (.cells (cur.setIfInBounds (o+5) j) 136 (0,0))/\w'.ownsRow b_ 180 1 j (n+1) (xs++[.iface t z])/\(∀k,j.ownBlock=some k->s.ownBlock=some k\/w.heap.size<=k)/\Chg gf s.ownBlock w w':=by
 obtain⟨O,S,v,B,D⟩:=info_parts mY;obtain⟨x,c,rfl⟩:=cV d;have G:=aD u;have U:=aA u H;have P:=aB d;have M:=aB u;have r:=aB l;clear d u l;go_enter func281,ntmps281;go_wp2_with (at_builtin;refine wpList_append_lies _ r_ _ _ 134 r_ b_ 180 O _ 1 16 underlying134 S v B D rfl d_ (.slice x n c) n xs r_ (P.out.alloc _) ⟨w.heap.size,0,none⟩ 1 1 [.iface t z] r_ r_ (DJ w _) (wU t z) d_ (by unfold maxLen;omega) o_ t_ (w.heap.size+1) s_ ?_)
 intro C q J g b f L
 have a:J.heap[gf]?=some (.cells cur 136 (0,0)):=by
  rw[b.block gf t_ (λe=>r.out e.symm),eq _ _ _ G];exact M.out
 have Q:=aA a H;have T:=aE a (i:=o+5);have I:=aD a
 have F:C≠gf:=by
  rcases f with h|h
  ·exact λe=>r.out (by rw[<-e];exact h)
  ·omega
 have HOWN:=aB g;have p:=aB b;have y:=aB f;have E:=aB a;clear g b f a;go_wp2_with fail;go_end0;refine⟨rfl,.slice (some ⟨C,0,none⟩) (n+1) q,aQ E.out,?_,?_,?_⟩
 ·exact aX HOWN.out λk m=>ej _ _ _ _ (by cases m;exact F)
 ·intro k m;cases m;rcases y.out with h|h
  ·exact d6 h
  ·exact d5 (by show w.heap.size<=C;omega)
 ·refine⟨p.out.os.trans rfl,p.out.tape.trans rfl,p.out.output.trans rfl,em s_ (em p.out.size s_),λk m N K=>?_⟩
  rw[ej _ _ _ _ N,p.out.block k t_ K,eq _ _ _ m]
def QT(b_ gf o n:Nat)(cur:Array Value)(r:Value)(xs:List Value)(u:Value)(w:World)(l:w.heap[gf]?=some (.cells cur 136 (0,0)))(x:cur[o+5]?=some r)(d:w.ownsRow b_ 180 1 r (n+1) (xs++[u]))(s:xs.length=n)(y:∃t z,u=.iface t z)(G:n<=1000000):
 Calls prog 114 #[.pointer (some ⟨gf,o,none⟩)] w λe w'=>e=.returned u/\∃j,w'=w.setCell ⟨gf,o+5,none⟩ j/\w.ownsRow b_ 180 1 j n xs/\j.ownBlock=r.ownBlock:=by
 obtain⟨t,z,rfl⟩:=y;rcases d.2 with ⟨C,H⟩|⟨g,c,k,rfl,p,a,v,m,q,f⟩
 ·omega
 have B:=aD l;have F:=aA l x;have E:=aE l (i:=o+5);have A:=aD a
 have b:k[n]?=some (.iface t z):=by
  have:(xs++[Value.iface t z])[n]?=some (.iface t z):=by rw[<-s];simp
  rw[<-f,fm,if_pos o_] at this
  simpa using this
 have I:=aA a b
 have HOWN:Hid (w.ownsRow b_ 180 1 (.slice (some ⟨g,0,none⟩) n c) n xs):=by
  refine⟨by rw[s];omega,d5 ⟨g,c,k,rfl,p,a,o_,m,q,?_⟩⟩
  have:=congrArg (List.take n) f;rw[ir] at this;rw[show min n ((n+1)*1)=n by omega] at this
  rw[je,this,<-s];simp
 have J:(0:Int)<=n:=o_
 have D:(n:Int)<(n:Int)+1:=o_
 have K:(n:Int)<=c:=o_
 clear d l x a f b;go_enter func114,ntmps114;go_wp2_with fail;go_ret;exact⟨rfl,_,rfl,HOWN.out,rfl⟩
def KD(sb gf n a:Nat)(w:World)(d:w.cell? ⟨sb,1,none⟩=some (.slice (some ⟨gf,0,none⟩) (n+1) a))(f:n<=1000):
 Calls prog 95 #[.pointer (some ⟨sb,0,none⟩)] w λe w'=>e=.returned (.pointer (some ⟨gf,n*6,none⟩))/\∃q,w'=w.drewN q:=by
 have b:(0:Int)<=(n:Int):=o_
 have c:(n:Int)<(n:Int)+1:=o_
 go_enter func95,ntmps95;go_wp2_with fail;go_quiet (fail)
 go_wp2_with fail;go_ret;exact⟨rfl,_,rfl⟩
def D0(gf o j g n b k:Nat)(cur:Array Value)(l u:Value)(w:World)(a:w.heap[gf]?=some (.cells cur 136 (0,0)))(d:cur[o]?=some (.pointer (some ⟨j,0,none⟩)))(f:cur[o+1]?=some (.int .i64 k))
 (c:w.heap[j]?=some (.cells #[l,.slice (some ⟨g,0,none⟩) n b] 174 (0,0))) (B:w.cell? ⟨g,k,none⟩=some u) (p:∃t z,u=.iface t z) (s:k<n) (C:n<=1000000):
 Calls prog 152 #[.pointer (some ⟨gf,o,none⟩)] w λe w'=>e=.returned u/\∃q,w'=(w.drewN q).setCell ⟨gf,o+1,none⟩ (.int .i64 ((k+1:Nat):Int)):=by
 obtain⟨t,z,rfl⟩:=p;have r:=aD a;have m:=aD c;have E:=aA a d;have A:=aA a f;have v:=aE a (i:=o+1);have x:=aA c (i:=1) rfl;have D:(0:Int)<=(k:Int):=o_
 have y:(k:Int)<(n:Int):=o_
 clear a c d f;go_enter func152,ntmps152;go_wp2_with fail;go_quiet (fail)
 go_wp2_with fail;go_ret;exact⟨rfl,_,by congr 2⟩
def vG(b_ gf o n k:Nat)(cur:Array Value)(I:Value)(xs r:List Value)(w:World)(v:w.heap[gf]?=some (.cells cur 136 (0,0)))(G:cur[o+5]?=some I)(d:w.ownsRow b_ 180 1 I (n+k) (xs++r))(A:xs.length=n)(U:r.length=k)(S:∀u∈r,u.oneCell'=true)(hn:n+k<=1000000):
 Calls prog 287 #[.pointer (some ⟨gf,o,none⟩),.int .i64 k] w λe w'=>∃B t b,e=.returned B/\Below w.heap.size w b/\b.ownsRow w.heap.size 180 1 B k r/\w'=b.setCell ⟨gf,o+5,none⟩ t/\w.ownsRow b_ 180 1 t n xs/\t.ownBlock=I.ownBlock:=by
 have K:=aD v;have c5:=aA v G;have f5:=aE v (i:=o+5);have e1:(0:Int)<=(n:Int):=o_
 have Z:(n:Int)<=(n:Int)+(k:Int):=o_
 rcases d.2 with ⟨rfl,r2⟩|⟨g,c,J,rfl,E,p,L,C,H,s⟩
 ·obtain⟨rfl,rfl⟩:n=0/\k=0:=o_
  obtain rfl:=ge A;obtain rfl:=ge U;have F:=aB (sX w);clear d v G;go_enter func287,ntmps287;go_wp2_with fail;refine F.out.mono ?_;rintro e b ⟨rfl,rfl⟩;go_wp2_with fail;go_ret;exact⟨_,_,_,rfl,eh _ _,World.ownsRow_nil _ _ _ _,rfl,World.ownsRow_nil _ _ _ _,rfl⟩
 ·have e3:(n:Int)<=(c:Int):=o_
  have e4:(n:Int)+(k:Int)<=(c:Int):=o_
  have X:((n+k:Nat):Int)-(k:Int)=(n:Int):=o_
  have F:Hid (∀f q,f=n\/k=0->Calls prog 199 #[.slice (some ⟨g,f,none⟩) k q] w λe w'=>∃y x,e=.returned (.slice y k x)/\w'.ownsRow w.heap.size 180 1 (.slice y k x) k r/\Below w.heap.size w w'):=λf q z=>by
   refine(sY g f k q r w o_ o_ (λj u N=>?_) S).mono ?_
   ·have P:j<r.length:=(gr.1 N).1;rcases z with rfl|Y
    ·refine aA p ?_;have M:(xs++r)[f+j]?=some u:=by rw[gh o_,A,ip];exact N
     rw[<-s,fm,if_pos o_] at M
     simpa using M
    ·omega
   ·rintro e b ⟨B,rfl,l,m⟩;obtain⟨y,x,rfl⟩:=cV l;exact⟨y,x,rfl,l,m⟩
  have HOWN:Hid (∀q,q=c->w.ownsRow b_ 180 1 (.slice (some ⟨g,0,none⟩) n q) n xs):=by
   rintro q rfl;refine⟨by rw[A];omega,d5 ⟨g,q,J,rfl,E,p,o_,C,H,?_⟩⟩
   have:=congrArg (List.take n) s;rw[ir] at this;rw[show min n ((n+k)*1)=n by omega] at this
   rw[je,this,<-A];simp
  have Q:Hid (∀b,Below w.heap.size w b->b.heap[gf]?=some (.cells cur 136 (0,0))):=λb h=>by rw[h.block gf K];exact v
  clear d v p s;go_enter func287,ntmps287;go_wp2_with fail
  all_goals
   refine(F.out _ _ o_).mono ?_
   rintro e b ⟨y,x,rfl,l,m⟩;have a:=Q.out b m;have O:=aD a;have V:=aA a G;have W:=aE a (i:=o+5);have T:=aB l;have D:=aB m;clear l m a;go_wp2_with fail;go_ret;exact⟨_,_,b,rfl,D.out,T.out,rfl,HOWN.out _ (by first|rfl|omega),rfl⟩
def eW(F:Nat->Prop)(w:World):Value->List (List UInt8)->Prop
 |v,[]=>v=.pointer none
 |v,x::l=>∃b o,v=.pointer (some ⟨b,0,none⟩)/\F b/\w.heap[b]?=some (.cells #[.string (bs x),.int .i64 l.length,o] 177 (0,0))/\eW F w o l
def eW.keep(a:∀b,F b->w'.heap[b]?=w.heap[b]?)(d:∀b,F b->G b):∀{l:List (List UInt8)} {v:Value},eW F w v l->eW G w' v l
 |[],_,h=>h
 |_::_,_,⟨b,o,f,c,g,e⟩=>⟨b,o,f,d b c,by rw[a b c];exact g,eW.keep a d e⟩
def eW.form{l:List (List UInt8)}(h:eW F w v l):∃p,v=.pointer p:=by
 cases l with
 |nil=>exact⟨none,h⟩
 |cons x l=>obtain⟨b,o,a,_⟩:=h;exact⟨_,a⟩
def lI(fp:Nat->Value)(F:Nat->Prop)(w:World)(v:Value):aH->Prop
 |.begin l s=>∃sp,v=.iface 251 (.agg #[.int .i64 l,sp])/\eW F w sp s
 |.push a=>∃u,v=.iface 242 (.agg #[u])/\PV F w u a/\aK a<=200
 |.load k=>v=.iface 312 (.agg #[.int .i64 k])
 |.declare k=>v=.iface 342 (.agg #[.int .i64 k])
 |.assign k n=>v=.iface 344 (.agg #[.int .i64 k,.int .i64 n])
 |.jump t=>v=.iface 367 (.agg #[.int .i64 t])
 |.skip t=>v=.iface 366 (.agg #[.int .i64 t])
 |.shortcut b t=>v=.iface 353 (.agg #[.bool b,.int .i64 t])
 |.truth=>v=.iface 351 (.agg #[])
 |.unary op=>v=.iface 317 (.agg #[.string (bs op)])
 |.binary op=>v=.iface 350 (.agg #[.string (bs op)])
 |.index=>v=.iface 315 (.agg #[])
 |.list n=>v=.iface 314 (.agg #[.int .i64 n])
 |.length=>v=.iface 354 (.agg #[])
 |.read=>v=.iface 355 (.agg #[])
 |.call k n=>v=.iface 357 (.agg #[fp k,.int .i64 n])
 |.give=>v=.iface 244 (.agg #[])
 |.drop=>v=.iface 348 (.agg #[])
 |.print=>v=.iface 347 (.agg #[])
def lI.keep{e:Nat->Value}{i:aH}(h:lI e F w v i)(d:∀b,F b->w'.heap[b]?=w.heap[b]?)(f:∀b,F b->G b):lI e G w' v i:=by
 cases i<;>first
  |exact h
  |(obtain⟨g,c,a⟩:=h;exact⟨g,c,eW.keep d f a⟩)
  |(obtain⟨u,c,a,j⟩:=h;exact⟨u,c,(a.keep d).mono f,j⟩)
def lI.form{b:Nat->Value}{i:aH}(h:lI b F w v i):∃t z,v=.iface t z:=by
 cases i<;>first
  |exact⟨_,_,h⟩
  |(obtain⟨c,a,d⟩:=h;exact⟨_,_,a⟩)
def G8(fp:Nat->Value)(F:Nat->Prop)(w:World)(v:Value)(f:dQ):Prop:=
 ∃fb gc cap cur,v=.pointer (some ⟨fb,0,none⟩)/\F fb/\w.heap[fb]?=some (.cells #[.string (bs f.name),.slice (some ⟨gc,0,none⟩) f.code.length cap] 174 (0,0))/\F gc/\w.heap[gc]?=some (.cells cur 247 (0,0))/\
  ∀i (h:i<f.code.length),∃u,cur[i]?=some u/\lI fp F w u f.code[i]
def G8.keep{j:Nat->Value}{f:dQ}(h:G8 j F w v f)(a:∀b,F b->w'.heap[b]?=w.heap[b]?)(d:∀b,F b->G b):G8 j G w' v f:=by
 obtain⟨q,o,c,e,l,g,p,k,m,s⟩:=h;refine⟨q,o,c,e,l,d _ g,by rw[a _ g];exact p,d _ k,by rw[a _ k];exact m,λi r=>?_⟩
 obtain⟨u,t,n⟩:=s i r;exact⟨u,t,n.keep a d⟩
def lE(fp:Nat->Value)(F:Nat->Prop)(w:World)(tab:List dQ):Prop:=∀k f,tab[k]?=some f->G8 fp F w (fp k) f
def lE.keep{c:Nat->Value}{a:List dQ}(h:lE c F w a)(d:∀b,F b->w'.heap[b]?=w.heap[b]?)(g:∀b,F b->G b):lE c G w' a:=λk f e=>(h k f e).keep d g
structure FVal where
 fp:Value
 nx:Value
 ln:Value
 sp:Value
 vv:Value
 ov:Value
def FVal.cells(f:FVal):List Value:=[f.fp,f.nx,f.ln,f.sp,f.vv,f.ov]
def gA:List FVal->List Value
 |[]=>[]
 |f::l=>f.cells++gA l
def jQ(l m:List FVal):gA (l++m)=gA l++gA m:=by
 induction l with
 |nil=>rfl
 |cons f l a=>simp[gA,a]
def eF(l:List FVal):(gA l).length=l.length*6:=by
 induction l with
 |nil=>rfl
 |cons f l a=>simp[gA,FVal.cells,a];omega
def FVal.owns(f:FVal):List Nat:=f.vv.ownBlock.toList++f.ov.ownBlock.toList
def mD(F:Nat->Prop)(b_:Nat)(w:World)(v:Value)(l:List aJ):Prop:=(∃xs,w.ownsRow b_ 180 1 v l.length xs/\fZ F w xs l)/\∀a∈l,aK a<=200
def mD.keep(h:mD F b_ w v l)(a:∀b,F b->w'.heap[b]?=w.heap[b]?)(i:∀b,F b->G b)(c:∀k,v.ownBlock=some k->w'.heap[k]?=w.heap[k]?):mD G b_ w' v l:=by
 obtain⟨⟨f,e,d⟩,g⟩:=h;exact⟨⟨f,aX e c,(d.keep a).mono i⟩,g⟩
structure NL(fp:Nat->Value)(F:Nat->Prop)(b_:Nat)(w:World)(v:FVal)(f:aI):Prop where
 fn:G8 fp F w v.fp f.fn
 nx:v.nx=.int .i64 f.next
 ln:v.ln=.int .i64 f.l_
 sp:eW F w v.sp f.e_
 g_:mD F b_ w v.vv f.g_
 ops:mD F b_ w v.ov f.ops
def NL.keep{g:Nat->Value}{v:FVal}(h:NL g F b_ w v f)(a:∀b,F b->w'.heap[b]?=w.heap[b]?)(c:∀b,F b->G b)(d:∀k∈v.owns,w'.heap[k]?=w.heap[k]?):NL g G b_ w' v f:=
 ⟨h.fn.keep a c,h.nx,h.ln,eW.keep a c h.sp,h.g_.keep a c λk e=>d k (by simp[FVal.owns,e]),h.ops.keep a c λk e=>d k (by simp[FVal.owns,e])⟩
def iZ(fp:Nat->Value)(F:Nat->Prop)(b_:Nat)(w:World):List FVal->List aI->Prop
 |[],[]=>True
 |v::vs,f::fs=>NL fp F b_ w v f/\iZ fp F b_ w vs fs
 |_,_=>False
def iZ.keep{a:Nat->Value}(c:∀b,F b->w'.heap[b]?=w.heap[b]?)(d:∀b,F b->G b):∀{vs:List FVal} {fs:List aI},iZ a F b_ w vs fs->(∀v∈vs,∀k∈v.owns,w'.heap[k]?=w.heap[k]?)->iZ a G b_ w' vs fs
 |[],[],_,_=>trivial
 |v::_,_::_,⟨g,f⟩,e=>⟨g.keep c d (e v (fu ..)),iZ.keep c d f λu i=>e u (fe _ i)⟩
 |[],_::_,h,_=>h.elim
 |_::_,[],h,_=>h.elim
def iZ.length{a:Nat->Value}:∀{vs:List FVal} {fs:List aI},iZ a F b_ w vs fs->vs.length=fs.length
 |[],[],_=>rfl
 |_::_,_::_,⟨_,h⟩=>by simp[iZ.length h]
 |[],_::_,h=>h.elim
 |_::_,[],h=>h.elim
def iZ.snoc{a:Nat->Value}{v:FVal}:∀{vs:List FVal} {fs:List aI},iZ a F b_ w vs fs->NL a F b_ w v f->iZ a F b_ w (vs++[v]) (fs++[f])
 |[],[],_,h=>⟨h,trivial⟩
 |_::_,_::_,⟨c,b⟩,h=>⟨c,iZ.snoc b h⟩
 |[],_::_,h,_=>h.elim
 |_::_,[],h,_=>h.elim
def iZ.unsnoc{c:Nat->Value}{F:Nat->Prop}{b_:Nat}{w:World}{f:aI}:∀{vs:List FVal} {fs:List aI},iZ c F b_ w vs (fs++[f])->∃a v,vs=a++[v]/\iZ c F b_ w a fs/\NL c F b_ w v f
 |[],[],h=>h.elim
 |[v],[],⟨b,d⟩=>⟨[],v,rfl,trivial,b⟩
 |_::_::_,[],⟨_,h⟩=>h.elim
 |v::vs,g::fs,⟨b,d⟩=>by
  obtain⟨a,u,e,j,i⟩:=iZ.unsnoc (vs:=vs) (fs:=fs) d;exact⟨v::a,u,by rw[e];rfl,⟨b,j⟩,i⟩
 |[],_::_,h=>h.elim
def aY(l:List FVal):List Nat:=l.flatMap FVal.owns
def aF(sb gf:Nat)(u_:Value)(v_:List FVal):List Nat:=sb::gf::(u_.ownBlock.toList++aY v_)
def lZ(l:List (List UInt8)):List Value:=l.map λx=>Value.string (bs x)
def rL(F:Nat->Prop)(w:World)(v:Value)(l:List Int):Prop:=
 (l=[]/\∃x c,v=.slice x 0 c)\/∃g o c,v=.slice (some ⟨g,o,none⟩) l.length c/\l.length<=c/\F g/\∀i (h:i<l.length),w.cell? ⟨g,o+i,none⟩=some (.int .i64 l[i])/\ -9223372036854775808<=l[i]/\l[i]<=9223372036854775807
def rL.keep{l:List Int}(h:rL F w v l)(j:∀b,F b->w'.heap[b]?=w.heap[b]?)(m:∀b,F b->G b):rL G w' v l:=by
 rcases h with h|⟨g,o,c,k,f,d,a⟩
 ·exact d6 h
 ·exact d5 ⟨g,o,c,k,f,m g d,λi e=>⟨by rw[World.cell?_of_block (j g d)];exact(a i e).1,(a i e).2⟩⟩
structure cT(fp:Nat->Value)(F:Nat->Prop)(b_:Nat)(w:World)(sb gf cap:Nat)(t0 tv u_ s0:Value)(v_:List FVal)(m:bX):Prop where
 blk:w.heap[sb]?=some (.cells #[t0,.slice (some ⟨gf,0,none⟩) v_.length cap,tv,u_,s0] 72 (0,0))
 row:w.ownsRow b_ 136 6 (.slice (some ⟨gf,0,none⟩) v_.length cap) v_.length (gA v_)
 frs:iZ fp F b_ w v_ m.f_
 tape:rL F w tv m.tape
 out:w.ownsRow b_ 9 1 u_ m.out.length (lZ m.out)
 nodup:(aF sb gf u_ v_).Nodup
 lt:∀k∈aF sb gf u_ v_,k<w.heap.size
 apart:∀k,F k->k<w.heap.size/\k∉aF sb gf u_ v_
def cT.step{Q:Nat->Value}{A:Nat}{t0 Y i Z:Value}{n:List FVal}{v v':FVal}{q:List aI}{f':aI}{z:List Int}{I:List (List UInt8)}
 (h:cT Q F b_ w sb gf A t0 Y i Z (n++[v]) ⟨q++[f],z,I⟩) (K:w.heap.size<=w'.heap.size) (O:∀k,k<w.heap.size->k≠gf->k∉v.owns->w'.heap[k]?=w.heap[k]?)
 (M:w'.ownsRow b_ 136 6 (.slice (some ⟨gf,0,none⟩) (n.length+1) A) (n.length+1) (gA (n++[v'])))
 (P:NL Q G b_ w' v' f') (U:∀k∈v'.owns,k<w'.heap.size/\(k∈v.owns\/w.heap.size<=k)) (W:v'.owns.Nodup)
 (hF:∀k,F k->G k) (hG:∀k,G k->F k\/(w.heap.size<=k/\k<w'.heap.size/\k∉v'.owns)):
 cT Q G b_ w' sb gf A t0 Y i Z (n++[v']) ⟨q++[f'],z,I⟩:=by
 have J:(n++[v']).length=(n++[v]).length:=s_
 have B:(n++[v']).length=n.length+1:=s_
 have j:∀u:FVal,aF sb gf i (n++[u])=(sb::gf::(i.ownBlock.toList++aY n))++u.owns:=λu=>by simp[aF,aY]
 have p:=h.nodup;have r:=h.lt;have m:=h.apart;rw[j] at p r m;generalize c:(sb::gf::(i.ownBlock.toList++aY n))=o at p r m j;obtain⟨l,aa,T⟩:=gi.1 p;have g:∀k∈o,k<w.heap.size/\k∉v.owns:=λk d=>⟨r k (gd _ d),λX=>T k d k X rfl⟩
 have y:sb∈o:=by rw[<-c];simp
 have E:gf∈o:=by rw[<-c];simp
 have V:sb≠gf:=by
  rw[<-c] at l;have:=(eu.1 l).1;intro e;exact this (by simp[e])
 have N:∀b,F b->w'.heap[b]?=w.heap[b]?:=λb S=>by
  obtain⟨x,D⟩:=m b S;exact O b x (λe=>D (gd _ (by rw[e];exact E))) λX=>D (gq _ X)
 have t:∀u∈n,∀k∈u.owns,k∈o/\k≠gf:=λu L k d=>by
  have H:k∈aY n:=hH.2 ⟨u,L,d⟩;refine⟨by rw[<-c];simp[H],?_⟩
  rw[<-c] at l;have:=(eu.1 (eu.1 l).2).1;intro e;exact this (by rw[<-e];simp[H])
 have C:∀k,i.ownBlock=some k->k∈o/\k≠gf:=λk d=>by
  refine⟨by rw[<-c];simp[d],?_⟩
  rw[<-c] at l;have:=(eu.1 (eu.1 l).2).1;intro e;exact this (by rw[<-e];simp[d])
 refine⟨?_,by rw[B];exact M,?_,h.tape.keep N hF,aX h.out λk d=>?_,?_,?_,?_⟩
 ·rw[J,O sb (g sb y).1 V (g sb y).2];exact h.blk
 ·obtain⟨ab,u,e,k1,k2⟩:=iZ.unsnoc h.frs;obtain⟨rfl,e2⟩:=gw e rfl;exact(k1.keep N hF λu L k d=>O k (g k (t u L k d).1).1 (t u L k d).2 (g k (t u L k d).1).2).snoc P
 ·obtain⟨x,D⟩:=C k d;exact O k (g k x).1 D (g k x).2
 ·rw[j];refine gi.2 ⟨l,W,λa ha b S e=>?_⟩
  subst e;rcases(U a S).2 with x|x
  ·exact(g a ha).2 x
  ·have:=(g a ha).1;omega
 ·intro k d;rw[j] at d;rcases eo.1 d with d|d
  ·exact el (g k d).1 K
  ·exact(U k d).1
 ·intro k d;rw[j];rcases hG k d with x|⟨x,D,h3⟩
  ·obtain⟨h4,h5⟩:=m k x;refine⟨el h4 K,λs=>?_⟩
   rcases eo.1 s with s|s
   ·exact h5 (gd _ s)
   ·rcases(U k s).2 with h6|h6
    ·exact h5 (gq _ h6)
    ·omega
  ·refine⟨D,λs=>?_⟩
   rcases eo.1 s with s|s
   ·have:=(g k s).1;omega
   ·exact h3 s
structure Kept(own:List Nat)(w w':World):Prop where
 os:w'.os=w.os
 tape:w'.tape=w.tape
 output:w'.output=w.output
 size:w.heap.size<=w'.heap.size
 block:∀k,k<w.heap.size->k∉own->w'.heap[k]?=w.heap[k]?
structure Ext(F G:Nat->Prop)(n:Nat):Prop where
 sub:∀k,F k->G k
 new:∀k,G k->F k\/n<=k
def Ext.refl(F:Nat->Prop)(n:Nat):Ext F F n:=⟨λ_ h=>h,λ_ h=>d6 h⟩
def Ext.trans{H:Nat->Prop}{n m:Nat}(h:Ext F G n)(k:Ext G H m)(c:n<=m):Ext F H n:=⟨λx b=>k.sub x (h.sub x b),λx b=>by
 rcases k.new x b with a|a
 ·exact h.new x a
 ·exact d5 (em c a)⟩
def Ext.le{n m:Nat}(h:Ext F G n)(b:m<=n):Ext F G m:=⟨h.sub,λx a=>(h.new x a).imp_right (em b)⟩
def Done(fp:Nat->Value)(F:Nat->Prop)(b_:Nat)(sb:Nat)(t0 s0:Value)(own:List Nat)(w:World)(m:bX)(w':World):Prop:=
 Kept own w w'/\∃G gf cap tv u_ v_,Ext F G w.heap.size/\cT fp G b_ w' sb gf cap t0 tv u_ s0 v_ m/\∀k∈aF sb gf u_ v_,k∈own\/w.heap.size<=k
def uY{c j:Nat}{b:List FVal}{v:FVal}{x:Value}(h:w.ownsRow b_ 136 6 (.slice (some ⟨gf,0,none⟩) (b.length+1) c) (b.length+1) (gA (b++[v])))(A:j<6):
 ∃a,w.heap[gf]?=some (.cells a 136 (0,0))/\(∀i,i<6->a[b.length*6+i]?=v.cells[i]?)/\
  ∀W:World,W.heap[gf]?=some (.cells (a.setIfInBounds (b.length*6+j) x) 136 (0,0))->∀e:FVal,e.cells=v.cells.set j x->W.ownsRow b_ 136 6 (.slice (some ⟨gf,0,none⟩) (b.length+1) c) (b.length+1) (gA (b++[e])):=by
 rcases h.2 with ⟨f,_⟩|⟨y,k,a,f,s,o,m,q,l,n⟩
 ·cases f
 cases f;have d:∀u:FVal,gA (b++[u])=gA b++u.cells:=λu=>by rw[jQ];simp[gA]
 have t:∀u:FVal,u.cells.length=6:=λ_=>rfl
 have r:(b.length+1)*6<=a.size:=by rw[l];exact Nat.mul_le_mul_right _ m
 refine⟨a,o,λi z=>?_,λW p e g=>?_⟩
 ·have:(gA (b++[v]))[b.length*6+i]?=v.cells[i]?:=by
   rw[d,gh (by rw[eF];omega),eF,ip]
  rw[<-n,fm,if_pos o_] at this
  simpa using this
 ·refine⟨by rw[eF];simp,d5 ⟨gf,c,_,rfl,s,p,m,q,by simpa using l,?_⟩⟩
  rw[jn,jo,n,d,d,g,List.set_append_right _ _ (by rw[eF];omega),eF,ip]
def Kept.refl(own:List Nat)(w:World):Kept own w w:=⟨rfl,rfl,rfl,d7 _,λ_ _ _=>rfl⟩
def Kept.trans{own d:List Nat}{a b c:World}(h:Kept own a b)(k:Kept d b c)(j:∀x∈d,x∈own\/a.heap.size<=x):Kept own a c:=
 ⟨k.os.trans h.os,k.tape.trans h.tape,k.output.trans h.output,em h.size k.size,λx f g=>by
   rw[k.block x (el f h.size) (λi=>by rcases j x i with e|e;·exact g e
                                      ·omega),h.block x f g]⟩
def Kept.of_below{own:List Nat}(h:Below w.heap.size w w'):Kept own w w':=⟨h.os,h.tape,h.output,h.size,λk a _=>h.block k a⟩
def cT.grow{n:Nat->Value}{f:Nat}{r o p:Value}{e:List FVal}{m:bX}(h:cT n F b_ w sb gf f r o c p e m)(i:Below w.heap.size w w')(q:∀k,F k->G k)(t:∀k,G k->F k\/(w.heap.size<=k/\k<w'.heap.size)):cT n G b_ w' sb gf f r o c p e m:=by
 have g:∀b,F b->w'.heap[b]?=w.heap[b]?:=λb l=>i.block b (h.apart b l).1
 have d:∀k,k∈aF sb gf c e->w'.heap[k]?=w.heap[k]?:=λk a=>i.block k (h.lt k a)
 refine⟨by rw[d sb (by simp[aF])];exact h.blk,aX h.row λk a=>?_,h.frs.keep g q λv x k a=>d k ?_,h.tape.keep g q,aX h.out λk a=>d k (by simp[aF,a]),h.nodup,λk a=>el (h.lt k a) i.size,λk a=>?_⟩
 ·cases a;exact d gf (by simp[aF])
 ·have:k∈aY e:=hH.2 ⟨v,x,a⟩;simp[aF,this]
 ·rcases t k a with j|⟨j,s⟩
  ·exact⟨el (h.apart k j).1 i.size,(h.apart k j).2⟩
  ·exact⟨s,λu=>by have:=h.lt k u;omega⟩
def cT.pushed{T:Nat->Value}{J:Nat}{Y U d V:Value}{r:List FVal}{v:FVal}{o:List aI}{z:List Int}{I:List (List UInt8)}{cur:Array Value}
 (h:cT T F b_ w sb gf J Y U d V (r++[v]) ⟨o++[f],z,I⟩) (K:w.heap[gf]?=some (.cells cur 136 (0,0)))
 (O:fZ F w xs f.ops) (hu:PV F w u a) (N:aK a<=200)
 (p1:w'.heap[gf]?=some (.cells (cur.setIfInBounds (r.length*6+5) c) 136 (0,0))) (S:w'.ownsRow b_ 180 1 c (f.ops.length+1) (xs++[u])) (Q:∀k,c.ownBlock=some k->v.ov.ownBlock=some k\/w.heap.size<=k) (q:Chg gf v.ov.ownBlock w w'):
 cT T F b_ w' sb gf J Y U d V (r++[{ v with ov:=c }]) ⟨o++[f.push a],z,I⟩/\Kept (aF sb gf d (r++[v])) w w':=by
 obtain⟨ab,v0,e,aa,H⟩:=iZ.unsnoc h.frs;obtain⟨rfl,e2⟩:=gw e rfl;cases e2;have A:=h.row;rw[show (r++[v]).length=r.length+1 by simp] at A
 obtain⟨L,X,_,c3⟩:=uY (j:=5) (x:=c) A o_
 obtain rfl:L=cur:=by rw[K] at X;cases X;rfl
 have D:∀k∈v.owns,k∈aF sb gf d (r++[v]):=λk g=>by simp[aF,aY,g]
 have P:gf∉v.owns:=λE=>by
  have:=(eu.1 (eu.1 h.nodup).2).1;exact this (by simp[aY,E])
 have B:v.owns.Nodup:=by
  have l:=h.nodup;have:aF sb gf d (r++[v])=(sb::gf::(d.ownBlock.toList++aY r))++v.owns:=by simp[aF,aY]
  rw[this] at l;exact(gi.1 l).2.1
 have p:∀b,F b->w'.heap[b]?=w.heap[b]?:=λb C=>by
  obtain⟨l,s⟩:=h.apart b C;exact q.block b l (λe=>s (by simp[aF,e])) (λe=>s (D b (by simp[FVal.owns,<-e])))
 have t:∀k,k<w.heap.size->k≠gf->k∉v.owns->w'.heap[k]?=w.heap[k]?:=λk l s M=>q.block k l s λe=>M (by simp[FVal.owns,<-e])
 have m:∀k,v.vv.ownBlock=some k->k<w.heap.size/\k≠gf/\v.ov.ownBlock≠some k:=λk g=>by
  have E:k∈v.owns:=by simp[FVal.owns,g]
  refine⟨h.lt k (D k E),λe=>P (by rw[<-e];exact E),λe=>?_⟩
  unfold FVal.owns at B;rw[g,e] at B;simp at B
 refine⟨h.step (G:=F) q.size t (c3 w' p1 _ rfl) ?_ ?_ ?_ (λ_ h=>h) (λ_ h=>d6 h),?_⟩
 ·refine⟨H.fn.keep p λ_ h=>h,H.nx,H.ln,eW.keep p (λ_ h=>h) H.sp,H.g_.keep p (λ_ h=>h) λk g=>?_,⟨xs++[u],?_,?_⟩,?_⟩
  ·obtain⟨l,s,M⟩:=m k g;exact q.block k l s (λe=>M e.symm)
  ·show w'.ownsRow b_ 180 1 c (f.ops++[a]).length _
   rw[ei];exact S
  ·exact(O.keep p).append ⟨rfl,λi hi=>by
    obtain rfl:i=0:=by simpa using hi
    exact⟨u,rfl,hu.keep p⟩⟩
  ·intro b C;rcases eo.1 C with C|C
   ·exact H.ops.2 b C
   ·rw[et.1 C];exact N
 ·intro k g;rcases eo.1 g with g|g
  ·have n:v.vv.ownBlock=some k:=by simpa using g
   exact⟨el (m k n).1 q.size,d6 (by simp[FVal.owns,n])⟩
  ·have n:c.ownBlock=some k:=by simpa using g
   refine⟨cI S k n,?_⟩;rcases Q k n with l|l
   ·exact d6 (by simp[FVal.owns,l])
   ·exact d5 l
 ·show (v.vv.ownBlock.toList++c.ownBlock.toList).Nodup
  refine gi.2 ⟨by cases v.vv.ownBlock<;>simp,by cases c.ownBlock<;>simp,λx hx y hy e=>?_⟩
  subst e;have l:v.vv.ownBlock=some x:=by simpa using hx
  have s:c.ownBlock=some x:=by simpa using hy
  obtain⟨M,_,h4⟩:=m x l;rcases Q x s with W|W
  ·exact h4 W
  ·omega
 ·exact⟨q.os,q.tape,q.output,q.size,λk g Z=>t k g (λe=>Z (by simp[aF,e])) λE=>Z (D k E)⟩
structure aZ(w w':World):Prop where
 os:w'.os=w.os
 tape:w'.tape=w.tape
 output:w'.output=w.output
 heap:w'.heap=w.heap
def aZ.refl(w:World):aZ w w:=⟨rfl,rfl,rfl,rfl⟩
def aZ.drewN(w:World)(n:Nat):aZ w (w.drewN n):=⟨rfl,rfl,rfl,rfl⟩
def aZ.drew(w:World):aZ w w.drew:=⟨rfl,rfl,rfl,rfl⟩
def aZ.trans{a b c:World}(h:aZ a b)(k:aZ b c):aZ a c:=⟨k.os.trans h.os,k.tape.trans h.tape,k.output.trans h.output,k.heap.trans h.heap⟩
def aZ.below(h:aZ w w'):Below w.heap.size w w':=⟨h.os,h.tape,h.output,by rw[h.heap];exact d7 _,λk _=>by rw[h.heap]⟩
def cT.top{q:Nat->Value}{e:Nat}{s i t:Value}{m:List FVal}{c:List aI}{n:List Int}{p:List (List UInt8)}(h:cT q F b_ w sb gf e u s i t m ⟨c++[f],n,p⟩):
 ∃b v a,m=b++[v]/\b.length=c.length/\NL q F b_ w v f/\w.heap[sb]?=some (.cells #[u,.slice (some ⟨gf,0,none⟩) (b.length+1) e,s,i,t] 72 (0,0))/\w.heap[gf]?=some (.cells a 136 (0,0))/\b.length+1<=e/\
  a[b.length*6]?=some v.fp/\a[b.length*6+1]?=some v.nx/\a[b.length*6+2]?=some v.ln/\a[b.length*6+3]?=some v.sp/\a[b.length*6+4]?=some v.vv/\a[b.length*6+5]?=some v.ov:=by
 obtain⟨b,v,rfl,A,y⟩:=iZ.unsnoc h.frs;have d:=h.row;have g:=h.blk;rw[show (b++[v]).length=b.length+1 by simp] at d g
 obtain⟨a,B,k,_⟩:=uY (j:=0) (x:=undef) d o_
 have l:b.length+1<=e:=by
  rcases d.2 with ⟨o,_⟩|⟨D,r,a,o,E,C,z,_⟩
  ·cases o
  ·cases o;exact z
 exact⟨b,v,a,rfl,A.length,y,g,B,l,k 0 o_,k 1 o_,k 2 o_,k 3 o_,k 4 o_,k 5 o_⟩
def cW(h:W.heap=w.heap){a:Addr}(b:w.cell? a=some v):W.cell? a=some v:=by
 have e:W.cell? a=w.cell? a:=World.cell?_of_block (by rw[h])
 rw[e];exact b
def OZ(w c:World)(sb j k:Nat)(t:TypeId)(z:Value)(P:World->Prop)(g:w.alloc (.cells #[.iface t z] 242)=c)
 (q:Hid (∀W,aZ c W->Calls prog 95 #[.pointer (some ⟨sb,0,none⟩)] W λe w'=>e=.returned (.pointer (some ⟨j,k,none⟩))/\aZ c w'))
 (p:Hid (∀W,aZ c W->Calls prog 281 #[.pointer (some ⟨j,k,none⟩),.iface t z] W λe w'=>e=.returned (.tuple #[])/\P w')):
 Calls prog 280 #[.agg #[.iface t z],.pointer (some ⟨sb,0,none⟩)] w λe w'=>e=.returned (.tuple #[])/\P w':=by
 have a:(w.alloc (.cells #[.iface t z] 242)).heap[w.heap.size]?=some (.cells #[.iface t z] 242 (0,0)):=aS _ _ rfl _;rw[g] at a;have m:=aB g;have o:c.cell? ⟨w.heap.size,0,none⟩=some (.iface t z):=aA a rfl;have i:=aB o;have f:=aD a;clear g a;go_enter func280,ntmps280;go_wp2_with fail;rw[m.out];go_region_law (go_simp;first|(go_at_call 95;refine(q.out _ (aZ.drew _)).mono ?_;rintro e l ⟨rfl,b⟩;have r:=cW b.heap i.out;have n:w.heap.size<l.heap.size:=by (rw[b.heap];exact f))|(go_at_call 281;refine(p.out _ b).mono ?_;rintro e s ⟨rfl,d⟩))
 all_goals
  go_wp2_with fail;go_end0;exact⟨rfl,d⟩
def UB(L:Nat->Value)(F:Nat->Prop)(b_:Nat)(w:World)(sb gf A:Nat)(K T b N:Value)(C:List FVal)(c:List aI)(f:aI)(i:List Int)(y:List (List UInt8))(u:Value)(a:aJ)
 (h:cT L F b_ w sb gf A K T b N C ⟨c++[f],i,y⟩) (Z:PV F w u a) (J:aK a<=200) (Y:f.ops.length<=100000) (V:c.length<=15) (r:b_<=w.heap.size):
 Calls prog 280 #[.agg #[u],.pointer (some ⟨sb,0,none⟩)] w λe w'=>e=.returned (.tuple #[])/\Done L F b_ sb K N (aF sb gf b C) w ⟨c++[f.push a],i,y⟩ w':=by
 obtain⟨t,z,rfl⟩:=Z.form;have d:Below w.heap.size w (w.alloc (.cells #[.iface t z] 242)):=(eh _ _).alloc (d7 _) _;have aa:(w.alloc (.cells #[.iface t z] 242)).heap[w.heap.size]?=some (.cells #[.iface t z] 242 (0,0)):=aS _ _ rfl _;have Q:=h.grow d (λ_ h=>h) (λ_ h=>d6 h)
 have O:PV F (w.alloc (.cells #[.iface t z] 242)) (.iface t z) a:=Z.keep λk M=>d.block k (h.apart k M).1
 generalize hW:w.alloc (.cells #[.iface t z] 242)=I at*;have HW:=aB hW;obtain⟨g,v,n,rfl,ac,hv,D,m,U,k0,k1,k2,k3,k4,k5⟩:=Q.top;obtain⟨⟨xs,l,G⟩,s⟩:=hv.ops
 have E:v.ov.ownBlock≠some gf:=λe=>by
  have:=(eu.1 (eu.1 Q.nodup).2).1;exact this (by simp[aY,FVal.owns,e])
 have HT:Hid (∀W,aZ I W->Calls prog 95 #[.pointer (some ⟨sb,0,none⟩)] W λe w'=>e=.returned (.pointer (some ⟨gf,g.length*6,none⟩))/\aZ I w'):=λW j=>by
  refine(KD sb gf g.length A W (cW j.heap (aA D rfl)) o_).mono ?_
  rintro e w' ⟨P,q,rfl⟩;exact⟨P,j.trans (aZ.drewN _ _)⟩
 have HP:Hid (∀W,aZ I W->Calls prog 281 #[.pointer (some ⟨gf,g.length*6,none⟩),.iface t z] W λe w'=>e=.returned (.tuple #[])/\Done L F b_ sb K N (aF sb gf b (g++[v])) w ⟨c++[f.push a],i,y⟩ w'):=λW j=>by
  have H:=j.below;have hR:=Q.grow H (λ_ h=>h) (λ_ h=>d6 h)
  refine(wZ b_ gf (g.length*6) f.ops.length n v.ov xs t z W (by rw[j.heap];exact m) k5 (aX l λk _=>by rw[j.heap]) E (by rw[j.heap];exact em r d.size) o_).mono ?_
  rintro e w' ⟨P,p,p1,p2,S,p4⟩;obtain⟨q1,q2⟩:=hR.pushed (cur:=n) (by rw[j.heap];exact m) (G.keep λk _=>by rw[j.heap]) (O.keep λk _=>by rw[j.heap]) J p1 p2 S p4
  have M:Kept (aF sb gf b (g++[v])) w w':=(Kept.of_below (own:=aF sb gf b (g++[v])) (d.trans (H.mono d.size))).trans q2 λx hx=>d6 hx
  refine⟨P,M,F,gf,A,T,b,_,Ext.refl _ _,q1,λk B=>?_⟩
  have ab:W.heap.size=I.heap.size:=by rw[j.heap]
  have h1:aF sb gf b (g++[{ v with ov:=p }])=(sb::gf::(b.ownBlock.toList++aY g))++({ v with ov:=p }:FVal).owns:=by simp[aF,aY]
  have h2:aF sb gf b (g++[v])=(sb::gf::(b.ownBlock.toList++aY g))++v.owns:=by simp[aF,aY]
  rw[h1] at B;rw[h2];rcases eo.1 B with o|o
  ·exact d6 (gd _ o)
  ·rcases eo.1 o with o|o
   ·exact d6 (gq _ (gd _ o))
   ·have h4:p.ownBlock=some k:=by simpa using o
    rcases S k h4 with X|X
    ·exact d6 (gq _ (by simp[FVal.owns,X]))
    ·exact d5 (by have:=d.size;omega)
 clear l G s E;exact OZ w I sb gf (g.length*6) t z _ HW.out HT HP
def fZ.split{m:List aJ}(h:fZ F w xs (l++m)):∃c e,xs=c++e/\c.length=l.length/\e.length=m.length/\fZ F w c l/\fZ F w e m:=by
 obtain⟨g,f⟩:=h;rw[ei] at g;refine⟨xs.take l.length,xs.drop l.length,(gt _ _).symm,t_,t_,⟨t_,λi d=>?_⟩,⟨t_,λi d=>?_⟩⟩
 ·obtain⟨u,b,a⟩:=f i t_
  rw[ka d] at a;exact⟨u,by rw[fm,if_pos d];exact b,a⟩
 ·obtain⟨u,b,a⟩:=f (l.length+i) t_
  rw[kb o_] at a
  simp only[ip] at a;exact⟨u,by rw[jj];exact b,a⟩
def fZ.unsnoc(h:fZ F w xs (l++[a])):∃b u,xs=b++[u]/\b.length=l.length/\fZ F w b l/\PV F w u a:=by
 obtain⟨b,j,e,i,f,k,g⟩:=h.split;match j,f with
 |[u],_=>
  obtain⟨m,c,d⟩:=g.2 0 s_
  simp at c d;subst c;exact⟨b,u,e,i,k,d⟩
def cT.setTop{q:Nat->Value}{o:Nat}{D A a C:Value}{c:List FVal}{v v':FVal}{d:List aI}{E:aI}{i:List Int}{n:List (List UInt8)}{j:Nat}{x:Value}
 (h:cT q F b_ w sb gf o D A a C (c++[v]) ⟨d++[f],i,n⟩) (N:j<6) (s:v'.cells=v.cells.set j x) (u:v'.owns=v.owns) (p:NL q F b_ w v' E):
 cT q F b_ (w.setCell ⟨gf,c.length*6+j,none⟩ x) sb gf o D A a C (c++[v']) ⟨d++[E],i,n⟩/\Kept (aF sb gf a (c++[v])) w (w.setCell ⟨gf,c.length*6+j,none⟩ x):=by
 have l:=h.row;rw[show (c++[v]).length=c.length+1 by simp] at l
 obtain⟨K,J,_,L⟩:=uY (j:=j) (x:=x) l N;have t:∀k∈v.owns,k∈aF sb gf a (c++[v]):=λk g=>by simp[aF,aY,g]
 have y:gf∉v.owns:=λm=>by
  have:=(eu.1 (eu.1 h.nodup).2).1;exact this (by simp[aY,m])
 have r:v.owns.Nodup:=by
  have B:=h.nodup;have:aF sb gf a (c++[v])=(sb::gf::(a.ownBlock.toList++aY c))++v.owns:=by simp[aF,aY]
  rw[this] at B;exact(gi.1 B).2.1
 have g:∀k,k≠gf->(w.setCell ⟨gf,c.length*6+j,none⟩ x).heap[k]?=w.heap[k]?:=λk g=>ej _ _ _ _ g
 have z:∀b,F b->(w.setCell ⟨gf,c.length*6+j,none⟩ x).heap[b]?=w.heap[b]?:=λb I=>g b λe=>(h.apart b I).2 (by simp[aF,e])
 refine⟨h.step (G:=F) s_ (λk _ H _=>g k H) (L _ (aQ J) _ s) (p.keep z (λ_ h=>h) λk m=>g k λe=>y (by rw[<-u,<-e];exact m)) (λk m=>?_) (by rw[u];exact r) (λ_ h=>h) (λ_ h=>d6 h),⟨rfl,rfl,rfl,s_,λk _ M=>g k λe=>M (by simp[aF,e])⟩⟩
 rw[u] at m;exact⟨el (h.lt k (t k m)) s_,d6 m⟩
def Mid(fp:Nat->Value)(b_ sb gf n:Nat)(t0 s0:Value)(own:List Nat)(w0:World)(G:Nat->Prop)(m:bX)(w:World):Prop:=
 Kept own w0 w/\b_<=w.heap.size/\∃cap tv u_ v_,v_.length=n+1/\cT fp G b_ w sb gf cap t0 tv u_ s0 v_ m/\∀k∈aF sb gf u_ v_,k∈own\/w0.heap.size<=k
section
variable {fp:Nat->Value} {b_ sb gf n:Nat} {t0 s0:Value} {own:List Nat} {w0 w w':World} {G G':Nat->Prop} {m:bX} {w_:List aI} {f f':aI} {tape:List Int} {out:List (List UInt8)}
def Mid.init{c:Nat}{d a:Value}{b:List FVal}(h:cT fp G b_ w sb gf c t0 d a s0 b m)(g:b.length=n+1)(f:b_<=w.heap.size)(e:Obj):Mid fp b_ sb gf n t0 s0 (aF sb gf a b) (w.alloc e) G m (w.alloc e):=
 ⟨Kept.refl _ _,em f s_,c,d,a,b,g,h.grow ((eh _ _).alloc (d7 _) _) (λ_ h=>h) (λ_ h=>d6 h),λ_ h=>d6 h⟩
def Mid.same(h:Mid fp b_ sb gf n t0 s0 own w0 G m w)(d:aZ w w'):Mid fp b_ sb gf n t0 s0 own w0 G m w':=by
 obtain⟨i,f,b,e,a,c,k,g,j⟩:=h;exact⟨i.trans (Kept.of_below (own:=[]) d.below) (λx l=>by simp at l),by rw[d.heap];exact f,b,e,a,c,k,g.grow d.below (λ_ h=>h) (λ_ h=>d6 h),j⟩
def Mid.grow(h:Mid fp b_ sb gf n t0 s0 own w0 G m w)(d:Below w.heap.size w w')(p:∀k,G k->G' k)(o:∀k,G' k->G k\/(w.heap.size<=k/\k<w'.heap.size)):Mid fp b_ sb gf n t0 s0 own w0 G' m w':=by
 obtain⟨i,f,b,e,a,c,l,g,j⟩:=h;exact⟨i.trans (Kept.of_below (own:=[]) d) (λx q=>by simp at q),em f d.size,b,e,a,c,l,g.grow d p o,j⟩
def Mid.old(h:Mid fp b_ sb gf n t0 s0 own w0 G m w){k:Nat}(a:k<w0.heap.size)(b:k∉own):w.heap[k]?=w0.heap[k]?:=h.1.block k a b
def Mid.done{F:Nat->Prop}{d:Obj}(h:Mid fp b_ sb gf n t0 s0 own (w.alloc d) G m w')(l:Ext F G w.heap.size):Done fp F b_ sb t0 s0 own w m w':=by
 obtain⟨i,p,b,e,a,c,q,g,j⟩:=h
 exact⟨(Kept.of_below (own:=own) ((eh _ w).alloc (d7 _) d)).trans i (λx o=>d6 o),G,gf,b,e,a,c,l,g,λk f=>by
  rcases j k f with h|h
  ·exact d6 h
  ·exact d5 (em s_ h)⟩
def Mid.top(h:Mid fp b_ sb gf n t0 s0 own w0 G m w)(o:n<=15):Calls prog 95 #[.pointer (some ⟨sb,0,none⟩)] w λe w'=>e=.returned (.pointer (some ⟨gf,n*6,none⟩))/\aZ w w':=by
 obtain⟨k,j,a,i,b,f,g,d,l⟩:=h;have:=d.blk;rw[g] at this;refine(KD sb gf n a w (aA this rfl) o_).mono ?_
 rintro e w' ⟨c,q,rfl⟩;exact⟨c,aZ.drewN _ _⟩
def Mid.cells(h:Mid fp b_ sb gf n t0 s0 own w0 G ⟨w_++[f],tape,out⟩ w):∃v:FVal,NL fp G b_ w v f/\gf<w.heap.size/\∀j x,v.cells[j]?=some x->w.cell? ⟨gf,n*6+j,none⟩=some x/\w.frozen? ⟨gf,n*6+j,none⟩=false:=by
 obtain⟨E,C,o,D,g,s,t,l,F⟩:=h;obtain⟨u,v,q,rfl,r,z,e,a,c,m,i,y,k,B,p⟩:=l.top;have b:u.length=n:=by simpa using t
 subst b;refine⟨v,z,aD a,λj x d=>?_⟩
 have A:j<6:=(gr.1 d).1;refine⟨aA a ?_,aE a⟩;rw[<-d];match j,A with
 |0,_=>exact m
 |1,_=>exact i
 |2,_=>exact y
 |3,_=>exact k
 |4,_=>exact B
 |5,_=>exact p
def Mid.set(h:Mid fp b_ sb gf n t0 s0 own w0 G ⟨w_++[f],tape,out⟩ w)(j:Nat)(x:Value)(B:j<6)(g:FVal->FVal)(q:∀v,(g v).cells=v.cells.set j x)(m:∀v,NL fp G b_ w v f->(g v).owns=v.owns)(b:∀v,NL fp G b_ w v f->NL fp G b_ w (g v) f'):
 Mid fp b_ sb gf n t0 s0 own w0 G ⟨w_++[f'],tape,out⟩ (w.setCell ⟨gf,n*6+j,none⟩ x):=by
 obtain⟨t,p,c,r,a,z,A,k,l⟩:=h;obtain⟨d,v,u,rfl,y,e,_⟩:=k.top;have i:d.length=n:=by simpa using A
 subst i;obtain⟨s,o⟩:=k.setTop B (q v) (m v e) (b v e);refine⟨t.trans o l,em p o.size,c,r,a,_,s_,s,?_⟩
 rw[show aF sb gf a (d++[g v])=aF sb gf a (d++[v]) by simp[aF,aY,m v e]]
 exact l
def Mid.push(h:Mid fp b_ sb gf n t0 s0 own w0 G ⟨w_++[f],tape,out⟩ w){t:TypeId}{z:Value}{a:aJ}(T:PV G w (.iface t z) a)(q:aK a<=200)(D:f.ops.length<=100000):Calls prog 281 #[.pointer (some ⟨gf,n*6,none⟩),.iface t z] w λe w'=>e=.returned (.tuple #[])/\Mid fp b_ sb gf n t0 s0 own w0 G ⟨w_++[f.push a],tape,out⟩ w':=by
 obtain⟨E,C,u,L,b,U,c,o,p⟩:=h;obtain⟨j,v,g,rfl,Q,X,H,d,F,k0,Y,k2,Z,k4,N⟩:=o.top;have A:j.length=n:=by simpa using c
 subst A;obtain⟨⟨S,l,r⟩,x⟩:=X.ops
 have s:v.ov.ownBlock≠some gf:=λe=>by
  have:=(eu.1 (eu.1 o.nodup).2).1;exact this (by simp[aY,FVal.owns,e])
 refine(wZ b_ gf (j.length*6) f.ops.length g v.ov S t z w d N l s C o_).mono ?_
 rintro e w' ⟨W,i,P,K,B,J⟩;obtain⟨M,I⟩:=o.pushed (cur:=g) d r T q P K B J;refine⟨W,E.trans I p,em C I.size,u,L,b,_,s_,M,λk m=>?_⟩
 have V:aF sb gf b (j++[{ v with ov:=i }])=(sb::gf::(b.ownBlock.toList++aY j))++({ v with ov:=i }:FVal).owns:=by simp[aF,aY]
 have O:aF sb gf b (j++[v])=(sb::gf::(b.ownBlock.toList++aY j))++v.owns:=by simp[aF,aY]
 rw[V] at m;rw[O] at p;rcases eo.1 m with c|c
 ·exact p k (gd _ c)
 ·rcases eo.1 c with c|c
  ·exact p k (gq _ (gd _ c))
  ·have o:i.ownBlock=some k:=by simpa using c
   rcases B k o with y|y
   ·exact p k (gq _ (by simp[FVal.owns,y]))
   ·exact d5 (em E.size y)
def Mid.popK(h:Mid fp b_ sb gf n t0 s0 own w0 G ⟨w_++[f],tape,out⟩ w){vs:List aJ}{a:aJ}(L:f.ops=vs++[a])(m:f.ops.length<=100000):Calls prog 114 #[.pointer (some ⟨gf,n*6,none⟩)] w λe w'=>∃t z,e=.returned (.iface t z)/\PV G w' (.iface t z) a/\aK a<=200/\Mid fp b_ sb gf n t0 s0 own w0 G ⟨w_++[f.pop],tape,out⟩ w'/\∀k,G k->w'.heap[k]?=w.heap[k]?:=by
 obtain⟨V,P,D,S,l,Z,h3,C,J⟩:=h;obtain⟨A,v,E,rfl,Y,o,N,y,K,k0,k1,k2,k3,k4,W⟩:=C.top;have F:A.length=n:=by simpa using h3
 subst F;obtain⟨⟨xs,d,s⟩,c⟩:=o.ops;rw[L] at d s c m;obtain⟨p,u,rfl,X,r,M⟩:=fZ.unsnoc s;obtain⟨t,z,rfl⟩:=M.form;rw[ei] at d m;refine(QT b_ gf (A.length*6) vs.length E v.ov p _ w y W d X ⟨t,z,rfl⟩ o_).mono ?_
 rintro e w' ⟨rfl,g,rfl,Q,H⟩;have i:f.pop.ops=vs:=by simp[aI.pop,L]
 have B:NL fp G b_ w { v with ov:=g } f.pop:=⟨o.fn,o.nx,o.ln,o.sp,o.g_,⟨p,by rw[i];exact Q,by rw[i];exact r⟩,λb I=>c b (gd _ (by rw[i] at I;exact I))⟩
 obtain⟨U,O⟩:=C.setTop (j:=5) (x:=g) (v':={ v with ov:=g }) o_ rfl (by simp[FVal.owns,H]) B
 have q:∀k,G k->(w.setCell ⟨gf,A.length*6+5,none⟩ g).heap[k]?=w.heap[k]?:=λk T=>ej _ _ _ _ λe=>(C.apart k T).2 (by simp[aF,e])
 refine⟨t,z,rfl,M.keep q,c a s_,⟨V.trans O J,em P O.size,D,S,l,_,s_,U,?_⟩,q⟩
 rw[show aF sb gf l (A++[{ v with ov:=g }])=aF sb gf l (A++[v]) by simp[aF,aY,FVal.owns,H]]
 exact J
def Mid.pop(h:Mid fp b_ sb gf n t0 s0 own w0 G ⟨w_++[f],tape,out⟩ w){vs:List aJ}{a:aJ}(c:f.ops=vs++[a])(b:f.ops.length<=100000):Calls prog 114 #[.pointer (some ⟨gf,n*6,none⟩)] w λe w'=>∃t z,e=.returned (.iface t z)/\PV G w' (.iface t z) a/\aK a<=200/\Mid fp b_ sb gf n t0 s0 own w0 G ⟨w_++[f.pop],tape,out⟩ w':=by
 refine(h.popK c b).mono ?_;rintro e w' ⟨t,z,i,d,j,g,_⟩;exact⟨t,z,i,d,j,g⟩
end
def s5(k:Nat)(e:Ending):Prop:=(k=0/\e=.returned (.tuple #[]))\/(k≠0/\e=fL k)
def kC(h:W.heap=w.heap){k:Nat}(a:k<w.heap.size):k<W.heap.size:=by rw[h];exact a
def rC(h:W.heap=w.heap){a:Addr}(b:w.frozen? a=false):W.frozen? a=false:=by
 have e:W.frozen? a=w.frozen? a:=by unfold World.frozen?;rw[h]
 rw[e];exact b
def RI(w a:World)(sb c f:Nat)(P:World->Prop)(d:w.alloc (.cells #[] 348)=a)
 (k:Hid (∀W,aZ a W->Calls prog 95 #[.pointer (some ⟨sb,0,none⟩)] W λe w'=>e=.returned (.pointer (some ⟨c,f,none⟩))/\aZ a w'))
 (j:Hid (∀W,aZ a W->Calls prog 114 #[.pointer (some ⟨c,f,none⟩)] W λe w'=>∃t z,e=.returned (.iface t z)/\P w')):
 Calls prog 304 #[.agg #[],.pointer (some ⟨sb,0,none⟩)] w λe w'=>e=.returned (.tuple #[])/\P w':=by
 have i:=aB d;clear d;go_enter func304,ntmps304;go_wp2_with fail;rw[i.out];refine(k.out _ (aZ.refl _)).mono ?_;rintro e l ⟨rfl,b⟩;go_wp2_with fail;refine(j.out _ b).mono ?_;rintro e m ⟨t,z,rfl,g⟩;go_wp2_with fail;go_end0;exact⟨rfl,g⟩
def KC(w c:World)(sb d i:Nat)(P S:World->Prop)(l:TypeId->Value->World->Prop)(m:Bool->World->Prop)(k:w.alloc (.cells #[] 351)=c)
 (r:Hid (∀W,aZ c W->Calls prog 95 #[.pointer (some ⟨sb,0,none⟩)] W λe w'=>e=.returned (.pointer (some ⟨d,i,none⟩))/\aZ c w'))
 (q:Hid (∀W,aZ c W->Calls prog 114 #[.pointer (some ⟨d,i,none⟩)] W λe w'=>∃t z,e=.returned (.iface t z)/\l t z w'))
 (p:Hid (∀W t z,l t z W->Calls prog 295 #[.iface t z] W λe w'=>(∃b,e=.returned (.bool b)/\m b w')\/(e=fL 2/\S w')))
 (n:Hid (∀W b,m b W->Calls prog 281 #[.pointer (some ⟨d,i,none⟩),.iface 230 (.bool b)] W λe w'=>e=.returned (.tuple #[])/\P w')):
 Calls prog 314 #[.agg #[],.pointer (some ⟨sb,0,none⟩)] w λe w'=>(e=.returned (.tuple #[])/\P w')\/(e=fL 2/\S w'):=by
 have o:=aB k;clear k;go_enter func314,ntmps314;go_wp2_with fail;rw[o.out];refine(r.out _ (aZ.refl _)).mono ?_;rintro e u ⟨rfl,g⟩;go_wp2_with fail;refine(q.out _ g).mono ?_;rintro e x ⟨t,z,rfl,j⟩;have a:=aB (p.out _ t z j);clear j;go_wp2_with fail;refine a.out.mono ?_;rintro e v (⟨b,rfl,a⟩|⟨rfl,a⟩)
 ·have f:=aB (n.out _ b a);clear a;go_wp2_with fail;refine f.out.mono ?_;rintro e s ⟨rfl,f⟩;go_wp2_with fail;go_end0;exact d6 ⟨rfl,f⟩
 ·go_wp2_with fail;exact⟨rfl,d5 ⟨rfl,a⟩⟩
def EY(w g:World)(sb c d f:Nat)(P S:World->Prop)(n:TypeId->Value->World->Prop)(i:Bool->World->Prop)(m:w.alloc (.cells #[.int .i64 f] 366)=g)
 (x:Hid (∀W,aZ g W->Calls prog 95 #[.pointer (some ⟨sb,0,none⟩)] W λe w'=>e=.returned (.pointer (some ⟨c,d,none⟩))/\aZ g w'))
 (v:Hid (∀W,aZ g W->Calls prog 114 #[.pointer (some ⟨c,d,none⟩)] W λe w'=>∃t z,e=.returned (.iface t z)/\n t z w'))
 (s:Hid (∀W t z,n t z W->Calls prog 295 #[.iface t z] W λe w'=>(∃b,e=.returned (.bool b)/\i b w')\/(e=fL 2/\S w')))
 (o:Hid (∀W,i true W->P W)) (q:Hid (∀W,i false W->P (W.setCell ⟨c,d+1,none⟩ (.int .i64 f))))
 (p:Hid (∀W b,i b W->W.cell? ⟨w.heap.size,0,none⟩=some (.int .i64 f)/\w.heap.size<W.heap.size/\(∃u,W.cell? ⟨c,d+1,none⟩=some u)/\W.frozen? ⟨c,d+1,none⟩=false/\c<W.heap.size)):
 Calls prog 321 #[.agg #[.int .i64 f],.pointer (some ⟨sb,0,none⟩)] w λe w'=>(e=.returned (.tuple #[])/\P w')\/(e=fL 2/\S w'):=by
 have r:=aB m;clear m;go_enter func321,ntmps321;go_wp2_with fail;rw[r.out];refine(x.out _ (aZ.refl _)).mono ?_;rintro e y ⟨rfl,k⟩;go_wp2_with fail;refine(v.out _ k).mono ?_;rintro e F ⟨t,z,rfl,l⟩;have a:=aB (s.out _ t z l);clear l;go_wp2_with fail;refine a.out.mono ?_;rintro e A (⟨b,rfl,a⟩|⟨rfl,a⟩)
 ·obtain⟨B,C,⟨u,D⟩,G,E⟩:=p.out _ b a;cases b with
  |false=>
   have j:=aB (q.out _ a);clear a;go_wp2_with fail;go_end0;exact d6 ⟨rfl,j.out⟩
  |true=>
   have j:=aB (o.out _ a);clear a;go_wp2_with fail;go_end0;exact d6 ⟨rfl,j.out⟩
 ·go_wp2_with fail;exact⟨rfl,d5 ⟨rfl,a⟩⟩
def QI(w c:World)(sb f g d:Nat)(P:World->Prop)(k:w.alloc (.cells #[.int .i64 d] 367)=c)
 (x:Hid (∀W,aZ c W->Calls prog 95 #[.pointer (some ⟨sb,0,none⟩)] W λe w'=>e=.returned (.pointer (some ⟨f,g,none⟩))/\aZ c w'))
 (i:∃u,c.cell? ⟨f,g+1,none⟩=some u) (m:c.frozen? ⟨f,g+1,none⟩=false) (r:f<c.heap.size)
 (s:Hid (∀W,aZ c W->P (W.setCell ⟨f,g+1,none⟩ (.int .i64 d)))):
 Calls prog 322 #[.agg #[.int .i64 d],.pointer (some ⟨sb,0,none⟩)] w λe w'=>e=.returned (.tuple #[])/\P w':=by
 have a:(w.alloc (.cells #[.int .i64 d] 367)).heap[w.heap.size]?=some (.cells #[.int .i64 d] 367 (0,0)):=aS _ _ rfl _;rw[k] at a;have t:=aB k;have p:c.cell? ⟨w.heap.size,0,none⟩=some (.int .i64 d):=aA a rfl;have l:=aB p;have j:=aD a;obtain⟨u,i⟩:=i;have q:=aB i;have n:=aB m;clear k a i m;go_enter func322,ntmps322;go_wp2_with fail;rw[t.out];go_region_law (go_simp;go_at_call 95;refine(x.out _ (aZ.drew _)).mono ?_;rintro e y ⟨rfl,b⟩;have z:=cW b.heap l.out;have A:=cW b.heap q.out;have B:=rC b.heap n.out;have v:=kC b.heap j;have o:=kC b.heap r)
 all_goals
  go_wp2_with fail;go_end0;exact⟨rfl,s.out _ b⟩
def zU(w k:World)(sb f g j:Nat)(d:Bool)(P S:World->Prop)(x:TypeId->Value->World->Prop)(l m:Bool->World->Prop)(r:w.alloc (.cells #[.bool d,.int .i64 j] 353)=k)
 (K:Hid (∀W,aZ k W->Calls prog 95 #[.pointer (some ⟨sb,0,none⟩)] W λe w'=>e=.returned (.pointer (some ⟨f,g,none⟩))/\aZ k w'))
 (J:Hid (∀W,aZ k W->Calls prog 114 #[.pointer (some ⟨f,g,none⟩)] W λe w'=>∃t z,e=.returned (.iface t z)/\x t z w'))
 (I:Hid (∀W t z,x t z W->Calls prog 295 #[.iface t z] W λe w'=>(∃b,e=.returned (.bool b)/\l b w')\/(e=fL 2/\S w')))
 (F:Hid (∀W b,l b W->Calls prog 281 #[.pointer (some ⟨f,g,none⟩),.iface 230 (.bool b)] W λe w'=>e=.returned (.tuple #[])/\m b w'))
 (C:Hid (∀W b,l b W->b≠d->P W)) (v:Hid (∀W b,m b W->b=d->P (W.setCell ⟨f,g+1,none⟩ (.int .i64 j))))
 (p:Hid (∀W b,l b W->W.cell? ⟨w.heap.size,0,none⟩=some (.bool d)/\w.heap.size<W.heap.size))
 (s:Hid (∀W b,m b W->W.cell? ⟨w.heap.size,1,none⟩=some (.int .i64 j)/\w.heap.size<W.heap.size/\(∃u,W.cell? ⟨f,g+1,none⟩=some u)/\W.frozen? ⟨f,g+1,none⟩=false/\f<W.heap.size)):
 Calls prog 315 #[.agg #[.bool d,.int .i64 j],.pointer (some ⟨sb,0,none⟩)] w λe w'=>(e=.returned (.tuple #[])/\P w')\/(e=fL 2/\S w'):=by
 have G:=aB r;clear r;go_enter func315,ntmps315;go_wp2_with fail;rw[G.out];refine(K.out _ (aZ.refl _)).mono ?_;rintro e L ⟨rfl,o⟩;go_wp2_with fail;refine(J.out _ o).mono ?_;rintro e Q ⟨t,z,rfl,q⟩;have c:=aB (I.out _ t z q);clear q;go_wp2_with fail;refine c.out.mono ?_;rintro e M (⟨b,rfl,c⟩|⟨rfl,c⟩)
 ·obtain⟨N,O⟩:=p.out _ b c;by_cases i:b=d
  ·subst i;have a:=aB (F.out _ b c);clear c;cases b with
   |true=>
    go_wp2_with fail;refine a.out.mono ?_;rintro e y ⟨rfl,a⟩;obtain⟨D,A,⟨u,B⟩,H,E⟩:=s.out _ _ a;have n:=aB (v.out _ _ a rfl);clear a;go_wp2_with fail;go_end0;exact d6 ⟨rfl,n.out⟩
   |false=>
    go_wp2_with fail;refine a.out.mono ?_;rintro e y ⟨rfl,a⟩;obtain⟨D,A,⟨u,B⟩,H,E⟩:=s.out _ _ a;have n:=aB (v.out _ _ a rfl);clear a;go_wp2_with fail;go_end0;exact d6 ⟨rfl,n.out⟩
  ·have a:=aB (C.out _ b c i);clear c;cases b<;>cases d<;>first|exact absurd rfl i|(clear i;go_wp2_with fail;go_end0;exact d6 ⟨rfl,a.out⟩)
 ·go_wp2_with fail;exact⟨rfl,d5 ⟨rfl,c⟩⟩
def IA(w d:World)(sb c g:Nat)(op:List UInt8)(k:Nat)(P S:World->Prop)(s:TypeId->Value->World->Prop)(o:TypeId->Value->TypeId->Value->World->Prop)(q:TypeId->Value->World->Prop)(r:w.alloc (.cells #[.string (bs op)] 350)=d)
 (F:Hid (∀W,aZ d W->Calls prog 95 #[.pointer (some ⟨sb,0,none⟩)] W λe w'=>e=.returned (.pointer (some ⟨c,g,none⟩))/\aZ d w'))
 (E:Hid (∀W,aZ d W->Calls prog 114 #[.pointer (some ⟨c,g,none⟩)] W λe w'=>∃t z,e=.returned (.iface t z)/\s t z w'))
 (n:Hid (∀W t z,s t z W->Calls prog 114 #[.pointer (some ⟨c,g,none⟩)] W λe w'=>∃a b,e=.returned (.iface a b)/\o t z a b w'))
 (u:Hid (∀W t z a b,o t z a b W->W.cell? ⟨w.heap.size,0,none⟩=some (.string (bs op))/\w.heap.size<W.heap.size))
 (D:Hid (∀W t z a b,o t z a b W->Calls prog 306 #[.string (bs op),.iface a b,.iface t z] W λe w'=>(∃l j,e=.returned (.iface l j)/\q l j w')\/(e=fL k/\S w')))
 (B:Hid (∀W t z,q t z W->Calls prog 281 #[.pointer (some ⟨c,g,none⟩),.iface t z] W λe w'=>e=.returned (.tuple #[])/\P w')):
 Calls prog 305 #[.agg #[.string (bs op)],.pointer (some ⟨sb,0,none⟩)] w λe w'=>(e=.returned (.tuple #[])/\P w')\/(e=fL k/\S w'):=by
 have C:=aB r;clear r;go_enter func305,ntmps305;go_wp2_with fail;rw[C.out];refine(F.out _ (aZ.refl _)).mono ?_;rintro e H ⟨rfl,m⟩;go_wp2_with fail;refine(E.out _ m).mono ?_;rintro e L ⟨t,z,rfl,p⟩;have A:=aB (n.out _ t z p);clear p;go_wp2_with fail;refine A.out.mono ?_;rintro e I ⟨a,b,rfl,i⟩;obtain⟨J,K⟩:=u.out _ _ _ _ _ i;have x:=aB (D.out _ _ _ _ _ i);clear i;go_wp2_with fail;refine x.out.mono ?_;rintro e G (⟨l,j,rfl,f⟩|⟨rfl,f⟩)
 ·have v:=aB (B.out _ _ _ f);clear f;go_wp2_with fail;refine v.out.mono ?_;rintro e M ⟨rfl,y⟩;go_wp2_with fail;go_end0;exact d6 ⟨rfl,y⟩
 ·go_wp2_with fail;exact⟨rfl,d5 ⟨rfl,f⟩⟩
def MA(w d:World)(sb c g:Nat)(k:Nat)(P S:World->Prop)(r:TypeId->Value->World->Prop)(s:TypeId->Value->TypeId->Value->World->Prop)(o:TypeId->Value->World->Prop)(p:w.alloc (.cells #[] 315)=d)
 (E:Hid (∀W,aZ d W->Calls prog 95 #[.pointer (some ⟨sb,0,none⟩)] W λe w'=>e=.returned (.pointer (some ⟨c,g,none⟩))/\aZ d w'))
 (D:Hid (∀W,aZ d W->Calls prog 114 #[.pointer (some ⟨c,g,none⟩)] W λe w'=>∃t z,e=.returned (.iface t z)/\r t z w'))
 (m:Hid (∀W t z,r t z W->Calls prog 114 #[.pointer (some ⟨c,g,none⟩)] W λe w'=>∃a b,e=.returned (.iface a b)/\s t z a b w'))
 (C:Hid (∀W t z a b,s t z a b W->Calls prog 291 #[.iface a b,.iface t z] W λe w'=>(∃j i,e=.returned (.iface j i)/\o j i w')\/(e=fL k/\S w')))
 (A:Hid (∀W t z,o t z W->Calls prog 281 #[.pointer (some ⟨c,g,none⟩),.iface t z] W λe w'=>e=.returned (.tuple #[])/\P w')):
 Calls prog 290 #[.agg #[],.pointer (some ⟨sb,0,none⟩)] w λe w'=>(e=.returned (.tuple #[])/\P w')\/(e=fL k/\S w'):=by
 have B:=aB p;clear p;go_enter func290,ntmps290;go_wp2_with fail;rw[B.out];refine(E.out _ (aZ.refl _)).mono ?_;rintro e G ⟨rfl,l⟩;go_wp2_with fail;refine(D.out _ l).mono ?_;rintro e I ⟨t,z,rfl,n⟩;have y:=aB (m.out _ t z n);clear n;go_wp2_with fail;refine y.out.mono ?_;rintro e H ⟨a,b,rfl,q⟩;have v:=aB (C.out _ _ _ _ _ q);clear q;go_wp2_with fail;refine v.out.mono ?_;rintro e F (⟨j,i,rfl,f⟩|⟨rfl,f⟩)
 ·have u:=aB (A.out _ _ _ f);clear f;go_wp2_with fail;refine u.out.mono ?_;rintro e J ⟨rfl,x⟩;go_wp2_with fail;go_end0;exact d6 ⟨rfl,x⟩
 ·go_wp2_with fail;exact⟨rfl,d5 ⟨rfl,f⟩⟩
def GF(w a:World)(sb c i:Nat)(k:Nat)(P S:World->Prop)(n l:TypeId->Value->World->Prop)(m:w.alloc (.cells #[] 354)=a)
 (x:Hid (∀W,aZ a W->Calls prog 95 #[.pointer (some ⟨sb,0,none⟩)] W λe w'=>e=.returned (.pointer (some ⟨c,i,none⟩))/\aZ a w'))
 (v:Hid (∀W,aZ a W->Calls prog 114 #[.pointer (some ⟨c,i,none⟩)] W λe w'=>∃t z,e=.returned (.iface t z)/\n t z w'))
 (u:Hid (∀W t z,n t z W->Calls prog 317 #[.iface t z] W λe w'=>(∃f d,e=.returned (.iface f d)/\l f d w')\/(e=fL k/\S w')))
 (r:Hid (∀W t z,l t z W->Calls prog 281 #[.pointer (some ⟨c,i,none⟩),.iface t z] W λe w'=>e=.returned (.tuple #[])/\P w')):
 Calls prog 316 #[.agg #[],.pointer (some ⟨sb,0,none⟩)] w λe w'=>(e=.returned (.tuple #[])/\P w')\/(e=fL k/\S w'):=by
 have s:=aB m;clear m;go_enter func316,ntmps316;go_wp2_with fail;rw[s.out];refine(x.out _ (aZ.refl _)).mono ?_;rintro e A ⟨rfl,g⟩;go_wp2_with fail;refine(v.out _ g).mono ?_;rintro e B ⟨t,z,rfl,j⟩;have p:=aB (u.out _ t z j);clear j;go_wp2_with fail;refine p.out.mono ?_;rintro e y (⟨f,d,rfl,b⟩|⟨rfl,b⟩)
 ·have o:=aB (r.out _ _ _ b);clear b;go_wp2_with fail;refine o.out.mono ?_;rintro e C ⟨rfl,q⟩;go_wp2_with fail;go_end0;exact d6 ⟨rfl,q⟩
 ·go_wp2_with fail;exact⟨rfl,d5 ⟨rfl,b⟩⟩
def QC(w f:World)(sb l q c:Nat)(k:Nat)(P S:World->Prop)(u:Option Addr->Nat->World->Prop)(s:TypeId->Value->World->Prop)(m:w.alloc (.cells #[.int .i64 c] 314)=f)
 (G:Hid (∀W,aZ f W->Calls prog 95 #[.pointer (some ⟨sb,0,none⟩)] W λe w'=>e=.returned (.pointer (some ⟨l,q,none⟩))/\aZ f w'))
 (F:Hid (∀W,aZ f W->Calls prog 287 #[.pointer (some ⟨l,q,none⟩),.int .i64 c] W λe w'=>∃x d,e=.returned (.slice x c d)/\u x d w'))
 (E:Hid (∀W x d,u x d W->Calls prog 286 #[.slice x c d] W λe w'=>(∃o n,e=.returned (.iface o n)/\s o n w')\/(e=fL k/\S w')))
 (B:Hid (∀W t z,s t z W->Calls prog 281 #[.pointer (some ⟨l,q,none⟩),.iface t z] W λe w'=>e=.returned (.tuple #[])/\P w')):
 Calls prog 285 #[.agg #[.int .i64 c],.pointer (some ⟨sb,0,none⟩)] w λe w'=>(e=.returned (.tuple #[])/\P w')\/(e=fL k/\S w'):=by
 have a:(w.alloc (.cells #[.int .i64 c] 314)).heap[w.heap.size]?=some (.cells #[.int .i64 c] 314 (0,0)):=aS _ _ rfl _;rw[m] at a;have C:=aB m;have p:=aB (aA (i:=0) a rfl);have j:=aD a;clear m a;go_enter func285,ntmps285;go_wp2_with fail;rw[C.out];refine(G.out _ (aZ.refl _)).mono ?_;rintro e I ⟨rfl,b⟩;have J:=cW b.heap p.out;have D:=kC b.heap j;go_wp2_with fail;refine(F.out _ b).mono ?_;rintro e K ⟨x,d,rfl,r⟩;have y:=aB (E.out _ x d r);clear r;go_wp2_with fail;refine y.out.mono ?_;rintro e H (⟨o,n,rfl,g⟩|⟨rfl,g⟩)
 ·have v:=aB (B.out _ _ _ g);clear g;go_wp2_with fail;refine v.out.mono ?_;rintro e L ⟨rfl,A⟩;go_wp2_with fail;go_end0;exact d6 ⟨rfl,A⟩
 ·go_wp2_with fail;exact⟨rfl,d5 ⟨rfl,g⟩⟩
def WZ{P:Program}{b:Array Oper}{o:Oper}{a:Act}{K:Act->World->Prop}{Q:Exit->Act->World->Prop}{E:Prop}(c:Value)
 (h:if Region.wanted o (yielded b a.tmps)=true then Oper.wp P o a w K Q else E) (_d:Hid False->K (a.put o.dst c) w):
 if Region.wanted o (yielded b a.tmps)=true then Oper.wp P o a w K Q else E:=h
def SX(w d:World)(sb g o:Nat)(op:List UInt8)(P:World->Prop)(m q:TypeId->Value->World->Prop)(j:w.alloc (.cells #[.string (bs op)] 317)=d)
 (C:Hid (∀W,aZ d W->Calls prog 95 #[.pointer (some ⟨sb,0,none⟩)] W λe w'=>e=.returned (.pointer (some ⟨g,o,none⟩))/\aZ d w'))
 (B:Hid (∀W,aZ d W->Calls prog 114 #[.pointer (some ⟨g,o,none⟩)] W λe w'=>∃t z,e=.returned (.iface t z)/\m t z w'))
 (r:Hid (∀W t z,m t z W->W.cell? ⟨w.heap.size,0,none⟩=some (.string (bs op))/\w.heap.size<W.heap.size))
 (A:Hid (∀W t z,m t z W->Calls prog 294 #[.string (bs op),.iface t z] W λe w'=>∃l k,e=.returned (.iface l k)/\q l k w'))
 (v:Hid (∀W t z,q t z W->Calls prog 281 #[.pointer (some ⟨g,o,none⟩),.iface t z] W λe w'=>e=.returned (.tuple #[])/\P w')):
 Calls prog 293 #[.agg #[.string (bs op)],.pointer (some ⟨sb,0,none⟩)] w λe w'=>e=.returned (.tuple #[])/\P w':=by
 have a:(w.alloc (.cells #[.string (bs op)] 317)).heap[w.heap.size]?=some (.cells #[.string (bs op)] 317 (0,0)):=aS _ _ rfl _;rw[j] at a;have x:=aB j;have n:=aB (aA (i:=0) a rfl);have f:=aD a;clear j a;go_enter func293,ntmps293;go_wp2_with fail;rw[x.out];refine(C.out _ (aZ.refl _)).mono ?_;rintro e E ⟨rfl,b⟩;have H:=cW b.heap n.out;have y:=kC b.heap f;go_wp2_with fail;go_region_law (go_simp;first|(go_at_call 114;refine(B.out _ (b.trans (aZ.drew _))).mono ?_;rintro e J ⟨t,z,rfl,p⟩;have c:=r.out _ _ _ p;have F:=c.1;have I:=c.2;clear c)|(go_at_call 294;refine(A.out _ _ _ p).mono ?_;rintro e G ⟨l,k,rfl,u⟩)|(go_at_call 281;refine(v.out _ _ _ u).mono ?_;rintro e D ⟨rfl,s⟩))
 all_goals
  go_wp2_with fail;go_end0;exact⟨rfl,s⟩
def JY(w g:World)(sb p q:Nat)(op:List UInt8)(k:Nat)(S:World->Prop)(m:TypeId->Value->World->Prop)(l:w.alloc (.cells #[.string (bs op)] 317)=g)
 (A:Hid (∀W,aZ g W->Calls prog 95 #[.pointer (some ⟨sb,0,none⟩)] W λe w'=>e=.returned (.pointer (some ⟨p,q,none⟩))/\aZ g w'))
 (y:Hid (∀W,aZ g W->Calls prog 114 #[.pointer (some ⟨p,q,none⟩)] W λe w'=>∃t z,e=.returned (.iface t z)/\m t z w'))
 (r:Hid (∀W t z,m t z W->W.cell? ⟨w.heap.size,0,none⟩=some (.string (bs op))/\w.heap.size<W.heap.size))
 (x:Hid (∀W t z,m t z W->Calls prog 294 #[.string (bs op),.iface t z] W λe w'=>e=fL k/\S w')):
 Calls prog 293 #[.agg #[.string (bs op)],.pointer (some ⟨sb,0,none⟩)] w λe w'=>e=fL k/\S w':=by
 have b:(w.alloc (.cells #[.string (bs op)] 317)).heap[w.heap.size]?=some (.cells #[.string (bs op)] 317 (0,0)):=aS _ _ rfl _;rw[l] at b;have u:=aB l;have n:=aB (aA (i:=0) b rfl);have j:=aD b;clear l b;go_enter func293,ntmps293;go_wp2_with fail;rw[u.out];refine(A.out _ (aZ.refl _)).mono ?_;rintro e B ⟨rfl,c⟩;have E:=cW c.heap n.out;have v:=kC c.heap j;go_wp2_with fail;go_region_law (first|(go_simp;go_at_call 114;refine(y.out _ (c.trans (aZ.drew _))).mono ?_;rintro e G ⟨t,z,rfl,o⟩;have d:=r.out _ _ _ o;have C:=d.1;have F:=d.2;clear d)|(refine WZ (.iface 230 (.bool true)) ?_ ?_;(focus go_simp;go_at_call 294;refine(x.out _ _ _ o).mono ?_;rintro e D ⟨rfl,s⟩;exact⟨rfl,rfl,s⟩);intro a)|(refine WZ (.tuple #[]) a.out.elim ?_;intro f))
 all_goals exact a.out.elim
def QB(w d:World)(sb l q c g n o:Nat)(t:TypeId)(z:Value)(P:World->Prop)(m:w.alloc (.cells #[.int .i64 c] 312)=d)
 (B:Hid (∀W,aZ d W->Calls prog 95 #[.pointer (some ⟨sb,0,none⟩)] W λe w'=>e=.returned (.pointer (some ⟨l,q,none⟩))/\aZ d w'))
 (s:d.cell? ⟨l,q+4,none⟩=some (.slice (some ⟨g,0,none⟩) n o)) (r:d.cell? ⟨g,c,none⟩=some (.iface t z)) (u:c<n)
 (x:Hid (∀W,aZ d W->Calls prog 281 #[.pointer (some ⟨l,q,none⟩),.iface t z] W λe w'=>e=.returned (.tuple #[])/\P w')):
 Calls prog 284 #[.agg #[.int .i64 c],.pointer (some ⟨sb,0,none⟩)] w λe w'=>e=.returned (.tuple #[])/\P w':=by
 have a:(w.alloc (.cells #[.int .i64 c] 312)).heap[w.heap.size]?=some (.cells #[.int .i64 c] 312 (0,0)):=aS _ _ rfl _;rw[m] at a;have y:=aB m;have f:=aB (aA (i:=0) a rfl);have j:=aD a;have k:=aB s;have p:=aB r;have J:(0:Int)<=(c:Int):=o_
 have F:(c:Int)<(n:Int):=o_
 clear m a s r;go_enter func284,ntmps284;go_wp2_with fail;rw[y.out];have E:=f.out;go_region_law (go_simp;first|(go_at_call 95;refine(B.out _ (by first|assumption|exact aZ.drew _)).mono ?_;rintro e D ⟨rfl,b⟩;have G:=cW b.heap f.out;have A:=kC b.heap j;have H:=cW b.heap k.out;have I:=cW b.heap p.out)|(go_at_call 281;refine(x.out _ b).mono ?_;rintro e C ⟨rfl,v⟩))
 all_goals
  go_wp2_with fail;go_end0;exact⟨rfl,v⟩
def NH(w d:World)(sb g j p:Nat)(k:Option Addr)(P:World->Prop)(r:w.alloc (.cells #[.int .i64 p,.pointer k] 251)=d)
 (D:Hid (∀W,aZ d W->Calls prog 95 #[.pointer (some ⟨sb,0,none⟩)] W λe w'=>e=.returned (.pointer (some ⟨g,j,none⟩))/\aZ d w'))
 (c:∃u,d.cell? ⟨g,j+2,none⟩=some u) (f:∃u,d.cell? ⟨g,j+3,none⟩=some u) (n:d.frozen? ⟨g,j+2,none⟩=false) (m:d.frozen? ⟨g,j+3,none⟩=false) (z:g<d.heap.size)
 (A:Hid (∀W,aZ d W->P ((W.setCell ⟨g,j+2,none⟩ (.int .i64 p)).setCell ⟨g,j+3,none⟩ (.pointer k)))):
 Calls prog 283 #[.agg #[.int .i64 p,.pointer k],.pointer (some ⟨sb,0,none⟩)] w λe w'=>e=.returned (.tuple #[])/\P w':=by
 have b:(w.alloc (.cells #[.int .i64 p,.pointer k] 251)).heap[w.heap.size]?=some (.cells #[.int .i64 p,.pointer k] 251 (0,0)):=aS _ _ rfl _;rw[r] at b;have B:=aB r;have o:=aB (aA (i:=0) b rfl);have l:=aB (aA (i:=1) b rfl);have q:=aD b;obtain⟨u2,c⟩:=c;obtain⟨u3,f⟩:=f;have x:=aB c;have s:=aB f;have t:=aB n;have v:=aB m;have I:=o.out;have J:=l.out;clear r b c f n m;go_enter func283,ntmps283;go_wp2_with fail;rw[B.out];go_region_law (go_simp;go_at_call 95;refine(D.out _ (aZ.drew _)).mono ?_;rintro e E ⟨rfl,a⟩;have K:=cW a.heap o.out;have H:=cW a.heap l.out;have F:=cW a.heap x.out;have G:=cW a.heap s.out;have M:=rC a.heap t.out;have L:=rC a.heap v.out;have C:=kC a.heap q;have y:=kC a.heap z)
 all_goals
  go_wp2_with fail;go_end0;exact⟨rfl,A.out _ a⟩
def kH(n:Int):aK (aW n)=1:=by rw[eV];rfl
def lR(b:Bool):aK (bM b)=1:=by rw[eV];rfl
def jJ:aK bL<=200:=by rw[eV];decide
def ZO(op:List UInt8)(a:aJ):aK (fH op a).1<=200:=by
 unfold fH;repeat' split
 all_goals first|(show aK (aW _)<=200;rw[kH];omega)|(show aK (bM _)<=200;rw[lR];omega)|exact jJ
def VK(op:List UInt8)(x y:Int):aK (jH op x y).1<=200:=by
 unfold jH;repeat' split
 all_goals first|(show aK (aW _)<=200;rw[kH];omega)|(show aK (bM _)<=200;rw[lR];omega)|exact jJ
def LY(a b:aJ):aK (jG a b).1<=200:=by
 unfold jG;dsimp only;by_cases h:200<aK (if a.sort=3 then aT (a.l++b.l) else bI (a.s++b.s))
 ·rw[if_pos h];exact jJ
 ·rw[if_neg h];exact Nat.le_of_not_lt h
def YE(op:List UInt8)(a b:aJ):aK (eN op a b).1<=200:=by
 unfold eN;repeat' split
 all_goals first|exact VK _ _ _|exact LY _ _|(show aK (bM _)<=200;rw[lR];omega)|exact jJ
def QE(r:aJ × Nat)(h:(iH r).2=0):aK (iH r).1<=200:=by
 unfold iH at h ⊢
 by_cases a:r.2=0
 ·rw[if_pos a] at h ⊢
  by_cases b:200<aK r.1
  ·rw[if_pos b] at h;cases h
  ·rw[if_neg b];omega
 ·rw[if_neg a] at h;exact absurd h a
def PV.bool(h:PV F w v a)(d:a.sort=1):a=bM (decide (a.n=1)):=by
 rcases h.cases with ⟨n,_,rfl,_⟩|⟨b,_,rfl⟩|⟨s,_,rfl⟩|⟨x,c,l,_,rfl,_⟩
 ·simp[aW] at d
 ·cases b<;>rfl
 ·simp[bI] at d
 ·simp[aT] at d
def jA{vs:List aJ}(h:f.ops=vs++[a]):f.last=a:=by simp[aI.last,h]
def mG{vs:List aJ}(h:f.ops=vs++[a]):f.pop.ops=vs:=by simp[aI.pop,h]
def oC(fp:Nat->Value)(F:Nat->Prop)(b_ sb:Nat)(t0 s0:Value)(own:List Nat)(w:World)(w_:List aI)(tape:List Int)(out:List (List UInt8))(r:aI × Nat)(e:Ending)(w':World):Prop:=
 s5 r.2 e/\Done fp F b_ sb t0 s0 own w ⟨w_++[r.1],tape,out⟩ w'
section
variable {fp:Nat->Value} {F:Nat->Prop} {b_:Nat} {w:World} {sb gf cap:Nat} {t0 tv u_ s0:Value} {v_:List FVal} {w_:List aI} {f:aI} {tape:List Int} {out:List (List UInt8)}
def oC.ok{own:List Nat}{r:aI × Nat}{g:aI}{w':World}(a:r=(g,0))(h:Done fp F b_ sb t0 s0 own w ⟨w_++[g],tape,out⟩ w'):oC fp F b_ sb t0 s0 own w w_ tape out r (.returned (.tuple #[])) w':=by
 subst a;exact⟨d6 ⟨rfl,rfl⟩,h⟩
def oC.stop{own:List Nat}{r:aI × Nat}{g:aI}{k:Nat}{w':World}(b:r=(g,k))(a:k≠0)(h:Done fp F b_ sb t0 s0 own w ⟨w_++[g],tape,out⟩ w'):oC fp F b_ sb t0 s0 own w w_ tape out r (fL k) w':=by
 subst b;exact⟨d5 ⟨a,rfl⟩,h⟩
def cT.count{m:bX}(h:cT fp F b_ w sb gf cap t0 tv u_ s0 v_ m):v_.length=m.f_.length:=h.frs.length
def cT.mid(h:cT fp F b_ w sb gf cap t0 tv u_ s0 v_ ⟨w_++[f],tape,out⟩)(b:b_<=w.heap.size)(a:Obj):Mid fp b_ sb gf w_.length t0 s0 (aF sb gf u_ v_) (w.alloc a) F ⟨w_++[f],tape,out⟩ (w.alloc a):=
 Mid.init h (by rw[h.count];simp) b a
def Mid.topS{own:List Nat}{a:World}{G:Nat->Prop}{n:Nat}{m:bX}(h:Mid fp b_ sb gf n t0 s0 own a G m a)(f:n<=15):Hid (∀W,aZ a W->Calls prog 95 #[.pointer (some ⟨sb,0,none⟩)] W λe w'=>e=.returned (.pointer (some ⟨gf,n*6,none⟩))/\aZ a w'):=λW b=>by
 refine((h.same b).top f).mono ?_;rintro e w' ⟨c,d⟩;exact⟨c,b.trans d⟩
def Mid.box{n:Nat}{G:Nat->Prop}{m:bX}{cs:Array Value}{a:TypeId}{W:World}(h:cT fp F b_ w sb gf cap t0 tv u_ s0 v_ ⟨w_++[f],tape,out⟩)(c:Mid fp b_ sb gf n t0 s0 (aF sb gf u_ v_) (w.alloc (.cells cs a)) G m W):W.heap[w.heap.size]?=some (.cells cs a (0,0)):=by
 rw[c.old s_ (λb=>Nat.lt_irrefl _ (h.lt _ b))]
 exact aS _ _ rfl _
def Z7(h:cT fp F b_ w sb gf cap t0 tv u_ s0 v_ ⟨w_++[f],tape,out⟩)(c:w_.length<=15)(b:b_<=w.heap.size)(l:f.ops.length<=99000)(d:∃j a,f.ops=j++[a]):
 Calls prog 304 #[.agg #[],.pointer (some ⟨sb,0,none⟩)] w (oC fp F b_ sb t0 s0 (aF sb gf u_ v_) w w_ tape out (aO .drop f)):=by
 obtain⟨j,a,m⟩:=d;have k:=h.mid b (.cells #[] 348);refine(RI w _ sb gf (w_.length*6) (λg=>Done fp F b_ sb t0 s0 (aF sb gf u_ v_) w ⟨w_++[f.pop],tape,out⟩ g) rfl (k.topS c) λW o=>?_).mono ?_
 ·refine((k.same o).pop m o_).mono ?_
  rintro e g ⟨t,z,n,_,_,i⟩;exact⟨t,z,n,i.done (Ext.refl _ _)⟩
 ·rintro e g ⟨rfl,i⟩;exact oC.ok rfl i
def I7(h:cT fp F b_ w sb gf cap t0 tv u_ s0 v_ ⟨w_++[f],tape,out⟩)(l:w_.length<=15)(i:b_<=w.heap.size)(k:f.ops.length<=99000)(o:∃s a,f.ops=s++[a]):
 Calls prog 314 #[.agg #[],.pointer (some ⟨sb,0,none⟩)] w (oC fp F b_ sb t0 s0 (aF sb gf u_ v_) w w_ tape out (aO .truth f)):=by
 obtain⟨s,a,m⟩:=o;have r:=h.mid i (.cells #[] 351);have v:f.pop.ops.length<=100000:=by rw[mG m];rw[m,ei] at k;omega
 refine(KC w _ sb gf (w_.length*6) (λg=>a.sort=1/\Done fp F b_ sb t0 s0 (aF sb gf u_ v_) w ⟨w_++[f.pop.push a],tape,out⟩ g) (λg=>a.sort≠1/\Done fp F b_ sb t0 s0 (aF sb gf u_ v_) w ⟨w_++[f.pop],tape,out⟩ g)
  (λt z W=>PV F W (.iface t z) a/\aK a<=200/\Mid fp b_ sb gf w_.length t0 s0 (aF sb gf u_ v_) (w.alloc (.cells #[] 351)) F ⟨w_++[f.pop],tape,out⟩ W)
  (λb W=>a.sort=1/\a=bM b/\Mid fp b_ sb gf w_.length t0 s0 (aF sb gf u_ v_) (w.alloc (.cells #[] 351)) F ⟨w_++[f.pop],tape,out⟩ W) rfl (r.topS l) (λW y=>?_) (λW t z p=>?_) (λW b p=>?_)).mono ?_
 ·refine((r.same y).pop m o_).mono ?_
  rintro e g ⟨t,z,q,c,d,j⟩;exact⟨t,z,q,c,d,j⟩
 ·obtain⟨c,d,j⟩:=p;refine(oW F _ a W c).mono ?_;rintro e g ⟨rfl,⟨n,rfl⟩|⟨n,rfl⟩⟩
  ·exact d6 ⟨_,rfl,n,c.bool n,j⟩
  ·exact d5 ⟨rfl,n,j.done (Ext.refl _ _)⟩
 ·obtain⟨c,d,j⟩:=p;rw[d] at c ⊢
  refine(j.push (PV.tru F W b) (by rw[lR];omega) v).mono ?_
  rintro e g ⟨q,u⟩;exact⟨q,c,u.done (Ext.refl _ _)⟩
 ·have x:aO .truth f=if a.sort=1 then (f.pop.push a,0) else (f.pop,2):=by simp[aO,jA m]
  rw[x];rintro e g (⟨rfl,c,d⟩|⟨rfl,c,d⟩)
  ·exact oC.ok (if_pos c) d
  ·exact oC.stop (if_neg c) d_ d
end
section
variable {fp:Nat->Value} {F:Nat->Prop} {b_:Nat} {w:World} {sb gf cap:Nat} {t0 tv u_ s0:Value} {v_:List FVal} {w_:List aI} {f:aI} {tape:List Int} {out:List (List UInt8)}
def Mid.next{own:List Nat}{c:World}{G:Nat->Prop}{n:Nat}(h:Mid fp b_ sb gf n t0 s0 own c G ⟨w_++[f],tape,out⟩ w)(b:Nat):Mid fp b_ sb gf n t0 s0 own c G ⟨w_++[{ f with next:=b }],tape,out⟩ (w.setCell ⟨gf,n*6+1,none⟩ (.int .i64 b)):=
 h.set 1 (.int .i64 b) o_ (λv=>{ v with nx:=.int .i64 b }) (λ_=>rfl) (λ_ _=>rfl) λ_ a=>⟨a.fn,rfl,a.ln,a.sp,a.g_,a.ops⟩
def Mid.cell{own:List Nat}{e:World}{G:Nat->Prop}{n:Nat}(h:Mid fp b_ sb gf n t0 s0 own e G ⟨w_++[f],tape,out⟩ w)(j:Nat)(a:j<6):(∃u,w.cell? ⟨gf,n*6+j,none⟩=some u)/\w.frozen? ⟨gf,n*6+j,none⟩=false/\gf<w.heap.size:=by
 obtain⟨v,i,b,g⟩:=h.cells;obtain⟨d,c⟩:=g j (v.cells[j]'(by simpa [FVal.cells] using a)) (fg _)
 exact⟨⟨_,d⟩,c,b⟩
def Y4(b:Nat)(h:cT fp F b_ w sb gf cap t0 tv u_ s0 v_ ⟨w_++[f],tape,out⟩)(c:w_.length<=15)(a:b_<=w.heap.size):
 Calls prog 322 #[.agg #[.int .i64 b],.pointer (some ⟨sb,0,none⟩)] w (oC fp F b_ sb t0 s0 (aF sb gf u_ v_) w w_ tape out (aO (.jump b) f)):=by
 have g:=h.mid a (.cells #[.int .i64 b] 367);obtain⟨k,d,l⟩:=g.cell 1 o_
 refine(QI w _ sb gf (w_.length*6) b (λi=>Done fp F b_ sb t0 s0 (aF sb gf u_ v_) w ⟨w_++[{ f with next:=b }],tape,out⟩ i) rfl (g.topS c) k d l λW j=>?_).mono ?_
 ·exact((g.same j).next b).done (Ext.refl _ _)
 ·rintro e i ⟨rfl,d⟩;exact oC.ok rfl d
def YB(i:Nat)(h:cT fp F b_ w sb gf cap t0 tv u_ s0 v_ ⟨w_++[f],tape,out⟩)(m:w_.length<=15)(j:b_<=w.heap.size)(q:f.ops.length<=99000)(n:∃s a,f.ops=s++[a]):
 Calls prog 321 #[.agg #[.int .i64 i],.pointer (some ⟨sb,0,none⟩)] w (oC fp F b_ sb t0 s0 (aF sb gf u_ v_) w w_ tape out (aO (.skip i) f)):=by
 obtain⟨s,a,u⟩:=n;have p:=h.mid j (.cells #[.int .i64 i] 366)
 refine(EY w _ sb gf (w_.length*6) i (λl=>a.sort=1/\Done fp F b_ sb t0 s0 (aF sb gf u_ v_) w ⟨w_++[if a.n=1 then f.pop else { f.pop with next:=i }],tape,out⟩ l) (λl=>a.sort≠1/\Done fp F b_ sb t0 s0 (aF sb gf u_ v_) w ⟨w_++[f.pop],tape,out⟩ l)
  (λt z W=>PV F W (.iface t z) a/\aK a<=200/\Mid fp b_ sb gf w_.length t0 s0 (aF sb gf u_ v_) (w.alloc (.cells #[.int .i64 i] 366)) F ⟨w_++[f.pop],tape,out⟩ W)
  (λb W=>a.sort=1/\b=decide (a.n=1)/\Mid fp b_ sb gf w_.length t0 s0 (aF sb gf u_ v_) (w.alloc (.cells #[.int .i64 i] 366)) F ⟨w_++[f.pop],tape,out⟩ W) rfl (p.topS m) (λW C=>?_) (λW t z k=>?_) (λW k=>?_) (λW k=>?_) (λW b k=>?_)).mono ?_
 ·refine((p.same C).pop u o_).mono ?_
  rintro e l ⟨t,z,B,c,d,g⟩;exact⟨t,z,B,c,d,g⟩
 ·obtain⟨c,d,g⟩:=k;refine(oW F _ a W c).mono ?_;rintro e l ⟨rfl,⟨o,rfl⟩|⟨o,rfl⟩⟩
  ·exact d6 ⟨_,rfl,o,rfl,g⟩
  ·exact d5 ⟨rfl,o,g.done (Ext.refl _ _)⟩
 ·obtain⟨c,d,g⟩:=k;refine⟨c,?_⟩;rw[if_pos (of_decide_eq_true d.symm)];exact g.done (Ext.refl _ _)
 ·obtain⟨c,d,g⟩:=k;refine⟨c,?_⟩;rw[if_neg (of_decide_eq_false d.symm)];exact(g.next i).done (Ext.refl _ _)
 ·obtain⟨c,d,g⟩:=k;have r:=Mid.box h g;obtain⟨v,A,x⟩:=g.cell 1 o_
  exact⟨aA r rfl,aD r,v,A,x⟩
 ·have y:aO (.skip i) f=if a.sort=1 then (if a.n=1 then f.pop else { f.pop with next:=i },0) else (f.pop,2):=by simp[aO,jA u]
  rw[y];rintro e l (⟨rfl,c,d⟩|⟨rfl,c,d⟩)
  ·exact oC.ok (if_pos c) d
  ·exact oC.stop (if_neg c) d_ d
def OS(k:Bool)(j:Nat)(h:cT fp F b_ w sb gf cap t0 tv u_ s0 v_ ⟨w_++[f],tape,out⟩)(r:w_.length<=15)(n:b_<=w.heap.size)(o:f.ops.length<=99000)(l:∃y a,f.ops=y++[a]):
 Calls prog 315 #[.agg #[.bool k,.int .i64 j],.pointer (some ⟨sb,0,none⟩)] w (oC fp F b_ sb t0 s0 (aF sb gf u_ v_) w w_ tape out (aO (.shortcut k j) f)):=by
 obtain⟨y,a,u⟩:=l;have x:=h.mid n (.cells #[.bool k,.int .i64 j] 353);have D:f.pop.ops.length<=100000:=by rw[mG u];rw[u,ei] at o;omega
 refine(zU w _ sb gf (w_.length*6) j k (λm=>a.sort=1/\Done fp F b_ sb t0 s0 (aF sb gf u_ v_) w ⟨w_++[if decide (a.n=1)=k then { f.pop.push a with next:=j } else f.pop],tape,out⟩ m) (λm=>a.sort≠1/\Done fp F b_ sb t0 s0 (aF sb gf u_ v_) w ⟨w_++[f.pop],tape,out⟩ m)
  (λt z W=>PV F W (.iface t z) a/\aK a<=200/\Mid fp b_ sb gf w_.length t0 s0 (aF sb gf u_ v_) (w.alloc (.cells #[.bool k,.int .i64 j] 353)) F ⟨w_++[f.pop],tape,out⟩ W)
  (λb W=>a.sort=1/\b=decide (a.n=1)/\a=bM b/\Mid fp b_ sb gf w_.length t0 s0 (aF sb gf u_ v_) (w.alloc (.cells #[.bool k,.int .i64 j] 353)) F ⟨w_++[f.pop],tape,out⟩ W)
  (λb W=>a.sort=1/\b=decide (a.n=1)/\Mid fp b_ sb gf w_.length t0 s0 (aF sb gf u_ v_) (w.alloc (.cells #[.bool k,.int .i64 j] 353)) F ⟨w_++[f.pop.push a],tape,out⟩ W) rfl (x.topS r) (λW H=>?_) (λW t z i=>?_) (λW b i=>?_) (λW b i l=>?_) (λW b i s=>?_) (λW b i=>?_) (λW b i=>?_)).mono ?_
 ·refine((x.same H).pop u o_).mono ?_
  rintro e m ⟨t,z,s,c,d,g⟩;exact⟨t,z,s,c,d,g⟩
 ·obtain⟨c,d,g⟩:=i;refine(oW F _ a W c).mono ?_;rintro e m ⟨rfl,⟨v,rfl⟩|⟨v,rfl⟩⟩
  ·exact d6 ⟨_,rfl,v,rfl,c.bool v,g⟩
  ·exact d5 ⟨rfl,v,g.done (Ext.refl _ _)⟩
 ·obtain⟨c,d,g,q⟩:=i;refine(q.push (a:=a) (by rw[g];exact PV.tru F W b) (by rw[g,lR];omega) D).mono ?_
  rintro e m ⟨s,C⟩;exact⟨s,c,d,C⟩
 ·obtain⟨c,d,g,q⟩:=i;refine⟨c,?_⟩;rw[if_neg (by rw[<-d];exact l)]
  exact q.done (Ext.refl _ _)
 ·obtain⟨c,d,g⟩:=i;refine⟨c,?_⟩;rw[if_pos (by rw[<-d];exact s)]
  exact(g.next j).done (Ext.refl _ _)
 ·obtain⟨c,d,g,q⟩:=i;have p:=Mid.box h q;exact⟨aA p rfl,aD p⟩
 ·obtain⟨c,d,g⟩:=i;have p:=Mid.box h g;obtain⟨A,G,B⟩:=g.cell 1 o_
  exact⟨aA p rfl,aD p,A,G,B⟩
 ·have E:aO (.shortcut k j) f=if a.sort=1 then (if decide (a.n=1)=k then { f.pop.push a with next:=j } else f.pop,0) else (f.pop,2):=by simp[aO,jA u]
  rw[E];rintro e m (⟨rfl,c,d⟩|⟨rfl,c,d⟩)
  ·exact oC.ok (if_pos c) d
  ·exact oC.stop (if_neg c) d_ d
end
section
variable {fp:Nat->Value} {F:Nat->Prop} {b_:Nat} {w:World} {sb gf cap:Nat} {t0 tv u_ s0:Value} {v_:List FVal} {w_:List aI} {f:aI} {tape:List Int} {out:List (List UInt8)}
def Mid.apart{own:List Nat}{d:World}{G:Nat->Prop}{n:Nat}{m:bX}(h:Mid fp b_ sb gf n t0 s0 own d G m w):∀k,G k->k<w.heap.size/\k≠gf:=by
 obtain⟨l,j,f,i,c,g,o,b,p⟩:=h;exact λk a=>⟨(b.apart k a).1,λe=>(b.apart k a).2 (by simp[aF,e])⟩
def mD.cell{G:Nat->Prop}{v:Value}{l:List aJ}{k:Nat}(h:mD G b_ w v l)(j:k<l.length):∃g cap t z,v=.slice (some ⟨g,0,none⟩) l.length cap/\w.cell? ⟨g,k,none⟩=some (.iface t z)/\PV G w (.iface t z) l[k]/\aK l[k]<=200:=by
 obtain⟨⟨y,n,s,p⟩,m⟩:=h;obtain⟨u,b,f⟩:=p k j;obtain⟨t,z,rfl⟩:=f.form;rcases n.2 with ⟨x,A⟩|⟨g,c,r,rfl,o,a,e,i,q,d⟩
 ·omega
 refine⟨g,c,t,z,rfl,aA a ?_,f,m _ (fi _)⟩;rw[<-d,fm] at b;split at b
 ·simpa using b
 ·cases b
def Y1(k:Nat)(h:cT fp F b_ w sb gf cap t0 tv u_ s0 v_ ⟨w_++[f],tape,out⟩)(d:w_.length<=15)(a:b_<=w.heap.size)(n:f.ops.length<=99000)(m:k<f.g_.length):
 Calls prog 284 #[.agg #[.int .i64 k],.pointer (some ⟨sb,0,none⟩)] w (oC fp F b_ sb t0 s0 (aF sb gf u_ v_) w w_ tape out (aO (.load k) f)):=by
 have l:=h.mid a (.cells #[.int .i64 k] 312);obtain⟨v,u,B,A⟩:=l.cells;obtain⟨g,c,t,z,r,q,x,y⟩:=u.g_.cell m;have o:=(A 4 v.vv rfl).1;rw[r] at o;refine(QB w _ sb gf (w_.length*6) k g f.g_.length c t z (λi=>Done fp F b_ sb t0 s0 (aF sb gf u_ v_) w ⟨w_++[f.push f.g_[k]],tape,out⟩ i) rfl (l.topS d) o q m λW p=>?_).mono ?_
 ·refine((l.same p).push (x.keep λb _=>by rw[p.heap]) y o_).mono ?_
  rintro e i ⟨s,j⟩;exact⟨s,j.done (Ext.refl _ _)⟩
 ·rintro e i ⟨rfl,j⟩;refine oC.ok ?_ j;simp[aO,fg m]
def R3(l:Nat)(sp:Value)(s:List (List UInt8))(h:cT fp F b_ w sb gf cap t0 tv u_ s0 v_ ⟨w_++[f],tape,out⟩)(d:w_.length<=15)(c:b_<=w.heap.size)(p:eW F w sp s):
 Calls prog 283 #[.agg #[.int .i64 l,sp],.pointer (some ⟨sb,0,none⟩)] w (oC fp F b_ sb t0 s0 (aF sb gf u_ v_) w w_ tape out (aO (.begin l s) f)):=by
 obtain⟨sp,rfl⟩:=p.form;have g:=h.mid c (.cells #[.int .i64 l,.pointer sp] 251);obtain⟨t,i,x⟩:=g.cell 2 o_
 obtain⟨r,z,A⟩:=g.cell 3 o_
 refine(NH w _ sb gf (w_.length*6) l sp (λn=>Done fp F b_ sb t0 s0 (aF sb gf u_ v_) w ⟨w_++[{ f with l_:=l,e_:=s }],tape,out⟩ n) rfl (g.topS d) t r i z x λW q=>?_).mono ?_
 ·have o:=g.same q
  have k:eW F W (.pointer sp) s:=eW.keep (λb j=>by
   rw[q.heap];exact eq _ _ _ (h.apart b j).1) (λ_ h=>h) p
  have u:Mid fp b_ sb gf w_.length t0 s0 (aF sb gf u_ v_) _ F ⟨w_++[{ f with l_:=l }],tape,out⟩ _:=o.set 2 (.int .i64 l) o_ (λv=>{ v with ln:=.int .i64 l }) (λ_=>rfl) (λ_ _=>rfl) λ_ a=>⟨a.fn,a.nx,rfl,a.sp,a.g_,a.ops⟩
  have m:eW F (W.setCell ⟨gf,w_.length*6+2,none⟩ (.int .i64 l)) (.pointer sp) s:=eW.keep (λb j=>ej _ _ _ _ (o.apart b j).2) (λ_ h=>h) k
  have y:Mid fp b_ sb gf w_.length t0 s0 (aF sb gf u_ v_) _ F ⟨w_++[{ f with l_:=l,e_:=s }],tape,out⟩ _:=u.set 3 (.pointer sp) o_ (λv=>{ v with sp:=.pointer sp }) (λ_=>rfl) (λ_ _=>rfl) λ_ a=>⟨a.fn,a.nx,a.ln,m,a.g_,a.ops⟩
  exact y.done (Ext.refl _ _)
 ·rintro e n ⟨rfl,i⟩;exact oC.ok rfl i
def I3(op:List UInt8)(I:op=[45]\/op=[33])(h:cT fp F b_ w sb gf cap t0 tv u_ s0 v_ ⟨w_++[f],tape,out⟩)(d:w_.length<=15)(g:b_<=w.heap.size)(j:f.ops.length<=99000)(q:∃y a,f.ops=y++[a]):
 Calls prog 293 #[.agg #[.string (bs op)],.pointer (some ⟨sb,0,none⟩)] w (oC fp F b_ sb t0 s0 (aF sb gf u_ v_) w w_ tape out (aO (.unary op) f)):=by
 obtain⟨y,a,p⟩:=q;have s:=h.mid g (.cells #[.string (bs op)] 317);have K:f.pop.ops.length<=100000:=by rw[mG p];rw[p,ei] at j;omega
 have i:∀(W:World) (v:Value),PV F W v a->Calls prog 294 #[.string (bs op),v] W (lH F W (fH (op++[120]) a)):=λW v C=>by
  rcases I with rfl|rfl
  ·exact CY 45 (d6 rfl) F v a W C
  ·exact CY 33 (d5 rfl) F v a W C
 have A:aO (.unary op) f=if (fH (op++[120]) a).2=0 then (f.pop.push (fH (op++[120]) a).1,0) else (f.pop,(fH (op++[120]) a).2):=by simp[aO,jA p]
 have m:=ZO (op++[120]) a;generalize fH (op++[120]) a=r at i A m;rw[A]
 have D:Hid (∀W,aZ (w.alloc (.cells #[.string (bs op)] 317)) W->Calls prog 114 #[.pointer (some ⟨gf,w_.length*6,none⟩)] W λe b=>∃t z,e=.returned (.iface t z)/\PV F b (.iface t z) a/\Mid fp b_ sb gf w_.length t0 s0 (aF sb gf u_ v_) (w.alloc (.cells #[.string (bs op)] 317)) F ⟨w_++[f.pop],tape,out⟩ b):=λW M=>by
  refine((s.same M).pop p o_).mono ?_
  rintro e b ⟨t,z,x,H,n,L⟩;exact⟨t,z,x,H,L⟩
 by_cases l:r.2=0
 ·rw[if_pos l];refine(SX w _ sb gf (w_.length*6) op (λb=>Done fp F b_ sb t0 s0 (aF sb gf u_ v_) w ⟨w_++[f.pop.push r.1],tape,out⟩ b) (λt z W=>PV F W (.iface t z) a/\Mid fp b_ sb gf w_.length t0 s0 (aF sb gf u_ v_) (w.alloc (.cells #[.string (bs op)] 317)) F ⟨w_++[f.pop],tape,out⟩ W) (λt z W=>PV F W (.iface t z) r.1/\Mid fp b_ sb gf w_.length t0 s0 (aF sb gf u_ v_) (w.alloc (.cells #[.string (bs op)] 317)) F ⟨w_++[f.pop],tape,out⟩ W) rfl (s.topS d) D (λW t z c=>?_) (λW t z c=>?_) (λW t z c=>?_)).mono ?_
  ·have k:=Mid.box h c.2;exact⟨aA k rfl,aD k⟩
  ·refine(i W _ c.1).mono ?_;rintro e b ⟨rfl,⟨_,u,rfl,B⟩|⟨o,_⟩⟩
   ·obtain⟨J,G,rfl⟩:=B.form;exact⟨J,G,rfl,B,c.2⟩
   ·exact absurd l o
  ·refine(c.2.push c.1 m K).mono ?_;rintro e b ⟨x,E⟩;exact⟨x,E.done (Ext.refl _ _)⟩
  ·rintro e b ⟨rfl,n⟩;exact oC.ok rfl n
 ·rw[if_neg l];refine(JY w _ sb gf (w_.length*6) op r.2 (λb=>Done fp F b_ sb t0 s0 (aF sb gf u_ v_) w ⟨w_++[f.pop],tape,out⟩ b) (λt z W=>PV F W (.iface t z) a/\Mid fp b_ sb gf w_.length t0 s0 (aF sb gf u_ v_) (w.alloc (.cells #[.string (bs op)] 317)) F ⟨w_++[f.pop],tape,out⟩ W) rfl (s.topS d) D (λW t z c=>?_) (λW t z c=>?_)).mono ?_
  ·have k:=Mid.box h c.2;exact⟨aA k rfl,aD k⟩
  ·refine(i W _ c.1).mono ?_;rintro e b ⟨rfl,⟨o,_⟩|⟨o,rfl⟩⟩
   ·exact absurd o l
   ·exact⟨rfl,c.2.done (Ext.refl _ _)⟩
  ·rintro e b ⟨rfl,n⟩;exact oC.stop rfl l n
def G5(op:List UInt8)(h:cT fp F b_ w sb gf cap t0 tv u_ s0 v_ ⟨w_++[f],tape,out⟩)(C:w_.length<=15)(j:b_<=w.heap.size)(p:f.ops.length<=99000)(J:∃H a b,f.ops=H++[a,b]):
 Calls prog 305 #[.agg #[.string (bs op)],.pointer (some ⟨sb,0,none⟩)] w (oC fp F b_ sb t0 s0 (aF sb gf u_ v_) w w_ tape out (aO (.binary op) f)):=by
 obtain⟨H,a,b,n⟩:=J;have n:f.ops=(H++[a])++[b]:=by rw[n];simp
 have N:=h.mid j (.cells #[.string (bs op)] 350);have i:f.pop.ops=H++[a]:=mG n;have A:=p;rw[n,ei,ei] at A;have M:f.pop.ops.length<=100000:=by rw[i,ei];omega
 have L:f.pop.pop.ops.length<=100000:=by rw[mG i];omega
 have O:aO (.binary op) f=if (eN op a b).2=0 then (f.pop.pop.push (eN op a b).1,0) else (f.pop.pop,(eN op a b).2):=by simp[aO,jA n,jA i]
 have E:=YE op a b;have x:∀(W:World) (u v:Value),PV F W u a->PV F W v b->(∀k,F k->k<W.heap.size)->aK a<=200->aK b<=200->Calls prog 306 #[.string (bs op),u,v] W (eO F W (eN op a b)):=λW u v c d m I y=>PJ op F u v a b W c d m o_ o_
 generalize eN op a b=r at x O E;rw[O]
 refine(IA w _ sb gf (w_.length*6) op r.2 (λg=>r.2=0/\Done fp F b_ sb t0 s0 (aF sb gf u_ v_) w ⟨w_++[f.pop.pop.push r.1],tape,out⟩ g) (λg=>r.2≠0/\Done fp F b_ sb t0 s0 (aF sb gf u_ v_) w ⟨w_++[f.pop.pop],tape,out⟩ g)
  (λt z W=>PV F W (.iface t z) b/\aK b<=200/\Mid fp b_ sb gf w_.length t0 s0 (aF sb gf u_ v_) (w.alloc (.cells #[.string (bs op)] 350)) F ⟨w_++[f.pop],tape,out⟩ W)
  (λt z o s W=>PV F W (.iface t z) b/\aK b<=200/\PV F W (.iface o s) a/\aK a<=200/\Mid fp b_ sb gf w_.length t0 s0 (aF sb gf u_ v_) (w.alloc (.cells #[.string (bs op)] 350)) F ⟨w_++[f.pop.pop],tape,out⟩ W)
  (λt z W=>r.2=0/\∃G,Ext F G w.heap.size/\PV G W (.iface t z) r.1/\Mid fp b_ sb gf w_.length t0 s0 (aF sb gf u_ v_) (w.alloc (.cells #[.string (bs op)] 350)) G ⟨w_++[f.pop.pop],tape,out⟩ W) rfl (N.topS C) (λW Y=>?_) (λW t z l=>?_) (λW t z o s l=>?_) (λW t z o s l=>?_) (λW t z l=>?_)).mono ?_
 ·refine((N.same Y).pop n o_).mono ?_
  rintro e g ⟨t,z,D,c,d,m⟩;exact⟨t,z,D,c,d,m⟩
 ·obtain⟨c,d,m⟩:=l;refine(m.popK i M).mono ?_;rintro e g ⟨o,s,D,Q,X,S,Z⟩;exact⟨o,s,D,c.keep Z,d,Q,X,S⟩
 ·have q:=Mid.box h l.2.2.2.2;exact⟨aA q rfl,aD q⟩
 ·obtain⟨c,d,m,I,y⟩:=l;refine(x W _ _ m c (λk K=>(y.apart k K).1) I d).mono ?_
  rintro e g ⟨q,⟨B,u,rfl,P⟩|⟨B,rfl⟩⟩
  ·obtain⟨U,T,rfl⟩:=P.form;exact d6 ⟨U,T,rfl,B,Grow F W g,⟨λ_=>d6,λk K=>K.imp_right λc=>em (em s_ y.1.size) c.1⟩,P,y.grow q (λ_=>d6) λ_ h=>h⟩
  ·exact d5 ⟨rfl,B,(y.grow q (λ_ h=>h) λ_=>d6).done (Ext.refl _ _)⟩
 ·obtain⟨B,G,V,c,d⟩:=l;refine(d.push c E L).mono ?_;rintro e g ⟨D,I⟩;exact⟨D,B,I.done V⟩
 ·rintro e g (⟨rfl,c,d⟩|⟨rfl,c,d⟩)
  ·exact oC.ok (if_pos c) d
  ·exact oC.stop (if_neg c) c d
end
section
variable {fp:Nat->Value} {F G G':Nat->Prop} {b_:Nat} {w:World} {sb gf cap:Nat} {t0 tv u_ s0:Value} {v_:List FVal} {w_:List aI} {f:aI} {tape:List Int} {out:List (List UInt8)}
def cT.more{m:bX}(h:cT fp G b_ w sb gf cap t0 tv u_ s0 v_ m)(b:∀k,G k->G' k)(d:∀k,G' k->G k\/(k<w.heap.size/\k∉aF sb gf u_ v_)):cT fp G' b_ w sb gf cap t0 tv u_ s0 v_ m:=
 ⟨h.blk,h.row,h.frs.keep (λ_ _=>rfl) b λ_ _ _ _=>rfl,h.tape.keep (λ_ _=>rfl) b,h.out,h.nodup,h.lt,λk c=>by
   rcases d k c with a|a
   ·exact h.apart k a
   ·exact a⟩
def cT.popMany{vs us:List aJ}(h:cT fp G b_ w sb gf cap t0 tv u_ s0 v_ ⟨w_++[f],tape,out⟩)(J:f.ops=vs++us)(u:f.ops.length<=100000):
 Calls prog 287 #[.pointer (some ⟨gf,w_.length*6,none⟩),.int .i64 us.length] w λe w'=>∃t B g,e=.returned t/\Kept (aF sb gf u_ v_) w w'/\aF sb gf u_ g=aF sb gf u_ v_/\g.length=v_.length/\cT fp G b_ w' sb gf cap t0 tv u_ s0 g ⟨w_++[f.popMany us.length],tape,out⟩/\
  w'.ownsRow w.heap.size 180 1 t us.length B/\fZ G w' B us/\(∀a∈us,aK a<=200)/\∀k,G k->w'.heap[k]?=w.heap[k]?:=by
 obtain⟨P,v,I,rfl,K,Q,S,p,N,k0,k1,k2,k3,k4,W⟩:=h.top;rw[<-K];obtain⟨⟨xs,d,z⟩,c⟩:=Q.ops;rw[J] at d z c;obtain⟨r,B,rfl,L,F,H,s⟩:=z.split;rw[J,ei] at u;rw[ei] at d;refine(vG b_ gf (P.length*6) vs.length us.length I v.ov r B w p W d L F (oK s) o_).mono ?_
 rintro e w' ⟨t,n,D,Z,q,O,rfl,T,C⟩;have l:(f.popMany us.length).ops=vs:=by simp[aI.popMany,J]
 have M:=h.grow q (λ_ h=>h) (λ_ h=>d6 h)
 have E:NL fp G b_ D { v with ov:=n } (f.popMany us.length):=by
  have m:∀b,G b->D.heap[b]?=w.heap[b]?:=λb o=>q.block b (h.apart b o).1
  have A:∀k∈v.owns,k<w.heap.size:=λk m=>h.lt k (by simp[aF,aY,m])
  have i:=Q.keep m (λ_ h=>h) λk Y=>q.block k (A k Y)
  refine⟨i.fn,i.nx,i.ln,i.sp,i.g_,⟨r,?_,?_⟩,λb o=>c b (gd _ (by rw[l] at o;exact o))⟩
  ·rw[l];exact aX T λk e=>q.block k (A k (by rw[C] at e;simp[FVal.owns,e]))
  ·rw[l];exact H.keep m
 obtain⟨V,q2⟩:=M.setTop (j:=5) (x:=n) (v':={ v with ov:=n }) o_ rfl (by simp[FVal.owns,C]) E
 have U:gf<w.heap.size:=aD p
 have y:∀k,G k->(D.setCell ⟨gf,P.length*6+5,none⟩ n).heap[k]?=w.heap[k]?:=λk m=>by
  rw[ej _ _ _ _ λe=>(h.apart k m).2 (by simp[aF,e]),q.block k (h.apart k m).1]
 refine⟨t,B,_,Z,(Kept.of_below q).trans q2 λx X=>d6 X,by simp[aF,aY,FVal.owns,C],s_,V,aX O λk m=>ej _ _ _ _ ?_,s.keep y,λa ha=>c a (gq _ ha),y⟩
 have:=bT O k m;show k≠gf
 omega
def Mid.popMany{own:List Nat}{q:World}{n:Nat}{vs us:List aJ}(h:Mid fp b_ sb gf n t0 s0 own q G ⟨w_++[f],tape,out⟩ w)(F:n=w_.length)(B:f.ops=vs++us)(g:f.ops.length<=100000):
 Calls prog 287 #[.pointer (some ⟨gf,n*6,none⟩),.int .i64 us.length] w λe w'=>∃x d,e=.returned (.slice x us.length d)/\∃G',Ext G G' w.heap.size/\PVs G' w' (.slice x us.length d) us/\(∀a∈us,aK a<=200)/\Mid fp b_ sb gf n t0 s0 own q G' ⟨w_++[f.popMany us.length],tape,out⟩ w'/\∀k,G k->w'.heap[k]?=w.heap[k]?:=by
 obtain⟨A,t,l,y,j,D,E,o,p⟩:=h;subst F;refine(o.popMany B g).mono ?_;rintro e w' ⟨J,K,c,H,m,s,z,I,i,C,v,u⟩;obtain⟨x,d,rfl⟩:=cV i;refine⟨x,d,H,λk=>G k\/(Value.slice x us.length d).ownBlock=some k,⟨λ_=>d6,λk b=>b.imp_right λe=>bT i k e⟩,PVs.ofRow i (C.mono λ_=>d6) λ_=>d5,v,⟨A.trans m p,em t m.size,l,y,j,c,by rw[z,E],I.more (λ_=>d6) λk b=>?_,by rw[s];exact p⟩,u⟩
 rcases b with b|b
 ·exact d6 b
 ·refine d5 ⟨cI i k b,λr=>?_⟩
  rw[s] at r;have:=o.lt k r;have:=bT i k b;omega
def Y2(vs us:List aJ)(h:cT fp F b_ w sb gf cap t0 tv u_ s0 v_ ⟨w_++[f],tape,out⟩)(q:w_.length<=15)(k:b_<=w.heap.size)(i:f.ops.length<=99000)(p:f.ops=vs++us):
 Calls prog 285 #[.agg #[.int .i64 us.length],.pointer (some ⟨sb,0,none⟩)] w (oC fp F b_ sb t0 s0 (aF sb gf u_ v_) w w_ tape out (aO (.list us.length) f)):=by
 have A:=h.mid k (.cells #[.int .i64 us.length] 314);have L:f.many us.length=us:=by simp[aI.many,p]
 have r:(f.popMany us.length).ops=vs:=by simp[aI.popMany,p]
 have H:(f.popMany us.length).ops.length<=100000:=by rw[r];rw[p,ei] at i;omega
 have J:us.length<=99000:=by rw[p,ei] at i;omega
 have I:aO (.list us.length) f=if aK (aT us)<=200 then ((f.popMany us.length).push (aT us),0) else (f.popMany us.length,6):=by
  simp only[aO,L,iH,if_true];by_cases D:200<aK (aT us)
  ·rw[if_pos D];exact(if_neg o_).symm
  ·rw[if_neg D];exact(if_pos o_).symm
 rw[I]
 refine(QC w _ sb gf (w_.length*6) us.length 6 (λj=>aK (aT us)<=200/\Done fp F b_ sb t0 s0 (aF sb gf u_ v_) w ⟨w_++[(f.popMany us.length).push (aT us)],tape,out⟩ j) (λj=>¬aK (aT us)<=200/\Done fp F b_ sb t0 s0 (aF sb gf u_ v_) w ⟨w_++[f.popMany us.length],tape,out⟩ j)
  (λx d W=>∃G,Ext F G w.heap.size/\PVs G W (.slice x us.length d) us/\(∀a∈us,aK a<=200)/\Mid fp b_ sb gf w_.length t0 s0 (aF sb gf u_ v_) (w.alloc (.cells #[.int .i64 us.length] 314)) G ⟨w_++[f.popMany us.length],tape,out⟩ W)
  (λt z W=>aK (aT us)<=200/\∃G,Ext F G w.heap.size/\PV G W (.iface t z) (aT us)/\Mid fp b_ sb gf w_.length t0 s0 (aF sb gf u_ v_) (w.alloc (.cells #[.int .i64 us.length] 314)) G ⟨w_++[f.popMany us.length],tape,out⟩ W) rfl (A.topS q) (λW C=>?_) (λW x d u=>?_) (λW t z u=>?_)).mono ?_
 ·refine((A.same C).popMany rfl p o_).mono ?_
  rintro e j ⟨x,d,y,G,g,c,v,m,_⟩;exact⟨x,d,y,G,g.le (by rw[C.heap];simp),c,v,m⟩
 ·obtain⟨G,g,c,v,m⟩:=u
  have n:∀l:List aJ,(∀a∈l,aK a<=200)->(l.map aK).sum<=200*l.length:=λl=>by
   induction l with
   |nil=>simp
   |cons a l M=>intro B;have O:=B a s_;have N:=M λb E=>B b (by simp[E]);simp;omega
  have s:aK (aT us)<=1000000000:=by
   have:=n us v;rw[eV];simp[aT];omega
  refine(LN G x d us W c s).mono ?_;rintro e j ⟨rfl,⟨o,rfl⟩|⟨o,rfl⟩⟩
  ·exact d6 ⟨_,_,rfl,o,G,g,PV.lst c,m⟩
  ·exact d5 ⟨rfl,o_,m.done g⟩
 ·obtain⟨o,G,K,g,c⟩:=u;refine(c.push g o H).mono ?_;rintro e j ⟨y,m⟩;exact⟨y,o,m.done K⟩
 ·rintro e j (⟨rfl,g,c⟩|⟨rfl,g,c⟩)
  ·exact oC.ok (if_pos g) c
  ·exact oC.stop (if_neg g) d_ c
end
def cT.declared{U:Nat->Value}{K:Nat}{Z V g W:Value}{s:List FVal}{v:FVal}{p:List aI}{A:List Int}{J:List (List UInt8)}{cur:Array Value}{d:Nat}
 (h:cT U F b_ w sb gf K Z V g W (s++[v]) ⟨p++[f],A,J⟩) (L:w.heap[gf]?=some (.cells cur 136 (0,0)))
 (P:fZ F w xs (f.g_.take d)) (hd:d<=f.g_.length) (hu:PV F w u a) (O:aK a<=200)
 (p1:w'.heap[gf]?=some (.cells (cur.setIfInBounds (s.length*6+4) c) 136 (0,0))) (T:w'.ownsRow b_ 180 1 c (d+1) (xs++[u])) (S:∀k,c.ownBlock=some k->v.vv.ownBlock=some k\/w.heap.size<=k) (r:Chg gf v.vv.ownBlock w w'):
 cT U F b_ w' sb gf K Z V g W (s++[{ v with vv:=c }]) ⟨p++[{ f with g_:=f.g_.take d++[a] }],A,J⟩/\Kept (aF sb gf g (s++[v])) w w':=by
 obtain⟨ab,v0,e,aa,I⟩:=iZ.unsnoc h.frs;obtain⟨rfl,e2⟩:=gw e rfl;cases e2;have B:=h.row;rw[show (s++[v]).length=s.length+1 by simp] at B
 obtain⟨M,Y,_,c3⟩:=uY (j:=4) (x:=c) B o_
 obtain rfl:M=cur:=by rw[L] at Y;cases Y;rfl
 have E:∀k∈v.owns,k∈aF sb gf g (s++[v]):=λk l=>by simp[aF,aY,l]
 have Q:gf∉v.owns:=λH=>by
  have:=(eu.1 (eu.1 h.nodup).2).1;exact this (by simp[aY,H])
 have D:v.owns.Nodup:=by
  have m:=h.nodup;have:aF sb gf g (s++[v])=(sb::gf::(g.ownBlock.toList++aY s))++v.owns:=by simp[aF,aY]
  rw[this] at m;exact(gi.1 m).2.1
 have q:∀b,F b->w'.heap[b]?=w.heap[b]?:=λb C=>by
  obtain⟨m,t⟩:=h.apart b C;exact r.block b m (λe=>t (by simp[aF,e])) (λe=>t (E b (by simp[FVal.owns,<-e])))
 have z:∀k,k<w.heap.size->k≠gf->k∉v.owns->w'.heap[k]?=w.heap[k]?:=λk m t N=>r.block k m t λe=>N (by simp[FVal.owns,<-e])
 have n:∀k,v.ov.ownBlock=some k->k<w.heap.size/\k≠gf/\v.vv.ownBlock≠some k:=λk l=>by
  have H:k∈v.owns:=by simp[FVal.owns,l]
  refine⟨h.lt k (E k H),λe=>Q (by rw[<-e];exact H),λe=>?_⟩
  unfold FVal.owns at D;rw[l,e] at D;simp at D
 refine⟨h.step (G:=F) r.size z (c3 w' p1 _ rfl) ?_ ?_ ?_ (λ_ h=>h) (λ_ h=>d6 h),?_⟩
 ·refine⟨I.fn.keep q λ_ h=>h,I.nx,I.ln,eW.keep q (λ_ h=>h) I.sp,⟨⟨xs++[u],?_,?_⟩,?_⟩,I.ops.keep q (λ_ h=>h) λk l=>?_⟩
  ·show w'.ownsRow b_ 180 1 c (f.g_.take d++[a]).length _
   rw[ei,gs,Nat.min_eq_left hd];exact T
  ·exact(P.keep q).append ⟨rfl,λi hi=>by
    obtain rfl:i=0:=by simpa using hi
    exact⟨u,rfl,hu.keep q⟩⟩
  ·intro b C;rcases eo.1 C with C|C
   ·exact I.g_.2 b (jr C)
   ·rw[et.1 C];exact O
  ·obtain⟨m,t,N⟩:=n k l;exact r.block k m t (λe=>N e.symm)
 ·intro k l;rcases eo.1 l with l|l
  ·have o:c.ownBlock=some k:=by simpa using l
   refine⟨cI T k o,?_⟩;rcases S k o with m|m
   ·exact d6 (by simp[FVal.owns,m])
   ·exact d5 m
  ·have o:v.ov.ownBlock=some k:=by simpa using l
   exact⟨el (n k o).1 r.size,d6 (by simp[FVal.owns,o])⟩
 ·show (c.ownBlock.toList++v.ov.ownBlock.toList).Nodup
  refine gi.2 ⟨by cases c.ownBlock<;>simp,by cases v.ov.ownBlock<;>simp,λx hx y hy e=>?_⟩
  subst e;have m:c.ownBlock=some x:=by simpa using hx
  have t:v.ov.ownBlock=some x:=by simpa using hy
  obtain⟨N,_,h4⟩:=n x t;rcases S x m with X|X
  ·exact h4 X
  ·omega
 ·exact⟨r.os,r.tape,r.output,r.size,λk l hn=>z k l (λe=>hn (by simp[aF,e])) λH=>hn (E k H)⟩
def GT(w q:World)(sb k o b_ d:Nat)(g n c:Nat)(O:d<=n)(M:n<=c)(_hn:n<=100001)(P:World->Prop)(Q:TypeId->Value->World->Prop)(xs:List Value)(B:w.alloc (.cells #[.int .i64 d] 342)=q)(Z:d<=100000)
 (Y:Hid (∀W,aZ q W->Calls prog 95 #[.pointer (some ⟨sb,0,none⟩)] W λe w'=>e=.returned (.pointer (some ⟨k,o,none⟩))/\aZ q w'))
 (G:q.cell? ⟨k,o+4,none⟩=some (.slice (some ⟨g,0,none⟩) n c))
 (X:Hid (∀W,aZ q W->Calls prog 114 #[.pointer (some ⟨k,o,none⟩)] W λe w'=>∃t z,e=.returned (.iface t z)/\Q t z w'))
 (H:Hid (∀W t z,Q t z W->W.cell? ⟨w.heap.size,0,none⟩=some (.int .i64 d)/\w.heap.size<W.heap.size/\W.cell? ⟨k,o+4,none⟩=some (.slice (some ⟨g,0,none⟩) n c)/\k<W.heap.size/\b_<=W.heap.size))
 (L:Hid (∀W t z,Q t z W->W.ownsRow b_ 180 1 (.slice (some ⟨g,0,none⟩) d c) d xs))
 (I:Hid (∀W t z,Q t z W->∀j:World,(W.alloc (.cells #[.iface t z] 180)).grownBy j (some g)->(∃u,j.cell? ⟨k,o+4,none⟩=some u)/\j.frozen? ⟨k,o+4,none⟩=false/\k<j.heap.size))
 (N:Hid (∀W t z,Q t z W->∀s f (j:World),j.ownsRow b_ 180 1 (.slice (some ⟨s,0,none⟩) (d+1) f) (d+1) (xs++[.iface t z])->(W.alloc (.cells #[.iface t z] 180)).grownBy j (some g)->((some g)=some s\/W.heap.size+1<=s)->P (j.setCell ⟨k,o+4,none⟩ (.slice (some ⟨s,0,none⟩) (d+1) f)))):
 Calls prog 297 #[.agg #[.int .i64 d],.pointer (some ⟨sb,0,none⟩)] w λe w'=>e=.returned (.tuple #[])/\P w':=by
 obtain⟨K,S,y,C,D⟩:=info_parts mY;have a:(w.alloc (.cells #[.int .i64 d] 342)).heap[w.heap.size]?=some (.cells #[.int .i64 d] 342 (0,0)):=aS _ _ rfl _;rw[B] at a;have T:=aB B;have E:=aB (aA (i:=0) a rfl);have x:=aD a;have A:=aB G;have e1:(0:Int)<=(d:Int):=o_
 have e2:(d:Int)<=(n:Int):=o_
 have e3:(d:Int)<=(c:Int):=o_
 clear B a G;go_enter func297,ntmps297;go_wp2_with fail;rw[T.out];refine(Y.out _ (aZ.refl _)).mono ?_;rintro e w1 ⟨rfl,l⟩;have c0:=cW l.heap E.out;have U:=kC l.heap x;have c1:=cW l.heap A.out;go_wp2_with fail;go_region_law (first|(go_simp;go_at_call 114;refine(X.out _ (l.trans (aZ.drew _))).mono ?_;rintro e F ⟨t,z,rfl,v⟩;have p:=H.out _ _ _ v;have b1:=p.1;have b2:=p.2.1;have b3:=p.2.2.1;have b4:=p.2.2.2.1;have b5:=p.2.2.2.2;clear p)|(refine step_append_lies _ r_ _ _ 134 r_ b_ 180 K _ 1 16 underlying134 S y C D rfl d_ (.slice (some ⟨g,0,none⟩) d c) d xs r_ ((L.out _ _ _ v).alloc _) ⟨F.heap.size,0,none⟩ 1 1 [.iface t z] r_ r_ (DJ F _) (wU t z) d_ (by unfold maxLen;omega) o_ t_ (F.heap.size+1) s_ ?_;intro s f j m b r V;have J:=I.out _ _ _ v j b;obtain⟨⟨u5,y1⟩,y2,y3⟩:=J))
 all_goals
  go_wp2_with fail;go_end0;exact⟨rfl,N.out _ _ _ v _ _ _ m b (r.imp_right λe=>Nat.le_of_eq e.symm)⟩
def GU(w m:World)(sb f k b_:Nat)(P:World->Prop)(Q:TypeId->Value->World->Prop)(xs:List Value)(v:w.alloc (.cells #[.int .i64 0] 342)=m)
 (O:Hid (∀W,aZ m W->Calls prog 95 #[.pointer (some ⟨sb,0,none⟩)] W λe w'=>e=.returned (.pointer (some ⟨f,k,none⟩))/\aZ m w'))
 (C:m.cell? ⟨f,k+4,none⟩=some (.slice none 0 0))
 (N:Hid (∀W,aZ m W->Calls prog 114 #[.pointer (some ⟨f,k,none⟩)] W λe w'=>∃t z,e=.returned (.iface t z)/\Q t z w'))
 (D:Hid (∀W t z,Q t z W->W.cell? ⟨w.heap.size,0,none⟩=some (.int .i64 0)/\w.heap.size<W.heap.size/\W.cell? ⟨f,k+4,none⟩=some (.slice none 0 0)/\f<W.heap.size/\b_<=W.heap.size))
 (H:Hid (∀W t z,Q t z W->W.ownsRow b_ 180 1 (.slice none 0 0) 0 xs))
 (E:Hid (∀W t z,Q t z W->∀d:World,(W.alloc (.cells #[.iface t z] 180)).grownBy d none->(∃u,d.cell? ⟨f,k+4,none⟩=some u)/\d.frozen? ⟨f,k+4,none⟩=false/\f<d.heap.size))
 (I:Hid (∀W t z,Q t z W->∀o c (d:World),d.ownsRow b_ 180 1 (.slice (some ⟨o,0,none⟩) 1 c) 1 (xs++[.iface t z])->(W.alloc (.cells #[.iface t z] 180)).grownBy d none->(none=some o\/W.heap.size+1<=o)->P (d.setCell ⟨f,k+4,none⟩ (.slice (some ⟨o,0,none⟩) 1 c)))):
 Calls prog 297 #[.agg #[.int .i64 0],.pointer (some ⟨sb,0,none⟩)] w λe w'=>e=.returned (.tuple #[])/\P w':=by
 obtain⟨G,J,r,x,y⟩:=info_parts mY;have a:(w.alloc (.cells #[.int .i64 0] 342)).heap[w.heap.size]?=some (.cells #[.int .i64 0] 342 (0,0)):=aS _ _ rfl _;rw[v] at a;have K:=aB v;have A:=aB (aA (i:=0) a rfl);have q:=aD a;have s:=aB C;clear v a C;go_enter func297,ntmps297;go_wp2_with fail;rw[K.out];refine(O.out _ (aZ.refl _)).mono ?_;rintro e S ⟨rfl,g⟩;have Z:=cW g.heap A.out;have L:=kC g.heap q;have c1:=cW g.heap s.out;go_wp2_with fail;go_region_law (first|(go_simp;go_at_call 114;refine(N.out _ (g.trans (aZ.drew _))).mono ?_;rintro e B ⟨t,z,rfl,p⟩;have l:=D.out _ _ _ p;have T:=l.1;have b2:=l.2.1;have V:=l.2.2.1;have b4:=l.2.2.2.1;have U:=l.2.2.2.2;clear l)|(refine step_append_lies _ r_ _ _ 134 r_ b_ 180 G _ 1 16 underlying134 J r x y rfl d_ (.slice none 0 0) 0 xs r_ ((H.out _ _ _ p).alloc _) ⟨B.heap.size,0,none⟩ 1 1 [.iface t z] r_ r_ (DJ B _) (wU t z) d_ (by unfold maxLen;omega) o_ t_ (B.heap.size+1) s_ ?_;intro o c d j b n M;have F:=E.out _ _ _ p d b;obtain⟨⟨u5,X⟩,y2,Y⟩:=F))
 all_goals
  go_wp2_with fail;go_end0;exact⟨rfl,I.out _ _ _ p _ _ _ j b (n.imp_right λe=>Nat.le_of_eq e.symm)⟩
section
variable {fp:Nat->Value} {F:Nat->Prop} {b_:Nat} {w:World} {sb gf cap:Nat} {t0 tv u_ s0:Value} {v_:List FVal} {w_:List aI} {f:aI} {tape:List Int} {out:List (List UInt8)}
def cT.popR{m:List FVal}{v:FVal}{vs:List aJ}{a:aJ}(h:cT fp F b_ w sb gf cap t0 tv u_ s0 (m++[v]) ⟨w_++[f],tape,out⟩)(G:f.ops=vs++[a])(l:f.ops.length<=100000):
 Calls prog 114 #[.pointer (some ⟨gf,m.length*6,none⟩)] w λe w'=>∃t z c,e=.returned (.iface t z)/\PV F w' (.iface t z) a/\aK a<=200/\c.ownBlock=v.ov.ownBlock/\cT fp F b_ w' sb gf cap t0 tv u_ s0 (m++[{ v with ov:=c }]) ⟨w_++[f.pop],tape,out⟩/\Kept (aF sb gf u_ (m++[v])) w w'/\∀k,k≠gf->w'.heap[k]?=w.heap[k]?:=by
 obtain⟨N,X,B,e,P,n,I,r,E,U,S,W,T,Y,L⟩:=h.top;obtain⟨rfl,M⟩:=gw e rfl;cases M;obtain⟨⟨V,g,q⟩,d⟩:=n.ops;rw[G] at g q d l;obtain⟨o,u,rfl,O,p,H⟩:=fZ.unsnoc q;obtain⟨t,z,rfl⟩:=H.form;rw[ei] at g l;refine(QT b_ gf (m.length*6) vs.length B v.ov o _ w r L g O ⟨t,z,rfl⟩ o_).mono ?_
 rintro e w' ⟨rfl,c,rfl,J,C⟩;have i:f.pop.ops=vs:=by simp[aI.pop,G]
 have s:NL fp F b_ w { v with ov:=c } f.pop:=⟨n.fn,n.nx,n.ln,n.sp,n.g_,⟨o,by rw[i];exact J,by rw[i];exact p⟩,λb D=>d b (gd _ (by rw[i] at D;exact D))⟩
 obtain⟨K,Q⟩:=h.setTop (j:=5) (x:=c) (v':={ v with ov:=c }) o_ rfl (by simp[FVal.owns,C]) s
 have y:∀k,F k->(w.setCell ⟨gf,m.length*6+5,none⟩ c).heap[k]?=w.heap[k]?:=λk A=>ej _ _ _ _ λe=>(h.apart k A).2 (by simp[aF,e])
 exact⟨t,z,c,rfl,H.keep y,d a s_,C,K,Q,λk A=>ej _ _ _ _ A⟩
def cT.declaredC{o:List FVal}{v:FVal}{d:Nat}{xs:List Value}{a:aJ}{t:TypeId}{z:Value}{g b:Nat}{l:World}{A:Option Nat}(h:cT fp F b_ w sb gf cap t0 tv u_ s0 (o++[v]) ⟨w_++[f],tape,out⟩)(N:PV F w (.iface t z) a)(s:aK a<=200)(x:fZ F w xs (f.g_.take d))(I:d<=f.g_.length)(j:A=v.vv.ownBlock)
 (J:l.ownsRow b_ 180 1 (.slice (some ⟨g,0,none⟩) (d+1) b) (d+1) (xs++[.iface t z])) (m:(w.alloc (.cells #[.iface t z] 180)).grownBy l A) (n:A=some g\/w.heap.size+1<=g):
 cT fp F b_ (l.setCell ⟨gf,o.length*6+4,none⟩ (.slice (some ⟨g,0,none⟩) (d+1) b)) sb gf cap t0 tv u_ s0 (o++[{ v with vv:=.slice (some ⟨g,0,none⟩) (d+1) b }]) ⟨w_++[{ f with g_:=f.g_.take d++[a] }],tape,out⟩/\Kept (aF sb gf u_ (o++[v])) w (l.setCell ⟨gf,o.length*6+4,none⟩ (.slice (some ⟨g,0,none⟩) (d+1) b)):=by
 obtain⟨L,Y,B,e,M,X,H,c,G,T,Q,W,S,U,V⟩:=h.top;obtain⟨rfl,K⟩:=gw e rfl;cases K;have C:=aD c
 have q:v.vv.ownBlock≠some gf:=λe=>by
  have:=(eu.1 (eu.1 h.nodup).2).1;exact this (by simp[aY,FVal.owns,e])
 have D:g≠gf:=by
  rcases n with e|e
  ·intro P;rw[j] at e;exact q (by rw[e,P])
  ·omega
 have E:∀k,k<w.heap.size->some k≠v.vv.ownBlock->l.heap[k]?=w.heap[k]?:=λk y r=>by
  rw[m.block k t_ (by rw[j];exact r),eq _ _ _ y]
 have p:l.heap[gf]?=some (.cells B 136 (0,0)):=by rw[E gf C (λe=>q e.symm)];exact c
 refine h.declared (a:=a) (u:=.iface t z) (xs:=xs) c x I N s (aQ p) (aX J λk i=>ej _ _ _ _ (by cases i;exact D)) (λk i=>?_) ⟨m.os.trans rfl,m.tape.trans rfl,m.output.trans rfl,em s_ (em m.size s_),λk y r O=>?_⟩
 ·cases i;rcases n with e|e
  ·exact d6 (by rw[<-j];exact e)
  ·exact d5 (by show w.heap.size<=g;omega)
 ·rw[ej _ _ _ _ r,E k y O]
def xQ(fp:Nat->Value)(F:Nat->Prop)(b_ sb gf cap:Nat)(t0 tv u_ s0:Value)(fb:List FVal)(v:FVal)(w_:List aI)(f:aI)(tape:List Int)(out:List (List UInt8))(w0:World)(a:aJ)(t:TypeId)(z:Value)(W:World):Prop:=
 ∃ov',ov'.ownBlock=v.ov.ownBlock/\PV F W (.iface t z) a/\aK a<=200/\cT fp F b_ W sb gf cap t0 tv u_ s0 (fb++[{ v with ov:=ov' }]) ⟨w_++[f.pop],tape,out⟩/\Kept (aF sb gf u_ (fb++[v])) w0 W/\∀k,k≠gf->W.heap[k]?=w0.heap[k]?
def xQ.fin{g:List FVal}{v:FVal}{x W:World}{a:aJ}{t:TypeId}{z:Value}{d:Nat}{xs:List Value}{D:Obj}(h:cT fp F b_ w sb gf cap t0 tv u_ s0 (g++[v]) ⟨w_++[f],tape,out⟩)(A:x=w.alloc D)(N:xQ fp F b_ sb gf cap t0 tv u_ s0 g v w_ f tape out x a t z W)(H:d<=f.g_.length)(r:fZ F x xs (f.g_.take d))(y:f.last=a)
 (i c:Nat) (B:World) (j:Option Nat) (o:j=v.vv.ownBlock) (K:B.ownsRow b_ 180 1 (.slice (some ⟨i,0,none⟩) (d+1) c) (d+1) (xs++[.iface t z])) (M:(W.alloc (.cells #[.iface t z] 180)).grownBy B j) (n:j=some i\/W.heap.size+1<=i):
 Done fp F b_ sb t0 s0 (aF sb gf u_ (g++[v])) w ⟨w_++[(aO (.declare d) f).1],tape,out⟩ (B.setCell ⟨gf,g.length*6+4,none⟩ (.slice (some ⟨i,0,none⟩) (d+1) c)):=by
 subst A;obtain⟨l,C,J,T,O,E,U⟩:=N;have u:∀k,F k->k≠gf:=λk s e=>(h.apart k s).2 (by simp[aF,e])
 obtain⟨P,G⟩:=O.declaredC (d:=d) (xs:=xs) J T (r.keep λb L=>U b (u b L)) H o K M n
 have m:aF sb gf u_ (g++[{ v with ov:=l }])=aF sb gf u_ (g++[v]):=by simp[aF,aY,FVal.owns,C]
 rw[m] at G;have Q:=((Kept.of_below (own:=aF sb gf u_ (g++[v])) ((eh _ w).alloc (d7 _) D)).trans E λ_ h=>d6 h).trans G λ_ h=>d6 h
 refine⟨Q,F,gf,cap,tv,u_,g++[{ v with ov:=l,vv:=.slice (some ⟨i,0,none⟩) (d+1) c }],Ext.refl _ _,?_,λk s=>?_⟩
 ·have e:(aO (.declare d) f).1={ f.pop with g_:=f.pop.g_.take d++[a] }:=by simp[aO,y,aI.pop]
  rw[e];exact P
 ·have V:aF sb gf u_ (g++[{ v with ov:=l,vv:=.slice (some ⟨i,0,none⟩) (d+1) c }])=(sb::gf::(u_.ownBlock.toList++aY g))++(i::v.ov.ownBlock.toList):=by
   have I:(Value.slice (some ⟨i,0,none⟩) (d+1) c).ownBlock=some i:=rfl;simp[aF,aY,FVal.owns,C,I]
  have S:aF sb gf u_ (g++[v])=(sb::gf::(u_.ownBlock.toList++aY g))++v.owns:=by simp[aF,aY]
  have q:k∈(sb::gf::(u_.ownBlock.toList++aY g))++(i::v.ov.ownBlock.toList):=by rw[<-V];exact s
  rw[S];rcases eo.1 q with p|p
  ·exact d6 (gd _ p)
  ·rcases en.1 p with rfl|p
   ·rcases n with e|e
    ·exact d6 (gq _ (by rw[o] at e;simp[FVal.owns,e]))
    ·have:=E.size;exact d5 (by simp at this;omega)
   ·exact d6 (gq _ (gq _ p))
def xQ.reads{g:List FVal}{v:FVal}{W:World}{a:aJ}{t:TypeId}{z:Value}{cs:Array Value}{n:TypeId}(h:cT fp F b_ w sb gf cap t0 tv u_ s0 (g++[v]) ⟨w_++[f],tape,out⟩)(q:b_<=w.heap.size)(x:xQ fp F b_ sb gf cap t0 tv u_ s0 g v w_ f tape out (w.alloc (.cells cs n)) a t z W):
 W.heap[w.heap.size]?=some (.cells cs n (0,0))/\W.cell? ⟨gf,g.length*6+4,none⟩=some v.vv/\gf<W.heap.size/\b_<=W.heap.size/\
  ∀d:World,(W.alloc (.cells #[.iface t z] 180)).grownBy d v.vv.ownBlock->(∃u,d.cell? ⟨gf,g.length*6+4,none⟩=some u)/\d.frozen? ⟨gf,g.length*6+4,none⟩=false/\gf<d.heap.size:=by
 obtain⟨k,M,J,O,y,A,E⟩:=x;obtain⟨C,H,j,e,D,Q,o,b,m,L,I,P,K,p,N⟩:=y.top;obtain⟨rfl,B⟩:=gw e rfl;have G:H={ v with ov:=k }:=by simpa using B.symm
 subst G;have i:=aD b;have s:gf<w.heap.size:=h.lt gf (by simp[aF])
 have l:v.vv.ownBlock≠some gf:=λe=>by
  have:=(eu.1 (eu.1 h.nodup).2).1;exact this (by simp[aY,FVal.owns,e])
 refine⟨by rw[E _ o_];exact aS _ _ rfl _,aA b p,i,em q (em s_ A.size),λd r=>?_⟩
 have c:d.heap[gf]?=some (.cells j 136 (0,0)):=by
  rw[r.block gf t_ (λe=>l e.symm),eq _ _ _ i];exact b
 exact⟨⟨_,aA c p⟩,aE c,aD c⟩
def WG(d:Nat)(h:cT fp F b_ w sb gf cap t0 tv u_ s0 v_ ⟨w_++[f],tape,out⟩)(u:w_.length<=15)(b:b_<=w.heap.size)(ac:f.ops.length<=99000)(G:∃vs a,f.ops=vs++[a])(D:d<=f.g_.length)(af:f.g_.length<=90001):
 Calls prog 297 #[.agg #[.int .i64 d],.pointer (some ⟨sb,0,none⟩)] w (oC fp F b_ sb t0 s0 (aF sb gf u_ v_) w w_ tape out (aO (.declare d) f)):=by
 obtain⟨vs,a,O⟩:=G;have hM:=h.mid b (.cells #[.int .i64 d] 342);obtain⟨m,v,J,rfl,P, -⟩:=h.top;have h0:=h.grow ((eh _ w).alloc (d7 _) (.cells #[.int .i64 d] 342)) (λ_ h=>h) (λ_ h=>d6 h)
 have M:=hM.topS u;rw[<-P] at M;obtain⟨ae,v0,J,e, -,hv,ab,p,aa,k0,k1,k2,k3,k4,k5⟩:=h0.top;obtain⟨rfl,e2⟩:=gw e rfl;cases e2
 have HP:Hid (∀W,aZ (w.alloc (.cells #[.int .i64 d] 342)) W->Calls prog 114 #[.pointer (some ⟨gf,m.length*6,none⟩)] W λe n=>∃t z,e=.returned (.iface t z)/\xQ fp F b_ sb gf cap t0 tv u_ s0 m v w_ f tape out (w.alloc (.cells #[.int .i64 d] 342)) a t z n):=λW hS=>by
  refine((h0.grow hS.below (λ_ h=>h) (λ_ h=>d6 h)).popR O o_).mono ?_
  rintro e n ⟨t,z,s,he,h1,x,h3,h4,h5,h6⟩;exact⟨t,z,he,s,h3,h1,x,h4,(Kept.of_below (own:=aF sb gf u_ (m++[v])) hS.below).trans h5 λ_ h=>d6 h,λk hk=>by rw[h6 k hk,hS.heap]⟩
 obtain⟨⟨Q,A,B⟩,V⟩:=hv.g_
 have X:v.vv.ownBlock≠some gf:=λe=>by
  have:=(eu.1 (eu.1 h.nodup).2).1;exact this (by simp[aY,FVal.owns,e])
 have o:fZ F (w.alloc (.cells #[.int .i64 d] 342)) (Q.take d) (f.g_.take d):=by
  have hh:=B;rw[<-gt d f.g_] at hh;obtain⟨ys,zs,rfl,l1,l2,j,r2⟩:=hh.split;rw[gs,Nat.min_eq_left D] at l1;rw[<-l1,List.take_left,l1];exact j
 rcases A.2 with ⟨j,r2⟩|⟨g,c,K,j,N,y,E,U,S,Z⟩
 ·obtain rfl:d=0:=o_
  refine(GU w _ sb gf (m.length*6) b_ (λn=>Done fp F b_ sb t0 s0 (aF sb gf u_ (m++[v])) w ⟨w_++[(aO (.declare 0) f).1],tape,out⟩ n) (xQ fp F b_ sb gf cap t0 tv u_ s0 m v w_ f tape out (w.alloc (.cells #[.int .i64 0] 342)) a) [] rfl M (by rw[<-j];exact aA p k4) HP (λW t z i=>?_) (λW t z i=>World.ownsRow_nil _ _ _ _) (λW t z i=>?_) (λW t z i=>?_)).mono ?_
  ·obtain⟨C,Y,I,q4,q5⟩:=xQ.reads h b i;exact⟨aA C rfl,aD C,by rw[Y,j],I,q4⟩
  ·have:=(xQ.reads h b i).2.2.2.2;rw[j] at this;exact this
  ·intro T l w5 H L q;exact xQ.fin h rfl i D (by simpa using o) (jA O) T l w5 none (by rw[j];rfl) H L q
  ·rintro e n ⟨rfl,x⟩;exact oC.ok rfl x
 ·refine(GT w _ sb gf (m.length*6) b_ d g f.g_.length c D E o_ (λn=>Done fp F b_ sb t0 s0 (aF sb gf u_ (m++[v])) w ⟨w_++[(aO (.declare d) f).1],tape,out⟩ n) (xQ fp F b_ sb gf cap t0 tv u_ s0 m v w_ f tape out (w.alloc (.cells #[.int .i64 d] 342)) a) (Q.take d) rfl o_ M (by rw[<-j];exact aA p k4) HP (λW t z i=>?_) (λW t z i=>?_) (λW t z i=>?_) (λW t z i=>?_)).mono ?_
  ·obtain⟨C,Y,I,q4,q5⟩:=xQ.reads h b i;exact⟨aA C rfl,aD C,by rw[Y,j],I,q4⟩
  ·obtain⟨s,_,_,_,_,_,h6⟩:=i;have r:W.heap[g]?=_:=(h6 g (λe=>X (by rw[j,e];rfl))).trans y
   have ad:Q.length=f.g_.length:=B.1;refine⟨by rw[gs];omega,d5 ⟨g,c,K,rfl,N,r,o_,U,S,?_⟩⟩
   have:=congrArg (List.take d) Z;rw[ir,show min d (f.g_.length*1)=d by omega] at this
   rw[je];exact this
  ·have:=(xQ.reads h b i).2.2.2.2;rw[j] at this;exact this
  ·intro T l w5 H L q;exact xQ.fin h rfl i D o (jA O) T l w5 (some g) (by rw[j];rfl) H L q
  ·rintro e n ⟨rfl,x⟩;exact oC.ok rfl x
end
def OY(w a:World)(sb:Nat)(x:Option Addr)(c:Nat)(b:w.alloc (.cells #[] 355)=a)(d:a.cell? ⟨sb,2,none⟩=some (.slice x 0 c)):
 Calls prog 319 #[.agg #[],.pointer (some ⟨sb,0,none⟩)] w λe w'=>e=fL 7/\w'=a:=by
 go_enter func319,ntmps319;go_wp2_with fail;exact⟨rfl,rfl,rfl⟩
def OX(w b:World)(sb r t g o n c:Nat)(i:Int)(P k:World->Prop)(E:w.alloc (.cells #[] 355)=b)(K:n+1<=c)(_hnn:n<=17592186044416)
 (y:Hid (∀W,aZ b W->Calls prog 95 #[.pointer (some ⟨sb,0,none⟩)] W λe w'=>e=.returned (.pointer (some ⟨r,t,none⟩))/\aZ b w'))
 (p:b.cell? ⟨sb,2,none⟩=some (.slice (some ⟨g,o,none⟩) (n+1) c)) (m:b.cell? ⟨g,o,none⟩=some (.int .i64 i))
 (x:Hid (∀W,aZ b W->Calls prog 281 #[.pointer (some ⟨r,t,none⟩),.iface 229 (.int .i64 i)] W λe w'=>e=.returned (.tuple #[])/\k w'))
 (v:Hid (∀W,k W->W.cell? ⟨sb,2,none⟩=some (.slice (some ⟨g,o,none⟩) (n+1) c)/\W.frozen? ⟨sb,2,none⟩=false/\sb<W.heap.size))
 (s:Hid (∀W d q,k W->(n=0\/(d=o+1/\q=c-1))->P (W.setCell ⟨sb,2,none⟩ (.slice (some ⟨g,d,none⟩) n q)))):
 Calls prog 319 #[.agg #[],.pointer (some ⟨sb,0,none⟩)] w λe w'=>e=.returned (.tuple #[])/\P w':=by
 have f:=aB p;have l:=aB m;have I:=p;have J:=m;have B:((n:Int)+1=0)=False:=t_
 have L:(1:Int)<=(n:Int)+1:=o_
 have H:(n:Int)+1<=(c:Int):=o_
 have M:(0:Int)<(n:Int)+1:=o_
 clear p m;go_enter func319,ntmps319;go_wp2_with fail;go_region_law (first|(go_simp;go_at_call 95;refine(y.out _ (by first|assumption|exact aZ.drew _)).mono ?_;rintro e A ⟨rfl,a⟩;have G:=cW a.heap f.out;have C:=cW a.heap l.out)|(go_simp;go_at_call 281;refine(x.out _ a).mono ?_;rintro e z ⟨rfl,j⟩;have u:=v.out _ j;obtain⟨D,N,F⟩:=u))
 all_goals
  go_wp2_with fail
  all_goals
   go_end0;first|exact⟨rfl,s.out _ _ _ j (d5 ⟨rfl,rfl⟩)⟩|exact⟨rfl,s.out _ _ _ j (d6 o_)⟩
section
variable {fp:Nat->Value} {F:Nat->Prop} {b_:Nat} {w:World} {sb gf cap:Nat} {t0 tv u_ s0:Value} {v_:List FVal} {w_:List aI} {f:aI} {tape:List Int} {out:List (List UInt8)}
def cT.setTape{m:bX}{c:Value}{d:List Int}(h:cT fp F b_ w sb gf cap t0 tv u_ s0 v_ m)(o:rL F w c d):
 cT fp F b_ (w.setCell ⟨sb,2,none⟩ c) sb gf cap t0 c u_ s0 v_ ⟨m.f_,d,m.out⟩/\Kept (aF sb gf u_ v_) w (w.setCell ⟨sb,2,none⟩ c):=by
 have g:∀k,k≠sb->(w.setCell ⟨sb,2,none⟩ c).heap[k]?=w.heap[k]?:=λk g=>ej _ _ _ _ g
 have j:=(eu.1 h.nodup).1;have i:∀b,F b->(w.setCell ⟨sb,2,none⟩ c).heap[b]?=w.heap[b]?:=λb p=>g b λe=>(h.apart b p).2 (by simp[aF,e])
 have f:∀k,k∈gf::(u_.ownBlock.toList++aY v_)->(w.setCell ⟨sb,2,none⟩ c).heap[k]?=w.heap[k]?:=λk l=>g k λe=>j (by rw[<-e];exact l)
 refine⟨⟨?_,aX h.row λk a=>?_,h.frs.keep i (λ_ h=>h) λv n k a=>f k ?_,o.keep i λ_ h=>h,aX h.out λk a=>f k (by simp[a]),h.nodup,λk a=>el (h.lt k a) s_,λk a=>⟨el (h.apart k a).1 s_,(h.apart k a).2⟩⟩,⟨rfl,rfl,rfl,s_,λk _ q=>g k λe=>q (by simp[aF,e])⟩⟩
 ·rw[aQ h.blk];rfl
 ·cases a;exact f gf s_
 ·have:k∈aY v_:=hH.2 ⟨v,n,a⟩;simp[this]
def s6(fp:Nat->Value)(F:Nat->Prop)(b_ sb:Nat)(t0 s0:Value)(own:List Nat)(w:World)(r:bX × Nat)(e:Ending)(w':World):Prop:=
 s5 r.2 e/\Done fp F b_ sb t0 s0 own w r.1 w'
def Mid.tapes{own:List Nat}{i:World}{G:Nat->Prop}{n:Nat}{m:bX}(h:Mid fp b_ sb gf n t0 s0 own i G m w):∃tv,rL G w tv m.tape/\w.cell? ⟨sb,2,none⟩=some tv/\w.frozen? ⟨sb,2,none⟩=false/\sb<w.heap.size/\
 ∀b a,rL G w b a->Mid fp b_ sb gf n t0 s0 own i G ⟨m.f_,a,m.out⟩ (w.setCell ⟨sb,2,none⟩ b):=by
 obtain⟨p,k,e,tv,d,f,q,c,g⟩:=h;refine⟨tv,c.tape,aA c.blk rfl,aE c.blk,aD c.blk,λb a l=>?_⟩
 obtain⟨o,j⟩:=c.setTape l;exact⟨p.trans j g,em k j.size,e,b,d,f,q,o,g⟩
def Mid.pushK{own:List Nat}{N:World}{G:Nat->Prop}{n:Nat}(h:Mid fp b_ sb gf n t0 s0 own N G ⟨w_++[f],tape,out⟩ w){t:TypeId}{z:Value}{a:aJ}(Y:PV G w (.iface t z) a)(s:aK a<=200)(K:f.ops.length<=100000):Calls prog 281 #[.pointer (some ⟨gf,n*6,none⟩),.iface t z] w λe w'=>e=.returned (.tuple #[])/\Mid fp b_ sb gf n t0 s0 own N G ⟨w_++[f.push a],tape,out⟩ w'/\w'.heap[sb]?=w.heap[sb]?/\∀k,G k->w'.heap[k]?=w.heap[k]?:=by
 obtain⟨L,J,B,Q,b,Z,d,c,p⟩:=h;obtain⟨l,v,i,rfl,W,hv,q,g,M,k0,k1,k2,k3,k4,T⟩:=c.top;have H:l.length=n:=by simpa using d
 subst H;obtain⟨⟨X,m,x⟩,C⟩:=hv.ops;have E:=eu.1 (eu.1 c.nodup).2;have y:v.ov.ownBlock≠some gf:=λe=>E.1 (by simp[aY,FVal.owns,e])
 have u:v.ov.ownBlock≠some sb:=λe=>(eu.1 c.nodup).1 (by simp[aY,FVal.owns,e])
 have D:sb≠gf:=λe=>(eu.1 c.nodup).1 (by simp[e])
 refine(wZ b_ gf (l.length*6) f.ops.length i v.ov X t z w g T m y J o_).mono ?_
 rintro e w' ⟨he,j,V,P,I,r⟩;obtain⟨S,O⟩:=c.pushed (cur:=i) g x Y s V P I r;refine⟨he,⟨L.trans O p,em J O.size,B,Q,b,_,s_,S,λk o=>?_⟩,r.block sb (aD q) D (λe=>u e.symm),λk A=>r.block k (c.apart k A).1 (λe=>(c.apart k A).2 (by simp[aF,e])) λe=>(c.apart k A).2 (by simp[aF,aY,FVal.owns,<-e])⟩
 have e1:aF sb gf b (l++[{ v with ov:=j }])=(sb::gf::(b.ownBlock.toList++aY l))++({ v with ov:=j }:FVal).owns:=by simp[aF,aY]
 have U:aF sb gf b (l++[v])=(sb::gf::(b.ownBlock.toList++aY l))++v.owns:=by simp[aF,aY]
 rw[e1] at o;rw[U] at p;rcases eo.1 o with d|d
 ·exact p k (gd _ d)
 ·rcases eo.1 d with d|d
  ·exact p k (gq _ (gd _ d))
  ·have c:j.ownBlock=some k:=by simpa using d
   rcases I k c with F|F
   ·exact p k (gq _ (by simp[FVal.owns,F]))
   ·exact d5 (em L.size F)
def V9(v:List dQ)(h:cT fp F b_ w sb gf cap t0 tv u_ s0 v_ ⟨w_++[f],tape,out⟩)(p:w_.length<=15)(b:b_<=w.heap.size)(I:f.ops.length<=99000)(B:tape.length<=17592186044416):
 Calls prog 319 #[.agg #[],.pointer (some ⟨sb,0,none⟩)] w (s6 fp F b_ sb t0 s0 (aF sb gf u_ v_) w (bY v .read w_ f tape out)):=by
 have s:=h.mid b (.cells #[] 355);obtain⟨A,J,u,Y,N,L⟩:=s.tapes;cases tape with
 |nil=>
  have V:∃x c,A=.slice x 0 c:=by
   rcases J with ⟨_,d⟩|⟨g,o,c,d,_⟩
   ·exact d
   ·exact⟨_,_,d⟩
  obtain⟨x,c,rfl⟩:=V;refine(OY w _ sb x c rfl u).mono ?_;rintro e n ⟨rfl,rfl⟩;exact⟨d5 ⟨show (7:Nat)≠0 by decide,rfl⟩,s.done (Ext.refl _ _)⟩
 |cons i l=>
  rcases J with ⟨O,_⟩|⟨g,o,c,rfl,M,q,a⟩
  ·cases O
  have E:=a 0 s_
  simp only[ek] at u M B
  refine(OX w _ sb gf (w_.length*6) g o l.length c i (λn=>Done fp F b_ sb t0 s0 (aF sb gf u_ v_) w ⟨w_++[f.push (aW i)],l,out⟩ n)
   (λW=>Mid fp b_ sb gf w_.length t0 s0 (aF sb gf u_ v_) (w.alloc (.cells #[] 355)) F ⟨w_++[f.push (aW i)],i::l,out⟩ W/\W.cell? ⟨sb,2,none⟩=some (.slice (some ⟨g,o,none⟩) (l.length+1) c)/\∀k,F k->W.heap[k]?=(w.alloc (.cells #[] 355)).heap[k]?) rfl M o_ (s.topS p) u E.1 (λW H=>?_) (λW t=>?_) (λW U Z t C=>?_)).mono ?_
  ·refine((s.same H).pushK (PV.num F W i E.2.1 E.2.2) (by rw[kH];omega) o_).mono ?_
   rintro e n ⟨X,d,r,D⟩;refine⟨X,d,?_,λk P=>by rw[D k P,H.heap]⟩
   have G:n.cell? ⟨sb,2,none⟩=W.cell? ⟨sb,2,none⟩:=World.cell?_of_block r;rw[G];exact cW H.heap u
  ·obtain⟨y,_,q2,Q,T,_⟩:=t.1.tapes;exact⟨t.2.1,Q,T⟩
  ·obtain⟨d,r,D⟩:=t;obtain⟨y,_,_,_,_,S⟩:=d.tapes;refine(S _ l ?_).done (Ext.refl _ _);by_cases K:l=[]
   ·subst K;exact d6 ⟨rfl,_,_,rfl⟩
   ·have z:l.length≠0:=λe=>K (ge e)
    rcases C with C|⟨rfl,rfl⟩
    ·exact absurd C z
    ·refine d5 ⟨g,o+1,c-1,rfl,o_,q,λj hj=>?_⟩
     have m:=a (j+1) t_
     simp only[List.getElem_cons_succ] at m;refine⟨?_,m.2⟩;have G:W.cell? ⟨g,o+1+j,none⟩=(w.alloc (.cells #[] 355)).cell? ⟨g,o+1+j,none⟩:=World.cell?_of_block (D g q);rw[G,show o+1+j=o+(j+1) by omega];exact m.1
  ·rintro e n ⟨rfl,r⟩;exact⟨d6 ⟨rfl,rfl⟩,r⟩
end
def QQ(w b:World)(sb f j gf a:Nat)(P:World->Prop)(Q:TypeId->Value->World->Prop)(g:w.alloc (.cells #[] 244)=b)(i:1<=a)
 (p:Hid (∀W,aZ b W->Calls prog 95 #[.pointer (some ⟨sb,0,none⟩)] W λe w'=>e=.returned (.pointer (some ⟨f,j,none⟩))/\aZ b w'))
 (o:Hid (∀W,aZ b W->Calls prog 114 #[.pointer (some ⟨f,j,none⟩)] W λe w'=>∃t z,e=.returned (.iface t z)/\Q t z w'))
 (k:Hid (∀W t z,Q t z W->W.cell? ⟨sb,1,none⟩=some (.slice (some ⟨gf,0,none⟩) 1 a)/\W.frozen? ⟨sb,1,none⟩=false/\sb<W.heap.size))
 (l:Hid (∀W t z,Q t z W->P (W.drew.setCell ⟨sb,1,none⟩ (.slice (some ⟨gf,0,none⟩) 0 a)))):
 Calls prog 282 #[.agg #[],.pointer (some ⟨sb,0,none⟩)] w λe w'=>e=.returned (.tuple #[])/\P w':=by
 have n:=aB g;have u:(0:Int)<=(a:Int):=o_
 clear g;go_enter func282,ntmps282;go_wp2_with fail;rw[n.out];refine(p.out _ (aZ.refl _)).mono ?_;rintro e q ⟨rfl,d⟩;go_wp2_with fail;refine(o.out _ d).mono ?_;rintro e x ⟨t,z,rfl,c⟩;obtain⟨r,v,s⟩:=k.out _ _ _ c;have m:=aB (l.out _ _ _ c);clear c;go_wp2_with fail;go_region
 all_goals
  go_wp2_with fail;go_end0;exact⟨rfl,m.out⟩
def QP(w b:World)(sb i o gf a n g k:Nat)(P:World->Prop)(Q m:TypeId->Value->World->Prop)(j:w.alloc (.cells #[] 244)=b)(l:n+2<=a)(H:n<=1000)
 (y:Hid (∀W,aZ b W->Calls prog 95 #[.pointer (some ⟨sb,0,none⟩)] W λe w'=>e=.returned (.pointer (some ⟨i,o,none⟩))/\aZ b w'))
 (x:Hid (∀W,aZ b W->Calls prog 114 #[.pointer (some ⟨i,o,none⟩)] W λe w'=>∃t z,e=.returned (.iface t z)/\Q t z w'))
 (p:Hid (∀W t z,Q t z W->W.cell? ⟨sb,1,none⟩=some (.slice (some ⟨gf,0,none⟩) (n+2) a)/\W.frozen? ⟨sb,1,none⟩=false/\sb<W.heap.size))
 (f:Hid (∀W t z,Q t z W->Calls prog 95 #[.pointer (some ⟨sb,0,none⟩)] (W.drew.setCell ⟨sb,1,none⟩ (.slice (some ⟨gf,0,none⟩) (n+1) a)) λe w'=>e=.returned (.pointer (some ⟨g,k,none⟩))/\m t z w'))
 (u:Hid (∀W t z,m t z W->Calls prog 281 #[.pointer (some ⟨g,k,none⟩),.iface t z] W λe w'=>e=.returned (.tuple #[])/\P w')):
 Calls prog 282 #[.agg #[],.pointer (some ⟨sb,0,none⟩)] w λe w'=>e=.returned (.tuple #[])/\P w':=by
 have v:=aB j;have I:(0:Int)<=(n:Int)+1:=o_
 have F:(n:Int)+1<=(a:Int):=o_
 have J:(0:Int)<(n:Int)+1:=o_
 have K:(n:Int)+2-1=(n:Int)+1:=o_
 clear j;go_enter func282,ntmps282;go_wp2_with fail;rw[v.out];refine(y.out _ (aZ.refl _)).mono ?_;rintro e B ⟨rfl,d⟩;go_wp2_with fail;refine(x.out _ d).mono ?_;rintro e L ⟨t,z,rfl,c⟩;obtain⟨C,G,E⟩:=p.out _ _ _ c;have s:=aB (f.out _ _ _ c);clear c;go_wp2_with fail;go_region
 all_goals
  go_wp2_with fail;refine s.out.mono ?_;rintro e D ⟨rfl,q⟩;go_wp2_with fail;refine(u.out _ _ _ q).mono ?_;rintro e A ⟨rfl,r⟩;go_wp2_with fail;go_end0;exact⟨rfl,r⟩
section
variable {fp:Nat->Value} {F:Nat->Prop} {b_:Nat} {w:World} {sb gf cap:Nat} {t0 tv u_ s0:Value} {v_:List FVal} {w_:List aI} {f:aI} {tape:List Int} {out:List (List UInt8)}
def cT.dropTop{a:List FVal}{v:FVal}(h:cT fp F b_ w sb gf cap t0 tv u_ s0 (a++[v]) ⟨w_++[f],tape,out⟩):
 cT fp F b_ (w.setCell ⟨sb,1,none⟩ (.slice (some ⟨gf,0,none⟩) a.length cap)) sb gf cap t0 tv u_ s0 a ⟨w_,tape,out⟩/\Kept (aF sb gf u_ (a++[v])) w (w.setCell ⟨sb,1,none⟩ (.slice (some ⟨gf,0,none⟩) a.length cap)):=by
 generalize H:Value.slice (some ⟨gf,0,none⟩) a.length cap=V;have m:∀k,k≠sb->(w.setCell ⟨sb,1,none⟩ V).heap[k]?=w.heap[k]?:=λk m=>ej _ _ _ _ m
 have r:=(eu.1 h.nodup).1;have d:aY (a++[v])=aY a++v.owns:=by simp[aY]
 have g:∀k,k∈aF sb gf u_ a->k∈aF sb gf u_ (a++[v]):=λk l=>by
  unfold aF at l ⊢
  rw[d];simp only[en,eo] at l ⊢
  rcases l with i|i|i|i
  ·exact d6 i
  ·exact d5 (d6 i)
  ·exact d5 (d5 (d6 i))
  ·exact d5 (d5 (d5 (d6 i)))
 have n:∀b,F b->(w.setCell ⟨sb,1,none⟩ V).heap[b]?=w.heap[b]?:=λb x=>m b λe=>(h.apart b x).2 (by simp[aF,e])
 have j:∀k,k∈gf::(u_.ownBlock.toList++aY (a++[v]))->(w.setCell ⟨sb,1,none⟩ V).heap[k]?=w.heap[k]?:=λk l=>m k λe=>r (by rw[<-e];exact l)
 obtain⟨D,M,e,o,L⟩:=iZ.unsnoc h.frs;obtain⟨rfl,K⟩:=gw e rfl;refine⟨⟨?_,?_,o.keep n (λ_ h=>h) λu B k c=>j k ?_,h.tape.keep n λ_ h=>h,aX h.out λk c=>j k (by simp[c]),?_,λk c=>el (h.lt k (g k c)) s_,λk c=>⟨el (h.apart k c).1 s_,λl=>(h.apart k c).2 (g k l)⟩⟩,⟨rfl,rfl,rfl,s_,λk _ C=>m k λe=>C (by simp[aF,e])⟩⟩
 ·rw[aQ h.blk,<-H];rfl
 ·rcases h.row.2 with ⟨p,_⟩|⟨J,I,q,p,E,t,z,A,y,s⟩
  ·cases p
  ·cases p;rw[ei] at z s;refine⟨by rw[eF],d5 ⟨gf,cap,q,rfl,E,?_,o_,A,y,?_⟩⟩
   ·rw[j gf s_];exact t
   ·have:=congrArg (List.take (a.length*6)) s;rw[ir,show min (a.length*6) ((a.length+[v].length)*6)=a.length*6 by simp,jQ] at this
    rw[this,List.take_left' (by rw[eF])]
 ·have:k∈aY a:=hH.2 ⟨u,B,c⟩;rw[d];simp[this]
 ·have G:aF sb gf u_ (a++[v])=aF sb gf u_ a++v.owns:=by simp[aF,d]
  have:=h.nodup;rw[G] at this;exact(gi.1 this).1
def yG(sb gf:Nat)(a:Value)(b:List FVal)(v:FVal):∀k,k∈aF sb gf a b->k∈aF sb gf a (b++[v]):=λk c=>by
 have d:aF sb gf a (b++[v])=aF sb gf a b++v.owns:=by simp[aF,aY]
 rw[d];exact gd _ c
def j3(fp:Nat->Value)(F:Nat->Prop)(b_ sb gf cap:Nat)(t0 tv u_ s0:Value)(fb:List FVal)(v:FVal)(w_:List aI)(f:aI)(tape:List Int)(out:List (List UInt8))(w0:World)(a:aJ)(t:TypeId)(z:Value)(W:World):Prop:=
 PV F W (.iface t z) a/\aK a<=200/\∃v',v'.owns=v.owns/\cT fp F b_ W sb gf cap t0 tv u_ s0 (fb++[v']) ⟨w_++[f.pop],tape,out⟩/\Kept (aF sb gf u_ (fb++[v])) w0 W
def j3.gone{b:List FVal}{v:FVal}{d W:World}{a:aJ}{t:TypeId}{z:Value}(m:j3 fp F b_ sb gf cap t0 tv u_ s0 b v w_ f tape out d a t z W):
 PV F (W.drew.setCell ⟨sb,1,none⟩ (.slice (some ⟨gf,0,none⟩) b.length cap)) (.iface t z) a/\cT fp F b_ (W.drew.setCell ⟨sb,1,none⟩ (.slice (some ⟨gf,0,none⟩) b.length cap)) sb gf cap t0 tv u_ s0 b ⟨w_,tape,out⟩/\Kept (aF sb gf u_ (b++[v])) d (W.drew.setCell ⟨sb,1,none⟩ (.slice (some ⟨gf,0,none⟩) b.length cap)):=by
 obtain⟨o,s,j,q,c,p⟩:=m;have i:=c.grow (aZ.drew W).below (λ_ h=>h) (λ_ h=>d6 h)
 obtain⟨n,g⟩:=i.dropTop;have e:aF sb gf u_ (b++[j])=aF sb gf u_ (b++[v]):=by simp[aF,aY,q]
 rw[e] at g;refine⟨(o.keep (w':=W.drew) λ_ _=>rfl).keep λk l=>ej _ _ _ _ λe=>(c.apart k l).2 (by simp[aF,e]),n,(p.trans (Kept.of_below (own:=[]) (aZ.drew W).below) (λx r=>by simp at r)).trans g λ_ h=>d6 h⟩
def Z1(s:List dQ)(h:cT fp F b_ w sb gf cap t0 tv u_ s0 v_ ⟨w_++[f],tape,out⟩)(o:w_.length<=15)(l:b_<=w.heap.size)(I:f.ops.length<=99000)(D:∃J a,f.ops=J++[a])(H:∀g∈w_,g.ops.length<=99000):
 Calls prog 282 #[.agg #[],.pointer (some ⟨sb,0,none⟩)] w (s6 fp F b_ sb t0 s0 (aF sb gf u_ v_) w (bY s .give w_ f tape out)):=by
 obtain⟨J,a,M⟩:=D;have T:=h.mid l (.cells #[] 244);obtain⟨b,v,Y,rfl,r, -, -, -,n, -⟩:=h.top;have q:Below w.heap.size w (w.alloc (.cells #[] 244)):=(eh _ w).alloc (d7 _) _;have U:=h.grow q (λ_ h=>h) (λ_ h=>d6 h)
 have G:=T.topS o;rw[<-r] at G
 have P:Hid (∀W,aZ (w.alloc (.cells #[] 244)) W->Calls prog 114 #[.pointer (some ⟨gf,b.length*6,none⟩)] W λe m=>∃t z,e=.returned (.iface t z)/\j3 fp F b_ sb gf cap t0 tv u_ s0 b v w_ f tape out (w.alloc (.cells #[] 244)) a t z m):=λW O=>by
  refine((U.grow O.below (λ_ h=>h) (λ_ h=>d6 h)).popR M o_).mono ?_
  rintro e m ⟨t,z,aa,B,V,u,h3,x,X,h6⟩;exact⟨t,z,B,V,u,_,by simp[FVal.owns,h3],x,(Kept.of_below (own:=aF sb gf u_ (b++[v])) O.below).trans X λ_ h=>d6 h⟩
 have K:∀W t z,j3 fp F b_ sb gf cap t0 tv u_ s0 b v w_ f tape out (w.alloc (.cells #[] 244)) a t z W->W.cell? ⟨sb,1,none⟩=some (.slice (some ⟨gf,0,none⟩) (b.length+1) cap)/\W.frozen? ⟨sb,1,none⟩=false/\sb<W.heap.size:=λW t z i=>by
  obtain⟨_,_,S,_,x,_⟩:=i;have c:=x.blk;rw[show (b++[S]).length=b.length+1 by simp] at c
  exact⟨aA c rfl,aE c,aD c⟩
 rcases ja w_ with rfl|⟨j,g,A⟩
 ·obtain rfl:b=[]:=ge r;refine(QQ w _ sb gf 0 gf cap (λm=>Done fp F b_ sb t0 s0 (aF sb gf u_ ([]++[v])) w ⟨[],tape,out⟩ m) _ rfl (by simpa using n) G P K λW t z i=>?_).mono ?_
  ·obtain⟨_,C,y⟩:=i.gone;exact⟨(Kept.of_below q).trans y λ_ h=>d6 h,F,gf,cap,tv,u_,[],Ext.refl _ _,C,λk E=>d6 (yG sb gf u_ [] v k E)⟩
  ·rintro e m ⟨rfl,u⟩;exact⟨d6 ⟨rfl,rfl⟩,u⟩
 ·rw[jb] at A;subst A;have d:b.length=j.length+1:=by simpa using r
  have Q:j.length<=14:=by simp at o;omega
  rw[d] at n;have Z:bY s .give (j++[g]) f tape out=(⟨j++[g.push a],tape,out⟩,0):=by simp[bY,jA M]
  rw[Z];refine(QP w _ sb gf (b.length*6) gf cap j.length gf (j.length*6) (λm=>Done fp F b_ sb t0 s0 (aF sb gf u_ (b++[v])) w ⟨j++[g.push a],tape,out⟩ m) _ (λt z W=>PV F W (.iface t z) a/\aK a<=200/\Mid fp b_ sb gf j.length t0 s0 (aF sb gf u_ (b++[v])) (w.alloc (.cells #[] 244)) F ⟨j++[g],tape,out⟩ W) rfl o_ o_ G P (λW t z i=>?_) (λW t z i=>?_) (λW t z i=>?_)).mono ?_
  ·have:=K W t z i;rw[d] at this;exact this
  ·obtain⟨L,C,y⟩:=i.gone;rw[d] at L C y;have p:Mid fp b_ sb gf j.length t0 s0 (aF sb gf u_ (b++[v])) (w.alloc (.cells #[] 244)) F ⟨j++[g],tape,out⟩ _:=⟨y,em l (em q.size y.size),cap,tv,u_,b,d,C,λk E=>d6 (yG sb gf u_ b v k E)⟩
   refine(p.top o_).mono ?_
   rintro e m ⟨B,N⟩;exact⟨B,L.keep (λ_ _=>by rw[N.heap]),i.2.1,p.same N⟩
  ·refine(i.2.2.push i.1 i.2.1 (by have:=H g s_;omega)).mono ?_
   rintro e m ⟨B,x⟩;exact⟨B,x.done (Ext.refl _ _)⟩
  ·rintro e m ⟨rfl,u⟩;exact⟨d6 ⟨rfl,rfl⟩,u⟩
end
def SH(w j:World)(sb n o gf m f:Nat)(b:Option Addr)(S:World->Prop)(Q:Option Addr->Nat->World->Prop)(l:w.alloc (.cells #[.pointer b,.int .i64 f] 357)=j)
 (v:Hid (∀W,aZ j W->Calls prog 95 #[.pointer (some ⟨sb,0,none⟩)] W λe w'=>e=.returned (.pointer (some ⟨n,o,none⟩))/\aZ j w'))
 (u:Hid (∀W,aZ j W->Calls prog 287 #[.pointer (some ⟨n,o,none⟩),.int .i64 f] W λe w'=>∃x d,e=.returned (.slice x f d)/\Q x d w'))
 (r:Hid (∀W x d,Q x d W->W.cell? ⟨sb,1,none⟩=some (.slice (some ⟨gf,0,none⟩) 16 m)/\S W)):
 Calls prog 320 #[.agg #[.pointer b,.int .i64 f],.pointer (some ⟨sb,0,none⟩)] w λe w'=>e=fL 5/\S w':=by
 have a:(w.alloc (.cells #[.pointer b,.int .i64 f] 357)).heap[w.heap.size]?=some (.cells #[.pointer b,.int .i64 f] 357 (0,0)):=aS _ _ rfl _;rw[l] at a;have s:=aB l;have g:=aB (aA (i:=1) a rfl);have C:=g.out;have k:=aD a;clear l a;go_enter func320,ntmps320;go_wp2_with fail;rw[s.out];go_region_law (go_simp;first|(go_at_call 95;refine(v.out _ (aZ.drew _)).mono ?_;rintro e y ⟨rfl,c⟩;have B:=cW c.heap g.out;have z:=kC c.heap k)|(go_at_call 287;refine(u.out _ c).mono ?_;rintro e D ⟨x,d,rfl,p⟩;have q:=r.out _ _ _ p;obtain⟨A,t⟩:=q))
 all_goals
  go_wp2_with fail;exact⟨rfl,rfl,t⟩
end Go.Proofs.YthbffcmfmjpncaaGreatDoor
