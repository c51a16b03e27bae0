/- Contracts of the document's answer: names: the small steps. -/
import Derived.Test.YthbffcmfmjpncaaGreatDoorP02k
set_option linter.defProp false
set_option maxRecDepth 100000
set_option maxHeartbeats 4000000
namespace Go.Proofs.YthbffcmfmjpncaaGreatDoor
open Hs
open _root_.Go.Proofs.Tryz
open Instr(typeAssert)
open Go.RowKit
variable{W:Int}{c ks:List aC}{cb lo m n:Nat}{F:Nat->Prop}{d f kv v:Value}{w w':World}{a:aC}{b s:aQ}
def sU(x:List UInt8)(w:World):
 Calls prog 52 #[.string (bs x)] w λe a=>e=.returned (.bool (cZ x))/\a=w:=by
 have c:(bs x).toList=x:=bM x;have b:Hid (cZ x=(x==[108,101,110] || x==[114,101,97,100])):=rfl
 go_enter func52,ntmps52;go_wp2
 all_goals
  go_ret;exact⟨cK (by rw[b.out];first|done|simp_all),rfl⟩
def dQ(l:List (List UInt8)):List Value:=l.map λx=>.string (bs x)
def zH(l:List (List UInt8))(x:List UInt8)(g d:Nat)(w:World)(v:l.length<=100000)(_hlc:l.length<=d)(q:∀i (h:i<l.length),w.cell? ⟨g,i,none⟩=some (.string (bs l[i]))):
 Calls prog 91 #[.slice (some ⟨g,0,none⟩) l.length d,.string (bs x)] w λe r=>e=.returned (.bool (l.contains x))/\r=w:=by
 have A:(bs x).toList=x:=bM x;have s:=aA q;clear q;go_enter func91,ntmps91;go_wp2_with fail;go_loop [5] (λi=>∃k:Nat,k<=l.length/\i=.int .i64 k/\Hid (∀y∈l.take k,y≠x)) (λi=>l.length-(intOf i).toNat)
 case atStart=>exact⟨0,LC _,rfl,λy j=>by simp at j⟩
 case round=>
  obtain⟨k,u,rfl,m⟩:=hrel;by_cases b:k<l.length
  ·have o:=s.out k b;have a:l[k]∈l:=KG b
   have p:Hid (∀y∈l.take (k+1),y∈l.take k\/y=l[k]):=λy j=>by
    rw[KA b] at j;rcases LB.1 j with h|h
    ·exact JX h
    ·exact JR (KB.1 h)
   have n:=aA a;clear a;generalize l[k]=y at*;have j:(bs y).toList=y:=bM y;cases f:(y==x)
   ·have c:Hid (∀z∈l.take (k+1),z≠x):=λz t=>by
     rcases p.out z t with h|h
     ·exact m.out z h
     ·rw[h];simpa using f
    clear m p n;go_wp2_with fail;go_round
    case rel=>exact⟨k+1,o_,by go_num,c⟩
    case measure=>simp[intOf];omega
   ·have c:Hid (l.contains x=true):=by
     show _=_
     have e:y=x:=by simpa using f
     rw[<-e];simpa using n.out
    clear m p n;go_wp2_with fail;go_ret;exact⟨cK (by have h:=c.out;simp at h;simp[h]),rfl⟩
  ·have c:Hid (l.contains x=false):=by
    show _=_
    rw[Bool.eq_false_iff];intro h;have:=m.out x (by rw[KT o_];simpa using h)
    exact this rfl
   clear m;go_wp2_with fail;go_ret;exact⟨cK (by have h:=c.out;simp at h;simp[h]),rfl⟩
def zI(x:List UInt8)(w:World):
 Calls prog 91 #[.slice none 0 0,.string (bs x)] w λe a=>e=.returned (.bool (([]:List (List UInt8)).contains x))/\a=w:=by
 go_enter func91,ntmps91;go_wp2_with fail;go_loop [5] (λi=>i=.int .i64 0) (λ_=>0)
 case atStart=>rfl
 case round=>
  subst hrel;go_wp2_with fail;go_ret;exact⟨cK s_,rfl⟩
def iW:(prog.info? 9).map (λi=>(i.zero,i.size,i.bytes))=some (some (.string (bs [])),1,16):=k_
def tB(l:List (List UInt8))(x:List UInt8)(v:Value)(b_:Nat)(w:World)(k:l.length<=100000)(a:w.ownsRow b_ 9 1 v l.length (dQ l)):
 Calls prog 91 #[v,.string (bs x)] w λe c=>e=.returned (.bool (l.contains x))/\c=w:=by
 rcases a.2 with ⟨rfl,d⟩|⟨g,b,j,rfl,o,m,f,p,q,h⟩
 ·obtain rfl:l=[]:=KO d;exact zI x w
 ·refine zH l x g b w k f λi n=>aB m ?_
  have e:(dQ l)[i]?=some (.string (bs l[i])):=by simp[dQ,n]
  rw[<-h,KY,if_pos o_] at e
  simpa using e
structure eK(cb lo:Nat)(fs:List aC)(fv:Value)(a_:Bool)(w:World)(s:aQ):Prop where
 blk:∃sv,w.heap[cb]?=some (.cells #[fv,sv,.bool a_,.int .i64 s.kind,.int .i64 s.l_] 67 (0,0))/\w.ownsRow (cb+1) 9 1 sv s.e_.length (dQ s.e_)
 y_:Kid (Btw lo cb) w fv fs
def dB{b:Nat}{e c a:Value}(h:w.heap[b]?=some (.cells #[e,d,c,a,f] 67 (0,0))):
 b<w.heap.size/\w.cell? ⟨b,0,none⟩=some e/\w.cell? ⟨b,1,none⟩=some d/\w.cell? ⟨b,2,none⟩=some c/\w.cell? ⟨b,3,none⟩=some a/\w.cell? ⟨b,4,none⟩=some f/\(∀i,w.frozen? ⟨b,i,none⟩=false):=
 ⟨aD h,aB h rfl,aB h rfl,aB h rfl,aB h rfl,aB h rfl,λ_=>aI h⟩
def eK.put{h:List aC}{g:Value}{a:Bool}{e:aQ}(c:Kid (Btw lo cb) w g h)(i:∀k,k≠cb->w'.heap[k]?=w.heap[k]?)
 (d:w'.heap[cb]?=some (.cells #[g,f,.bool a,.int .i64 e.kind,.int .i64 e.l_] 67 (0,0))) (b:w.ownsRow (cb+1) 9 1 f s.e_.length (dQ s.e_)) (j:e.e_=s.e_):eK cb lo h g a w' e:=by
 refine⟨⟨f,d,?_⟩,c.keep λk c=>i k (by have:=c.2;omega)⟩
 rw[j];exact bX b λk c=>i k (by have:=bA b k c;omega)
def kH(cb lo:Nat)(m:List aC)(l:Value)(c:Bool)(w:World)(s:aQ)(l_ kind:Nat)(h:eK cb lo m l c w s):
 Calls prog 53 #[.pointer (some ⟨cb,0,none⟩),.int .i64 l_,.int .i64 kind] w λe j=>e=.returned (.tuple #[])/\Below cb w j/\eK cb lo m l c j (s.found l_ kind):=by
 obtain⟨u,b,d⟩:=h.blk;obtain⟨o,A,r,t,v,z,i⟩:=dB b;have y:=i 3;have x:=i 4;have p:=aA b;have q:=aA d;have H:=aA h;clear i b d h;by_cases f:s.kind=0
 ·have n:((s.kind:Int)==0)=true:=t_
  have a:s.found l_ kind={ s with kind:=kind,l_:=l_ }:=by unfold aQ.found;rw[if_pos f]
  have g:=aA a;clear a f;go_enter func53,ntmps53;go_wp2_with fail;go_end0;refine⟨rfl,((JU _ _).setCell s_ _).setCell s_ _,?_⟩
  rw[g.out];refine eK.put H.out.y_ (λk f=>?_) ?_ q.out rfl
  ·rw[JW _ _ _ _ f,JW _ _ _ _ f]
  ·rw[aO (aO p.out)];rfl
 ·have n:((s.kind:Int)==0)=false:=t_
  have a:s.found l_ kind=s:=by unfold aQ.found;rw[if_neg f]
  have g:=aA a;clear a f;go_enter func53,ntmps53;go_wp2_with fail;go_end0;exact⟨rfl,JU _ _,by rw[g.out];exact H.out⟩
def eJ.cells{d:Nat}(h:eJ d F w v a):
 ∃f b e,d=f+1/\v=.pointer (some ⟨b,0,none⟩)/\F b/\b<w.heap.size/\w.cell? ⟨b,0,none⟩=some (.string (bs a.op))/\w.cell? ⟨b,1,none⟩=some (.int .i64 a.l_)/\w.cell? ⟨b,2,none⟩=some (.string (bs a.x_))/\w.cell? ⟨b,3,none⟩=some e/\kB (eJ f F w) F w e a.y_:=by
 cases d with
 |zero=>exact h.elim
 |succ d=>
  obtain⟨b,e,j,g,c,i⟩:=h;exact⟨d,b,e,rfl,j,g,aD c,aB c rfl,aB c rfl,aB c rfl,aB c rfl,i⟩
def eE.get{R:Value->aC->Prop}:∀{vs ks} (i:Nat) (b:i<ks.length),eE R vs ks->∃v,vs[i]?=some v/\R v ks[i]
 |v::vs,a::ks,0,_,h=>⟨v,rfl,h.1⟩
 |v::vs,a::ks,i+1,b,h=>by
  obtain⟨u,d,c⟩:=eE.get (vs:=vs) (ks:=ks) i (by simpa using b) h.2
  exact⟨u,by simpa using d,by simpa using c⟩
 |[],_::_,_,_,h=>h.elim
 |_::_,[],_,b,_=>by simp at b
 |[],[],_,b,_=>by simp at b
def kB.get{R:Value->aC->Prop}(h:kB R F w kv ks):
 (kv=.slice none 0 0/\ks=[])\/∃g a,kv=.slice (some ⟨g,0,none⟩) ks.length a/\F g/\g<w.heap.size/\ks.length<=a/\∀i (b:i<ks.length),∃v,w.cell? ⟨g,i,none⟩=some v/\R v ks[i]:=by
 rcases h with h|⟨g,a,l,o,j,e,d,f,k,n⟩
 ·exact JX h
 ·refine JR ⟨g,a,j,e,aD d,f,λi b=>?_⟩
  obtain⟨v,c,m⟩:=eE.get i b n;refine⟨v,aB d ?_,m⟩;rw[<-k,KY,if_pos b] at c;simpa using c
def hK(s:aQ)(l k:Nat):(s.found l k).e_=s.e_:=by
 unfold aQ.found;split<;>rfl
def eJ.keepw{d:Nat}(h:eJ d F w v a)(b:w'.heap=w.heap):eJ d F w' v a:=h.keep λk _=>by rw[b]
def eK.keepw{a:Bool}(h:eK cb lo c d a w s)(b:w'.heap=w.heap):eK cb lo c d a w' s:=by
 obtain⟨f,g,e⟩:=h.blk;exact⟨⟨f,by rw[b];exact g,bX e λk _=>by rw[b]⟩,h.y_.keep λk _=>by rw[b]⟩
def fQ(cb lo:Nat)(j:List aC)(k:Value)(c:Bool)(w:World)(s:aQ)(h:eK cb lo j k c w s)(D:s.e_.length<=100000)(v:Value)(a:aC)(d:Nat)(o:eJ d (Btw lo cb) w v a):
 Calls prog 54 #[.pointer (some ⟨cb,0,none⟩),v] w λe m=>e=.returned (.tuple #[])/\Below cb w m/\eK cb lo j k c m (Hs.declaresL s a):=by
 obtain⟨M,b,O,rfl,rfl,J,p,F,P,Q,E, -⟩:=o.cells;obtain⟨C,g,f⟩:=h.blk;obtain⟨q,G,I,L,N,K,y⟩:=dB g;have z:=aA (sU a.x_ w);have r:=aA (tB s.e_ a.x_ C (cb+1) w.drew D f);have x:=aA (kH cb lo j k c w.drew s a.l_ 6 (h.keepw rfl));have n:Hid (Hs.declaresL s a=if cZ a.x_ || s.e_.contains a.x_ then s.found a.l_ 6 else s):=rfl
 have H:=aA h;clear y g f h o;generalize cZ a.x_=u at*;generalize s.e_.contains a.x_=A at*;go_enter func54,ntmps54;go_wp2_with fail;refine z.out.mono ?_;rintro e l ⟨rfl,i⟩;obtain rfl:=i.symm;go_wp2_with fail;go_region_law (go_simp;go_at_call 91;refine r.out.mono ?_;rintro e l ⟨rfl,i⟩;obtain rfl:=i.symm)
 all_goals (cases u<;>cases A)
 all_goals first
  |(go_wp2_with fail
    go_end0;exact⟨rfl,(JU _ _).drew,by rw[n.out];exact H.out.keepw rfl⟩)
  |(go_wp2_with fail
    refine x.out.mono ?_;rintro e l ⟨rfl,t,B⟩;go_wp2_with fail;go_end0;exact⟨rfl,(JU _ _).drew.trans t,by rw[n.out];exact B⟩)
def GK(d:Nat)(F:Nat->Prop)(w:World)(o:Option aC)(v:Value):Prop:=match o with|none=>v=.pointer none|some f=>eJ d F w v f
def kQ(ks:List aC)(x:List UInt8)(g o:Nat)(F:Nat->Prop)(w:World)(H:ks.length<=100000)(_hg:g<w.heap.size)(d:Nat)(t:∀i (K:i<ks.length),∃v,w.cell? ⟨g,i,none⟩=some v/\eJ d F w v ks[i]):
 Calls prog 26 #[.slice (some ⟨g,0,none⟩) ks.length o,.string (bs x)] w λe A=>A=w/\∃v,e=.returned v/\GK d F w (bN ks x) v:=by
 have B:=aA t;clear t;have L:(bs x).toList=x:=bM x;go_enter func26,ntmps26;go_wp2_with fail;go_loop [5] (λi=>∃k:Nat,k<=ks.length/\i=.int .i64 k/\Hid (∀y∈ks.take k,y.x_≠x)) (λi=>ks.length-(intOf i).toNat)
 case atStart=>exact⟨0,LC _,rfl,λy n=>by simp at n⟩
 case round=>
  obtain⟨k,D,rfl,c⟩:=hrel;by_cases f:k<ks.length
  ·obtain⟨v,p,a⟩:=B.out k f;obtain⟨I,b,J,rfl,rfl,G,u,E,M,N,C, -⟩:=a.cells;have s:=aA a
   have r:Hid (∀y∈ks.take (k+1),y∈ks.take k\/y=ks[k]):=λy n=>by
    rw[KA f] at n;rcases LB.1 n with h|h
    ·exact JX h
    ·exact JR (KB.1 h)
   have q:Hid (ks=ks.take k++ks[k]::ks.drop (k+1)):=by
    show _=_
    rw[KL,KU]
   clear a;generalize ks[k]=y at*;have n:(bs y.x_).toList=y.x_:=bM y.x_;cases l:(y.x_==x)
   ·have j:Hid (∀z∈ks.take (k+1),z.x_≠x):=λz m=>by
     rcases r.out z m with h|h
     ·exact c.out z h
     ·rw[h];simpa using l
    clear c r s q;go_wp2_with fail;go_round
    case rel=>exact⟨k+1,o_,by go_num,j⟩
    case measure=>simp[intOf];omega
   ·have j:Hid (bN ks x=some y):=by
     show _=_
     rw[q.out];unfold bN;rw[List.find?_append,KX.2 (by intro z m;simpa using c.out z m)]
     simp[l]
    clear c r q;go_wp2_with fail;go_ret;exact⟨rfl,_,rfl,by rw[j.out];exact s.out⟩
  ·have j:Hid (bN ks x=none):=by
    show _=_
    unfold bN;rw[KX];intro z m;simpa using c.out z (by rw[KT o_];exact m)
   clear c;go_wp2_with fail;go_ret;exact⟨rfl,_,rfl,by rw[j.out];rfl⟩
def sB(x:List UInt8)(d:Nat)(F:Nat->Prop)(w:World):
 Calls prog 26 #[.slice none 0 0,.string (bs x)] w λe a=>a=w/\∃v,e=.returned v/\GK d F w (bN [] x) v:=by
 go_enter func26,ntmps26;go_wp2_with fail;go_loop [5] (λi=>i=.int .i64 0) (λ_=>0)
 case atStart=>rfl
 case round=>
  subst hrel;go_wp2_with fail;go_ret;exact⟨rfl,_,rfl,rfl⟩
def mB(ks:List aC)(x:List UInt8)(b:Value)(F:Nat->Prop)(w:World)(c:ks.length<=100000)(d:Nat)(h:kB (eJ d F w) F w b ks):
 Calls prog 26 #[b,.string (bs x)] w λe f=>f=w/\∃v,e=.returned v/\GK d F w (bN ks x) v:=by
 rcases h.get with ⟨rfl,rfl⟩|⟨g,a,rfl, -,i, -,j⟩
 ·exact sB x d F w
 ·exact kQ ks x g a F w c i d j
def kB.slice{R:Value->aC->Prop}(h:kB R F w kv ks):∃x c,kv=.slice x ks.length c:=by
 rcases h.get with ⟨rfl,rfl⟩|⟨g,a,rfl,_⟩
 ·exact⟨none,0,rfl⟩
 ·exact⟨_,a,rfl⟩
def gZ{b:Bool}(h:dF c b a.x_=W)(d:W<0):dA c b s a=s.found a.l_ 6:=by
 unfold dA;rw[h,if_pos d]
def iM{b:Bool}(h:dF c b a.x_=W)(e:¬W<0)(d:W≠(a.y_.length:Int)):dA c b s a=s.found a.l_ 7:=by
 unfold dA;rw[h,if_neg e,if_pos d]
def iN{b:Bool}(h:dF c b a.x_=W)(e:¬W<0)(d:W=(a.y_.length:Int)):dA c b s a=s:=by
 unfold dA;rw[h,if_neg e,if_neg (by simpa using d)]
def CE(cb lo:Nat)(p:List aC)(F:Value)(c:Bool)(w:World)(s:aQ)(h:eK cb lo p F c w s)(L:p.length<=100000)(C:∀f∈p,f.y_.length<=100000)(v:Value)(a:aC)(d:Nat)(Q:eJ d (Btw lo cb) w v a)(_hak:a.y_.length<=100000):
 Calls prog 92 #[.pointer (some ⟨cb,0,none⟩),v] w λe I=>e=.returned (.tuple #[])/\Below cb w I/\eK cb lo p F c I (dA p c s a):=by
 obtain⟨d',b,kv,rfl,rfl,hF,S,n0,n1,n2,n3,P⟩:=Q.cells;obtain⟨kx,kc,rfl⟩:=P.slice;obtain⟨sv,x,z⟩:=h.blk;obtain⟨T,c0,c1,c2,c3,c4,fz⟩:=dB x;obtain⟨U,A⟩:=(h.keepw (w':=w.drew) rfl).y_.depth;have Y:=aA (mB p a.x_ F (Btw lo cb) w.drew L U A);have u:=aA (λk=>kH cb lo p F c w.drew s a.l_ k (h.keepw rfl))
 have H:=aA h;have D:=aA C;have Z:(bs a.x_).toList=a.x_:=bM _;clear fz x z h Q A P C;go_enter func92,ntmps92;go_wp2_with fail;go_region_law (go_simp;go_at_call 26;refine Y.out.mono ?_;rintro e t ⟨hw,O,rfl,m⟩;obtain rfl:=hw.symm)
 all_goals
  cases y:(a.x_==[108,101,110])
  ·cases B:(a.x_==[114,101,97,100])
   ·cases l:bN p a.x_ with
    |none=>
     rw[l] at m;obtain rfl:O=.pointer none:=m;have g:dF p c a.x_= -1:=by unfold dF;simp[y,B,l]
     have j:=aA (gZ (s:=s) g d_)
     clear g;go_wp2_with fail;refine(u.out 6).mono ?_;rintro e t ⟨rfl,n,o⟩;go_wp2_with fail;go_end0;exact⟨rfl,(JU _ _).drew.trans n,by rw[j.out];exact o⟩
    |some f=>
     rw[l] at m;have N:f.y_.length<=100000:=D.out f (KP l);have g:dF p c a.x_=(f.y_.length:Int)-1:=by unfold dF;simp[y,B,l]
     obtain⟨V,b2,M,rfl,rfl,K,E,m0,m1,W,X,q⟩:=m.cells;obtain⟨J,G,rfl⟩:=q.slice;clear m q;by_cases r:(f.y_.length:Int)-1<0
     ·have j:=aA (gZ (s:=s) g r);clear g;go_wp2_with fail;refine(u.out 6).mono ?_;rintro e t ⟨rfl,n,o⟩;go_wp2_with fail;go_end0;exact⟨rfl,(JU _ _).drew.trans n,by rw[j.out];exact o⟩
     ·by_cases i:((f.y_.length:Int)-1:Int)=(a.y_.length:Int)
      ·have j:=aA (iN (s:=s) g (by first|decide|omega) i)
       clear g;go_wp2_with fail;go_end0;exact⟨rfl,(JU _ _).drew,by rw[j.out];exact H.out.keepw rfl⟩
      ·have j:=aA (iM (s:=s) g (by first|decide|omega) i)
       clear g;go_wp2_with fail;refine(u.out 7).mono ?_;rintro e t ⟨rfl,n,o⟩;go_wp2_with fail;go_end0;exact⟨rfl,(JU _ _).drew.trans n,by rw[j.out];exact o⟩
   ·cases c
    ·have g:dF p false a.x_=0:=by unfold dF;simp[y,B]
     by_cases i:(0:Int)=(a.y_.length:Int)
     ·have j:=aA (iN (s:=s) g (by first|decide|omega) i)
      clear g;go_wp2_with fail;go_end0;exact⟨rfl,(JU _ _).drew,by rw[j.out];exact H.out.keepw rfl⟩
     ·have j:=aA (iM (s:=s) g (by first|decide|omega) i)
      clear g;go_wp2_with fail;refine(u.out 7).mono ?_;rintro e t ⟨rfl,n,o⟩;go_wp2_with fail;go_end0;exact⟨rfl,(JU _ _).drew.trans n,by rw[j.out];exact o⟩
    ·cases l:bN p a.x_ with
     |none=>
      rw[l] at m;obtain rfl:O=.pointer none:=m;have g:dF p true a.x_= -1:=by unfold dF;simp[y,B,l]
      have j:=aA (gZ (s:=s) g d_)
      clear g;go_wp2_with fail;refine(u.out 6).mono ?_;rintro e t ⟨rfl,n,o⟩;go_wp2_with fail;go_end0;exact⟨rfl,(JU _ _).drew.trans n,by rw[j.out];exact o⟩
     |some f=>
      rw[l] at m;have N:f.y_.length<=100000:=D.out f (KP l);have g:dF p true a.x_=(f.y_.length:Int)-1:=by unfold dF;simp[y,B,l]
      obtain⟨V,b2,M,rfl,rfl,K,E,m0,m1,W,X,q⟩:=m.cells;obtain⟨J,G,rfl⟩:=q.slice;clear m q;by_cases r:(f.y_.length:Int)-1<0
      ·have j:=aA (gZ (s:=s) g r);clear g;go_wp2_with fail;refine(u.out 6).mono ?_;rintro e t ⟨rfl,n,o⟩;go_wp2_with fail;go_end0;exact⟨rfl,(JU _ _).drew.trans n,by rw[j.out];exact o⟩
      ·by_cases i:((f.y_.length:Int)-1:Int)=(a.y_.length:Int)
       ·have j:=aA (iN (s:=s) g (by first|decide|omega) i)
        clear g;go_wp2_with fail;go_end0;exact⟨rfl,(JU _ _).drew,by rw[j.out];exact H.out.keepw rfl⟩
       ·have j:=aA (iM (s:=s) g (by first|decide|omega) i)
        clear g;go_wp2_with fail;refine(u.out 7).mono ?_;rintro e t ⟨rfl,n,o⟩;go_wp2_with fail;go_end0;exact⟨rfl,(JU _ _).drew.trans n,by rw[j.out];exact o⟩
  ·have g:dF p c a.x_=1:=by unfold dF;rw[y];rfl
   by_cases i:(1:Int)=(a.y_.length:Int)
   ·have j:=aA (iN (s:=s) g (by first|decide|omega) i)
    clear g;go_wp2_with fail;go_end0;exact⟨rfl,(JU _ _).drew,by rw[j.out];exact H.out.keepw rfl⟩
   ·have j:=aA (iM (s:=s) g (by first|decide|omega) i)
    clear g;go_wp2_with fail;refine(u.out 7).mono ?_;rintro e t ⟨rfl,n,o⟩;go_wp2_with fail;go_end0;exact⟨rfl,(JU _ _).drew.trans n,by rw[j.out];exact o⟩
def lF(b:List aC)(a:Bool)(s:aQ)(n:aC):(bQ b a s n).e_=s.e_:=by
 unfold bQ dA;repeat' split
 all_goals first|rfl|exact hK _ _ _
def dK(s:aQ)(n:aC):(Hs.declaresL s n).e_=s.e_:=by
 unfold Hs.declaresL;split
 ·exact hK _ _ _
 ·rfl
def Adds(s s':aQ)(m:Nat):Prop:=∃t,s'.e_=s.e_++t/\t.length<=m
def Adds.refl(s:aQ):Adds s s 0:=⟨[],s_,JS _⟩
def Adds.trans{a c:aQ}(h:Adds a b m)(k:Adds b c n):Adds a c (m+n):=by
 obtain⟨t,e,g⟩:=h;obtain⟨u,d,f⟩:=k;exact⟨t++u,by rw[d,e,List.append_assoc],t_⟩
def Adds.le{a:aQ}(h:Adds a b m)(e:m<=n):Adds a b n:=by
 obtain⟨t,c,d⟩:=h;exact⟨t,c,o_⟩
def Adds.of_eq{a:aQ}(h:b.e_=a.e_):Adds a b 0:=⟨[],by simp[h],JS _⟩
def Adds.fold{f:aQ->aC->aQ}{g:aC->Nat}(h:∀s k,Adds s (f s k) (g k)):∀(l:List aC) (s:aQ),Adds s (l.foldl f s) (l.map g).sum
 |[],s=>Adds.refl s
 |k::l,s=>by
  rw[List.foldl_cons,KC,KD];exact(h s k).trans (Adds.fold h l _)
def cT(b:List aC)(a:Bool):∀(d:Nat) (n:aC) (s:aQ),Adds s (aK b a d n s) (aX d n)
 |0,n,s=>Adds.refl s
 |d+1,n,s=>by
  rw[aK,aX];split
  ·match j:n.y_ with
   |t::v::r=>
    simp only;have e:Adds s (Hs.declaresL s t) 0:=Adds.of_eq (dK s t);obtain⟨u,c,h⟩:=e.trans (cT b a d v (Hs.declaresL s t));exact⟨u++[t.x_],by simp[c],t_⟩
   |[]=>exact(Adds.refl s).le o_
   |[_]=>exact(Adds.refl s).le o_
  ·have e:Adds s (bQ b a s n) 0:=Adds.of_eq (lF b a s n);have c:=e.trans (Adds.fold (f:=λs k=>aK b a d k s) (g:=aX d) (λs k=>cT b a d k s) n.y_ (bQ b a s n))
   split
   ·obtain⟨u,h,i⟩:=c;exact⟨[],by simp[h],s_⟩
   ·exact c.le o_
def uP(cb lo:Nat)(fs:List aC)(fv:Value)(a_:Bool)(d:Nat):Prop:=
 ∀(v:Value) (a:aC) (s:aQ) (w:World),eK cb lo fs fv a_ w s->eJ d (Btw lo cb) w v a->nF d a->s.e_.length+aX d a<=90000->
  Calls prog 55 #[.pointer (some ⟨cb,0,none⟩),v] w λe w'=>e=.returned (.tuple #[])/\Below cb w w'/\eK cb lo fs fv a_ w' (aK fs a_ d a s)
def lB{f:aC->Nat}{k:aC}:∀{l:List aC},k∈l->f k<=(l.map f).sum
 |[],h=>by cases h
 |x::l,h=>by
  simp only[KC,KD];rcases KE.1 h with rfl|h
  ·omega
  ·have:=lB (f:=f) h;omega
def fD{b_:Nat}{l:List (List UInt8)}(h:w.ownsRow b_ 9 1 v l.length (dQ l))(m:Nat)(q:m<=l.length):
 ∃x c,v=.slice x l.length c/\l.length<=c/\c<=maxLen/\w.ownsRow b_ 9 1 (.slice x m c) m (dQ (l.take m)):=by
 have f:(dQ (l.take m)).length=m*1:=by simp[dQ];omega
 rcases h.2 with ⟨rfl,j⟩|⟨g,a,b,rfl,i,o,k,d,p,n⟩
 ·refine⟨none,0,by rw[j],o_,by unfold maxLen;omega,f,JX ⟨?_,o_⟩⟩
  rw[show m=0 by omega]
 ·refine⟨_,a,rfl,k,d,f,JR ⟨g,a,b,rfl,i,o,o_,d,p,?_⟩⟩
  have e:dQ (l.take m)=(dQ l).take m:=by simp[dQ,List.map_take]
  rw[e,<-n,List.take_take];congr 1;omega
def AD(cb lo:Nat)(l:List aC)(K:Value)(c:Bool)(ba:l.length<=90000)(J:∀f∈l,f.y_.length<=90000)(d:Nat)(IH:uP cb lo l K c d)
 (v:Value) (a:aC) (s:aQ) (w:World) (h:eK cb lo l K c w s) (ha:eJ (d+1) (Btw lo cb) w v a) (ai:nF (d+1) a) (am:s.e_.length+aX (d+1) a<=90000) (bc:a.y_.length<=90000) (al:(a.op==[118,97,114])=false):
 Calls prog 55 #[.pointer (some ⟨cb,0,none⟩),v] w λe w'=>e=.returned (.tuple #[])/\Below cb w w'/\eK cb lo l K c w' (aK l c (d+1) a s):=by
 obtain⟨d',b,kv,hd,rfl,hF,ah,n0,n1,n2,n3,C⟩:=ha.cells;obtain rfl:d=d':=o_
 obtain⟨kx,kc,rfl⟩:=C.slice;obtain⟨sv,P,z⟩:=h.blk;obtain⟨q,c0,c1,c2,c3,c4,W⟩:=dB P;obtain⟨sx,sc,rfl,az,au, -⟩:=fD z _ (JS _);have ax:(bs a.op).toList=a.op:=bM _;have H:=aA h;have HA:=aA ha;have HK:=aA C;have HO:=aA z;clear h ha C W z;go_enter func55,ntmps55;go_upto_block 0 with fail
 go_cut [] (λwc=>Below cb w wc/\eK cb lo l K c wc (bQ l c s a))
 case first=>
  cases B:(a.op==[115,101,116] || a.op==[110,97,109,101])
  ·obtain⟨x,O⟩:=Bool.or_eq_false_iff.1 B;cases Y:(a.op==[99,97,108,108])
   ·have L:Hid (bQ l c s a=s):=by show _=_;unfold bQ;rw[B,Y];rfl
    clear B;go_wp2_with fail;go_meet
    case rel=>exact⟨JU _ _,by rw[L.out];exact H.out⟩
   ·have L:Hid (bQ l c s a=dA l c s a):=by show _=_;unfold bQ;rw[B,Y];rfl
    have HC:=aA (CE cb lo l K c w s H.out o_ (λf hf=>KM (J f hf) o_) _ a _ HA.out o_)
    clear B;go_wp2_with fail;refine HC.out.mono ?_;rintro e w1 ⟨rfl,Z,hc⟩;go_wp2_with fail;go_meet
    case rel=>exact⟨Z,by rw[L.out];exact hc⟩
  ·have L:Hid (bQ l c s a=if s.e_.contains a.x_ then s else s.found a.l_ 6):=by show _=_;unfold bQ;rw[B];rfl
   have HM:=aA (tB s.e_ a.x_ _ (cb+1) w.drew o_ HO.out)
   have HF:=aA (kH cb lo l K c w.drew s a.l_ 6 (H.out.keepw rfl));generalize s.e_.contains a.x_=mb at*
   have ap:((a.op==[115,101,116])=true/\(a.op==[110,97,109,101])=false)\/((a.op==[115,101,116])=false/\(a.op==[110,97,109,101])=true):=by
    cases x:(a.op==[115,101,116])
    ·rw[x] at B;exact JR ⟨rfl,by simpa using B⟩
    ·refine JX ⟨rfl,?_⟩;have:a.op=[115,101,116]:=by simpa using x
     rw[this];rfl
   clear B;rcases ap with ⟨x,O⟩|⟨x,O⟩
   all_goals
    go_wp2_with fail;go_region_law (go_simp;go_at_call 91;refine HM.out.mono ?_;rintro e w1 ⟨rfl,hw⟩;obtain rfl:=hw.symm)
   all_goals (cases mb)
   all_goals first
    |(go_wp2_with fail
      go_meet
      case rel=>exact⟨(JU _ _).drew,by rw[L.out];exact H.out.keepw rfl⟩)
    |(go_wp2_with fail
      refine HF.out.mono ?_;rintro e w1 ⟨rfl,Z,hc⟩;go_wp2_with fail;go_meet
      case rel=>exact⟨(JU _ _).drew.trans Z,by rw[L.out];exact hc⟩)
 case rest=>
  obtain⟨M,T⟩:=hcut;have ab:=aA M;have ag:=aA T;clear M T H HO;go_wp2_with fail;go_loopg [6] a.y_.length (λgk i wr=>∃k:Nat,k+gk=a.y_.length/\i=.int .i64 k/\Below cb w wr/\eK cb lo l K c wr ((a.y_.take k).foldl (λs k=>aK l c d k s) (bQ l c s a)))
  case atStart=>exact⟨0,o_,rfl,ab.out,ag.out⟩
  case round=>
   obtain⟨k,ay,rfl,m,p⟩:=hrel;have G:wr.heap[b]?=w.heap[b]?:=m.block b hF.2;have q0:wr.cell? ⟨b,0,none⟩=some (.string (bs a.op)):=(bV G).trans n0;have q3:wr.cell? ⟨b,3,none⟩=some (.slice kx a.y_.length kc):=(bV G).trans n3;have aq:b<wr.heap.size:=JY ah m.size;clear G n0 n1 n2 n3 c0 c1 c2 c3 c4;by_cases q:k<a.y_.length
   ·obtain⟨j,rfl⟩:∃j,gk=j+1:=⟨gk-1,o_⟩
    rcases HK.out.get with ⟨_,h0⟩|⟨g,bd,af,aj,ae,ar,F⟩
    ·rw[h0] at q;simp at q
    obtain⟨u,hu,S⟩:=F k q;cases af;have V:wr.heap[g]?=w.heap[g]?:=m.block g aj.2;have r0:wr.cell? ⟨g,k,none⟩=some u:=(bV V).trans hu;have be:g<wr.heap.size:=JY ae m.size
    have y:(a.y_.take (k+1)).foldl (λs k=>aK l c d k s) (bQ l c s a)=aK l c d a.y_[k] ((a.y_.take k).foldl (λs k=>aK l c d k s) (bQ l c s a)):=by
     rw[KA q,LI];rfl
    have Q:((a.y_.take k).map (aX d)).sum+aX d a.y_[k]<=(a.y_.map (aX d)).sum:=by
     have e:a.y_=a.y_.take k++a.y_[k]::a.y_.drop (k+1):=by rw[KL,KU]
     have Y:(a.y_.map (aX d)).sum=((a.y_.take k++a.y_[k]::a.y_.drop (k+1)).map (aX d)).sum:=by rw[<-e]
     rw[Y,LE,LF,KC,KD];omega
    have n:=Adds.fold (f:=λs k=>aK l c d k s) (g:=aX d) (λs k=>cT l c d k s) (a.y_.take k) (bQ l c s a)
    have E:((a.y_.take k).foldl (λs k=>aK l c d k s) (bQ l c s a)).e_.length+aX d a.y_[k]<=90000:=by
     obtain⟨t,h1,h2⟩:=n;rw[h1,lF];rw[aX] at am;simp;omega
    have HC:=aA (IH u a.y_[k] _ wr p (S.keep λk C=>m.block k C.2) (ai.2 _ (KG q)) E)
    have aa:=aA y;have D:=aA m;clear y Q n E p m S F hu V J IH;go_wp2_with fail;refine HC.out.mono ?_;rintro e w1 ⟨rfl,an,ao⟩;go_wp2_with fail;go_roundg j
    case measure=>omega
    case rel=>exact⟨k+1,o_,by go_num,D.out.trans an,by rw[aa.out];exact ao⟩
   ·obtain rfl:k=a.y_.length:=o_
    rw[LH] at p;obtain⟨bb,o,r⟩:=p.blk;obtain⟨av,c0,c1,c2,c3,c4,W⟩:=dB o;have n:Adds s _ _:=(Adds.of_eq (lF l c s a)).trans (Adds.fold (f:=λs k=>aK l c d k s) (g:=aX d) (λs k=>cT l c d k s) a.y_ (bQ l c s a))
    have U:s.e_.length<=(a.y_.foldl (λs k=>aK l c d k s) (bQ l c s a)).e_.length:=by
     obtain⟨t,h1,h2⟩:=n;rw[h1];simp
    have hS:aK l c (d+1) a s=if a.op==[98,108,111,99,107] then { a.y_.foldl (λs k=>aK l c d k s) (bQ l c s a) with e_:=(a.y_.foldl (λs k=>aK l c d k s) (bQ l c s a)).e_.take s.e_.length } else a.y_.foldl (λs k=>aK l c d k s) (bQ l c s a):=by
     rw[aK,if_neg (by rw[al];simp)]
    have X:=aA hS;have D:=aA m;have N:=aA p;obtain⟨ad,ac,rfl,aw,I,A⟩:=fD r _ U;have HCUT:=aA A;have ak:=aA o;have f1:=W 1;clear n hS m p r A o W J IH HK;generalize a.y_.foldl (λs k=>aK l c d k s) (bQ l c s a)=s1 at*
    cases eb:(a.op==[98,108,111,99,107])
    ·rw[eb] at X;go_wp2_with fail;go_end0;exact⟨rfl,D.out,by rw[X.out];exact N.out⟩
    ·rw[eb] at X;unfold maxLen at I;go_wp2_with fail;go_end0;refine⟨rfl,D.out.setCell s_ _,?_⟩
     rw[X.out,if_pos trivial];refine⟨⟨.slice ad s.e_.length ac,?_,?_⟩,N.out.y_.keep λk C=>JW _ _ _ _ (by have:=C.2;show k≠cb;omega)⟩
     ·rw[aO ak.out];rfl
     ·have el:(s1.e_.take s.e_.length).length=s.e_.length:=by rw[KH];omega
      show World.ownsRow _ _ _ _ _ (s1.e_.take s.e_.length).length _
      rw[el];exact bX HCUT.out λk C=>JW _ _ _ _ (by have:=bA HCUT.out k C;show k≠cb;omega)
def gW(w:World)(x:List UInt8):∀j u,([.string (bs x)]:List Value)[j]?=some u->(w.alloc (.cells #[.string (bs x)] 9)).cell? ((⟨w.heap.size,0,none⟩:Addr).add j)=some u:=by
 intro j u a;match j,a with
 |0,a=>simp at a;subst a;simp[Addr.add,go_sem]
 |j+1,a=>simp at a
def iU(x:List UInt8):∀u∈([.string (bs x)]:List Value),u.oneCell'=true:=by
 intro u a;simp at a;subst a;rfl
def iL{i:World}{o:Obj}{h g j c:Value}{vs:List Value}(k:w.heap[cb]?=some (.cells #[h,g,f,d,j] 67 (0,0)))(a:w.ownsRow (cb+1) 9 1 c n vs)(l:(w.alloc o).grownBy i c.ownBlock):
 i.heap[cb]?=some (.cells #[h,g,f,d,j] 67 (0,0)):=by
 have b:=aD k;rw[l.block cb t_ (λe=>by have:=bA a cb e.symm;omega)]
 exact dO _ _ b _ k
def eK.add{t:List aC}{r:Value}{a:Bool}{j:World}{q:Value}{x:List UInt8}{o:Obj}{g b:Nat}(h:eK cb lo t r a w s)(f:w.heap[cb]?=some (.cells #[r,q,.bool a,.int .i64 s.kind,.int .i64 s.l_] 67 (0,0)))
 (d:w.ownsRow (cb+1) 9 1 q s.e_.length (dQ s.e_)) (c:j.ownsRow (cb+1) 9 1 (.slice (some ⟨g,0,none⟩) (s.e_.length+1) b) (s.e_.length+1) (dQ s.e_++[.string (bs x)])) (i:(w.alloc o).grownBy j q.ownBlock):
 Below cb w (j.setCell ⟨cb,1,none⟩ (.slice (some ⟨g,0,none⟩) (s.e_.length+1) b))/\eK cb lo t r a (j.setCell ⟨cb,1,none⟩ (.slice (some ⟨g,0,none⟩) (s.e_.length+1) b)) { s with e_:=s.e_++[x] }:=by
 have u:=aD f;have p:=iL f d i
 have m:Below cb w j:=⟨i.os.trans rfl,i.tape.trans rfl,i.output.trans rfl,KM s_ i.size,λk n=>by
  rw[i.block k t_ (λe=>by have:=bA d k e.symm;omega)]
  exact JZ _ _ _ o_⟩
 have l:Below cb w (j.setCell ⟨cb,1,none⟩ (.slice (some ⟨g,0,none⟩) (s.e_.length+1) b)):=m.setCell s_ _
 refine⟨l,⟨.slice (some ⟨g,0,none⟩) (s.e_.length+1) b,?_,?_⟩,h.y_.keep λk n=>l.block k n.2⟩
 ·rw[aO p];rfl
 ·have y:(s.e_++[x]).length=s.e_.length+1:=s_
  have v:dQ (s.e_++[x])=dQ s.e_++[.string (bs x)]:=by simp[dQ]
  show World.ownsRow _ _ _ _ _ (s.e_++[x]).length (dQ (s.e_++[x]))
  rw[y,v];exact bX c λk n=>JW _ _ _ _ (by have:=bA c k n;show k≠cb;omega)
def CI(cb lo:Nat)(y:List aC)(fv:Value)(c:Bool)(d:Nat)(IH:uP cb lo y fv c d)
 (v:Value) (a:aC) (s:aQ) (w:World) (h:eK cb lo y fv c w s) (ha:eJ (d+1) (Btw lo cb) w v a) (O:nF (d+1) a) (S:s.e_.length+aX (d+1) a<=90000) (C:a.op=[118,97,114]):
 Calls prog 55 #[.pointer (some ⟨cb,0,none⟩),v] w λe w'=>e=.returned (.tuple #[])/\Below cb w w'/\eK cb lo y fv c w' (aK y c (d+1) a s):=by
 obtain⟨d',b,kv,hd,rfl,hF,ac,n0,n1,n2,n3,T⟩:=ha.cells;obtain rfl:d=d':=o_
 have h2:2<=a.y_.length:=O.1 C
 obtain⟨t,u,r,f⟩:∃t u r,a.y_=t::u::r:=by
  match hn:a.y_ with
  |[]=>rw[hn] at h2;simp at h2
  |[_]=>rw[hn] at h2;simp at h2
  |t::u::r=>exact⟨t,u,r,rfl⟩
 have hS:aK y c (d+1) a s={ aK y c d u (Hs.declaresL s t) with e_:=(aK y c d u (Hs.declaresL s t)).e_++[t.x_] }:=by
  rw[aK,if_pos (by rw[C];rfl),f]
 have Z:nF d u:=O.2 u (by rw[f];simp)
 have ba:(Hs.declaresL s t).e_.length+aX d u<=80000+9999:=by
  rw[dK];rw[aX,f] at S;simp only[KC,KD] at S;omega
 have H:=cT y c d u (Hs.declaresL s t);rcases T.get with ⟨_,h0⟩|⟨g,ay,rfl,ag,W,V,z⟩
 ·rw[f] at h0;cases h0
 obtain⟨tv,ht,A⟩:=z 0 o_
 obtain⟨uv,hu,Q⟩:=z 1 o_
 have U:∀h,a.y_[0]'h=t:=λh=>by simp[f]
 have aj:∀h,a.y_[1]'h=u:=λh=>by simp[f]
 rw[U] at A;rw[aj] at Q;obtain⟨sv,G,K⟩:=h.blk;obtain⟨bn,c0,c1,c2,c3,c4,fz⟩:=dB G;obtain⟨sx,sc,rfl,bm,bb, -⟩:=fD K _ (JS _);have bo:s.e_.length<=90000:=o_
 have bj:(bs a.op).toList=[118,97,114]:=by rw[bM,C]
 have HD:=aA (fQ cb lo y fv c w s h o_ tv t d A)
 have HW:=aA (λB (hc:eK cb lo y fv c B (Hs.declaresL s t)) (hr:eJ d (Btw lo cb) B uv u)=>IH uv u (Hs.declaresL s t) B hc hr Z o_)
 have HS:=aA hS;have aq:=aA A;have Y:=aA Q;have HADD:=aA H;clear h ha T fz K hS z A Q U aj IH H O Z C;have bv:a.y_.length<=ay:=V;have bp:(0:Int)<(a.y_.length:Int):=o_
 have bu:(1:Int)<(a.y_.length:Int):=o_
 have bd:0<a.y_.length:=o_
 clear f S;go_enter func55,ntmps55;go_wp2_with fail;refine HD.out.mono ?_;rintro e B ⟨rfl,o,ak⟩;have D:B.heap[b]?=w.heap[b]?:=o.block b hF.2;have F:B.heap[g]?=w.heap[g]?:=o.block g ag.2;have m3:=(bV (i:=3) D).trans n3;have r1:=(bV (i:=1) F).trans hu;have bc:b<B.heap.size:=JY ac o.size;have bh:g<B.heap.size:=JY W o.size;have HC:=aA (HW.out B ak (Y.out.keep λk T=>o.block k T.2))
 have ax:=aA o;clear D F o ak HD HW Y c0 c1 c2 c3 c4;go_wp2_with fail;refine HC.out.mono ?_;rintro e l ⟨rfl,ab,N⟩;have j:=ax.out.trans ab;have ae:l.heap[b]?=w.heap[b]?:=j.block b hF.2;have ah:l.heap[g]?=w.heap[g]?:=j.block g ag.2;have p3:l.cell? ⟨b,3,none⟩=_:=(bV (i:=3) ae).trans n3;have p0:l.cell? ⟨g,0,none⟩=_:=(bV (i:=0) ah).trans ht;have J:b<l.heap.size:=JY ac j.size;have E:g<l.heap.size:=JY W j.size;obtain⟨dt,tb,bt, -,rfl,bl,ai,t0,t1,t2,t3, -⟩:=(aq.out.keep (w':=l) λk T=>j.block k T.2).cells
 obtain⟨bk,m,n⟩:=N.blk;obtain⟨L,c0,c1,c2,c3,c4,fz⟩:=dB (w:=l) m;obtain⟨am,ap,rfl,bi,an, -⟩:=fD n _ (JS _)
 have br:(aK y c d u (Hs.declaresL s t)).e_.length<=90000:=by
  obtain⟨x,h1,h2⟩:=HADD.out;rw[h1];simp;omega
 have f1:=fz 1;generalize aK y c d u (Hs.declaresL s t)=s2 at*;obtain⟨i0,hi,ao,az,aw⟩:=info_parts iW;have p:l.drew.heap[cb]?=_:=m;have aa:=aA p;have M:=aA (show l.drew.ownsRow _ _ _ _ _ _ from n)
 have au:=aA (N.keepw (w':=l.drew) rfl);have ad:=aA j;have al:cb<l.heap.size:=L;have ar:b<l.heap.size:=J;have av:g<l.heap.size:=E;have bg:tb<l.heap.size:=ai;clear L J E ai;clear m p n N j ab HC G fz;go_wp2_with fail;go_region_law (refine step_append_lies _ r_ _ _ 37 r_ (cb+1) 9 i0 _ 1 16 underlying37 hi ao az aw rfl d_ (.slice am s2.e_.length ap) s2.e_.length (dQ s2.e_) r_ (M.out.alloc _) ⟨l.heap.size,0,none⟩ 1 1 [.string (bs t.x_)] r_ r_ (gW l.drew _) (iU _) d_ (by unfold maxLen;omega) o_ t_ (l.heap.size+1) s_ ?_;intro g5 be w5 P q bf bw;have af:=iL aa.out M.out q;obtain⟨bq, -,q1, -, -, -,X⟩:=dB af;have e1:=X 1;clear X af)
 all_goals
  go_wp2_with fail;refine bodyPost_ret (results_none rfl _ _ _) rfl ?_;have I:=au.out.add aa.out M.out P q;exact⟨rfl,ad.out.trans ((JU _ l).drew.trans I.1),by rw[HS.out];exact I.2⟩
def fW(d:Nat):∀l:List aC,l.length<=(l.map (aX (d+1))).sum
 |[]=>by simp
 |x::l=>by
  have:=fW d l;have a:1<=aX (d+1) x:=by rw[aX];omega
  simp only[KV,KC,KD];omega
def eJ.kids_le{d:Nat}(h:eJ (d+1) F w v a):a.y_.length<=aX (d+1) a:=by
 obtain⟨j,b,m,l,_,_,_,_,_,_,_,f⟩:=h.cells;obtain rfl:d=j:=o_
 rw[aX];cases d with
 |zero=>
  rcases f.get with ⟨_,e⟩|⟨g,k,_,_,_,_,c⟩
  ·rw[e];simp
  ·by_cases e:0<a.y_.length
   ·obtain⟨v,_,i⟩:=c 0 e;exact i.elim
   ·omega
 |succ d=>
  have:=fW d a.y_;omega
def CJ(cb lo:Nat)(e:List aC)(k:Value)(b:Bool)(i:e.length<=90000)(j:∀f∈e,f.y_.length<=90000):∀d,uP cb lo e k b d:=by
 intro d;induction d with
 |zero=>intro v a s w _ h;exact h.elim
 |succ d o=>
  intro v a s w m g n l;cases c:(a.op==[118,97,114])
  ·exact AD cb lo e k b i j d o v a s w m g n l (by have:=g.kids_le;omega) c
  ·exact CI cb lo e k b d o v a s w m g n l (by simpa using c)
def iT(a:List aC)(d:Nat)(s:aQ)(k:aC):Adds s (bB a d s k) (aX d k+1):=by
 unfold bB;split
 ·exact⟨[k.x_],by simp[dK],s_⟩
 ·exact(cT a false d k s).le o_
def jR(f:aC->Nat):∀l:List aC,(l.map λk=>f k+1).sum=(l.map f).sum+l.length
 |[]=>rfl
 |x::l=>by
  have:=jR f l;simp only[KC,KD,KV];omega
def eK.bare{a:Bool}(h:eK cb lo c d a w s):eK cb lo c d a (w.setCell ⟨cb,1,none⟩ (.slice none 0 0)) { s with e_:=[] }:=by
 obtain⟨f,b,_⟩:=h.blk;exact⟨⟨.slice none 0 0,by rw[aO b];rfl,World.ownsRow_nil _ _ _ _⟩,h.y_.keep λk e=>JW _ _ _ _ (by have:=e.2;show k≠cb;omega)⟩
def EJ(cb lo:Nat)(r:List aC)(fv:Value)(cd:r.length<=90000)(cc:∀f∈r,f.y_.length<=90000)(d:Nat)
 (v:Value) (a:aC) (s:aQ) (w:World) (first:Bool) (h:eK cb lo r fv false w s) (ha:eJ (d+1) (Btw lo cb) w v a) (ca:nF (d+1) a) (bl:aX (d+1) a<=40000):
 Calls prog 27 #[.pointer (some ⟨cb,0,none⟩),v,.bool first] w λe w'=>e=.returned (.tuple #[])/\Below cb w w'/\eK cb lo r fv false w' (dU r d s a first):=by
 have ce:a.y_.length<=40000:=by have:=ha.kids_le;omega
 have IH:uP cb lo r fv false d:=CJ cb lo r fv false cd cc d;obtain⟨d',b,kv,hd,rfl,hF,bj,n0,n1,n2,n3,hk⟩:=ha.cells;obtain rfl:d=d':=o_
 obtain⟨kx,kc,rfl⟩:=hk.slice;have z:cb<w.heap.size:=by obtain⟨_,h1,_⟩:=h.blk;exact aD h1
 have HG:=aA (sU a.x_ w);have HF:=aA (kH cb lo r fv false w s a.l_ 6 h);have HS:Hid (dU r d s a first=a.y_.foldl (bB r d) { (if cZ a.x_ || !first then s.found a.l_ 6 else s) with e_:=[] }):=rfl
 have H:=aA h;have HK:=aA hk;have bi:=aA IH;have bk:=aA ca;clear h ha hk IH ca cc;generalize S:cZ a.x_=gb at*;clear S;generalize ag:(if (gb || !first)=true then s.found a.l_ 6 else s)=s0 at*
 go_enter func27,ntmps27;go_wp2_with fail;refine HG.out.mono ?_;rintro e w1 ⟨rfl,hw⟩;obtain rfl:=hw.symm;cases gb<;>cases first
 ·go_wp2_with fail;refine HF.out.mono ?_;rintro e wc ⟨rfl,T,af⟩;have Q:eK cb lo r fv false wc s0:=by rw[<-ag];exact af
  clear af;have ai:=aA T;have ap:=aA (eK.bare Q);obtain⟨bw,A, -⟩:=Q.blk;obtain⟨bg, -,y1, -, -, -,Z⟩:=dB A;have bp:=Z 1;clear T Q H HG HF Z A ag;go_wp2_with fail;go_loopg [7,8] a.y_.length (λgk i q wr=>∃k:Nat,k+gk=a.y_.length/\i=.int .i64 k/\Below cb w wr/\eK cb lo r fv false wr ((a.y_.take k).foldl (bB r d) { s0 with e_:=[] }))
  case atStart=>exact⟨0,o_,rfl,ai.out.setCell s_ _,ap.out⟩
  case round=>
   obtain⟨k,bm,rfl,l,p⟩:=hrel;have V:wr.heap[b]?=w.heap[b]?:=l.block b hF.2;have q3:wr.cell? ⟨b,3,none⟩=some (.slice kx a.y_.length kc):=(bV V).trans n3;have az:b<wr.heap.size:=JY bj l.size;clear V n0 n1 n2 n3;by_cases z:k<a.y_.length
   ·obtain⟨j,rfl⟩:∃j,gk=j+1:=⟨gk-1,o_⟩
    rcases HK.out.get with ⟨_,h0⟩|⟨g,bv,ao,au,aj,ba,G⟩
    ·rw[h0] at z;simp at z
    obtain⟨u,hu,ae⟩:=G k z;cases ao;have S:wr.heap[g]?=w.heap[g]?:=l.block g au.2;have r0:wr.cell? ⟨g,k,none⟩=some u:=(bV S).trans hu;have bx:g<wr.heap.size:=JY aj l.size;have c:=ae.keep (w':=wr) λk hk=>l.block k hk.2
    obtain⟨m,W,bt,rfl,rfl,aq,av,u0,u1,u2,u3, -⟩:=c.cells
    have B:(a.y_.take (k+1)).foldl (bB r (m+1)) { s0 with e_:=[] }=bB r (m+1) ((a.y_.take k).foldl (bB r (m+1)) { s0 with e_:=[] }) a.y_[k]:=by
     rw[KA z,LI];rfl
    have ac:((a.y_.take k).map (aX (m+1))).sum+aX (m+1) a.y_[k]<=(a.y_.map (aX (m+1))).sum:=by
     have e:a.y_=a.y_.take k++a.y_[k]::a.y_.drop (k+1):=by rw[KL,KU]
     have e2:(a.y_.map (aX (m+1))).sum=((a.y_.take k++a.y_[k]::a.y_.drop (k+1)).map (aX (m+1))).sum:=by rw[<-e]
     rw[e2,LE,LF,KC,KD];omega
    have J:=Adds.fold (f:=bB r (m+1)) (g:=λk=>aX (m+1) k+1) (λs k=>iT r (m+1) s k) (a.y_.take k) { s0 with e_:=[] }
    have bb:((a.y_.take k).foldl (bB r (m+1)) { s0 with e_:=[] }).e_.length+aX (m+1) a.y_[k]<=80000:=by
     obtain⟨t,h1,h2⟩:=J;rw[h1];rw[jR,KH] at h2;rw[aX] at bl;simp;omega
    have X:=aA B;have E:=aA l;have M:=bk.out.2 _ (KG z);clear B ac J G hu S ae l;generalize ((a.y_.take k).foldl (bB r (m+1)) { s0 with e_:=[] })=F at*
    generalize a.y_[k]=q at*;have bo:(bs q.op).toList=q.op:=bM _;have HP:Hid (bB r (m+1) F q=if q.op==[112,97,114,97,109] then { Hs.declaresL F q with e_:=(Hs.declaresL F q).e_++[q.x_] } else aK r false (m+1) q F):=rfl
    cases I:(q.op==[112,97,114,97,109])
    ·rw[I] at HP;have HC:=aA (bi.out _ q F wr p c M o_)
     clear p c M;go_wp2_with fail;refine HC.out.mono ?_;rintro e w1 ⟨rfl,ax,ay⟩;go_wp2_with fail;go_roundg j
     case measure=>omega
     case rel=>exact⟨k+1,o_,by go_num,E.out.trans ax,by rw[X.out,HP.out];exact ay⟩
    ·rw[I] at HP;have HC:=aA (fQ cb lo r fv false wr F p o_ _ q _ c)
     have bq:=aA c;clear p c M;go_wp2_with fail;refine HC.out.mono ?_;rintro e C ⟨rfl,D,O⟩;have L:C.heap[W]?=wr.heap[W]?:=D.block W aq.2;have x2:C.cell? ⟨W,2,none⟩=_:=(bV (i:=2) L).trans u2;have be:W<C.heap.size:=JY av D.size;obtain⟨bn,n,o⟩:=O.blk;obtain⟨bf,c0,c1,c2,c3,c4,Z⟩:=dB (w:=C) n;obtain⟨ak,an,rfl,bh,al, -⟩:=fD o _ (JS _);have bu:(Hs.declaresL F q).e_.length<=90000:=by rw[dK];omega
     have f1:=Z 1;obtain⟨i0,hi,am,aw,ar⟩:=info_parts iW;have x:C.drew.heap[cb]?=_:=n;have aa:=aA x;have N:=aA (show C.drew.ownsRow _ _ _ _ _ _ from o)
     have U:=aA (O.keepw (w':=C.drew) rfl);have ab:=aA (E.out.trans D);clear n x o O D HC Z L u0 u1 u2 u3 q3 r0;generalize Hs.declaresL F q=s2 at*;go_wp2_with fail;go_region_law (refine step_append_lies _ r_ _ _ 37 r_ (cb+1) 9 i0 _ 1 16 underlying37 hi am aw ar rfl d_ (.slice ak s2.e_.length an) s2.e_.length (dQ s2.e_) r_ (N.out.alloc _) ⟨C.heap.size,0,none⟩ 1 1 [.string (bs q.x_)] r_ r_ (gW C.drew _) (iU _) d_ (by unfold maxLen;omega) o_ t_ (C.heap.size+1) s_ ?_;intro g5 bc w5 P y bd bz;have ad:=iL aa.out N.out y;obtain⟨br, -,q1, -, -, -,Y⟩:=dB ad;have e1:=Y 1;clear Y ad)
     all_goals
      go_wp2_with fail;go_roundg j
      case measure=>omega
      case rel=>
       have K:=U.out.add aa.out N.out P y;exact⟨k+1,o_,by go_num,ab.out.trans ((JU _ C).drew.trans K.1),by rw[X.out,HP.out];exact K.2⟩
   ·obtain rfl:k=a.y_.length:=o_
    rw[LH] at p;have E:=aA l;have ah:=aA p;clear l p;go_wp2_with fail;go_end0;exact⟨rfl,E.out,by rw[HS.out];exact ah.out⟩
 ·have T:Below cb w w:=JU _ _;have Q:eK cb lo r fv false w s0:=by rw[<-ag];exact H.out
  have ai:=aA T;have ap:=aA (eK.bare Q);obtain⟨bw,A, -⟩:=Q.blk;obtain⟨bg, -,y1, -, -, -,Z⟩:=dB A;have bp:=Z 1;clear T Q H HG HF Z A ag;go_wp2_with fail;go_loopg [7,8] a.y_.length (λgk i q wr=>∃k:Nat,k+gk=a.y_.length/\i=.int .i64 k/\Below cb w wr/\eK cb lo r fv false wr ((a.y_.take k).foldl (bB r d) { s0 with e_:=[] }))
  case atStart=>exact⟨0,o_,rfl,ai.out.setCell s_ _,ap.out⟩
  case round=>
   obtain⟨k,bm,rfl,l,p⟩:=hrel;have V:wr.heap[b]?=w.heap[b]?:=l.block b hF.2;have q3:wr.cell? ⟨b,3,none⟩=some (.slice kx a.y_.length kc):=(bV V).trans n3;have az:b<wr.heap.size:=JY bj l.size;clear V n0 n1 n2 n3;by_cases z:k<a.y_.length
   ·obtain⟨j,rfl⟩:∃j,gk=j+1:=⟨gk-1,o_⟩
    rcases HK.out.get with ⟨_,h0⟩|⟨g,bv,ao,au,aj,ba,G⟩
    ·rw[h0] at z;simp at z
    obtain⟨u,hu,ae⟩:=G k z;cases ao;have S:wr.heap[g]?=w.heap[g]?:=l.block g au.2;have r0:wr.cell? ⟨g,k,none⟩=some u:=(bV S).trans hu;have bx:g<wr.heap.size:=JY aj l.size;have c:=ae.keep (w':=wr) λk hk=>l.block k hk.2
    obtain⟨m,W,bt,rfl,rfl,aq,av,u0,u1,u2,u3, -⟩:=c.cells
    have B:(a.y_.take (k+1)).foldl (bB r (m+1)) { s0 with e_:=[] }=bB r (m+1) ((a.y_.take k).foldl (bB r (m+1)) { s0 with e_:=[] }) a.y_[k]:=by
     rw[KA z,LI];rfl
    have ac:((a.y_.take k).map (aX (m+1))).sum+aX (m+1) a.y_[k]<=(a.y_.map (aX (m+1))).sum:=by
     have e:a.y_=a.y_.take k++a.y_[k]::a.y_.drop (k+1):=by rw[KL,KU]
     have e2:(a.y_.map (aX (m+1))).sum=((a.y_.take k++a.y_[k]::a.y_.drop (k+1)).map (aX (m+1))).sum:=by rw[<-e]
     rw[e2,LE,LF,KC,KD];omega
    have J:=Adds.fold (f:=bB r (m+1)) (g:=λk=>aX (m+1) k+1) (λs k=>iT r (m+1) s k) (a.y_.take k) { s0 with e_:=[] }
    have bb:((a.y_.take k).foldl (bB r (m+1)) { s0 with e_:=[] }).e_.length+aX (m+1) a.y_[k]<=80000:=by
     obtain⟨t,h1,h2⟩:=J;rw[h1];rw[jR,KH] at h2;rw[aX] at bl;simp;omega
    have X:=aA B;have E:=aA l;have M:=bk.out.2 _ (KG z);clear B ac J G hu S ae l;generalize ((a.y_.take k).foldl (bB r (m+1)) { s0 with e_:=[] })=F at*
    generalize a.y_[k]=q at*;have bo:(bs q.op).toList=q.op:=bM _;have HP:Hid (bB r (m+1) F q=if q.op==[112,97,114,97,109] then { Hs.declaresL F q with e_:=(Hs.declaresL F q).e_++[q.x_] } else aK r false (m+1) q F):=rfl
    cases I:(q.op==[112,97,114,97,109])
    ·rw[I] at HP;have HC:=aA (bi.out _ q F wr p c M o_)
     clear p c M;go_wp2_with fail;refine HC.out.mono ?_;rintro e w1 ⟨rfl,ax,ay⟩;go_wp2_with fail;go_roundg j
     case measure=>omega
     case rel=>exact⟨k+1,o_,by go_num,E.out.trans ax,by rw[X.out,HP.out];exact ay⟩
    ·rw[I] at HP;have HC:=aA (fQ cb lo r fv false wr F p o_ _ q _ c)
     have bq:=aA c;clear p c M;go_wp2_with fail;refine HC.out.mono ?_;rintro e C ⟨rfl,D,O⟩;have L:C.heap[W]?=wr.heap[W]?:=D.block W aq.2;have x2:C.cell? ⟨W,2,none⟩=_:=(bV (i:=2) L).trans u2;have be:W<C.heap.size:=JY av D.size;obtain⟨bn,n,o⟩:=O.blk;obtain⟨bf,c0,c1,c2,c3,c4,Z⟩:=dB (w:=C) n;obtain⟨ak,an,rfl,bh,al, -⟩:=fD o _ (JS _);have bu:(Hs.declaresL F q).e_.length<=90000:=by rw[dK];omega
     have f1:=Z 1;obtain⟨i0,hi,am,aw,ar⟩:=info_parts iW;have x:C.drew.heap[cb]?=_:=n;have aa:=aA x;have N:=aA (show C.drew.ownsRow _ _ _ _ _ _ from o)
     have U:=aA (O.keepw (w':=C.drew) rfl);have ab:=aA (E.out.trans D);clear n x o O D HC Z L u0 u1 u2 u3 q3 r0;generalize Hs.declaresL F q=s2 at*;go_wp2_with fail;go_region_law (refine step_append_lies _ r_ _ _ 37 r_ (cb+1) 9 i0 _ 1 16 underlying37 hi am aw ar rfl d_ (.slice ak s2.e_.length an) s2.e_.length (dQ s2.e_) r_ (N.out.alloc _) ⟨C.heap.size,0,none⟩ 1 1 [.string (bs q.x_)] r_ r_ (gW C.drew _) (iU _) d_ (by unfold maxLen;omega) o_ t_ (C.heap.size+1) s_ ?_;intro g5 bc w5 P y bd bz;have ad:=iL aa.out N.out y;obtain⟨br, -,q1, -, -, -,Y⟩:=dB ad;have e1:=Y 1;clear Y ad)
     all_goals
      go_wp2_with fail;go_roundg j
      case measure=>omega
      case rel=>
       have K:=U.out.add aa.out N.out P y;exact⟨k+1,o_,by go_num,ab.out.trans ((JU _ C).drew.trans K.1),by rw[X.out,HP.out];exact K.2⟩
   ·obtain rfl:k=a.y_.length:=o_
    rw[LH] at p;have E:=aA l;have ah:=aA p;clear l p;go_wp2_with fail;go_end0;exact⟨rfl,E.out,by rw[HS.out];exact ah.out⟩
 ·go_wp2_with fail;refine HF.out.mono ?_;rintro e wc ⟨rfl,T,af⟩;have Q:eK cb lo r fv false wc s0:=by rw[<-ag];exact af
  clear af;have ai:=aA T;have ap:=aA (eK.bare Q);obtain⟨bw,A, -⟩:=Q.blk;obtain⟨bg, -,y1, -, -, -,Z⟩:=dB A;have bp:=Z 1;clear T Q H HG HF Z A ag;go_wp2_with fail;go_loopg [7,8] a.y_.length (λgk i q wr=>∃k:Nat,k+gk=a.y_.length/\i=.int .i64 k/\Below cb w wr/\eK cb lo r fv false wr ((a.y_.take k).foldl (bB r d) { s0 with e_:=[] }))
  case atStart=>exact⟨0,o_,rfl,ai.out.setCell s_ _,ap.out⟩
  case round=>
   obtain⟨k,bm,rfl,l,p⟩:=hrel;have V:wr.heap[b]?=w.heap[b]?:=l.block b hF.2;have q3:wr.cell? ⟨b,3,none⟩=some (.slice kx a.y_.length kc):=(bV V).trans n3;have az:b<wr.heap.size:=JY bj l.size;clear V n0 n1 n2 n3;by_cases z:k<a.y_.length
   ·obtain⟨j,rfl⟩:∃j,gk=j+1:=⟨gk-1,o_⟩
    rcases HK.out.get with ⟨_,h0⟩|⟨g,bv,ao,au,aj,ba,G⟩
    ·rw[h0] at z;simp at z
    obtain⟨u,hu,ae⟩:=G k z;cases ao;have S:wr.heap[g]?=w.heap[g]?:=l.block g au.2;have r0:wr.cell? ⟨g,k,none⟩=some u:=(bV S).trans hu;have bx:g<wr.heap.size:=JY aj l.size;have c:=ae.keep (w':=wr) λk hk=>l.block k hk.2
    obtain⟨m,W,bt,rfl,rfl,aq,av,u0,u1,u2,u3, -⟩:=c.cells
    have B:(a.y_.take (k+1)).foldl (bB r (m+1)) { s0 with e_:=[] }=bB r (m+1) ((a.y_.take k).foldl (bB r (m+1)) { s0 with e_:=[] }) a.y_[k]:=by
     rw[KA z,LI];rfl
    have ac:((a.y_.take k).map (aX (m+1))).sum+aX (m+1) a.y_[k]<=(a.y_.map (aX (m+1))).sum:=by
     have e:a.y_=a.y_.take k++a.y_[k]::a.y_.drop (k+1):=by rw[KL,KU]
     have e2:(a.y_.map (aX (m+1))).sum=((a.y_.take k++a.y_[k]::a.y_.drop (k+1)).map (aX (m+1))).sum:=by rw[<-e]
     rw[e2,LE,LF,KC,KD];omega
    have J:=Adds.fold (f:=bB r (m+1)) (g:=λk=>aX (m+1) k+1) (λs k=>iT r (m+1) s k) (a.y_.take k) { s0 with e_:=[] }
    have bb:((a.y_.take k).foldl (bB r (m+1)) { s0 with e_:=[] }).e_.length+aX (m+1) a.y_[k]<=80000:=by
     obtain⟨t,h1,h2⟩:=J;rw[h1];rw[jR,KH] at h2;rw[aX] at bl;simp;omega
    have X:=aA B;have E:=aA l;have M:=bk.out.2 _ (KG z);clear B ac J G hu S ae l;generalize ((a.y_.take k).foldl (bB r (m+1)) { s0 with e_:=[] })=F at*
    generalize a.y_[k]=q at*;have bo:(bs q.op).toList=q.op:=bM _;have HP:Hid (bB r (m+1) F q=if q.op==[112,97,114,97,109] then { Hs.declaresL F q with e_:=(Hs.declaresL F q).e_++[q.x_] } else aK r false (m+1) q F):=rfl
    cases I:(q.op==[112,97,114,97,109])
    ·rw[I] at HP;have HC:=aA (bi.out _ q F wr p c M o_)
     clear p c M;go_wp2_with fail;refine HC.out.mono ?_;rintro e w1 ⟨rfl,ax,ay⟩;go_wp2_with fail;go_roundg j
     case measure=>omega
     case rel=>exact⟨k+1,o_,by go_num,E.out.trans ax,by rw[X.out,HP.out];exact ay⟩
    ·rw[I] at HP;have HC:=aA (fQ cb lo r fv false wr F p o_ _ q _ c)
     have bq:=aA c;clear p c M;go_wp2_with fail;refine HC.out.mono ?_;rintro e C ⟨rfl,D,O⟩;have L:C.heap[W]?=wr.heap[W]?:=D.block W aq.2;have x2:C.cell? ⟨W,2,none⟩=_:=(bV (i:=2) L).trans u2;have be:W<C.heap.size:=JY av D.size;obtain⟨bn,n,o⟩:=O.blk;obtain⟨bf,c0,c1,c2,c3,c4,Z⟩:=dB (w:=C) n;obtain⟨ak,an,rfl,bh,al, -⟩:=fD o _ (JS _);have bu:(Hs.declaresL F q).e_.length<=90000:=by rw[dK];omega
     have f1:=Z 1;obtain⟨i0,hi,am,aw,ar⟩:=info_parts iW;have x:C.drew.heap[cb]?=_:=n;have aa:=aA x;have N:=aA (show C.drew.ownsRow _ _ _ _ _ _ from o)
     have U:=aA (O.keepw (w':=C.drew) rfl);have ab:=aA (E.out.trans D);clear n x o O D HC Z L u0 u1 u2 u3 q3 r0;generalize Hs.declaresL F q=s2 at*;go_wp2_with fail;go_region_law (refine step_append_lies _ r_ _ _ 37 r_ (cb+1) 9 i0 _ 1 16 underlying37 hi am aw ar rfl d_ (.slice ak s2.e_.length an) s2.e_.length (dQ s2.e_) r_ (N.out.alloc _) ⟨C.heap.size,0,none⟩ 1 1 [.string (bs q.x_)] r_ r_ (gW C.drew _) (iU _) d_ (by unfold maxLen;omega) o_ t_ (C.heap.size+1) s_ ?_;intro g5 bc w5 P y bd bz;have ad:=iL aa.out N.out y;obtain⟨br, -,q1, -, -, -,Y⟩:=dB ad;have e1:=Y 1;clear Y ad)
     all_goals
      go_wp2_with fail;go_roundg j
      case measure=>omega
      case rel=>
       have K:=U.out.add aa.out N.out P y;exact⟨k+1,o_,by go_num,ab.out.trans ((JU _ C).drew.trans K.1),by rw[X.out,HP.out];exact K.2⟩
   ·obtain rfl:k=a.y_.length:=o_
    rw[LH] at p;have E:=aA l;have ah:=aA p;clear l p;go_wp2_with fail;go_end0;exact⟨rfl,E.out,by rw[HS.out];exact ah.out⟩
 ·go_wp2_with fail;refine HF.out.mono ?_;rintro e wc ⟨rfl,T,af⟩;have Q:eK cb lo r fv false wc s0:=by rw[<-ag];exact af
  clear af;have ai:=aA T;have ap:=aA (eK.bare Q);obtain⟨bw,A, -⟩:=Q.blk;obtain⟨bg, -,y1, -, -, -,Z⟩:=dB A;have bp:=Z 1;clear T Q H HG HF Z A ag;go_wp2_with fail;go_loopg [7,8] a.y_.length (λgk i q wr=>∃k:Nat,k+gk=a.y_.length/\i=.int .i64 k/\Below cb w wr/\eK cb lo r fv false wr ((a.y_.take k).foldl (bB r d) { s0 with e_:=[] }))
  case atStart=>exact⟨0,o_,rfl,ai.out.setCell s_ _,ap.out⟩
  case round=>
   obtain⟨k,bm,rfl,l,p⟩:=hrel;have V:wr.heap[b]?=w.heap[b]?:=l.block b hF.2;have q3:wr.cell? ⟨b,3,none⟩=some (.slice kx a.y_.length kc):=(bV V).trans n3;have az:b<wr.heap.size:=JY bj l.size;clear V n0 n1 n2 n3;by_cases z:k<a.y_.length
   ·obtain⟨j,rfl⟩:∃j,gk=j+1:=⟨gk-1,o_⟩
    rcases HK.out.get with ⟨_,h0⟩|⟨g,bv,ao,au,aj,ba,G⟩
    ·rw[h0] at z;simp at z
    obtain⟨u,hu,ae⟩:=G k z;cases ao;have S:wr.heap[g]?=w.heap[g]?:=l.block g au.2;have r0:wr.cell? ⟨g,k,none⟩=some u:=(bV S).trans hu;have bx:g<wr.heap.size:=JY aj l.size;have c:=ae.keep (w':=wr) λk hk=>l.block k hk.2
    obtain⟨m,W,bt,rfl,rfl,aq,av,u0,u1,u2,u3, -⟩:=c.cells
    have B:(a.y_.take (k+1)).foldl (bB r (m+1)) { s0 with e_:=[] }=bB r (m+1) ((a.y_.take k).foldl (bB r (m+1)) { s0 with e_:=[] }) a.y_[k]:=by
     rw[KA z,LI];rfl
    have ac:((a.y_.take k).map (aX (m+1))).sum+aX (m+1) a.y_[k]<=(a.y_.map (aX (m+1))).sum:=by
     have e:a.y_=a.y_.take k++a.y_[k]::a.y_.drop (k+1):=by rw[KL,KU]
     have e2:(a.y_.map (aX (m+1))).sum=((a.y_.take k++a.y_[k]::a.y_.drop (k+1)).map (aX (m+1))).sum:=by rw[<-e]
     rw[e2,LE,LF,KC,KD];omega
    have J:=Adds.fold (f:=bB r (m+1)) (g:=λk=>aX (m+1) k+1) (λs k=>iT r (m+1) s k) (a.y_.take k) { s0 with e_:=[] }
    have bb:((a.y_.take k).foldl (bB r (m+1)) { s0 with e_:=[] }).e_.length+aX (m+1) a.y_[k]<=80000:=by
     obtain⟨t,h1,h2⟩:=J;rw[h1];rw[jR,KH] at h2;rw[aX] at bl;simp;omega
    have X:=aA B;have E:=aA l;have M:=bk.out.2 _ (KG z);clear B ac J G hu S ae l;generalize ((a.y_.take k).foldl (bB r (m+1)) { s0 with e_:=[] })=F at*
    generalize a.y_[k]=q at*;have bo:(bs q.op).toList=q.op:=bM _;have HP:Hid (bB r (m+1) F q=if q.op==[112,97,114,97,109] then { Hs.declaresL F q with e_:=(Hs.declaresL F q).e_++[q.x_] } else aK r false (m+1) q F):=rfl
    cases I:(q.op==[112,97,114,97,109])
    ·rw[I] at HP;have HC:=aA (bi.out _ q F wr p c M o_)
     clear p c M;go_wp2_with fail;refine HC.out.mono ?_;rintro e w1 ⟨rfl,ax,ay⟩;go_wp2_with fail;go_roundg j
     case measure=>omega
     case rel=>exact⟨k+1,o_,by go_num,E.out.trans ax,by rw[X.out,HP.out];exact ay⟩
    ·rw[I] at HP;have HC:=aA (fQ cb lo r fv false wr F p o_ _ q _ c)
     have bq:=aA c;clear p c M;go_wp2_with fail;refine HC.out.mono ?_;rintro e C ⟨rfl,D,O⟩;have L:C.heap[W]?=wr.heap[W]?:=D.block W aq.2;have x2:C.cell? ⟨W,2,none⟩=_:=(bV (i:=2) L).trans u2;have be:W<C.heap.size:=JY av D.size;obtain⟨bn,n,o⟩:=O.blk;obtain⟨bf,c0,c1,c2,c3,c4,Z⟩:=dB (w:=C) n;obtain⟨ak,an,rfl,bh,al, -⟩:=fD o _ (JS _);have bu:(Hs.declaresL F q).e_.length<=90000:=by rw[dK];omega
     have f1:=Z 1;obtain⟨i0,hi,am,aw,ar⟩:=info_parts iW;have x:C.drew.heap[cb]?=_:=n;have aa:=aA x;have N:=aA (show C.drew.ownsRow _ _ _ _ _ _ from o)
     have U:=aA (O.keepw (w':=C.drew) rfl);have ab:=aA (E.out.trans D);clear n x o O D HC Z L u0 u1 u2 u3 q3 r0;generalize Hs.declaresL F q=s2 at*;go_wp2_with fail;go_region_law (refine step_append_lies _ r_ _ _ 37 r_ (cb+1) 9 i0 _ 1 16 underlying37 hi am aw ar rfl d_ (.slice ak s2.e_.length an) s2.e_.length (dQ s2.e_) r_ (N.out.alloc _) ⟨C.heap.size,0,none⟩ 1 1 [.string (bs q.x_)] r_ r_ (gW C.drew _) (iU _) d_ (by unfold maxLen;omega) o_ t_ (C.heap.size+1) s_ ?_;intro g5 bc w5 P y bd bz;have ad:=iL aa.out N.out y;obtain⟨br, -,q1, -, -, -,Y⟩:=dB ad;have e1:=Y 1;clear Y ad)
     all_goals
      go_wp2_with fail;go_roundg j
      case measure=>omega
      case rel=>
       have K:=U.out.add aa.out N.out P y;exact⟨k+1,o_,by go_num,ab.out.trans ((JU _ C).drew.trans K.1),by rw[X.out,HP.out];exact K.2⟩
   ·obtain rfl:k=a.y_.length:=o_
    rw[LH] at p;have E:=aA l;have ah:=aA p;clear l p;go_wp2_with fail;go_end0;exact⟨rfl,E.out,by rw[HS.out];exact ah.out⟩
def eJ.dp:∀{d:Nat} {v:Value} {a:aC},eJ d F w v a->dD d a
 |0,_,_,h=>h.elim
 |d+1,v,a,h=>λk l=>by
  obtain⟨n,b,q,p,_,_,_,_,_,_,_,e⟩:=h.cells;obtain rfl:d=n:=o_
  obtain⟨i,f,rfl⟩:=List.mem_iff_getElem.1 l;rcases e.get with ⟨_,j⟩|⟨g,m,_,_,_,_,c⟩
  ·rw[j] at f;simp at f
  ·obtain⟨v,_,o⟩:=c i f;exact o.dp
def xO(b:List aC)(d e:Nat)(s:aQ)(k:aC)(h:dD d k)(c:dD e k):bB b d s k=bB b e s k:=by
 unfold bB;split
 ·rfl
 ·rcases Nat.le_total d e with a|a
  ·exact fY b false d e k s h a
  ·exact(fY b false e d k s c a).symm
def yY(a:List aC)(d e:Nat)(s:aQ)(n:aC)(first:Bool)(h:dD (d+1) n)(f:dD (e+1) n):dU a d s n first=dU a e s n first:=by
 unfold dU;exact gE n.y_ _ λk c b=>xO a d e b k (h k c) (f k c)
def tC(b:List aC)(d:Nat):∀(l a:List aC) (n:aC) (s:aQ),cD b d a (l++[n]) s=dU b d (cD b d a l s) n (bN (a++l) n.x_).isNone
 |[],a,n,s=>by simp[cD]
 |x::l,a,n,s=>by
  rw[List.cons_append,cD,cD,tC b d l];simp
def gA(w:World)(s:List UInt8)(e:Ending)(w':World):Prop:=
 Below w.heap.size w w'/\
 if (bL s).1=0 then ∃b ks,e=.returned (.tuple #[.pointer (some ⟨b,0,none⟩),.agg #[.int .i64 0,.int .i64 0]])/\cU s=.ok ks/\Rep (Btw w.heap.size w'.heap.size) w' (.pointer (some ⟨b,0,none⟩)) (aH [112,114,111,103,114,97,109] 0 [] ks)
 else e=.returned (.tuple #[.pointer none,.agg #[.int .i64 (bL s).1,.int .i64 (bL s).2]])
def vN{l:List UInt8}{k:Nat}(h:cU l=.error (k,n)):k≠0/\k<=4:=by
 unfold cU at h;split at h
 ·cases h;decide
 split at h
 ·cases h;decide
 split at h
 ·cases h;decide
 split at h
 ·cases h;decide
 ·cases h
def tD(b:List aC)(d e:Nat):∀(l a:List aC) (s:aQ),(∀n∈l,dD (d+1) n/\dD (e+1) n)->cD b d a l s=cD b e a l s
 |[],_,_,_=>rfl
 |n::l,a,s,h=>by
  have c:=h n (KW ..);rw[cD,cD,yY b d e s n _ c.1 c.2];exact tD b d e l _ _ λx f=>h x (LN _ f)
def FineL.mem{l:List aC}(h:Hs.FineL m l){f:aC}(a:f∈l):Hs.FineA m f:=λd=>⟨KM (lB a) (h d).1,(h d).2 f a⟩
def FineL.len{l:List aC}(h:Hs.FineL m l):l.length<=m:=KM (fW 0 l) (h 1).1
def FineA.len(h:Hs.FineA m a):a.y_.length<=m:=by
 have c:1+(a.y_.map (aX (0+1))).sum<=m:=(h 2).1;have b:=fW 0 a.y_;omega
def CW(s:ByteArray)(w:World)(g:cS w)(q:s.size<=maxLen)(k n:Nat)(b:cU s.data.toList=.error (k,n)):
 Calls prog 8 #[.string s] w (gA w s.data.toList):=by
 have i:bL s.data.toList=(k,n):=by unfold bL;rw[b]
 have c:=(vN b).1;have f:=aA (λo=>qG s (w.alloc o) (g.alloc o) q)
 rw[b] at f;have l:((k:Int) != 0)=true:=t_
 have m:=aA i;clear i b g;go_enter func8,ntmps8;go_wp2_with fail;refine(f.out _).mono ?_;rintro e j ⟨a,r⟩;obtain rfl:e=.returned (.tuple #[.pointer none,.agg #[.int .i64 k,.int .i64 n]]):=r;obtain⟨t,u⟩:=bcell a;have p:w.heap.size<j.heap.size:=by have:=a.size;simp at this;omega
 have d:=aA a;clear a f;go_wp2_with fail;go_region
 go_wp2_with fail;refine bodyPost_ret (v:=.tuple #[.pointer none,.agg #[.int .i64 k,.int .i64 n]]) (by simp[results,results8,go_sem,World.cell?_alloc_past,p,t]) rfl ?_
 unfold gA;rw[m.out];refine⟨?_,by rw[if_neg c]⟩
 exact(((((JU _ _).alloc (JS _) _).trans (d.out.mono s_)).setCell s_ _).setCell s_ _ |>.alloc t_ _).drew
def Kid.keep2{G:Nat->Prop}{d:Nat}(h:kB (eJ d F w) F w kv ks)(e:∀b,F b->w'.heap[b]?=w.heap[b]?)(f:∀b,F b->G b):kB (eJ d G w') G w' kv ks:=by
 rcases h with h|⟨g,a,c,k,j,i,l,o,m,n⟩
 ·exact JX h
 ·exact JR ⟨g,a,c,k,j,f _ i,by rw[e g i];exact l,o,m,n.mono λ_ _ h=>(h.keep e).mono f (JS _)⟩
def FX(s:ByteArray)(w:World)(hg:cS w)(hm:s.size<=maxLen)(ks:List aC)(hp:cU s.data.toList=.ok ks):
 Calls prog 8 #[.string s] w (gA w s.data.toList):=by
 have a:=lT hp;have hr:bL s.data.toList=eR 2001 ks:=by unfold bL;rw[hp]
 have HP:=aA (λo=>qG s (w.alloc o) (hg.alloc o) hm)
 rw[hp] at HP;have ch:ks.length<=2001:=FineL.len a;have O:=aA a;have HR:=aA hr;have be:=aA hp;clear hr hp hg a;go_enter func8,ntmps8;go_wp2_with fail;refine(HP.out _).mono ?_;rintro e y ⟨P,b,he,ak⟩;subst he;obtain⟨hc,hf⟩:=bcell P;have hz:w.heap.size<y.heap.size:=by have:=P.size;simp at this;omega
 obtain⟨d,ab⟩:=ak;obtain⟨d0,b',kv,rfl,bi,bg,bz,n0,n1,n2,n3,Y⟩:=ab.cells;cases bi;obtain⟨N,M,rfl⟩:=Y.slice;have ap:y.cell? ⟨b,3,none⟩=some (.slice N ks.length M):=n3;clear n3;have bj:w.heap.size+1<=b:=by have:=bg.1;simpa using this
 have ai:=aA ab;have Z:=aA P
 have J:kB (eJ d0 (Btw (w.heap.size+1) (y.heap.size+1)) ((y.alloc (.cells #[.int .i64 0,.int .i64 0] 27)).alloc (.cells #[.slice N ks.length M,.slice none 0 0,.bool false,.int .i64 0,.int .i64 0] 67))) (Btw (w.heap.size+1) (y.heap.size+1)) ((y.alloc (.cells #[.int .i64 0,.int .i64 0] 27)).alloc (.cells #[.slice N ks.length M,.slice none 0 0,.bool false,.int .i64 0,.int .i64 0] 67)) (.slice N ks.length M) ks:=
  Kid.keep2 Y (λk q=>by have:=q.2;rw[JZ _ _ _ t_,JZ _ _ _ o_]) (λk q=>⟨by have:=q.1;simpa using this,by have:=q.2;omega⟩)
 have ac:=aA J;have ag:=aA (mB ks [109,97,105,110] _ _ _ o_ d0 J)
 clear P HP ab Y J;go_wp2_with fail;refine ag.out.mono ?_;rintro e t ⟨ae,fp,rfl,z⟩;have p:=ae
 have I:Below w.heap.size w t:=by
  rw[p];exact((((JU _ _).alloc (JS _) _).trans (Z.out.mono s_)).alloc o_ _).alloc t_ _
 have S:eK (y.heap.size+1) (w.heap.size+1) ks (.slice N ks.length M) false t ⟨[],0,0⟩:=by
  refine⟨⟨.slice none 0 0,?_,World.ownsRow_nil _ _ _ _⟩,?_⟩
  ·rw[p];exact aW _ _ s_ _
  ·rw[p];rcases ac.out with h|⟨g,aq,ax,vs,k1,k2,k3,k4,k5,k6⟩
   ·exact JX h
   ·exact JR ⟨g,aq,ax,vs,k1,k2,k3,k4,k5,k6.mono λ_ _ h=>⟨d0,h⟩⟩
 have au:Hid (kB (eJ d0 (Btw (w.heap.size+1) (y.heap.size+1)) t) (Btw (w.heap.size+1) (y.heap.size+1)) t (.slice N ks.length M) ks):=by rw[p];exact ac.out
 have cd:t.heap.size=y.heap.size+2:=by rw[p];simp
 have x3:t.cell? ⟨b,3,none⟩=some (.slice N ks.length M):=by
  rw[p,bV (JZ _ _ _ t_),bV (JZ _ _ _ o_)];exact ap
 have r:t.heap[w.heap.size]?=some (.cells #[.int .i64 0,.int .i64 0] 27 (0,0)):=by
  rw[p,JZ _ _ _ t_,JZ _ _ _ o_,Z.out.block _ s_]
  exact aW _ _ rfl _
 have y0:t.cell? ⟨w.heap.size,0,none⟩=some (.int .i64 0):=aB r rfl;have y1:t.cell? ⟨w.heap.size,1,none⟩=some (.int .i64 0):=aB r rfl;have fy:∀o,t.frozen? ⟨w.heap.size,o,none⟩=false:=λo=>aI r
 have az:=fy 0;have bf:=fy 1;rw[<-p] at z;have ao:b<t.heap.size:=o_
 have bb:w.heap.size<t.heap.size:=o_
 have T:Hid (eJ (d0+1) (Btw (w.heap.size+1) y.heap.size) t (.pointer (some ⟨b,0,none⟩)) (aH [112,114,111,103,114,97,109] 0 [] ks)):=by
  refine eJ.mono (F:=Btw (w.alloc (.cells #[.int .i64 0,.int .i64 0] 27)).heap.size y.heap.size) (λk q=>⟨by have:=q.1;simpa using this,q.2⟩) (eJ.keep (λk q=>?_) ai.out) (JS _)
  have:=q.2;rw[p,JZ _ _ _ t_,JZ _ _ _ o_]
 have HBEL:=aA I;have aw:=aA S;have HRES:=aA r;clear ae I S r ai ac ag fy n0 n1 n2 ap hc hf Z;generalize cg:y.heap.size+1=cb at*;cases A:bN ks [109,97,105,110] with
 |none=>
  rw[A] at z;obtain rfl:fp=.pointer none:=z;have HN:Hid (bL s.data.toList=(5,0)):=by show _=_;rw[HR.out];unfold eR;rw[A]
  clear p;go_wp2_with fail;refine bodyPost_ret (v:=.tuple #[.pointer none,.agg #[.int .i64 5,.int .i64 0]]) (by simp[results,results8,go_sem,y0,y1]) rfl ?_
  unfold gA;rw[HN.out];exact⟨(HBEL.out.setCell s_ _).setCell s_ _,by rw[if_neg s_];rfl⟩
 |some m=>
  rw[A] at z;obtain⟨x,mb,cj,rfl,rfl,bw,bu,m0,m1,m2,m3,aj⟩:=z.cells;obtain⟨bo,bt,rfl⟩:=aj.slice;have U:m∈ks:=KP A;have bn:m.y_.length<=2001:=FineA.len (FineL.mem O.out U);clear p z aj;by_cases V:1<m.y_.length
  ·have HN:Hid (bL s.data.toList=(5,0)):=by show _=_;rw[HR.out];unfold eR;rw[A];simp[V]
   go_wp2_with fail;refine bodyPost_ret (v:=.tuple #[.pointer none,.agg #[.int .i64 5,.int .i64 0]]) (by simp[results,results8,go_sem,y0,y1]) rfl ?_
   unfold gA;rw[HN.out];exact⟨(HBEL.out.setCell s_ _).setCell s_ _,by rw[if_neg s_];rfl⟩
  ·have HN:Hid (bL s.data.toList=((cD ks x [] ks ⟨[],0,0⟩).kind,(cD ks x [] ks ⟨[],0,0⟩).l_)):=by
    show _=_
    rw[HR.out];unfold eR;rw[A];simp only[V,if_false];rw[tD ks x 2001 ks [] ⟨[],0,0⟩ λn hn=>⟨?_,iC _ _ (Hs.FineA.le (FineL.mem O.out hn) o_)⟩]
    exact(eJ.dp T.out) n hn
   clear U m0 m1 m2;go_wp2_with fail;go_loopg [8,9] ks.length (λgk i er wr=>∃k:Nat,k+gk=ks.length/\i=.int .i64 k/\Below cb t wr/\eK cb (w.heap.size+1) ks (.slice N ks.length M) false wr (cD ks x [] (ks.take k) ⟨[],0,0⟩))
   case atStart=>exact⟨0,o_,rfl,JU _ _,aw.out⟩
   case round=>
    obtain⟨k,bp,rfl,c,D⟩:=hrel;have af:wr.heap[b]?=t.heap[b]?:=c.block b o_
    have q3:wr.cell? ⟨b,3,none⟩=some (.slice N ks.length M):=(bV af).trans x3;have bk:b<wr.heap.size:=JY ao c.size;clear af x3 m3;by_cases G:k<ks.length
    ·obtain⟨j,rfl⟩:∃j,gk=j+1:=⟨gk-1,o_⟩
     rcases au.out.get with ⟨_,h0⟩|⟨g,aq,bc,am,ba,bl,E⟩
     ·rw[h0] at G;simp at G
     obtain⟨u,hu,an⟩:=E k G;cases bc;have av:wr.heap[g]?=t.heap[g]?:=c.block g am.2;have r0:wr.cell? ⟨g,k,none⟩=some u:=(bV av).trans hu;have bh:g<wr.heap.size:=JY ba c.size;have K:=an.keep (w':=wr) λk q=>c.block k q.2
     obtain⟨d2,ub,br,bx,rfl,ca,ci,u0,u1,u2,u3, -⟩:=K.cells;have a:=FineL.mem O.out (KG G)
     have H:cD ks x [] (ks.take (k+1)) ⟨[],0,0⟩=dU ks x (cD ks x [] (ks.take k) ⟨[],0,0⟩) ks[k] (bN (ks.take k) ks[k].x_).isNone:=by
      rw[KA G,tC];rfl
     have ay:(ks.take k).length=k:=by rw[KH];omega
     have aa:=kQ (ks.take k) ks[k].x_ g M (Btw (w.heap.size+1) cb) wr.drew o_ bh (x+1) (λi hi=>by
      obtain⟨v,h1,h2⟩:=E i o_
      refine⟨v,(bV (c.block g am.2)).trans h1,?_⟩;rw[List.getElem_take];exact(h2.keep (w':=wr) λk q=>c.block k q.2).keepw rfl)
     rw[ay] at aa;have ar:=aA aa;have HD:=aA (λfirst=>EJ cb (w.heap.size+1) ks _ o_ (λf hf=>KM (FineA.len (FineL.mem O.out hf)) o_) x _ ks[k] _ wr.drew first (D.keepw rfl) (K.keepw rfl) (a (x+1+0)).2 (by have:=(a (x+1)).1;omega))
     have Q:=aA H;have L:=aA c;have bq:k<=M:=o_
     clear H aa c D an K E av hu a;go_wp2_with fail;go_cut [9] (λer wc=>wc=wr.drew/\GK (x+1) (Btw (w.heap.size+1) cb) wr.drew (bN (ks.take k) ks[k].x_) er)
     case first=>
      go_region_law (go_simp;go_at_call 26;refine ar.out.mono ?_;rintro e w3 ⟨bd,er,rfl,B⟩;obtain rfl:=bd.symm)
      all_goals
       go_wp2_with fail;go_meet
       case rel=>exact⟨rfl,B⟩
     case rest=>
      obtain⟨rfl,B⟩:=hcut;clear ar;cases W:bN (ks.take k) ks[k].x_ with
      |none=>
       rw[W] at B Q;obtain rfl:u9=.pointer none:=B;go_wp2_with fail;refine(HD.out true).mono ?_;rintro e w4 ⟨rfl,ad,X⟩;go_wp2_with fail;go_roundg j
       case measure=>omega
       case rel=>exact⟨k+1,o_,by go_num,L.out.trans ((JU _ _).drew.trans ad),by rw[Q.out];exact X⟩
      |some f=>
       rw[W] at B Q;obtain⟨d3,fb,bv, -,rfl, -⟩:=eJ.cells B;go_wp2_with fail;refine(HD.out false).mono ?_;rintro e w4 ⟨rfl,ad,X⟩;go_wp2_with fail;go_roundg j
       case measure=>omega
       case rel=>exact⟨k+1,o_,by go_num,L.out.trans ((JU _ _).drew.trans ad),by rw[Q.out];exact X⟩
    ·obtain rfl:k=ks.length:=o_
     rw[LH] at D;obtain⟨cf,C, -⟩:=D.blk;obtain⟨bm, -, -, -,c3,c4, -⟩:=dB C;have l:wr.heap[w.heap.size]?=_:=(c.block w.heap.size o_).trans HRES.out
     have z0:wr.cell? ⟨w.heap.size,0,none⟩=some (.int .i64 0):=aB l rfl;have z1:wr.cell? ⟨w.heap.size,1,none⟩=some (.int .i64 0):=aB l rfl;have cc:wr.frozen? ⟨w.heap.size,0,none⟩=false:=aI l;have ck:wr.frozen? ⟨w.heap.size,1,none⟩=false:=aI l;have ce:w.heap.size<wr.heap.size:=JY bb c.size;have L:=aA (HBEL.out.trans (c.mono o_))
     have al:=aA (T.out.keep (w':=wr) λk q=>c.block k (by have:=q.2;omega))
     clear C D c l y0 y1 az bf;generalize cD ks x [] ks ⟨[],0,0⟩=s1 at*;by_cases ah:s1.kind=0
     ·have e0:((s1.kind:Int) != 0)=false:=t_
      go_wp2_with fail;refine bodyPost_ret (v:=.tuple #[.pointer (some ⟨b,0,none⟩),.agg #[.int .i64 0,.int .i64 0]]) (by simp[results,results8,go_sem,z0,z1]) rfl ?_
      unfold gA;rw[HN.out,if_pos (by exact ah)]
      refine⟨(L.out.setCell s_ _).setCell s_ _,b,ks,rfl,be.out,x+1+1,eJ.mono (F:=Btw (w.heap.size+1) y.heap.size) (λk q=>⟨by have:=q.1;omega,?_⟩) (eJ.keep (λk q=>?_) al.out) (JS _)⟩
      rotate_left
      ·have h1:=q.2;simp;omega
      ·have h1:=q.1;rw[JW _ _ _ _ (by show k≠w.heap.size;omega),JW _ _ _ _ (by show k≠w.heap.size;omega)]
     ·have e0:((s1.kind:Int) != 0)=true:=t_
      go_wp2_with fail;go_region
      go_wp2_with fail;refine bodyPost_ret (v:=.tuple #[.pointer none,.agg #[.int .i64 s1.kind,.int .i64 s1.l_]]) (by simp[results,results8,go_sem,z0,z1]) rfl ?_
      unfold gA;rw[HN.out,if_neg (by exact ah)]
      exact⟨((L.out.setCell s_ _).setCell s_ _).drew,rfl⟩
def CX(s:ByteArray)(w:World)(c:cS w)(b:s.size<=maxLen):
 Calls prog 8 #[.string s] w (gA w s.data.toList):=by
 cases a:cU s.data.toList with
 |error f=>exact CW s w c b f.1 f.2 a
 |ok d=>exact FX s w c b d a
def qT(n b0 b1 b2 b3:Nat):Nat:=
 if b0<128 then 1
 else if 194<=b0/\b0<=223 then (if 1<n/\128<=b1/\b1<=191 then 2 else 0)
 else if 224<=b0/\b0<=239 then
  (if (1<n/\(if b0=224 then 160 else 128)<=b1/\b1<=(if b0=237 then 159 else 191))/\(2<n/\128<=b2/\b2<=191) then 3 else 0)
 else if 240<=b0/\b0<=244 then
  (if ((1<n/\(if b0=240 then 144 else 128)<=b1/\b1<=(if b0=244 then 143 else 191))/\(2<n/\128<=b2/\b2<=191))/\(3<n/\128<=b3/\b3<=191) then 4 else 0)
 else 0
def EN(n a b d c:Nat)(o:a<256)(p:b<256)(m:d<256)(q:c<256):
 (qT n a b d c=0->Lib.decodeN n a b d c=(65533,1))/\(qT n a b d c≠0->(Lib.decodeN n a b d c).2=qT n a b d c/\¬((Lib.decodeN n a b d c).1=65533/\qT n a b d c=1)/\((Lib.decodeN n a b d c).1=10↔a=10)):=by
 have i:b/64=2↔128<=b/\b<=191:=o_
 have f:d/64=2↔128<=d/\d<=191:=o_
 have g:c/64=2↔128<=c/\c<=191:=o_
 have k:a/32=6↔192<=a/\a<=223:=o_
 have l:a/16=14↔224<=a/\a<=239:=o_
 have j:a/8=30↔240<=a/\a<=247:=o_
 unfold qT Lib.decodeN;simp only[i,f,g,k,l,j];by_cases e:a<128
 ·simp only[if_pos e];exact⟨λh=>absurd h o_,λ_=>⟨trivial,o_,trivial⟩⟩
 ·simp only[if_neg e];repeat' split
  all_goals first
   |(refine⟨λ_=>rfl,λh=>absurd rfl h⟩)
   |(refine⟨λh=>absurd h o_,λ_=>⟨rfl,?_,?_⟩⟩<;>(simp only;omega))
   |(exfalso;omega)
def qP(s:ByteArray)(i:Nat)(h:i<s.size):s.get! i=s[i]:=by
 show s.data[i]! =s.data[i]
 rw[getElem!_pos s.data i (by simpa using h)]
def GH(s:ByteArray)(i lo a:Nat):bK s.data.toList i lo a=decide (i<s.size/\lo<=(s.get! i).toNat/\(s.get! i).toNat<=a):=by
 unfold bK;by_cases h:i<s.size
 ·have e:s.data.toList[i]?=some s[i]:=by simp[h];rfl
  rw[e,qP s i h];simp[h]
 ·have e:s.data.toList[i]?=none:=KI (by simpa using (by omega:s.size<=i))
  rw[e];simp[h]
def GU(s:ByteArray)(h:0<s.size):cJ s.data.toList=qT s.size (s.get! 0).toNat (s.get! 1).toNat (s.get! 2).toNat (s.get! 3).toNat:=by
 unfold cJ qT;have e:s.data.toList[0]?=some s[0]:=by simp[h];rfl
 rw[e,<-qP s 0 h];simp only[GH,KQ,decide_eq_true_eq]
section
variable(v:Value)(w:World)
def kZ:(typeAssert (.iface 259 v) 92 259 true).run prog w=.ok (.tuple #[v,.bool true]) w:=k_
def lS:(typeAssert (.iface 262 v) 92 259 true).run prog w=.ok (.tuple #[.agg #[.int .i64 0,.int .i64 0,.string ⟨#[]⟩,.nilIface],.bool false]) w:=k_
def mX:(typeAssert (.iface 262 v) 92 262 true).run prog w=.ok (.tuple #[v,.bool true]) w:=k_
def kO:(typeAssert (.iface 264 v) 92 259 true).run prog w=.ok (.tuple #[.agg #[.int .i64 0,.int .i64 0,.string ⟨#[]⟩,.nilIface],.bool false]) w:=k_
def lQ:(typeAssert (.iface 264 v) 92 262 true).run prog w=.ok (.tuple #[.agg #[.int .i64 0,.string ⟨#[]⟩,.slice none 0 0,.nilIface],.bool false]) w:=k_
def vB:(typeAssert (.iface 264 v) 92 264 true).run prog w=.ok (.tuple #[v,.bool true]) w:=k_
def mH:(typeAssert (.iface 266 v) 92 259 true).run prog w=.ok (.tuple #[.agg #[.int .i64 0,.int .i64 0,.string ⟨#[]⟩,.nilIface],.bool false]) w:=k_
def nY:(typeAssert (.iface 266 v) 92 262 true).run prog w=.ok (.tuple #[.agg #[.int .i64 0,.string ⟨#[]⟩,.slice none 0 0,.nilIface],.bool false]) w:=k_
def uX:(typeAssert (.iface 266 v) 92 264 true).run prog w=.ok (.tuple #[.agg #[.int .i64 0,.nilIface,.slice none 0 0,.slice none 0 0],.bool false]) w:=k_
def oZ:(typeAssert (.iface 266 v) 92 266 true).run prog w=.ok (.tuple #[v,.bool true]) w:=k_
def hN:(typeAssert (.iface 268 v) 92 259 true).run prog w=.ok (.tuple #[.agg #[.int .i64 0,.int .i64 0,.string ⟨#[]⟩,.nilIface],.bool false]) w:=k_
def iF:(typeAssert (.iface 268 v) 92 262 true).run prog w=.ok (.tuple #[.agg #[.int .i64 0,.string ⟨#[]⟩,.slice none 0 0,.nilIface],.bool false]) w:=k_
def lN:(typeAssert (.iface 268 v) 92 264 true).run prog w=.ok (.tuple #[.agg #[.int .i64 0,.nilIface,.slice none 0 0,.slice none 0 0],.bool false]) w:=k_
def jC:(typeAssert (.iface 268 v) 92 266 true).run prog w=.ok (.tuple #[.agg #[.int .i64 0,.nilIface,.slice none 0 0],.bool false]) w:=k_
def iE:(typeAssert (.iface 268 v) 92 268 true).run prog w=.ok (.tuple #[v,.bool true]) w:=k_
def mN:(typeAssert (.iface 269 v) 92 259 true).run prog w=.ok (.tuple #[.agg #[.int .i64 0,.int .i64 0,.string ⟨#[]⟩,.nilIface],.bool false]) w:=k_
def oG:(typeAssert (.iface 269 v) 92 262 true).run prog w=.ok (.tuple #[.agg #[.int .i64 0,.string ⟨#[]⟩,.slice none 0 0,.nilIface],.bool false]) w:=k_
def uZ:(typeAssert (.iface 269 v) 92 264 true).run prog w=.ok (.tuple #[.agg #[.int .i64 0,.nilIface,.slice none 0 0,.slice none 0 0],.bool false]) w:=k_
def pH:(typeAssert (.iface 269 v) 92 266 true).run prog w=.ok (.tuple #[.agg #[.int .i64 0,.nilIface,.slice none 0 0],.bool false]) w:=k_
def oF:(typeAssert (.iface 269 v) 92 268 true).run prog w=.ok (.tuple #[.agg #[.int .i64 0,.nilIface],.bool false]) w:=k_
def pI:(typeAssert (.iface 269 v) 92 269 true).run prog w=.ok (.tuple #[v,.bool true]) w:=k_
def oO:(typeAssert (.iface 271 v) 92 259 true).run prog w=.ok (.tuple #[.agg #[.int .i64 0,.int .i64 0,.string ⟨#[]⟩,.nilIface],.bool false]) w:=k_
def pR:(typeAssert (.iface 271 v) 92 262 true).run prog w=.ok (.tuple #[.agg #[.int .i64 0,.string ⟨#[]⟩,.slice none 0 0,.nilIface],.bool false]) w:=k_
def wZ:(typeAssert (.iface 271 v) 92 264 true).run prog w=.ok (.tuple #[.agg #[.int .i64 0,.nilIface,.slice none 0 0,.slice none 0 0],.bool false]) w:=k_
def rH:(typeAssert (.iface 271 v) 92 266 true).run prog w=.ok (.tuple #[.agg #[.int .i64 0,.nilIface,.slice none 0 0],.bool false]) w:=k_
def pQ:(typeAssert (.iface 271 v) 92 268 true).run prog w=.ok (.tuple #[.agg #[.int .i64 0,.nilIface],.bool false]) w:=k_
def rJ:(typeAssert (.iface 271 v) 92 269 true).run prog w=.ok (.tuple #[.agg #[.int .i64 0,.nilIface],.bool false]) w:=k_
def tM:(typeAssert (.iface 271 v) 92 271 true).run prog w=.ok (.tuple #[v,.bool true]) w:=k_
def kL:(typeAssert (.iface 274 v) 92 259 true).run prog w=.ok (.tuple #[.agg #[.int .i64 0,.int .i64 0,.string ⟨#[]⟩,.nilIface],.bool false]) w:=k_
def kW:(typeAssert (.iface 274 v) 92 262 true).run prog w=.ok (.tuple #[.agg #[.int .i64 0,.string ⟨#[]⟩,.slice none 0 0,.nilIface],.bool false]) w:=k_
def pA:(typeAssert (.iface 274 v) 92 264 true).run prog w=.ok (.tuple #[.agg #[.int .i64 0,.nilIface,.slice none 0 0,.slice none 0 0],.bool false]) w:=k_
def lJ:(typeAssert (.iface 274 v) 92 266 true).run prog w=.ok (.tuple #[.agg #[.int .i64 0,.nilIface,.slice none 0 0],.bool false]) w:=k_
def kV:(typeAssert (.iface 274 v) 92 268 true).run prog w=.ok (.tuple #[.agg #[.int .i64 0,.nilIface],.bool false]) w:=k_
def lK:(typeAssert (.iface 274 v) 92 269 true).run prog w=.ok (.tuple #[.agg #[.int .i64 0,.nilIface],.bool false]) w:=k_
def mI:(typeAssert (.iface 274 v) 92 271 true).run prog w=.ok (.tuple #[.agg #[.int .i64 0,.string ⟨#[]⟩,.slice none 0 0],.bool false]) w:=k_
def jL:(typeAssert (.iface 274 v) 92 274 true).run prog w=.ok (.tuple #[v,.bool true]) w:=k_
def oL:(typeAssert (.iface 276 v) 92 259 true).run prog w=.ok (.tuple #[.agg #[.int .i64 0,.int .i64 0,.string ⟨#[]⟩,.nilIface],.bool false]) w:=k_
def pM:(typeAssert (.iface 276 v) 92 262 true).run prog w=.ok (.tuple #[.agg #[.int .i64 0,.string ⟨#[]⟩,.slice none 0 0,.nilIface],.bool false]) w:=k_
def wY:(typeAssert (.iface 276 v) 92 264 true).run prog w=.ok (.tuple #[.agg #[.int .i64 0,.nilIface,.slice none 0 0,.slice none 0 0],.bool false]) w:=k_
def rC:(typeAssert (.iface 276 v) 92 266 true).run prog w=.ok (.tuple #[.agg #[.int .i64 0,.nilIface,.slice none 0 0],.bool false]) w:=k_
def pL:(typeAssert (.iface 276 v) 92 268 true).run prog w=.ok (.tuple #[.agg #[.int .i64 0,.nilIface],.bool false]) w:=k_
def rD:(typeAssert (.iface 276 v) 92 269 true).run prog w=.ok (.tuple #[.agg #[.int .i64 0,.nilIface],.bool false]) w:=k_
def tL:(typeAssert (.iface 276 v) 92 271 true).run prog w=.ok (.tuple #[.agg #[.int .i64 0,.string ⟨#[]⟩,.slice none 0 0],.bool false]) w:=k_
def mR:(typeAssert (.iface 276 v) 92 274 true).run prog w=.ok (.tuple #[.agg #[.int .i64 0,.string ⟨#[]⟩],.bool false]) w:=k_
def tK:(typeAssert (.iface 276 v) 92 276 true).run prog w=.ok (.tuple #[v,.bool true]) w:=k_
def mS:(typeAssert (.iface 278 v) 92 259 true).run prog w=.ok (.tuple #[.agg #[.int .i64 0,.int .i64 0,.string ⟨#[]⟩,.nilIface],.bool false]) w:=k_
def oN:(typeAssert (.iface 278 v) 92 262 true).run prog w=.ok (.tuple #[.agg #[.int .i64 0,.string ⟨#[]⟩,.slice none 0 0,.nilIface],.bool false]) w:=k_
def vA:(typeAssert (.iface 278 v) 92 264 true).run prog w=.ok (.tuple #[.agg #[.int .i64 0,.nilIface,.slice none 0 0,.slice none 0 0],.bool false]) w:=k_
def pN:(typeAssert (.iface 278 v) 92 266 true).run prog w=.ok (.tuple #[.agg #[.int .i64 0,.nilIface,.slice none 0 0],.bool false]) w:=k_
def oM:(typeAssert (.iface 278 v) 92 268 true).run prog w=.ok (.tuple #[.agg #[.int .i64 0,.nilIface],.bool false]) w:=k_
def pO:(typeAssert (.iface 278 v) 92 269 true).run prog w=.ok (.tuple #[.agg #[.int .i64 0,.nilIface],.bool false]) w:=k_
def rG:(typeAssert (.iface 278 v) 92 271 true).run prog w=.ok (.tuple #[.agg #[.int .i64 0,.string ⟨#[]⟩,.slice none 0 0],.bool false]) w:=k_
def lP:(typeAssert (.iface 278 v) 92 274 true).run prog w=.ok (.tuple #[.agg #[.int .i64 0,.string ⟨#[]⟩],.bool false]) w:=k_
def rF:(typeAssert (.iface 278 v) 92 276 true).run prog w=.ok (.tuple #[.agg #[.int .i64 0,.slice none 0 0],.bool false]) w:=k_
def pP:(typeAssert (.iface 278 v) 92 278 true).run prog w=.ok (.tuple #[v,.bool true]) w:=k_
def mJ:(typeAssert (.iface 280 v) 92 259 true).run prog w=.ok (.tuple #[.agg #[.int .i64 0,.int .i64 0,.string ⟨#[]⟩,.nilIface],.bool false]) w:=k_
def oA:(typeAssert (.iface 280 v) 92 262 true).run prog w=.ok (.tuple #[.agg #[.int .i64 0,.string ⟨#[]⟩,.slice none 0 0,.nilIface],.bool false]) w:=k_
def uY:(typeAssert (.iface 280 v) 92 264 true).run prog w=.ok (.tuple #[.agg #[.int .i64 0,.nilIface,.slice none 0 0,.slice none 0 0],.bool false]) w:=k_
def pB:(typeAssert (.iface 280 v) 92 266 true).run prog w=.ok (.tuple #[.agg #[.int .i64 0,.nilIface,.slice none 0 0],.bool false]) w:=k_
def nZ:(typeAssert (.iface 280 v) 92 268 true).run prog w=.ok (.tuple #[.agg #[.int .i64 0,.nilIface],.bool false]) w:=k_
def pD:(typeAssert (.iface 280 v) 92 269 true).run prog w=.ok (.tuple #[.agg #[.int .i64 0,.nilIface],.bool false]) w:=k_
def rA:(typeAssert (.iface 280 v) 92 271 true).run prog w=.ok (.tuple #[.agg #[.int .i64 0,.string ⟨#[]⟩,.slice none 0 0],.bool false]) w:=k_
def lL:(typeAssert (.iface 280 v) 92 274 true).run prog w=.ok (.tuple #[.agg #[.int .i64 0,.string ⟨#[]⟩],.bool false]) w:=k_
def qZ:(typeAssert (.iface 280 v) 92 276 true).run prog w=.ok (.tuple #[.agg #[.int .i64 0,.slice none 0 0],.bool false]) w:=k_
def pE:(typeAssert (.iface 280 v) 92 278 true).run prog w=.ok (.tuple #[.agg #[.int .i64 0,.nilIface,.nilIface],.bool false]) w:=k_
def pC:(typeAssert (.iface 280 v) 92 280 true).run prog w=.ok (.tuple #[v,.bool true]) w:=k_
def lR:(typeAssert (.iface 282 v) 92 259 true).run prog w=.ok (.tuple #[.agg #[.int .i64 0,.int .i64 0,.string ⟨#[]⟩,.nilIface],.bool false]) w:=k_
def mW:(typeAssert (.iface 282 v) 92 262 true).run prog w=.ok (.tuple #[.agg #[.int .i64 0,.string ⟨#[]⟩,.slice none 0 0,.nilIface],.bool false]) w:=k_
def tP:(typeAssert (.iface 282 v) 92 264 true).run prog w=.ok (.tuple #[.agg #[.int .i64 0,.nilIface,.slice none 0 0,.slice none 0 0],.bool false]) w:=k_
def oQ:(typeAssert (.iface 282 v) 92 266 true).run prog w=.ok (.tuple #[.agg #[.int .i64 0,.nilIface,.slice none 0 0],.bool false]) w:=k_
def mU:(typeAssert (.iface 282 v) 92 268 true).run prog w=.ok (.tuple #[.agg #[.int .i64 0,.nilIface],.bool false]) w:=k_
def oS:(typeAssert (.iface 282 v) 92 269 true).run prog w=.ok (.tuple #[.agg #[.int .i64 0,.nilIface],.bool false]) w:=k_
def pW:(typeAssert (.iface 282 v) 92 271 true).run prog w=.ok (.tuple #[.agg #[.int .i64 0,.string ⟨#[]⟩,.slice none 0 0],.bool false]) w:=k_
def lA:(typeAssert (.iface 282 v) 92 274 true).run prog w=.ok (.tuple #[.agg #[.int .i64 0,.string ⟨#[]⟩],.bool false]) w:=k_
def pV:(typeAssert (.iface 282 v) 92 276 true).run prog w=.ok (.tuple #[.agg #[.int .i64 0,.slice none 0 0],.bool false]) w:=k_
def oT:(typeAssert (.iface 282 v) 92 278 true).run prog w=.ok (.tuple #[.agg #[.int .i64 0,.nilIface,.nilIface],.bool false]) w:=k_
def oR:(typeAssert (.iface 282 v) 92 280 true).run prog w=.ok (.tuple #[.agg #[.int .i64 0,.string ⟨#[]⟩,.nilIface],.bool false]) w:=k_
def mV:(typeAssert (.iface 282 v) 92 282 true).run prog w=.ok (.tuple #[v,.bool true]) w:=k_
def lO:(typeAssert (.iface 307 v) 92 259 true).run prog w=.ok (.tuple #[.agg #[.int .i64 0,.int .i64 0,.string ⟨#[]⟩,.nilIface],.bool false]) w:=k_
def mQ:(typeAssert (.iface 307 v) 92 262 true).run prog w=.ok (.tuple #[.agg #[.int .i64 0,.string ⟨#[]⟩,.slice none 0 0,.nilIface],.bool false]) w:=k_
def tJ:(typeAssert (.iface 307 v) 92 264 true).run prog w=.ok (.tuple #[.agg #[.int .i64 0,.nilIface,.slice none 0 0,.slice none 0 0],.bool false]) w:=k_
def oH:(typeAssert (.iface 307 v) 92 266 true).run prog w=.ok (.tuple #[.agg #[.int .i64 0,.nilIface,.slice none 0 0],.bool false]) w:=k_
def mO:(typeAssert (.iface 307 v) 92 268 true).run prog w=.ok (.tuple #[.agg #[.int .i64 0,.nilIface],.bool false]) w:=k_
def oJ:(typeAssert (.iface 307 v) 92 269 true).run prog w=.ok (.tuple #[.agg #[.int .i64 0,.nilIface],.bool false]) w:=k_
def pK:(typeAssert (.iface 307 v) 92 271 true).run prog w=.ok (.tuple #[.agg #[.int .i64 0,.string ⟨#[]⟩,.slice none 0 0],.bool false]) w:=k_
def kY:(typeAssert (.iface 307 v) 92 274 true).run prog w=.ok (.tuple #[.agg #[.int .i64 0,.string ⟨#[]⟩],.bool false]) w:=k_
def pJ:(typeAssert (.iface 307 v) 92 276 true).run prog w=.ok (.tuple #[.agg #[.int .i64 0,.slice none 0 0],.bool false]) w:=k_
def oK:(typeAssert (.iface 307 v) 92 278 true).run prog w=.ok (.tuple #[.agg #[.int .i64 0,.nilIface,.nilIface],.bool false]) w:=k_
def oI:(typeAssert (.iface 307 v) 92 280 true).run prog w=.ok (.tuple #[.agg #[.int .i64 0,.string ⟨#[]⟩,.nilIface],.bool false]) w:=k_
def mP:(typeAssert (.iface 307 v) 92 282 true).run prog w=.ok (.tuple #[.agg #[.int .i64 0,.string ⟨#[]⟩,.nilIface,.nilIface],.bool false]) w:=k_
def lM:(typeAssert (.iface 308 v) 92 259 true).run prog w=.ok (.tuple #[.agg #[.int .i64 0,.int .i64 0,.string ⟨#[]⟩,.nilIface],.bool false]) w:=k_
def mM:(typeAssert (.iface 308 v) 92 262 true).run prog w=.ok (.tuple #[.agg #[.int .i64 0,.string ⟨#[]⟩,.slice none 0 0,.nilIface],.bool false]) w:=k_
def tI:(typeAssert (.iface 308 v) 92 264 true).run prog w=.ok (.tuple #[.agg #[.int .i64 0,.nilIface,.slice none 0 0,.slice none 0 0],.bool false]) w:=k_
def oB:(typeAssert (.iface 308 v) 92 266 true).run prog w=.ok (.tuple #[.agg #[.int .i64 0,.nilIface,.slice none 0 0],.bool false]) w:=k_
def mK:(typeAssert (.iface 308 v) 92 268 true).run prog w=.ok (.tuple #[.agg #[.int .i64 0,.nilIface],.bool false]) w:=k_
def oD:(typeAssert (.iface 308 v) 92 269 true).run prog w=.ok (.tuple #[.agg #[.int .i64 0,.nilIface],.bool false]) w:=k_
def pG:(typeAssert (.iface 308 v) 92 271 true).run prog w=.ok (.tuple #[.agg #[.int .i64 0,.string ⟨#[]⟩,.slice none 0 0],.bool false]) w:=k_
def kX:(typeAssert (.iface 308 v) 92 274 true).run prog w=.ok (.tuple #[.agg #[.int .i64 0,.string ⟨#[]⟩],.bool false]) w:=k_
def pF:(typeAssert (.iface 308 v) 92 276 true).run prog w=.ok (.tuple #[.agg #[.int .i64 0,.slice none 0 0],.bool false]) w:=k_
def oE:(typeAssert (.iface 308 v) 92 278 true).run prog w=.ok (.tuple #[.agg #[.int .i64 0,.nilIface,.nilIface],.bool false]) w:=k_
def oC:(typeAssert (.iface 308 v) 92 280 true).run prog w=.ok (.tuple #[.agg #[.int .i64 0,.string ⟨#[]⟩,.nilIface],.bool false]) w:=k_
def mL:(typeAssert (.iface 308 v) 92 282 true).run prog w=.ok (.tuple #[.agg #[.int .i64 0,.string ⟨#[]⟩,.nilIface,.nilIface],.bool false]) w:=k_
def oP:(typeAssert (.iface 310 v) 92 259 true).run prog w=.ok (.tuple #[.agg #[.int .i64 0,.int .i64 0,.string ⟨#[]⟩,.nilIface],.bool false]) w:=k_
def pU:(typeAssert (.iface 310 v) 92 262 true).run prog w=.ok (.tuple #[.agg #[.int .i64 0,.string ⟨#[]⟩,.slice none 0 0,.nilIface],.bool false]) w:=k_
def xA:(typeAssert (.iface 310 v) 92 264 true).run prog w=.ok (.tuple #[.agg #[.int .i64 0,.nilIface,.slice none 0 0,.slice none 0 0],.bool false]) w:=k_
def rK:(typeAssert (.iface 310 v) 92 266 true).run prog w=.ok (.tuple #[.agg #[.int .i64 0,.nilIface,.slice none 0 0],.bool false]) w:=k_
def pS:(typeAssert (.iface 310 v) 92 268 true).run prog w=.ok (.tuple #[.agg #[.int .i64 0,.nilIface],.bool false]) w:=k_
def rM:(typeAssert (.iface 310 v) 92 269 true).run prog w=.ok (.tuple #[.agg #[.int .i64 0,.nilIface],.bool false]) w:=k_
def tO:(typeAssert (.iface 310 v) 92 271 true).run prog w=.ok (.tuple #[.agg #[.int .i64 0,.string ⟨#[]⟩,.slice none 0 0],.bool false]) w:=k_
def mT:(typeAssert (.iface 310 v) 92 274 true).run prog w=.ok (.tuple #[.agg #[.int .i64 0,.string ⟨#[]⟩],.bool false]) w:=k_
def tN:(typeAssert (.iface 310 v) 92 276 true).run prog w=.ok (.tuple #[.agg #[.int .i64 0,.slice none 0 0],.bool false]) w:=k_
def rN:(typeAssert (.iface 310 v) 92 278 true).run prog w=.ok (.tuple #[.agg #[.int .i64 0,.nilIface,.nilIface],.bool false]) w:=k_
def rL:(typeAssert (.iface 310 v) 92 280 true).run prog w=.ok (.tuple #[.agg #[.int .i64 0,.string ⟨#[]⟩,.nilIface],.bool false]) w:=k_
def pT:(typeAssert (.iface 310 v) 92 282 true).run prog w=.ok (.tuple #[.agg #[.int .i64 0,.string ⟨#[]⟩,.nilIface,.nilIface],.bool false]) w:=k_
end
def qS{c:UInt8}(h:bF c=true):48<=c.toNat/\c.toNat<=57:=by
 unfold bF at h;simpa using h
def wO(n:Nat)(c:UInt8)(r:List UInt8)(h:48<=c.toNat/\c.toNat<=57):bY n (c::r)=if 9223372036854775807<n*10+(c.toNat-48) then none else bY (n*10+(c.toNat-48)) r:=by
 rw[bY];unfold oU;have e:((9223372036854775807-(c.toNat-48))/10<n)↔(9223372036854775807<n*10+(c.toNat-48)):=o_
 rw[Nat.mul_comm 10 n];by_cases a:9223372036854775807<n*10+(c.toNat-48)
 ·rw[if_pos (e.2 a),if_pos a]
 ·rw[if_neg (λx=>a (e.1 x)),if_neg a]
def CN:∀(l:List UInt8) (acc:Nat),(∀c∈l,bF c=true)->9223372036854775807<acc->Lib.parseUintM (2 ^ 64-1) acc l=.range\/∃u,Lib.parseUintM (2 ^ 64-1) acc l=.ok u/\9223372036854775808<=u
 |[],acc,_,h=>JR ⟨acc,rfl,o_⟩
 |c::r,acc,a,h=>by
  have d:=qS (a c (KW ..));rw[Lib.parseUintM,if_pos d];by_cases b:1844674407370955162<=acc
  ·rw[if_pos b];exact JX rfl
  ·omega
def oW:∀(l:List UInt8) (acc:Nat),(∀c∈l,bF c=true)->acc<=9223372036854775807->
 (∃v,bY acc l=some v/\Lib.parseUintM (2 ^ 64-1) acc l=.ok v/\v<=9223372036854775807)\/(bY acc l=none/\(Lib.parseUintM (2 ^ 64-1) acc l=.range\/∃u,Lib.parseUintM (2 ^ 64-1) acc l=.ok u/\9223372036854775808<=u))
 |[],acc,_,h=>JX ⟨acc,rfl,rfl,h⟩
 |c::r,acc,b,h=>by
  have g:=qS (b c (KW ..));have e:∀x∈r,bF x=true:=λx i=>b x (LN _ i)
  rw[wO acc c r g,Lib.parseUintM,if_pos g];by_cases a:9223372036854775807<acc*10+(c.toNat-48)
  ·refine JR ⟨if_pos a,?_⟩;by_cases d:1844674407370955162<=acc
   ·rw[if_pos d];exact JX rfl
   ·rw[if_neg d];by_cases f:2 ^ 64-1<acc*10+(c.toNat-48)
    ·rw[if_pos f];exact JX rfl
    ·rw[if_neg f];exact CN r _ e a
  ·rw[if_neg a,if_neg o_,if_neg o_]
   exact oW r _ e o_
def BU(l:List UInt8)(e:∀c∈l,bF c=true)(d:l≠[]):(∃v,bY 0 l=some v/\Lib.parseIntB 64 l=.ok (v:Int))\/(bY 0 l=none/\Lib.parseIntB 64 l=.range):=by
 cases l with
 |nil=>exact absurd rfl d
 |cons c r=>
  have i:=qS (e c (KW ..));have h:¬(c.toNat=43\/c.toNat=45):=o_
  have f:¬c.toNat=45:=o_
  unfold Lib.parseIntB;simp only[if_neg h];unfold Lib.parseUintB;rw[if_neg s_]
  rcases oW (c::r) 0 e o_ with ⟨v,b,a,g⟩|⟨b,a|⟨u,a,g⟩⟩
  ·refine JX ⟨v,b,?_⟩;rw[a];simp only[f];rw[if_neg o_]
   simp
  ·exact JR ⟨b,by rw[a]⟩
  ·refine JR ⟨b,?_⟩;rw[a];simp only[f];rw[if_pos ⟨s_,o_⟩]
end Go.Proofs.YthbffcmfmjpncaaGreatDoor
