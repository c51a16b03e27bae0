/- What a program prints that comes to its end. -/
import Derived.Test.YtlflgmdcghfngaaGreatDoorP20
set_option linter.defProp false
set_option maxRecDepth 100000
set_option maxHeartbeats 4000000
namespace Go.Proofs.YtlflgmdcghfngaaGreatDoor
open Hs
open _root_.Go.Proofs.Tryz
open Go.RowKit
variable{l:List (Value × Value)}{ks:List aE}{a b b_:Nat}{w:aG}{v:aQ}{s:aW}{F:bY}
def DF{l:cC}(b:cO l=.ok ks)(e:cE l=(0,0)):Good ks:=by
 obtain⟨g,d⟩:=OA b e;have a:=JP b;have h:=(lP b).len;exact⟨o_,g,a,λf c=>by have:=((lP b).mem c).y_.len;omega,d,WK a⟩
def NO{a:List Int}:∀(d t:Nat) (z:aW),bT ks a (t+1+d)=some z->∃x,bT ks a t=some x/\x.stop=0
 |0,t,z,h=>by
  unfold bT at h ⊢
  rw[Nat.add_zero,fB] at h;cases b:fB (dC ks 2001) (gD ks 2001 a) t with
  |none=>rw[b] at h;cases h
  |some x=>
   rw[b] at h;simp only at h;split at h
   ·rename_i e;exact⟨x,rfl,e⟩
   ·cases h
 |d+1,t,z,h=>by
  obtain⟨x,c,_⟩:=NO 0 (t+1+d) z (by rw[show t+1+d+1+0=t+1+(d+1) by omega];exact h)
  exact NO d t x c
def RF{a:List Int}{t u:Nat}{z:aW}(h:bT ks a u=some z)(b:t<u):∃x,bT ks a t=some x/\x.stop=0:=NO (u-t-1) t z (by rw[show t+1+(u-t-1)=u by omega];exact h)
def S7{a:List Int}{τ:aW}{b:Bool}(k:bT ks a s.m_=some s)(h:QG (bT ks a) (λ_=>true) s τ b):(b=true/\τ.m_=s.m_+1/\s.stop=0)\/(b=false/\τ=s/\s.stop≠0):=by
 rcases h with ⟨f,e,d⟩|⟨f,e,d,i,_⟩
 ·exact d6 ⟨f,e,d⟩
 ·refine d7 ⟨f,?_,?_⟩
  ·rcases fu (s.m_+1) τ.m_ with g|g
   ·obtain⟨x,c,_⟩:=RF d g;have:=i _ x o_ g c
    cases this
   ·omega
  ·obtain⟨x,c,j⟩:=RF d e;rw[k] at c;cases c;exact j
def Below.fs{W W':aG}{sb:Nat}(h:Below w.heap.size w W)(a:FS sb W W')(d:w.heap.size<=sb)(c:∀k,nD sb W=some k->sb<k):Below w.heap.size w W':=
 ⟨a.os.trans h.os,a.tape.trans h.tape,a.output.trans h.output,em h.size a.size,λk b=>by
   have:=h.size;rw[a.blk k o_ o_ λe=>by have:=c k e;omega];exact h.block k b⟩
def SE(w:aG)(j:cC)(T:Nat)(h:cN)(hE:zW j T h)(hT:fX w)(hp:kE w)(aa:9<=w.heap.size):
 Calls prog 27 #[.string (bs j)] w λe o=>∃x n c,e=aX (.tuple #[.slice x n c,I_ T,.bool true])/\qY w.heap.size o (.slice x n c) h/\Below w.heap.size w o:=by
 obtain⟨N,V,l,D,I⟩:=hE;have U:=DF l D;have d:bT N [] T=some ⟨T,⟨[],V,h⟩,1⟩:=I;have E:=U.sta d;have K:T<=500:=E.1.m_
 have Q:j.length<=2000:=by
  unfold cO at l;split at l
  ·cases l
  ·omega
 refine(OD w (bs j) T K (λm W=>qY w.heap.size W (.slice m.x3 m.n3 m.c3) h/\Below w.heap.size w W)
  (λt A W=>∃u G y B n s,Live u G W A y B N [] s n []/\s.m_=t/\t<=T/\w.heap.size<=A/\Below w.heap.size w W)
  (λA W=>∃u G y B n,Live u G W A y B N [] ⟨T,⟨[],V,h⟩,1⟩ n []/\Below w.heap.size w W) ?_ (λt A W hL=>?_) (λA W hM=>?_)).mono ?_
 ·refine(FY (bs j) (bG) [] w hT hp (by rw[gJ];omega) (d7 ⟨rfl,rfl⟩) s_ (λM r f=>?_)).mono ?_
  ·rw[gR] at r f;exact DF r f
  ·rintro e o ⟨v,rfl,C,Z⟩;rw[gR] at Z;rcases Z with ⟨_,M,u,G,A,y,F,rfl,L,P,q4,s,q5,q6,_⟩|⟨p,_⟩
   ·rw[l] at F;cases F;exact⟨A,rfl,u,G,y,_,1,s,⟨q5,q4,hp.below C,⟨o_,o_⟩,o_,λb C=>by cases C⟩,q6,o_,L,C⟩
   ·rw[D] at p;exact absurd rfl p
 ·obtain⟨u,G,y,B,n,s,r,f,h3,X,h5⟩:=hL;refine(RE U s_ r).mono ?_
  rintro e o ⟨b,rfl,O,S,τ,F,L,P⟩;have z:Below w.heap.size w o:=Below.fs h5 P X λk J=>(r.row J).1
  have a:=r.ses.now;rcases S7 a L with ⟨rfl,Y,H⟩|⟨rfl,rfl,H⟩
  ·refine d7 ⟨?_,rfl,u,O,y,B,S,τ,F,o_,?_,X,z⟩
   all_goals
    refine Nat.lt_of_le_of_ne h3 λe=>?_
    rw[f,e,d] at a;cases a;exact absurd H s_
  ·have ht:t=T:=by
    rcases fu t T with h6|h6
    ·obtain⟨x,h7,h8⟩:=RF d h6;rw[<-f,a] at h7;cases h7;exact absurd h8 H
    ·omega
   subst ht;rw[f,d] at a;cases a;exact d6 ⟨rfl,rfl,u,O,y,B,S,F,z⟩
 ·obtain⟨u,G,y,B,n,r,f⟩:=hM;refine(ae_ r.ses rfl (by have:=E.2.2.1.out;simp only at this ⊢;omega)).mono ?_
  rintro e o ⟨m,rfl,C,e1,Y,H,e4,ho⟩;refine⟨m,rfl,e1,Y,H,λq=>⟨?_,?_⟩⟩
  ·have p:qY w.heap.size o (.slice m.x3 m.n3 m.c3) h:=by
    obtain⟨x,c,a1,a2⟩:=ho;refine⟨x,c,a1,λi hi=>?_⟩
    obtain⟨g,b1,b2,b3,b4⟩:=a2 i hi;exact⟨g,b1,b2,em f.size b3,b4⟩
   refine p.keep (λk _ J=>?_) ?_
   ·exact ek o (.cells m.cells 35) k J
   ·show o.heap.size<=(o.alloc (.cells m.cells 35)).heap.size
    simp
  ·have p:=(f.trans (C.mono f.size)).alloc (f.trans (C.mono f.size)).size (.cells m.cells 35);exact⟨p.os,p.tape,p.output,p.size,p.block⟩
 ·rintro e o ⟨m,rfl,r,f⟩;exact⟨_,_,_,rfl,r,f⟩
open Go.RowKit Go.Sort
def I9(x y a b:ByteArray)(w:aG):
 Calls prog 76 #[.agg #[.string x,.string a],.agg #[.string y,.string b]] w λe d=>e=aX (I_ (Lib.compareBytes x.data.toList y.data.toList))/\∃q c,d=grow (w.drewN q) c:=by
 go_in
 go_wp2_with fail;refine(strings_Compare x y _).mono ?_;rintro e f ⟨rfl,rfl⟩;go_wp2
 go_ret;refine⟨rfl,0,#[Obj.cells #[.string x,.string a] 65,Obj.cells #[.string y,.string b] 65],?_⟩;rw[alloc_eq_grow,alloc_eq_grow,grow_grow];rfl
def G7:∀a:cC,Lib.compareBytes a a=0
 |[]=>rfl
 |a::l=>by rw[Lib.compareBytes,if_neg (UInt8.lt_irrefl a),if_neg (UInt8.lt_irrefl a)];exact G7 l
def PT:∀a b:cC,Lib.compareBytes b a= -Lib.compareBytes a b
 |[],[]=>rfl
 |[],_::_=>rfl
 |_::_,[]=>rfl
 |a::l,b::m=>by
  rw[Lib.compareBytes,Lib.compareBytes];by_cases c:a<b
  ·rw[if_pos c,if_neg (UInt8.lt_asymm c),if_pos c];rfl
  ·by_cases d:b<a
   ·rw[if_pos d,if_neg c,if_pos d]
   ·rw[if_neg c,if_neg d,if_neg c,if_neg d];exact PT l m
def aT_:∀a b:cC,Lib.compareBytes a b=0->a=b
 |[],[],_=>rfl
 |[],_::_,h=>by simp[Lib.compareBytes] at h
 |_::_,[],h=>by simp[Lib.compareBytes] at h
 |a::l,b::m,h=>by
  rw[Lib.compareBytes] at h;by_cases c:a<b
  ·rw[if_pos c] at h;cases h
  ·by_cases d:b<a
   ·rw[if_neg c,if_pos d] at h;cases h
   ·rw[if_neg c,if_neg d] at h;obtain rfl:a=b:=UInt8.le_antisymm (jr.1 d) (jr.1 c);rw[aT_ l m h]
def GZ:∀a b c:cC,Lib.compareBytes a b<0->Lib.compareBytes b c<0->Lib.compareBytes a c<0
 |[],[],_,h,_=>by simp[Lib.compareBytes] at h
 |_::_,[],_,h,_=>by simp[Lib.compareBytes] at h
 |_,_::_,[],_,h=>by simp[Lib.compareBytes] at h
 |[],_::_,_::_,_,_=>by simp[Lib.compareBytes]
 |a::l,b::m,c::n,h,k=>by
  rw[Lib.compareBytes] at h k ⊢
  by_cases f:a<b
  ·by_cases d:b<c
   ·rw[if_pos (UInt8.lt_trans f d)];decide
   ·rw[if_neg d] at k;by_cases e:c<b
    ·rw[if_pos e] at k;omega
    ·obtain rfl:b=c:=UInt8.le_antisymm (jr.1 e) (jr.1 d);rw[if_pos f];decide
  ·rw[if_neg f] at h;by_cases d:b<a
   ·rw[if_pos d] at h;omega
   ·obtain rfl:a=b:=UInt8.le_antisymm (jr.1 d) (jr.1 f);rw[if_neg d] at h;by_cases e:a<c
    ·rw[if_pos e];decide
    ·rw[if_neg e] at k ⊢
     by_cases g:c<a
     ·rw[if_pos g] at k;omega
     ·rw[if_neg g] at k ⊢
      exact GZ l m n h k
def bO_:SWO (λx y:cC=>decide (Lib.compareBytes x y<0)):=by
 refine⟨λx=>by simp[G7],λx y z h k=>?_,λx y z h k=>?_⟩
 ·simp only[decide_eq_true_eq] at h k ⊢
  exact GZ x y z h k
 ·simp only[decide_eq_false_iff_not] at h k ⊢
  intro a;by_cases e:Lib.compareBytes x y=0
  ·rw[aT_ x y e] at a;exact k a
  ·have b:Lib.compareBytes y x<0:=by rw[PT x y];omega
   exact k (GZ y x z b a)
def YH(x y:cC)(h:decide (Lib.compareBytes x y<0)=false)(k:decide (Lib.compareBytes y x<0)=false):x=y:=by
 simp only[decide_eq_false_iff_not] at h k;rw[PT x y] at k;exact aT_ x y o_
def lX(l:List (Value × Value)):List Value:=l.flatMap λp=>[p.1,p.2]
def BB(l:List (Value × Value))(p:Value × Value):lX (l++[p])=lX l++[p.1,p.2]:=by simp[lX]
def sH(l:List (cC × Nat)):List (Value × Value):=l.map λp=>(Value.string (bs p.1),Value.int .i64 p.2)
def b0_:(prog.info? 63).map (λi=>(i.zero,i.size,i.bytes))=some (some (.agg #[.string ⟨#[]⟩,I_ 0]),2,24):=k_
def ai_(w:aG)(a b:aQ):∀j u,([a,b]:List Value)[j]?=some u->(w.alloc (.cells #[a,b] 63)).cell? ((⟨w.heap.size,0,none⟩:Addr).add j)=some u:=by
 intro j u c;exact World.news_of_block (cs:= #[a,b]) (aN _ _ rfl _) j u c
def bD_(x:ByteArray)(n:Int):∀u∈([.string x,I_ n]:List Value),u.oneCell'=true:=by
 intro u a;simp at a;rcases a with rfl|rfl<;>rfl
def WU(w:aG)(s:SV)(gf:Nat)(l:List (cC × Nat))(hx:s.x1=some (aH gf 0))(hn:s.n1=l.length)(hl:l.length<=16)
 (P:Hid (∀W,Below w.heap.size w W->∀j (h:j<l.length),gf<W.heap.size/\∃n B C E I H G D K,W.cell? (aH gf (j*6))=some (aZ n)/\W.cell? (aH gf (j*6+1))=some (I_ B)/\W.cell? (aH gf (j*6+2))=some (I_ (l[j].2:Nat))/\W.cell? (aH gf (j*6+3))=some (.pointer C)/\W.cell? (aH gf (j*6+4))=some (.slice E I H)/\W.cell? (aH gf (j*6+5))=some (.slice G D K)/\W.cell? (aH n 0)=some (.string (bs l[j].1))/\n<w.heap.size)):
 Calls prog 44 #[s.val] w λe Z=>∃x c,e=aX (.slice x l.length c)/\Z.ownsRow w.heap.size 63 2 (.slice x l.length c) l.length (lX (sH l))/\Below w.heap.size w Z:=by
 obtain⟨i0,hi,O,T,Q⟩:=info_parts b0_;obtain⟨t,x1,x2,x3,n1,n2,n3,c1,c2,c3,q⟩:=s;subst hx hn;unfold SV.val;go_in
 go_wp2_with fail;go_loopg [3,9] l.length (λgk v i wr=>∃j:Nat,j+gk=l.length/\i=I_ j/\(∃y d,v=.slice y j d)/\wr.ownsRow w.heap.size 63 2 v j (lX (sH (l.take j)))/\Below w.heap.size w wr)
 case atStart=>exact⟨0,o_,rfl,⟨none,0,rfl⟩,World.ownsRow_nil _ _ _ _,(eh _ _).alloc cL _⟩
 case round=>
  obtain⟨j,hj,rfl,⟨y,d,rfl⟩,b,a⟩:=hrel;by_cases z:j<l.length
  ·obtain⟨m,rfl⟩:∃m,gk=m+1:=⟨gk-1,o_⟩
   obtain⟨k0,n,B,C,E,I,H,G,D,K,k1,k2,k3,k4,k5,k6,U,k8⟩:=P wr a j z;have N:=a.size;have F:=aB b;have J:=aB a;clear b a;have e1:(0:Int)<=(j:Int):=o_
   have e2:(j:Int)<(l.length:Int):=o_
   go_wp2_with fail;generalize f:wr.alloc (.cells #[aZ n,I_ B,I_ (l[j].2:Nat),.pointer C,.slice E I H,.slice G D K] 118)=o;have p:o.heap[wr.heap.size]?=some (.cells #[aZ n,I_ B,I_ (l[j].2:Nat),.pointer C,.slice E I H,.slice G D K] 118 (0,0)):=by rw[<-f];exact aN _ _ rfl _
   have Y:wr.heap.size<o.heap.size:=by rw[<-f];simp
   have a0:=aA (i:=0) p rfl;have a2:=aA (i:=2) p rfl;have a7:o.cell? (aH n 0)=some (.string (bs l[j].1)):=by rw[<-f];exact(World.cell?_of_block (ek wr _ n o_)).trans U
   have u:Hid (o.drew.ownsRow w.heap.size 63 2 (.slice y j d) j (lX (sH (l.take j)))):=aB (by rw[<-f];exact F.alloc _)
   have S:Hid (Below w.heap.size w o):=aB (by rw[<-f];exact J.alloc N _)
   have A:sH (l.take (j+1))=sH (l.take j)++[(.string (bs l[j].1),I_ (l[j].2:Nat))]:=by
    rw[gu z];simp only[sH,gi,fg,gd]
   have L:=aB A;clear p k1 k2 k3 k4 k5 k6 U k0 f F J A P;generalize l[j].1=nm at*;generalize l[j].2=ln at*;go_region_law (refine step_append_lies _ r_ _ _ 30 r_ w.heap.size 63 i0 _ 2 24 underlying30 hi O T Q rfl d_ (.slice y j d) j _ r_ (u.alloc _) (aH o.heap.size 0) 1 1 [.string (bs nm),I_ (ln:Nat)] r_ r_ (ai_ o.drew _ _) (bD_ _ _) d_ (by unfold maxLen;omega) o_ t_ (o.heap.size+1) s_ ?_;intro g5 V w5 r g X aa)
   all_goals
    go_wp2
    go_roundg m
    case measure=>omega
    case rel=>
     refine⟨j+1,o_,by go_num,⟨_,_,rfl⟩,by rw[L.out,BB];exact r,?_⟩
     exact(S.drew.alloc t_ _).grown g t_ λk hk=>(u.lt k hk).1
  ·have M:j=l.length:=o_
   subst M;rw[gv cL] at b;have F:=aB b;have J:=aB a;clear b a P;go_wp2
   go_ret;exact⟨_,_,rfl,F,J⟩
def LL(w:aG)(s:SV)(gf n:Nat)(b:Option Addr)(f:s.x1=some (aH gf 0))(g:s.n1=n+1)(c:n<=1000)(u:w.cell? (aH gf (n*6+3))=some (.pointer b))(a:gf<w.heap.size):
 Calls prog 72 #[s.val] w λe h=>e=aX (.pointer b)/\Below w.heap.size w h:=by
 obtain⟨t,B,p,i,A,r,j,d,m,o,q⟩:=s;simp only at f g;subst f g;unfold SV.val;have z:(((n+1:Nat):Int)==0)=false:=t_
 have x:=aB λ(W:aG) k=>nG w.heap.size gf n d W k c
 go_in
 go_wp2_with fail;refine(x _ ?_).mono ?_
 ·simp[go_sem]
 rintro e y ⟨rfl,l,rfl⟩
 have v:((w.alloc (.cells #[I_ t,.slice (some (aH gf 0)) (n+1) d,.slice p r m,.slice i j o,I_ q] 53)).drewN l).cell? (aH gf (n*6+3))=some (.pointer b):=by
  show (w.alloc _).cell? _=_
  rw[World.cell?_of_block (ek _ _ _ a)];exact u
 go_wp2
 go_ret;refine⟨rfl,((eh w.heap.size w).alloc cL _).trans ⟨rfl,rfl,rfl,cL,λ_ _=>rfl⟩⟩
def oA(val:cC->cC)(l:cN):List (Value × Value):=l.map λx=>(Value.string (bs x),Value.string (bs (val x)))
def bX_:(prog.info? 65).map (λi=>(i.zero,i.size,i.bytes))=some (some (.agg #[.string ⟨#[]⟩,.string ⟨#[]⟩]),2,32):=k_
def af_(w:aG)(a b:aQ):∀j u,([a,b]:List Value)[j]?=some u->(w.alloc (.cells #[a,b] 65)).cell? ((⟨w.heap.size,0,none⟩:Addr).add j)=some u:=by
 intro j u c;exact World.news_of_block (cs:= #[a,b]) (aN _ _ rfl _) j u c
def bB_(x y:ByteArray):∀u∈([.string x,.string y]:List Value),u.oneCell'=true:=by
 intro u a;simp at a;rcases a with rfl|rfl<;>rfl
def I8(w B:aG)(F:bY)(s:SV)(gf n:Nat)(p0:Option Addr)(e_:cN)(j:cC->cC)(S:Option Addr->Nat->World->Prop)
 (hx:s.x1=some (aH gf 0)) (hn:s.n1=n+1) (au:n<=1000) (u:w.alloc (.cells s.cells 53)=B) (hF:∀b,F b->b<w.heap.size) (hs:eF F w (.pointer p0) e_) (hl:e_.length<=90001)
 (HS:Hid (Calls prog 72 #[s.val] B λe G=>e=aX (.pointer p0)/\Below B.heap.size B G))
 (HV:Hid (∀W a x l,Below B.heap.size B W->e_=a++x::l->∃g4 n4 c4 t z,W.cell? (aH gf (n*6+4))=some (.slice (some (aH g4 0)) n4 c4)/\gf<W.heap.size/\l.length<n4/\W.cell? (aH g4 l.length)=some (.iface t z)/\g4<W.heap.size/\Calls prog 73 #[.iface t z] W λe G=>e=aX (.string (bs (j x)))/\Below W.heap.size W G))
 (HO:Hid (∀W y d,W.ownsRow B.heap.size 65 2 (.slice y e_.length d) e_.length (lX (oA j e_))->Below B.heap.size B W->Calls prog 75 #[.slice y e_.length d,.func (.func 76) #[] #[]] W λe G=>e=aX (.tuple #[])/\S y d G)):
 Calls prog 45 #[s.val] w λe G=>∃y d,e=aX (.slice y e_.length d)/\S y d G:=by
 obtain⟨i0,hi,ae,ap,aj⟩:=info_parts bX_;obtain⟨t,x1,x2,x3,n1,n2,n3,c1,c2,c3,q⟩:=s;simp only at hx hn;subst hx hn;unfold SV.cells at u;unfold SV.val at HS;unfold SV.val;have A:B.heap[w.heap.size]?=some (.cells #[I_ t,.slice (some (aH gf 0)) (n+1) c1,.slice x2 n2 c2,.slice x3 n3 c3,I_ q] 53 (0,0)):=by rw[<-u];exact aN _ _ rfl _
 have ay:B.heap.size=w.heap.size+1:=by rw[<-u];simp
 have T:Below w.heap.size w B:=by rw[<-u];exact(eh _ w).alloc cL _
 have HW:=aB u;have af:=aB hs;have HF:=aB hF;have ai:=aB T;have am:=aB A;have c0:=aA (i:=0) A rfl;have ao:=aA (i:=1) A rfl;have ag:=aA (i:=2) A rfl;have aw:=aA (i:=3) A rfl;have O:=aA (i:=4) A rfl;clear u hs hF T A;go_in
 go_wp2_with fail;rw[HW.out];go_wp2_with fail;refine HS.mono ?_;rintro e w1 ⟨rfl,Z⟩;have al:=aB Z;clear Z HS c0 ao ag aw O;go_wp2_with fail;go_loopg [3,4] e_.length (λgk v p wr=>∃a r,e_=a++r/\r.length=gk/\eF F w p r/\(∃y d,v=.slice y a.length d)/\wr.ownsRow B.heap.size 65 2 v a.length (lX (oA j a))/\Below B.heap.size B wr)
 case atStart=>exact⟨[],e_,rfl,rfl,af,⟨none,0,rfl⟩,World.ownsRow_nil _ _ _ _,al⟩
 case round=>
  obtain⟨a,r,N,U,K,⟨y,d,rfl⟩,D,f⟩:=hrel;cases r with
  |nil=>
   rw[jj] at N;subst N;have ar:_=Value.pointer none:=K;subst ar;have HX:=aB (HO wr y d D f);clear D f HO HV K;go_wp2_with fail;refine HX.mono ?_;rintro e w2 ⟨rfl,h2⟩;have H2:=aB h2;clear h2;go_wp2
   go_ret;exact⟨_,_,rfl,H2⟩
  |cons x l=>
   obtain⟨b,o,rfl,ad,Y,M⟩:=K;obtain⟨po,rfl⟩:=M.form;obtain⟨m,rfl⟩:∃m,gk=m+1:=⟨gk-1,by simp at U;omega⟩
   obtain⟨g4,n4,c4,ty,z,v1,v2,v3,v4,v5,ah⟩:=HV wr a x l f N;have X:=HF b ad;have C:wr.heap[b]?=some (.cells #[.string (bs x),I_ l.length,.pointer po] 133 (0,0)):=by rw[f.block b o_,ai.out.block b X];exact Y
   have k0:=aA (i:=0) C rfl;have k1:=aA (i:=1) C rfl;have k2:=aA (i:=2) C rfl;have an:=aC C;have P:wr.heap[w.heap.size]?=_:=(f.block _ o_).trans am
   have kb:=aA (i:=1) P rfl;have ab:=f.size;have ba:a.length<=90001:=by have:=congrArg List.length N;simp at this;omega
   have ak:=aB D;have HB:=aB f;clear D f Y C P;have e1:(0:Int)<=(l.length:Int):=o_
   have e2:(l.length:Int)<(n4:Int):=o_
   have HT:Hid (∀W,aU wr W->Calls prog 74 #[aZ w.heap.size] W λe G=>e=aX (.pointer (some (aH gf (n*6))))/\aU wr G):=aB λW u=>(nG w.heap.size gf n c1 W (bN u.heap kb) au).mono λe G ⟨he,q,hq⟩=>⟨he,by rw[hq];exact u.trans (aU.drewN _ _)⟩
   have HR:Hid (∀W,aU wr W->Calls prog 73 #[.iface ty z] W λe G=>e=aX (.string (bs (j x)))/\Below wr.heap.size wr G):=aB λW u=>by
    have aq:Below B.heap.size B W:=HB.trans ⟨u.os,u.tape,u.output,by rw[u.heap];exact en _,λk _=>by rw[u.heap]⟩
    obtain⟨bb,bc,O,bd,z',r1,r2,r3,r4,r5,r6⟩:=HV W a x l aq N;rw[bN u.heap v1] at r1;cases r1;rw[bN u.heap v4] at r4;cases r4;refine r6.mono λe G ⟨he,hb⟩=>⟨he,?_⟩
    exact Below.trans (b:=W) ⟨u.os,u.tape,u.output,by rw[u.heap];exact en _,λk _=>by rw[u.heap]⟩ (by rw[<-u.heap];exact hb)
   have K0:=aB k0;have K1:=aB k1;have K2:=aB k2;have V1:=aB v1;have V4:=aB v4;clear ah HV HO kb v2 v5
   have aa:Hid (∀(W:aG) (g c:Nat),W.ownsRow B.heap.size 65 2 (.slice (some (aH g 0)) (a.length+1) c) (a.length+1) (lX (oA j a)++[.string (bs x),.string (bs (j x))])->W.ownsRow B.heap.size 65 2 (.slice (some (aH g 0)) (a.length+1) c) (a++[x]).length (lX (oA j (a++[x])))):=aB λW g c h=>by
    have e:oA j (a++[x])=oA j a++[(.string (bs x),.string (bs (j x)))]:=by simp[oA]
    rw[e,BB,el];exact h
   generalize j x=tx at*;go_wp2_with fail;go_region_law (first|(refine step_append_lies _ r_ _ _ 31 r_ B.heap.size 65 i0 _ 2 32 underlying31 hi ae ap aj rfl d_ (.slice y a.length d) a.length _ r_ (Q.alloc _) (aH w2.heap.size 0) 1 1 [.string (bs x),.string (bs tx)] r_ r_ (af_ w2 _ _) (bB_ _ _) d_ (by unfold maxLen;omega) o_ t_ (w2.heap.size+1) s_ ?_;intro g5 V w5 J E az be)|(go_simp;first|(go_at_call 74;refine(HT _ (aU.drew _)).mono ?_;rintro e w1 ⟨rfl,I⟩;have d0:=bN I.heap K0;have d1:=bN I.heap K1;have d2:=bN I.heap V1;have d3:=bN I.heap V4)|(go_at_call 73;refine(HR _ I).mono ?_;rintro e w2 ⟨rfl,H⟩;have d4:=(World.cell?_of_block (H.block b an)).trans K0;have ax:=H.size;have Q:=aB (iO ak H))))
   all_goals
    have L:Below B.heap.size B w5:=((HB.trans (H.mono ab)).alloc o_ _).grown E t_ λk hk=>(Q.lt k hk).1
    have k5:w5.cell? (aH b 2)=some (.pointer po):=(World.cell?_of_block ((L.block b o_).trans (HB.block b o_).symm)).trans K2
    have H5:=aB L;have ac:=aB J;have av:=aB M;clear L J E M H;go_wp2
    go_roundg m
    case measure=>omega
    case rel=>exact⟨a++[x],l,by rw[N];simp,by simp at U;omega,av,⟨some (aH g5 0),V,s_⟩,aa _ _ _ ac,H5⟩
def gS(b_:Nat)(w:aG)(v:aQ)(l:List (Value × Value)):Prop:=∃x c,v=.slice x l.length c/\∀i (h:i<l.length),∃g,x=some (aH g 0)/\w.cell? (aH g (i*2))=some l[i].1/\w.cell? (aH g (i*2+1))=some l[i].2/\b_<=g/\g<w.heap.size
def gS.keep{w':aG}(h:gS b_ w v l)(d:∀k,b_<=k->k<w.heap.size->w'.heap[k]?=w.heap[k]?)(o:w.heap.size<=w'.heap.size):gS b_ w' v l:=by
 obtain⟨x,c,m,f⟩:=h;refine⟨x,c,m,λi p=>?_⟩
 obtain⟨g,e,n,j,a,b⟩:=f i p;exact⟨g,e,by rw[World.cell?_of_block (d g a b)];exact n,by rw[World.cell?_of_block (d g a b)];exact j,a,ej b o⟩
def qU:∀(l:List (Value × Value)) (i:Nat) (h:i<l.length),(lX l)[i*2]?=some l[i].1/\(lX l)[i*2+1]?=some l[i].2
 |[],_,h=>by simp at h
 |p::l,0,_=>⟨rfl,rfl⟩
 |p::l,i+1,h=>by
  have:=qU l i (by simpa using h)
  rw[show (i+1)*2=i*2+1+1 by omega]
  exact this
def N7{T:TypeId}{x:Option Addr}{c:Nat}(h:w.ownsRow b_ T 2 (.slice x l.length c) l.length (lX l)):gS b_ w (.slice x l.length c) l:=by
 refine⟨x,c,rfl,λi f=>?_⟩
 rcases h.2 with ⟨e,a⟩|⟨g,m,j,e,a,k,n⟩
 ·omega
 ·cases e;have b:=h.cells (g:=g) rfl (i*2) _ (qU l i f).1;have d:=h.cells (g:=g) rfl (i*2+1) _ (qU l i f).2;rw[pH] at b d;exact⟨g,rfl,b,d,a,aC k⟩
def lR(l:cN):cN:=l.mergeSort λx y=> !decide (Lib.compareBytes y x<0)
def nT(l:cN):(lR l).length=l.length:=by simp[lR]
def tB(val:cC->cC)(x:cC):List Value:=[.string (bs x),.string (bs (val x))]
def NT(W:aG)(b_:Nat)(y:Option Addr)(d:Nat)(e_:cN)(a:cC->cC)(h:W.ownsRow b_ 65 2 (.slice y e_.length d) e_.length (lX (oA a e_)))(Q:e_.length<=90001):
 Calls prog 75 #[.slice y e_.length d,.func (.func 76) #[] #[]] W λe t=>e=aX (.tuple #[])/\gS b_ t (.slice y e_.length d) (oA a (lR e_))/\Below b_ W t:=by
 have D:(oA a e_).length=e_.length:=by simp[oA]
 have f:(oA a (lR e_)).length=e_.length:=by simp[oA,nT]
 rcases h.2 with ⟨E,B⟩|⟨g,K,L,E,B,s,N⟩
 ·have e:e_=[]:=gg B;subst e;refine(AnyF.slices_SortFunc_none (P:=prog) (ρ:=sortL_ren) { sortL with } y d (.func (.func 76) #[] #[]) W).mono ?_
  rintro e t ⟨rfl,rfl⟩;exact⟨rfl,⟨y,d,by rw[f],λi b=>by rw[f] at b;simp at b⟩,eh _ _⟩
 ·cases E
  have G:HoldsK (tB a) 2 W g 0 e_.toArray:=λj I=>by
   rw[size_flatK,kj] at I;refine⟨?_,aD s⟩;rw[get_flatK _ _ _ _ (by simpa using I)]
   have b:j/2<(oA a e_).length:=by rw[D];omega
   obtain⟨r,u⟩:=qU (oA a e_) (j/2) b;have C:e_.toArray[j/2]! =e_[j/2]'(by omega):=by simp[getElem!_pos,show j/2<e_.length by omega]
   rw[C];rcases Nat.mod_two_eq_zero_or_one j with o|o
   ·have:=h.cells (g:=g) rfl j _ (by rw[show j=j/2*2 by omega];exact r)
    rw[pH] at this;rw[o,ge,this];simp[oA,tB]
   ·have:=h.cells (g:=g) rfl j _ (by rw[show j=j/2*2+1 by omega];exact u)
    rw[pH] at this;rw[o,ge,this];simp[oA,tB]
  have A:e_.length=e_.toArray.size:=s_
  have F:=AnyQ.slices_SortFunc_total (P:=prog) (ρ:=sortL_ren) { sortL with } 2 isAgg65 sizeOf65 (tB a) (λ_=>rfl) (λx v J=>by simp[tB] at J;rcases J with rfl|rfl<;>rfl) (λx y=>Lib.compareBytes x y) bO_ 76 #[] g 0 d e_.toArray W
   (enters_of func76 k_ rfl) (λm l M _ x y=>by
     have:=I9 (bs x) (bs y) (bs (a x)) (bs (a y)) (sortWorldK (tB a) 2 W g 0 m M l);rw[gR,gR] at this;exact this) G (aC s) t_ YH
  rw[<-A] at F;refine F.mono ?_;rintro e t ⟨rfl,n,l,rfl⟩;have H:HoldsK (tB a) 2 (putRowK (tB a) 2 (Go.Sort.ahead W n) g 0 (lR e_).toArray) g 0 (lR e_).toArray:=holdsK_putRowK (tB a) 2 (Go.Sort.ahead W n) g 0 e_.toArray _ G (by simp[nT])
  have q:g<(putRowK (tB a) 2 (Go.Sort.ahead W n) g 0 (lR e_).toArray).heap.size:=by rw[size_putRowK];exact aC s
  refine⟨rfl,⟨some (aH g 0),d,by rw[f],λi b=>?_⟩,?_⟩
  ·rw[f] at b;have p:i<(lR e_).toArray.size:=by simp[nT,b]
   have C:(lR e_).toArray[i]! =(lR e_)[i]'(by rw[nT];exact b):=by simp[getElem!_pos,nT,b]
   have r:=H.cell (i:=i) (c:=0) p o_
   have u:=H.cell (i:=i) (c:=1) p o_
   rw[C] at r u;refine⟨g,rfl,?_,?_,B,?_⟩
   ·show (grow (putRowK (tB a) 2 (Go.Sort.ahead W n) g 0 (lR e_).toArray) l).cell? (aH g (i*2))=_
    rw[cell?_grow _ _ (aH g (i*2)) q];simpa [oA,tB] using r.1
   ·show (grow (putRowK (tB a) 2 (Go.Sort.ahead W n) g 0 (lR e_).toArray) l).cell? (aH g (i*2+1))=_
    rw[cell?_grow _ _ (aH g (i*2+1)) q];simpa [oA,tB] using u.1
   ·show g<(grow (putRowK (tB a) 2 (Go.Sort.ahead W n) g 0 (lR e_).toArray) l).heap.size
    rw[size_grow];omega
  ·refine⟨rfl,rfl,rfl,?_,λk O=>?_⟩
   ·show W.heap.size<=(grow (putRowK (tB a) 2 (Go.Sort.ahead W n) g 0 (lR e_).toArray) l).heap.size
    rw[size_grow,size_putRowK];exact Nat.le_add_right _ _
   ·show (grow (putRowK (tB a) 2 (Go.Sort.ahead W n) g 0 (lR e_).toArray) l).heap[k]?=W.heap[k]?
    have z:k≠g:=o_
    have w:k<W.heap.size:=by have:=aC s;omega
    rw[heap_grow_old _ _ (by rw[size_putRowK];exact w)]
    simp only[putRowK,putRow,mapBlock,Array.getElem?_modify];rw[if_neg (Ne.symm z)];rfl
def IK.cells{x:Option Addr}{n c:Nat}{a:List FVal}(h:IK F w (.slice x n c) a)(i:Nat)(hi:i<a.length):∃g,x=some (aH g 0)/\n=a.length/\F g/\∀j u,j<6->a[i].cells[j]?=some u->w.cell? (aH g (i*6+j))=some u:=by
 rcases h with ⟨rfl,_⟩|⟨g,r,l,f,d,p,s,k⟩
 ·simp at hi
 ·cases f;refine⟨g,rfl,rfl,d,λj u q o=>?_⟩
  refine aA p ?_;have e:a=a.take i++a[i]::a.drop (i+1):=by rw[<-kh hi,g9]
  have m:(a.take i).length=i:=by rw[g8];omega
  have b:=TY (a.take i) (a.drop (i+1)) a[i] j q;rw[<-e,m,o,<-k,List.getElem?_take_of_lt o_,Array.getElem?_toList] at b
  exact b
def PVs.sl{l:List aM}(h:PVs F w v l):∃x n c,v=.slice x n c:=by
 rcases h with ⟨_,e⟩|⟨g,b,a,e,_⟩<;>exact⟨_,_,_,e⟩
section
variable {fp:eK} {F:bY} {w:aG} {s1:SV} {s:aW}
def jC.parts(h:jC fp F w s1.val s):∃a,IK F w (.slice s1.x1 s1.n1 s1.c1) a/\wH fp F w a s.m.f_/\II F w (.slice s1.x3 s1.n3 s1.c3) s.m.out:=by
 obtain⟨j,f,i,a,b,d,e,g,c⟩:=h;simp only[SV.val,Value.agg.injEq] at b;simp at b;rw[b.2.1,b.2.2.2.1];exact⟨a,d,e,c⟩
def jC.none(h:jC fp F w s1.val s)(f:s.m.f_=[]):s1.n1=0:=by
 obtain⟨a,j,i,_⟩:=h.parts;have b:=i.length;rw[f] at b;have:a=[]:=gg b;subst this;rcases j with ⟨_,x,c,e⟩|⟨g,c,d,e,_⟩
 ·simp at e;exact e.2.1
 ·simp at e;exact e.2.1
def jC.frame(h:jC fp F w s1.val s)(i:Nat)(hi:i<s.m.f_.length):∃g v,s1.x1=some ⟨g,0,Option.none⟩/\s1.n1=s.m.f_.length/\F g/\FrS fp F w v s.m.f_[i]/\∀j u,j<6->v.cells[j]?=some u->w.cell? ⟨g,i*6+j,Option.none⟩=some u:=by
 obtain⟨f,e,a,_⟩:=h.parts;have k:=a.length;obtain⟨g,b,l,c,d⟩:=e.cells i o_
 exact⟨g,_,b,o_,c,a.get i _ _ (fh o_) (fh hi),d⟩
def K8(h:jC fp F w s1.val s)(r:∀b,F b->b<w.heap.size)(D:s.m.f_.length<=16):
 Calls prog 44 #[s1.val] w λe k=>∃x n c,e=aX (.slice x n c)/\gS w.heap.size k (.slice x n c) (sH (gQ s.m.f_))/\Below w.heap.size w k:=by
 have a:(gQ s.m.f_).length=s.m.f_.length:=by simp[gQ]
 have u:(sH (gQ s.m.f_)).length=(gQ s.m.f_).length:=by simp[sH]
 by_cases o:s.m.f_=[]
 ·refine(EO w s1 (h.none o)).mono ?_;rintro e k ⟨rfl,l⟩;exact⟨Option.none,0,0,rfl,⟨Option.none,0,by rw[o];rfl,λi A=>by rw[o] at A;simp[sH,gQ] at A⟩,l⟩
 ·have m:0<s.m.f_.length:=gx.2 o;obtain⟨Q,v,B,O,e3,_,_⟩:=h.frame 0 m;refine(WU w s1 Q (gQ s.m.f_) B (by rw[a];exact O) (by rw[a];exact D) λW y j q=>?_).mono ?_
  ·rw[a] at q;have t:=h.keep (w':=W) (λb l=>y.block b (r b l)) dP
   obtain⟨g,v,C,a2,N,f,d⟩:=t.frame j q;rw[B] at C;cases C;obtain⟨V,Z,M,P,E,T,K,_⟩:=f.fn;obtain⟨p,U⟩:=eF.form f.sp;obtain⟨I,L,Y,G⟩:=PVs.sl f.g_;obtain⟨X,H,S,J⟩:=PVs.sl f.ops;refine⟨ej (r _ N) y.size,V,s.m.f_[j].next,p,I,L,Y,X,H,S,d 0 _ o_ ?_,d 1 _ o_ ?_,d 2 _ o_ ?_,d 3 _ o_ ?_,d 4 _ o_ ?_,d 5 _ o_ ?_,?_,r _ T⟩
   ·rw[<-E];rfl
   ·rw[<-f.nx];rfl
   ·rw[show ((gQ s.m.f_)[j]'(by rw[a];exact q)).2=s.m.f_[j].l_ by simp[gQ],<-f.ln];rfl
   ·rw[<-U];rfl
   ·rw[<-G];rfl
   ·rw[<-J];rfl
   ·rw[show ((gQ s.m.f_)[j]'(by rw[a];exact q)).1=s.m.f_[j].fn.name by simp[gQ]]
    exact aA K rfl
  ·rintro e k ⟨x,c,rfl,z,l⟩;refine⟨x,_,c,rfl,?_,l⟩;rw[<-u] at z ⊢
   exact N7 z
noncomputable def WB(f:aJ)(x:cC):cC:=cJ (f.g_[dV f.e_ x]?.getD bS)
noncomputable def zZ(s:aW):List (Value × Value):=match s.m.f_.getLast? with
 |Option.none=>[]
 |some f=>oA (WB f) (lR f.e_)
def l9{a l:cN}{x:cC}(h:(a++x::l).Nodup):dV (a++x::l) x=l.length:=by
 induction a with
 |nil=>simp[dV]
 |cons y a b=>
  rw[gb,e7] at h;rw[gb,dV,if_neg λe=>h.1 (by rw[e];simp)]
  exact b h.2
def Z9(h:jC fp F w s1.val s)(A:∀b,F b->b<w.heap.size)(hd:s.m.f_.length<=16)(hp:kE w)(S:mB s.m)(ht:∀x∈s.m.f_,x.e_.length<=x.g_.length):
 Calls prog 45 #[s1.val] w λe E=>∃x n c,e=aX (.slice x n c)/\gS w.heap.size E (.slice x n c) (zZ s)/\Below w.heap.size w E:=by
 by_cases L:s.m.f_=[]
 ·refine(LB w s1 (h.none L)).mono ?_;rintro e E ⟨rfl,B⟩;refine⟨Option.none,0,0,rfl,?_,B⟩;unfold zZ;rw[L];exact⟨Option.none,0,rfl,λi Q=>by simp at Q⟩
 ·obtain⟨n,hn⟩:∃n,s.m.f_.length=n+1:=⟨s.m.f_.length-1,by have:=gx.2 L;omega⟩
  have r:s.m.f_.getLast?=some (s.m.f_[n]'(by omega)):=by
   rw[ko,show s.m.f_.length-1=n by omega];exact fh _
  obtain⟨M,v,H,e2,T,Y,a5⟩:=h.frame n o_
  have k:s.m.f_[n]'(by omega)∈s.m.f_:=fo _
  obtain⟨⟨I,a⟩,_⟩:=S _ k;replace a:_<=90001:=em a o_
  have aa:=ht _ k;obtain⟨p,Z⟩:=eF.form Y.sp;have K:zZ s=oA (WB (s.m.f_[n]'(by omega))) (lR (s.m.f_[n]'(by omega)).e_):=by unfold zZ;rw[r]
  rw[K];have J:∀W,Below w.heap.size w W->jC fp F W s1.val s:=λW G=>h.keep (λb B=>G.block b (A b B)) dP
  generalize D:w.alloc (.cells s1.cells 53)=m;have f:Below w.heap.size w m:=by rw[<-D];exact(eh _ w).alloc cL _
  have o:w.heap.size<=m.heap.size:=f.size;refine(I8 w m F s1 M n p (s.m.f_[n]'(by omega)).e_ (WB (s.m.f_[n]'(by omega))) (λy d W=>gS m.heap.size W (.slice y (s.m.f_[n]'(by omega)).e_.length d) (oA (WB (s.m.f_[n]'(by omega))) (lR (s.m.f_[n]'(by omega)).e_))/\Below m.heap.size m W) H o_ o_ D A (by rw[<-Z];exact Y.sp) a ?_ (λW ab x l G N=>?_) (λW y d hO G=>?_)).mono ?_
  ·refine LL m s1 M n p H o_ o_ ?_ (ej (A _ T) o)
   rw[World.cell?_of_block (f.block M (A _ T))];exact a5 3 _ o_ (by rw[<-Z];rfl)
  ·have j:Below w.heap.size w W:=f.trans (G.mono o);obtain⟨g,v',X,d2,d3,O,d5⟩:=(J W j).frame n o_
   rw[H] at X;cases X
   have q:l.length<(s.m.f_[n]'(by omega)).g_.length:=by
    have:=congrArg List.length N;simp at this;omega
   obtain⟨x4,n4,c4,V⟩:=PVs.sl O.g_;have C:=O.g_;rw[V] at C;obtain⟨g4,u,f1,f2,f3,f4,f5,f6,U⟩:=C.get l.length q;obtain⟨t,z,rfl⟩:=U.form;refine⟨g4,n4,c4,t,z,d5 4 _ o_ (by rw[<-f1,<-V];rfl),ej (A _ T) j.size,o_,f6,f4,?_⟩
   have he:WB (s.m.f_[n]'(by omega)) x=cJ ((s.m.f_[n]'(by omega)).g_[l.length]'q):=by
    unfold WB;rw[N,l9 (by rw[<-N];exact I),fh q];rfl
   rw[he];exact nM F 200 _ _ W U (λb B=>ej (A b B) j.size) (hp.below j) (O.varsB _ (fo _)) o_
  ·refine(NT W m.heap.size y d _ _ hO a).mono ?_;rintro e E ⟨rfl,h1,P⟩;exact⟨rfl,h1,G.trans P⟩
  ·rintro e E ⟨y,d,rfl,⟨x,c,g1,g2⟩,P⟩;refine⟨_,_,_,rfl,⟨x,c,g1,λi Q=>?_⟩,f.trans (P.mono o)⟩
   obtain⟨g,k1,k2,k3,k4,k5⟩:=g2 i Q;exact⟨g,k1,k2,k3,o_,k5⟩
end
structure tM(b_:Nat)(w:aG)(m:SV)(s:aW):Prop where
 t:m.t=s.m_
 q:m.q=s.stop
 stack:gS b_ w (.slice m.x1 m.n1 m.c1) (sH (gQ s.m.f_))
 g_:gS b_ w (.slice m.x2 m.n2 m.c2) (zZ s)
 out:qY b_ w (.slice m.x3 m.n3 m.c3) s.m.out
def tM.keep{w':aG}{m:SV}(h:tM b_ w m s)(a:∀k,b_<=k->k<w.heap.size->w'.heap[k]?=w.heap[k]?)(b:w.heap.size<=w'.heap.size):tM b_ w' m s:=
 ⟨h.t,h.q,h.stack.keep a b,h.g_.keep a b,h.out.keep a b⟩
def gS.low(h:gS a w v l)(d:b<=a):gS b w v l:=by
 obtain⟨x,c,k,f⟩:=h;refine⟨x,c,k,λi o=>?_⟩
 obtain⟨g,e,n,j,m,p⟩:=f i o;exact⟨g,e,n,j,em d m,p⟩
def qY.low{l:cN}(h:qY a w v l)(d:b<=a):qY b w v l:=by
 obtain⟨x,c,k,f⟩:=h;refine⟨x,c,k,λi o=>?_⟩
 obtain⟨g,e,n,j,m⟩:=f i o;exact⟨g,e,n,em d j,m⟩
def tM.low{m:SV}(h:tM a w m s)(c:b<=a):tM b w m s:=⟨h.t,h.q,h.stack.low c,h.g_.low c,h.out.low c⟩
def E9{fp:eK}{sb mb n:Nat}{T:Obj}{st:Nat->Option aW}(h:jD fp F w sb mb T st s n)(O:s.m.f_.length<=16)(hp:kE w)(K:mB s.m)(X:∀x∈s.m.f_,x.e_.length<=x.g_.length)(ho:s.m.out.length<=1000000):
 Calls prog 6 #[aZ sb] w λe o=>∃m:SV,e=aX m.val/\Below w.heap.size w o/\tM w.heap.size o m s:=by
 obtain⟨A,z,k0,P,k2,k3,k4,_⟩:=h.cells;have J:=h.lt;obtain⟨S,Q,e1,e2⟩:=z.sv;obtain rfl:=SV.val_inj Q;have t:∀b,F b->b<w.heap.size:=λb a=>(h.fix b a).1
 have r:∀W,Below w.heap.size w W->jC fp F W A.val s:=λW q=>z.keep (λb a=>q.block b (t b a)) dP
 generalize p:w.alloc (.cells #[I_ 0,bG,bG,bG,I_ 0] 35)=i;have D:Below w.heap.size w i:=by rw[<-p];exact(eh _ w).alloc cL _
 have aa:i.heap.size=w.heap.size+1:=by rw[<-p];simp
 have N:i.heap[w.heap.size]?=some (.cells #[I_ 0,bG,bG,bG,I_ 0] 35 (0,0)):=by rw[<-p];exact aN _ _ rfl _
 refine SR w sb A _ J k0 P k2 k3 k4 ?_;rw[p];generalize j:(i.alloc (.cells A.cells 53)).alloc (.cells #[I_ 0,bG,bG,bG,I_ 0] 35)=f;have B:Below i.heap.size i f:=by rw[<-j];exact((eh _ i).alloc cL _).alloc s_ _
 have ab:f.heap.size=i.heap.size+2:=by rw[<-j];simp
 have u:f.heap[i.heap.size]?=some (.cells A.cells 53 (0,0)):=by rw[<-j];exact iF _ _ _
 have I:f.heap[i.heap.size+1]?=some (.cells #[I_ 0,bG,bG,bG,I_ 0] 35 (0,0)):=by rw[<-j];exact fR _ _ _
 have g:∀W,Below f.heap.size f W->Below w.heap.size w W:=λW a=>D.trans ((B.mono D.size).trans (a.mono o_))
 refine AQ i A (λm o=>(∃c,o.heap[w.heap.size]?=some (.cells c 35 (0,0))/\c.size=5)/\Below w.heap.size w (dW o w.heap.size m)/\tM w.heap.size (dW o w.heap.size m) m s)
  (λm W=>Below f.heap.size f W/\tM f.heap.size W m s)
  (λx n c W=>gS f.heap.size W (.slice x n c) (sH (gQ s.m.f_))/\Below f.heap.size f W)
  (λx n c G H E W=>gS f.heap.size W (.slice x n c) (sH (gQ s.m.f_))/\gS f.heap.size W (.slice G H E) (zZ s)/\Below f.heap.size f W) (λW q=>?_) (λx n c W y=>?_) (λx n c G H E W y=>?_) (λm W y=>?_)
 ·rw[j] at q;have l:Below f.heap.size f W:=⟨q.os,q.tape,q.output,by rw[q.heap];exact en _,λk _=>by rw[q.heap]⟩
  refine(K8 (r W (g W l)) (λb a=>ej (t b a) (g W l).size) O).mono ?_
  rintro e o ⟨x,n,c,rfl,C,a⟩;exact⟨x,n,c,rfl,C.low l.size,l.trans (a.mono l.size)⟩
 ·obtain⟨C,a⟩:=y;refine⟨by rw[a.block _ o_];exact u,(Z9 (r W (g W a)) (λb d=>ej (t b d) (g W a).size) O (hp.below (g W a)) K X).mono ?_⟩
  rintro e o ⟨G,H,E,rfl,L,d⟩;exact⟨G,H,E,rfl,C.keep (λk _ v=>d.block k v) d.size,L.low a.size,a.trans (d.mono a.size)⟩
 ·obtain⟨C,L,a⟩:=y;obtain⟨ac,_,_,M⟩:=(r W (g W a)).parts;refine⟨by rw[a.block _ o_];exact u,(xQ M ho).mono ?_⟩
  rintro e o ⟨Y,Z,c3,rfl,hO,d⟩;exact⟨Y,Z,c3,rfl,a.trans (d.mono a.size),e1,e2,C.keep (λk _ v=>d.block k v) d.size,L.keep (λk _ v=>d.block k v) d.size,hO.low a.size⟩
 ·obtain⟨a,V⟩:=y;have U:=a.size;refine⟨by rw[a.block _ o_];exact u,⟨_,by rw[a.block _ o_];exact I,s_⟩,⟨_,by rw[dH _ _ _ _ o_,a.block _ o_,B.block _ o_];exact N,s_⟩,?_,?_⟩
  ·exact mR m (mR m (g W a) o_) cL
  ·exact(V.keep (w':=dW (dW W (i.heap.size+1) m) w.heap.size m) (λk h1 h2=>by rw[dH _ _ _ _ o_,dH _ _ _ _ o_]) (by rw[(gZ _ _ _).1,(gZ _ _ _).1];exact en _)).low o_
end Go.Proofs.YtlflgmdcghfngaaGreatDoor
