import Derived.Test.YtjhbbdpfkccohaaGreatDoorP10
set_option linter.all false
set_option maxRecDepth 100000
set_option maxHeartbeats 4000000
open List renaming length->Ty
open Go.World renaming setCell->Tz,alloc->T6,cell?->T_
open Option renaming some->Ua
open Bool renaming false->Uc,true->Ud
open Go.Value renaming slice->Uq,string->Ur
open Go.Obj renaming cells->Uy
namespace Go.Proofs.YtjhbbdpfkccohaaGreatDoor
open Hs
open _root_.Go.Proofs.Tryz
open Go.RowKit
variable{R:List aE}{g:Nat}{a:Prop}{W:aN}{F:bN}
def pV:∀l m:bP,Op.bytesLess l m=fE l m
 |[],[]=>rfl
 |[],_::_=>rfl
 |_::_,[]=>rfl
 |a::l,b::m=>by rw[Op.bytesLess,fE,pV l m];grind [UInt8.lt_iff_toNat_lt,UInt8.toNat_inj]
def DV:∀l m:bP,(fE l m || l==m)= !fE m l
 |[],[]=>rfl
 |[],_::_=>rfl
 |_::_,[]=>rfl
 |a::l,b::m=>by
  rw[fE,fE];by_cases d:a.toNat<b.toNat
  .grind
  by_cases c:b.toNat<a.toNat
  .grind
  rw[ea d,ea c,ea c,ea d,<-DV l m,show a=b from jj.1 aD]
  simp
def yC{a x:aE}(h:x∈a.l):aK x<=aK a:=by have:=AW a.l h;grind [dE]
theorem DU(a:aE):Ty a.l<=aK a:=by grind [jJ,dE]
structure ZD(w:aN)(a b:aE)(lv lv':aW)(w1:aN):Prop where
 re:R_ w w1
 b0:w1.heap[w.heap.size]?=Ua (Uy #[I_ a.c_,I_ a.n,Ur (bs a.s),lv] 130)
 b1:w1.heap[w.heap.size+1]?=Ua (Uy #[I_ b.c_,I_ b.n,Ur (bs b.s),lv'] 130)
 b2:w1.heap[w.heap.size+1+1]?=Ua (Uy #[I_ 0,I_ 0,Ur ⟨#[]⟩,bO] 130)
def Tb(Y_:a:=by
 go_wp2
 exact bodyPost_ret (v:=fA (cK 0 0 []) 2) (by simp[results,results187,go_sem,a20,a21,a22,a23];rfl) rfl ⟨⟨_,oj,0,qc⟩,Below.tj HT.re aD _ _ _ _⟩):a:=Y_
def Ta(Y_:a:=by
 go_wp2_with (go_at_call 132;refine oN (iI _ _) ?_)
 exact bodyPost_ret (v:=fA (cK 1 1 []) 0) oh rfl ⟨⟨_,oj,0,by rw[HP];exact RV.yes _ _ _⟩,(Below.tj HT.re aD _ _ _ _).alloc (by have:=HT.re.size;simp;exact aD) _⟩):a:=Y_
def S2(Y_:a:=by
 go_wp2_with (go_at_call 132;refine oN (iI _ _) ?_)
 exact bodyPost_ret (v:=fA (cK 1 0 []) 0) oh rfl ⟨⟨_,oj,0,by rw[HP];exact RV.no _ _ _⟩,(Below.tj HT.re aD _ _ _ _).alloc (by have:=HT.re.size;simp;exact aD) _⟩):a:=Y_
def P1(p:bP)(F:bN)(u v:aW)(a b:aE)(w:aN)(h:RX F w u a)(h':RX F w v b)(hF:∀b,F b->b<H_ w)(aa:aK a<=1000000)(af:aK b<=1000000)(O:nG a)(W:nG b):
 Calls prog 187 #[Ur (bs p),u,v] w (CL F w (dJ p a b)):=by
 obtain⟨d,lv,aq,rfl,rfl,hl,M⟩:=PQ h h';obtain⟨x,c,rfl⟩:=hl.slice;obtain⟨x',c',rfl⟩:=M.slice;have f:=aX p;obtain⟨r,g⟩:∃r,r=dJ p a b:=(by simp)
 rw[<-g];unfold dJ at g
 have HS:Hid (Calls prog 235 #[.agg #[I_ a.c_,I_ a.n,Ur (bs a.s),Uq x (Ty a.l) c],.agg #[I_ b.c_,I_ b.n,Ur (bs b.s),Uq x' (Ty b.l) c']] (T6 (T6 (T6 w (Uy #[I_ a.c_,I_ a.n,Ur (bs a.s),Uq x (Ty a.l) c] 130)) (Uy #[I_ b.c_,I_ b.n,Ur (bs b.s),Uq x' (Ty b.l) c'] 130)) (Uy #[I_ 0,I_ 0,Ur ⟨#[]⟩,bO] 130)) λe w'=>e=bY (.bool (cZ a b))/\ZD w a b (Uq x (Ty a.l) c) (Uq x' (Ty b.l) c') w'):=by
  have hb:R_ w (T6 (T6 (T6 w (Uy #[I_ a.c_,I_ a.n,Ur (bs a.s),Uq x (Ty a.l) c] 130)) (Uy #[I_ b.c_,I_ b.n,Ur (bs b.s),Uq x' (Ty b.l) c'] 130)) (Uy #[I_ 0,I_ 0,Ur ⟨#[]⟩,bO] 130)):=by go_grown
  refine(Z3 d F _ _ a b _ pt pt (λq n=>ej (hF q n) hb.size) ?_ ?_ ?_ ?_).mono ?_
  .have:=DU a;exact aD
  .have:=DU b;exact aD
  .intro y hy;have:=yC hy;exact aD
  .intro y hy;have:=yC hy;exact aD
  rintro e w' ⟨rfl,J⟩;refine⟨aJ,hb.trans (J.mono hb.size),?_,?_,?_⟩
  .grind [eg,eh,bM]
  .rw[J.block _ s_,eh _ _ _ s_,bM _ _ s_]
  rw[J.block _ s_,bM _ _ s_]
 have HR:=aB g;have ag:=aB f;have X:=aB O;have V:=aB W;have HL:=aB hl;have ac:=aB M;have T:=aB hF;clear g f O W hl M hF;go_in
 go_wp2_with fail;refine rf HS λw1 hT=>?_
 obtain⟨g0,au,av,am,ap,ak,ao,aw,ar⟩:=kR hT.b0;obtain⟨g1,aj,an,al,az,ah,ay,ax,ai⟩:=kR hT.b1;obtain⟨A,k,j,l,i,H,D,E,G⟩:=kR hT.b2;have o:=aB hT;have n2:¬(H_ w)+1+1=H_ w1:=aD;have f:=ag.out;have g:=HR.out;by_cases o0:p=[61,61]
 .rw[ef o0]at g;have e0:((bs p).toList==[61,61])=Ud:=G_
  have m:=aB g;clear g f o0;generalize cZ a b=sb at*;cases sb
  .go_wp2_with (go_at_call 132;refine oN (iI _ _) ?_)
   exact bodyPost_ret (v:=fA (cK 1 0 []) 0) ky rfl ⟨⟨_,qd,0,by grind [d7,RV.no]⟩,mj⟩
  go_wp2_with (go_at_call 132;refine oN (iI _ _) ?_)
  exact bodyPost_ret (v:=fA (cK 1 1 []) 0) ky rfl ⟨⟨_,qd,0,by grind [d7,RV.yes]⟩,mj⟩
 rw[ea o0]at g;have e0:((bs p).toList==[61,61])=Uc:=G_
 by_cases o1:p=[33,61]
 .rw[ef o1]at g;have e1:((bs p).toList==[33,61])=Ud:=G_
  have m:=aB g;clear g f o1;generalize cZ a b=sb at*;cases sb
  .go_wp2_with (go_at_call 132;refine oN (iI _ _) ?_)
   exact bodyPost_ret (v:=fA (cK 1 1 []) 0) ky rfl ⟨⟨_,qd,0,qf⟩,mj⟩
  go_wp2_with (go_at_call 132;refine oN (iI _ _) ?_)
  exact bodyPost_ret (v:=fA (cK 1 0 []) 0) ky rfl ⟨⟨_,qd,0,qj⟩,mj⟩
 rw[ea o1]at g;have e1:((bs p).toList==[33,61])=Uc:=G_
 generalize cZ a b=sb at*;by_cases B:a.c_≠b.c_\/a.c_=1
 .rw[ef B]at g;have m:=aB g;by_cases P:a.c_=b.c_
  .have f0:((a.c_:Int) != (b.c_:Int))=Uc:=G_
   have f1:((a.c_:Int)==1)=Ud:=G_
   clear g f B P;go_wp2
   exact bodyPost_ret (v:=fA (cK 0 0 []) 2) ly rfl ⟨⟨_,qd,0,om⟩,Below.tj o.re aD _ _ _ _⟩
  have f0:((a.c_:Int) != (b.c_:Int))=Ud:=G_
  clear g f B P;go_wp2
  exact bodyPost_ret (v:=fA (cK 0 0 []) 2) ly rfl ⟨⟨_,qd,0,om⟩,Below.tj o.re aD _ _ _ _⟩
 rw[ea B]at g;have f0:((a.c_:Int) != (b.c_:Int))=Uc:=G_
 have f1:((a.c_:Int)==1)=Uc:=by simp;exact aD
 by_cases C:a.c_=0
 .rw[ef C]at g;have f2:((a.c_:Int)==0)=Ud:=by simp[C]
  have HI:=aB (Z4 p 0 F a.n b.n w1 X.lo X.hi V.lo V.hi);have m:=aB g;clear g f C;rw[<-m]at HI;go_wp2_with fail;apply HI.mono
  rintro e w2 ⟨⟨u2,rfl,ab⟩,t⟩;obtain⟨ae,rfl,z⟩:=ab;obtain⟨Z,S,rfl⟩:=z.slice;have Y:=(t.block (H_ w+1+1) A).trans o.b2;have K:=aB (z.h_ (w':=(Tz (Tz (Tz (Tz w2 (aL (H_ w+1+1) 0) (I_ r.1.c_)) (aL (H_ w+1+1) 1) (I_ r.1.n)) (aL (H_ w+1+1) 2) (Ur (bs r.1.s))) (aL (H_ w+1+1) 3) (Uq Z (Ty r.1.l) S))) λq n=>dF _ (by have:=T q n;exact aD) _ _ _ _)
  have I:=aB (o.re.trans (t.mono o.re.size));clear z t k j l i H D E G A n2;obtain⟨A,k,j,l,i,H,D,E,G⟩:=kR Y;clear Y;go_wp2
  exact bodyPost_ret (v:=fA (.agg #[I_ r.1.c_,I_ r.1.n,Ur (bs r.1.s),Uq Z (Ty r.1.l) S]) r.2) (by simp[results,results187,go_sem,k,j,l,i]) rfl ⟨⟨_,rfl,0,_,rfl,K.mono (λ_ h=>ed h) mJ⟩,Below.tj I aD _ _ _ _⟩
 rw[ea C]at g;have f2:((a.c_:Int)==0)=Uc:=by simp;exact aD
 by_cases U:p=[43]
 .rw[ef U]at g;have e2:((bs p).toList==[43])=Ud:=by rw[f,U];rfl
  have HJ:=aB (TN F _ _ a b w1 ⟨d,_,aJ,HL.h_ λq n=>o.re.block q (T q n)⟩ ⟨d,_,aJ,ac.h_ λq n=>o.re.block q (T q n)⟩ (λq n=>ej (T q n) o.re.size) aa af)
  rw[<-g]at HJ;clear g f U;go_wp2_with fail;apply HJ.mono
  rintro e w2 ⟨⟨u2,rfl,d2,ae,rfl,z⟩,t⟩;obtain⟨Z,S,rfl⟩:=z.slice
  have ad:Hid (∀q,Grow F w1 w2 q->q≠H_ w+1+1):=λq n=>by
   rcases n with n|n
   .have:=T q n;exact aD
   have:=n.1;exact aD
  have Y:=(t.block (H_ w+1+1) A).trans o.b2;have K:=aB (z.h_ (w':=(Tz (Tz (Tz (Tz w2 (aL (H_ w+1+1) 0) (I_ r.1.c_)) (aL (H_ w+1+1) 1) (I_ r.1.n)) (aL (H_ w+1+1) 2) (Ur (bs r.1.s))) (aL (H_ w+1+1) 3) (Uq Z (Ty r.1.l) S))) λq n=>dF _ (ad q n) _ _ _ _)
  have I:=aB (o.re.trans (t.mono o.re.size));clear z t k j l i H D E G A n2;obtain⟨A,k,j,l,i,H,D,E,G⟩:=kR Y;clear Y;go_wp2
  exact bodyPost_ret (v:=fA (.agg #[I_ r.1.c_,I_ r.1.n,Ur (bs r.1.s),Uq Z (Ty r.1.l) S]) r.2) (by simp[results,results187,go_sem,k,j,l,i]) rfl ⟨⟨_,rfl,d2,_,rfl,K.mono (λq n=>by
   rcases n with n|n
   .exact ed n
   exact ec ⟨eo o.re.size n.1,by simpa using n.2⟩) mJ⟩,Below.tj I aD _ _ _ _⟩
 rw[ea U]at g;have e2:((bs p).toList==[43])=Uc:=by rw[f];simpa using U
 by_cases s:a.c_=2
 rotate_left
 .have f3:((a.c_:Int)==2)=Uc:=by simp;exact aD
  rw[ea aD,ea aD]at g;have m:=aB g;clear g f s;go_wp2
  exact bodyPost_ret (v:=fA (cK 0 0 []) 2) ly rfl ⟨⟨_,qd,0,om⟩,Below.tj o.re aD _ _ _ _⟩
 have f3:((a.c_:Int)==2)=Ud:=by simp[s]
 by_cases Q:p=[60]
 .have e3:((bs p).toList==[60])=Ud:=by rw[f,Q];rfl
  rw[ef ⟨s,Q⟩]at g;have m:=aB g;clear g f s Q;have L:Hid (Op.bytesLess (bs a.s).toList (bs b.s).toList=fE a.s b.s):=by show _=_;rw[aX,aX,pV]
  generalize fE a.s b.s=sl at*;go_wp2_with fail;rw[L];cases sl
  .go_wp2_with (go_at_call 132;refine oN (iI _ _) ?_)
   exact bodyPost_ret (v:=fA (cK 1 0 []) 0) ky rfl ⟨⟨_,qd,0,qj⟩,(Below.tj o.re aD _ _ _ _).alloc nk _⟩
  go_wp2_with (go_at_call 132;refine oN (iI _ _) ?_)
  exact bodyPost_ret (v:=fA (cK 1 1 []) 0) ky rfl ⟨⟨_,qd,0,qf⟩,(Below.tj o.re aD _ _ _ _).alloc nk _⟩
 have e3:((bs p).toList==[60])=Uc:=by rw[f];simpa using Q
 rw[ea λh=>Q h.2]at g
 by_cases N:p=[60,61]
 .have e4:((bs p).toList==[60,61])=Ud:=by rw[f,N];rfl
  rw[ef ⟨s,N⟩]at g;have m:=aB g;clear g f s N;have L:Hid ((Op.bytesLess (bs a.s).toList (bs b.s).toList || (bs a.s).toList==(bs b.s).toList)= !fE b.s a.s):=by show _=_;rw[aX,aX,pV,DV]
  generalize fE b.s a.s=sl at*;go_wp2_with fail;rw[L];cases sl
  .go_wp2_with (go_at_call 132;refine oN (iI _ _) ?_)
   exact bodyPost_ret (v:=fA (cK 1 1 []) 0) ky rfl ⟨⟨_,qd,0,qf⟩,(Below.tj o.re aD _ _ _ _).alloc nk _⟩
  go_wp2_with (go_at_call 132;refine oN (iI _ _) ?_)
  exact bodyPost_ret (v:=fA (cK 1 0 []) 0) ky rfl ⟨⟨_,qd,0,qj⟩,(Below.tj o.re aD _ _ _ _).alloc nk _⟩
 have e4:((bs p).toList==[60,61])=Uc:=by rw[f];simpa using N
 rw[ea λh=>N h.2]at g
 have m:=aB g;clear g f s N;go_wp2
 exact bodyPost_ret (v:=fA (cK 0 0 []) 2) ly rfl ⟨⟨_,qd,0,om⟩,Below.tj o.re aD _ _ _ _⟩
def Gf:(prog.info? 9).map (λi=>(i.zero,i.size,i.bytes))=Ua (Ua (Ur ⟨#[]⟩),1,16):=k_
def Ni(w:aN)(u0:aW):∀j u,([u0]:List Value)[j]?=Ua u->T_ (T6 w (Uy #[u0] 9)) ((⟨w.heap.size,0,none⟩:Addr).add j)=Ua u:=by
 intro j u a;match j,a with
 |0,a=>simp at a;subst a;simp[Addr.add]
 |j+1,a=>simp at a
def AY(l:cY):List Value:=l.map λx=>Value.string (bs x)
def B3(l:cY)(x:bP):AY (l++[x])=AY l++[Ur (bs x)]:=by simp[AY]
def R5(s:bP)(k n:Nat):(bs s).extract k (k+n)=bs ((s.drop k).take n):=by grind [SB,jT,ByteArray.data_extract,bs]
def GR(s:bP)(w:aN)(hs:Ty s<=1000000):
 Calls prog 167 #[Ur (bs s)] w λe j=>∃v,e=bY v/\j.ownsRow (H_ w) 9 1 v (Ty (eD s)) (AY (eD s))/\R_ w j:=by
 obtain⟨t,K,C⟩:=ka.1 Gf;have m:t.zero=Ua (Ur ⟨#[]⟩):=(by grind)
 have o:t.size=1:=(by grind)
 have r:t.bytes=16:=(by grind)
 have V:=aB K;have D:=aB m;have E:=aB o;have A:=aB r;clear K C m o r;have Q:=iT s;go_in
 go_wp2
 go_loopg [3,4,5] (Ty s) (λgk U T _ wr=>∃(k:Nat) (a:cY),k+gk=Ty s/\Ty a<=k/\T=I_ k/\Hid (a++eD (s.drop k)=eD s)/\Hid (wr.ownsRow (H_ w) 9 1 U (Ty a) (AY a))/\R_ w wr)
 case atStart=>exact⟨0,[],aD,s_,rfl,rfl,World.ownsRow_nil _ _ _ _,dz _ _⟩
 case round=>
  obtain⟨k,a,Y,P,rfl,H,b,I⟩:=hrel;have i:=aB I;clear I;by_cases M:k<Ty s
  .have p:=aB (KC (bs s) k wr aD aD);have f:=xZ (s.drop k);rw[jT]at p;rw[ji]at f;have l:s.drop k≠[]:=λe=>by have:=fg List.length e;grind
   by_cases y:bW (s.drop k)=0
   .have G:Hid (eD s=a):=by grind [gG]
    rw[y]at p;clear y l f;go_wp2_with fail;refine rf p λN B=>?_
    obtain rfl:=B.symm;go_wp2
    go_ret;exact⟨_,aJ,by rw[G];exact b.out,i⟩
   obtain⟨c,n⟩:∃c,c=bW (s.drop k):=(by simp)
   rw[<-n]at p y f
   have z:Hid ((a++[(s.drop k).take c])++eD (s.drop (k+c))=eD s):=by grind [kG,List.drop_drop]
   have F:=R5 s k c;have X:((c:Int)==0)=Uc:=G_
   obtain⟨x,L⟩:∃x,x=(s.drop k).take c:=(by simp)
   rw[<-L]at z F;have W:1<=c:=aD;clear n l y L H;go_wp2_with fail;refine rf p λN B=>?_
   obtain rfl:=B.symm;go_wp2_with (at_builtin;refine wpList_append_own _ r_ _ _ 54 r_ (H_ w) 9 t _ 1 16 underlying54 V D E A rfl d_ _ (Ty a) (AY a) r_ (b.out.alloc _) (aL (H_ wr) 0) 1 1 [Ur (bs x)] r_ r_ (Ni _ _) (by intro u J;simp at J;subst J;rfl) kk aD (by have:=i.size;simp;exact aD) ?_)
   intro O j d g _;have S:Hid (R_ w j):=i.trans ⟨g.os.trans aJ,g.tape.trans aJ,g.output.trans aJ,eo s_ g.size,λq Z=>(g.block q (by have:=i.size;simp;exact aD) λe=>by have:=bX b.out q e.symm;exact aD).trans (eh _ _ _ (by have:=i.size;exact aD))⟩
   have HO:Hid (j.ownsRow (H_ w) 9 1 O (Ty (a++[x])) (AY (a++[x]))):=by show World.ownsRow _ _ _ _ _ _ _;rw[B3,ew];exact aD
   clear d g;go_wp2
   go_roundg (gk-c)
   case measure=>exact aD
   grind [d7]
  have G:Hid (eD s=a):=by grind [gG,eD]
  go_wp2
  go_ret;exact⟨_,aJ,by rw[G];exact b.out,i⟩
def TM(F:bN)(v:aW)(a:aE)(w:aN)(h:RX F w v a)(E:aK a<=1000000):
 Calls prog 106 #[v] w (CL F w (dO a)):=by
 obtain⟨d,W,rfl,C⟩:=h;obtain⟨x,c,rfl⟩:=C.slice;have o:=dE a;have q:=jJ a.l;have Q:Ty a.l<=1000000:=aD;have s:Ty a.s<=1000000:=aD;obtain⟨r,b⟩:∃r,r=dO a:=(by simp)
 rw[<-b];unfold dO at b;clear C o q;by_cases j:a.c_=3
 .rw[ef j]at b;have m:=aB b;have P:((a.c_:Int)==3)=Ud:=by simp[j]
  clear b j;go_in
  go_wp2_with (go_at_call 108;refine oN (iK _ _) ?_)
  exact bodyPost_ret (v:=fA (cK 0 (Ty a.l) []) 0) (by simp[results,results106,go_sem]) rfl ⟨⟨_,qd,0,mw⟩,ko⟩
 rw[ea j]at b;have P:((a.c_:Int)==3)=Uc:=G_
 by_cases l:a.c_=2
 .rw[ef l]at b;have m:=aB b;have J:((a.c_:Int)==2)=Ud:=by simp[l]
  have T:=qE a.s;have K:=aB (GR a.s (T6 (T6 w (Uy #[I_ a.c_,I_ a.n,Ur (bs a.s),Uq x (Ty a.l) c] 130)) (Uy #[I_ 0,I_ 0,Ur ⟨#[]⟩,bO] 130)) s);clear b j l;generalize eD a.s=B at*;go_in
  go_wp2_with fail;apply K.mono
  rintro e U ⟨I,rfl,f,i⟩
  obtain⟨y,A,rfl⟩:∃y A,I=Uq y (Ty B) A:=by
   rcases f.2 with ⟨rfl,V⟩|⟨g,H,L,rfl,_⟩
   .grind
   simp
  have z:=(i.block (H_ w+1) s_).trans (bM _ _ s_)
  obtain⟨M,n,p,t,u,D,S,N,G⟩:=kR z;have k:Hid (R_ w (T6 (T6 w (Uy #[I_ a.c_,I_ a.n,Ur (bs a.s),Uq x (Ty a.l) c] 130)) (Uy #[I_ 0,I_ 0,Ur ⟨#[]⟩,bO] 130))):=by show Below _ _ _;go_grown
  have O:=aB (k.trans (i.mono k.size));clear i f z;go_wp2_with (go_at_call 108;refine oN (iK _ _) ?_)
  exact bodyPost_ret (v:=fA (cK 0 (Ty B) []) 0) (by simp[results,results106,go_sem,n,p,t,u,M]) rfl ⟨⟨_,qd,0,mw⟩,(by grind [ep,Below.tj,d7,Below.size])⟩
 rw[ea l]at b;have m:=aB b;have J:((a.c_:Int)==2)=Uc:=G_
 clear b j l;go_in
 go_wp2
 exact bodyPost_ret (v:=fA (cK 0 0 []) 2) (by simp[results,results106,go_sem];rfl) rfl ⟨⟨_,qd,0,my⟩,ko⟩
def Ot(w:aN)(u0 u1 u2 u3:aW):∀j u,([u0,u1,u2,u3]:List Value)[j]?=Ua u->T_ (T6 w (Uy #[u0,u1,u2,u3] 130)) ((⟨H_ w,0,none⟩:Addr).add j)=Ua u:=by
 intro j u a;match j,a with
 |0,a=>simp at a;subst a;simp[Addr.add]
 |1,a=>simp at a;subst a;simp[Addr.add]
 |2,a=>simp at a;subst a;simp[Addr.add]
 |3,a=>simp at a;subst a;simp[Addr.add]
 |j+4,a=>simp at a
def S0{k:Array Oper}{e:List Oper}{o:Oper}{a:Act}{Q:Exit->Act->World->Prop}{w:aN}(p:o.guard=none)(s x:Operand)
 (O:o.op=.call { callee:=.builtin .append,args:= #[s,x],argTypes:= #[128,128] })
 (c:Nat) (v:aW) (l:List aE) (m:aE) (u:List Value) (d:Nat) (F:bN) (S:a.eval s=v) (i:w.ownsRow c 130 4 v (Ty l) u) (P:mM d F w u l)
 (C D:Int) (G:ByteArray) (y:aW) (K:C=m.c_) (M:D=m.n) (J:G=bs m.s) (B:Nat) (A:B=H_ w) (U:a.eval x=Uq (Ua (aL B 0)) 1 1) (W:LV d F w y m.l) (X:∀b,F b->b<H_ w/\v.ownBlock≠Ua b) (E:Ty l<=1000000000) (t:c<=H_ w)
 (h:∀n f I,f.ownsRow c 130 4 n (Ty (l++[m])) I->mM d F f I (l++[m])->w.grownBy f v.ownBlock->wpList prog k Q e (a.put o.dst n) f):
 wpList prog k Q (o::e) a (T6 w (Uy #[I_ C,I_ D,Ur G,y] 130)):=by
 subst K M J A;obtain⟨N,T,g⟩:=ka.1 V9;have hz0 :=(gn g).1;have hz1 :=(gn (gn g).2).1;have hz2 :=(gn (gn g).2).2;have H:=mM.one (d:=d) (F:=F) (w:=w) (a:=m) W;refine wpList_append_own _ p s x 128 O c 130 N _ 4 56 underlying128 T hz0 hz1 hz2 aJ d_ v (Ty l) u S (i.alloc _) (aL (H_ w) 0) 1 1 [I_ m.c_,I_ m.n,Ur (bs m.s),y] U rfl (Ot _ _ _ _ _) H.zh kk aD kj ?_
 intro n f z j _;have r:w.grownBy f v.ownBlock:=⟨j.os.trans aJ,j.tape.trans aJ,j.output.trans aJ,eo s_ j.size,λq L V=>(j.block q kj V).trans (eh _ _ _ L)⟩
 exact h n f _ G_ ((P.append H).h_ mz) r
def Td(Y_:a:=by
 go_in
 go_wp2
 exact bodyPost_ret (v:=fA (cK 0 0 []) 2) lm rfl ⟨⟨_,oj,0,qg⟩,HB0⟩):a:=Y_
def TO(F:bN)(u v:aW)(a b:aE)(w:aN)(h:RX F w u a)(Q:RX F w v b)(s:∀b,F b->b<H_ w)(N:aK a<=1000000)(M:a.c_≠2):
 Calls prog 185 #[u,v] w (CL F w (cA a b)):=by
 obtain⟨d,lv,O,rfl,rfl,A,n⟩:=PQ h Q;obtain⟨x,c,rfl⟩:=A.slice;obtain⟨L,E,rfl⟩:=n.slice;have t:=dE a;have z:=jJ a.l;have i:Hid (R_ w (T6 (T6 (T6 w (Uy #[I_ a.c_,I_ a.n,Ur (bs a.s),Uq x (Ty a.l) c] 130)) (Uy #[I_ b.c_,I_ b.n,Ur (bs b.s),Uq L (Ty b.l) E] 130)) (Uy #[I_ 0,I_ 0,Ur ⟨#[]⟩,bO] 130))):=by show Below _ _ _;go_grown
 obtain⟨r,f⟩:∃r,r=cA a b:=(by simp)
 rw[<-f];unfold cA kM at f;rw[ea M]at f;have Y:((a.c_:Int)==2)=Uc:=G_
 by_cases H:a.c_<2
 .rw[ef (ed H)]at f;have j:=aB f;have P:decide ((a.c_:Int)<2)=Ud:=(by grind)
  go_in
  go_wp2
  exact bodyPost_ret (v:=fA (cK 0 0 []) 2) lm rfl ⟨⟨_,qz,0,qg⟩,i⟩
 have P:decide ((a.c_:Int)<2)=Uc:=(by grind)
 by_cases J:b.c_=0
 rotate_left
 .rw[ef (ec J)]at f;have j:=aB f;have S:((b.c_:Int) != 0)=Ud:=G_
  go_in
  go_wp2
  exact bodyPost_ret (v:=fA (cK 0 0 []) 2) lm rfl ⟨⟨_,qz,0,qg⟩,i⟩
 have S:((b.c_:Int) != 0)=Uc:=G_
 rw[ea aD]at f;clear J H M t z;by_cases p:b.n<0\/(Ty a.l:Int)<=b.n
 .rw[ef p]at f;have j:=aB f;by_cases B:b.n<0
  .have f2 :=ig B;go_in
   go_wp2
   exact bodyPost_ret (v:=fA (cK 0 0 []) 4) lm rfl ⟨⟨_,qz,0,qg⟩,i⟩
  have f2 :=gi B;have V:decide (b.n≥(Ty a.l:Int))=Ud:=(by grind)
  clear f A n s p B;go_in
  go_wp2
  exact bodyPost_ret (v:=fA (cK 0 0 []) 4) lm rfl ⟨⟨_,qz,0,my⟩,i⟩
 rw[ea p]at f;obtain⟨k,I⟩:∃k:Nat,b.n=k:=(by grind)
 have l:k<Ty a.l:=aD;rw[I,Int.toNat_natCast,List.getD,fe l,ir]at f;obtain⟨e,g,o,kv,rfl, -,rfl,K,D,X,Z,c2,c3,m⟩:=A.elem k l;have U:=s g D;have T:g<H_ w+1+1:=aD;obtain⟨y,G,rfl⟩:=m.slice;have C:=aB m;have j:=aB f;have W:=aB s;rw[I];have f2 :=gi aD;have V :=aD;go_in
 go_wp2_with fail;have q:R_ w (T6 (T6 (T6 w (Uy #[I_ a.c_,I_ a.n,Ur (bs a.s),Uq (Ua (aL g o)) (Ty a.l) c] 130)) (Uy #[I_ b.c_,I_ k,Ur (bs b.s),Uq L (Ty b.l) E] 130)) (Uy #[I_ a.l[k].c_,I_ a.l[k].n,Ur (bs a.l[k].s),Uq y a.l[k].l.length G] 130)):=by go_grown
 refine bodyPost_ret (v:=fA (.agg #[I_ a.l[k].c_,I_ a.l[k].n,Ur (bs a.l[k].s),Uq y a.l[k].l.length G]) 0) (by simp[results,results185,go_sem]) rfl ⟨⟨_,qz,e,?_⟩,q⟩
 rw[j];exact⟨_,aJ,(C.h_ ku).mono (λ_ h=>ed h) (aD)⟩
def Lq(B:Nat)(w1:aN)(cs:cY)(gk:Nat)(lv iv:aW)(wr:aN):Prop:=
 ∃(k:Nat) (xs:List Value),k+gk=Ty cs/\iv=I_ k/\Hid (wr.ownsRow B 130 4 lv (Ty ((cs.take k).map bQ)) xs)/\Hid (mM 0 (λ_=>False) wr xs ((cs.take k).map bQ))/\Hid (Below B w1 wr)
def Tq(Y_:a:=by
 go_wp2
 exact bodyPost_ret (v:=fA (cK 0 0 []) 4) (by simp[results,results185,go_sem,a20,a21,a22,a23];rfl) rfl ⟨⟨_,oj,0,qc⟩,Below.tj HBR aD _ _ _ _⟩):a:=Y_
def ZO(F:bN)(u v:aW)(a b:aE)(w:aN)(h:RX F w u a)(h':RX F w v b)(ak:aK a<=1000000)(hs:a.c_=2)(T:a.l=[]):
 Calls prog 185 #[u,v] w (CL F w (cA a b)):=by
 obtain⟨d,lv,au,rfl,rfl,hl,U⟩:=PQ h h';rw[T]at hl;obtain rfl:=hl.isNil;obtain⟨x',c',rfl⟩:=U.slice;have ag:=dE a;have ae:Ty a.s<=1000000:=aD;obtain⟨r,m⟩:∃r,r=cA a b:=(by simp)
 rw[<-m];unfold cA kM at m;rw[ef hs]at m;have e2:((a.c_:Int)==2)=Ud:=G_
 have f0:decide ((a.c_:Int)<2)=Uc:=(by grind)
 by_cases h1:b.c_=0
 rotate_left
 .rw[ef (ec h1)]at m;have t:=aB m;have f1:((b.c_:Int) != 0)=Ud:=G_
  go_in
  go_wp2
  exact bodyPost_ret (v:=fA (cK 0 0 []) 2) lm rfl ⟨⟨_,by rw[t],0,qg⟩,ko⟩
 have f1:((b.c_:Int) != 0)=Uc:=G_
 rw[ea aD]at m;have az:=qE a.s;have HC:=aB (GR a.s (T6 (T6 (T6 w (Uy #[I_ a.c_,I_ a.n,Ur (bs a.s),bO] 130)) (Uy #[I_ b.c_,I_ b.n,Ur (bs b.s),Uq x' (Ty b.l) c'] 130)) (Uy #[I_ 0,I_ 0,Ur ⟨#[]⟩,bO] 130)) ae);have Q:Hid (R_ w (T6 (T6 (T6 w (Uy #[I_ a.c_,I_ a.n,Ur (bs a.s),bO] 130)) (Uy #[I_ b.c_,I_ b.n,Ur (bs b.s),Uq x' (Ty b.l) c'] 130)) (Uy #[I_ 0,I_ 0,Ur ⟨#[]⟩,bO] 130))):=by show Below _ _ _;go_grown
 have HR:=aB m;clear m hl U h1 hs ag T;generalize eD a.s=f at*;go_in
 go_wp2_with fail;apply HC.mono
 rintro e D ⟨v1,rfl,l,J⟩
 obtain⟨y,cy,rfl⟩:∃y cy,v1=Uq y (Ty f) cy:=by
  rcases l.2 with ⟨rfl,h0⟩|⟨g,E,o,rfl,_⟩
  .grind
  simp
 have Y:=(J.block (H_ w+1) s_).trans ((eh _ _ _ s_).trans (bM _ _ s_))
 have W:=(J.block (H_ w+1+1) s_).trans (bM _ _ s_)
 have V:=aB Y;have O:=aB W;have g2:=aH W;have S:=aB (Q.trans (J.mono Q.size));have HOWN:=aB l;go_wp2
 go_loopg [6,8,9] (Ty f) (λgk lv iv _ wr=>Lq (H_ D) D f gk lv iv wr)
 case atStart=>exact⟨0,[],aD,rfl,World.ownsRow_nil _ _ _ _,mM.nil _ _ _,dz _ _⟩
 case round=>
  obtain⟨k,xs,hk,rfl,l,x,L⟩:=hrel;by_cases ao:k<Ty f
  .obtain⟨j,rfl⟩:∃j,gk=j+1:=⟨gk-1,aD⟩
   obtain⟨g,rfl,ac,ab⟩:∃g,y=Ua (aL g 0)/\g<H_ D/\T_ D (aL g k)=Ua (Ur (bs f[k])):=by
    rcases HOWN.2 with ⟨_,h0⟩|⟨g,E,o,e1,e2,e3,e4,e5,e6,e7⟩
    .exact aD
    cases e1;refine⟨g,aJ,G_,?_⟩
    have h1:o.toList[k]?=Ua (Ur (bs f[k])):=by
     have Z:(o.toList.take (Ty f*1))[k]?=(AY f)[k]?:=by rw[e7]
     grind [AY]
    simp[World.cell?,e3,<-Array.getElem?_toList,h1]
   have ai:T_ wr (aL g k)=Ua (Ur (bs f[k])):=by rw[L.out.cell (by exact ac)];exact ab
   have hz:=L.out.size;have M:Hid ((f.take (k+1)).map bQ=(f.take k).map bQ++[bQ f[k]]):=by grind [List.take_succ_eq_append_getElem]
   have af:Ty ((f.take k).map bQ)<=1000000000:=G_
   generalize f[k]=ck at*;generalize (f.take k).map bQ=l0 at*;go_wp2_with (first|(go_at_call 131;refine oN (AP _ _) ?_)|(at_builtin;(refine S0 r_ _ _ r_ (H_ D) _ l0 (bQ ck) xs 0 (λ_=>False) r_ ((l.out.alloc _).alloc _) (x.out.h_ s_) _ _ _ _ r_ r_ r_ (H_ wr+1+1) s_ r_ (LV.empty _ _ _) (s_) af kj ?_)))
   intro v' w' ys I G P;have ah:Hid (R_ D w'):=L.out.trans ⟨P.os.trans aJ,P.tape.trans aJ,P.output.trans aJ,eo kj P.size,λq hq=>(P.block q kj λe=>by have:=bX l.out q e.symm;exact aD).trans ((eh _ _ _ kj).trans (eh _ _ _ aD))⟩
   have HO:Hid (w'.ownsRow (H_ D) 130 4 v' (Ty ((f.take (k+1)).map bQ)) ys):=by rw[M,ew];exact I
   have aa:Hid (mM 0 (λ_=>False) w' ys ((f.take (k+1)).map bQ)):=by rw[M];exact G
   go_wp2
   go_roundg j
   case measure=>exact aD
   case rel=>exact⟨k+1,ys,aD,la,HO,aa,ah⟩
  have c:=l.out;have n:=x.out;rw[hQ aD]at c n;have p:Ty (f.map bQ)=Ty f:=List.length_map _
  obtain⟨yl,X,rfl⟩:∃yl X,u6=Uq yl (Ty f) X:=by
   rw[p]at c;rcases c.2 with ⟨rfl,h0⟩|⟨g,E,o,rfl,_⟩
   .exact⟨none,0,by rw[h0]⟩
   exact⟨_,_,aJ⟩
  have Y:=(L.out.block (H_ w+1) aD).trans V;have W:=(L.out.block (H_ w+1+1) aD).trans O;obtain⟨g1,am,ad,an,ba,aj,ay,ax,al⟩:=kR Y;obtain⟨ap,B,A,C,z,aw,aq,ar,av⟩:=kR W;have K:=aB (S.trans (L.out.mono S.size));have m:=HR.out;rw[p]at m;by_cases Z:b.n<0\/(Ty f:Int)<=b.n
  .rw[ef Z]at m;have t:=aB m;by_cases N:b.n<0
   .have f2 :=ig N;go_wp2
    exact bodyPost_ret (v:=fA (cK 0 0 []) 4) (by simp[results,results185,go_sem,B,A,C,z];rfl) rfl ⟨⟨_,by rw[t],0,by rw[t];exact RV.nil _ _ _⟩,Below.tj K aD _ _ _ _⟩
   have f2 :=gi N;have f3:decide (b.n≥(Ty f:Int))=Ud:=ig aD;clear m Z N c n Y W;go_wp2
   exact bodyPost_ret (v:=fA (cK 0 0 []) 4) (by simp[results,results185,go_sem,B,A,C,z];rfl) rfl ⟨⟨_,by rw[t],0,by rw[t];exact RV.nil _ _ _⟩,Below.tj K aD _ _ _ _⟩
  rw[ea Z]at m;obtain⟨i,hi⟩:∃i:Nat,b.n=i:=⟨b.n.toNat,aD⟩;have H:i<Ty f:=aD;rw[hi,Int.toNat_natCast,List.getD,il,fe H,iu,ir]at m;have t:=aB m;rw[hi]at ad
  obtain⟨s,rfl,d0,d1,d2,d3⟩:∃s,yl=Ua (aL s 0)/\T_ wr (aL s (i*4))=Ua (I_ 2)/\T_ wr (aL s (i*4+1))=Ua (I_ 0)/\T_ wr (aL s (i*4+2))=Ua (Ur (bs f[i]))/\T_ wr (aL s (i*4+3))=Ua (bO):=by
   obtain⟨kv,k0,k1,k2,k3,k4⟩:=n.2 i (by rw[p];exact H)
   rw[show (f.map bQ)[i]'(by rw[p];exact H)=bQ f[i] by simp]at k0 k1 k2 k4
   rw[show kv=bO from k4.isNil]at k3
   rw[p]at c;rcases c.2 with ⟨_,h0⟩|⟨s,E,o,e1,e3,e4,e5,e6,e7,e8⟩
   .exact aD
   cases e1
   have q:∀j,j<4->T_ wr (aL s (i*4+j))=xs[i*4+j]?:=λj hj=>by
    have N:o.toList[i*4+j]?=xs[i*4+j]?:=by rw[<-e8,jm,ef aD]
    simp[World.cell?,e4,<-Array.getElem?_toList,N]
   exact⟨s,aJ,(q 0 aD).trans k0,(q 1 aD).trans k1,(q 2 aD).trans k2,(q 3 aD).trans k3⟩
  have f2 :=gi aD;have f3 :=gi aD;generalize f[i]=ci at*;go_wp2
  exact bodyPost_ret (v:=fA (cK 2 0 ci) 0) (by simp[results,results185,go_sem,B,A,C,z]) rfl ⟨⟨_,by rw[t],0,by rw[t];exact RV.str _ _ _ _⟩,Below.tj K aD _ _ _ _⟩
def ZP(F:bN)(u v:aW)(a b:aE)(w:aN)(h:RX F w u a)(f:RX F w v b)(g:∀b,F b->b<H_ w)(c:aK a<=1000000)(d:a.c_=2->a.l=[]):
 Calls prog 185 #[u,v] w (CL F w (cA a b)):=by
 by_cases e:a.c_=2
 .exact ZO F u v a b w h f c e (d e)
 exact TO F u v a b w h f g c e
def LA(d:Nat)(F:bN)(w:aN)(av:aW)(l:List aE):Prop:=LV d F w av l\/(l=[]/\∃x c,av=Uq x 0 c)
def LA.h_{d:Nat}{w w':aN}{v:aW}(h:LA d F w v R)(a:∀b,F b->w'.heap[b]?=w.heap[b]?):LA d F w' v R:=by grind [LV.h_,LA]
def LA.mono{d:Nat}{G:bN}{w:aN}{v:aW}{l:List aE}(h:LA d F w v l)(c:∀b,F b->G b)(a:d<=g):LA g G w v l:=by grind [LV.mono,LA]
def LA.slice{d:Nat}{w:aN}{v:aW}{l:List aE}(h:LA d F w v l):∃x c,v=Uq x (Ty l) c:=by grind [LV.slice,LA]
def LA.cons{d:Nat}{v:aW}{i:aE}(h:LA d F W v (i::R)):
 ∃e g o c f,d=e+1/\v=Uq (Ua (aL g o)) (Ty R+1) c/\Ty R+1<=c/\F g/\T_ W (aL g o)=Ua (I_ i.c_)/\T_ W (aL g (o+1))=Ua (I_ i.n)/\T_ W (aL g (o+2))=Ua (Ur (bs i.s))/\T_ W (aL g (o+3))=Ua f/\LV e F W f i.l/\LA d F W (Uq (Ua (aL g (o+4))) (Ty R) (c-1)) R:=by
 rcases h with h|⟨h,_⟩
 .cases d with
  |zero=>exact eu h.1 s_
  |succ d=>
   rcases h with ⟨h,_⟩|⟨g,o,b,k,B,y,u,q,a,p⟩
   .grind
   obtain⟨f,n,l,r,m,s⟩:=p 0 s_
   simp at n l r m s;refine⟨d,g,o,b,f,aJ,y,u,q,by simp[World.cell?,a,n],by simp[World.cell?,a,l],by simp[World.cell?,a,r],by simp[World.cell?,a,m],s,?_⟩
   by_cases x:R=[]
   .grind [LA]
   refine ed (ec ⟨g,o+4,b-1,k,x,aJ,G_,q,a,λj G=>?_⟩)
   obtain⟨z,A,C,H,D,E⟩:=p (j+1) G_
   grind
 grind
abbrev IQ(w:aN)(g o:Nat)(v0 v1 v2 v3:aW):aN:=Tz (Tz (Tz (Tz w (aL g o) v0) (aL g (o+1)) v1) (aL g (o+2)) v2) (aL g (o+3)) v3
theorem tN(w:aN){q:Nat}(h:q≠g)(o:Nat)(d c b a:aW):(IQ w g o d c b a).heap[q]?=w.heap[q]?:=by grind [em]
def BO{a:Array Value}{f:TypeId}(h:W.heap[g]?=Ua (Uy a f))(o:Nat)(e d c b:aW):
 (IQ W g o e d c b).heap[g]?=Ua (Uy ((((a.setIfInBounds o e).setIfInBounds (o+1) d).setIfInBounds (o+2) c).setIfInBounds (o+3) b) f):=
 (by grind [aP])
def LV.setRow{d:Nat}{c a:Nat}{f:List Value}{m:aE}{k:aW}{i:Nat}(h:W.ownsRow c 130 4 (Uq (Ua (aL g 0)) (Ty R) a) (Ty R) f)(n:mM d F W f R)(S:i<Ty R)(G:LV d F W k m.l)(Q:∀q,F q->q≠g):
 LV (d+1) (λq=>F q\/q=g) (IQ W g (i*4) (I_ m.c_) (I_ m.n) (Ur (bs m.s)) k) (Uq (Ua (aL g 0)) (Ty R) a) (R.set i m):=by
 rcases h.2 with ⟨e,_⟩|⟨O,s,b,H,P,I,V,L,A,M⟩
 .cases e
 cases H;have C:Ty (R.set i m)=Ty R:=List.length_set;have t:∀{x:aW} {v:List aE},LV d F W x v->LV d (λq=>F q\/q=g) (IQ W g (i*4) (I_ m.c_) (I_ m.n) (Ur (bs m.s)) k) x v:=λD=>(D.h_ (by grind [tN])).mono (G_) (aD)
 refine ec ⟨g,0,a,_,?_,by rw[C],aD,ec rfl,BO I _ _ _ _ _,λj u=>?_⟩
 .grind
 have p:j<Ty R:=aD;obtain⟨y,B,K,U,N,J⟩:=n.2 j p;have T:Ty f=Ty R*4:=n.1;have E:b.size=a*4:=A;have q:∀r,r<4->b[j*4+r]?=f[j*4+r]?:=λr n=>by grind
 by_cases o:j=i
 .subst o;rw[show (R.set j m)[j]'u=m by simp]
  refine⟨k,?_,?_,?_,?_,t G⟩
  all_goals simp[Array.getElem?_setIfInBounds,E]
  all_goals exact aD
 rw[show (R.set i m)[j]'u=R[j] by grind]
 have z:∀r,r<4->((((b.setIfInBounds (i*4) (I_ m.c_)).setIfInBounds (i*4+1) (I_ m.n)).setIfInBounds (i*4+2) (Ur (bs m.s))).setIfInBounds (i*4+3) k)[0+j*4+r]?=f[j*4+r]?:=λr n=>by rw[ii aD,ii aD,ii aD,ii aD,h9];grind
 exact⟨y,(z 0 aD).trans B,G_,G_,G_,t J⟩
