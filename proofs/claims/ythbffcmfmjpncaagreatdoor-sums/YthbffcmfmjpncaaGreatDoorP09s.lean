/- Contracts of the program: an expression is read. -/
import Derived.Test.YthbffcmfmjpncaaGreatDoorP08s
set_option linter.defProp false
set_option maxRecDepth 100000
set_option maxHeartbeats 4000000
namespace Go.Proofs.YthbffcmfmjpncaaGreatDoor
open Hs
open _root_.Go.Proofs.Tryz
open Go.RowKit
variable{op:List UInt8}{xs:List Value}{l m:List aH}{k:Nat}{F G:Nat->Prop}{u v:Value}{w w':World}{a b:aH}{r:aH × Nat}
def kZ(l:List UInt8):Except (Nat × Nat) aC:=
 match mG l with
 |.error f=>.error f
 |.ok ts=>
  match dP ts (ts.length+1) 0 with
  |.error n=>.error (4,n)
  |.ok (a,q)=>if (aN ts q).sort=101 then .ok a else .error (4,(aN ts q).l_)
def VS(C:Ctx)(w:World)(p:Nat)(h:PAt C w p):
 Calls prog 109 #[.pointer (some ⟨C.pb,0,none⟩)] w λe m=>Below w.heap.size w m/\(((aN C.ts p).sort=101/\e=.returned (.tuple #[]))\/((aN C.ts p).sort≠101/\e=cH 4 (aN C.ts p).l_)):=by
 have g:=aB (jE C w p h);simp only[lN] at g;have d:=CV (h.tsk.tk p h.lt);have a:=aB d;clear h d;generalize aN C.ts p=t at*;generalize psort t.sort=k at*;generalize pval t=o at*;by_cases b:t.sort=101
 ·obtain rfl:k=4:=a.out.2 b;have i:=aB b;clear b a;go_enter func109,ntmps109;go_wp2_with fail;refine g.out.mono ?_;rintro e l ⟨rfl,c⟩;have f:=aB c;clear c g;go_wp2_with fail;go_end0;exact⟨f.out.trans (((F9 _ _).alloc (F6 _) _).mono f.out.size),F7 ⟨i.out,rfl⟩⟩
 ·have n:((k:Int) != 4)=true:=by simp;intro e;exact b (a.out.1 o_)
  have i:=aB b;clear b a;go_enter func109,ntmps109;go_wp2_with fail;refine g.out.mono ?_;rintro e l ⟨rfl,c⟩;have f:=aB c;clear c g;have j:=aB λW=>eV 4 t.l_ W
  go_wp2_with fail;refine(j.out _).mono ?_;rintro e q ⟨rfl,rfl⟩;clear j;go_wp2_with fail;exact⟨rfl,f.out.trans (((F9 _ _).alloc (F6 _) _).mono f.out.size),F5 ⟨i.out,rfl⟩⟩
def RJ(l:List UInt8)(w:World)(e:Ending)(w':World):Prop:=
 Below w.heap.size w w'/\match kZ l with
  |.ok a=>∃v,e=.returned v/\PN (Btw w.heap.size w'.heap.size) w' v a
  |.error f=>f.1≠0/\e=cH f.1 f.2
def RI(x:ByteArray)(w:World)(Y:gV w)(hs:x.size<=maxLen):
 Calls prog 71 #[.string x] w (RJ x.data.toList w):=by
 have D:=aB (sU x w Y hs);obtain⟨l,hl⟩:=E_ (x.data.toList);rw[<-hl] at D ⊢
 clear hl Y;go_enter func71,ntmps71;go_wp2_with fail;refine D.out.mono ?_;rintro e H ⟨C,B⟩;cases d:mG l with
 |error f=>
  rw[d] at B;obtain rfl:e=cH f.1 f.2:=B;have K:Hid (kZ l=.error f):=by show _=_;unfold kZ;rw[d]
  have HK:=aB (CN d);have t:=aB C;clear C D d;go_wp2_with fail;exact⟨rfl,t.out,by rw[K.out];exact⟨HK.out,rfl⟩⟩
 |ok i=>
  rw[d] at B;obtain⟨v,rfl,E⟩:=B;have I:=(xA d).1;have Z:=(xA d).2;have c:=lX I
  have A:Hid (kZ l=match dP i (i.length+1) 0 with
   |.error n=>.error (4,n)
   |.ok (a,q)=>if (aN i q).sort=101 then .ok a else .error (4,(aN i q).l_)):=by show _=_;unfold kZ;rw[d]
  obtain⟨g,z,U,rfl,hg,S,u,F⟩:=VQ E c.1.some_;have W:=aD u
  have P:PAt ⟨H.heap.size,g,z,i⟩ (H.alloc (.cells #[.slice (some ⟨g,0,none⟩) i.length z,.int .i64 0] 101)) 0:=
   ⟨aU _ _ rfl _,⟨U,cV _ _ W _ u,F⟩,by show g≠H.heap.size;omega,c.1.some_,by show i.length<=3000;omega,S,c.1,vE I⟩
  have G:=c.1.ok.exprs 0 c.1.some_
  have T:=aB (uJ ⟨H.heap.size,g,z,i⟩ (i.length+1) (H.alloc (.cells #[.slice (some ⟨g,0,none⟩) i.length z,.int .i64 0] 101)) 0 P (λe=>by
   have e:dP i (i.length+1) 0=.error 0:=e;exact G.ne e))
  have t:=aB C;clear E C D d I P u F c G;go_wp2_with fail;refine T.out.mono ?_;rintro e X ⟨j,p⟩;have O:Below H.heap.size H X:=⟨j.os.trans rfl,j.tape.trans rfl,j.output.trans rfl,G6 s_ j.size,λk hk=>by rw[j.block k t_ (by show k≠H.heap.size;omega)];exact G7 _ _ _ hk⟩
  have r:=aB (t.out.trans (O.mono t.out.size));simp only at p;cases m:dP i (i.length+1) 0 with
  |error n=>
   rw[m] at p;obtain rfl:e=cH 4 n:=p;have K:Hid (kZ l=.error (4,n)):=by show _=_;rw[A.out,m]
   clear j O T m A;go_wp2_with fail;exact⟨rfl,r.out,by rw[K.out];exact⟨s_,rfl⟩⟩
  |ok aq=>
   obtain⟨a,q⟩:=aq;rw[m] at p;obtain⟨Q,v3,rfl,M⟩:=p;obtain⟨t3,z3,rfl⟩:=M.form;have y:Hid (kZ l=if (aN i q).sort=101 then .ok a else .error (4,(aN i q).l_)):=by show _=_;rw[A.out,m]
   have L:=aB (VS _ X q Q);have J:=aB M;have aa:=t.out.size;clear j O T m A Q M;go_wp2_with fail;refine L.out.mono ?_;rintro e w4 ⟨o,⟨s,rfl⟩|⟨s,rfl⟩⟩
   ·have K:Hid (kZ l=.ok a):=by show _=_;rw[y.out];exact if_pos s
    have V:=aB (PN.grow (lo':=w.heap.size) (hi':=w4.heap.size) J.out (λb _ hb=>o.block b hb) t_ o.size)
    have N:=aB (r.out.trans (o.mono r.out.size));clear o s L y J;go_wp2_with fail;go_ret;exact⟨N.out,by rw[K.out];exact⟨_,rfl,V.out⟩⟩
   ·have K:Hid (kZ l=.error (4,(aN i q).l_)):=by show _=_;rw[y.out];exact if_neg s
    have N:=aB (r.out.trans (o.mono r.out.size));clear o s L y J;go_wp2_with fail;exact⟨rfl,N.out,by rw[K.out];exact⟨s_,rfl⟩⟩
def F1(l:List UInt8)(p:Nat)(w:World)(w':World):Prop:=
 ∃w1 v a,kZ l=.ok a/\Below w.heap.size w w1/\PN (Btw w.heap.size w1.heap.size) w1 v a/\w'=w1.setCell ⟨p,0,none⟩ v
def YN(c:ByteArray)(b p:Nat)(w:World)(x:gV w)(A:c.size<=maxLen)(B:w.cell? ⟨b,0,none⟩=some (.string c))(o:w.heap[p]?=some (.cells #[.nilIface] 92 (0,0))):
 Calls prog 70 #[.pointer (some ⟨b,0,none⟩),.pointer (some ⟨p,0,none⟩)] w λe s=>
  (e=.returned (.tuple #[])/\F1 c.data.toList p w s)\/
  ∃f,kZ c.data.toList=.error f/\f.1≠0/\e=cH f.1 f.2/\Below w.heap.size w s:=by
 have n:=aB (RI c w x A);have r:=aB o;have z:=aD o;clear x o;go_enter func70,ntmps70;go_wp2_with fail;refine n.out.mono ?_;rintro e m ⟨d,l⟩;cases j:kZ c.data.toList with
 |error f=>
  rw[j] at l;obtain⟨u,rfl⟩:=l;have k:=aB (I8 j (I8 u d));clear j u d n r;go_wp2_with fail;exact⟨rfl,F5 ⟨f,k.out.1,k.out.2.1,rfl,k.out.2.2⟩⟩
 |ok a=>
  rw[j] at l;obtain⟨v,rfl,q⟩:=l;obtain⟨t,y,rfl⟩:=q.form;have g:m.heap[p]?=some (.cells #[.nilIface] 92 (0,0)):=by rw[d.block _ z];exact r.out
  have D:=aA g (i:=0) rfl;have C:=aE g (i:=0);have E:=aD g;have k:Hid (F1 c.data.toList p w (m.setCell ⟨p,0,none⟩ (.iface t (.agg y)))):=⟨m,_,a,j,d,q,rfl⟩;clear j q d g n r;go_wp2_with fail;go_end0;exact F7 ⟨rfl,k.out⟩
def iK(a b:List UInt8):bs a++bs b=bs (a++b):=by
 apply XL
 rw[jM,ByteArray.data_append];simp[bs]
def digitsF_len(f:Nat):∀n t,(Hs.digitsF f n t).length<=t.length+f:=by
 induction f with
 |zero=>intro n t;simp[Hs.digitsF]
 |succ f a=>
  intro n t;rw[Hs.digitsF];split
  ·simp
  ·have:=a (n/10) (UInt8.ofNat (48+n%10)::t);rw[G1] at this;omega
def GG(n:Int):(cT n).length<=21:=by
 unfold cT;have:=digitsF_len 20 n.natAbs [];rw[F8];split<;>simp at this ⊢<;>omega
def rY(l:List aH)(h:∀x∈l,(bY x).length+2<=24*aT x):(eB (l.map bY)).length<=24*(l.map aT).sum:=by
 induction l with
 |nil=>simp[eB]
 |cons y r a=>
  have d:=h y s_
  have b:=a λx c=>h x (by simp[c])
  cases r with
  |nil=>simp[eB];omega
  |cons z r=>
   simp only[J1,eB,F8,J2,G1,G4] at b ⊢
   omega
def vA:∀v:aH,(bY v).length+2<=24*aT v:=by
 refine aH.ind λv a=>?_
 have c:=rY v.l a;have b:=GG v.n;rw[gF,fK];split
 ·omega
 split
 ·split<;>simp<;>omega
 split
 ·simp;omega
 ·simp;omega
def RL(s:List UInt8):(⟨#[34]⟩:ByteArray)++bs s=bs (34::s):=iK [34] s
def RN(s:List UInt8):bs s++(⟨#[34]⟩:ByteArray)=bs (s++[34]):=iK s [34]
def oM(n:Int):eW n=wrap64 n:=by unfold eW wrap64;rfl
def Hs.oneL_neg(h:op=[45,120])(b:a.sort=0):eE op a=(aL (wrap64 (-a.n)),0):=by
 rw[<-oM];unfold eE;rw[if_pos ⟨h,b⟩]
def CM(n:Int)(a: -9223372036854775808<=n)(b:n<=9223372036854775807):eW n=n:=by unfold eW;omega
def GZ(x y:Int)(b: -9223372036854775808<=x)(a:x<=9223372036854775807): -9223372036854775808<=x.tmod y/\x.tmod y<=9223372036854775807:=by
 have h:(x.tmod y).natAbs=x.natAbs%y.natAbs:=Int.natAbs_tmod x y;have d:x.natAbs%y.natAbs<=x.natAbs:=Nat.mod_le _ _;by_cases c:0<=x
 ·have:=Int.tmod_nonneg y c;omega
 ·have:x.tmod y<=0:=by
   have:=Int.tmod_nonneg y (show 0<= -x by omega)
   rw[Int.neg_tmod] at this;omega
  omega
def Grow(F:Nat->Prop)(w w':World)(b:Nat):Prop:=F b\/(w.heap.size<=b/\b<w'.heap.size)
def Grow.old{b:Nat}(h:F b):Grow F w w' b:=F7 h
def Grow.lt(c:∀b,F b->b<w.heap.size)(a:w.heap.size<=w'.heap.size):∀b,Grow F w w' b->b<w'.heap.size:=λb h=>by
 rcases h with h|h
 ·exact G3 (c b h) a
 ·exact h.2
def rZ:∀l m:List UInt8,Op.bytesLess l m=eX l m
 |[],[]=>rfl
 |[],_::_=>rfl
 |_::_,[]=>rfl
 |a::l,b::m=>by
  rw[Op.bytesLess,eX,rZ l m];by_cases c:a.toNat<b.toNat
  ·rw[if_pos c,decide_eq_true (UInt8.lt_iff_toNat_lt.2 c),Bool.true_or]
  ·rw[if_neg c,decide_eq_false (λh=>c (UInt8.lt_iff_toNat_lt.1 h)),Bool.false_or]
   by_cases d:b.toNat<a.toNat
   ·rw[if_pos d,beq_eq_false_iff_ne.2 (λe=>by rw[e] at d;omega),Bool.false_and]
   ·rw[if_neg d,show a=b from N7.1 o_,beq_self_eq_true,Bool.true_and]
def EC:∀l m:List UInt8,(eX l m || l==m)= !eX m l
 |[],[]=>rfl
 |[],_::_=>rfl
 |_::_,[]=>rfl
 |a::l,b::m=>by
  rw[eX,eX];by_cases d:a.toNat<b.toNat
  ·rw[if_pos d,if_neg o_,if_pos d];rfl
  ·by_cases c:b.toNat<a.toNat
   ·rw[if_neg d,if_pos c,if_pos c];have:(a::l==b::m)=false:=beq_eq_false_iff_ne.2 (λe=>by rw[List.cons.injEq] at e;rw[e.1] at c;omega)
    rw[this];rfl
   ·rw[if_neg d,if_neg c,if_neg c,if_neg d,<-EC l m,show a=b from N7.1 o_]
    simp
abbrev jQ(k:Nat):Ending:=.panicked [{ v:=.iface 245 (.int .i64 k),recovered:=false }]
def VLr(R:Value->aH->Prop)(F:Nat->Prop)(w:World)(sv:Value)(l:List aH):Prop:=
 (l=[]/\sv=.slice none 0 0)\/
 ∃g cap cur,sv=.slice (some ⟨g,0,none⟩) l.length cap/\F g/\w.heap[g]?=some (.cells cur 180 (0,0))/\l.length<=cap/\∀i (h:i<l.length),∃u,cur[i]?=some u/\R u l[i]
def VR:Nat->(Nat->Prop)->World->Value->aH->Prop
 |0,_,_,_,_=>False
 |d+1,F,w,v,a=>
  (∃n,v=.iface 229 (.int .i64 n)/\a=aL n/\ -9223372036854775808<=n/\n<=9223372036854775807)\/
  (∃b,v=.iface 230 (.bool b)/\a=bK b)\/
  (∃s,v=.iface 232 (.string (bs s))/\a=bI s)\/
  (∃sv l,v=.iface 233 sv/\a=bC l/\VLr (VR d F w) F w sv l)
def VLr.mono{R S:Value->aH->Prop}{e:Value}(h:VLr R F w e l)(s:∀v a,R v a->S v a)(o:∀b,F b->G b):VLr S G w e l:=by
 rcases h with h|⟨g,c,d,m,j,p,k,n⟩
 ·exact F7 h
 ·refine F5 ⟨g,c,d,m,o _ j,p,k,λi q=>?_⟩
  obtain⟨u,f,r⟩:=n i q;exact⟨u,f,s _ _ r⟩
def VLr.keep{R:Value->aH->Prop}{e:Value}(h:VLr R F w e l)(f:∀b,F b->w'.heap[b]?=w.heap[b]?):VLr R F w' e l:=by
 rcases h with h|⟨g,c,a,j,d,m,i,k⟩
 ·exact F7 h
 ·exact F5 ⟨g,c,a,j,d,by rw[f g d];exact m,i,k⟩
def VR.mono(c:∀b,F b->G b):∀{d e:Nat} {v:Value} {a:aH},VR d F w v a->d<=e->VR e G w v a
 |0,_,_,_,h,_=>h.elim
 |d+1,0,_,_,_,h=>by omega
 |d+1,e+1,v,a,h,f=>by
  rcases h with h|h|h|⟨i,l,j,g,k⟩
  ·exact F7 h
  ·exact F5 (F7 h)
  ·exact F5 (F5 (F7 h))
  ·exact F5 (F5 (F5 ⟨i,l,j,g,k.mono (λ_ _ h=>VR.mono c h o_) c⟩))
def VR.keep(c:∀b,F b->w'.heap[b]?=w.heap[b]?):∀{d:Nat} {v:Value} {a:aH},VR d F w v a->VR d F w' v a
 |0,_,_,h=>h.elim
 |d+1,v,a,h=>by
  rcases h with h|h|h|⟨f,l,g,e,i⟩
  ·exact F7 h
  ·exact F5 (F7 h)
  ·exact F5 (F5 (F7 h))
  ·exact F5 (F5 (F5 ⟨f,l,g,e,(i.mono (λ_ _ h=>VR.keep c h) (λ_ h=>h)).keep c⟩))
def PV(F:Nat->Prop)(w:World)(v:Value)(a:aH):Prop:=∃d,VR d F w v a
def PV.mono(h:PV F w v a)(c:∀b,F b->G b):PV G w v a:=by
 obtain⟨d,h⟩:=h;exact⟨d,h.mono c (F6 _)⟩
def PV.keep(h:PV F w v a)(c:∀b,F b->w'.heap[b]?=w.heap[b]?):PV F w' v a:=by
 obtain⟨d,h⟩:=h;exact⟨d,h.keep c⟩
def PV.num(F:Nat->Prop)(w:World)(n:Int)(b: -9223372036854775808<=n)(a:n<=9223372036854775807):PV F w (.iface 229 (.int .i64 n)) (aL n):=⟨1,F7 ⟨n,rfl,rfl,b,a⟩⟩
def PV.tru(F:Nat->Prop)(w:World)(b:Bool):PV F w (.iface 230 (.bool b)) (bK b):=⟨1,F5 (F7 ⟨b,rfl,rfl⟩)⟩
def PV.str(F:Nat->Prop)(w:World)(s:List UInt8):PV F w (.iface 232 (.string (bs s))) (bI s):=⟨1,F5 (F5 (F7 ⟨s,rfl,rfl⟩))⟩
def PVs(F:Nat->Prop)(w:World)(sv:Value)(l:List aH):Prop:=VLr (PV F w) F w sv l
def KM{F:Nat->Prop}{w:World}{cur:Array Value}:∀(l:List aH) (o:Nat),(∀i (h:i<l.length),∃u,cur[o+i]?=some u/\PV F w u l[i])->∃d,∀i (h:i<l.length),∃u,cur[o+i]?=some u/\VR d F w u l[i]
 |[],_,_=>⟨0,λi h=>by simp at h⟩
 |a::l,o,h=>by
  obtain⟨u,m,d,f⟩:=h 0 s_
  obtain⟨e,g⟩:=KM (F:=F) (w:=w) (cur:=cur) l (o+1) λi b=>by
   have:=h (i+1) (by simpa using b)
   rw[show o+1+i=o+(i+1) by omega]
   simpa using this
  refine⟨max d e,λi b=>?_⟩
  cases i with
  |zero=>exact⟨u,m,f.mono (λ_ h=>h) (Nat.le_max_left _ _)⟩
  |succ i=>
   obtain⟨j,c,k⟩:=g i (by simpa using b)
   rw[show o+1+i=o+(i+1) by omega] at c
   exact⟨j,c,k.mono (λ_ h=>h) (Nat.le_max_right _ _)⟩
def PV.lst{b:Value}(h:PVs F w b l):PV F w (.iface 233 b) (bC l):=by
 rcases h with h|⟨g,c,a,j,f,m,i,k⟩
 ·exact⟨1,F5 (F5 (F5 ⟨b,l,rfl,rfl,F7 h⟩))⟩
 ·obtain⟨d,e⟩:=KM (cur:=a) l 0 (by simpa using k)
  exact⟨d+1,F5 (F5 (F5 ⟨b,l,rfl,rfl,F5 ⟨g,c,a,j,f,m,i,by simpa using e⟩⟩))⟩
def PV.cases(h:PV F w v a):
 (∃n,v=.iface 229 (.int .i64 n)/\a=aL n/\ -9223372036854775808<=n/\n<=9223372036854775807)\/
 (∃b,v=.iface 230 (.bool b)/\a=bK b)\/
 (∃s,v=.iface 232 (.string (bs s))/\a=bI s)\/
 (∃x c l,v=.iface 233 (.slice x l.length c)/\a=bC l/\PVs F w (.slice x l.length c) l):=by
 obtain⟨d,h⟩:=h;cases d with
 |zero=>exact h.elim
 |succ d=>
  rcases h with h|h|h|⟨o,l,i,e,j⟩
  ·exact F7 h
  ·exact F5 (F7 h)
  ·exact F5 (F5 (F7 h))
  ·refine F5 (F5 (F5 ?_));have f:PVs F w o l:=j.mono (λ_ _ h=>⟨d,h⟩) (λ_ h=>h)
   rcases j with ⟨rfl,rfl⟩|⟨g,k,m,rfl,_⟩
   ·exact⟨none,0,[],i,e,f⟩
   ·exact⟨_,_,l,i,e,f⟩
def MJ(F:Nat->Prop)(v:Value)(a:aH)(w:World)(h:PV F w v a):
 Calls prog 295 #[v] w λe d=>d=w/\((a.sort=1/\e=.returned (.bool (decide (a.n=1))))\/(a.sort≠1/\e=jQ 2)):=by
 rcases h.cases with ⟨n,rfl,rfl,_,_⟩|⟨b,rfl,rfl⟩|⟨s,rfl,rfl⟩|⟨x,c,l,rfl,rfl,_⟩
 ·clear h;have q:=GW;go_enter func295,ntmps295;go_wp2_with fail;exact⟨rfl,rfl,F5 ⟨by simp[aL],rfl⟩⟩
 ·clear h;have q:=sB;go_enter func295,ntmps295;go_wp2_with fail;go_ret;exact⟨rfl,F7 ⟨rfl,by cases b<;>rfl⟩⟩
 ·clear h;have q:=vB;go_enter func295,ntmps295;go_wp2_with fail;exact⟨rfl,rfl,F5 ⟨by simp[bI],rfl⟩⟩
 ·clear h;have q:=sA;go_enter func295,ntmps295;go_wp2_with fail;exact⟨rfl,rfl,F5 ⟨by simp[bC],rfl⟩⟩
def iZ(F:Nat->Prop)(w:World)(r:aH × Nat)(e:Ending)(w':World):Prop:=w'=w/\((r.2=0/\∃u,e=.returned u/\PV F w u r.1)\/(r.2≠0/\e=jQ r.2))
def iZ.ok(b:r=(a,0))(h:PV F w u a):iZ F w r (.returned u) w:=by subst b;exact⟨rfl,F7 ⟨rfl,u,rfl,h⟩⟩
def iZ.stop(c:r=(a,k))(b:k≠0):iZ F w r (jQ k) w:=by subst c;exact⟨rfl,F5 ⟨b,rfl⟩⟩
def jH(n:Int): -9223372036854775808<=eW n/\eW n<=9223372036854775807:=by unfold eW;omega
def PV.wrap(F:Nat->Prop)(w:World)(n:Int):PV F w (.iface 229 (.int .i64 (wrap64 n))) (aL (eW n)):=by
 rw[<-oM];exact PV.num F w _ (jH n).1 (jH n).2
def RV(op:List UInt8)(F:Nat->Prop)(x y:Int)(w:World)(t: -9223372036854775808<=x)(s:x<=9223372036854775807)(z: -9223372036854775808<=y)(A:y<=9223372036854775807):
 Calls prog 308 #[.string (bs op),.int .i64 x,.int .i64 y] w (iZ F w (gN op x y)):=by
 have a:=bT op;obtain⟨r,b⟩:=E_ (gN op x y);rw[<-b];unfold gN at b;by_cases n:op=[43]
 ·rw[if_pos n] at b;have f:((bs op).toList==[60])=false:=by rw[a,n];rfl
  have g:((bs op).toList==[60,61])=false:=by rw[a,n];rfl
  have e:((bs op).toList==[43])=true:=by rw[a,n];rfl
  have d:((bs op).toList==[45])=false:=by rw[a,n];rfl
  have c:((bs op).toList==[42])=false:=by rw[a,n];rfl
  have i:=aB b;clear a b n;go_enter func308,ntmps308;go_wp2_with fail;go_ret;exact iZ.ok i.out (PV.wrap F w (x+y))
 rw[if_neg n] at b;have e:((bs op).toList==[43])=false:=by rw[a];simpa using n
 clear n;by_cases k:op=[45]
 ·rw[if_pos k] at b;have f:((bs op).toList==[60])=false:=by rw[a,k];rfl
  have g:((bs op).toList==[60,61])=false:=by rw[a,k];rfl
  have e:((bs op).toList==[43])=false:=by rw[a,k];rfl
  have d:((bs op).toList==[45])=true:=by rw[a,k];rfl
  have c:((bs op).toList==[42])=false:=by rw[a,k];rfl
  have i:=aB b;clear a b k;go_enter func308,ntmps308;go_wp2_with fail;go_ret;exact iZ.ok i.out (PV.wrap F w (x-y))
 rw[if_neg k] at b;have d:((bs op).toList==[45])=false:=by rw[a];simpa using k
 clear k;by_cases j:op=[42]
 ·rw[if_pos j] at b;have f:((bs op).toList==[60])=false:=by rw[a,j];rfl
  have g:((bs op).toList==[60,61])=false:=by rw[a,j];rfl
  have e:((bs op).toList==[43])=false:=by rw[a,j];rfl
  have d:((bs op).toList==[45])=false:=by rw[a,j];rfl
  have c:((bs op).toList==[42])=true:=by rw[a,j];rfl
  have i:=aB b;clear a b j;go_enter func308,ntmps308;go_wp2_with fail;go_ret;exact iZ.ok i.out (PV.wrap F w (x*y))
 rw[if_neg j] at b;have c:((bs op).toList==[42])=false:=by rw[a];simpa using j
 clear j;by_cases l:op=[60]
 ·rw[if_pos l] at b;have f:((bs op).toList==[60])=true:=by rw[a,l];rfl
  have g:((bs op).toList==[60,61])=false:=by rw[a,l];rfl
  have e:((bs op).toList==[43])=false:=by rw[a,l];rfl
  have d:((bs op).toList==[45])=false:=by rw[a,l];rfl
  have c:((bs op).toList==[42])=false:=by rw[a,l];rfl
  have i:=aB b;clear a b l;go_enter func308,ntmps308;go_wp2_with fail;go_ret;exact iZ.ok i.out (PV.tru F w (decide (x<y)))
 rw[if_neg l] at b;have f:((bs op).toList==[60])=false:=by rw[a];simpa using l
 clear l;by_cases m:op=[60,61]
 ·rw[if_pos m] at b;have f:((bs op).toList==[60])=false:=by rw[a,m];rfl
  have g:((bs op).toList==[60,61])=true:=by rw[a,m];rfl
  have e:((bs op).toList==[43])=false:=by rw[a,m];rfl
  have d:((bs op).toList==[45])=false:=by rw[a,m];rfl
  have c:((bs op).toList==[42])=false:=by rw[a,m];rfl
  have i:=aB b;clear a b m;go_enter func308,ntmps308;go_wp2_with fail;go_ret;exact iZ.ok i.out (PV.tru F w (decide (x<=y)))
 rw[if_neg m] at b;have g:((bs op).toList==[60,61])=false:=by rw[a];simpa using m
 clear m;by_cases p:y=0
 ·rw[if_pos p] at b;subst p;have i:=aB b;clear a b;go_enter func308,ntmps308;go_wp2_with fail;exact⟨rfl,iZ.stop i.out d_⟩
 rw[if_neg p] at b;have B:(y==0)=false:=by simpa using p
 by_cases o:op=[47]
 ·rw[if_pos o] at b;have v:((bs op).toList==[47])=true:=by rw[a,o];rfl
  have i:=aB b;clear a b o;go_enter func308,ntmps308;go_wp2_with fail;go_ret;exact iZ.ok i.out (PV.wrap F w (x.tdiv y))
 ·rw[if_neg o] at b;have v:((bs op).toList==[47])=false:=by rw[a];simpa using o
  have q:=GZ x y t s;rw[CM _ q.1 q.2] at b;have i:=aB b;have u:=aB q;clear a b o q;go_enter func308,ntmps308;go_wp2_with fail;go_ret;exact iZ.ok i.out (PV.num F w (x.tmod y) u.out.1 u.out.2)
def yR(o:UInt8)(z:o=45\/o=33)(F:Nat->Prop)(v:Value)(a:aH)(w:World)(h:PV F w v a):
 Calls prog 294 #[.string (bs [o]),v] w (iZ F w (eE [o,120] a)):=by
 rcases z with rfl|rfl
 ·have A:((bs [45]).toList==[33])=false:=by rw[bT];rfl
  rcases h.cases with ⟨n,rfl,rfl,D,C⟩|⟨b,rfl,rfl⟩|⟨s,rfl,rfl⟩|⟨x,c,l,rfl,rfl,_⟩
  ·have p:=aB (Hs.oneL_neg (op:=[45,120]) (a:=aL n) rfl rfl);have q:=kP;clear h;generalize eE [45,120] (aL n)=r at*;go_enter func294,ntmps294;go_wp2_with fail;go_ret;exact iZ.ok p.out (by have i:=PV.wrap F w (-n);rw[oM] at i;exact i)
  ·have q:=jO;clear h;go_enter func294,ntmps294;go_wp2_with fail;exact⟨rfl,iZ.stop (a:=cJ) (by unfold eE;simp[bK]) d_⟩
  ·have q:=kO;clear h;go_enter func294,ntmps294;go_wp2_with fail;exact⟨rfl,iZ.stop (a:=cJ) (by unfold eE;simp[bI]) d_⟩
  ·have q:=jN;clear h;go_enter func294,ntmps294;go_wp2_with fail;exact⟨rfl,iZ.stop (a:=cJ) (by unfold eE;simp[bC]) d_⟩
 ·have A:((bs [33]).toList==[33])=true:=by rw[bT];rfl
  have B:=aB (MJ F v a w h);obtain⟨r,j⟩:=E_ (eE [33,120] a);rw[<-j];have k:=aB j
  have d:∃t u,v=.iface t u:=by
   rcases h.cases with ⟨n,rfl,_⟩|⟨b,rfl,_⟩|⟨s,rfl,_⟩|⟨x,c,l,rfl,_⟩<;>exact⟨_,_,rfl⟩
  obtain⟨t,u,rfl⟩:=d;have y:=aB h.cases;clear h j;go_enter func294,ntmps294;go_wp2_with fail;refine B.out.mono ?_;rintro e m ⟨rfl,⟨g,rfl⟩|⟨g,rfl⟩⟩
  ·have f:=aB g;clear g;go_wp2_with fail;go_ret;refine iZ.ok (a:=bK (!decide (a.n=1))) ?_ (PV.tru F m (!decide (a.n=1)));rw[k.out];unfold eE;rw[if_neg s_,if_pos ⟨rfl,f.out⟩]
   rcases y.out with ⟨n,_,rfl,_⟩|⟨b,_,rfl⟩|⟨s,_,rfl⟩|⟨x,c,l,_,rfl,_⟩
   ·have:=f.out;simp[aL] at this
   ·cases b<;>rfl
   ·have:=f.out;simp[bI] at this
   ·have:=f.out;simp[bC] at this
  ·have f:=aB g;clear g;go_wp2_with fail;exact⟨rfl,iZ.stop (a:=cJ) (by rw[k.out];unfold eE;rw[if_neg s_,if_neg (λi=>f.out i.2)]) d_⟩
def PVs.get{x:Option Addr}{n c:Nat}(h:PVs F w (.slice x n c) l)(i:Nat)(b:i<l.length):∃g u,x=some ⟨g,0,none⟩/\n=l.length/\F g/\g<w.heap.size/\l.length<=c/\w.cell? ⟨g,i,none⟩=some u/\PV F w u l[i]:=by
 rcases h with ⟨rfl,_⟩|⟨g,k,o,j,e,a,f,m⟩
 ·simp at b
 ·cases j;obtain⟨u,d,p⟩:=m i b;exact⟨g,u,rfl,rfl,e,aD a,f,aA a d,p⟩
def PV.form(h:PV F w v a):∃t u,v=.iface t u:=by
 rcases h.cases with ⟨n,rfl,_⟩|⟨b,rfl,_⟩|⟨s,rfl,_⟩|⟨x,c,l,rfl,_⟩<;>exact⟨_,_,rfl⟩
def PVs.keep{c:Value}(h:PVs F w c l)(a:∀b,F b->w'.heap[b]?=w.heap[b]?):PVs F w' c l:=(VLr.mono h (λ_ _ h=>h.keep a) (λ_ h=>h)).keep a
def PVs.mono{a:Value}(h:PVs F w a l)(c:∀b,F b->G b):PVs G w a l:=VLr.mono h (λ_ _ h=>h.mono c) c
def UB(n:Int):aT (aL n)=1:=by rw[fK];simp[aL]
def UA(b:Bool):aT (bK b)=1:=by rw[fK];simp[bK]
def mW(s:List UInt8):aT (bI s)=1+s.length:=by rw[fK];simp[bI]
def kL(l:List aH):aT (bC l)=1+(l.map aT).sum:=by rw[fK];simp[bC]
def qK(h:a∈l):aT a<=(l.map aT).sum:=by
 induction l with
 |nil=>cases h
 |cons x l b=>
  simp only[J1,J2];rcases G9.1 h with rfl|h
  ·omega
  ·have:=b h;omega
def qJ(a:aH):1<=aT a:=by rw[fK];omega
def kJ(l:List aH):l.length<=(l.map aT).sum:=by
 induction l with
 |nil=>simp
 |cons x l a=>simp only[J1,J2,G1];have:=qJ x;omega
def GR(F:Nat->Prop)(k:Nat):Prop:=∀(v:Value) (a:aH) (w:World),PV F w v a->aT a<=k->k<=1000000000->Calls prog 289 #[v] w λe w'=>w'=w/\e=.returned (.int .i64 (aT a:Nat))
def IZ(F:Nat->Prop)(k:Nat)(IH:GR F k):GR F (k+1):=by
 intro v a w h o N;rcases h.cases with ⟨n,rfl,rfl,O,L⟩|⟨b,rfl,rfl⟩|⟨s,rfl,rfl⟩|⟨x,c,l,rfl,rfl,D⟩
 ·have q:=xJ;have E:=lH;rw[UB];clear h IH o;go_enter func289,ntmps289;go_wp2_with fail;go_ret;exact⟨rfl,rfl⟩
 ·have q:=oO;have E:=iN;rw[UA];clear h IH o;go_enter func289,ntmps289;go_wp2_with fail;go_ret;exact⟨rfl,rfl⟩
 ·have q:=nB;have T:(bs s).size=s.length:=gI s;rw[mW] at o ⊢
  clear h IH;go_enter func289,ntmps289;go_wp2_with fail;go_ret;exact⟨rfl,by go_num⟩
 ·have q:=lG;have E:=iM;have C:=kJ l;rw[kL] at o ⊢
  have z:=aB IH;have I:=aB D;clear h IH D;go_enter func289,ntmps289;go_wp2_with fail;go_loopg [5,7,20] l.length (λgk s _ i wr=>∃j:Nat,j+gk=l.length/\i=.int .i64 j/\s=.int .i64 ((1+((l.map aT).take j).sum:Nat):Int)/\wr=w)
  case atStart=>exact⟨0,o_,rfl,rfl,rfl⟩
  case round=>
   obtain⟨j,V,rfl,rfl,rfl⟩:=hrel;by_cases d:j<l.length
   ·obtain⟨m,rfl⟩:∃m,gk=m+1:=⟨gk-1,o_⟩
    obtain⟨g,u,rfl,U,S,M,B,y,A⟩:=I.out.get j d;have f:l[j]∈l:=H9 d;have G:=qK f;have J:=aB (z.out u l[j] wr A o_ o_)
    obtain⟨t,Q,rfl⟩:=A.form
    have p:((l.map aT).take (j+1)).sum=((l.map aT).take j).sum+aT l[j]:=by
     rw[H8 (by simpa using d),N5];simp only[List.getElem_map,J2,L1,Nat.add_zero]
    have H:((l.map aT).take (j+1)).sum<=(l.map aT).sum:=by
     have e:(l.map aT).sum=((l.map aT).take (j+1)++(l.map aT).drop (j+1)).sum:=by rw[L0]
     rw[e,N5];omega
    generalize aT l[j]=P at*;clear A;go_wp2_with fail;refine J.out.mono ?_;rintro e K ⟨rfl,rfl⟩;go_wp2_with fail;go_roundg m
    case measure=>omega
    case rel=>exact⟨j+1,o_,by go_num,by rw[p];go_num,rfl⟩
   ·have r:j=l.length:=o_
    subst r;go_wp2_with fail;go_ret;exact⟨rfl,by rw[J5 s_];rfl⟩
def yW(F:Nat->Prop):∀k,GR F k
 |0=>λv a w _ h=>by have:=qJ a;omega
 |k+1=>IZ F k (yW F k)
def sT(F:Nat->Prop)(v:Value)(a:aH)(w:World)(h:PV F w v a)(g:aT a<=1000000000):
 Calls prog 288 #[v] w λe d=>d=w/\((aT a<=200/\e=.returned v)\/(200<aT a/\e=jQ 6)):=by
 have b:=aB (yW F 1000000000 v a w h g (F6 _));obtain⟨t,u,rfl⟩:=h.form;clear h;generalize aT a=n at*;by_cases f:n<=200
 ·have e:decide ((200:Int)<(n:Int))=false:=decide_eq_false o_
  go_enter func288,ntmps288;go_wp2_with fail;refine b.out.mono ?_;rintro e c ⟨rfl,rfl⟩;go_wp2_with fail;go_ret;exact⟨rfl,F7 ⟨f,rfl⟩⟩
 ·have e:decide ((200:Int)<(n:Int))=true:=decide_eq_true o_
  go_enter func288,ntmps288;go_wp2_with fail;refine b.out.mono ?_;rintro e c ⟨rfl,rfl⟩;go_wp2_with fail;exact⟨rfl,rfl,F5 ⟨o_,rfl⟩⟩
noncomputable def CR(op:List UInt8)(a b:List UInt8):aH × Nat:=
 if op=[60] then (bK (eX a b),0)
 else if op=[60,61] then (bK (!eX b a),0)
 else if op=[43] then (if 200<aT (bI (a++b)) then (cJ,6) else (bI (a++b),0))
 else (cJ,2)
def RQ(op:List UInt8)(F:Nat->Prop)(a b:List UInt8)(w:World)(q:a.length+b.length<=1000000):
 Calls prog 309 #[.string (bs op),.string (bs a),.string (bs b)] w (iZ F w (CR op a b)):=by
 have c:=bT op;obtain⟨r,d⟩:=E_ (CR op a b);rw[<-d];unfold CR at d;by_cases g:op=[60]
 ·rw[if_pos g] at d;have p:((bs op).toList==[60])=true:=by rw[c,g];rfl
  have i:Hid (Op.bytesLess (bs a).toList (bs b).toList=eX a b):=by show _=_;rw[bT,bT,rZ]
  have f:=aB d;clear c d g;generalize eX a b=t at*;go_enter func309,ntmps309;go_wp2_with fail;go_ret;exact iZ.ok f.out (by rw[<-i.out];exact PV.tru F w _)
 rw[if_neg g] at d;have p:((bs op).toList==[60])=false:=by rw[c];simpa using g
 by_cases j:op=[60,61]
 ·rw[if_pos j] at d;have v:((bs op).toList==[60,61])=true:=by rw[c,j];rfl
  have i:Hid ((Op.bytesLess (bs a).toList (bs b).toList || (bs a).toList==(bs b).toList)= !eX b a):=by show _=_;rw[bT,bT,rZ,EC]
  have f:=aB d;clear c d g j;generalize eX b a=t at*;go_enter func309,ntmps309;go_wp2_with fail;go_ret;exact iZ.ok f.out (by rw[<-i.out];exact PV.tru F w _)
 rw[if_neg j] at d;have v:((bs op).toList==[60,61])=false:=by rw[c];simpa using j
 by_cases k:op=[43]
 ·rw[if_pos k] at d;have u:((bs op).toList==[43])=true:=by rw[c,k];rfl
  have l:=mW (a++b);have x:=aB (sT F (.iface 232 (.string (bs (a++b)))) _ w (PV.str F w (a++b)) (by rw[l,F8];omega))
  have f:=aB d;have s:=gI;clear c d g j k l;go_enter func309,ntmps309;go_wp2_with fail;refine x.out.mono ?_;rintro e o ⟨rfl,⟨m,rfl⟩|⟨m,rfl⟩⟩
  ·have n:Hid (r=(bI (a++b),0)):=by show _=_;rw[f.out,if_neg o_]
   clear m f;go_wp2_with fail;go_ret;exact iZ.ok n.out (PV.str F o (a++b))
  ·have n:Hid (r=(cJ,6)):=by show _=_;rw[f.out,if_pos m]
   clear m f;go_wp2_with fail;exact⟨rfl,iZ.stop n.out d_⟩
 ·rw[if_neg k] at d;have u:((bs op).toList==[43])=false:=by rw[c];simpa using k
  have f:=aB d;clear c d g j k;go_enter func309,ntmps309;go_wp2_with fail;exact⟨rfl,iZ.stop f.out d_⟩
def tB:(prog.info? 180).map (λi=>(i.zero,i.size,i.bytes))=some (some .nilIface,1,16):=k_
def uB{P:Program}(w:World)(t u r e:TypeId)(i:TypeInfo)(z:Value)(j:P.underlying t=some (.slice e))(q:P.underlying u=some (.int .i64))(s:P.info? e=some i)(o:i.zero=some z)(m:i.size=1)
 (n:Nat) (k:0<n) (v:n<=1000000000) (l:i.bytes<=64):
 (Builtin.append_ #[t,u] r #[.slice none 0 0,.int .i64 n]).run P w=
   .ok (.slice (some ⟨w.heap.size,0,none⟩) n (grownCap w n 0 e)) (w.drew.alloc (.cells (Builtin.zeroCells z.cells n++Builtin.zeroCells z.cells (grownCap w n 0 e-n)) e)):=by
 have g:n≠0:=o_
 have h:n*i.bytes<=1000000000*64:=Nat.mul_le_mul v l;have d:¬(281474976710656<Builtin.nextslicecap n 0*i.bytes):=by rw[nextslicecap_zero k];omega
 have f:¬(9223372036854775807<(n:Int)):=o_
 have p:IntKind.i64.wrap (n:Int)=n:=by
  rw[IntKind.wrap_i64];omega
 have c:¬(281474976710656<(n:Int)*(i.bytes:Int)):=by
  have:((n*i.bytes:Nat):Int)<=64000000000:=o_
  rw[Int.natCast_mul] at this;omega
 have b:¬((n:Int)<0):=o_
 have a:max (n:Int) 0=n:=o_
 simp[Builtin.append_,run_underlying j,run_underlying q,sizeOf,typeInfo,zeroValue,s,o,m,p,asInt,asIntOf,b,a,g,f,d,c,Question.forced,run_firstCells_none,newRow,grownCap]
def qO{P:Program}{c:Array Oper}{b:List Oper}{o:Oper}{a:Act}{Q:Exit->Act->World->Prop}(f:o.guard=none)(s x:Operand)(t u:TypeId)
 (q:o.op=.call { callee:=.builtin .append,args:= #[s,x],argTypes:= #[t,u] })
 (e:TypeId) (i:TypeInfo) (z:Value) (g:P.underlying t=some (.slice e)) (r:P.underlying u=some (.int .i64)) (y:P.info? e=some i) (p:i.zero=some z) (l:i.size=1)
 (n:Nat) (j:0<n) (B:n<=1000000000) (k:i.bytes<=64) (v:a.eval s=.slice none 0 0) (A:a.eval x=.int .i64 n)
 (h:wpList P c Q b (a.put o.dst (.slice (some ⟨w.heap.size,0,none⟩) n (grownCap w n 0 e))) (w.drew.alloc (.cells (Builtin.zeroCells z.cells n++Builtin.zeroCells z.cells (grownCap w n 0 e-n)) e))):wpList P c Q (o::b) a w:=by
 refine wpList_plain f λK m=>?_
 have d:=uB (P:=P) w t u o.type e i z g r y p l n j B k;unfold Oper.wp;simp[execOp,q,resolve,invoke,builtin,v,A,d,Result.andThen];exact m _ _ h
def RY(n:Nat)(q:n<=1000000)(w:World):
 Calls prog 313 #[.slice none 0 0,.int .i64 n] w λe j=>∃v,e=.returned v/\j.ownsRow w.heap.size 180 1 v 0 []/\Below w.heap.size w j:=by
 obtain⟨k,o,d,g,l⟩:=info_parts tB;rcases Nat.eq_zero_or_pos n with rfl|m
 ·go_enter func313,ntmps313;go_wp2_with fail;go_ret;exact⟨_,rfl,World.ownsRow_nil _ _ _ _,F9 _ _⟩
 ·have r:decide ((n:Int)<0)=false:=decide_eq_false o_
  have p:decide ((0:Int)<(n:Int))=true:=decide_eq_true o_
  have b:=grownCap_ge w n 0 180;have a:=grownCap_le_maxLen w n 0 180 (by unfold maxLen;omega)
  generalize c:grownCap w n 0 180=f at b a;have i:=aB c;clear c;go_enter func313,ntmps313;go_wp2_with (at_builtin;refine qO r_ _ _ 233 3 r_ 180 k .nilIface underlying233 underlying3 o d g n m o_ o_ r_ r_ ?_;rw[i.out])
  go_ret;refine⟨_,rfl,⟨rfl,F5 ⟨w.heap.size,f,_,rfl,F6 _,aU _ _ rfl _,K5 _,a,?_,rfl⟩⟩,?_⟩
  ·rw[Array.size_append,size_zeroCells,size_zeroCells];simp;omega
  ·exact((F9 _ _).drew).alloc s_ _
def fO(F:Nat->Prop)(w:World)(xs:List Value)(l:List aH):Prop:=xs.length=l.length/\∀i (h:i<l.length),∃u,xs[i]?=some u/\PV F w u l[i]
def fO.nil(F:Nat->Prop)(w:World):fO F w [] []:=⟨rfl,λi h=>by simp at h⟩
def fO.keep(h:fO F w xs l)(a:∀b,F b->w'.heap[b]?=w.heap[b]?):fO F w' xs l:=
 ⟨h.1,λi e=>by obtain⟨u,d,c⟩:=h.2 i e;exact⟨u,d,c.keep a⟩⟩
def fO.mono(h:fO F w xs l)(e:∀b,F b->G b):fO G w xs l:=
 ⟨h.1,λi d=>by obtain⟨u,c,a⟩:=h.2 i d;exact⟨u,c,a.mono e⟩⟩
def fO.append{d:List Value}(h:fO F w xs l)(k:fO F w d m):fO F w (xs++d) (l++m):=by
 refine⟨by simp[h.1,k.1],λi f=>?_⟩
 rcases J8 i l.length with a|a
 ·obtain⟨u,b,c⟩:=h.2 i a;exact⟨u,by rw[J7 (by rw[h.1];exact a)];exact b,by rw[P1 a];exact c⟩
 ·have e:i-l.length<m.length:=by simp at f;omega
  obtain⟨u,b,c⟩:=k.2 _ e;exact⟨u,by rw[I3 (by rw[h.1];exact a),h.1];exact b,by rw[O7 a];exact c⟩
def PVs.row{d:Value}(h:PVs F w d l):(l=[]/\d=.slice none 0 0)\/∃g a k,d=.slice (some ⟨g,0,none⟩) l.length a/\F g/\g<w.heap.size/\fO F w k l/\∀j u,k[j]?=some u->w.cell? ⟨g,j,none⟩=some u:=by
 rcases h with h|⟨g,a,b,q,o,m,t,f⟩
 ·exact F7 h
 ·have s:l.length<=b.size:=by
   rcases Nat.eq_zero_or_pos l.length with p|p
   ·omega
   ·obtain⟨u,e,_⟩:=f (l.length-1) o_
    have:=(Array.getElem?_eq_some_iff.1 e).1;omega
  refine F5 ⟨g,a,b.toList.take l.length,q,o,aD m,⟨t_,λi n=>?_⟩,λj u c=>?_⟩
  ·obtain⟨u,e,r⟩:=f i n;exact⟨u,by rw[I9,if_pos n];simpa using e,r⟩
  ·rw[I9] at c;split at c
   ·exact aA m (by simpa using c)
   ·cases c
def PVs.ofRow{b_:Nat}(h:w.ownsRow b_ 180 1 v l.length xs)(p:fO F w xs l)(o:∀k,v.ownBlock=some k->F k):PVs F w v l:=by
 rcases h.2 with ⟨a,d⟩|⟨g,b,c,a,d,f,j,s,r,m⟩
 ·exact F7 ⟨I4 d,a⟩
 ·refine F5 ⟨g,b,c,a,o g (by rw[a];rfl),f,j,λi q=>?_⟩
  obtain⟨u,e,n⟩:=p.2 i q;refine⟨u,?_,n⟩;rw[<-m,I9,if_pos o_] at e
  simpa using e
def DK(h:fO F w xs l):∀u∈xs,u.oneCell'=true:=by
 intro u c;obtain⟨j,b,rfl⟩:=O3.1 c;obtain⟨f,a,d⟩:=h.2 j (by rw[<-h.1];exact b)
 rw[H7 b] at a;cases a;obtain⟨t,z,e⟩:=d.form;rw[e];rfl
def AJ{y:Array Oper}{i:List Oper}{o:Oper}{a:Act}{Q:Exit->Act->World->Prop}(r:o.guard=none)(s x:Operand)(t:TypeId)(G:prog.underlying t=some (.slice 180))
 (M:o.op=.call { callee:=.builtin .append,args:= #[s,x],argTypes:= #[t,t] })
 (b_:Nat) (v:Value) (l m:List aH) (xs:List Value) (F:Nat->Prop) (P:a.eval s=v) (c:w.ownsRow b_ 180 1 v l.length xs) (O:fO F w xs l)
 (N:Value) (T:a.eval x=N) (U:PVs F w N m) (K:∀b,F b->b<w.heap.size/\v.ownBlock≠some b) (J:l.length+m.length<=1000000000) (n:b_<=w.heap.size)
 (h:∀A k z,k.ownsRow b_ 180 1 A (l++m).length z->fO F k z (l++m)->w.grownBy k v.ownBlock->wpList prog y Q i (a.put o.dst A) k):
 wpList prog y Q (o::i) a w:=by
 obtain⟨L,S,B,D,E⟩:=info_parts tB;rcases U.row with ⟨rfl,rfl⟩|⟨g,C,z,rfl,X,W,f,p⟩
 ·refine wpList_append_own_none r s x t M b_ 180 L 1 G S v l.length xs P c T ?_;exact h v w xs (by simpa using c) (by simpa using O) ⟨rfl,rfl,rfl,F6 _,λ_ _ _=>rfl⟩
 ·refine wpList_append_own _ r s x t M b_ 180 L _ 1 16 G S B D E rfl d_ v l.length xs P c ⟨g,0,none⟩ m.length C z T (by rw[f.1];omega) (λj u V=>by rw[Addr.add_lit,O0];exact p j u V) (DK f) (by unfold maxLen;omega) o_ n ?_
  intro A k q d _;have I:∀b,F b->k.heap[b]?=w.heap[b]?:=λb H=>d.block b (K b H).1 (λe=>(K b H).2 e.symm)
  exact h A k (xs++z) (by rw[F8];exact q) ((O.keep I).append (f.keep I)) d
def mE(F:Nat->Prop)(w:World)(ls:List aH)(v:Value)(wr:World):Prop:=
 ∃ys,wr.ownsRow w.heap.size 180 1 v ls.length ys/\fO F wr ys ls/\Below w.heap.size w wr
def mE.step{wr:World}{a:List aH}{v':Value}{b:List Value}(h:mE F w a v wr)(g:w'.ownsRow w.heap.size 180 1 v' (a++m).length b)(i:fO F w' b (a++m))(d:wr.grownBy w' v.ownBlock):mE F w (a++m) v' w':=by
 obtain⟨l,f,j,c⟩:=h;refine⟨b,g,i,c.grown d c.size λk e=>?_⟩
 exact bR f k e
def dV{b_ n:Nat}{t:TypeId}{e:List Value}(h:w.ownsRow b_ t k v n e):∃x c,v=.slice x n c:=by
 rcases h.2 with ⟨a,b⟩|⟨g,f,d,a,_⟩
 ·exact⟨none,0,by rw[a,b]⟩
 ·exact⟨_,_,a⟩
def IY(F:Nat->Prop)(b:Nat)(x y:Option Addr)(c d:Nat)(l m:List aH)(w:World)(J:w.heap[b]?=some (.cells #[.slice x l.length c,.slice y m.length d] 233 (0,0)))(hl:PVs F w (.slice x l.length c) l)(hm:PVs F w (.slice y m.length d) m)(hF:∀k,F k->k<w.heap.size)(ac:l.length+m.length<=1000000):
 Calls prog 312 #[.slice (some ⟨b,0,none⟩) 2 2] w λe D=>∃E,e=.returned E/\mE F w (l++m) E D:=by
 have n:=aD J;have W:=aA J (i:=0) rfl;have X:=aA J (i:=1) rfl;have HL:=aB hl;have HM:=aB hm;have G:=aB hF;have Z:=aB (RY (l.length+m.length) o_ w)
 have Q:=aB J;clear hl hm hF J;go_enter func312,ntmps312;go_wp2_with fail;go_loopg [3,5,11] 2 (λgk s _ i wr=>wr=w/\((gk=2/\i=.int .i64 0/\s=.int .i64 0)\/(gk=1/\i=.int .i64 1/\s=.int .i64 (l.length:Nat))\/(gk=0/\i=.int .i64 2/\s=.int .i64 ((l.length+m.length:Nat):Int))))
 case atStart=>exact⟨rfl,F7 ⟨rfl,rfl,rfl⟩⟩
 case round=>
  obtain⟨hw,hrel⟩:=hrel;obtain rfl:=hw.symm;rcases hrel with ⟨rfl,rfl,rfl⟩|⟨rfl,rfl,rfl⟩|⟨rfl,rfl,rfl⟩
  ·have e:decide ((l.length:Int)<0)=false:=decide_eq_false o_
   go_wp2_with fail;go_roundg 1
   case measure=>omega
   case rel=>exact⟨rfl,F5 (F7 ⟨rfl,rfl,rfl⟩)⟩
  ·have e:decide ((l.length:Int)+(m.length:Int)<0)=false:=decide_eq_false o_
   go_wp2_with fail;go_roundg 0
   case measure=>omega
   case rel=>exact⟨rfl,F5 (F5 ⟨rfl,rfl,s_⟩)⟩
  ·go_wp2_with fail;refine Z.out.mono ?_;rintro e w1 ⟨v1,rfl,j,O⟩
   obtain⟨x1,U,rfl⟩:∃x c,v1=.slice x 0 c:=by
    rcases j.2 with ⟨T,_⟩|⟨g,aa,ab,T,_⟩
    ·exact⟨none,0,T⟩
    ·exact⟨_,_,T⟩
   have P:Hid (mE F w [] (.slice x1 0 U) w1):=⟨[],j,fO.nil _ _,O⟩;clear j O Z W X;go_wp2_with fail;go_loopg [6,8,27] 2 (λgk s _ i V=>(gk=2/\i=.int .i64 0/\mE F w [] s V)\/(gk=1/\i=.int .i64 1/\mE F w l s V)\/(gk=0/\i=.int .i64 2/\mE F w (l++m) s V))
   case atStart=>exact F7 ⟨rfl,rfl,P.out⟩
   case round=>
    rcases hrel with ⟨rfl,rfl,B⟩|⟨rfl,rfl,B⟩|⟨rfl,rfl,B⟩
    ·have v:=B;obtain⟨S,o,N,a⟩:=B;obtain⟨H,I,rfl⟩:=dV o;have W:wr.cell? ⟨b,0,none⟩=some (.slice x l.length c):=aA ((a.block b n).trans Q.out) rfl;have X:wr.cell? ⟨b,1,none⟩=some (.slice y m.length d):=aA ((a.block b n).trans Q.out) rfl;have K:b<wr.heap.size:=G3 n a.size;have M:=aB o;have L:=aB N;have u:=aB a;have t:=aB v;have r:=aB (HL.out.keep (w':=wr) λk A=>a.block k (G.out k A))
     have z:Hid (∀k,F k->k<wr.heap.size/\(Value.slice H ([]:List aH).length I).ownBlock≠some k):=λk A=>⟨G3 (G.out k A) a.size,λe=>by have:=bR o k e;have:=G.out k A;omega⟩
     clear o N a v P;go_wp2_with (at_builtin;refine AJ r_ _ _ 233 underlying233 r_ w.heap.size (.slice H ([]:List aH).length I) ([]:List aH) l S F r_ M.out L.out _ r_ r.out z.out (by first|omega|(simp;omega)) u.out.size ?_)
     intro E D Y f p q;have C:Hid (mE F w (([]:List aH)++l) E D):=t.out.step (by first|exact f|(rw[F8];exact f)) p q
     obtain⟨x',c',rfl⟩:=dV f;clear f p q M L r z u t;go_wp2_with fail;go_roundg 1
     case measure=>omega
     case rel=>exact F5 (F7 ⟨rfl,rfl,by simpa using C.out⟩)
    ·have v:=B;obtain⟨S,o,N,a⟩:=B;obtain⟨H,I,rfl⟩:=dV o;have W:wr.cell? ⟨b,0,none⟩=some (.slice x l.length c):=aA ((a.block b n).trans Q.out) rfl;have X:wr.cell? ⟨b,1,none⟩=some (.slice y m.length d):=aA ((a.block b n).trans Q.out) rfl;have K:b<wr.heap.size:=G3 n a.size;have M:=aB o;have L:=aB N;have u:=aB a;have t:=aB v;have r:=aB (HM.out.keep (w':=wr) λk A=>a.block k (G.out k A))
     have z:Hid (∀k,F k->k<wr.heap.size/\(Value.slice H (l).length I).ownBlock≠some k):=λk A=>⟨G3 (G.out k A) a.size,λe=>by have:=bR o k e;have:=G.out k A;omega⟩
     clear o N a v P;go_wp2_with (at_builtin;refine AJ r_ _ _ 233 underlying233 r_ w.heap.size (.slice H (l).length I) (l) m S F r_ M.out L.out _ r_ r.out z.out (by first|omega|(simp;omega)) u.out.size ?_)
     intro E D Y f p q;have C:Hid (mE F w (l++m) E D):=t.out.step (by first|exact f|(rw[F8];exact f)) p q
     obtain⟨x',c',rfl⟩:=dV f;clear f p q M L r z u t;go_wp2_with fail;go_roundg 0
     case measure=>omega
     case rel=>exact F5 (F5 ⟨rfl,rfl,C.out⟩)
    ·have HC:=aB B;obtain⟨S,o,_⟩:=B;obtain⟨H,I,rfl⟩:=dV o;clear o P;go_wp2_with fail;go_ret;exact⟨_,rfl,HC.out⟩
def iE(F:Nat->Prop)(w:World)(r:aH × Nat)(e:Ending)(w':World):Prop:=Below w.heap.size w w'/\((r.2=0/\∃u,e=.returned u/\PV (Grow F w w') w' u r.1)\/(r.2≠0/\e=jQ r.2))
def iE.ok(c:Below w.heap.size w w')(b:r=(a,0))(h:PV (Grow F w w') w' u a):iE F w r (.returned u) w':=by subst b;exact⟨c,F7 ⟨rfl,u,rfl,h⟩⟩
def iE.stop(d:Below w.heap.size w w')(c:r=(a,k))(b:k≠0):iE F w r (jQ k) w':=by subst c;exact⟨d,F5 ⟨b,rfl⟩⟩
noncomputable def uF(op:List UInt8)(l m:List aH):aH × Nat:=if op=[43] then (if 200<aT (bC (l++m)) then (cJ,6) else (bC (l++m),0)) else (cJ,2)
def MK(op:List UInt8)(F:Nat->Prop)(x y:Option Addr)(c d:Nat)(l m:List aH)(w:World)(G:PVs F w (.slice x l.length c) l)(H:PVs F w (.slice y m.length d) m)(t:∀k,F k->k<w.heap.size)(Q:aT (bC l)+aT (bC m)<=1000000):
 Calls prog 310 #[.string (bs op),.slice x l.length c,.slice y m.length d] w (iE F w (uF op l m)):=by
 have a:=bT op;obtain⟨r,i⟩:=E_ (uF op l m);rw[<-i];unfold uF at i;by_cases j:op=[43]
 ·rw[if_pos j] at i;have J:((bs op).toList==[43])=true:=by rw[a,j];rfl
  have E:((bs op).toList != [43])=false:=by rw[a,j];rfl
  have K:=kJ l;have N:=kJ m;rw[kL,kL] at Q;have O:aT (bC (l++m))=1+((l.map aT).sum+(m.map aT).sum):=by rw[kL,K4,N5]
  have b:Below w.heap.size w (w.alloc (.cells #[.slice x l.length c,.slice y m.length d] 233)):=(F9 _ _).alloc (F6 _) _;have I:=aB (IY F w.heap.size x y c d l m (w.alloc (.cells #[.slice x l.length c,.slice y m.length d] 233)) (aU _ _ rfl _) (G.keep λk f=>b.block k (t k f)) (H.keep λk f=>b.block k (t k f)) (λk f=>G3 (t k f) b.size) o_)
  have o:=aB b;have q:=aB i;clear a i j G H t b;go_enter func310,ntmps310;go_wp2_with fail;refine I.out.mono ?_;rintro e A ⟨S,rfl,T,u,s,z⟩;obtain⟨P,L,rfl⟩:=dV u;have g:=o.out.trans (z.mono o.out.size);have p:PVs (Grow F w A) A (.slice P (l++m).length L) (l++m):=PVs.ofRow u (s.mono λk f=>F7 f) λk f=>F5 ⟨by have:=bR u k f;have:=o.out.size;omega,cK u k f⟩
  have M:=aB (sT (Grow F w A) _ _ A (PV.lst p) o_)
  have C:=aB p;have v:=aB g;clear u s z g p I;generalize (l++m).length=n at*;go_wp2_with fail;refine M.out.mono ?_;rintro e U ⟨rfl,⟨B,rfl⟩|⟨B,rfl⟩⟩
  ·have D:Hid (r=(bC (l++m),0)):=by show _=_;rw[q.out,if_neg o_]
   clear B q;go_wp2_with fail;go_ret;exact iE.ok v.out D.out (PV.lst C.out)
  ·have D:Hid (r=(cJ,6)):=by show _=_;rw[q.out,if_pos B]
   clear B q;go_wp2_with fail;exact⟨rfl,iE.stop v.out D.out d_⟩
 ·rw[if_neg j] at i;have J:((bs op).toList==[43])=false:=by rw[a];simpa using j
  have E:((bs op).toList != [43])=true:=by rw[a];simpa using j
  have q:=aB i;clear a i j G H t;go_enter func310,ntmps310;go_wp2_with fail;exact⟨rfl,iE.stop (F9 _ _) q.out d_⟩
def oK{a:Addr}(o:Obj)(h:w.cell? a=some v):(w.alloc o).cell? a=some v:=by
 have b:=World.block_lt_of_cell? w a h;rw[<-h];exact World.cell?_of_block (G7 _ _ _ b)
def BX(g i n c:Nat)(b:List Value)(w:World)(D:b.length=n*1)(I:n<=1000000)(t:∀j u,b[j]?=some u->w.cell? ⟨g,i+j,none⟩=some u)(z:∀u∈b,u.oneCell'=true):
 Calls prog 199 #[.slice (some ⟨g,i,none⟩) n c] w λe s=>∃o,e=.returned o/\s.ownsRow w.heap.size 180 1 o n b/\Below w.heap.size w s:=by
 obtain⟨B,E,p,q,r⟩:=info_parts tB;have A:=aB t;clear t;have y:∀(w:World) (a:Option Addr) (n c m l:Nat),(binOp .eql 134 (.slice a n c) (.slice none m l)).run prog w=.ok (.bool a.isNone) w:=λw a n c m l=>Lib.run_eql_slice_nil w _ _ a n c m l underlying134
 go_enter func199,ntmps199;go_wp2_with (at_builtin;refine wpList_append_own _ r_ _ _ 134 r_ w.heap.size 180 B _ 1 16 underlying134 E p q r rfl d_ (.slice (some ⟨w.heap.size,0,none⟩) 0 0) 0 [] r_ (World.ownsRow_made w #[] 0 (F6 _) (K5 _) s_) ⟨g,i,none⟩ n c b r_ D (λj u F=>by rw[Addr.add_lit];exact oK _ (A.out j u F)) z (by unfold maxLen;omega) o_ s_ ?_)
 intro o G d f _;have C:=aB d;have x:=aB f;obtain⟨H,l,rfl⟩:=dV d;clear d f;go_wp2_with fail;go_ret;refine⟨_,rfl,by simpa using C.out,?_⟩
 exact((F9 _ w).alloc (F6 _) _).grown x.out s_ (by intro k v;simp[Value.ownBlock] at v;omega)
def BW(w:World):
 Calls prog 199 #[.slice none 0 0] w λe f=>e=.returned (.slice none 0 0)/\f=w:=by
 have g:∀(w:World) (a:Option Addr) (n c b d:Nat),(binOp .eql 134 (.slice a n c) (.slice none b d)).run prog w=.ok (.bool a.isNone) w:=λw a n c b d=>Lib.run_eql_slice_nil w _ _ a n c b d underlying134
 go_enter func199,ntmps199;go_wp2_with fail;go_ret;exact⟨rfl,rfl⟩
def D4(F:Nat->Prop)(w:World)(sv:Value)(l:List aH):Prop:=
 (l=[]/\∃x c,sv=.slice x 0 c)\/∃g o c,sv=.slice (some ⟨g,o,none⟩) l.length c/\l.length<=c/\g<w.heap.size/\∀i (h:i<l.length),∃u,w.cell? ⟨g,o+i,none⟩=some u/\PV F w u l[i]
def D4.below{b:Value}(h:D4 F w b l)(a:Below w.heap.size w w')(q:∀k,F k->k<w.heap.size):D4 F w' b l:=by
 rcases h with h|⟨g,o,c,m,e,d,j⟩
 ·exact F7 h
 ·refine F5 ⟨g,o,c,m,e,G3 d a.size,λi r=>?_⟩
  obtain⟨u,s,n⟩:=j i r;exact⟨u,by rw[a.cell (p:=⟨g,o+i,none⟩) d];exact s,n.keep λk f=>a.block k (q k f)⟩
def fO.set(h:fO F w xs l)(k:Nat)(e:PV F w u a):fO F w (xs.set k u) (l.set k a):=by
 refine⟨by simp[h.1],λi c=>?_⟩
 rw[N6] at c;by_cases b:k=i
 ·subst b;exact⟨u,by rw[List.getElem?_set_self (by rw[h.1];exact c)],by rw[List.getElem_set_self];exact e⟩
 ·obtain⟨v,d,f⟩:=h.2 i c;exact⟨v,by rw[List.getElem?_set_ne b];exact d,by rw[List.getElem_set_ne b];exact f⟩
def mD(w:World):Prop:=Lib.TabIs prog w "internal/strconv.uint64pow10" .u64 Lib.pow10Tab
def mD.keep{g:Nat}(h:mD w)(b:prog.globalNamed "internal/strconv.uint64pow10"=some g)(a:w'.heap[g]?=w.heap[g]?):mD w':=by
 unfold mD Lib.TabIs World.var? at h ⊢
 rw[b] at h ⊢
 simp only[Option.bind_some] at h ⊢
 rw[a];exact h
def mD.below(h:mD w)(c:Below w.heap.size w w'):mD w':=by
 cases b:prog.globalNamed "internal/strconv.uint64pow10" with
 |none=>unfold mD Lib.TabIs World.var? at h;rw[b] at h;cases h
 |some g=>
  refine h.keep b (c.block g ?_);unfold mD Lib.TabIs World.var? at h;rw[b] at h;simp only[Option.bind_some] at h;rcases J8 g w.heap.size with a|a
  ·exact a
  ·rw[K7 (by exact a)] at h
   cases h
def vW:∀(f n:Nat) (t:List UInt8),n<10 ^ (f+1)->Hs.digitsF (f+1) n t=Lib.decDigits n++t
 |0,n,t,h=>by
  have a:n<10:=by simpa using h
  rw[Hs.digitsF,Lib.decDigits,if_pos a,dif_pos a];rfl
 |f+1,n,t,h=>by
  rw[Hs.digitsF,Lib.decDigits];by_cases a:n<10
  ·rw[if_pos a,dif_pos a];rfl
  ·rw[if_neg a,dif_neg a,vW f (n/10) _ (by rw[Nat.pow_succ] at h;omega)]
   simp
def qW(n:Int)(a: -9223372036854775808<=n)(b:n<=9223372036854775807):Lib.itoa n=cT n:=by
 unfold Lib.itoa cT;rw[vW 19 n.natAbs [] o_,List.append_nil]
 by_cases h:n<0
 ·rw[if_pos h,if_pos h];rfl
 ·rw[if_neg h,if_neg h,N2,show n.toNat=n.natAbs by omega]
def vS:∀l:List (List UInt8),Lib.join l [44,32]=eB l
 |[]=>rfl
 |[x]=>by simp[Lib.join,List.intercalate,eB]
 |x::y::l=>by
  have a:=vS (y::l);unfold Lib.join List.intercalate at a ⊢
  rw[List.intersperse_cons_cons,List.flatten_cons,List.flatten_cons,a];simp[eB]
def PZ(l:List (List UInt8)):Lib.join ((l.map bs).map λx=>x.data.toList) (bs [44,32]).data.toList=eB l:=by
 rw[<-vS,List.map_map];have e:((λx:ByteArray=>x.data.toList) ∘ bs)=id:=funext λx=>by simp[jM]
 rw[e,List.map_id];simp[jM]
def SK(w:World)(x:List UInt8):∀j u,([.string (bs x)]:List Value)[j]?=some u->(w.alloc (.cells #[.string (bs x)] 9)).cell? ((⟨w.heap.size,0,none⟩:Addr).add j)=some u:=by
 intro j v a;match j,a with
 |0,a=>simp at a;subst a;simp[Addr.add,go_sem]
 |j+1,a=>simp at a
def VY(x:List UInt8):∀u∈([.string (bs x)]:List Value),u.oneCell'=true:=by
 intro u a;simp at a;rw[a];rfl
def WQ:(prog.info? 9).map (λi=>(i.zero,i.size,i.bytes))=some (some (.string ⟨#[]⟩),1,16):=k_
def CO(l:List (List UInt8)):List Value:=l.map λx=>Value.string (bs x)
def qL(F:Nat->Prop)(k:Nat):Prop:=∀(v:Value) (a:aH) (w:World),PV F w v a->(∀b,F b->b<w.heap.size)->mD w->aT a<=k->k<=1000000->Calls prog 94 #[v] w λe w'=>e=.returned (.string (bs (bY a)))/\Below w.heap.size w w'
def FE(F:Nat->Prop)(k:Nat)(IH:qL F k)(x:Option Addr)(c:Nat)(l:List aH)(w:World)(hl:PVs F w (.slice x l.length c) l)(hF:∀b,F b->b<w.heap.size)(hp:mD w)(hc:(l.map aT).sum<=k)(hk:k<=1000000):
 Calls prog 143 #[.slice x l.length c] w λe w'=>e=.returned (.string (bs (eB (l.map bY))))/\Below w.heap.size w w':=by
 obtain⟨i0,hi,O,Y,U⟩:=info_parts WQ;have aa:=kJ l;have v:=aB IH;have W:=aB hl;have HF:=aB hF;have HP:=aB hp;clear IH hl hF hp;go_enter func143,ntmps143;go_wp2_with fail;go_loopg [3,5,8] l.length (λgk s _ i wr=>∃j:Nat,j+gk=l.length/\i=.int .i64 j/\(∃y d,s=.slice y j d)/\wr.ownsRow w.heap.size 9 1 s j (CO ((l.map bY).take j))/\Below w.heap.size w wr)
 case atStart=>exact⟨0,o_,rfl,⟨none,0,rfl⟩,World.ownsRow_nil _ _ _ _,F9 _ _⟩
 case round=>
  obtain⟨j,hj,rfl,⟨y,d,rfl⟩,n,f⟩:=hrel;by_cases z:j<l.length
  ·obtain⟨m,rfl⟩:∃m,gk=m+1:=⟨gk-1,o_⟩
   have G:=W.out.keep λb I=>f.block b (HF.out b I)
   obtain⟨g,u,rfl,hn,ae,hg,Z,P,V⟩:=G.get j z;have C:l[j]∈l:=H9 z;have af:=qK C;have HX:=aB (v.out u l[j] wr V (λb I=>G3 (HF.out b I) f.size) (HP.out.below f) o_ o_)
   obtain⟨t,u',rfl⟩:=V.form;have L:=f.size;have HO:=aB n;have H:=aB f
   have E:CO ((l.map bY).take (j+1))=CO ((l.map bY).take j)++[.string (bs (bY l[j]))]:=by
    rw[H8 (by simpa using z)];simp[CO]
   have J:=aB E;clear V n f E G;go_wp2_with fail;refine HX.out.mono ?_;rintro e D ⟨rfl,r⟩;have ab:=r.size;have q:=gG HO.out r;have A:=aB q;clear q;generalize bY l[j]=tx at*;go_wp2_with (at_builtin;refine wpList_append_lies _ r_ _ _ 37 r_ w.heap.size 9 i0 _ 1 16 underlying37 hi O Y U rfl d_ (.slice y j d) j _ r_ (A.out.alloc _) ⟨D.heap.size,0,none⟩ 1 1 [.string (bs tx)] r_ r_ (SK D _) (VY _) d_ (by unfold maxLen;omega) o_ t_ (D.heap.size+1) s_ ?_)
   intro g4 ac w4 p o B ah;have Q:=aB p;have S:=aB o;clear p o B;go_wp2_with fail;go_roundg m
   case measure=>omega
   case rel=>
    refine⟨j+1,o_,by go_num,⟨_,_,rfl⟩,by rw[J.out];exact Q.out,?_⟩
    exact((H.out.trans (r.mono o_)).alloc o_ _).grown S.out t_ λk hk=>(A.out.lt k hk).1
  ·have K:j=l.length:=o_
   subst K;have L:=f.size;rw[J5 s_] at n
   have H:=aB f;have ag:=rY l λa _=>vA a
   rcases n.2 with ⟨X,r2⟩|⟨g,cp,ad,X,r2,T,r4,r5,r6,r7⟩
   ·have e1:l=[]:=I4 r2;subst e1;cases X;clear n f W v;go_wp2_with fail;refine(strings_Join_none _ _ _ _).mono ?_;rintro e D ⟨rfl,rfl⟩;go_wp2_with fail;go_ret;exact⟨rfl,H.out⟩
   ·cases X
    have HJ:=aB (strings_Join g 0 d ((l.map bY).map bs) (bs [44,32]) wr (λi x N=>by
     refine aA T ?_
     have e2:(CO (l.map bY))[i]?=some (.string x):=by
      unfold CO;rw[N9] at N ⊢
      obtain⟨y,hy,rfl⟩:=Option.map_eq_some_iff.1 N;rw[hy];rfl
     have ai:i<l.length:=by
      have:=(K6.1 N).1;simpa using this
     rw[<-r7,I9,if_pos o_] at e2
     simpa using e2) (aD T) t_ (by simpa using r4) (by rw[PZ];omega))
    have M:((l.map bY).map bs).length=l.length:=s_
    rw[M,PZ] at HJ;clear n f W v T r6 r7;go_wp2_with fail;refine HJ.out.mono ?_;rintro e D ⟨rfl,r⟩;go_wp2_with fail;go_ret;exact⟨rfl,H.out.trans (r.mono o_)⟩
def zK{os:Array Obj}(h:w'=Sort.grow (w.drewN k) os):Below w.heap.size w w':=by
 subst h;refine⟨rfl,rfl,rfl,?_,λi a=>?_⟩
 ·show w.heap.size<=(w.heap++os).size
  rw[Array.size_append];omega
 ·show (w.heap++os)[i]?=w.heap[i]?
  rw[Array.getElem?_append_left a]
def TP:(⟨(Lib.formatBool false).toArray⟩:ByteArray)=bs [102,97,108,115,101]:=k_
def UQ:(⟨(Lib.formatBool true).toArray⟩:ByteArray)=bs [116,114,117,101]:=k_
def BH(F:Nat->Prop)(k:Nat)(IH:qL F k):qL F (k+1):=by
 intro v a w h u f i G;rcases h.cases with ⟨n,rfl,rfl,t,r⟩|⟨b,rfl,rfl⟩|⟨s,rfl,rfl⟩|⟨x,c,l,rfl,rfl,y⟩
 ·have q:=kP;have d:bY (aL n)=cT n:=by rw[gF];rfl
  have o:=aB (strconv_FormatInt_10 n t r w f);rw[d];clear h IH i f;go_enter func94,ntmps94;go_wp2_with fail;refine o.out.mono ?_;rintro e p ⟨rfl,E,H,g⟩;have m:=zK g;clear g;go_wp2_with fail;go_ret;exact⟨by rw[qW n t r];rfl,m⟩
 ·have q:=jO;have A:=sB;have d:bY (bK b)=if b then [116,114,117,101] else [102,97,108,115,101]:=by rw[gF];cases b<;>rfl
  rw[d];clear h IH i f;cases b
  all_goals
   go_enter func94,ntmps94;go_wp2_with fail;refine(strconv_FormatBool _ _).mono ?_;rintro e p ⟨rfl,rfl⟩;go_wp2_with fail;go_ret;exact⟨by first|(rw[TP];rfl)|(rw[UQ];rfl),F9 _ _⟩
 ·have q:=kO;have A:=vB;have j:=nB;have d:bY (bI s)=[34]++s++[34]:=by rw[gF];rfl
  have C:(bs s).size=s.length:=gI s;rw[mW] at i;rw[d];clear h IH f;go_enter func94,ntmps94;go_wp2_with fail;go_ret;refine⟨?_,F9 _ _⟩;show Ending.returned (.string ((⟨#[34]⟩:ByteArray)++bs s++(⟨#[34]⟩:ByteArray)))=_
  rw[RL,RN];rfl
 ·have q:=jN;have A:=sA;have j:=lG;have z:=iM;have d:bY (bC l)=[91]++eB (l.map bY)++[93]:=by rw[gF];rfl
  have B:=rY l λa _=>vA a
  rw[kL] at i;have o:=aB (FE F k IH x c l w y u f o_ o_)
  have C:(bs (eB (l.map bY))).size=(eB (l.map bY)).length:=gI _;rw[d];generalize eB (l.map bY)=D at*;clear h IH f y u;go_enter func94,ntmps94;go_wp2_with fail;refine o.out.mono ?_;rintro e p ⟨rfl,m⟩;go_wp2_with fail;go_ret;refine⟨?_,m⟩;show Ending.returned (.string (bs [91]++bs D++bs [93]))=_
  rw[iK,iK];rfl
def sS(F:Nat->Prop):∀k,qL F k
 |0=>λv a w _ _ _ h=>by have:=qJ a;omega
 |k+1=>BH F k (sS F k)
def OE(n m:Int)(w:World):(binOp .eql 180 (.iface 229 (.int .i64 n)) (.iface 229 (.int .i64 m))).run prog w=.ok (.bool (n==m)) w:=k_
def FZ(n m:Bool)(w:World):(binOp .eql 180 (.iface 230 (.bool n)) (.iface 230 (.bool m))).run prog w=.ok (.bool (n==m)) w:=k_
def KD(n m:ByteArray)(w:World):(binOp .eql 180 (.iface 232 (.string n)) (.iface 232 (.string m))).run prog w=.ok (.bool (n==m)) w:=k_
def OB(a b:List UInt8)(w:World):(binOp .eql 180 (.iface 232 (.string (bs a))) (.iface 232 (.string (bs b)))).run prog w=.ok (.bool (a==b)) w:=by
 rw[KD];have h:(bs a==bs b)=((bs a).data==(bs b).data):=rfl;rw[h];simp[bs]
def KH(u v:Value)(w:World):(binOp .eql 180 (.iface 229 u) (.iface 230 v)).run prog w=.ok (.bool false) w:=k_
def OD(u v:Value)(w:World):(binOp .eql 180 (.iface 229 u) (.iface 232 v)).run prog w=.ok (.bool false) w:=k_
def KG(u v:Value)(w:World):(binOp .eql 180 (.iface 229 u) (.iface 233 v)).run prog w=.ok (.bool false) w:=k_
def KJ(u v:Value)(w:World):(binOp .eql 180 (.iface 230 u) (.iface 229 v)).run prog w=.ok (.bool false) w:=k_
def KI(u v:Value)(w:World):(binOp .eql 180 (.iface 230 u) (.iface 232 v)).run prog w=.ok (.bool false) w:=k_
def FY(u v:Value)(w:World):(binOp .eql 180 (.iface 230 u) (.iface 233 v)).run prog w=.ok (.bool false) w:=k_
def OC(u v:Value)(w:World):(binOp .eql 180 (.iface 232 u) (.iface 229 v)).run prog w=.ok (.bool false) w:=k_
def KF(u v:Value)(w:World):(binOp .eql 180 (.iface 232 u) (.iface 230 v)).run prog w=.ok (.bool false) w:=k_
def KE(u v:Value)(w:World):(binOp .eql 180 (.iface 232 u) (.iface 233 v)).run prog w=.ok (.bool false) w:=k_
def kU(h:a=b):bZ a b=true:=(vK a b).2 h
def cR(h:a≠b):bZ a b=false:=by
 cases c:bZ a b
 ·rfl
 ·exact absurd ((vK a b).1 c) h
def xI:bC l=bC m↔l=m:=by simp[bC]
def xE(F:Nat->Prop)(k:Nat):Prop:=∀(u v:Value) (a b:aH) (w:World),PV F w u a->PV F w v b->aT a<=k->k<=1000000000->aT b<=1000000000->
 Calls prog 307 #[u,v] w λe w'=>w'=w/\e=.returned (.bool (bZ a b))
def yV(F:Nat->Prop)(k:Nat)(IH:xE F k)(x y:Option Addr)(c d:Nat)(l m:List aH)(w:World)(O:PVs F w (.slice x l.length c) l)(E:PVs F w (.slice y m.length d) m)(hc:aT (bC l)<=k+1)(hk:k<=1000000000)(V:aT (bC m)<=1000000000):
 Calls prog 311 #[.slice x l.length c,.slice y m.length d,.func (.func 307) #[] #[]] w λe X=>X=w/\e=.returned (.bool (bZ (bC l) (bC m))):=by
 have h1:=kJ l;have h2:=kJ m;rw[kL] at hc V;by_cases n:l.length=m.length
 ·have J:((l.length:Int) != (l.length:Int))=false:=s_
  rw[<-n] at E ⊢
  have HL:=aB O;have Z:=aB E;have M:=aB IH;have v:=aB n;clear O E IH n;go_enter func311,ntmps311;go_wp2_with fail;go_loopg [6,7,8,9,17] l.length (λgk _ _ _ _ i wr=>∃j:Nat,j+gk=l.length/\i=.int .i64 j/\wr=w/\Hid (l.take j=m.take j))
  case atStart=>exact⟨0,o_,rfl,rfl,by simp[Hid]⟩
  case round=>
   obtain⟨j,hj,rfl,rfl,I⟩:=hrel;by_cases o:j<l.length
   ·obtain⟨q,rfl⟩:∃q,gk=q+1:=⟨gk-1,o_⟩
    obtain⟨g,u,rfl,hn,hF,hg,U,L,P⟩:=HL.out.get j o;obtain⟨g',u',rfl,N,Y,aa,Q,H,B⟩:=Z.out.get j (by rw[<-v.out];exact o)
    have K:=qK (H9 o);have f:j<m.length:=by rw[<-v.out];exact o
    have D:=qK (H9 f);have G:=aB (M.out u u' l[j] (m[j]'f) wr P B o_ hk o_)
    obtain⟨t,z,rfl⟩:=P.form;obtain⟨t',z',rfl⟩:=B.form;have A:l.take (j+1)=l.take j++[l[j]]:=H8 o;have r:m.take (j+1)=m.take j++[m[j]'f]:=H8 f;have s:l[j]?=some l[j]:=H7 o;have C:m[j]?=some (m[j]'f):=H7 f;generalize l[j]=a at*;generalize m[j]'f=b at*;clear P B K D hn N;by_cases p:a=b
    ·rw[kU p] at G;have T:Hid (l.take (j+1)=m.take (j+1)):=by show _=_;rw[A,r,I.out,p]
     clear A r s C I p;go_wp2_with fail;refine G.out.mono ?_;rintro e W ⟨rfl,rfl⟩;go_wp2_with fail;go_roundg q
     case measure=>omega
     case rel=>exact⟨j+1,o_,by go_num,rfl,T⟩
    ·rw[cR p] at G;have S:Hid (l≠m):=by show _≠_;intro e;rw[e,C] at s;cases s;exact p rfl
     clear A r s C I p;go_wp2_with fail;refine G.out.mono ?_;rintro e W ⟨rfl,rfl⟩;go_wp2_with fail;go_ret;exact⟨rfl,by rw[cR λe=>S.out (xI.1 e)];rfl⟩
   ·have HE:Hid (l=m):=by
     show _=_
     have:=I.out;rw[J5 o_,J5 (by rw[<-v.out];omega)] at this
     exact this
    go_wp2_with fail;go_ret;exact⟨rfl,by rw[kU (xI.2 HE.out)];rfl⟩
 ·have J:((l.length:Int) != (m.length:Int))=true:=t_
  have S:Hid (l≠m):=by show _≠_;intro e;exact n (by rw[e])
  clear O E IH;go_enter func311,ntmps311;go_wp2_with fail;go_ret;exact⟨rfl,by rw[cR λe=>S.out (xI.1 e)];rfl⟩
def IX(F:Nat->Prop)(k:Nat)(IH:xE F k):xE F (k+1):=by
 intro u v a b w j g m G i;rcases j.cases with ⟨n,rfl,rfl,H,E⟩|⟨s,rfl,rfl⟩|⟨s,rfl,rfl⟩|⟨x,c,l,rfl,rfl,y⟩
 ·have q:=lH;rcases g.cases with ⟨p,rfl,rfl,_,_⟩|⟨f,rfl,rfl⟩|⟨f,rfl,rfl⟩|⟨B,A,t,rfl,rfl,_⟩
  ·have o:=OE
   have d:Hid (bZ (aL n) (aL p)=(n==p)):=by
    show _=_
    by_cases e:n=p
    ·rw[kU (by rw[e]),e,beq_self_eq_true]
    ·rw[cR (by simp[aL,e]),beq_eq_false_iff_ne.2 e]
   clear j g IH m i;generalize bZ (aL n) (aL p)=r at*;go_enter func307,ntmps307;go_wp2_with fail;go_ret;exact⟨rfl,by rw[d.out];rfl⟩
  ·have o:=KH;have d:Hid (bZ (aL n) (bK f)=false):=cR (by simp[aL,bK])
   clear j g IH m i;generalize bZ (aL n) (bK f)=r at*;go_enter func307,ntmps307;go_wp2_with fail;go_ret;exact⟨rfl,by rw[d.out];rfl⟩
  ·have o:=OD;have d:Hid (bZ (aL n) (bI f)=false):=cR (by simp[aL,bI])
   clear j g IH m i;generalize bZ (aL n) (bI f)=r at*;go_enter func307,ntmps307;go_wp2_with fail;go_ret;exact⟨rfl,by rw[d.out];rfl⟩
  ·have o:=KG;have d:Hid (bZ (aL n) (bC t)=false):=cR (by simp[aL,bC])
   clear j g IH m i;generalize bZ (aL n) (bC t)=r at*;go_enter func307,ntmps307;go_wp2_with fail;go_ret;exact⟨rfl,by rw[d.out];rfl⟩
 ·have q:=iN;rcases g.cases with ⟨p,rfl,rfl,_,_⟩|⟨f,rfl,rfl⟩|⟨f,rfl,rfl⟩|⟨B,A,t,rfl,rfl,_⟩
  ·have o:=KJ;have d:Hid (bZ (bK s) (aL p)=false):=cR (by simp[bK,aL])
   clear j g IH m i;generalize bZ (bK s) (aL p)=r at*;go_enter func307,ntmps307;go_wp2_with fail;go_ret;exact⟨rfl,by rw[d.out];rfl⟩
  ·have o:=FZ
   have d:Hid (bZ (bK s) (bK f)=(s==f)):=by
    show _=_
    cases s<;>cases f<;>first|exact kU rfl|exact cR (by simp[bK])
   clear j g IH m i;generalize bZ (bK s) (bK f)=r at*;go_enter func307,ntmps307;go_wp2_with fail;go_ret;exact⟨rfl,by rw[d.out];rfl⟩
  ·have o:=KI;have d:Hid (bZ (bK s) (bI f)=false):=cR (by simp[bK,bI])
   clear j g IH m i;generalize bZ (bK s) (bI f)=r at*;go_enter func307,ntmps307;go_wp2_with fail;go_ret;exact⟨rfl,by rw[d.out];rfl⟩
  ·have o:=FY;have d:Hid (bZ (bK s) (bC t)=false):=cR (by simp[bK,bC])
   clear j g IH m i;generalize bZ (bK s) (bC t)=r at*;go_enter func307,ntmps307;go_wp2_with fail;go_ret;exact⟨rfl,by rw[d.out];rfl⟩
 ·have q:=oN;rcases g.cases with ⟨p,rfl,rfl,_,_⟩|⟨f,rfl,rfl⟩|⟨f,rfl,rfl⟩|⟨B,A,t,rfl,rfl,_⟩
  ·have o:=OC;have d:Hid (bZ (bI s) (aL p)=false):=cR (by simp[bI,aL])
   clear j g IH m i;generalize bZ (bI s) (aL p)=r at*;go_enter func307,ntmps307;go_wp2_with fail;go_ret;exact⟨rfl,by rw[d.out];rfl⟩
  ·have o:=KF;have d:Hid (bZ (bI s) (bK f)=false):=cR (by simp[bI,bK])
   clear j g IH m i;generalize bZ (bI s) (bK f)=r at*;go_enter func307,ntmps307;go_wp2_with fail;go_ret;exact⟨rfl,by rw[d.out];rfl⟩
  ·have o:=OB
   have d:Hid (bZ (bI s) (bI f)=(s==f)):=by
    show _=_
    by_cases e:s=f
    ·rw[kU (by rw[e]),e,beq_self_eq_true]
    ·rw[cR (by simp[bI,e]),beq_eq_false_iff_ne.2 e]
   clear j g IH m i;generalize bZ (bI s) (bI f)=r at*;go_enter func307,ntmps307;go_wp2_with fail;go_ret;exact⟨rfl,by rw[d.out];rfl⟩
  ·have o:=KE;have d:Hid (bZ (bI s) (bC t)=false):=cR (by simp[bI,bC])
   clear j g IH m i;generalize bZ (bI s) (bC t)=r at*;go_enter func307,ntmps307;go_wp2_with fail;go_ret;exact⟨rfl,by rw[d.out];rfl⟩
 ·have q:=iM;rcases g.cases with ⟨p,rfl,rfl,_,_⟩|⟨f,rfl,rfl⟩|⟨f,rfl,rfl⟩|⟨B,A,t,rfl,rfl,z⟩
  ·have o:=lH;have d:Hid (bZ (bC l) (aL p)=false):=cR (by simp[bC,aL])
   clear j g y IH m i;generalize bZ (bC l) (aL p)=r at*;go_enter func307,ntmps307;go_wp2_with fail;go_ret;exact⟨rfl,by rw[d.out];rfl⟩
  ·have o:=iN;have d:Hid (bZ (bC l) (bK f)=false):=cR (by simp[bC,bK])
   clear j g y IH m i;generalize bZ (bC l) (bK f)=r at*;go_enter func307,ntmps307;go_wp2_with fail;go_ret;exact⟨rfl,by rw[d.out];rfl⟩
  ·have o:=oN;have d:Hid (bZ (bC l) (bI f)=false):=cR (by simp[bC,bI])
   clear j g y IH m i;generalize bZ (bC l) (bI f)=r at*;go_enter func307,ntmps307;go_wp2_with fail;go_ret;exact⟨rfl,by rw[d.out];rfl⟩
  ·have C:=aB (yV F k IH x B c A l t w y z m o_ i)
   clear j g y z IH m i;generalize bZ (bC l) (bC t)=r at*;go_enter func307,ntmps307;go_wp2_with fail;refine C.out.mono ?_;rintro e D ⟨rfl,rfl⟩;go_wp2_with fail;go_ret;exact⟨rfl,rfl⟩
def rN(F:Nat->Prop):∀k,xE F k
 |0=>λu v a b w _ _ h=>by have:=qJ a;omega
 |k+1=>IX F k (rN F k)
def iE.ofQ{e:Ending}(h:iZ F w r e w'):iE F w r e w':=by
 obtain⟨rfl,⟨b,u,a,c⟩|⟨b,a⟩⟩:=h
 ·exact⟨F9 _ _,F7 ⟨b,u,a,c.mono λ_ d=>F7 d⟩⟩
 ·exact⟨F9 _ _,F5 ⟨b,a⟩⟩
def UP(b:op≠[61,61])(a:op≠[33,61])(n m:Int):cD op (aL n) (aL m)=gN op n m:=by
 unfold cD;rw[if_neg b,if_neg a,if_neg (by simp[aL]),if_pos (by simp[aL])];rfl
def UO(i:op≠[61,61])(g:op≠[33,61])(a b:List UInt8):cD op (bI a) (bI b)=CR op a b:=by
 unfold cD CR gM;rw[if_neg i,if_neg g,if_neg (by simp[bI]),if_neg (by simp[bI])]
 by_cases c:op=[60]
 ·rw[if_neg (by rw[c];decide),if_pos ⟨rfl,c⟩,if_pos c];rfl
 by_cases d:op=[60,61]
 ·rw[if_neg (by rw[d];decide),if_neg (λh=>c h.2),if_pos ⟨rfl,d⟩,if_neg c,if_pos d];rfl
 by_cases f:op=[43]
 ·rw[if_pos f,if_neg c,if_neg d,if_pos f];have e:(if (bI a).sort=3 then bC ((bI a).l++(bI b).l) else bI ((bI a).s++(bI b).s))=bI (a++b):=rfl
  simp only[e]
 ·rw[if_neg f,if_neg (λh=>c h.2),if_neg (λh=>d h.2),if_neg c,if_neg d,if_neg f]
def QO(f:op≠[61,61])(d:op≠[33,61])(a b:List aH):cD op (bC a) (bC b)=uF op a b:=by
 unfold cD uF gM;rw[if_neg f,if_neg d,if_neg (by simp[bC]),if_neg (by simp[bC])]
 by_cases c:op=[43]
 ·rw[if_pos c,if_pos c];have e:(if (bC a).sort=3 then bC ((bC a).l++(bC b).l) else bI ((bC a).s++(bC b).s))=bC (a++b):=rfl
  simp only[e]
 ·rw[if_neg c,if_neg c,if_neg (by simp[bC]),if_neg (by simp[bC])]
def eT(d:op≠[61,61])(c:op≠[33,61])(h:a.sort≠b.sort\/a.sort=1):cD op a b=(cJ,2):=by
 unfold cD;rw[if_neg d,if_neg c,if_pos h]
def JA(op:List UInt8)(F:Nat->Prop)(u v:Value)(a b:aH)(w:World)(m:PV F w u a)(j:PV F w v b)(p:∀k,F k->k<w.heap.size)(d:aT a<=400000)(i:aT b<=400000):
 Calls prog 306 #[.string (bs op),u,v] w (iE F w (cD op a b)):=by
 have y:=bT op;by_cases f:op=[61,61]
 ·have X:((bs op).toList==[61,61])=true:=by rw[y,f];rfl
  have H:Hid (cD op a b=(bK (bZ a b),0)):=by show _=_;unfold cD;rw[if_pos f]
  have L:=aB (rN F 400000 u v a b w m j d o_ o_)
  obtain⟨t,z,rfl⟩:=m.form;obtain⟨Z,z',rfl⟩:=j.form;clear m j y f;rw[H.out];generalize bZ a b=s at*;go_enter func306,ntmps306;go_wp2_with fail;refine L.out.mono ?_;rintro e O ⟨rfl,rfl⟩;go_wp2_with fail;go_ret;exact iE.ok (F9 _ _) rfl (PV.tru _ _ s)
 have X:((bs op).toList==[61,61])=false:=by rw[y];simpa using f
 by_cases g:op=[33,61]
 ·have e1:((bs op).toList==[33,61])=true:=by rw[y,g];rfl
  have H:Hid (cD op a b=(bK (!bZ a b),0)):=by show _=_;unfold cD;rw[if_neg f,if_pos g]
  have L:=aB (rN F 400000 u v a b w m j d o_ o_)
  obtain⟨t,z,rfl⟩:=m.form;obtain⟨Z,z',rfl⟩:=j.form;clear m j y f g;rw[H.out];generalize bZ a b=s at*;go_enter func306,ntmps306;go_wp2_with fail;refine L.out.mono ?_;rintro e O ⟨rfl,rfl⟩;go_wp2_with fail;go_ret;exact iE.ok (F9 _ _) rfl (PV.tru _ _ (!s))
 have e1:((bs op).toList==[33,61])=false:=by rw[y];simpa using g
 clear y;rcases m.cases with ⟨n,rfl,rfl,h1,Y⟩|⟨s,rfl,rfl⟩|⟨s,rfl,rfl⟩|⟨x,c,l,rfl,rfl,W⟩
 ·have T:=kP;rcases j.cases with ⟨M,rfl,rfl,J,I⟩|⟨G,rfl,rfl⟩|⟨G,rfl,rfl⟩|⟨Q,P,N,rfl,rfl,D⟩
  ·have q:=kP;rw[UP f g];have L:=aB (RV op F n M w h1 Y J I);generalize gN op n M=r at*;clear m j p f g d i;go_enter func306,ntmps306;go_wp2_with fail;refine L.out.mono ?_;rintro e O ⟨rfl,⟨o,u1,rfl,B⟩|⟨o,rfl⟩⟩
   ·have H:=aB B;have E:=aB o;obtain⟨V,U,rfl⟩:=B.form;clear B o;go_wp2_with fail;go_ret;exact iE.ofQ ⟨rfl,F7 ⟨E.out,_,rfl,H.out⟩⟩
   ·have E:=aB o;clear o;go_wp2_with fail;exact⟨rfl,iE.ofQ ⟨rfl,F5 ⟨E.out,rfl⟩⟩⟩
  ·have q:=jO;rw[eT f g (by simp[aL,bK])]
   clear m j p f g d i;go_enter func306,ntmps306;go_wp2_with fail;exact⟨rfl,iE.stop (F9 _ _) rfl d_⟩
  ·have q:=kO;rw[eT f g (by simp[aL,bI])]
   clear m j p f g d i;go_enter func306,ntmps306;go_wp2_with fail;exact⟨rfl,iE.stop (F9 _ _) rfl d_⟩
  ·have q:=jN;rw[eT f g (by simp[aL,bC])]
   clear m j p f g d i;go_enter func306,ntmps306;go_wp2_with fail;exact⟨rfl,iE.stop (F9 _ _) rfl d_⟩
 ·have T:=jO;have A:=oO;have C:=iN;rcases j.cases with ⟨M,rfl,rfl,J,I⟩|⟨G,rfl,rfl⟩|⟨G,rfl,rfl⟩|⟨Q,P,N,rfl,rfl,D⟩
  ·have q:=kP;rw[eT f g (by simp[bK,aL])]
   clear m j p f g d i;go_enter func306,ntmps306;go_wp2_with fail;exact⟨rfl,iE.stop (F9 _ _) rfl d_⟩
  ·have q:=jO;rw[eT f g (by simp[bK])]
   clear m j p f g d i;go_enter func306,ntmps306;go_wp2_with fail;exact⟨rfl,iE.stop (F9 _ _) rfl d_⟩
  ·have q:=kO;rw[eT f g (by simp[bK,bI])]
   clear m j p f g d i;go_enter func306,ntmps306;go_wp2_with fail;exact⟨rfl,iE.stop (F9 _ _) rfl d_⟩
  ·have q:=jN;rw[eT f g (by simp[bK,bC])]
   clear m j p f g d i;go_enter func306,ntmps306;go_wp2_with fail;exact⟨rfl,iE.stop (F9 _ _) rfl d_⟩
 ·have T:=kO;have A:=nB;rcases j.cases with ⟨M,rfl,rfl,J,I⟩|⟨G,rfl,rfl⟩|⟨G,rfl,rfl⟩|⟨Q,P,N,rfl,rfl,D⟩
  ·have q:=xJ;rw[eT f g (by simp[bI,aL])]
   clear m j p f g d i;go_enter func306,ntmps306;go_wp2_with fail;exact⟨rfl,iE.stop (F9 _ _) rfl d_⟩
  ·have q:=oO;rw[eT f g (by simp[bI,bK])]
   clear m j p f g d i;go_enter func306,ntmps306;go_wp2_with fail;exact⟨rfl,iE.stop (F9 _ _) rfl d_⟩
  ·have q:=nB;rw[UO f g];rw[mW] at d i;have L:=aB (RQ op F s G w o_)
   generalize CR op s G=r at*;clear m j p f g d i;go_enter func306,ntmps306;go_wp2_with fail;refine L.out.mono ?_;rintro e O ⟨rfl,⟨o,u1,rfl,B⟩|⟨o,rfl⟩⟩
   ·have H:=aB B;have E:=aB o;obtain⟨V,U,rfl⟩:=B.form;clear B o;go_wp2_with fail;go_ret;exact iE.ofQ ⟨rfl,F7 ⟨E.out,_,rfl,H.out⟩⟩
   ·have E:=aB o;clear o;go_wp2_with fail;exact⟨rfl,iE.ofQ ⟨rfl,F5 ⟨E.out,rfl⟩⟩⟩
  ·have q:=lG;rw[eT f g (by simp[bI,bC])]
   clear m j p f g d i;go_enter func306,ntmps306;go_wp2_with fail;exact⟨rfl,iE.stop (F9 _ _) rfl d_⟩
 ·have T:=jN;have A:=lG;have C:=iM;rcases j.cases with ⟨M,rfl,rfl,J,I⟩|⟨G,rfl,rfl⟩|⟨G,rfl,rfl⟩|⟨Q,P,N,rfl,rfl,D⟩
  ·have q:=lH;rw[eT f g (by simp[bC,aL])]
   clear m j p f g d i;go_enter func306,ntmps306;go_wp2_with fail;exact⟨rfl,iE.stop (F9 _ _) rfl d_⟩
  ·have q:=iN;rw[eT f g (by simp[bC,bK])]
   clear m j p f g d i;go_enter func306,ntmps306;go_wp2_with fail;exact⟨rfl,iE.stop (F9 _ _) rfl d_⟩
  ·have q:=oN;rw[eT f g (by simp[bC,bI])]
   clear m j p f g d i;go_enter func306,ntmps306;go_wp2_with fail;exact⟨rfl,iE.stop (F9 _ _) rfl d_⟩
  ·have q:=iM;rw[QO f g];have L:=aB (MK op F x Q c P l N w W D p o_)
   generalize uF op l N=r at*;clear m j p f g d i W D;go_enter func306,ntmps306;go_wp2_with fail;refine L.out.mono ?_;rintro e O ⟨K,⟨o,u1,rfl,B⟩|⟨o,rfl⟩⟩
   ·have H:=aB B;have E:=aB o;have S:=aB K;obtain⟨V,U,rfl⟩:=B.form;clear B o K;go_wp2_with fail;go_ret;exact⟨S.out,F7 ⟨E.out,_,rfl,H.out⟩⟩
   ·have E:=aB o;have S:=aB K;clear o K;go_wp2_with fail;exact⟨rfl,S.out,F5 ⟨E.out,rfl⟩⟩
end Go.Proofs.YthbffcmfmjpncaaGreatDoor
