import Derived.Test.YthnhjhlinlhflaaGreatDoorP26
set_option linter.all false
set_option maxRecDepth 100000
set_option maxHeartbeats 0
open Option renaming some->Wj
namespace Go.Proofs.YthnhjhlinlhflaaGreatDoor
open Hs _root_.Go.Proofs.Tryz Go.RowKit
def Vh(w:aL)(s:SV)(a n:Nat)(b:Option Addr)(d:s.x1=Wj (aJ a 0))(f:s.n1=n+1)(c:n<=1000)(p:eJ w a (n*6+3) (.pointer b))(g:a<H_ w):Calls prog 169 #[s.val] w λe w'=>e=bP (.pointer b)/\cB w w':=by
 have ⟨t,x1,x2,x3,n1,n2,n3,c1,c2,c3,q⟩:=s;simp only at d f;subst d f;unfold SV.val;have o:(((n+1:Nat):Int)==0)=false:=G_;have l:=O λ(W:aL) i=>uJ (H_ w) a n c1 W i c;go_in;go_wp;refine(l _ ?_).mono ?_;simp;rintro e m ⟨rfl,j,rfl⟩;have k:eJ ((dZ w #[Y t,P_ (Wj (aJ a 0)) (n+1) c1,P_ x2 n2 c2,P_ x3 n3 c3,Y q] 54).drewN j) a (n*6+3) (.pointer b):=by show (w.alloc _).cell? _=_;grind[World.cell?_of_block,ed]
 go_wp2;go_ret;refine⟨i_,((dw (H_ w) w).alloc (Z) _).trans ⟨rfl,rfl,rfl,s_,λ_ _=>rfl⟩⟩
def YA(w:aL)(C g n G f j:Nat)(D:Bool)(u:Int)(a:SV)(H:C<H_ w)(q:g<H_ w)(hn:n<=1000) (x:eJ w C 5 (P_ (Wj (aJ g 0)) n G)) (z:eJ w g (j*6+1) (Y a.t)) (t:eJ w g (j*6+2) (P_ a.x1 a.n1 a.c1)) (A:eJ w g (j*6+3) (P_ a.x2 a.n2 a.c2)) (B:eJ w g (j*6+4) (P_ a.x3 a.n3 a.c3)) (p:eJ w g (j*6+5) (Y a.q)) (hj:(D=true/\f=j)\/(D=false/\f=j+1)) (aa:j<n) (Q:Hid (Calls prog 94 #[.pointer (Wj (aJ C 5)),Y u] (dZ w #[Y 0,bR,bR,bR,Y 0] 54) λe w'=>e=bP (.tuple #[Y f,.bool D])/\Below (H_ w+1) (dZ w #[Y 0,bR,bR,bR,Y 0] 54) w')):Calls prog 115 #[.pointer (Wj (aJ C 5)),Y u] w λe w'=>e=bP (.tuple #[a.val,.bool true])/\cB w w':=by
 have HC:=O (du x (du z (du t (du A (du B p)))));clear x z t A B p;go_in;go_wp;refine rB Q λo F=>?_;have m:cB w o:=((dw (H_ w) w).alloc (Z) _).trans (F.mono Z);have c:o.heap[H_ w]?=Wj (bM #[Y 0,bR,bR,bR,Y 0] 54):=(F.block _ Z).trans (aS _ _ rfl _);obtain⟨x,z,t,A,B,p⟩:=HC.out;have k:∀(b i:Nat) (v:aU),b<H_ w->eJ w b i v->eJ o b i v:=λb i v E hv=>(World.cell?_of_block (m.block b E)).trans hv;have d5:=k _ _ _ H x;have d1:=k _ _ _ q z;have N:=k _ _ _ q t;have P:=k _ _ _ q A;have d4:=k _ _ _ q B;have d6:=k _ _ _ q p;have z0:=aB (i:=0) c i_;have X:=aB (i:=1) c i_;have T:=aB (i:=2) c i_;have z3:=aB (i:=3) c i_;have U:=aB (i:=4) c i_;have S:=aE (i:=0) c;have V:=aE (i:=1) c;have f2:=aE (i:=2) c;have f3:=aE (i:=3) c;have f4:=aE (i:=4) c;have lz:=aH c;have y:=O (pW (W:=o) (s:=a) c s_ rfl);have r:=O (LR a m kB);unfold jH at y r;have q1:(0:Int)<=(j:Int):=Z;have q2:(j:Int)<(n:Int):=Z;clear F m c k HC x z t A B p Q;rcases hj with ⟨rfl,rfl⟩|⟨rfl,rfl⟩;.go_wp21;have d:=y.out;have l:=r.out;clear y r z0 X T z3 U S V f2 f3 f4 d1 N P d4 d5 d6;generalize ((((o.setCell (aJ (H_ w) 0) (Y a.t)).setCell (aJ (H_ w) 1) (P_ a.x1 a.n1 a.c1)).setCell (aJ (H_ w) 2) (P_ a.x2 a.n2 a.c2)).setCell (aJ (H_ w) 3) (P_ a.x3 a.n3 a.c3)).setCell (aJ (H_ w) 4) (Y a.q)=W3 at d l⊢;obtain⟨M,I,J,K,L⟩:=d;exact bodyPost_ret (v:=.tuple #[a.val,.bool true]) pd rfl G_
 have q3:(((j+1:Nat):Int)==0)=false:=G_;go_wp2_with fail;have d:=y.out;have l:=r.out;clear y r z0 X T z3 U S V f2 f3 f4 d1 N P d4 d5 d6;generalize ((((o.setCell (aJ (H_ w) 0) (Y a.t)).setCell (aJ (H_ w) 1) (P_ a.x1 a.n1 a.c1)).setCell (aJ (H_ w) 2) (P_ a.x2 a.n2 a.c2)).setCell (aJ (H_ w) 3) (P_ a.x3 a.n3 a.c3)).setCell (aJ (H_ w) 4) (Y a.q)=W3 at d l⊢;obtain⟨M,I,J,K,L⟩:=d;exact bodyPost_ret (v:=.tuple #[a.val,.bool true]) pd rfl G_
def DL.cells{F:bI}{w:aL}{x:Option Addr}{n c:Nat}{a:List oo}(h:DL F w (.slice x n c) a)(i:Nat)(l:i<a.length):∃g,x=Wj (aJ g 0)/\n=a.length/\F g/\∀j u,j<6->a[i].cells[j]?=Wj u->w.cell? (aJ g (i*6+j))=Wj u:=by rcases h with ⟨rfl,_⟩|⟨g,o,f,d,b,k,p,q⟩;simp at l;cases d;refine⟨g,i_,i_,b,λj u m r=>?_⟩;apply aB k;have e:a=a.take i++a[i]::a.drop (i+1):=s_;have s:=YS (a.take i) (a.drop (i+1)) a[i] j m;grind
def vd.sl{F:bI}{w:aL}{v:aU}{l:List aD}(h:vd F w v l):∃x n c,v=P_ x n c:=by rcases h with ⟨_,e⟩|⟨g,b,a,e,_⟩<;>exact⟨_,_,_,e⟩
section
variable {fp:iD} {F:bI} {w:aL} {s1:SV} {s:bL}
def oZ.parts(h:oZ fp F w s1.val s):∃a,DL F w (P_ s1.x1 s1.n1 s1.c1) a/\yV fp F w a s.m.f_/\GH F w (P_ s1.x3 s1.n3 s1.c3) s.m.out:=by grind[SV.val,oZ]
def oZ.none(h:oZ fp F w s1.val s)(a:s.m.f_=[]):s1.n1=0:=by grind[oZ,SV.val,DL,yV]
def oZ.frame(h:oZ fp F w s1.val s)(i:Nat)(a:i<s.m.f_.length):∃g v,s1.x1=Wj ⟨g,0,Option.none⟩/\s1.n1=s.m.f_.length/\F g/\Cp fp F w v s.m.f_[i]/\∀j u,j<6->v.cells[j]?=Wj u->w.cell? ⟨g,i*6+j,Option.none⟩=Wj u:=by have ⟨v_,h1,h2,_⟩:=h.parts;have b:=h2.length;have ⟨g,e1,e2,e3,e4⟩:=h1.cells i Z;exact⟨g,_,e1,Z,e3,h2.get i _ _ (ew Z) (ew a),e4⟩
end
section
variable {fp:iD} {F:bI} {w w':aL} {sb mb n:Nat} {mo:Obj} {st:Nat->Option bL} {s:bL}
end
section
variable {fp:iD} {F G:bI} {w w':aL} {sb mb n n':Nat} {mo:Obj} {ks:List aC} {tape:List Int} {s:bL} {L:List Nat}
def sw.fresh(h:sw fp F w sb mb mo ks tape s n L)(a:sw fp F w' sb mb mo ks tape s n L)(f:w'.heap[sb]?=w.heap[sb]?){b:Nat}(k:H_ w<=b)(c:b<H_ w'):sw fp F w' sb mb mo ks tape s n (b::L):=by refine⟨a.uz,a.tg,a.pow,a.low,a.hn,λx d=>?_⟩;rcases fe.1 d with rfl|d;have j:=h.uz.lt;have i:=h.low;refine⟨Z,c,λg=>by have:=(h.uz.fix _ g).1;exact Z,λe=>?_,Z,by have:=aH h.uz.map.1;exact Z⟩;rw[SE f]at e;have:=(h.row e).2.1;exact Z;exact a.loc x d
def sw.zm(h:sw fp F w sb mb mo ks tape s n L)(c:sw fp F w' sb mb mo ks tape s n L)(e:w'.heap[sb]?=w.heap[sb]?):∀(M:List Nat),(∀b∈M,w.heap.size<=b/\b<w'.heap.size)->sw fp F w' sb mb mo ks tape s n (M++L)|[],_=>c|b::M,f=>by have a:=sw.zm h c e M G_;have g:=h.fresh c e (f b (jt ..)).1 (f b (jt ..)).2;exact⟨a.uz,a.tg,a.pow,a.low,a.hn,λx d=>by rcases fe.1 d with rfl|d;exact g.loc x (s_);exact a.loc x d⟩
end
section
variable {fp:iD} {F:bI} {w w':aL} {sb mb n:Nat} {mo:Obj} {st:Nat->Option bL} {s:bL}
def xz(n:Nat)(key:Int):Nat:=if key<=0 then 0 else min n ((key.toNat-1)/20+1)
def YT(n:Nat)(key:Int):Bool:=decide (0<=key/\key.toNat%20=0/\key.toNat/20<n)
theorem Jg{n:Nat}{a:Int}{b:Nat}{c:Bool}(h:Eg n a b c):b=xz n a/\c=YT n a:=by
 have f:=h.le;have e:b=xz n a:=by rcases Nat.lt_trichotomy b (if a<=0 then 0 else min n ((a.toNat-1)/20+1))with q|q|q;split at q;exact Z;have:=h.hi b Z (Z);exact Z;exact q;have:=h.lo _ q;grind
 have d:=h.Cv;grind[YT,xz]
def KQ(h:kZ fp F w sb mb mo st s n)(a:Int)(u:n<=1000)(H:0<n):Calls prog 115 #[.pointer (Wj (aJ sb 5)),Y a] w λe w'=>∃(v:SV) (ok:Bool),e=bP (.tuple #[v.val,.bool ok])/\cB w w'/\(ok=false->a<0)/\(ok=true->∃(j:Nat) (k:bL),j<n/\((20*j:Nat):Int)<=a/\st (20*j)=Wj k/\oZ fp F w' v.val k):=by
 have p:cB w (dZ w #[Y 0,bR,bR,bR,Y 0] 54):=(by grind[eo,dw]);have y:=h.grow p (s_) λ_ h=>ea h;have c:Calls prog 94 #[.pointer (Wj (aJ sb 5)),Y a] (dZ w #[Y 0,bR,bR,bR,Y 0] 54) λe w'=>e=bP (.tuple #[Y (xz n a:Nat),.bool (YT n a)])/\Below (H_ w+1) (dZ w #[Y 0,bR,bR,bR,Y 0] 54) w':=by apply (DY y a u).mono;grind[Jg,World.size_alloc]
 by_cases J:a<0;have E:xz n a=0:=ec Z;have z:YT n a=false:=by unfold YT;grind
 rw[E,z]at c;apply (TA w sb a c).mono;grind;have ⟨j,hj,hjn,hjk⟩:∃j,((YT n a=true/\xz n a=j)\/(YT n a=false/\xz n a=j+1))/\j<n/\((20*j:Nat):Int)<=a:=by by_cases o:0<=a/\a.toNat%20=0/\a.toNat/20<n;refine⟨a.toNat/20,ea ⟨im o,?_⟩,o.2.2,Z⟩;grind[xz];refine⟨min n ((a.toNat-1)/20+1)-1,dv ⟨gi o,?_⟩,Z,?_⟩;grind[xz];exact Z
 have ⟨fv,tv,ov,ev,es,h1,h2,h3,h4,h5,h6,h7⟩:=h.n_;have l:=h.lt;have f:j<es.length:=Z;have ⟨k0,k,hτ,hst⟩:=h5 j f;have ⟨v,ev',ev1,ev2⟩:=hst.sv;have B:=aB (i:=5) h1 i_;rcases h3.2 with ⟨r,D⟩|⟨g,m,A,r,D,G,I,K⟩;exact Z;subst r;have d:=l8 (es:=es) (by rw[h4];exact h3) λi C=>(h5 i C).ok;have ⟨_,a0,a1,a2,a3,a4,a5⟩:=d j f;simp only[SV.val]at ev';simp at ev';have ⟨b1,b2,b3,b4,b5⟩:=ev';rw[b1]at a1;rw[b2]at a2;rw[b3]at a3;rw[b4]at a4;rw[b5]at a5;refine rB (YA w sb g n m (xz n a) j (YT n a) a v l (G_) u B a1 a2 a3 a4 a5 hj hjn c) λw' t=>?_;refine⟨v,true,i_,t,s_,λ_=>⟨j,k,hjn,hjk,hτ,?_⟩⟩;have x:v.val=.agg #[Y es[j].a,es[j].b,es[j].c,es[j].d,Y es[j].e]:=by rw[b1,b2,b3,b4,b5];rfl
 rw[x];exact hst.j_ (λb q=>t.block b (h.fix b q).1) s_
end
section
variable {fp:iD} {F G:bI} {w w':aL} {sb mb n n':Nat} {mo:Obj} {ks:List aC} {tape:List Int} {s:bL} {L:List Nat}
structure CD(fp:iD)(sb mb:Nat)(mo:Obj)(ks:List aC)(tape:List Int)(s:bL)(L:List Nat)(w:aL)(F0:bI)(n0:Nat)(m_:Int)(gk b:Nat)(v:SV)(ok:Bool)(W:aL):Prop where
 n_:W.heap[b]?=Wj (.cells v.cells 54)
 hb:w.heap.size<b
 z:W.heap[w.heap.size]?=Wj (.cells WA 54)
 fs:FS sb w W
 now:∃F n,ue F0 F w.heap.size/\n0<=n/\sw fp F W sb mb mo ks tape s n (b::w.heap.size::L)/\(ok=true->∃τ,eE ks tape τ.m_=Wj τ/\oZ fp F W v.val τ/\τ.m_/20<n/\(τ.m_:Int)<=m_/\501<=gk+τ.m_)
 no:ok=false->m_<0\/eE ks tape m_.toNat=none
def Fp(fp:iD)(F:bI)(w:aL)(sb mb:Nat)(mo:Obj)(ks:List aC)(tape:List Int)(s:bL)(n:Nat)(L:List Nat)(m_:Int)(v:SV)(ok:Bool)(W:aL):Prop:=∃G n',n<=n'/\ue F G w.heap.size/\FS sb w W/\sw fp G W sb mb mo ks tape s n' L/\(ok=true->∃τ,(τ.m_:Int)=m_/\eE ks tape τ.m_=Wj τ/\oZ fp G W v.val τ/\τ.m_/20<n')/\(ok=false->m_<0\/eE ks tape m_.toNat=none)
def Uc(J:Good ks)(M:tape.length<=17592186044416)(h:sw fp F w sb mb mo ks tape s n L)(a:Int):Calls prog 64 #[aW sb,Y a] w λe w'=>∃v ok,e=bP (.tuple #[SV.val v,.bool ok])/\Fp fp F w sb mb mo ks tape s n L a v ok w':=by
 have f:=h.uz.lt;have ab:=h.count J;have T:0<n:=by have:=h.hn;exact Z
 have A:=h.alloc (bM WA 54);have Q:cB w (w.alloc (bM WA 54)):=(by grind[eo,dw]);refine L7 w sb 501 a (CD fp sb mb mo ks tape s L w F n a) (Fp fp F w sb mb mo ks tape s n L a) ((KQ A.uz a Z T).mono ?_) (λgk b v ok W d=>?_) (λgk b v W d hv=>?_) (λgk b v W d hv=>?_) (λgk b v W d=>?_);rintro e U ⟨v,ok,rfl,i,D,h2⟩;change Below _ _ _ at i;rw[World.size_alloc]at i;have c:th [] (w.alloc (bM WA 54)) U:=⟨i.os,i.tape,i.output,by have:=i.size;exact Z,λk hk _=>i.block k (by simpa using hk)⟩;have hl1:=A.but c Kn;have ac:w.heap.size+1<=U.heap.size:=by have:=i.size;simpa using this
 have l:=Q.trans (i.mono Z);have hz:=(i.block _ Z).trans (aS _ _ rfl _);refine⟨v,ok,i_,aS _ _ i_ _,Z,qw,FS.q_ (l.alloc l.size _) f,⟨F,n,ue.refl _ _,Z,hl1.alloc _,λr=>?_⟩,G_⟩;obtain⟨j,q,j1,j2,j3,j4⟩:=h2 r;have ht:=(J.Ai j3).2.1;exact⟨q,G_,j4.but hl1 (th.alloc _ _ []) (s_),Z,Z,Z⟩;obtain⟨z,u,_,_,p,_⟩:=d.now;have:=d.hb;grind[CD.n_,CD.z];obtain⟨z,u,E,o,p,D⟩:=d.now;obtain⟨q,S,V,X,t4,t5⟩:=D rfl;have K:v.t=q.m_:=by grind[oZ,SV.val]
 have aa:=(J.Ai S).1.m_;have ae:=aH d.n_;have l:=d.hb;have ad:=Z;have P:sw fp z (W.alloc (bM v.cells 54)) sb mb mo ks tape s u (b::w.heap.size::L):=p.but (th.alloc _ _ []) s_;refine⟨gk-1,Z,(PE J P M v q (V.but p (th.alloc _ _ []) s_) S X).mono ?_⟩;rintro e I ⟨v',ok,rfl,G,m,k1,k2,k3,k4,k5,k6⟩;have C:I.heap[b]?=Wj (bM v.cells 54):=by grind[sw.n_,ed,CD.n_]
 have N:I.heap[w.heap.size]?=Wj (bM WA 54):=by grind[sw.n_,ed,CD.z]
 have B:th [b] I (jH I b v'):=th.yo _ _ _;have g:∀x∈[b],x∈(b::w.heap.size::L):=(by simp);have H:FS sb w (W.alloc (bM v.cells 54)):=d.fs.but (th.alloc _ _ []) (s_) f;refine⟨v',ok,i_,⟨_,C,by simp[SV.cells]⟩,wQ C rfl,l,by rw[iZ _ _ _ _ Z];exact N,(H.trans k3).but B (G_) f,⟨G,m,E.trans k2 H.size,Z,k4.but B g,λr=>?_⟩,λr=>?_⟩;grind[oZ.but];right;cases hq:eE ks tape a.toNat with|none=>rfl|some y=>have ⟨x,hx1,hx2⟩:=Ec hq (t:=q.m_) Z;grind
 have ⟨z,u,E,o,p,D⟩:=d.now;have ⟨q,S,V,X,t4,t5⟩:=D rfl;have K:v.t=q.m_:=by grind[oZ,SV.val]
 have c:th [w.heap.size] W (jH (W.alloc (bM v.cells 54)) w.heap.size v):=by simpa using (th.alloc W _ []).trans (th.yo _ _ _)
 have g:∀x∈[w.heap.size],x∈(b::w.heap.size::L):=(by simp);exact⟨z,u,o,E,d.fs.but c (s_) f,(p.but c g).drop G_,(by grind[oZ.but]),s_⟩;have ⟨z,u,E,o,p,D⟩:=d.now;have c:th [w.heap.size] W (jH W w.heap.size v):=th.yo _ _ _;have g:∀x∈[w.heap.size],x∈(b::w.heap.size::L):=(by simp);exact⟨z,u,o,E,d.fs.but c (s_) f,(p.but c g).drop G_,s_,λ_=>d.no rfl⟩
def Y4(st:Nat->Option bL)(m_:Int)(s τ:bL)(fd:Bool):Prop:=(fd=true/\(τ.m_:Int)=m_/\st τ.m_=Wj τ)\/(fd=false/\τ=s/\(m_<0\/st m_.toNat=none))
def Nh(k:Good ks)(f:tape.length<=17592186044416)(h:sw fp F w sb mb mo ks tape s n L)(a:Int):Calls prog 24 #[aW sb,Y a] w λe w'=>∃b,e=bP (.bool b)/\uD fp sb mb mo ks tape L (Y4 (eE ks tape) a s) w b w':=by have d:=h.uz.lt;refine Kk w sb a _ ((Uc k f h a).mono ?_);rintro e w' ⟨v,ok,rfl,G,j,q,p,m,i,l,r⟩;have c:sw fp G (dZ w' v.cells 54) sb mb mo ks tape s j L:=i.but (th.alloc _ _ []) s_;have o:FS sb w (dZ w' v.cells 54):=m.but (th.alloc _ _ []) (s_) d;refine⟨v,ok,i_,λg=>?_,(by grind[uD,Y4])⟩;have ⟨τ,t1,t2,t3,t4⟩:=l g;have ⟨fv,tv,ov,ev,es,b1,_⟩:=c.uz.n_;have ⟨g1,g2⟩:=c.go (t3.but i (th.alloc _ _ []) s_) t2 t4;grind[FS.trans,uD,Y4]
end
