import Derived.Test.YtjhbbdpfkccohaaGreatDoorP21
set_option linter.all false
set_option maxRecDepth 100000
set_option maxHeartbeats 4000000
open List renaming length->Ty
open Go.World renaming setCell->Tz,cell?->T_
open Option renaming some->Ua
open Bool renaming false->Uc
open Go renaming Calls->Ue
namespace Go.Proofs.YtjhbbdpfkccohaaGreatDoor
open Hs
open _root_.Go.Proofs.Tryz
open Go.RowKit
section
variable {fs:List aC} {V:aC->aM->dZ aE} {B:aC->aM->dZ (aE × Bool)} {D g k d dd de:Nat} {e_:cY} {F G:bN} {w w0 w1 w2 W:aN} {m m1:DM} {s s0:aM} {nv lv u:aW} {n:aC} {vs:List aE} {r:(aE × Bool) × aM}
theorem OT{c:Nat}{b:bP}(N:b=[105,102]\/b=[119,104,105,108,101])(h:cP fs F w m s)(k:c<w.heap.size)(I:∀G w1,Kp F w G w1->T_ w1 (aL c 0)=Ua (.string (bs b)))(Z:T_ w (aL c 1)=Ua (I_ n.l_))(U:s0.stop=0)
 (E:∀i,R_ w i->Ue prog 218 #[bF m.rb,I_ n.l_] i λe w2=>e=bY (.bool (decide (s0.stop=0)))/\yg fs F i m s0 w2)
 (J:∀G w1 m1,cP fs G w1 m1 s0->Kp F w G w1->m1.rb=m.rb->Ue prog (if b=[105,102]then 219 else 220) #[bF m.rb,bF c] w1 (PB fs G w1 m1 r)):
 Ue prog 168 #[bF m.rb,bF c] w (PB fs F w m r):=by
 have H:=aB h;have HBg:=aB (E _ ((dz _ w).alloc mJ (.cells #[I_ 0,I_ 0,.string ⟨#[]⟩,bO] 130)));have O:=aB I;have Q:=aB J;go_in
 go_wp2_with fail;refine rf HBg λw1 ⟨G,m1,p,l,M⟩=>?_
 obtain⟨A,K⟩:=Px.zb H l (bM w _ rfl);have f:=(H.re (lr)).2.trans l
 have d:=f.kp H;have N0:=O _ _ d;have x:=aB (Q G w1 m1 p d f.rb);have hn1 :=ej k f.size;have j:=aB (show Ba fs F w m w1 G m1 s0 from ⟨p,f,A,K,M⟩)
 have y:(bs b).toList=b:=aX _;rcases N with rfl|rfl
 all_goals
  go_wp2_with fail;apply x.mono
  intro L w2 C;obtain⟨u,rfl⟩:∃u,L=bY u:=by grind [PB]
  obtain⟨a,B,q,Y,T,rfl,g, -,z⟩:=PB.out j.px j.hz (G_) j.zb C
  obtain⟨o,P,t,S,D,W,X,V,g3⟩:=kR g;go_wp2
  exact bodyPost_ret (v:=.tuple #[.agg #[I_ a.c_,I_ a.n,.string (bs a.s),.slice B (Ty a.l) q],.bool r.1.2]) (by simp[results,results168,go_sem,P,t,S,D]) rfl (z _ _ _ _ _ (dz _ _))
theorem XX{i:Nat}{k:bP}{I:Option Addr}{M E:Nat}(W:k=[114,101,116,117,114,110])(h:cP fs F w m s)(z:i<w.heap.size)(T:∀G w1,Kp F w G w1->T_ w1 (aL i 0)=Ua (.string (bs k))/\T_ w1 (aL i 3)=Ua (.slice I E M))(n1:T_ w (aL i 1)=Ua (I_ n.l_))(h0:s0.stop=0){J:aM}
 (HB:∀y,R_ w y->Ue prog 218 #[bF m.rb,I_ n.l_] y λe w2=>e=bY (.bool (decide (s0.stop=0)))/\yg fs F y m s0 w2)
 (HC:∀G w1 m1,cP fs G w1 m1 s0->Kp F w G w1->m1.rb=m.rb->Ue prog 135 #[bF m.rb,.slice I E M] w1 (PA fs G w1 m1 (vs,J))):
 Ue prog 168 #[bF m.rb,bF i] w (PB fs F w m ((vs.head?.getD aY,true),J)):=by
 have H:=aB h;have HBg:=aB (HB _ ((dz _ w).alloc mJ (.cells #[I_ 0,I_ 0,.string ⟨#[]⟩,bO] 130)));have HN:=aB T;have HX:=aB HC;go_in
 go_wp2_with fail;refine rf HBg λw1 ⟨G,m1,N,L,hf⟩=>?_
 obtain⟨zb,U⟩:=Px.zb H L (bM w _ rfl);have l:=(H.re (lr)).2.trans L
 have j:=l.kp H;obtain⟨N0,N3⟩:=HN _ _ j;have P:=aB (HX G w1 m1 N j l.rb);have hn1 :=ej z l.size;have Y:=aB (show Ba fs F w m w1 G m1 s0 from ⟨N,l,zb,U,hf⟩)
 have Q:(bs k).toList=k:=aX _;subst W;go_wp2_with fail;apply P.mono
 rintro ee w2 ⟨u,G2,m2,rfl,⟨d2,g⟩,ha,hc,q,r,p⟩;have b:=Y.next h0 q r p
 obtain⟨C,K,D,O,B,g0,g1,g2,g3⟩:=kR b.zb;cases vs with
 |nil=>
  obtain⟨lx,lc,f⟩:=g.slice;have f :=f;subst f;have o:=aB (PB.Ay b.run b.px b.hz b.As true);go_wp2
  exact bodyPost_ret (v:=.tuple #[cK 0 0 [],.bool true]) (by simp[results,results168,go_sem,K,D,O,B];rfl) rfl (o _ _ _ _)
 |cons a t=>
  obtain⟨lx,lc,f⟩:=g.slice;have f :=f;subst f;obtain⟨e',gl,ol,kl, -, -,x,A,aa,X,l1,l2,V,c⟩:=LV.elem g 0 s_
  subst x;simp only[im,fk,io,gu]at X l1 l2 V c A;obtain⟨ax,ac,rfl⟩:=c.slice;have o:=aB λZ S v2 v3=>sy.fin (d:=e') b.run b.px b.hz ⟨_,aJ,c⟩ (G_) (G_) b.As Z S v2 v3
  go_wp2
  exact bodyPost_ret (v:=.tuple #[.agg #[I_ a.c_,I_ a.n,.string (bs a.s),.slice ax (Ty a.l) ac],.bool true]) (by simp[results,results168,go_sem,K,D,O,B]) rfl ⟨_,rfl,o _ _ _ _⟩
theorem Ia{l W k kn kc:Nat}{a:bP}{kx:Option Addr}{A j:aW}(y:a≠[105,102]/\a≠[119,104,105,108,101]/\a≠[114,101,116,117,114,110])(M:(a=[118,97,114]/\A=.slice (Ua (aL W 0)) 2 k/\2<=k/\j=.slice (Ua (aL W 1)) 1 (k-1))\/a≠[118,97,114]/\A=.slice kx kn kc/\j=A)(h:cP fs F w m s)(V:l<w.heap.size)(Y:∀G w1,Kp F w G w1->T_ w1 (aL l 0)=Ua (.string (bs a))/\T_ w1 (aL l 3)=Ua A)(n1:T_ w (aL l 1)=Ua (I_ n.l_))(h0:s0.stop=0){c T:aM}
 (HB:∀x,R_ w x->Ue prog 218 #[bF m.rb,I_ n.l_] x λe w2=>e=bY (.bool (decide (s0.stop=0)))/\yg fs F x m s0 w2)
 (HC:∀G w1 m1,cP fs G w1 m1 s0->Kp F w G w1->m1.rb=m.rb->Ue prog 135 #[bF m.rb,j] w1 (PA fs G w1 m1 (vs,c)))
 (HS:c.stop=0->∀G w1 m1 de lv,cP fs G w1 m1 c->Kp F w G w1->m1.rb=m.rb->LV de G w1 lv vs->(∀v∈vs,dX v/\aK v<=200)->Ue prog 221 #[bF m.rb,bF l,lv] w1 λe x=>e=fD/\yg fs G w1 m1 T x):
 Ue prog 168 #[bF m.rb,bF l] w (PB fs F w m ((aY,Uc),if c.stop=0 then T else c)):=by
 have H:=aB h;have HBg:=aB (HB _ ((dz _ w).alloc mJ (.cells #[I_ 0,I_ 0,.string ⟨#[]⟩,bO] 130)));have HN:=aB Y;have HX:=aB HC;have U:=aB HS;have o1:(a==[105,102])=Uc:=G_
 have o2:(a==[119,104,105,108,101])=Uc:=G_
 have o3:(a==[114,101,116,117,114,110])=Uc:=G_
 obtain⟨s3,i⟩:∃s3,s3=if c.stop=0 then T else c:=(by simp)
 rw[<-i];have f:=aB i;clear h HB Y HC HS y i;go_in
 go_wp2_with fail;refine rf HBg λw1 ⟨G,m1,hR,hp,hf⟩=>?_
 obtain⟨zb,hz⟩:=Px.zb H hp (bM w _ rfl);have C:=(H.re (lr)).2.trans hp
 have q:=C.kp H;obtain⟨N0,N3⟩:=HN _ _ q;have HQ:=aB (HX G w1 m1 hR q C.rb);have hn1 :=ej V C.size;have H1:=aB (show Ba fs F w m w1 G m1 s0 from ⟨hR,C,zb,hz,hf⟩)
 have ab:(bs a).toList=a:=aX _
 have r:∀w2 u,PA fs G w1 m1 (vs,c) (bY u) w2->∃p t de z B,u=.slice z (Ty vs) B/\Ba fs F w m w2 p t c/\LV de p w2 u vs/\(c.stop=0->∀v∈vs,dX v/\aK v<=200):=by rintro w2 u ⟨u',p,t,he,⟨d2,g⟩,ha,hc,P,Q,O⟩;cases he;obtain⟨z,B,hu⟩:=g.slice;exact⟨p,t,d2,z,B,hu,H1.next h0 P Q O,g,G_⟩
 have HFin:=aB r;have S:∃D:Bool,(a==[118,97,114])=D:=(by simp)
 obtain⟨D,ac⟩:=S;rcases M with ⟨y,rfl,X,rfl⟩|⟨y,rfl,rfl⟩
 rotate_left
 obtain rfl:D=Uc:=G_
 rotate_left
 obtain rfl:D=true:=G_
 clear y
 all_goals
  go_wp2_with fail;apply HQ.mono
  intro ee w2 S;obtain⟨u,rfl⟩:∃u,ee=bY u:=by grind [PA]
  obtain⟨p,t,de,z,B,rfl,b,g,J⟩:=HFin _ _ S;have c6:=(iA b.run.i_).2.2.2.2.2.2.1;have N:=b.run.vw;rw[b.px.rb]at c6 N;obtain⟨Z,y0,y1,y2,y3,g0,g1,g2,g3⟩:=kR b.zb;have HM:=aB b;by_cases o:c.stop=0
  .have HSc:=aB (U o p w2 t de _ b.run (b.px.kp H) b.px.rb g (J o));have e7:((c.stop:Int)==0)=true:=by simp[o]
   rw[ef o]at f;go_wp2_with fail;apply HSc.mono
   rintro ee w3 ⟨rfl,G3,m3,E,I,K⟩;have d:=HM.next o E I K
   obtain⟨aa,x0,x1,x2,x3,f0,f1,f2,f3⟩:=kR d.zb;have L:=aB (PB.Ay d.run d.px d.hz d.As Uc);go_wp2_with fail;rw[f];exact bodyPost_ret (v:=.tuple #[cK 0 0 [],.bool Uc]) (by simp[results,results168,go_sem,x0,x1,x2,x3];rfl) rfl (L _ _ _ _)
  have L:=aB (PB.Ay b.run b.px b.hz b.As Uc);rw[ea o]at f;go_wp2_with fail;rw[f];exact bodyPost_ret (v:=.tuple #[cK 0 0 [],.bool Uc]) (by simp[results,results168,go_sem,y0,y1,y2,y3];rfl) rfl (L _ _ _ _)
end
section
variable {fs:List aC} {V:aC->aM->dZ aE} {B:aC->aM->dZ (aE × Bool)} {D g k d dd de:Nat} {e_:cY} {F G:bN} {w w0 w1 w2 W:aN} {m m1:DM} {s s0:aM} {nv lv u:aW} {n:aC} {vs:List aE} {r:(aE × Bool) × aM}
theorem SL.kp{l:List aC}(h:SL d F w u l)(k:Kp F w G w1):SL d G w1 u l:=by
 obtain⟨x,c,j,e⟩:=h
 exact⟨x,c,j,λi n=>by obtain⟨g,o,v,f,a,m,b⟩:=e i n;exact⟨g,o,v,f,k.sub g a,k.cell a m,b.kp k⟩⟩
theorem Lu{b:Nat}(h:cP fs F w m s)(r:b<w.heap.size)(D:T_ w (aL b 1)=Ua (I_ n.l_))(l:s0.stop≠0)
 (f:∀a,R_ w a->Ue prog 218 #[bF m.rb,I_ n.l_] a λe w2=>e=bY (.bool (decide (s0.stop=0)))/\yg fs F a m s0 w2):
 Ue prog 168 #[bF m.rb,bF b] w (PB fs F w m ((aY,Uc),s0)):=by
 have H:=aB h;have HBg:=aB (f _ ((dz _ w).alloc mJ (.cells #[I_ 0,I_ 0,.string ⟨#[]⟩,bO] 130)));have x:decide (s0.stop=0)=Uc:=by simp[l]
 clear h f;go_in
 go_wp2_with fail;refine rf HBg λy ⟨G,C,k,c,i⟩=>?_
 obtain⟨d,g⟩:=Px.zb H c (bM w _ rfl);obtain⟨j,t,o,u,q,A,B,z,E⟩:=kR d;have p:=aB (PB.Ay k ((H.re (lr)).2.trans c) g i Uc)
 clear k c i d g HBg;go_wp2
 exact bodyPost_ret (v:=.tuple #[cK 0 0 [],.bool Uc]) (by simp[results,results168,go_sem,t,o,u,q];rfl) rfl (p _ _ _ _)
theorem y8(HV:VC fs D g V)(O:pB fs D g V)(HB:BC fs D g B)(ae:vM fs D g B):Dw fs D g V B:=by
 intro k d dd z F w m s nv n r h aa ab hn I hl hg l;cases d with
 |zero=>exact I.elim
 |succ d=>
 obtain⟨d',nb,kv,hd,e0,u,A,n0,n1,n2,n3,ac⟩:=hn.cells;subst e0;have hB:∀w',R_ w w'->Ue prog 218 #[bF m.rb,I_ n.l_] w' λe w2=>e=bY (.bool (decide ((s.q_ n.l_).stop=0)))/\yg fs F w' m (s.q_ n.l_) w2:=λw' hb=>OY (h.re hb).1 aa ab n.l_
 unfold mR at l;by_cases Q:(s.q_ n.l_).stop=0
 rotate_left
 .simp only[ne_eq,Q,not_false_eq_true,if_true]at l;cases l;exact Lu h A n1 Q hB
 have i:=(rF aa Q).1;have o:(s.q_ n.l_).g_.length<=50000:=by grind [rq.len]
 simp only[Q,ne_eq,not_true_eq_false,if_false,beq_iff_eq]at l;have Y:=I
 have p:(n.op≠[105,102]/\n.op≠[119,104,105,108,101]/\n.op≠[114,101,116,117,114,110])->(∀a∈nR n,Hs.rk fs Uc z d a)->(n.op=[118,97,114]->∃t x,n.y_=[t,x])->Ue prog 168 #[bF m.rb,bF nb] w (PB fs F w m r):=λf H hv=>by
  obtain⟨U,s1,hA,ad,X⟩:=lQ O aD (nR n) _ H i;rw[ea f.1,ea f.2.1,ea f.2.2]at l;have Z:=hA;unfold nR at Z;rw[Z]at l;cases l;have W:∀a∈nR n,jX a:=(by grind [jX.tm,nR])
  have ah:Ty (nR n)<=1000000:=by grind [jX.len,nR]
  obtain⟨L,gq,M,kx,kn,kc,J,hO⟩:∃L gq M kx kn kc,((n.op=[118,97,114]/\kv=P_ (Ua (aL gq 0)) 2 M/\2<=M/\L=P_ (Ua (aL gq 1)) 1 (M-1))\/n.op≠[118,97,114]/\kv=P_ kx kn kc/\L=kv)/\SL d' F w L (nR n):=by
   by_cases aj:n.op=[118,97,114]
   .grind [nR,nK.tail,nK]
   grind [nR,nK.Dk,nK]
  refine Ia (vs:=U) f J h A (λG P k=>⟨k.cell u n0,k.cell u n3⟩) n1 Q hB (λG P m1 N K j=>?_) λq G P m1 de lv N K j hv af=>?_
  .rw[<-j];exact IP HV O N i o (hO.kp K) H W aD ah hA
  rw[<-j];exact UR N (i.next ad q) ab (hn.kp K) Y f hl hv af (X q)
 unfold cO at I;rcases I with ⟨f, -,t,x,E,H, -⟩|⟨f, -, -,H⟩|⟨f,c,t,E,S,ht⟩|⟨f,c,b,E,S,hb⟩|⟨f,E⟩|⟨f,v,E,hv⟩|⟨f,c,E,S⟩
 .exact p qb (by simp[nR,f,E,H]) G_
 .exact p qb (by simpa [nR,f]using H) qb
 .obtain⟨x,T,ai,ag⟩:∃x,n.y_=c::t::x/\Ty x<=1/\∀y∈t::x,Hs.rp (cO fs d) z y.y_:=by grind
  obtain⟨b,s1,C, -⟩:=kB O aD i S;rw[ef f,T]at l;simp only[C]at l;refine OT (.inl f) h A (λG P k=>k.cell u n0) n1 Q hB λG P m1 N K j=>?_
  rw[ef f,<-j];exact YN HV O HB N i o (hn.kp K) T ai S ag hl aD C l
 .obtain⟨t,s1,C, -⟩:=kB O aD i S;rw[ea qb,ef f,E]at l
  simp only[C]at l;refine OT (.inr f) h A (λG P k=>k.cell u n0) n1 Q hB λG P m1 N K j=>?_
  rw[ea qb,<-j]
  exact Lg HV O HB ae N i o (hn.kp K) E S hb hl aD C l
 .rw[ea qb,ea qb,ef f]at l
  have H:∀a∈n.y_,Hs.rk fs Uc z d a:=G_
  obtain⟨U,s1,hA, -, -⟩:=lQ O aD n.y_ _ H i;rw[hA]at l;cases l;obtain⟨kx,kc,J⟩:=ac.slice;rw[J]at n3;refine XX (vs:=U) f h A (λG P k=>⟨k.cell u n0,k.cell u n3⟩) n1 Q hB λG P m1 N K j=>?_
  rw[<-j];exact IP HV O N i o (by rw[<-J];exact ac.Dk.kp K) H (λa ha=>hl.tm ha) aD hl.len hA
 .exact p qb (by simp[nR,f,E,hv]) qb
 exact p qb (by simp[nR,f,E,S]) qb
end
section
variable {fs:List aC} {D g k d dd de:Nat} {e_:cY} {F G:bN} {w w0 w1 w2 W:aN} {m m1:DM} {s s0:aM} {nv lv u:aW} {x:bP} {a:aE}
def Px.Dd{b:Nat}(c:b∈m.rl)(i:Nat)(v:aW)(d:m1.rl=m.rl)(a:m1.rb=m.rb):Px F w m F (Tz w (aL b i) v) m1:=
 have q:Px F w m F (Tz w (aL b i) v) m:=.set c i v
 ⟨q.sub,q.new,q.uz,G_,q.os,q.tape,q.output,q.size,a⟩
def SA(a:aE):aK (dO a).1<=200:=by grind [dO,kH,bA,aY]
theorem Qh(l:bP):Ty (eD l)<=Ty l:=by
 have:∀f (l:bP),Ty (jH f l)<=f:=by
  intro f;induction f with
  |zero=>simp[jH]
  |succ f a=>grind [jH]
 exact this _ l
def G7(h:aK a<=200):dX (dO a).1:=by grind [QQ,dE,jJ,Qh,dO,bA,aY]
def y9(h:cP fs F w m s)(hv:LV de F w lv [a])(hc:aK a<=200):
 Ue prog 60 #[bF m.rb,Q_ (bs [108,101,110]),lv] w (sy fs F w m ((dO a).1,s.or (dO a).2)):=by
 obtain⟨e',L,ol,lc,N,kc,rfl,I,C,Y,l1,l2,V,A⟩:=LV.last (vs:=[]) hv;have M:=h.lt L C;have O:(bs [108,101,110]).toList=[108,101,110]:=aX _;have K:R_ w (eH w #[I_ 0,I_ 0,Q_ ⟨#[]⟩,bO] 130):=(by grind [ep,dz])
 have Q:=aB (TM F (.agg #[I_ a.c_,I_ a.n,Q_ (bs a.s),P_ N (Ty a.l) kc]) a _ ⟨_,_,aJ,A.h_ λx y=>K.block x (h.lt x y)⟩ aD)
 have B:=G7 hc;have H:=aB (dy h (dy B K));simp only[fq,h9,io,gu]at Y l1 l2 V I;generalize hr:dO a=r at*;go_in
 go_wp2_with fail;apply Q.mono
 rintro e j ⟨⟨u,rfl,J,aa,rfl,f⟩,o⟩;obtain⟨b,c,rfl⟩:=f.slice;have hbw :=H.2.2.trans (o.mono s_)
 obtain⟨E,X⟩:=H.1.fz (W:=eH w #[I_ 0,I_ 0,Q_ ⟨#[]⟩,bO] 130) (y:=H_ j) hbw s_
 have n:=f.mono (G:=λq=>F q\/((eH w #[I_ 0,I_ 0,Q_ ⟨#[]⟩,bO] 130).heap.size<=q/\q≠H_ j/\q<H_ j)) (λq p=>p.imp id λp=>⟨p.1,aD,p.2⟩) mJ
 have k:=(o.block (H_ w) s_).trans (bM w _ rfl)
 obtain⟨l,i⟩:=E.re ((dz _ j).alloc mJ (cD #[I_ r.1.c_,I_ r.1.n,Q_ (bs r.1.s),P_ b (Ty r.1.l) c] 130));have Z:=aB (qA l (show RV J _ _ (.agg #[I_ r.1.c_,I_ r.1.n,Q_ (bs r.1.s),P_ b (Ty r.1.l) c]) r.1 from ⟨_,aJ,n.kp (i.kp E)⟩) r.2)
 have D:=aH k;have t:=aB (dy l (dy (X.trans i) (dy (n.kp (i.kp E)) ((eh j (cD #[I_ r.1.c_,I_ r.1.n,Q_ (bs r.1.s),P_ b (Ty r.1.l) c] 130) _ D).trans k))));go_wp2_with fail;refine rf Z λw5 ⟨z,g⟩=>?_
 obtain⟨U,z0,T,S,z3,f0,f1,f2,f3⟩:=kR (g.i_ t.2.2.2 H.1.fresh);have P:=aB (sy.fin (d:=J) z (t.2.1.trans g) ⟨aD,H.1.fresh,λq=>q.elim (λq=>by have:=H.1.lt _ q;exact aD) λq=>by simp at q;exact aD⟩ ⟨_,rfl,t.2.2.1.kp (g.kp t.1)⟩ H.2.1 (λ_=>by rw[<-hr];exact SA a) s_)
 go_wp2
 exact bodyPost_ret (v:=.agg #[I_ r.1.c_,I_ r.1.n,Q_ (bs r.1.s),P_ b (Ty r.1.l) c]) (by simp[results,results60,go_sem,z0,T,S,z3]) rfl (P _ _ _ _)
def Gk(h:cP fs F w m s)(M:x≠[108,101,110])(G:x≠[114,101,97,100])(f:Ty s.f_=16)(z:∃y n c,lv=P_ y n c):
 Ue prog 60 #[bF m.rb,Q_ (bs x),lv] w (sy fs F w m (aY,s.or 5)):=by
 obtain⟨y,I,J,rfl⟩:=z;have g:(bs x).toList=x:=aX _;have O:(x==[108,101,110])=Uc:=G_
 have N:(x==[114,101,97,100])=Uc:=G_
 have k:R_ w (eH w #[I_ 0,I_ 0,Q_ ⟨#[]⟩,bO] 130):=(by grind [ep,dz])
 obtain⟨D,t⟩:=h.re k;obtain⟨P,T,e, -⟩:=h.uy.slice;have E:=(iA h.i_).2.2.2.2.1;rw[e,h.fr.length,f]at E;have A:=h.vw;have u:=aB (qA D (RV.nil 0 F _) 5);have H:=aB (dy h t);go_in
 go_wp2_with fail;refine rf u λp ⟨b,a⟩=>?_
 obtain⟨j,r⟩:=Px.zb H.1 a (bM w _ rfl);obtain⟨q,C,o,l,B,K,L,Q,S⟩:=kR j;have i:=aB (sy.fin (d:=0) b (H.2.trans a) r (RV.nil 0 F p) mC ((by grind [aM.or])) s_)
 go_wp2
 exact bodyPost_ret (v:=cK 0 0 []) (by simp[results,results60,go_sem,C,o,l,B]) rfl (i _ _ _ _)
def Rf(h:cP fs F w m s)(i:s.tape=[])(G:∃y n c,lv=P_ y n c):
 Ue prog 60 #[bF m.rb,Q_ (bs [114,101,97,100]),lv] w (sy fs F w m (aY,s.or 7)):=by
 obtain⟨y,M,N,rfl⟩:=G;have j:(bs [114,101,97,100]).toList=[114,101,97,100]:=aX _;have o:R_ w (eH w #[I_ 0,I_ 0,Q_ ⟨#[]⟩,bO] 130):=(by grind [ep,dz])
 obtain⟨t,S,L,b,z⟩:=h.tape
 obtain⟨V,P,f⟩:∃x c,m.tv=P_ x (Ty t) c:=by grind [mK]
 have g:m.rd=Ty t:=by rw[i]at b;have:=fg List.length b;grind
 obtain⟨-,B,D, -⟩:=iA h.i_;rw[f]at B;rw[g]at D;have I:=h.vw;have H0 :=λq=>nI o q
 have E:=aB λq=>qA (h.re (H0 q)).1 (RV.nil 0 F _) 7
 have H:=aB (dy h H0);go_in
 go_wp2_with fail;go_quiet (fail)
 go_wp2_with fail;refine rf (E nq) λu ⟨e,a⟩=>?_
 obtain⟨l,C⟩:=Px.zb H.1 a (bM w _ rfl);obtain⟨A,K,r,p,J,O,Q,T,U⟩:=kR l;have k:=aB (sy.fin (d:=0) e ((H.1.re (H.2 nq)).2.trans a) C (RV.nil 0 F u) mC ((by grind [aM.or])) s_)
 go_wp2
 exact bodyPost_ret (v:=cK 0 0 []) (by simp[results,results60,go_sem,K,r,p,J]) rfl (k _ _ _ _)
def Rj(h:cP fs F w m s){i:Int}{V:List Int}(ht:s.tape=i::V)(hl:∃y n c,lv=P_ y n c):
 Ue prog 60 #[bF m.rb,Q_ (bs [114,101,97,100]),lv] w (sy fs F w m (bA i,{ s with tape:=V })):=by
 obtain⟨y,yn,yc,rfl⟩:=hl;have ab:(bs [114,101,97,100]).toList=[114,101,97,100]:=aX _;obtain⟨t,hT,ad,x,ae⟩:=h.tape;rw[ht]at x;have l:m.rd<Ty t:=G_
 rw[iw l]at x;obtain⟨hi,af⟩:=List.cons.inj x;rcases hT with ⟨rfl, -⟩|⟨g,o,c,D,hc,L,p⟩
 .simp at l
 obtain⟨J,aa,T⟩:=p _ l;rw[hi]at J aa T;obtain⟨-,c1,c2, -, -, -, -,fz⟩:=iA h.i_;have Q:=fz 2;rw[D]at c1;have ac:=h.vw;have A:=h.lt g L
 have N:∀e:aN,R_ w e->Hid (cP fs F (Tz e (aL m.rb 2) (I_ ((m.rd:Int)+1))) { m with rd:=m.rd+1 } { s with tape:=V }/\Px F w m F (Tz e (aL m.rb 2) (I_ ((m.rd:Int)+1))) { m with rd:=m.rd+1 }):=λe hb=>by obtain⟨I,q2⟩:=h.re hb;exact⟨I.Ey (nj) s_ (aP I.i_) (by grind [List.drop_eq_getElem_cons]),q2.trans (Px.Dd DM.wg _ _ rfl rfl)⟩
 have G:=aB N;have H:=aB h;have O:=aB D;have e4:IntKind.i64.wrap (m.rd:Int)=(m.rd:Int):=by rw[IntKind.wrap_i64];exact aD
 go_in
 go_wp2_with fail;go_quiet (fail)
 go_wp2_with fail;have E:R_ w ((eH w #[I_ 0,I_ 0,Q_ ⟨#[]⟩,bO] 130).drewN nq):=(by grind [nI,ep,dz])
 obtain⟨W,X⟩:∃W,W=Tz ((eH w #[I_ 0,I_ 0,Q_ ⟨#[]⟩,bO] 130).drewN nq) (aL m.rb 2) (I_ ((m.rd:Int)+1)):=(by simp)
 have k:=G _ E;rw[<-X]at k ⊢
 have U:W.heap[H_ w]?=Ua (cD #[I_ 0,I_ 0,Q_ ⟨#[]⟩,bO] 130):=by rw[X];exact(em _ _ _ _ G_).trans (bM w _ rfl)
 have C1:=(iA k.1.i_).2.1;have M:=(iA k.1.i_).2.2.1;rw[show ({ m with rd:=m.rd+1 }:DM).rb=m.rb from rfl]at C1 M
 have CI :=(World.cell?_of_block ((k.2.uz g A λq=>H.nf _ q ‹F g›))).trans J
 obtain⟨z,z0,z1,z2,z3,f0,f1,f2,f3⟩:=kR U;have f:=k.1.vw;rw[show ({ m with rd:=m.rd+1 }:DM).rb=m.rb from rfl]at f
 have hglW :=ej A k.2.size
 obtain⟨S,hS,P⟩:∃S:World->Prop,S=(λe=>dP e m.rb 1 (P_ (Ua (aL g o)) (Ty t) c)/\dP e m.rb 2 (I_ ((m.rd:Int)+1))/\dP e g (o+m.rd) (I_ i))/\Hid (∀e,(∀b,b<H_ W->b≠H_ w->e.heap[b]?=W.heap[b]?)->S e):=⟨_,rfl,λe q=>
  ⟨(World.cell?_of_block (q _ f aD)).trans (by rw[C1,O]),(World.cell?_of_block (q _ f aD)).trans M,(World.cell?_of_block (q _ hglW aD)).trans CI⟩⟩
 have HZ:=aB U;clear X E C1 M CI U G c1 c2 J Q;refine wp_region_held_drew (S:=S) k_ (P _ λ_ _ _=>rfl) (λr=>?_)
 subst hS;refine eU 0 ?_;refine eU 1 ?_;refine eU 2 ?_;refine eU 3 ?_;refine eU 4 ?_;refine eU 5 ?_;refine eU 6 ?_;refine eU 7 ?_;refine eU 8 ?_;refine eU 9 ?_;refine eU 10 ?_;refine sN 11 (λK Z=>?_)
 go_simp;go_at_call 108
 refine rf (iK _ _) λw5 j=>?_
 obtain⟨-,y0,y1,y2,y3,g0,g1,g2,g3⟩:=kR (w:=w5) (b:=H_ w) (by rw[j];exact(eh _ _ _ z).trans HZ)
 have B:∀b,b<H_ W->w5.heap[b]?=W.heap[b]?:=λb q=>by rw[j];exact eh _ _ _ q
 have u:R_ W w5:=by rw[j];exact(dz _ W).drew.alloc mJ _
 have C:=aB B;have Y:=aB u;have hzl5 :=ej z u.size;clear j B u z0 z1 z2 z3 f0 f1 f2 f3;go_wp2_with fail;refine Z.out _ _ (P _ λb q _=>C b q) (λr=>?_)
 refine sN 12 (λK Z=>?_)
 go_simp;refine Z.out _ _ (P _ λb q I=>(dF _ I _ _ _ _).trans (C b q)) (λ_=>?_)
 refine wpAnyH_done k_ ?_ _
 have hx:=k.1.re Y;have H5:=aB (sy.fin (d:=0) (a:=bA i) hx.1 (k.2.trans hx.2) ⟨aD,λq=>H.fresh q,λq=>by have:=H.lt _ q;exact aD⟩ (RV.num _ _ _ _) (.flat (by simp[bA];exact aD) rfl) (λ_=>by rw[kH rfl];simp[bA]) s_)
 go_wp2
 exact bodyPost_ret (v:=cK 0 i []) (by simp[results,results60,go_sem,y0,y1,y2,y3]) rfl (H5 _ _ _ _)
end
section
variable {fs:List aC} {D g k d dd de:Nat} {e_:cY} {F G:bN} {w w0 w1 w2 W:aN} {m m1:DM} {s s0:aM} {nv lv u:aW} {fs0:List (Nat × Value)} {p:Nat × Value} {fr:List iW} {f:iW}
theorem cP.push(h:cP fs F w m s)(D:w.grownBy w2 m.rv.ownBlock)(J:Own 1 160 C_ w2 u (m.fs++[p]))(d:u.ownBlock=m.rv.ownBlock\/u.ownBlock=Ua (H_ w))(i:yK F w p f)(O:∀b,b=p.1\/p.2.ownBlock=Ua b->b∉m.rl/\¬F b)(H:p.2.ownBlock≠Ua p.1):
 cP fs F (Tz w2 (aL m.rb 4) u) { m with rv:=u,fs:=m.fs++[p] } { s with f_:=s.f_++[f] }/\(∀b,b<H_ w->b∉m.rl->(Tz w2 (aL m.rb 4) u).heap[b]?=w.heap[b]?)/\(∀b∈({ m with rv:=u,fs:=m.fs++[p] }:DM).rl,b∈m.rl\/H_ w<=b\/b=p.1\/p.2.ownBlock=Ua b)/\w2.heap[m.rb]?=w.heap[m.rb]?/\Kx F w F (Tz w2 (aL m.rb 4) u):=by
 have o:=(ey.1 h.nd).1;obtain⟨L,Q,C,E,t,c,k⟩:=h.swap (A:=m.rb::ob m.ov) (row:=m.rv) (u:=u) (B:=ob m.mv++m.fs.flatMap λp=>p.1::ob p.2) (by simp[DM.rl]) s_ D d 4
 have r:({ m with rv:=u,fs:=m.fs++[p] }:DM).rl=(m.rb::ob m.ov++(ob u++(ob m.mv++m.fs.flatMap λp=>p.1::ob p.2)))++(p.1::ob p.2):=by simp[DM.rl]
 have y:∀b,b=p.1\/p.2.ownBlock=Ua b->b<H_ w:=λb q=>q.elim (λq=>q▸aH i.i_) (i.row.lt b)
 have M:∀b,b=p.1\/p.2.ownBlock=Ua b->(Tz w2 (aL m.rb 4) u).heap[b]?=w.heap[b]?:=(by grind)
 have g:∀b,b∈ob m.ov++(ob m.mv++m.fs.flatMap λp=>p.1::ob p.2)->(Tz w2 (aL m.rb 4) u).heap[b]?=w.heap[b]?:=λb q=>C b G_ G_
 have I:∀q∈m.fs,∀b,(b=q.1\/q.2.ownBlock=Ua b)->(Tz w2 (aL m.rb 4) u).heap[b]?=w.heap[b]?:=λq G b x=>g b (jb _ (jb _ (jo.2 nu)))
 obtain⟨e,n⟩:=h.vh;obtain⟨K,z,v⟩:=h.tape;have l:∀b∈p.1::ob p.2,b=p.1\/p.2.ownBlock=Ua b:=(by grind [ob])
 have N:∀b∈m.rb::ob m.ov++(ob u++(ob m.mv++m.fs.flatMap λp=>p.1::ob p.2)),b∈m.rl\/H_ w<=b:=(by grind)
 refine⟨⟨by rw[aP (k.trans h.i_)];rfl,⟨e,n.kp c.kp⟩,⟨K,z.kp c.kp,v⟩,h.out.h_ (nu) s_,J.h_ E s_,h.vo.h_ (nu) λ_ _ q=>q.kp c.kp,Each.snoc (h.fr.mono λq G f x=>x.kp c.kp (G_) G_) (i.kp c.kp (G_) G_),?_,λb q=>?_,λb j=>ej (h.lt b j) c.size,h.ol⟩,t,λb q=>?_,k,c⟩
 .rw[r,ja];refine⟨L,?_,λa P b j e=>?_⟩
  .grind [ob]
  grind
 .grind
 grind
theorem cP.pop(h:cP fs F w m s)(t:m.fs=fs0++[p])(H:s.f_=fr++[f]):
 ∃x c,m.rv=P_ x (Ty fs0+1) c/\Ty fs0+1<=c/\c<=maxLen/\cP fs F (Tz w (aL m.rb 4) (P_ x (Ty fs0) c)) { m with rv:=P_ x (Ty fs0) c,fs:=fs0 } { s with f_:=fr }/\Px F w m F (Tz w (aL m.rb 4) (P_ x (Ty fs0) c)) { m with rv:=P_ x (Ty fs0) c,fs:=fs0 }:=by
 obtain⟨I,N,l,G, -⟩:=h.last H;obtain⟨A,L⟩:=gd (l.symm.trans t) rfl;cases A;cases L;obtain⟨x,c,j,i,o,hcut⟩:=h.uy.cut (n:=fs0.length) (by simp[t])
 have g:Ty m.fs=Ty fs0+1:=G_
 rw[g]at j i;have C:m.fs.take (Ty fs0)=fs0:=G_
 rw[C]at hcut
 have J:∀b,(Value.slice x (Ty fs0) c).ownBlock=Ua b->m.rv.ownBlock=Ua b:=λb q=>by
  rw[j];cases x with
  |none=>simp[Value.ownBlock]at q
  |some a=>grind [Value.ownBlock]
 have v:∀b∈({ m with rv:=P_ x (Ty fs0) c,fs:=fs0 }:DM).rl,b∈m.rl:=(by grind [DM.rl,mG])
 have O:=ey.1 h.nd;have M:∀b,b≠m.rb->(Tz w (aL m.rb 4) (P_ x (Ty fs0) c)).heap[b]?=w.heap[b]?:=(by grind [em])
 have k:∀b,b∈ob m.ov++(ob m.rv++(ob m.mv++m.fs.flatMap λp=>p.1::ob p.2))->b≠m.rb:=(by grind)
 have d:Kp F w F (Tz w (aL m.rb 4) (P_ x (Ty fs0) c)):=⟨s_,(by grind [cP.nf,DM.wg])⟩
 have E:∀q∈fs0,∀b,(b=q.1\/q.2.ownBlock=Ua b)->b≠m.rb:=λq D b y=>k b (by
  have:b∈m.fs.flatMap (λp=>p.1::ob p.2):=(by grind [ob])
  grind)
 obtain⟨e,z⟩:=h.vh;obtain⟨K,r,B⟩:=h.tape;refine⟨x,c,j,i,o,⟨by rw[aP h.i_];rfl,⟨e,z.kp d⟩,⟨K,r.kp d,B⟩,h.out.h_ (nu) s_,hcut.h_ (nu) s_,h.vo.h_ (nu) λ_ _ q=>q.kp d,G.mono λq D f y=>y.kp d (G_) G_,?_,(by grind [cP.nf]),λb q=>by simp only[World.setCell,Array.size_modify];exact h.lt b q,h.ol⟩,⟨s_,G_,oa,G_,rfl,rfl,rfl,s_,rfl⟩⟩
 have u:=h.nd;have P:ob (Value.slice x (Ty fs0) c)=ob m.rv:=by rw[j];cases x<;>rfl
 unfold DM.rl at u ⊢
 rw[t,List.flatMap_append]at u;grind
end
