import Derived.Test.YtjhbbdpfkccohaaGreatDoorP20
import Derived.Test.YtjhbbdpfkccohaaGreatDoorP12
set_option linter.all false
set_option maxRecDepth 100000
set_option maxHeartbeats 4000000
open List renaming length->Ty
open Go.World renaming setCell->Tz,alloc->T6,cell?->T_
open Option renaming some->Ua
open Bool renaming false->Uc,true->Ud
open Go renaming Calls->Ue,Value->Uf
open Go.Proofs.Tryz renaming prog->Un
open Go.Value renaming agg->Us,tuple->Uu,bool->Uw
namespace Go.Proofs.YtjhbbdpfkccohaaGreatDoor
open Hs
open _root_.Go.Proofs.Tryz
open Go.RowKit
def DC(fs:List aC)(D g:Nat)(B:aC->aM->dZ (aE × Bool)):Prop:=
 ∀(k d dd de:Nat) (e_:cY) (F:bN) (w:aN) (m:DM) (s:aM) (nv lv:aW) (n:aC) (vs:List aE) (r:aE × aM),cP fs F w m s->Hs.rq k e_ s->Ty s.g_<=50000->eZ dd F w nv n->Hs.rk fs Uc e_ d n->jX n->
  LV de F w lv vs->(∀v∈vs,dX v/\aK v<=200)->Ty vs=Ty n.y_->k*(D+2)<=g->(n.op≠[48]/\n.op≠[115]/\n.op≠[98,111,111,108]/\n.op≠[110,97,109,101]/\n.op≠[124,124]/\n.op≠[38,38])->jQ fs B n vs s=Ua r->Ue Un 136 #[bF m.rb,nv,lv] w (sy fs F w m r)
section
variable {fs:List aC} {V:aC->aM->dZ aE} {B:aC->aM->dZ (aE × Bool)} {D g k d dd:Nat} {e_:cY} {F:bN} {w:aN} {m:DM} {s:aM} {nv:aW} {n:aC} {r:aE × aM}
theorem sy.flat{b:aN}{u:aW}{a:aE}(h:cP fs F w m s)(c:R_ w b)(f:RV 0 (λ_=>False) b u a)(d:dX a)(e:aK a<=200):sy fs F w m (a,s) (bY u) b:=
 ⟨u,F,m,rfl,⟨0,(by grind [RV.mono])⟩,d,λ_=>e,(h.re c).1,(h.re c).2,s_⟩
theorem kH{a:aE}(h:a.l=[]):aK a=1+Ty a.s:=by rw[dE,h];simp
theorem Z9(h:cP fs F w m s)(g:eZ dd F w nv n)(a:n.op=[115])(f:jX n):Ue Un 79 #[bF m.rb,nv] w (sy fs F w m (bQ n.x_,s)):=by
 obtain⟨o,k,q,i,rfl,l,b,e,r,t,j,d⟩:=g.cells;have c:(bs [115]).toList=[115]:=aX _;have H:=aB h;have p:=aB ((f 1).1.1 a).1;rw[a]at e;go_in
 go_wp2_with (go_at_call 131;refine oN (AP _ _) ?_)
 exact bodyPost_ret (v:=cK 2 0 n.x_) me rfl (sy.flat H ko (RV.str _ _ _ _) (DI _) (by grind [d7,kH,bQ]))
theorem MZ:∀(l:bP) (n k:Nat),dS n l=Ua k->n<=rA->k<=rA
 |[],n,k,h,a=>by cases h;exact a
 |c::l,n,k,h,a=>by
  unfold dS at h;split at h
  .cases h
  refine MZ l _ k h ?_;grind [UInt8.toNat_lt,rA]
theorem b8(h:cP fs F w m s)(r:eZ dd F w nv n)(f:n.op=[48])(q:jX n):Ue Un 79 #[bF m.rb,nv] w (sy fs F w m (bA (((dS 0 n.x_).getD 0:Nat):Int),s)):=by
 obtain⟨A,y,B,u,rfl,z,g,p,C,D,x,o⟩:=r.cells;have l:(bs [48]).toList=[48]:=aX _;obtain⟨b,e⟩:=(q 1).1.2 f;have H:=aB h;have a:=aB λj=>CV (bs n.x_) j (by rw[iT];exact aD) λk d=>b _ (jr (i:=k) (by grind [lV,jT]))
 rw[jT]at a;rw[f]at p;have t:=MZ n.x_ 0;cases c:dS 0 n.x_ with
 |none=>
  rw[c,show GO none=Uu #[I_ 0,Uw Uc]from rfl]at a
  go_in
  go_wp2_with (first|(go_at_call 130;refine oN (a _) ?_)|(go_at_call 108;refine oN (iK _ _) ?_))
  exact bodyPost_ret (v:=cK 0 0 []) me rfl (sy.flat H ko (RV.num _ _ _ _) (.flat (by simp[bA]) rfl) (by grind [kH,bA]))
 |some k=>
  have d:=t k c (Nat.zero_le _);unfold rA at d;rw[c,show GO (Ua k)=Uu #[I_ k,Uw Ud]from rfl]at a
  go_in
  go_wp2_with (first|(go_at_call 130;refine oN (a _) ?_)|(go_at_call 108;refine oN (iK _ _) ?_))
  exact bodyPost_ret (v:=cK 0 k []) me rfl (sy.flat H ko (RV.num _ _ _ _) ((by grind [dX.flat,bA])) (by grind [kH,bA]))
theorem ZU(h:cP fs F w m s)(d:eZ dd F w nv n)(c:n.op=[98,111,111,108]):Ue Un 79 #[bF m.rb,nv] w (sy fs F w m (cG (n.x_==[116,114,117,101]),s)):=by
 obtain⟨u,r,x,e,rfl,t,f,k,o,y,i,a⟩:=d.cells;have j:(bs [98,111,111,108]).toList=[98,111,111,108]:=aX _;have l:(bs n.x_).toList=n.x_:=aX _;have H:=aB h;rw[c]at k;clear h d a e o i c;have p:=aB λb g=>iI b g
 cases q:n.x_==[116,114,117,101]
 all_goals
  go_in
  go_wp2_with (go_at_call 132;refine oN (p _ _) ?_)
 .exact bodyPost_ret (v:=cK 1 0 []) me rfl (sy.flat H ko (RV.xd _ _ _ Uc) (xS _) (by grind [kH,cG]))
 exact bodyPost_ret (v:=cK 1 1 []) me rfl (sy.flat H ko (RV.xd _ _ _ Ud) (xS _) (by grind [kH,cG]))
theorem W9{l:List (bP × aE)}{x:bP}(h:x∈l.map (·.1)):jO l x<Ty l:=by grind [jO,List.findIdx?_eq_some_iff_getElem]
theorem ZT(h:cP fs F w m s)(y:Hs.rq k e_ s)(V:eZ dd F w nv n)(O:n.op=[110,97,109,101])(hx:n.x_∈e_):Ue Un 79 #[bF m.rb,nv] w (sy fs F w m ((s.g_[jO s.g_ n.x_]?.map (·.2)).getD aY,s)):=by
 obtain⟨d',M,kv,hd,rfl,hF,I,N,n1,S,n3,J⟩:=V.cells;obtain⟨fr,f,C,hv⟩:=y.names;have o:s.g_=f.g_:=by simp[aM.g_,C]
 have g:jO f.g_ n.x_<Ty f.g_:=W9 G_
 obtain⟨i,D⟩:∃i,i=jO f.g_ n.x_:=(by simp)
 rw[o,<-D];rw[<-D]at g;rw[fe g];have E:(bs [110,97,109,101]).toList=[110,97,109,101]:=aX _;rw[O]at N;have G:R_ w (eH w #[I_ 0,I_ 0,Q_ ⟨#[]⟩,bO] 130):=(by grind [ep,dz])
 obtain⟨ab,p,H, -, -⟩:=h.last C;have U:=aB (rQ (h.re G).1 H);have e:=aB (dy h (dy C (dy H (dy D G))));clear h y V O hx J hd n1 n3 hv o C G H D;go_in
 go_wp2_with fail;refine rf U λL ⟨q,u⟩=>?_
 have b:R_ w L:=by grind [nI,d7]
 obtain⟨ae,p1,B, -,a⟩:=(e.1.re b).1.last e.2.1;obtain⟨W,P⟩:=gd (B.symm.trans e.2.2.1) rfl;cases W;cases P;have T:L.heap[H_ w]?=Ua (cD #[I_ 0,I_ 0,Q_ ⟨#[]⟩,bO] 130):=by rw[u];exact bM w _ aJ
 obtain⟨z0,z1,z2,z3,t,Y⟩:=oW T;have ai:=t 0;have ac:=t 1;have aa:=t 2;have X:=t 3;have N2:dP L M 2 (Q_ (bs n.x_)):=(World.cell?_of_block (b.block M I)).trans S;obtain⟨gv,ag,c,l,⟨aj,rfl,⟨d2,j⟩,d,A⟩,z⟩:=a.row.cell g;have v1:=z 1 _ aJ;have v2:=z 2 _ aJ;have v3:=z 3 _ aJ;have v4:=z 4 _ aJ;have Z:=(nH a.i_).2.2.1;rw[l]at Z;obtain⟨lx,lc,rfl⟩:=j.slice;have K:Ty f.g_<=maxLen:=by obtain⟨x,cc, -,q1,q2⟩:=a.row.slice;exact aD
 unfold maxLen at K;have af:=a.row.lt gv (by rw[l];rfl)
 have Q:=aB (NO a n.x_);rw[<-e.2.2.2.1]at Q;have P:(0:Int)<=(i:Int):=aD;have e2:(i:Int)<(Ty f.g_:Int):=aD;have ad:=aH a.i_;have ah:H_ w≠p.1:=(by grind)
 have r:=aB (dy b (dy j (dy d A)));clear u b B a T t z l j d A U N S E;go_wp2_with (go_at_call 133;refine oN Q ?_)
 exact bodyPost_ret (v:=Us #[I_ f.g_[i].2.c_,I_ f.g_[i].2.n,Q_ (bs f.g_[i].2.s),.slice lx f.g_[i].2.l.length lc]) (by simp[results,results79,go_sem,z0,z1,z2,z3]) rfl (sy.fin (e.1.re r.1).1 (e.1.re r.1).2 ⟨aD,e.1.fresh,λq=>by have:=e.1.lt _ q;exact aD⟩ ⟨_,rfl,r.2.1⟩ r.2.2.1 (λ_=>r.2.2.2) (s_) _ _ _ _)
theorem TP{x y:aC}(Q:VC fs D g V)(I:pB fs D g V)(h:cP fs F w m s)(t:Hs.rq k e_ s)(f:Ty s.g_<=50000)(C:eZ dd F w nv n)(o:n.op=[124,124]\/n.op=[38,38])(z:n.y_=[x,y])(N:Hs.rk fs Uc e_ d x)(L:Hs.rk fs Uc e_ d y)(B:jX n)(Z:k*(D+2)+d<=g)(M:oG V (n.op==[124,124]) x y s=Ua r):
 Ue Un 79 #[bF m.rb,nv] w (sy fs F w m r):=by
 obtain⟨d',nb,kv,T,W,hF,X,n0,n1,n2,Y,A⟩:=C.cells;subst W;have J:R_ w (eH w #[I_ 0,I_ 0,Q_ ⟨#[]⟩,bO] 130):=(by grind [ep,dz])
 obtain⟨j,a⟩:=h.re J;have HC:=aB (E5 Q I j t f (C.kp (a.kp h)) z N L (B.tm pz) (B.tm pz) Z M)
 have H:=aB (dy h a);have h1:(bs [124,124]).toList=[124,124]:=aX _;have h2:(bs [38,38]).toList=[38,38]:=aX _;clear h C T A n1 n2 Y Q I t f N L B M j a J;rcases o with o|o
 all_goals
  rw[o]at n0;clear o;go_in
  go_wp2_with fail;apply HC.mono
  rintro e w1 ⟨u,G,m',rfl,⟨d1,lv,rfl,b⟩,O,S,P,l,K⟩;have E:=l.i_ (bM w _ aJ) H.1.fresh;have c:H_ w∉m'.rl:=λq=>(l.mu _ q).elim H.1.fresh s_
  have i:¬G (H_ w):=λq=>(l.new _ q).elim (λq=>by have:=H.1.lt _ q;exact aD) s_
  obtain⟨z0,z1,z2,z3,p,ab⟩:=oW E;have ac:=p 0;have ae:=p 1;have ad:=p 2;have aa:=p 3;obtain⟨lx,U,rfl⟩:=b.slice;have H1:=aB (sy.fin P (H.2.trans l) ⟨fi _,c,i⟩ ⟨_,aJ,b⟩ O S K);clear E c i p b O S P l K;go_wp2
  exact bodyPost_ret (v:=Us #[I_ r.1.c_,I_ r.1.n,Q_ (bs r.1.s),P_ lx (Ty r.1.l) U]) (by simp[results,results79,go_sem,z0,z1,z2,z3]) rfl (H1 _ _ _ _)
theorem ZS(HV:VC fs D g V)(HG:pB fs D g V)(HD:DC fs D g B)(h:cP fs F w m s)(j:Hs.rq k e_ s)(C:Ty s.g_<=50000)(hn:eZ dd F w nv n)(ho:n.op≠[48]/\n.op≠[115]/\n.op≠[98,111,111,108]/\n.op≠[110,97,109,101]/\n.op≠[124,124]/\n.op≠[38,38])(O:Hs.rk fs Uc e_ (d+1) n)(hx:∀a∈n.y_,Hs.rk fs Uc e_ d a)(Z:jX n)(hg:k*(D+2)+d<=g)
 (i:gR fs V B n s=Ua r):Ue Un 79 #[bF m.rb,nv] w (sy fs F w m r):=by
 obtain⟨d',nb,kv,hd,e0,hF,ao,n0,n1,n2,n3,A⟩:=hn.cells;subst e0;have ad:=aB ho;obtain⟨h1,h2,h3,h4,h5,h6⟩:=ho;obtain⟨vs,T,hA,b,t⟩:=lQ HG hg n.y_ s hx j;unfold gR at i;simp only[beq_iff_eq,h1,h2,h3,h4,h5,h6,if_false,Bool.or_eq_true,or_self,hA]at i;have hz:R_ w (eH w #[I_ 0,I_ 0,Q_ ⟨#[]⟩,bO] 130):=(by grind [ep,dz])
 obtain⟨U,E⟩:=h.re hz;obtain⟨kx,kc,rfl⟩:=A.slice;have HC:=aB (IP HV HG U j C (A.kp (E.kp h)).Dk hx (λa ha=>Z.tm ha) hg Z.len hA)
 have H:=aB (dy h (dy E (dy j (dy C (dy hn (dy O (dy Z (dy HD (dy b t)))))))));have HR:=aB i;have ai:(bs n.op).toList=n.op:=aX _;have o1:(n.op==[48])=Uc:=G_
 have o2:(n.op==[115])=Uc:=G_
 have o3:(n.op==[98,111,111,108])=Uc:=G_
 have o4:(n.op==[110,97,109,101])=Uc:=G_
 have o5:(n.op==[124,124])=Uc:=G_
 have o6:(n.op==[38,38])=Uc:=G_
 clear h hn hd A n1 n2 HV HG HD j C hx O Z i U E hz b t hA h1 h2 h3 h4 h5 h6;go_in
 go_wp2_with fail;apply HC.mono
 rintro e w1 ⟨u,G,m',rfl,⟨d1,p⟩,ha,hc,L,K,hf⟩;obtain⟨lx,lc,hu⟩:=p.slice;have hu:u=P_ lx (Ty vs) lc:=hu;subst hu;have y:=H.2.1.trans K;have Y:=K.i_ (bM w _ aJ) H.1.fresh;have l:H_ w∉m'.rl:=λq=>(K.mu _ q).elim H.1.fresh s_
 have o:¬G (H_ w):=λq=>(K.new _ q).elim (λq=>by have:=H.1.lt _ q;exact aD) s_
 obtain⟨z0,z1,z2,z3,I,ak⟩:=oW Y;have ah:=I 0;have af:=I 1;have ab:=I 2;have aa:=I 3;have c6:=(iA L.i_).2.2.2.2.2.2.1;rw[y.rb]at c6;have ae:=L.vw;rw[y.rb]at ae;have X:=aB (dy Y (dy l o));by_cases J:T.stop=0
 .have i:=HR.out;simp only[J,ne_eq,not_true_eq_false,if_false]at i;have b:=H.2.2.2.2.2.2.2.2.1;have M:Ty T.g_<=50000:=by grind [aM.g_,eC.go,d7]
  have HDn:=aB (H.2.2.2.2.2.2.2.1 k (d+1) dd d1 e_ G w1 m' T _ _ n vs r L (H.2.2.1.next b J) M (H.2.2.2.2.1.kp (y.kp H.1)) H.2.2.2.2.2.1 H.2.2.2.2.2.2.1 p (G_) (H.2.2.2.2.2.2.2.2.2 J) aD ad i)
  rw[y.rb]at HDn;have HP:=aB (dy y (hf J));have e2:((T.stop:Int) != 0)=Uc:=by simp[J]
  clear i b M p ha hc L K hf y Y l o I z0 z1 z2 z3 ah af ab aa HR HC;go_wp2_with fail;apply HDn.mono
  rintro e w2 ⟨u2,G2,m2,rfl,⟨d2,ap,rfl,f⟩,W,P,S,c,Q⟩;have x:H_ w∉m2.rl:=λq=>(c.mu _ q).elim X.2.1 aD
  have z:¬G2 (H_ w):=λq=>(c.new _ q).elim X.2.2 aD
  obtain⟨y0,y1,y2,y3,N,aq⟩:=oW (c.i_ X.1 X.2.1);have an:=N 0;have al:=N 1;have am:=N 2;have aj:=N 3;obtain⟨ag,ac,rfl⟩:=f.slice;have H2:=aB (sy.fin S (HP.1.trans c) ⟨fi _,x,z⟩ ⟨_,aJ,f⟩ W P λq=>(Q q).trans HP.2)
  clear f W P S c Q x z N;go_wp2
  exact bodyPost_ret (v:=Us #[I_ r.1.c_,I_ r.1.n,Q_ (bs r.1.s),P_ ag (Ty r.1.l) ac]) (by simp[results,results79,go_sem,y0,y1,y2,y3]) rfl (H2 _ _ _ _)
 have i:=HR.out;simp only[ne_eq,J,not_false_eq_true,if_true]at i;cases i;have e2:((T.stop:Int) != 0)=Ud:=G_
 have H1:=aB (sy.fin (d:=0) (a:=aY) (u:=cK 0 0 []) L y ⟨fi _,l,o⟩ (RV.nil _ _ _) mC (G_) aD)
 clear p ha hc L K hf y Y l o I HR HC;go_wp2
 exact bodyPost_ret (v:=cK 0 0 []) (by simp[results,results79,go_sem,z0,z1,z2,z3,cK];rfl) rfl (H1 _ _ _ _)
theorem b9(C:VC fs D g V)(A:pB fs D g V)(H:DC fs D g B):VC fs D (g+1) λn s=>gR fs V B n s:=by
 intro k d L z F w m s K n r h i p j u q J b;cases d with
 |zero=>exact u.elim
 |succ d=>
 have l:k*(D+2)+d<=g:=aD;have v:=u;have hrest :=λE I=>ZS C A H h i p j E v I q l b
 rcases u with ⟨a|a|a, -⟩|⟨a, -,G⟩|⟨a,c⟩|⟨a,x,y,c,f,o⟩|⟨a,x,c,f⟩|⟨a,c, -⟩|⟨a,x,y,c,f,o⟩
 .simp[gR,a]at b;subst b;exact b8 h j a q
 .simp[gR,a]at b;subst b;exact Z9 h j a q
 .simp[gR,a]at b;subst b;exact ZU h j a
 .simp[gR,a]at b;subst b;exact ZT h i j a G
 .exact hrest (by simp[a]) c
 .exact hrest (by simp[a]) G_
 .exact hrest G_ G_
 .exact hrest (by simp[a]) c
 by_cases t:n.op=[124,124]\/n.op=[38,38]
 .refine TP C A h i p j t c f o q l ?_;grind [gR]
 refine hrest ⟨?_,?_,?_,?_,G_,G_⟩ (by grind)<;>intro e<;>exact a (by rw[e];decide)
end
section
variable {fs:List aC} {B:aC->aM->dZ (aE × Bool)} {D g k d dd de:Nat} {e_:cY} {F:bN} {w:aN} {m:DM} {s:aM} {nv lv:aW} {n:aC} {vs:List aE} {r:aE × aM}
theorem NF:∀{l:List aE},(∀v∈l,aK v<=200)->(l.map aK).sum<=200*Ty l
 |[],_=>by simp
 |a::l,h=>by
  have:=NF (l:=l) G_
  grind
theorem JY{l:List aE}:aK (bG l)=1+(l.map aK).sum:=by rw[dE];rfl
theorem Gl(h:cP fs F w m s)(hn:eZ dd F w nv n)(ho:n.op=[108,105,115,116])(I:LV de F w lv vs)(E:∀v∈vs,dX v/\aK v<=200)(hl:Ty vs<=1000000):
 Ue Un 136 #[bF m.rb,nv,lv] w (sy fs F w m (bG vs,s.or (if 200<aK (bG vs)then 6 else 0))):=by
 obtain⟨d',nb,kv,hd,rfl,hF,af,n0,n1,n2,n3,T⟩:=hn.cells;obtain⟨j,k,rfl⟩:=I.slice;have aa:(bs [108,105,115,116]).toList=[108,105,115,116]:=aX _;rw[ho]at n0;have G:aK (bG vs)<=200000001:=by grind [JY,NF]
 have y:=h.lt;have HC:=aB λf (r:R_ w f)=>tW de F (Us #[I_ 3,I_ 0,Q_ (bs []),P_ j (Ty vs) k]) (bG vs) f (by grind [LV.h_,eg,RV,bG]) (λb q=>ej (y b q) r.size) aD
 have HO:=aB λf (r:R_ w f) (n:Nat)=>qA (h.re r).1 (show RV de F f (Us #[I_ 3,I_ 0,Q_ (bs []),P_ j (Ty vs) k]) (bG vs)from ⟨_,aJ,I.h_ λb q=>r.block b (y b q)⟩) n
 have H:=aB (dy h (dy I E));clear h hn hd T n1 n2 n3 ho I E y;obtain⟨C,u⟩:∃C,C=if 200<aK (bG vs)then 6 else 0:=(by simp)
 rw[<-u];have A:=aB u;clear u;go_in
 go_wp2_with (go_at_call 183;refine oN (CX _ _ _ _) ?_)
 refine rf (HC _ ko) λz l=>?_
 have t:R_ w z:=Below.trans ko (l.mono kj)
 have S:=((l.block (H_ w) kj).trans ((eh _ _ _ kj).trans ((eh _ _ _ s_).trans (bM w _ rfl))))
 have ZB:=aB S;obtain⟨z0,z1,z2,z3,D,ac⟩:=oW S;clear S;obtain⟨y0,y1,y2,y3,yf,ag⟩:=oW ((l.block (H_ w+1) s_).trans ((eh _ _ _ s_).trans (bM _ _ s_)))
 have i:=aB λn=>HO z t n
 have H1:=aB t;clear l t HO HC
 have o:∀p,cP fs F p m (s.or C)->Px F z m F p m->∀L J W O,sy fs F w m (bG vs,s.or C) (bY (Us #[I_ 3,I_ 0,Q_ (bs []),P_ j (Ty vs) k])) (Tz (Tz (Tz (Tz p (aL (H_ w) 0) L) (aL (H_ w) 1) J) (aL (H_ w) 2) W) (aL (H_ w) 3) O):=λp hR hp L J W O=>by
  have r:=H.1.re H1;refine sy.fin hR (r.2.trans hp) ⟨aD,H.1.fresh,λq=>by have:=H.1.lt _ q;exact aD⟩ (d:=de) ⟨_,rfl,H.2.1.kp ((r.2.trans hp).kp H.1)⟩ ((by grind [DJ,d7])) (λq=>?_) (s_) L J W O
  grind [d7,aM.or]
 have HFin:=aB o;have ah:=D 0;have ae:=D 1;have ad:=D 2;have ab:=D 3;have B:=A.out;clear o D yf;by_cases hc:200<aK (bG vs)
 .rw[ef hc]at B;have e1:(200:Int)<((aK (bG vs):Nat):Int):=aD;have x:Hid (Ue Un 107 #[bF m.rb,Us #[I_ 3,I_ 0,Q_ (bs []),P_ j (Ty vs) k],I_ 6] z λe f=>e=bY (Us #[I_ 3,I_ 0,Q_ (bs []),P_ j (Ty vs) k])/\cP fs F f m (s.or C)/\Px F z m F f m):=by rw[B];exact i 6
  clear B i A G;go_wp2_with fail;refine rf x λp ⟨c,a⟩=>?_
  obtain⟨M,Y,K,P,g,N⟩:=oW (a.i_ ZB H.1.fresh);have U:=g 0;have Z:=g 1;have Q:=g 2;have V:=g 3;have X:=aB (HFin p c a);clear c a g HFin;go_wp2
  exact bodyPost_ret (v:=Us #[I_ 3,I_ 0,Q_ (bs []),P_ j (Ty vs) k]) (by simp[results,results136,go_sem,M,Y,K,P]) rfl (X _ _ _ _)
 rw[ea hc]at B;have e1:¬(200:Int)<((aK (bG vs):Nat):Int):=aD;have x:Hid (Ue Un 107 #[bF m.rb,Us #[I_ 3,I_ 0,Q_ (bs []),P_ j (Ty vs) k],I_ 0] z λe f=>e=bY (Us #[I_ 3,I_ 0,Q_ (bs []),P_ j (Ty vs) k])/\cP fs F f m (s.or C)/\Px F z m F f m):=by rw[B];exact i 0
 clear B i A G;go_wp2_with fail;refine rf x λp ⟨c,a⟩=>?_
 obtain⟨M,Y,K,P,g,N⟩:=oW (a.i_ ZB H.1.fresh);have U:=g 0;have Z:=g 1;have Q:=g 2;have V:=g 3;have X:=aB (HFin p c a);clear c a g HFin;go_wp2
 exact bodyPost_ret (v:=Us #[I_ 3,I_ 0,Q_ (bs []),P_ j (Ty vs) k]) (by simp[results,results136,go_sem,M,Y,K,P]) rfl (X _ _ _ _)
end
section
variable {fs:List aC} {B:aC->aM->dZ (aE × Bool)} {D g k d dd de:Nat} {e_:cY} {F:bN} {w:aN} {m:DM} {s:aM} {nv lv:aW} {n:aC} {vs:List aE} {r:aE × aM}
theorem BZ:∀(f:Nat) (l x:bP),x∈jH f l->Ty x<=Ty l
 |0,_,_,h=>by simp[jH]at h
 |f+1,l,x,h=>by
  unfold jH at h;split at h
  .simp at h
  split at h
  .simp at h
  rcases ff.1 h with rfl|h
  .grind
  have:=BZ f _ x h;grind
theorem JX(a:aE):1<=aK a:=by rw[dE];exact aD
theorem YS(a b:aE)(_:dX a):aK (cA a b).1<=aK a:=by
 have d:aK aY<=aK a:=by exact JX a
 unfold cA;repeat' split
 .exact d
 .exact d
 rw[List.getD_eq_getElem?_getD];cases f:(kM a)[b.n.toNat]? with
 |none=>exact d
 |some x=>
  have:=jr f;unfold kM at this;split at this
  .obtain⟨c,e,rfl⟩:=ik.1 this;have:=BZ _ _ _ e;grind [dE,bQ]
  exact yC this
theorem cP.pair{W a:aN}(h:cP fs F w m s)(c:R_ w a){y:Nat}(p:H_ w<=y/\y<H_ W)(i f g d:aW):
 cP fs (Grow F W a) (Tz (Tz (Tz (Tz a (aL y 0) i) (aL y 1) f) (aL y 2) g) (aL y 3) d) m s/\Px F w m (Grow F W a) (Tz (Tz (Tz (Tz a (aL y 0) i) (aL y 1) f) (aL y 2) g) (aL y 3) d) m/\Kp (Grow F W a) a (Grow F W a) (Tz (Tz (Tz (Tz a (aL y 0) i) (aL y 1) f) (aL y 2) g) (aL y 3) d):=by
 have l:=c.size;have n:(Tz (Tz (Tz (Tz a (aL y 0) i) (aL y 1) f) (aL y 2) g) (aL y 3) d).heap.size=H_ a:=s_
 have o:∀b,Grow F W a b->b≠y:=λb q e=>q.elim (λq=>by have:=h.lt b q;exact aD) aD
 have k:Kp (Grow F W a) a (Grow F W a) (Tz (Tz (Tz (Tz a (aL y 0) i) (aL y 1) f) (aL y 2) g) (aL y 3) d):=⟨s_,(by grind [dF])⟩
 have j:Kp F w (Grow F W a) (Tz (Tz (Tz (Tz a (aL y 0) i) (aL y 1) f) (aL y 2) g) (aL y 3) d):=⟨λ_ q=>.inl q,λb q=>(k.h_ b (.inl q)).trans (c.block b (h.lt b q))⟩
 refine⟨h.kp j (λb q=>(dF a (by have:=h.xr b q;exact aD) i f g d).trans (c.block b (h.xr b q))) (λb q x=>x.elim (h.nf b q) λx=>by have:=h.xr b q;exact aD) λb q=>?_,⟨λ_ q=>.inl q,(by grind [Grow]),λb q _=>(dF a aD i f g d).trans (c.block b q),G_,c.os,c.tape,c.output,aD,rfl⟩,k⟩
 rw[n];exact q.elim (λq=>ej (h.lt b q) l) aD
theorem O8{a b:aE}(h:cP fs F w m s)(hn:eZ dd F w nv n)(ho:n.op=[105,110,100,101,120])(Q:LV de F w lv [a,b])(ha:dX a)(hb:dX b)(ag:aK a<=200)(_hcb:aK b<=200):
 Ue Un 136 #[bF m.rb,nv,lv] w (sy fs F w m ((cA a b).1,s.or (cA a b).2)):=by
 obtain⟨d',nb,kv,hd,rfl,hF,am,n0,n1,n2,n3,ao⟩:=hn.cells;obtain⟨lx,lc,rfl⟩:=Q.slice;obtain⟨e',g,o,kl,an,ak,T,V,O,l0,l1,l2,l3,z⟩:=Q.elem 0 s_
 obtain⟨e2,S,N,aj,ae,ab,ad,aa,af,j0,Y,j2,Z,B⟩:=Q.elem 1 s_
 subst T;obtain⟨e3, -⟩:(⟨g,o,none⟩:Addr)=(aL S N)/\True:=(by grind)
 cases e3;simp only[im,List.getElem_cons_succ,fk,fq,io,gu,Nat.one_mul]at l0 l1 l2 l3 j0 Y j2 Z z B V;obtain⟨ax,ac,rfl⟩:=z.slice;obtain⟨X,bc,rfl⟩:=B.slice;have K:=h.lt g O;have ah:(bs [105,110,100,101,120]).toList=[105,110,100,101,120]:=aX _;rw[ho]at n0;have t:=h.lt;have HI:=aB λk (q:R_ w k)=>ZP F (Us #[I_ a.c_,I_ a.n,Q_ (bs a.s),P_ ax (Ty a.l) ac]) (Us #[I_ b.c_,I_ b.n,Q_ (bs b.s),P_ X (Ty b.l) bc]) a b k ⟨_,_,aJ,z.h_ λx y=>q.block x (t x y)⟩ ⟨_,_,aJ,B.h_ λx y=>q.block x (t x y)⟩ (λx y=>ej (t x y) q.size) aD (ha.all 1).2.1
 have H:=aB (dy h (dy ha hb));have c:g≠w.heap.size+1:=aD;have L:=aB (dy l0 (dy l1 (dy l2 (dy l3 (dy j0 (dy Y (dy j2 Z)))))));go_in
 go_wp2_with fail;go_region_held3 (λk=>T_ k (aL g o)=Ua (I_ a.c_)/\T_ k (aL g (o+1))=Ua (I_ a.n)/\T_ k (aL g (o+2))=Ua (Q_ (bs a.s))/\T_ k (aL g (o+3))=Ua (P_ ax (Ty a.l) ac)/\T_ k (aL g (o+4))=Ua (I_ b.c_)/\T_ k (aL g (o+4+1))=Ua (I_ b.n)/\T_ k (aL g (o+4+2))=Ua (Q_ (bs b.s))/\T_ k (aL g (o+4+3))=Ua (P_ X (Ty b.l) bc)) (first|with_reducible exact⟨x0,x1,x2,x3,x4,x5,x6,x7⟩|with_reducible exact⟨(World.cell?_of_block (dF j c _ _ _ _)).trans x0,(World.cell?_of_block (dF j c _ _ _ _)).trans x1,(World.cell?_of_block (dF j c _ _ _ _)).trans x2,(World.cell?_of_block (dF j c _ _ _ _)).trans x3,(World.cell?_of_block (dF j c _ _ _ _)).trans x4,(World.cell?_of_block (dF j c _ _ _ _)).trans x5,(World.cell?_of_block (dF j c _ _ _ _)).trans x6,(World.cell?_of_block (dF j c _ _ _ _)).trans x7⟩|go_keep) (first|(go_at_call 185;refine(HI _ ko).mono ?_;rintro e j ⟨⟨u,rfl,d3,al,rfl,r⟩,A⟩;have D:R_ w j:=Below.trans ko (A.mono kj);have f:∀{i:Nat} {v:aW},T_ w (aL g i)=Ua v->T_ j (aL g i)=Ua v:=λq=>(World.cell?_of_block (D.block g K)).trans q;have x0:=f L.1;have x1:=f L.2.1;have x2:=f L.2.2.1;have x3:=f L.2.2.2.1;have x4:=f L.2.2.2.2.1;have x5:=f L.2.2.2.2.2.1;have x6:=f L.2.2.2.2.2.2.1;have x7:=f L.2.2.2.2.2.2.2;obtain⟨y0,y1,y2,y3,yf,ap⟩:=oW ((A.block (w.heap.size+1) s_).trans (bM _ _ s_));have zb:=(A.block w.heap.size kj).trans ((eh _ _ _ s_).trans (bM w _ rfl));have I:=aB (dy r (dy D zb));obtain⟨l,p,rfl⟩:=r.slice))
 all_goals
  obtain⟨E,J,G⟩:=H.1.pair (W:=(T6 (T6 w (cD #[I_ 0,I_ 0,Q_ ⟨#[]⟩,bO] 130)) (cD #[I_ 0,I_ 0,Q_ ⟨#[]⟩,bO] 130)).drew) I.2.1 (y:=w.heap.size+1) s_ (I_ (cA a b).1.c_) (I_ (cA a b).1.n) (Q_ (bs (cA a b).1.s)) (P_ l (cA a b).1.l.length p)
  have M:=(dF j (show w.heap.size≠w.heap.size+1 by omega) (I_ (cA a b).1.c_) (I_ (cA a b).1.n) (Q_ (bs (cA a b).1.s)) (P_ l (cA a b).1.l.length p)).trans I.2.2
  have HO:=aB (qA E (show RV d3 _ _ (Us #[I_ (cA a b).1.c_,I_ (cA a b).1.n,Q_ (bs (cA a b).1.s),P_ l (cA a b).1.l.length p]) (cA a b).1 from ⟨_,aJ,I.1.kp G⟩) (cA a b).2)
  have P:=aB (dy E (dy J (dy (I.1.kp G) M)));go_wp2_with fail;refine HO.mono ?_;rintro e w5 ⟨rfl,U,C⟩;obtain⟨z0,z1,z2,z3,zf,ai⟩:=oW (C.i_ P.2.2.2 H.1.fresh);have H5:=aB (sy.fin (d:=d3) U (P.2.1.trans C) ⟨aD,H.1.fresh,λq=>q.elim (G_) λq=>by simp at q;exact aD⟩ ⟨_,rfl,P.2.2.1.kp (C.kp P.1)⟩ (VS H.2.1) (λ_=>eo (YS a b H.2.1) aD) s_)
  go_wp2
  exact bodyPost_ret (v:=Us #[I_ (cA a b).1.c_,I_ (cA a b).1.n,Q_ (bs (cA a b).1.s),P_ l (cA a b).1.l.length p]) nh rfl (H5 _ _ _ _)
theorem Q4(c:bP)(a b:aE):aK (dJ c a b).1<=200:=by
 unfold dJ jE gA;repeat' (first|split|dsimp only;split)
 all_goals first|(rw[kH rfl];simp[aY,bA,cG];done)|(grind)
theorem O_{a b:aE}(h:cP fs F w m s)(hn:eZ dd F w nv n)(ho:n.op≠[108,105,115,116]/\n.op≠[99,97,108,108]/\n.op≠[105,110,100,101,120]/\n.op≠[45,120]/\n.op≠[33,120])(U:LV de F w lv [a,b])(ha:dX a)(hb:dX b)(ah:aK a<=200)(ap:aK b<=200):
 Ue Un 136 #[bF m.rb,nv,lv] w (sy fs F w m ((dJ n.op a b).1,s.or (dJ n.op a b).2)):=by
 obtain⟨d',J,kv,hd,rfl,hF,Q,n0,n1,n2,n3,ao⟩:=hn.cells;obtain⟨lx,lc,rfl⟩:=U.slice;obtain⟨e',g,o,kl,an,al,X,aa,T,l0,l1,l2,l3,z⟩:=U.elem 0 s_
 obtain⟨e2,V,S,ak,af,ad,ae,ab,ag,j0,j1,j2,j3,C⟩:=U.elem 1 s_
 subst X;obtain⟨e3, -⟩:(⟨g,o,none⟩:Addr)=(aL V S)/\True:=(by grind)
 cases e3;simp only[im,List.getElem_cons_succ,fk,fq,io,gu,Nat.one_mul]at l0 l1 l2 l3 j0 j1 j2 j3 z C aa;obtain⟨ax,ac,rfl⟩:=z.slice;obtain⟨bx,bc,rfl⟩:=C.slice;have M:=h.lt g T;have ai:(bs n.op).toList=n.op:=aX _;obtain⟨h1,h2,h3,h4,h5⟩:=ho;have o1:(n.op==[108,105,115,116])=Uc:=G_
 have o2:(n.op==[99,97,108,108])=Uc:=G_
 have o3:(n.op==[105,110,100,101,120])=Uc:=G_
 have o4:(n.op==[45,120])=Uc:=G_
 have o5:(n.op==[33,120])=Uc:=G_
 have Z:J≠w.heap.size+1:=aD;have N:=aB n0;have t:=h.lt;have HI:=aB λk (q:R_ w k)=>P1 n.op F (Us #[I_ a.c_,I_ a.n,Q_ (bs a.s),P_ ax (Ty a.l) ac]) (Us #[I_ b.c_,I_ b.n,Q_ (bs b.s),P_ bx (Ty b.l) bc]) a b k ⟨_,_,aJ,z.h_ λx y=>q.block x (t x y)⟩ ⟨_,_,aJ,C.h_ λx y=>q.block x (t x y)⟩ (λx y=>ej (t x y) q.size) aD aD ha.fit hb.fit
 have H:=aB (dy h (dy ha hb));have c:g≠w.heap.size+1:=aD;have L:=aB (dy l0 (dy l1 (dy l2 (dy l3 (dy j0 (dy j1 (dy j2 j3)))))));go_in
 go_wp2_with fail;go_region_held3 (λk=>T_ k (aL g o)=Ua (I_ a.c_)/\T_ k (aL g (o+1))=Ua (I_ a.n)/\T_ k (aL g (o+2))=Ua (Q_ (bs a.s))/\T_ k (aL g (o+3))=Ua (P_ ax (Ty a.l) ac)/\T_ k (aL g (o+4))=Ua (I_ b.c_)/\T_ k (aL g (o+4+1))=Ua (I_ b.n)/\T_ k (aL g (o+4+2))=Ua (Q_ (bs b.s))/\T_ k (aL g (o+4+3))=Ua (P_ bx (Ty b.l) bc)/\T_ k (aL J 0)=Ua (Q_ (bs n.op))) (first|with_reducible exact⟨x0,x1,x2,x3,x4,x5,x6,x7,x8⟩|with_reducible exact⟨(World.cell?_of_block (dF j c _ _ _ _)).trans x0,(World.cell?_of_block (dF j c _ _ _ _)).trans x1,(World.cell?_of_block (dF j c _ _ _ _)).trans x2,(World.cell?_of_block (dF j c _ _ _ _)).trans x3,(World.cell?_of_block (dF j c _ _ _ _)).trans x4,(World.cell?_of_block (dF j c _ _ _ _)).trans x5,(World.cell?_of_block (dF j c _ _ _ _)).trans x6,(World.cell?_of_block (dF j c _ _ _ _)).trans x7,(World.cell?_of_block (dF j Z _ _ _ _)).trans x8⟩|go_keep) (first|(go_at_call 187;refine(HI _ ko).mono ?_;rintro e j ⟨⟨u,rfl,d3,am,rfl,r⟩,A⟩;have B:R_ w j:=Below.trans ko (A.mono kj);have f:∀{i:Nat} {v:aW},T_ w (aL g i)=Ua v->T_ j (aL g i)=Ua v:=λq=>(World.cell?_of_block (B.block g M)).trans q;have x0:=f L.1;have x1:=f L.2.1;have x2:=f L.2.2.1;have x3:=f L.2.2.2.1;have x4:=f L.2.2.2.2.1;have x5:=f L.2.2.2.2.2.1;have x6:=f L.2.2.2.2.2.2.1;have x7:=f L.2.2.2.2.2.2.2;have x8:=(World.cell?_of_block (B.block J Q)).trans N;obtain⟨y0,y1,y2,y3,yf,aq⟩:=oW ((A.block (w.heap.size+1) s_).trans (bM _ _ s_));have zb:=(A.block w.heap.size kj).trans ((eh _ _ _ s_).trans (bM w _ rfl));have I:=aB (dy r (dy B zb));obtain⟨l,p,rfl⟩:=r.slice))
 all_goals
  obtain⟨E,K,G⟩:=H.1.pair (W:=(T6 (T6 w (cD #[I_ 0,I_ 0,Q_ ⟨#[]⟩,bO] 130)) (cD #[I_ 0,I_ 0,Q_ ⟨#[]⟩,bO] 130)).drew) I.2.1 (y:=w.heap.size+1) s_ (I_ (dJ n.op a b).1.c_) (I_ (dJ n.op a b).1.n) (Q_ (bs (dJ n.op a b).1.s)) (P_ l (dJ n.op a b).1.l.length p)
  have O:=(dF j (show w.heap.size≠w.heap.size+1 by omega) (I_ (dJ n.op a b).1.c_) (I_ (dJ n.op a b).1.n) (Q_ (bs (dJ n.op a b).1.s)) (P_ l (dJ n.op a b).1.l.length p)).trans I.2.2
  have HO:=aB (qA E (show RV d3 _ _ (Us #[I_ (dJ n.op a b).1.c_,I_ (dJ n.op a b).1.n,Q_ (bs (dJ n.op a b).1.s),P_ l (dJ n.op a b).1.l.length p]) (dJ n.op a b).1 from ⟨_,aJ,I.1.kp G⟩) (dJ n.op a b).2)
  have P:=aB (dy E (dy K (dy (I.1.kp G) O)));go_wp2_with fail;refine HO.mono ?_;rintro e w5 ⟨rfl,Y,D⟩;obtain⟨z0,z1,z2,z3,zf,aj⟩:=oW (D.i_ P.2.2.2 H.1.fresh);have H5:=aB (sy.fin (d:=d3) Y (P.2.1.trans D) ⟨aD,H.1.fresh,λq=>q.elim (G_) λq=>by simp at q;exact aD⟩ ⟨_,rfl,P.2.2.1.kp (D.kp P.1)⟩ (Fi H.2.1 H.2.2) (λ_=>Q4 n.op a b) s_)
  go_wp2
  exact bodyPost_ret (v:=Us #[I_ (dJ n.op a b).1.c_,I_ (dJ n.op a b).1.n,Q_ (bs (dJ n.op a b).1.s),P_ l (dJ n.op a b).1.l.length p]) nh rfl (H5 _ _ _ _)
theorem Sj(b:bP)(a:aE):aK (dI b a).1<=200:=by grind [dI,kH,aY,bA,cG]
theorem XW{a:aE}(h:cP fs F w m s)(hn:eZ dd F w nv n)(ho:n.op=[45,120]\/n.op=[33,120])(hv:LV de F w lv [a]):
 Ue Un 136 #[bF m.rb,nv,lv] w (sy fs F w m ((dI n.op a).1,s.or (dI n.op a).2)):=by
 obtain⟨d',D,kv,hd,rfl,hF,J,n0,n1,n2,n3,ah⟩:=hn.cells;obtain⟨lx,lc,rfl⟩:=hv.slice;obtain⟨e',f,B,kl,ag,ae,M,T,K,V,l1,l2,U,x⟩:=hv.elem 0 s_
 subst M;simp only[im,fk,fq,io,gu]at V l1 l2 U x T;obtain⟨ax,ac,rfl⟩:=x.slice;have G:=h.lt f K;have aa:(bs n.op).toList=n.op:=aX _;have S:D≠w.heap.size+1:=aD;have N:=aB n0;have ad:=h.lt;have HI:=aB λo (q:R_ w o)=>(Ib n.op e' F (Us #[I_ a.c_,I_ a.n,Q_ (bs a.s),P_ ax (Ty a.l) ac]) a o pt).mono λ_ _ q=>q.Qg
 have H:=aB h;have b:f≠w.heap.size+1:=aD;have L:=aB (dy V (dy l1 (dy l2 U)));have o1:(n.op==[108,105,115,116])=Uc:=G_
 have o2:(n.op==[99,97,108,108])=Uc:=G_
 have o3:(n.op==[105,110,100,101,120])=Uc:=G_
 have Q:(n.op==[45,120])=Ud\/(n.op==[45,120])=Uc/\(n.op==[33,120])=Ud:=G_
 rcases Q with Q|⟨Q,o5⟩
 all_goals
  go_in
  go_wp2_with fail;go_region_held3 (λo=>T_ o (aL f B)=Ua (I_ a.c_)/\T_ o (aL f (B+1))=Ua (I_ a.n)/\T_ o (aL f (B+2))=Ua (Q_ (bs a.s))/\T_ o (aL f (B+3))=Ua (P_ ax (Ty a.l) ac)/\T_ o (aL D 0)=Ua (Q_ (bs n.op))) (first|with_reducible exact⟨Z,x1,X,x3,Y⟩|with_reducible exact⟨(World.cell?_of_block (dF k b _ _ _ _)).trans Z,(World.cell?_of_block (dF k b _ _ _ _)).trans x1,(World.cell?_of_block (dF k b _ _ _ _)).trans X,(World.cell?_of_block (dF k b _ _ _ _)).trans x3,(World.cell?_of_block (dF k S _ _ _ _)).trans Y⟩|go_keep) (first|(go_at_call 186;refine(HI _ ko).mono ?_;rintro e k ⟨⟨u,rfl,d3,af,rfl,l⟩,p⟩;have r:R_ w k:=Below.trans ko (p.mono kj);have g:∀{i:Nat} {v:aW},T_ w (aL f i)=Ua v->T_ k (aL f i)=Ua v:=λq=>(World.cell?_of_block (r.block f G)).trans q;have Z:=g L.1;have x1:=g L.2.1;have X:=g L.2.2.1;have x3:=g L.2.2.2;have Y:=(World.cell?_of_block (r.block D J)).trans N;obtain⟨y0,y1,y2,y3,yf,ai⟩:=oW ((p.block (w.heap.size+1) s_).trans (bM _ _ s_));have zb:=(p.block w.heap.size kj).trans ((eh _ _ _ s_).trans (bM w _ rfl));have C:=aB (dy l (dy r zb));obtain⟨c,j,rfl⟩:=l.slice))
  all_goals
   obtain⟨z,E,A⟩:=H.pair (W:=(T6 (T6 w (cD #[I_ 0,I_ 0,Q_ ⟨#[]⟩,bO] 130)) (cD #[I_ 0,I_ 0,Q_ ⟨#[]⟩,bO] 130)).drew) C.2.1 (y:=w.heap.size+1) s_ (I_ (dI n.op a).1.c_) (I_ (dI n.op a).1.n) (Q_ (bs (dI n.op a).1.s)) (P_ c (dI n.op a).1.l.length j)
   have I:=(dF k (show w.heap.size≠w.heap.size+1 by omega) (I_ (dI n.op a).1.c_) (I_ (dI n.op a).1.n) (Q_ (bs (dI n.op a).1.s)) (P_ c (dI n.op a).1.l.length j)).trans C.2.2
   have HO:=aB (qA z (show RV d3 _ _ (Us #[I_ (dI n.op a).1.c_,I_ (dI n.op a).1.n,Q_ (bs (dI n.op a).1.s),P_ c (dI n.op a).1.l.length j]) (dI n.op a).1 from ⟨_,aJ,C.1.kp A⟩) (dI n.op a).2)
   have P:=aB (dy z (dy E (dy (C.1.kp A) I)));go_wp2_with fail;refine HO.mono ?_;rintro e w5 ⟨rfl,O,t⟩;obtain⟨z0,z1,z2,z3,zf,ab⟩:=oW (t.i_ P.2.2.2 H.fresh);have H5:=aB (sy.fin (d:=d3) O (P.2.1.trans t) ⟨aD,H.fresh,λq=>q.elim (G_) λq=>by simp at q;exact aD⟩ ⟨_,rfl,P.2.2.1.kp (t.kp P.1)⟩ Np (λ_=>Sj n.op a) s_)
   go_wp2
   exact bodyPost_ret (v:=Us #[I_ (dI n.op a).1.c_,I_ (dI n.op a).1.n,Q_ (bs (dI n.op a).1.s),P_ c (dI n.op a).1.l.length j]) nh rfl (H5 _ _ _ _)
end
def CC(fs:List aC)(D g:Nat)(B:aC->aM->dZ (aE × Bool)):Prop:=
 ∀(k de:Nat) (e_:cY) (F:bN) (w:aN) (m:DM) (s:aM) (lv:aW) (x:bP) (vs:List aE) (r:aE × aM),cP fs F w m s->Hs.rq k e_ s->LV de F w lv vs->(∀v∈vs,dX v/\aK v<=200)->Ty vs<=1000000->
  ((x=[108,101,110]/\Ty vs=1)\/x=[114,101,97,100]\/(x≠[108,101,110]/\x≠[114,101,97,100]/\gE fs (dV fs x)=Ua (Ty vs)))->k*(D+2)<=g->jV fs B x vs s=Ua r->Ue Un 60 #[bF m.rb,.string (bs x),lv] w (sy fs F w m r)
section
variable {fs:List aC} {B:aC->aM->dZ (aE × Bool)} {D g k d dd de:Nat} {e_:cY} {F:bN} {w:aN} {m:DM} {s:aM} {nv lv:aW} {n:aC} {vs:List aE} {r:aE × aM}
theorem Qp(h:cP fs F w m s)(t:eZ dd F w nv n)(p:n.op=[99,97,108,108])(x:LV de F w lv vs)
 (A:∀w',R_ w w'->Ue Un 60 #[bF m.rb,Q_ (bs n.x_),lv] w' (sy fs F w' m r)):
 Ue Un 136 #[bF m.rb,nv,lv] w (sy fs F w m r):=by
 obtain⟨d',nb,kv,B,rfl,hF,C,M,X,n2,D,k⟩:=t.cells;obtain⟨lx,Y,rfl⟩:=x.slice;have E:(bs [99,97,108,108]).toList=[99,97,108,108]:=aX _;rw[p]at M;have N:=aB A;have H:=aB h;clear h t B k X D p x A;go_in
 go_wp2_with fail;apply (N _ ko).mono
 rintro e Z ⟨u,G,U,rfl,⟨d1,S,rfl,a⟩,y,g,z,d,o⟩;have l:=d.i_ ((eh _ _ _ s_).trans (bM w _ rfl)) H.fresh
 have b:H_ w∉U.rl:=λq=>(d.mu _ q).elim H.fresh λq=>by simp at q;exact aD
 have c:¬G (H_ w):=λq=>(d.new _ q).elim (λq=>by have:=H.lt _ q;exact aD) λq=>by simp at q;exact aD
 obtain⟨V,J,I,T,f,L⟩:=oW l;have O:=f 0;have W:=f 1;have P:=f 2;have K:=f 3;obtain⟨i,j,rfl⟩:=a.slice;have Q:=aB (sy.fin z ((H.re ko).2.trans d) ⟨fi _,b,c⟩ ⟨_,rfl,a⟩ y g o)
 clear l b c f a y g z d o;go_wp2
 exact bodyPost_ret (v:=Us #[I_ r.1.c_,I_ r.1.n,Q_ (bs r.1.s),P_ i (Ty r.1.l) j]) (by simp[results,results136,go_sem,V,J,I,T]) rfl (Q _ _ _ _)
theorem Qu(J:CC fs D g B):DC fs D g B:=by
 intro k d Q M q F w m s P O n t r h z H p v L i j e I A f;have o:Ty t<=1000000:=by rw[e];exact L.len
 have u:∀x y,n.y_=[x,y]->∃a b,t=[a,b]:=λx y l=>by
  rw[l]at e;match t,e with
  |[a,b],_=>simp
 cases d with
 |zero=>exact v.elim
 |succ d=>
 unfold Hs.rk at v;rcases v with ⟨c, -⟩|⟨c, -, -⟩|⟨c,l⟩|⟨c,x,y,l, -, -⟩|⟨c,x,l, -⟩|⟨c, -,S⟩|⟨c,x,y,l, -, -⟩
 .grind
 .exact eu c G_
 .unfold jQ at f;simp only[c]at f;cases f;exact Gl h p c i j o
 .obtain⟨a,b,rfl⟩:=u x y l;simp[jQ,c]at f;subst f;exact O8 h p c i G_ G_ G_ G_
 .rw[l]at e;match t,e,i,j,f with
  |[a],_,i,j,f=>
   rcases c with c|c<;>simp[jQ,c]at f<;>subst f
   .have:=XW h p (.inl c) i;rwa [c]at this
   have:=XW h p (.inr c) i;rwa [c]at this
 .refine Qp h p c i λE G=>?_
  obtain⟨N,K⟩:=h.re G;refine J k M q F E m s O n.x_ t r N z (i.kp (K.kp h)) j o ?_ I ?_
  .grind
  grind [jQ]
 obtain⟨a,b,rfl⟩:=u x y l
 have C:n.op≠[108,105,115,116]/\n.op≠[99,97,108,108]/\n.op≠[105,110,100,101,120]/\n.op≠[45,120]/\n.op≠[33,120]:=by grind [cU]
 simp[jQ,C]at f;subst f;exact O_ h p C i G_ G_ G_ G_
end
section
variable {fs:List aC} {V:aC->aM->dZ aE} {B:aC->aM->dZ (aE × Bool)} {D g k d dd:Nat} {e_:cY} {F G:bN} {w w0 w1:aN} {m m1:DM} {s:aM} {nv:aW} {n:aC}
def Px.zb{Z:Obj}(h:cP fs F w m s)(a:Px F w0 m G w1 m1)(b:w0.heap[H_ w]?=Ua Z):w1.heap[H_ w]?=Ua Z/\H_ w<=H_ w/\H_ w∉m1.rl/\¬G (H_ w):=by
 have c:H_ w<H_ w0:=by grind
 exact⟨a.i_ b h.fresh,aD,λq=>(a.mu _ q).elim h.fresh aD,λq=>(a.new _ q).elim (λq=>by have:=h.lt _ q;exact aD) aD⟩
def Gs{s:aM}{a:aE}(h:s.stop≠0\/a.c_≠1):((s.stop:Int) != 0)=Ud\/((s.stop:Int) != 0)=Uc/\((a.c_:Int) != 1)=Ud:=by grind
def rq.vl{s a:aM}(f:eC s a)(e:a.stop=0)(h:Ty s.g_<=50000):Ty a.g_<=50000:=by grind [aM.g_,eC.go]
def PC(fs:List aC)(F:bN)(w:aN)(m:DM)(r:Bool × aM)(e:Ending)(w':aN):Prop:=e=bY (Uw r.1)/\yg fs F w m r.2 w'
def JZ(X:VC fs D g V)(O:pB fs D g V)(h:cP fs F w m s)(l:Hs.rq k e_ s)(q:Ty s.g_<=50000)(L:eZ dd F w nv n)(K:Hs.rk fs Uc e_ d n)(W:jX n)(B:k*(D+2)+d<=g){r:Bool × aM}(c:kF V n s=Ua r):
 Ue Un 258 #[bF m.rb,nv] w (PC fs F w m r):=by
 obtain⟨b,rfl⟩:=L.ptr;obtain⟨a,I,i, -⟩:=O k d e_ n s K l B;have S:=aB (X k d dd e_ F w m s _ n (a,I) h l q L K W B i);rw[kF,i]at c;have T:=aB c;go_in
 go_wp2_with fail;apply S.mono
 rintro e N ⟨u,G,J,rfl,⟨P,lv,rfl,o⟩, -, -,p,x,U⟩;obtain⟨C,A,rfl⟩:=o.slice;have Y:=(iA p.i_).2.2.2.2.2.2.1;have y:=p.vw;rw[x.rb]at Y y;obtain⟨f,j⟩:=p.re ((dz _ N).alloc mJ (cD #[I_ a.c_,I_ a.n,Q_ (bs a.s),P_ C (Ty a.l) A] 130));have E:=aB (qA f (show RV P G _ (Us #[I_ a.c_,I_ a.n,Q_ (bs a.s),P_ C (Ty a.l) A]) a from ⟨_,aJ,o.kp (j.kp p)⟩) 2)
 rw[x.rb]at E;have H:=aB (dy f (dy (x.trans j) U));have c:=T.out;by_cases t:I.stop≠0\/a.c_≠1
 .simp only[ef t]at c;cases c;rcases Gs t with Q|⟨Q,Z⟩
  all_goals
   go_wp2_with fail;refine rf E λw2 ⟨z,v⟩=>?_
   have M:=aB (dy z v);go_wp2
   go_ret;exact⟨aJ,G,J,M.1,H.2.1.trans M.2,(by grind [aM.or])⟩
 simp only[ea t]at c;cases c;go_wp2
 go_ret;exact⟨aJ,G,J,H⟩
def PB(fs:List aC)(F:bN)(w:aN)(m:DM)(r:(aE × Bool) × aM)(e:Ending)(w':aN):Prop:=∃u,e=bY (Uu #[u,Uw r.1.2])/\sy fs F w m (r.1.1,r.2) (bY u) w'
def BC(fs:List aC)(D g:Nat)(B:aC->aM->dZ (aE × Bool)):Prop:=
 ∀(k d dd:Nat) (e_:cY) (F:bN) (w:aN) (m:DM) (s:aM) (nv:aW) (b:aC) (r:(aE × Bool) × aM),cP fs F w m s->Hs.rq k e_ s->Ty s.g_<=50000->eZ dd F w nv b->Hs.rp (cO fs d) e_ b.y_->jX b->k*(D+2)+d+1<=g->B b s=Ua r->
  Ue Un 109 #[bF m.rb,nv] w (PB fs F w m r)
def PB.Ay{G:bN}{e:aN}{a:DM}{c:aM}(l:cP fs G e a c)(j:Px F w m G e a)(n:H_ w<=H_ w/\H_ w∉a.rl/\¬G (H_ w))(k:c.stop=0->a.fs.map (·.1)=m.fs.map (·.1))(b:Bool)(i h g f:aW):
 PB fs F w m ((aY,b),c) (bY (Uu #[cK 0 0 [],Uw b])) (Tz (Tz (Tz (Tz e (aL (H_ w) 0) i) (aL (H_ w) 1) h) (aL (H_ w) 2) g) (aL (H_ w) 3) f):=
 ⟨_,rfl,sy.fin (d:=0) l j n (RV.nil _ _ _) mC ((by grind [kH,aY])) k i h g f⟩
def PB.out{w2:aN}{r:(aE × Bool) × aM}{u:aW}(s:Px F w m G w1 m1)(A:w.heap.size<=w.heap.size/\w.heap.size∉m1.rl/\¬G w.heap.size)(J:m1.fs.map (·.1)=m.fs.map (·.1))(x:w1.heap[w.heap.size]?=Ua (.cells #[I_ 0,I_ 0,.string ⟨#[]⟩,bO] 130))(y:PB fs G w1 m1 r (bY u) w2):
 ∃(a:aE) (q:Option Addr) (p:Nat) (d:bN) (b:DM),u=Uu #[Us #[I_ a.c_,I_ a.n,.string (bs a.s),.slice q (Ty a.l) p],Uw r.1.2]/\w2.heap[w.heap.size]?=Ua (.cells #[I_ 0,I_ 0,.string ⟨#[]⟩,bO] 130)/\Hid (cP fs d w2 b r.2/\Px F w m d w2 b/\(w.heap.size<=w.heap.size/\w.heap.size∉b.rl/\¬d w.heap.size)/\(r.2.stop=0->b.fs.map (·.1)=m.fs.map (·.1)))/\
  Hid (∀k i j h n,Below (Tz (Tz (Tz (Tz w2 (aL w.heap.size 0) k) (aL w.heap.size 1) i) (aL w.heap.size 2) j) (aL w.heap.size 3) h).heap.size (Tz (Tz (Tz (Tz w2 (aL w.heap.size 0) k) (aL w.heap.size 1) i) (aL w.heap.size 2) j) (aL w.heap.size 3) h) n->PB fs F w m r (bY u) n):=by
 obtain⟨I,C,v,d,b,D,⟨H,K,rfl,f⟩,E,o,g,c,B⟩:=y;cases C;cases D;obtain⟨q,p,rfl⟩:=f.slice;obtain⟨-,l,z⟩:=A;have e:w.heap.size<=w.heap.size/\w.heap.size∉b.rl/\¬d w.heap.size:=(by grind [Px.mu,Px.new])
 refine⟨_,_,_,d,b,aJ,c.i_ x l,⟨g,s.trans c,e,G_⟩,λk i j h n t=>⟨_,rfl,(sy.fin g (s.trans c) e ⟨_,rfl,f⟩ E o (G_) k i j h).more t⟩⟩
def eZ.part(h:eZ dd F w nv n)(u:n.y_≠[]):∃g c d a,nv=bF c/\F c/\F d/\Ty n.y_<=a/\dP w c 1 (I_ n.l_)/\dP w c 3 (P_ (Ua (aL d 0)) (Ty n.y_) a)/\∀i (q:i<Ty n.y_),∃b,dP w d i (bF b)/\eZ g F w (bF b) n.y_[i]:=by
 obtain⟨g,c,x,s,rfl,o,l,v,r,y,m,f⟩:=h.cells;rcases f.get with ⟨-,t⟩|⟨d,a,rfl,j,p,e,k⟩
 .grind
 refine⟨g,c,d,a,aJ,o,j,e,r,m,λi q=>?_⟩
 grind [eZ.ptr]
def Kp.cell(h:Kp F w G w1){b i:Nat}{v:aW}(q:F b)(e:T_ w (aL b i)=Ua v):T_ w1 (aL b i)=Ua v:=(World.cell?_of_block (h.h_ _ q)).trans e
def Kp.lt(_h:Kp F w G w1)(a:∀b,G b->b<w1.heap.size){b:Nat}(q:F b):b<w1.heap.size:=a b (_h.sub b q)
def TB{Z_:Prop}(Y_:Z_:=by
 go_wp2_with fail;apply HQ.mono
 intro e w2 hq;obtain⟨u,rfl⟩:∃u,e=bY u:=by obtain⟨u,he, -⟩:=hq;grind
 obtain⟨a,lx,lc,G2,m2,rfl,zb2, -,HF⟩:=PB.out H1.2.1 aD (G_) aD hq
 obtain⟨hzl2,y0,y1,y2,y3,g0,g1,g2,g3⟩:=kR zb2;go_wp2
 exact bodyPost_ret (v:=Uu #[Us #[I_ a.c_,I_ a.n,Q_ (bs a.s),P_ lx (Ty a.l) lc],Uw r.1.2]) (by simp[results,results219,go_sem,y0,y1,y2,y3]) rfl (HF _ _ _ _ _ (dz _ _))):Z_:=Y_
def YN(HV:VC fs D g V)(HG:pB fs D g V)(HB:BC fs D g B)(h:cP fs F w m s)(o:Hs.rq k e_ s)(L:Ty s.g_<=50000)(hn:eZ dd F w nv n){c t:aC}{x:List aC}(N:n.y_=c::t::x)(af:Ty x<=1)(hx:Hs.rk fs Uc e_ d c)(ht:∀y∈t::x,Hs.rp (cO fs d) e_ y.y_)(hl:jX n)(hg:k*(D+2)+d+1<=g){b:Bool}{a:aM}(hc:kF V c s=Ua (b,a)){r:(aE × Bool) × aM}
 (i:(if a.stop≠0 then Ua ((aY,Uc),a)else if b then B t a else match (generalizing:=false) x with|[y]=>B y a|_=>Ua ((aY,Uc),a))=Ua r):
 Ue Un 219 #[bF m.rb,nv] w (PB fs F w m r):=by
 obtain⟨Y,nb,gq,ae,rfl,I,C,A, -,n3,f⟩:=hn.part (by simp[N])
 have J:=h.lt;have ag:=J nb I;have ac:=J gq C;have j:Ty n.y_=Ty x+1+1:=G_
 obtain⟨b0,k0,r0⟩:=f 0 aD;obtain⟨b1,k1,r1⟩:=f 1 aD;have e0:n.y_[0]'aD=c:=by simp[N]
 have e1:n.y_[1]'aD=t:=by simp[N]
 rw[e0]at r0;rw[e1]at r1;obtain⟨c',ad,W,P⟩:=kB HG aD o hx;cases hc.symm.trans W;obtain⟨aa,M⟩:=h.re ((dz _ w).alloc mJ (cD #[I_ 0,I_ 0,Q_ ⟨#[]⟩,bO] 130));have HC:=aB (JZ HV HG aa o L (r0.kp (M.kp h)) hx (hl.tm (by simp[N])) aD hc)
 have U:∀y∈t::x,jX y:=(by grind [jX.tm])
 have hX:∀(_:Ty x=1),∃u,dP w gq 2 (bF u)/\eZ Y F w (bF u) (x.headD t):=λq=>by
  obtain⟨u,S,r2⟩:=f 2 aD;refine⟨u,S,?_⟩;have e:∀(x:List aC) (h:2<Ty (c::t::x)),(c::t::x)[2]=x.headD t:=λx h=>by cases x<;>simp at h ⊢
  grind
 have z:=aB (dy h (dy M (dy o (dy L (dy P (dy HB (dy ht (dy U (dy r1 hX)))))))));have HR:=aB i;have O:=aB (dy I (dy C (dy n3 k1)));rw[j]at n3 A;go_in
 go_wp2_with fail;refine rf HC λw1 ⟨G,m1,hR,hp,hf⟩=>?_
 have Z:=z.2.1.trans hp;have p:=Z.kp z.1;obtain⟨zb,hz⟩:=Px.zb z.1 hp (bM w _ rfl);obtain⟨ab,z0,z1,z2,z3,f0,f1,f2,f3⟩:=kR zb;have c6:=(iA hR.i_).2.2.2.2.2.2.1;have X:=hR.vw;rw[Z.rb]at c6 X;have N3:=p.cell O.1 O.2.2.1;have K1:=p.cell O.2.1 aD;rw[j]at N3;have i:=HR.out;have H1:=aB (dy hR (dy Z (dy hf (dy p (dy hz zb)))));by_cases E:a.stop=0
 .rw[ea (by simp[E])]at i
  have e2:((a.stop:Int) != 0)=Uc:=by simp[E]
  have K:=z.2.2.1.next aD E
  have T:=rq.vl aD E aD
  have H:∀bb y,y∈t::x->eZ Y F w (bF bb) y->B y a=Ua r->Ue Un 109 #[bF m.rb,bF bb] w1 (PB fs G w1 m1 r):=λbb y hy q1 q2=>by
   have:=z.2.2.2.2.2.1 k d Y e_ G w1 m1 a _ y r H1.1 K T (q1.kp aD) (G_) (G_) hg q2
   rwa [H1.2.1.rb]at this
  have HBl:=aB H;cases b with
  |true=>
   have HQ:=aB (HBl b1 t s_ aD i)
   exact TB
  |false=>
   by_cases l:Ty x=1
   .obtain⟨u,S,r2⟩:=z.2.2.2.2.2.2.2.2.2 l
    have Q:B (x.headD t) a=Ua r:=by
     match x,l,i with
     |[y],_,i=>exact i
    have K2:=H1.2.2.2.1.cell O.2.1 S;have HQ:=aB (HBl u (x.headD t) (by match x,l with|[y],_=>simp) r2 Q)
    exact TB
   obtain rfl:x=[]:=kf.1 aD;cases i;have HF:=aB (PB.Ay H1.1 H1.2.1 H1.2.2.2.2.1 H1.2.2.1 Uc);go_wp2
   exact bodyPost_ret (v:=Uu #[cK 0 0 [],Uw Uc]) oy rfl (HF _ _ _ _)
 rw[ef E]at i;cases i;have HF:=aB (PB.Ay H1.1 H1.2.1 H1.2.2.2.2.1 H1.2.2.1 Uc);go_wp2
 exact bodyPost_ret (v:=Uu #[cK 0 0 [],Uw Uc]) oy rfl (HF _ _ _ _)
end
section
variable {fs:List aC} {V:aC->aM->dZ aE} {B:aC->aM->dZ (aE × Bool)} {D g k d dd:Nat} {e_:cY} {F G:bN} {w w0 w1:aN} {m m1:DM} {s:aM} {nv:aW} {n:aC}
theorem rq.len(h:Hs.rq k e_ s):Ty s.g_=Ty e_:=by obtain⟨c,f,b,a⟩:=h.names;have:=fg List.length a;grind [aM.g_]
def OY(h:cP fs F w m s)(a:Hs.rq k e_ s)(c:Ty e_<=50000)(n:Nat):Ue Un 218 #[bF m.rb,I_ n] w λe w'=>e=bY (Uw (decide ((s.q_ n).stop=0)))/\yg fs F w m (s.q_ n) w':=by obtain⟨d,f,b, -⟩:=a.names;exact UV h b n (by have:=a.deep;exact aD) a.rm (by have:=h.ol;exact aD) (by rw[rq.len a];exact aD)
structure Cu(fs:List aC)(V:aC->aM->dZ aE)(B:aC->aM->dZ (aE × Bool))(n c b:aC)(k:Nat)(e_:cY)(F:bN)(w:aN)(m:DM)(r:(aE × Bool) × aM)(j:Nat)(t:Bool)(wr:aN)(G:bN)(m1:DM)(s1:aM):Prop where
 run:cP fs G wr m1 s1
 px:Px F w m G wr m1
 zb:wr.heap[w.heap.size]?=Ua (.cells #[I_ 0,I_ 0,.string ⟨#[]⟩,bO] 130)
 hz:w.heap.size<=w.heap.size/\w.heap.size∉m1.rl/\¬G w.heap.size
 ok:s1.stop=0->Hs.rq k e_ s1/\m1.fs.map (·.1)=m.fs.map (·.1)
 lp:iL V B n c b j t s1=Ua r
def Lg(HV:VC fs D g V)(HG:pB fs D g V)(HB:BC fs D g B)(aq:vM fs D g B)(h:cP fs F w m s)(X:Hs.rq k e_ s)(ba:Ty s.g_<=50000)(hn:eZ dd F w nv n){c b:aC}(hk:n.y_=[c,b])(hx:Hs.rk fs Uc e_ d c)(ht:Hs.rp (cO fs d) e_ b.y_)(o:jX n)(hg:k*(D+2)+d+1<=g){t:Bool}{i:aM}(hc:kF V c s=Ua (t,i)){r:(aE × Bool) × aM}(hr:iL V B n c b 1000 t i=Ua r):
 Ue Un 220 #[bF m.rb,nv] w (PB fs F w m r):=by
 obtain⟨d',nb,gq,bp,rfl,ak,ag,ad,n1,n3,W⟩:=hn.part (by simp[hk])
 have aa:Ty e_<=50000:=by grind [rq.len]
 have am:=h.lt;have bq:=am nb ak;have bj:=am gq ag;obtain⟨b0,k0,r0⟩:=W 0 (by simp[hk])
 obtain⟨b1,k1,r1⟩:=W 1 (by simp[hk])
 simp only[hk,im,List.getElem_cons_succ,fk,fq]at r0 r1 n3 ad;obtain⟨t',bl,ar,ao⟩:=kB HG aD X hx;cases hc.symm.trans ar;obtain⟨bc,an⟩:=h.re ((dz _ w).alloc mJ (cD #[I_ 0,I_ 0,Q_ ⟨#[]⟩,bO] 130));have aj:jX c:=o.tm (by simp[hk])
 have bf:jX b:=o.tm (by simp[hk])
 have HC:=aB (JZ HV HG bc X ba (r0.kp (an.kp h)) hx aj aD hc);have HCn:=aB λG U L i (k1:Kp F w G U) (q:cP fs G U L i) (q1:Hs.rq k e_ i) r (q2:kF V c i=Ua r)=>JZ HV HG q q1 (by rw[rq.len q1];exact aa) (r0.kp k1) hx aj aD q2
 have HBn:=aB λG U L i (k1:Kp F w G U) (q:cP fs G U L i) (q1:Hs.rq k e_ i) r (q2:B b i=Ua r)=>HB k d d' e_ G U L i _ b r q q1 (by rw[rq.len q1];exact aa) (r1.kp k1) ht bf hg q2
 have HGn:=aB λi (q:Hs.rq k e_ i)=>dy (aq k d e_ b i ht q hg) λn=>λh0=>rF q (n:=n) h0
 have HGc:=aB λi (q:Hs.rq k e_ i)=>kB HG aD q hx
 have HH:=aB (dy h (dy an (dy X ao)));have HR:=aB hr;have P:=aB (dy ak (dy ag (dy n1 (dy n3 (dy k0 k1)))));go_in
 go_wp2_with fail;refine rf HC λU ⟨G,L,hR,hp,hf⟩=>?_
 obtain⟨zb,hz⟩:=Px.zb HH.1 hp (bM w _ rfl);have H1:=aB (show Cu fs V B n c b k e_ F w m r 1000 t U G L i from ⟨hR,HH.2.1.trans hp,zb,hz,λq=>⟨HH.2.2.1.next aD q,hf q⟩,HR⟩)
 go_wp2
 go_loopg [6] 1000 (λgk cv wr=>∃t G L i,cv=Uw t/\Cu fs V B n c b k e_ F w m r gk t wr G L i)
 case atStart=>exact⟨t,G,L,i,aJ,H1⟩
 case round=>
  obtain⟨t,G,L,i,rfl,S⟩:=hrel;have Y:=S.px.kp HH.1;have N1:=Y.cell P.1 aD;have N3:=Y.cell P.1 aD;have K1:=Y.cell P.2.1 aD;obtain⟨bh,z0,z1,z2,z3,f0,f1,f2,f3⟩:=kR S.zb;have c6:=(iA S.run.i_).2.2.2.2.2.2.1;have av:=S.run.vw;rw[S.px.rb]at c6 av;have K:=aB S
  obtain⟨j,rfl⟩:∃j,gk=j+1:=by
   cases gk with
   |zero=>have:=S.lp;simp[iL]at this
   |succ j=>simp
  have p:=S.lp;rw[iL]at p;by_cases f:t=Uc\/i.stop≠0
  .rw[ef f]at p;cases p;have HF:=aB (PB.Ay K.run K.px K.hz (λq=>(K.ok q).2) Uc)
   rcases f with rfl|f
   .go_wp2
    exact bodyPost_ret (v:=Uu #[cK 0 0 [],Uw Uc]) oz rfl (HF _ _ _ _)
   have e2:((i.stop:Int)==0)=Uc:=by simp;exact aD
   cases t
   all_goals
    go_wp2
    exact bodyPost_ret (v:=Uu #[cK 0 0 [],Uw Uc]) oz rfl (HF _ _ _ _)
  rw[ea f]at p;obtain⟨rfl,hs⟩:t=Ud/\i.stop=0:=by cases t<;>simp at f ⊢;exact f
  obtain⟨J,be⟩:=K.ok hs;obtain⟨⟨v,e,s2,hB,hF⟩,bo⟩:=HGn _ J;rw[hB]at p;simp only at p;have HBc:=aB (HBn _ _ _ _ (aD) K.run J _ hB);rw[K.px.rb]at HBc;have HX:=aB (dy J (dy be hF));have HL:=aB p;go_wp2_with fail;apply HBc.mono
  intro ee w2 hq;obtain⟨u,rfl⟩:∃u,ee=bY u:=by obtain⟨u,he, -⟩:=hq;exact⟨_,he⟩
  obtain⟨a,lx,lc,G2,m2,rfl,Q,M,HF⟩:=PB.out K.px K.hz HX.2.1 K.zb hq;have T:=M.2.1.kp HH.1;have bn:=T.cell P.1 P.2.2.1;have br:=T.lt M.1.lt P.1;have az:=(iA M.1.i_).2.2.2.2.2.2.1;have al:=M.1.vw;rw[M.2.1.rb]at az al;have Z2:=aB Q;obtain⟨A,y0,y1,y2,y3,g0,g1,g2,g3⟩:=kR Q;have o:=HL.out;by_cases f:e=Ud\/s2.stop≠0
  .rw[ef f]at o;cases o;rcases f with rfl|f
   .go_wp2
    exact bodyPost_ret (v:=Uu #[Us #[I_ a.c_,I_ a.n,Q_ (bs a.s),P_ lx (Ty a.l) lc],Uw _]) pj rfl (HF _ _ _ _ _ ((dz _ _).alloc (aD) _))
   have e3:((s2.stop:Int) != 0)=Ud:=by simp;exact aD
   cases e
   all_goals
    go_wp2
    exact bodyPost_ret (v:=Uu #[Us #[I_ a.c_,I_ a.n,Q_ (bs a.s),P_ lx (Ty a.l) lc],Uw _]) pj rfl (HF _ _ _ _ _ ((dz _ _).alloc (aD) _))
  rw[ea f]at o;obtain⟨rfl,ae⟩:e=Uc/\s2.stop=0:=by cases e<;>simp at f ⊢;exact f
  have x:=HX.1.yh HX.2.2 ae;obtain⟨ax,ap⟩:=M.1.re ((dz _ w2).alloc (aD) (cD #[I_ a.c_,I_ a.n,Q_ (bs a.s),P_ lx (Ty a.l) lc] 130));have HBg:=aB (OY ax x aa n.l_);rw[M.2.1.rb]at HBg;have ay:=aB o;have hP:=M.2.1.trans ap;have H3:=aB (dy x (dy hP (dy (M.2.2.2 ae) (dy M.2.2.1 ((eh w2 (cD #[I_ a.c_,I_ a.n,Q_ (bs a.s),P_ lx (Ty a.l) lc] 130) _ A).trans Z2)))));go_wp2_with fail;apply HBg.mono
  rintro ee w3 ⟨rfl,G3,m3,ac,N,Z⟩;obtain⟨x,bd,aw,⟨-,C,ab⟩,Q⟩:=H3.out;have bi:H_ w<H_ w2+1:=aD;have z:=bd.trans N;have af:H_ w<=H_ w/\H_ w∉m3.rl/\¬G3 (H_ w):=⟨aD,λq=>(N.mu _ q).elim C λq=>by simp at q;exact aD,λq=>(N.new _ q).elim ab λq=>by simp at q;exact aD⟩
  have E:=N.i_ Q C;have H:=z.kp HH.1;have bk:=H.cell P.1 aD;have bm:=H.cell P.2.1 P.2.2.2.2.1;have o:=ay.out;by_cases y:(s2.q_ n.l_).stop=0
  .rw[ea (by simp[y])]at o
   have e4:decide ((s2.q_ n.l_).stop=0)=Ud:=by simp[y]
   have l:=((HGn _ x).2 n.l_ y).1;obtain⟨t1,s4,ai,I⟩:=HGc _ l;rw[ai]at o;have ah:=aB (HCn _ _ _ _ H ac l _ ai);rw[z.rb]at ah;have H4:=aB (dy l (dy I (dy z (dy ((Z y).trans aw) (dy af (dy E o))))));go_wp2_with fail;apply ah.mono
   rintro ee w4 ⟨rfl,G4,m4,bb,O,au⟩;obtain⟨l,I,z,Z,⟨-,C,ab⟩,E,o⟩:=H4.out;have bg:=aH E;have H5:=aB (show Cu fs V B n c b k e_ F w m r j t1 w4 G4 m4 s4 from ⟨bb,z.trans O,O.i_ E C,⟨aD,λq=>(O.mu _ q).elim C λq=>aD,λq=>(O.new _ q).elim ab λq=>aD⟩,λq=>⟨l.next I q,(au q).trans Z⟩,o⟩)
   go_wp2
   go_roundg j
   case measure=>exact aD
   case rel=>exact⟨t1,G4,m4,s4,aJ,H5⟩
  rw[ef y]at o;have H5:=aB (show Cu fs V B n c b k e_ F w m r j Ud w3 G3 m3 (s2.q_ n.l_)from ⟨ac,z,E,af,λq=>eu q y,o⟩)
  go_wp2
  go_roundg j
  case measure=>exact aD
  case rel=>exact⟨Ud,G3,m3,_,aJ,H5⟩
end
section
variable {fs:List aC} {V:aC->aM->dZ aE} {B:aC->aM->dZ (aE × Bool)} {D g k d dd:Nat} {e_:cY} {F G:bN} {w w0 w1 w':aN} {m m1:DM} {s:aM} {nv u:aW} {n:aC} {fs0:List (Nat × Uf)} {p:Nat × Uf} {fr:List iW} {f:iW}
theorem cP.g_(h:cP fs F w m s)(c:m.fs=fs0++[p])(k:s.f_=fr++[f])(a:w.grownBy w' p.2.ownBlock){l:List (bP × aE)}(C:Own 5 164 (xN F w) w' u l)(v:u.ownBlock=p.2.ownBlock\/u.ownBlock=none\/u.ownBlock=Ua w.heap.size):
 cP fs F (Tz w' (aL p.1 2) u) { m with fs:=fs0++[(p.1,u)] } (s.sd λf=>{ f with g_:=l })/\Px F w m F (Tz w' (aL p.1 2) u) { m with fs:=fs0++[(p.1,u)] }:=by
 obtain⟨x,B,j, -,o⟩:=h.last k;obtain⟨z,y⟩:=gd (j.symm.trans c) rfl;cases y;have d:=(h.vj c (.inl aJ)).2.2.2.2.2;have g:∀b,u.ownBlock=Ua b->p.2.ownBlock=Ua b\/w.heap.size<=b:=(by grind)
 have i:=aH o.i_;have n:∀b,b<w.heap.size->b≠p.1->p.2.ownBlock≠Ua b->(Tz w' (aL p.1 2) u).heap[b]?=w.heap[b]?:=(by grind [em,World.grownBy.block])
 have t:∀b,b=p.1\/p.2.ownBlock=Ua b->b∈m.rl:=λb q=>DM.uu c q
 have A:Kp F w F (Tz w' (aL p.1 2) u):=⟨s_,(by grind [cP.lt,cP.nf])⟩
 have r:w.heap.size<=(Tz w' (aL p.1 2) u).heap.size:=by simpa [World.setCell]using a.size
 have:=h.top (w':=Tz w' (aL p.1 2) u) (u:=u) (f':={ f with g_:=l }) c k ((by grind [cP.lt,cP.xr])) r
  ⟨by rw[aP ((a.block _ i λe=>d e.symm).trans o.i_)];rfl,(by grind [Own.h_,em,xN.kp])⟩ g
 rw[tK k λf=>{ f with g_:=l }]
 refine⟨this,s_,G_,G_,λb q=>?_,a.os,a.tape,a.output,r,rfl⟩
 grind [DM.rl,mG]
theorem cP.zp(h:cP fs G w1 m1 s)(c:s.f_=fr++[f])(b:m.fs=fs0++[p])(d:m1.fs.map (·.1)=m.fs.map (·.1)):∃a v,m1.fs=a++[(p.1,v)]/\yK G w1 (p.1,v) f:=by grind [cP.last,List.append_inj']
def Dw(fs:List aC)(D g:Nat)(V:aC->aM->dZ aE)(B:aC->aM->dZ (aE × Bool)):Prop:=
 ∀(k d dd:Nat) (e_:cY) (F:bN) (w:aN) (m:DM) (s:aM) (nv:aW) (a:aC) (r:(aE × Bool) × aM),cP fs F w m s->Hs.rq k e_ s->Ty e_<=50000->eZ dd F w nv a->cO fs d e_ a->jX a->k*(D+2)+d<=g->mR V B a s=Ua r->
  Ue Un 168 #[bF m.rb,nv] w (PB fs F w m r)
structure Do(fs:List aC)(V:aC->aM->dZ aE)(B:aC->aM->dZ (aE × Bool))(k d mark:Nat)(F:bN)(w:aN)(m:DM)(r:(aE × Bool) × aM)(l:List aC)(i:Nat)(wr:aN)(G:bN)(m1:DM)(s1:aM)(sn:cY):Prop where
 run:cP fs G wr m1 s1
 px:Px F w m G wr m1
 zb:wr.heap[w.heap.size]?=Ua (.cells #[I_ 0,I_ 0,.string ⟨#[]⟩,bO] 130)
 hz:w.heap.size<=w.heap.size/\w.heap.size∉m1.rl/\¬G w.heap.size
 ok:Hs.rq k sn s1
 As:m1.fs.map (·.1)=m.fs.map (·.1)
 len:mark<=Ty sn/\Ty sn<=50000
 Ae:Hs.rp (cO fs d) sn (l.drop i)
 lp:nU (mR V B) mark (l.drop i) s1=Ua r
theorem E6(HV:pB fs D g V)(HB:vM fs D g B)(HD:Dw fs D g V B):BC fs D (g+1) λn s=>nU (mR V B) (Ty s.g_) n.y_ s:=by
 intro k d dd J F w m s nv n r h L ap hn c I hg hr;obtain⟨d',nb,kv,hd,rfl,an,bf, -, -, -,n3,N⟩:=hn.cells;obtain⟨fr,f,hf,hv⟩:=L.names;obtain⟨ax,p,hm, -,hp⟩:=h.last hf;obtain⟨ae,ar⟩:=h.re ((dz _ w).alloc mJ (cD #[I_ 0,I_ 0,Q_ ⟨#[]⟩,bO] 130));have HT:=aB (rQ ae hm);obtain⟨vx,vc,aq, -,az⟩:=hp.row.slice;have T:=(nH hp.i_).2.2.1;rw[aq]at T;have X:=aH hp.i_;have Q:s.g_=f.g_:=by simp[aM.g_,hf]
 obtain⟨kx,kc,rfl⟩:=N.slice;have bd:=I.len;have hr:nU (mR V B) (Ty f.g_) n.y_ s=Ua r:=G_
 rw[Q]at ap;have H:Ty f.g_=Ty J:=by grind [rq.len]
 have HX:=aB λk1 C Z a (q:cO fs d C a) (q1:Hs.rq k1 C Z) (q2:k1*(D+2)+d<=g)=>yW HV HB q2 q q1
 have y:=aB (dy h (dy L (dy hm (dy N (dy I (dy HD c))))));have HR:=aB (dy hr H);have HN:=aB (dy an n3);clear h L hf hv hp ar ae hm Q N hd I HD HV HB c hr hn H;go_in
 go_wp2_with fail;refine rf HT λw1 ⟨q,W⟩=>?_
 have z:R_ w w1:=by grind [nI,ep,dz]
 have g2 :=(World.cell?_of_block (z.block p.1 X)).trans T;have hpl1 :=ej X z.size;have zb:w1.heap[H_ w]?=Ua (cD #[I_ 0,I_ 0,Q_ ⟨#[]⟩,bO] 130):=by rw[W];exact bM w _ aJ
 have H1:=aB (show Do fs V B k d (Ty f.g_) F w m r n.y_ 0 w1 F m s J from ⟨(y.1.re z).1,(y.1.re z).2,zb,⟨aD,y.1.fresh,λq=>by have:=y.1.lt _ q;exact aD⟩,y.2.1,rfl,by have:=HR.2;exact aD,y.2.2.2.2.2.2,HR.1⟩)
 clear W z zb T HT HR;go_wp2
 go_loopg [8] (Ty n.y_) (λgk iv wr=>∃i G m1 Z C,i+gk=Ty n.y_/\iv=I_ ((i:Nat):Int)/\Do fs V B k d (Ty f.g_) F w m r n.y_ i wr G m1 Z C)
 case atStart=>grind [d7]
 case round=>
  obtain⟨i,G,m1,Z,C,hi,rfl,hM⟩:=hrel;have M:=hM.px.kp y.1;have N3:=M.cell HN.1 HN.2;have o:=hM.lp;have b:=aB hM;by_cases A:i<Ty n.y_
  .have c:=b.Ae;rw[iw A]at o c;obtain⟨v,e,s2,hD,hF⟩:=HX _ _ _ _ c.1 b.ok aD;rw[nU,hD]at o;simp only at o;rcases y.2.2.2.1.get with ⟨-,h0⟩|⟨gq,be,ag,aj, -, -,ab⟩
   .rw[h0]at A;simp at A
   obtain⟨e3, -, -⟩:=Value.slice.inj ag;subst e3;obtain⟨nv,af,S⟩:=ab i A;have K:=M.cell aj af;have HDc:=aB (y.2.2.2.2.2.1 k d d' C G wr m1 Z nv _ _ b.run b.ok b.len.2 (S.kp M) c.1 (y.2.2.2.2.1.tm (s_)) aD hD)
   rw[b.px.rb]at HDc;obtain⟨bb,rfl⟩:=S.ptr;have HL:=aB (dy o (dy hF (dy c (EM c.1 b.len.2))));go_wp2_with fail;apply HDc.mono
   intro ee w2 hq;obtain⟨u,rfl⟩:∃u,ee=bY u:=by obtain⟨u,he, -⟩:=hq;exact⟨_,he⟩
   obtain⟨a,lx,lc,G2,m2,rfl,aa,O,HF⟩:=PB.out b.px b.hz b.As b.zb hq;have ao:=(iA O.1.i_).2.2.2.2.2.2.1;have Y:=O.1.vw;rw[O.2.1.rb]at ao Y;have Z2:=aB aa;obtain⟨t,y0,y1,y2,y3,g0,g1,g2,g3⟩:=kR aa;have I:=HL.1;by_cases l:e=Ud\/s2.stop≠0
   .rw[ef l]at I;cases I;rcases l with rfl|l
    .go_wp2
     exact bodyPost_ret (v:=Uu #[Us #[I_ a.c_,I_ a.n,Q_ (bs a.s),P_ lx (Ty a.l) lc],Uw _]) pk rfl (HF _ _ _ _ _ ((dz _ _).alloc (aD) _))
    have e3:((s2.stop:Int) != 0)=Ud:=by simp;exact aD
    cases e
    all_goals
     go_wp2
     exact bodyPost_ret (v:=Uu #[Us #[I_ a.c_,I_ a.n,Q_ (bs a.s),P_ lx (Ty a.l) lc],Uw _]) pk rfl (HF _ _ _ _ _ ((dz _ _).alloc (aD) _))
   rw[ea l]at I;obtain⟨rfl,U⟩:e=Uc/\s2.stop=0:=by cases e<;>simp at l ⊢;exact l
   obtain⟨am,ah⟩:=O.1.re ((dz _ w2).alloc (aD) (cD #[I_ a.c_,I_ a.n,Q_ (bs a.s),P_ lx (Ty a.l) lc] 130))
   have al:Ty f.g_<=Ty (cR C n.y_[i]):=by have:=b.len.1;obtain⟨x,hx⟩:=qQ C n.y_[i];rw[hx];simp;exact aD
   have H3:=aB (show Do fs V B k d (Ty f.g_) F w m r n.y_ (i+1) _ G2 m2 s2 _ from ⟨am,O.2.1.trans ah,(eh w2 (cD #[I_ a.c_,I_ a.n,Q_ (bs a.s),P_ lx (Ty a.l) lc] 130) _ t).trans Z2,O.2.2.1,b.ok.yh HL.2.1 U,O.2.2.2 U,⟨al,HL.2.2.2⟩,HL.2.2.1.2,I⟩)
   go_wp2
   go_roundg (gk-1)
   case measure=>exact aD
   grind [d7]
  obtain rfl:i=Ty n.y_:=aD;rw[List.drop_length]at o;cases o;obtain⟨ay,f1,E,ak⟩:=b.ok.names;obtain⟨bc,v1,ad,P⟩:=b.run.zp E y.2.2.1 b.As;have ai:Ty f1.g_=Ty C:=by have:=fg List.length ak;simpa using this
  obtain⟨x1,ac,j,ba,av,hcut⟩:=P.row.cut (n:=f.g_.length) (by rw[ai];exact b.len.1)
  have j:v1=P_ x1 (Ty f1.g_) ac:=j;obtain⟨q1,q2⟩:=b.run.g_ (p:=(p.1,v1)) (u:=P_ x1 (Ty f.g_) ac) ad E ⟨rfl,rfl,rfl,aD,s_⟩ hcut (by rw[j];cases x1<;>simp[Value.ownBlock])
  rw[tK E,<-tK E λf'=>{ f' with g_:=f'.g_.take (Ty f.g_) }]at q1
  have T:=(nH P.i_).2.2.1;rw[show (p.1,v1).2=v1 from rfl,j]at T
  have fz:=(nH P.i_).2.2.2 2;have aw:=b.len;obtain⟨au,z0,z1,z2,z3,f0,bg,f2,f3⟩:=kR b.zb
  have HF:=aB (PB.Ay q1 (b.px.trans q2) ⟨aD,λq=>(q2.mu _ q).elim b.hz.2.1 aD,b.hz.2.2⟩ (λ_=>by have:=b.As;rw[ad]at this;rw[<-this];simp) Uc)
  go_wp2
  exact bodyPost_ret (v:=Uu #[cK 0 0 [],Uw Uc]) (by simp[results,results109,go_sem,z0,z1,z2,z3];rfl) rfl (HF _ _ _ _)
end
section
variable {fs:List aC} {D g k d dd de:Nat} {e_:cY} {F G:bN} {w w0 w1 w2:aN} {m m1:DM} {s:aM} {nv lv u:aW} {n:aC} {fs0:List (Nat × Uf)} {p:Nat × Uf} {fr:List iW} {f:iW} {a:aE}
theorem cP.outs(h:cP fs F w m s)(t:w.grownBy w2 m.ov.ownBlock){x:bP}(z:Own 1 9 AZ w2 u (s.out++[x]))(c:u.ownBlock=m.ov.ownBlock\/u.ownBlock=Ua w.heap.size)(G:Ty s.out<50):
 cP fs F (Tz w2 (aL m.rb 3) u) { m with ov:=u } { s with out:=s.out++[x] }/\Px F w m F (Tz w2 (aL m.rb 3) u) { m with ov:=u }/\w2.heap[m.rb]?=w.heap[m.rb]?:=by
 have D:=(ey.1 h.nd).1;obtain⟨E,i,r,v,k,a,g⟩:=h.swap (A:=[m.rb]) (row:=m.ov) (u:=u) (B:=ob m.rv++(ob m.mv++m.fs.flatMap λp=>p.1::ob p.2)) rfl s_ t c 3
 have h3 :=λb q=>r b (.inr q) λy=>D (by rw[y]at q;exact jb _ q)
 have h4 :=λp d b x=>h3 b (jb _ (jb _ (jo.2 ⟨p,d,by simpa [mG]using x⟩)))
 obtain⟨e,j⟩:=h.vh;obtain⟨C,n,l⟩:=h.tape;exact⟨⟨by rw[aP (g.trans h.i_)];rfl,⟨e,j.kp a.kp⟩,⟨C,n.kp a.kp,l⟩,z.h_ v s_,h.uy.h_ (nu) s_,h.vo.h_ (λb q=>h3 b (by simp[mG.2 q])) λ_ _ q=>q.kp a.kp,h.fr.mono λp d f q=>q.kp a.kp (G_) G_,E,λb q=>(i b q).1,λb o=>ej (h.lt b o) a.size,G_⟩,⟨s_,G_,k,λb q=>(i b q).2,a.os,a.tape,a.output,a.size,rfl⟩,g⟩
theorem LV.last{vs:List aE}(h:LV de F w lv (vs++[a])):∃i b d c e f,lv=.slice (Ua (aL b d)) (Ty vs+1) c/\Ty vs+1<=c/\F b/\T_ w (aL b (d+Ty vs*4))=Ua (I_ a.c_)/\T_ w (aL b (d+Ty vs*4+1))=Ua (I_ a.n)/\T_ w (aL b (d+Ty vs*4+2))=Ua (.string (bs a.s))/\T_ w (aL b (d+Ty vs*4+3))=Ua (.slice e (Ty a.l) f)/\LV i F w (.slice e (Ty a.l) f) a.l:=by
 obtain⟨q,p,rfl⟩:=h.slice;obtain⟨i,b,d,r, -, -,rfl,k,j,m,n,o,l,g⟩:=h.elem (Ty vs) s_
 simp at m n o l g k;obtain⟨e,f,rfl⟩:=g.slice;exact⟨i,b,d,p,e,f,s_,aD,j,m,n,o,l,g⟩
theorem C9{t x:aC}(h:cP fs F w m s)(hf:s.f_=fr++[f])(hn:eZ dd F w nv n)(ho:n.op=[118,97,114])(hk:n.y_=[t,x])(hv:LV de F w lv [a])(ha:dX a)(hc:aK a<=200)(ao:Ty f.g_<=50000):
 Ue Un 221 #[bF m.rb,nv,lv] w λe w'=>e=fD/\yg fs F w m (s.sd λf=>{ f with g_:=f.g_++[(t.x_,a)] }) w':=by
 obtain⟨d',nb,kv,hd,rfl,ac,o,n0, -, -,n3,Q⟩:=hn.cells;rw[hk]at Q;rcases Q.get with ⟨-,h0⟩|⟨gq,ah,rfl,aa,u,N,U⟩
 .cases h0
 obtain⟨v0,k0,r0⟩:=U 0 s_
 obtain⟨-,b0, -, -,rfl,ab,y, -, -,t2, -⟩:=r0.cells;obtain⟨e',gl,ol,lc,Z,kc,rfl,ai,ad,l0,l1,l2,l3,af⟩:=LV.last (vs:=[]) hv;obtain⟨al,p,hm, -,B⟩:=h.last hf;have HT:=aB (rQ h hm);have aj:(bs [118,97,114]).toList=[118,97,114]:=aX _;rw[ho]at n0;have z:=aH B.i_;have k:=h.lt gl ad;obtain⟨vx,vc,X, -,am⟩:=B.row.slice;have c2:=(nH B.i_).2.2.1;rw[X]at c2;have H:=aB (dy h (dy hm (dy hf (dy B (dy af (dy ha hc))))));have HN:=aB (dy ac (dy aa ab));have ae:=aB X;simp only[fk,fq,h9,im,io,gu]at n3 N l0 l1 l2 l3 ai t2;go_in
 go_wp2_with fail;refine HT.mono ?_;rintro e j ⟨rfl,q,D⟩;have I:R_ w j:=by rw[D];exact nI (dz _ _) q
 have r:j.heap.size=w.heap.size:=by rw[D];rfl
 have c:∀{b i:Nat} {v:aW},b<w.heap.size->T_ w (aL b i)=Ua v->T_ j (aL b i)=Ua v:=λq e=>(World.cell?_of_block (I.block _ q)).trans e
 have N0:=c o n0;have N3:=c o n3;have K0:=c u k0;have T2:=c y t2;have L0:=c k l0;have L1:=c k l1;have L2:=c k l2;have L3:=c k l3;have C2:=c z c2;rw[<-r]at o u y k z;have Y:=aB I;clear D I c n0 n3 k0 t2 l0 l1 l2 l3 c2 HT r;go_wp2_with fail;obtain⟨W,V⟩:∃W,W=T6 j (cD #[I_ a.c_,I_ a.n,Q_ (bs a.s),P_ Z (Ty a.l) kc] 130):=(by simp)
 have G:R_ w W:=by rw[V];exact Y.alloc Y.size _
 have r:W.heap.size=j.heap.size+1:=by rw[V];simp
 have c:∀{b i:Nat} {v:aW},b<j.heap.size->T_ j (aL b i)=Ua v->T_ W (aL b i)=Ua v:=λq e=>by grind [World.cell?_of_block,eh]
 have zb:W.heap[j.heap.size]?=Ua (cD #[I_ a.c_,I_ a.n,Q_ (bs a.s),P_ Z (Ty a.l) kc] 130):=by rw[V];exact bM j _ aJ
 obtain⟨-,z0,z1,z2,z3, -⟩:=kR zb;rw[<-V]
 have O:∀b,F b\/b=j.heap.size->b<W.heap.size/\b≠p.1/\Ua b≠p.2.ownBlock:=λb q=>by
  have h1:∀x,x=p.1\/p.2.ownBlock=Ua x->x∈m.rl:=λx q=>DM.uu H.2.1 q
  have h2:=Y.size;rcases q with q|rfl
  .exact⟨ej (H.1.lt b q) G.size,λe=>H.1.nf b (G_) q,λe=>H.1.nf b (G_) q⟩
  exact⟨aD,aD,λe=>by have:=H.1.xr _ (h1 _ (.inr e.symm));exact aD⟩
 obtain⟨S,hS,P⟩:∃S:World->Prop,S=(λw'=>T_ w' (aL nb 3)=Ua (P_ (Ua (aL gq 0)) 2 ah)/\T_ w' (aL gq 0)=Ua (bF b0)/\T_ w' (aL b0 2)=Ua (Q_ (bs t.x_))/\T_ w' (aL j.heap.size 0)=Ua (I_ a.c_)/\T_ w' (aL j.heap.size 1)=Ua (I_ a.n)/\T_ w' (aL j.heap.size 2)=Ua (Q_ (bs a.s))/\T_ w' (aL j.heap.size 3)=Ua (P_ Z (Ty a.l) kc))/\Hid (∀w',(∀b,F b\/b=j.heap.size->w'.heap[b]?=W.heap[b]?)->S w'):=⟨_,rfl,λw' q=>
  have q1:=q _ (.inr aJ)
  ⟨(World.cell?_of_block (G_)).trans (c o N3),(World.cell?_of_block (G_)).trans (c u K0),(World.cell?_of_block (G_)).trans (c y T2),(World.cell?_of_block q1).trans z0,(World.cell?_of_block q1).trans z1,(World.cell?_of_block q1).trans z2,(World.cell?_of_block q1).trans z3⟩⟩
 have C2:=c z C2;have z:p.1<W.heap.size:=aD;have g:=aB (dy O G);clear V r c zb z0 z1 z2 z3 N0 N3 K0 T2 L0 L1 L2 L3 o u y k Y O G;refine wp_region_held_drew (S:=S) k_ (P _ λ_ _=>rfl) (λd=>?_)
 subst hS;refine eU 0 ?_;refine eU 1 ?_;refine eU 2 ?_;refine eU 3 ?_;refine eU 5 ?_;refine eU 6 ?_;refine eU 7 ?_;refine eU 8 ?_;refine eU 9 ?_;refine eU 10 ?_;refine eU 11 ?_;refine eU 12 ?_;refine eU 13 ?_;refine eU 14 ?_;refine eU 15 ?_;refine Az 4 16 (λK l=>?_) (λK l=>?_)
 go_simp;refine l.out _ _ d (λd=>?_)
 refine sN 16 (λK l=>?_)
 go_simp;refine l.out _ _ (P _ λb q=>eh _ _ _ (g.1 b q).1) (λd=>?_)
 rotate_left
 go_simp;refine l.out _ _ (P _ λb q=>eh _ _ _ (g.1 b q).1) (λd=>?_)
 refine sN 4 (λK l=>?_)
 go_simp;refine l.out _ _ d (λd=>?_)
 all_goals
  refine sN 17 (λK l=>?_)
  have A:R_ w (T6 W.drew (cD #[Q_ (bs t.x_),I_ a.c_,I_ a.n,Q_ (bs a.s),P_ Z (Ty a.l) kc] 164)):=g.2.drew.alloc g.2.size _;obtain⟨ag,E⟩:=H.1.re A;have B:=H.2.2.2.1;refine rM r_ M4 r_ (by rw[ae];rfl) (B.row.h_ (λb q=>A.block b (B.row.lt b q)) λ_ _ q=>q.kp (E.kp H.1)) r_ (Src.one (b:=W.heap.size) (a:=(t.x_,a)) (bM W.drew _ rfl) rfl ⟨_,rfl,⟨_,H.2.2.2.2.1.kp (E.kp H.1)⟩,G_⟩ lb) G_ (by unfold maxLen;grind) ?_
  intro v' w5 M J T;have C:=aH B.i_;have L:=(J.block p.1 (ej C A.size) λe=>(H.1.vj H.2.1 (.inl aJ)).2.2.2.2.2 e.symm).trans ((A.block p.1 C).trans B.i_)
  have m5:=(nH L).2.2.1;have ak:=(nH L).2.2.2 2;have hx:=ag.g_ H.2.1 H.2.2.1 J M (T.imp_right .inr);rw[tK H.out.2.2.1,<-tK H.out.2.2.1 λf=>{ f with g_:=f.g_++[(t.x_,a)] }]at hx
  have hk5 :=λb q=>(J.block b (by have:=(g.1 b q).1;simp;exact aD) (g.1 b q).2.2).trans (eh _ _ _ (g.1 b q).1)
  obtain⟨ux,un,uc,rfl⟩:=gI M;refine l.out _ _ (P _ hk5) (λd=>?_)
  have H5:=aB (dy hx.1 (E.trans hx.2));have an:=aB hk5;refine eU 18 ?_;refine eU 19 ?_;refine sN 20 (λK l=>?_)
  go_simp;refine l.out _ _ (P _ (by grind [em,d7])) (λ_=>?_)
  refine wpAnyH_done k_ ?_ _
  go_wp2
  go_end0;exact⟨aJ,F,_,H5.1,H5.2,G_⟩
theorem BE(h:cP fs F w m s)(hf:s.f_=fr++[f])(hn:eZ dd F w nv n)(j:n.op=[112,114,105,110,116]\/n.op=[100,111])(hv:LV de F w lv [a])(ha:dX a)(hc:aK a<=200):
 Ue Un 221 #[bF m.rb,nv,lv] w λe w'=>e=fD/\yg fs F w m (if n.op=[112,114,105,110,116]then if Ty s.out=50 then { s with stop:=8 } else { s with out:=s.out++[jN a] } else s) w':=by
 obtain⟨d',nb,kv,hd,rfl,ag,I,n0, -⟩:=hn.cells;obtain⟨e',gl,ol,lc,Q,Y,rfl,ac,S,L,l1,P,K,V⟩:=LV.last (vs:=[]) hv;obtain⟨af,p,hm, -,hp⟩:=h.last hf;have HT:=aB (rQ h hm);have d:=h.lt gl S;obtain⟨ox,oc,z, -⟩:=h.out.slice;obtain⟨-, -, -,N, -, -,c6,fz⟩:=iA h.i_;have y:=fz 6;rw[z]at N;have l:=h.vw;have ae:=h.ol;have H:=aB (dy h (dy V (dy ha hc)));have x:=aB z;simp only[fq,h9,io,gu]at L l1 P K ac;obtain⟨s',A⟩:∃s',s'=if n.op=[112,114,105,110,116]then if Ty s.out=50 then { s with stop:=8 } else { s with out:=s.out++[jN a] } else s:=(by simp)
 rw[<-A];have r:=aB A;have ad:(bs n.op).toList=n.op:=aX _;have o1:(n.op==[118,97,114])=Uc:=G_
 go_in
 go_wp2_with fail;refine rf HT λC ⟨q,k⟩=>?_
 have g:R_ w C:=by rw[k];exact nI (dz _ _) q
 have u:C.heap.size=w.heap.size:=by rw[k];rfl
 have c:∀{b i:Nat} {v:aW},b<w.heap.size->dP w b i v->dP C b i v:=λq e=>(World.cell?_of_block (g.block _ q)).trans e
 have N0:=c I n0;have L0:=c d L;have L1:=c d l1;have L2:=c d P;have L3:=c d K;have C3:=c l N;have C6:=c l c6;have Z6:C.frozen? (aL m.rb 6)=Uc:=by rw[k];exact y
 rw[<-u]at I d l;have E:R_ w (eH C #[I_ a.c_,I_ a.n,Q_ (bs a.s),P_ Q (Ty a.l) Y] 130):=g.alloc g.size _;have D:=aB E;have T:=aB g;clear k g c n0 L l1 P K N c6 y HT u E;rcases j with j|j
 .have o2:(n.op==[112,114,105,110,116])=Ud:=by rw[j];rfl
  rw[ef j]at r;clear j;by_cases M:Ty s.out=50
  .rw[ef M]at r;have e5:((Ty s.out:Int)==50)=Ud:=by simp[M]
   have W:=H.1.re T;have HF:=aB (dy (W.1.uf 8).1 (W.2.trans (W.1.uf 8).2));go_wp2
   refine bodyPost_ret (v:=Uu #[]) (results_none aJ _ _ _) aJ ?_;rw[r];have o:=cP.after HF ((dz _ _).alloc mJ (cD #[I_ a.c_,I_ a.n,Q_ (bs a.s),P_ Q (Ty a.l) Y] 130));exact⟨aJ,F,m,o.1,o.2,s_⟩
  rw[ea M]at r;obtain⟨X,U⟩:=H.1.re D;have HX:=aB (Z1 e' F (Us #[I_ a.c_,I_ a.n,Q_ (bs a.s),P_ Q (Ty a.l) Y]) a _ ⟨_,aJ,H.2.1.kp (U.kp H.1)⟩ X.lt aD H.2.2.1.fit);go_wp2_with fail;refine rf HX λw2 O=>?_
  have hb3 :=D.trans (O.mono D.size);have Z:=(World.cell?_of_block (hb3.block m.rb H.1.vw)).trans ((iA H.1.i_).2.2.2.1);rw[x]at Z;have aa:R_ w (eH w2 #[Q_ (bs (jN a))] 9):=hb3.alloc hb3.size _;obtain⟨X,U⟩:=H.1.re aa;have J:=aB (dy X U);go_wp2_with (at_builtin;refine nN r_ M3 r_ (by rw[x];rfl) J.1.out r_ (Src.one (b:=w2.heap.size) (a:=jN a) (bM w2 _ rfl) rfl rfl lb) G_ (by unfold maxLen;grind) ?_;intro v' w5 t ab B;have o:=J.1.outs ab t B aD;have G:=o.2.2.trans J.1.i_;have m5:=(iA G).2.2.2.1;have f5:=(iA G).2.2.2.2.2.2.2 3;obtain⟨ux,un,uc,rfl⟩:=gI t;have H5:=aB (dy o.1 (J.2.trans o.2.1)))
  go_end0;grind [d7,yg]
 have o2:(n.op==[112,114,105,110,116])=Uc:=by rw[j];rfl
 have o3:(n.op==[115,101,116])=Uc:=by rw[j];rfl
 rw[ea (by rw[j];decide)]at r
 clear j;go_wp2
 go_end0;rw[r];exact⟨aJ,F,m,(H.1.re D).1,(H.1.re D).2,s_⟩
end
def U4(k:Nat)(x:aE):∀(l:List aE) (i:Nat) (b:i<Ty l),aK x<=aK l[i]+k->((l.set i x).map aK).sum<=(l.map aK).sum+k
 |a::l,0,_,h=>by grind
 |a::l,i+1,b,h=>by
  have:=U4 k x l i G_ G_
  grind
def zG:∀(b:List aE) (a v:aE),aK (cI b a v).1<=aK a+aK v
 |[],a,v=>by simp[cI]
 |i::b,a,v=>by
  have c:aK aY<=aK a+aK v:=by grind [kH,JX,aY]
  unfold cI;split
  .exact c
  split
  .exact c
  split
  .exact c
  have d:i.n.toNat<Ty a.l:=aD;rw[JY,dE a]
  have:=U4 (aK v) (cI b (a.l.getD i.n.toNat aY) v).1 a.l i.n.toNat d (by have:=zG b (a.l.getD i.n.toNat aY) v;grind)
  exact aD
section
variable {fs:List aC} {D g k d dd de:Nat} {e_:cY} {F G:bN} {w w0 w1 w2 W:aN} {m m1:DM} {s:aM} {nv lv u:aW} {n:aC} {fs0:List (Nat × Uf)} {p:Nat × Uf} {fr:List iW} {f:iW} {a:aE} {is:List aE}
theorem LV.init{b f c:Nat}(h:LV de F w (P_ (Ua (aL b f)) (Ty is+1) c) (is++[a])):LA de F w (P_ (Ua (aL b f)) (Ty is) c) is:=by
 by_cases j:is=[]
 .grind [LA]
 cases de with
 |zero=>exact eu h.1 s_
 |succ e=>
  rcases h with ⟨h, -⟩|⟨g,o,m,d, -,l,r,p,k,n⟩
  .simp at h
  obtain⟨q, -,rfl⟩:=Value.slice.inj l;cases q;refine .inl (.inr ⟨b,f,c,d,j,aJ,G_,p,k,λi s=>?_⟩)
  have:=n i kj
  grind
structure XM(F:bN)(W:aN)(r:aE × Nat)(pv sv:aW)(wc:aN):Prop where
 re:R_ W wc
 st:sv=I_ r.2
 ex:∃y lx dx,pv=bF y/\W.heap.size<=y/\wc.heap[y]?=Ua (.cells #[I_ r.1.c_,I_ r.1.n,.string (bs r.1.s),lx] 130)/\LV dx (λq=>F q\/(W.heap.size<=q/\q≠y/\q<wc.heap.size)) wc lx r.1.l
theorem XM.after{r:aE × Nat}{d:aW}{f:Nat}(h:∀b,F b->b<H_ W)(a:R_ W w2)(c:LV f (Grow F W w2) w2 d r.1.l):XM F W r (bF (H_ w2)) (I_ r.2) (eH w2 #[I_ r.1.c_,I_ r.1.n,Q_ (bs r.1.s),d] 130):=by have g:=a.size;refine⟨a.alloc g _,aJ,H_ w2,d,f,aJ,g,bM _ _ aJ,(c.h_ (by grind [eh,Grow])).mono (λq e=>e.imp id λe=>⟨e.1,aD,kj⟩) (aD)⟩
theorem XM.before{r:aE × Nat}{c:aW}{d:Nat}(k:∀b,F b->b<W.heap.size)(h:R_ w1 w2)(g:w1.heap=(eH W #[I_ 0,I_ 0,Q_ ⟨#[]⟩,bO] 130).heap)(f:R_ W w1)(a:LV d (Grow F w1 w2) w2 c r.1.l):XM F W r (bF W.heap.size) (I_ r.2) (Tz (Tz (Tz (Tz w2 (aL W.heap.size 0) (I_ r.1.c_)) (aL W.heap.size 1) (I_ r.1.n)) (aL W.heap.size 2) (Q_ (bs r.1.s))) (aL W.heap.size 3) c):=by
 have j:w1.heap.size=W.heap.size+1:=by rw[g];simp
 have i:w2.heap[W.heap.size]?=Ua (cD #[I_ 0,I_ 0,Q_ ⟨#[]⟩,bO] 130):=by grind [eg,bM]
 refine⟨(by grind [Below.tj,Below.trans,Below.mono]),rfl,W.heap.size,c,d,rfl,aD,rC i _ _ _ _,(a.h_ (by grind [dF,Grow])).mono (λq e=>e.imp id λe=>⟨aD,aD,kj⟩) (aD)⟩
theorem cP.fz{wc:aN}{y:Nat}(h:cP fs F w m s)(a:R_ w wc)(c:H_ w<=H_ W):cP fs (λq=>F q\/(H_ W<=q/\q≠y/\q<H_ wc)) wc m s/\Px F w m (λq=>F q\/(H_ W<=q/\q≠y/\q<H_ wc)) wc m:=
 ⟨h.kp ⟨G_,(by grind [eg,cP.lt])⟩ ((by grind [eg,cP.xr])) (λb q x=>x.elim (h.nf b q) λx=>by have:=h.xr b q;exact aD) λb q=>q.elim (λq=>ej (h.lt b q) a.size) aD,G_,G_,λb q _=>a.block b q,G_,a.os,a.tape,a.output,a.size,rfl⟩
theorem cP.Dg{k t i:Nat}(h:cP fs F w m s)(n:m.fs=fs0++[p])(C:s.f_=fr++[f])(D:i<Ty f.g_)(y:p.2=P_ (Ua (aL k 0)) (Ty f.g_) t)(L:LV d F w lv a.l)(M:dX a)(N:aK a<=200):
 cP fs F (IQ w k (i*5+1) (I_ a.c_) (I_ a.n) (Q_ (bs a.s)) lv) m (s.sd λf'=>{ f' with g_:=f'.g_.set i (f.g_[i].1,a) })/\Px F w m F (IQ w k (i*5+1) (I_ a.c_) (I_ a.n) (Q_ (bs a.s)) lv) m:=by
 obtain⟨K,Q,v, -,o⟩:=h.last C;obtain⟨G,A⟩:=gd (v.symm.trans n) rfl;cases G;cases A;have r:p.2.ownBlock=Ua k:=by rw[y];rfl
 have e:=DM.uu n (.inr r);have H:=(h.vj n (.inl aJ)).2.2.2.2.2;have z:Px F w m F (IQ w k (i*5+1) (I_ a.c_) (I_ a.n) (Q_ (bs a.s)) lv) m:=((Px.set e _ _).trans (.set e _ _)).trans ((Px.set e _ _).trans (.set e _ _));have g:=o.row;rw[y]at g
 have:=h.top (w':=IQ w k (i*5+1) (I_ a.c_) (I_ a.n) (Q_ (bs a.s)) lv) (u:=p.2) (f':={ f with g_:=f.g_.set i (f.g_[i].1,a) }) n C ((by grind [tN])) z.size
  ⟨(by grind [tN,yK.i_]),by
    show Own 5 _ _ _ p.2 _
    rw[y];obtain⟨O,B,c,A,⟨J,rfl, -⟩,E⟩:=g.cell D;cases A;have:=(g.h_ (s_) λ_ _ q=>q.kp (z.kp h)).Ea (w':=IQ w k (i*5+1) (I_ a.c_) (I_ a.n) (Q_ (bs a.s)) lv) (b:=(f.g_[i].1,a)) D λx l=>⟨_,BO l _ _ _ _ _,s_,λj E=>by rw[ii aD,ii aD,ii aD,ii aD],λP=>?_⟩
    .exact this
    have I:x[i*5]?=Ua (Q_ (bs f.g_[i].1)):=by have:=E 0 _ aJ;grind [World.cell?]
    refine⟨lv,?_,⟨d,L.kp (z.kp h)⟩,M,N⟩;apply jl
    intro j;match j with
    |0=>simp[jp,I];grind
    |1=>simp[jp];exact aD
    |2=>simp[jp];exact aD
    |3=>grind
    |4=>simp[jp];exact aD
    |j+5=>grind⟩ G_
 grind [DM.same,aM.sd]
end
section
variable {fs:List aC} {D g k d dd de:Nat} {e_:cY} {F G:bN} {w w0 w1 w2 W:aN} {m m1:DM} {s:aM} {nv lv u:aW} {n:aC} {fs0:List (Nat × Uf)} {p:Nat × Uf} {fr:List iW} {f:iW} {a:aE} {is:List aE}
noncomputable def QC(s:aM)(i:Nat)(x:bP)(r:aE × Nat):aM:=
 if (if r.2=0/\200<aK r.1 then 6 else r.2)=0 then s.sd λf=>{ f with g_:=f.g_.set i (x,r.1) } else { s with stop:=if r.2=0/\200<aK r.1 then 6 else r.2 }
theorem m9{n:Nat}(h:s.stop=0)(a:n=0):{ s with stop:=n }=s:=by cases s;grind
theorem D3(h:cP fs F w m s)(al:s.stop=0)(hf:s.f_=fr++[f])(hn:eZ dd F w nv n)(ho:n.op=[115,101,116]){i:Nat}(hi:i<Ty f.g_)(aq:jO f.g_ n.x_=i)(hv:LV de F w lv (is++[a]))(ha:dX a)(hc:aK a<=200)(hl:Ty is<=1000000):
 Ue Un 221 #[bF m.rb,nv,lv] w λe w'=>e=fD/\yg fs F w m (QC s i f.g_[i].1 (cI is f.g_[i].2 a)) w':=by
 obtain⟨d',nb,kv,hd,rfl,bj,aa,n0, -,n2, -⟩:=hn.cells;obtain⟨e',gl,ol,lc,kx,kc,rfl,bo,t,l0,l1,l2,l3,av⟩:=LV.last hv;have hA:=LV.init hv;obtain⟨bi,p,hm, -,Z⟩:=h.last hf;have HT:=aB (rQ h hm);have bf:(bs [115,101,116]).toList=[115,101,116]:=aX _;rw[ho]at n0;have O:=aH Z.i_;have D:=h.lt gl t;obtain⟨z,vc,c,ab,⟨bn,rfl,⟨d2,V⟩,N,am⟩,Q⟩:=Z.row.cell hi;have v1:=Q 1 _ aJ;have v2:=Q 2 _ aJ;have v3:=Q 3 _ aJ;have v4:=Q 4 _ aJ;have c2:=(nH Z.i_).2.2.1;rw[ab]at c2;have j:=Z.row.lt z (by rw[ab];rfl)
 have ba:Ty f.g_<=maxLen:=by obtain⟨x,cc, -,q1,q2⟩:=Z.row.slice;exact aD
 unfold maxLen at ba;obtain⟨ao,au,rfl⟩:=V.slice;obtain⟨k,ad⟩:∃k,k=f.g_[i].2:=(by simp)
 rw[<-ad]at v1 v2 v3 v4 V N am ⊢
 obtain⟨r,hr⟩:∃r,r=cI is k a:=(by simp)
 have an:aK r.1<=400:=by rw[hr];have:=zG is k a;exact aD
 have ai:dX r.1:=by rw[hr];exact yQ is N ha
 have t:=h.lt;have HX:=aB λw' (q:R_ w w')=>AQ is (de+e'+d2) F (Us #[I_ k.c_,I_ k.n,Q_ (bs k.s),P_ ao (Ty k.l) au]) (P_ (Ua (aL gl ol)) (Ty is) lc) (Us #[I_ a.c_,I_ a.n,Q_ (bs a.s),P_ kx (Ty a.l) kc]) k a w' ⟨_,aJ,(V.h_ λb y=>q.block b (t b y)).mono (s_) aD⟩ ((hA.h_ λb y=>q.block b (t b y)).mono (s_) aD) ⟨_,rfl,(av.h_ λb y=>q.block b (t b y)).mono (s_) aD⟩ (λb y=>ej (t b y) q.size) aD aD
 rw[<-hr]at HX ⊢
 have H:=aB (dy h (dy hm (dy hf (dy Z (dy ab (dy an (dy ai (dy al aq))))))));clear h hf hn hv ha hc hd hm Z av ab hA V N am Q hr ad an ai al aq ho t;go_in
 go_wp2_with fail;refine HT.mono ?_;rintro e B ⟨rfl,q,af⟩;have ac:R_ w B:=by rw[af];exact nI (dz _ _) q
 have J:B.heap.size=w.heap.size:=by rw[af];rfl
 have d:∀{b i:Nat} {v:aW},b<w.heap.size->T_ w (aL b i)=Ua v->T_ B (aL b i)=Ua v:=λq e=>(World.cell?_of_block (ac.block _ q)).trans e
 have N0:=d aa n0;have N2:=d aa n2;have L0:=d D l0;have L1:=d D l1;have L2:=d D l2;have L3:=d D l3;have C2:=d O c2;have V1:=d j v1;have V2:=d j v2;have V3:=d j v3;have V4:=d j v4;rw[<-J]at aa D O j;have P:R_ w (T6 B (cD #[I_ a.c_,I_ a.n,Q_ (bs a.s),P_ kx (Ty a.l) kc] 130)):=ac.alloc ac.size _;have ap:=aB (NO (H.2.2.2.1.kp ((H.1.re P).2.kp H.1) (P.block _ (aD)) λb q=>P.block b (H.2.2.2.1.row.lt b q)) n.x_)
 rw[H.out.2.2.2.2.2.2.2.2]at ap;have X:=aB P;have e1:(0:Int)<=(Ty is:Int):=aD;have e2:(Ty is:Int)<(Ty is:Int)+1:=aD;clear af ac d n0 n2 l0 l1 l2 l3 c2 v1 v2 v3 v4 HT J P;go_wp2_with (go_at_call 133;refine ap.mono ?_;rintro e w2 ⟨rfl,rfl⟩)
 obtain⟨W,hW⟩:∃W,W=T6 B (cD #[I_ a.c_,I_ a.n,Q_ (bs a.s),P_ kx (Ty a.l) kc] 130):=(by simp)
 have d:∀{b i:Nat} {v:aW},b<B.heap.size->T_ B (aL b i)=Ua v->T_ W (aL b i)=Ua v:=λq e=>by grind [World.cell?_of_block,eh]
 have zb:W.heap[B.heap.size]?=Ua (cD #[I_ a.c_,I_ a.n,Q_ (bs a.s),P_ kx (Ty a.l) kc] 130):=by rw[hW];exact bM B _ aJ
 obtain⟨U,z0,z1,z2,z3, -⟩:=kR zb;rw[<-hW]at X ⊢
 have J:W.heap.size=B.heap.size+1:=by rw[hW];simp
 have C2:=d O C2;have V1:=d j V1;have V2:=d j V2;have V3:=d j V3;have V4:=d j V4;have O:p.1<W.heap.size:=aD;have j:z<W.heap.size:=aD
 obtain⟨S,hS,T⟩:∃S:World->Prop,S=(λw'=>T_ w' (aL p.1 2)=Ua (P_ (Ua (aL z 0)) (Ty f.g_) vc)/\T_ w' (aL z (i*5+1))=Ua (I_ k.c_)/\T_ w' (aL z (i*5+2))=Ua (I_ k.n)/\T_ w' (aL z (i*5+3))=Ua (Q_ (bs k.s))/\T_ w' (aL z (i*5+4))=Ua (P_ ao (Ty k.l) au)/\T_ w' (aL B.heap.size 0)=Ua (I_ a.c_)/\T_ w' (aL B.heap.size 1)=Ua (I_ a.n)/\T_ w' (aL B.heap.size 2)=Ua (Q_ (bs a.s))/\T_ w' (aL B.heap.size 3)=Ua (P_ kx (Ty a.l) kc))/\Hid (∀w',R_ W w'->S w'):=⟨_,rfl,λw' q=>
  ⟨(World.cell?_of_block (q.block _ O)).trans C2,(World.cell?_of_block (q.block _ j)).trans V1,(World.cell?_of_block (q.block _ j)).trans V2,(World.cell?_of_block (q.block _ j)).trans V3,(World.cell?_of_block (q.block _ j)).trans V4,(World.cell?_of_block (q.block _ U)).trans z0,(World.cell?_of_block (q.block _ U)).trans z1,(World.cell?_of_block (q.block _ U)).trans z2,(World.cell?_of_block (q.block _ U)).trans z3⟩⟩
 have e3:(0:Int)<=(i:Int):=aD;have e5:(Ty is:Int)<=(lc:Int):=aD;have e6:IntKind.i64.wrap (Ty is:Int)=(Ty is:Int):=by simp[IntKind.wrap,IntKind.bits,IntKind.signed];exact aD
 have hFW :=λb q=>ej (H.1.lt b q) X.size
 have aj:=aB hFW;have bm:=aB J;clear hW d zb z0 z1 z2 z3 N0 N2 L0 L1 L2 L3 aa D J hFW;go_cut [10,11] (λpv sv wc=>XM F W r pv sv wc)
 case first=>
  refine wp_region_held_drew (S:=S) k_ (T _ ko) (λg=>?_)
  subst hS;refine eU 0 ?_;refine eU 1 ?_;refine eU 2 ?_;refine eU 3 ?_;refine eU 4 ?_;refine eU 5 ?_;refine eU 6 ?_;refine eU 7 ?_;refine eU 8 ?_;refine eU 9 ?_;refine eU 10 ?_;refine eU 11 ?_;refine eU 12 ?_;refine eU 13 ?_;refine Az 14 18 (λK E=>?_) (λK E=>?_)
  go_simp;go_at_call 260
  refine(HX _ (X.trans ko)).mono ?_
  rintro e w3 ⟨⟨u,rfl,d3,az,rfl,o⟩,M⟩;obtain⟨x3,c3,rfl⟩:=o.slice;have I:=aB (dy o (Below.trans ko M:R_ W w3))
  go_wp2_with fail;refine E.out _ _ (T _ I.2) (λg=>?_)
  refine eU 15 ?_;refine eU 16 ?_;refine eU 17 ?_;refine sN 18 (λK E=>?_)
  go_simp;refine E.out _ _ (T _ (I.2.alloc I.2.size _)) (λg=>?_)
  refine sN 19 (λK E=>?_)
  go_simp;refine E.out _ _ (T _ (I.2.alloc I.2.size _)) (λg=>?_)
  refine eU 20 ?_;refine wpAnyH_done k_ ?_ _
  go_wp2_with fail;go_meet
  case rel=>exact XM.after aj I.2 I.1
  go_simp;refine E.out _ _ (T _ ko) (λg=>?_)
  refine sN 14 (λK E=>?_)
  go_simp;go_at_call 260
  refine(HX _ (X.trans (Below.mono (by go_grown:R_ W _) X.size))).mono ?_
  rintro e w3 ⟨⟨u,rfl,d3,az,rfl,o⟩,M⟩;obtain⟨x3,c3,rfl⟩:=o.slice;obtain⟨-,y0,y1,y2,y3,g0,g1,g2,g3⟩:=kR ((M.block W.heap.size s_).trans (bM W.drew _ rfl))
  have I:=aB (dy o (dy (Below.trans ko (M.mono s_):R_ W w3) M))
  go_wp2_with fail;refine E.out _ _ (T _ I.2.1) (λg=>?_)
  refine eU 15 ?_;refine eU 16 ?_;refine eU 17 ?_;refine sN 19 (λK E=>?_)
  go_simp;refine E.out _ _ (T _ (Below.tj I.2.1 (aD) _ _ _ _)) (λg=>?_)
  refine eU 20 ?_;refine wpAnyH_done k_ ?_ _
  go_wp2_with fail;go_meet
  case rel=>exact XM.before aj I.2.2 aJ ko I.1
 case rest=>
  obtain⟨y,lx,dx,rfl,hy,ae,ag⟩:=hcut.ex;have ay:=hcut.st;subst ay;obtain⟨xx,xc,rfl⟩:=ag.slice;obtain⟨hR,Z⟩:=H.1.fz (W:=W) (y:=y) (X.trans (hcut.re.mono X.size)) X.size;have HC:=aB (tW dx _ (Us #[I_ r.1.c_,I_ r.1.n,Q_ (bs r.1.s),P_ xx (Ty r.1.l) xc]) r.1 wc ⟨_,aJ,ag⟩ hR.lt (by have:=H.2.2.2.2.2.1;exact aD))
  have aw:=aH ae;obtain⟨-,y0,y1,y2,y3, -⟩:=kR ae;have H2:=aB (dy hR (dy Z (dy ag ae)));go_wp2_with fail;refine HC.mono ?_;rintro e w4 ⟨rfl,ah⟩;obtain⟨G,ak⟩:=H2.1.re ah;obtain⟨-,x0,x1,x2,x3, -⟩:=kR ((ah.block y aw).trans aD);have hyl4 :=ej aw ah.size;obtain⟨bl,p1,Y, -,ar⟩:=G.last H.2.2.1;obtain⟨e0,bb⟩:=gd (Y.symm.trans H.2.1) rfl;cases e0;cases bb;have c2:=(nH ar.i_).2.2.1;rw[H.out.2.2.2.2.1]at c2;have l:=ar.row;rw[H.out.2.2.2.2.1]at l;obtain⟨c,⟨bk,rfl, -⟩,Q⟩:=l.zs hi;have v1:=Q 1 _ aJ;have v2:=Q 2 _ aJ;have v3:=Q 3 _ aJ;have v4:=Q 4 _ aJ;have f1:=l.xk (i*5+1);have f2:=l.xk (i*5+2);have f3:=l.xk (i*5+3);have f4:=l.xk (i*5+4);have bc:=aD;have bd:=aD;obtain⟨-, -, -, -, -, -,c6,fz⟩:=iA G.i_;have bg:=fz 6;have bh:=G.vw;have ax:p.1≠z:=λe=>(G.vj Y (.inl aJ)).2.2.2.2.2 (by rw[H.out.2.2.2.2.1];exact fg Ua e.symm)
  have C:y≠z:=λe=>by
   have:=H.1.xr _ (DM.uu H.2.1 (b:=z) (.inr (by rw[H.out.2.2.2.2.1];rfl)))
   have:=X.size;exact aD
  have be:m.rb≠z:=λe=>(G.vj Y (b:=z) (.inr (by rw[H.out.2.2.2.2.1];rfl))).1 e.symm
  have HR:=aB (dy G (dy (H2.2.1.trans ak) (dy Y (H2.2.2.1.kp (ak.kp H2.1)))));by_cases hz:r.2=0
  .have z1:((r.2:Int)==0)=Ud:=by simp[hz]
   by_cases hk:200<aK r.1
   .have z2:(200:Int)<((aK r.1:Nat):Int):=aD;have HF:=aB (HR.1.uf 6);have HD:Hid (QC s i f.g_[i].1 r={ s with stop:=6 }):=by show _=_;unfold QC;simp[hz,hk]
    go_wp2
    go_end0;rw[HD];exact⟨aJ,_,m,HF.1,HR.2.1.trans HF.2,λ_=>aJ⟩
   have z2:¬(200:Int)<((aK r.1:Nat):Int):=aD;have HD:Hid (QC s i f.g_[i].1 r=s.sd λf'=>{ f' with g_:=f'.g_.set i (f.g_[i].1,r.1) }):=by show _=_;unfold QC;simp[hz,hk]
   have L:=HR.1.Dg HR.2.2.1 H.2.2.1 hi H.2.2.2.2.1 HR.2.2.2 H.2.2.2.2.2.2.1 aD;have A:=L.1.uf r.2;rw[m9 (s:=s.sd _) H.out.2.2.2.2.2.2.2.1 hz]at A;have HF:=aB (cP.after (dy A.1 (HR.2.1.trans (L.2.trans A.2))) (dz _ _).drew)
   obtain⟨S,hS,T⟩:∃S:World->Prop,S=(λw'=>T_ w' (aL p.1 2)=Ua (P_ (Ua (aL z 0)) (Ty f.g_) vc)/\T_ w' (aL y 0)=Ua (I_ r.1.c_)/\T_ w' (aL y 1)=Ua (I_ r.1.n)/\T_ w' (aL y 2)=Ua (Q_ (bs r.1.s))/\T_ w' (aL y 3)=Ua (P_ xx (Ty r.1.l) xc))/\Hid (∀w',(∀b,b≠z->w'.heap[b]?=w4.heap[b]?)->S w'):=⟨_,rfl,λw' q=>
    ⟨(World.cell?_of_block (q _ ax)).trans c2,(World.cell?_of_block (q _ C)).trans x0,(World.cell?_of_block (q _ C)).trans x1,(World.cell?_of_block (q _ C)).trans x2,(World.cell?_of_block (q _ C)).trans x3⟩⟩
   clear hz hk L A;go_wp2_with fail;refine wp_region_held_drew (S:=S) k_ (T _ λ_ _=>rfl) (λg=>?_)
   subst hS;refine eU 0 ?_;refine eU 1 ?_;refine eU 2 ?_;refine eU 3 ?_;refine eU 4 ?_;refine eU 5 ?_;refine eU 6 ?_;refine eU 7 ?_;refine sN 8 (λK E=>?_)
   go_simp;refine E.out _ _ (T _ λb q=>tN w4.drew q (i*5+1) _ _ _ _) (λ_=>?_)
   refine wpAnyH_done k_ ?_ _
   go_wp2
   go_end0;rw[HD];exact⟨aJ,_,m,HF.1,HF.2,λ_=>aJ⟩
  have z1:((r.2:Int)==0)=Uc:=by simp;exact aD
  have HF:=aB (HR.1.uf r.2);have HD:Hid (QC s i f.g_[i].1 r={ s with stop:=r.2 }):=by show _=_;unfold QC;simp[hz]
  go_wp2
  go_end0;rw[HD];exact⟨aJ,_,m,HF.1,HR.2.1.trans HF.2,λ_=>aJ⟩
end
section
variable {fs:List aC} {V:aC->aM->dZ aE} {B:aC->aM->dZ (aE × Bool)} {D g k d dd de:Nat} {e_:cY} {F G:bN} {w w0 w1 w2 W:aN} {m m1:DM} {s s0:aM} {nv lv u:aW} {n:aC} {fs0:List (Nat × Uf)} {p:Nat × Uf} {fr:List iW} {f:iW} {a:aE} {vs:List aE} {r:(aE × Bool) × aM}
def nR(n:aC):List aC:=if n.op=[118,97,114]then n.y_.drop 1 else n.y_
theorem UR(h:cP fs F w m s)(o:Hs.rq k e_ s)(E:Ty e_<=50000)(r:eZ dd F w nv n)(y:cO fs (d+1) e_ n)(z:n.op≠[105,102]/\n.op≠[119,104,105,108,101]/\n.op≠[114,101,116,117,114,110])(G:jX n)(p:LV de F w lv vs)(A:∀v∈vs,dX v/\aK v<=200)(g:Ty vs=Ty (nR n)):
 Ue Un 221 #[bF m.rb,nv,lv] w λe w'=>e=fD/\yg fs F w m (fY n vs s) w':=by
 obtain⟨J,f,l,I⟩:=o.names;have u:s.g_=f.g_:=by simp[aM.g_,l]
 have H:Ty f.g_=Ty e_:=by grind [rq.len]
 have j:Ty (nR n)=1->∃a,vs=[a]:=λq=>by
  rw[q]at g;match vs,g with
  |[a],_=>simp
 rcases y with ⟨b, -,t,x,i, -, -⟩|⟨b,K,i, -⟩|⟨b, -⟩|⟨b, -⟩|⟨b, -⟩|⟨b,v,i, -⟩|⟨b,c,i, -⟩
 .obtain⟨a,rfl⟩:=j (by simp[nR,b,i])
  have:=C9 h l r b i p G_ G_ aD
  simpa [fY,b,i]using this
 .rcases gB vs with rfl|⟨B,a,rfl⟩
  .rw[nR,ea qw]at g
   exact eu (G_) i
  rw[jc]at p A g ⊢
  have C:jO f.g_ n.x_<Ty f.g_:=W9 G_
  have D:=G.len;rw[nR,ea qw,ew,hJ]at g
  have:=D3 h o.stop l r b C aJ p G_ G_ aD
  have e:fY n (B++[a]) s=QC s (jO f.g_ n.x_) f.g_[jO f.g_ n.x_].1 (cI B f.g_[jO f.g_ n.x_].2 a):=by unfold fY QC;simp[b,u,fe C,tK l]
  rw[e];exact this
 .exact eu b z.1
 .exact eu b z.2.1
 .exact eu b z.2.2
 .obtain⟨a,rfl⟩:=j (by simp[nR,b,i])
  have:=BE h l r (.inl b) p G_ G_
  simpa [fY,b]using this
 obtain⟨a,rfl⟩:=j (by simp[nR,b,i])
 have:=BE h l r (.inr b) p G_ G_
 simpa [fY,b]using this
structure Ba(fs:List aC)(F:bN)(w:aN)(m:DM)(w1:aN)(G:bN)(m1:DM)(s0:aM):Prop where
 run:cP fs G w1 m1 s0
 px:Px F w m G w1 m1
 zb:w1.heap[w.heap.size]?=Ua (.cells #[I_ 0,I_ 0,.string ⟨#[]⟩,bO] 130)
 hz:w.heap.size<=w.heap.size/\w.heap.size∉m1.rl/\¬G w.heap.size
 As:s0.stop=0->m1.fs.map (·.1)=m.fs.map (·.1)
theorem Ba.next{b:DM}{c:aM}{d:bN}(h:Ba fs F w m w1 G m1 s0)(g:s0.stop=0)(e:cP fs d w2 b c)(a:Px G w1 m1 d w2 b)(f:c.stop=0->b.fs.map (·.1)=m1.fs.map (·.1)):Ba fs F w m w2 d b c:=by have i:=aH h.zb;exact⟨e,h.px.trans a,a.i_ h.zb h.hz.2.1,⟨aD,λq=>(a.mu _ q).elim h.hz.2.1 aD,λq=>(a.new _ q).elim h.hz.2.2 aD⟩,(by grind [Ba.As])⟩
theorem nK.tail{t x:aC}{a b:Nat}(h:nK (eZ d F w) F w (.slice (Ua (aL b 0)) 2 a) [t,x]):SL d F w (.slice (Ua (aL b 1)) 1 (a-1)) [x]:=by
 rcases h.get with ⟨q, -⟩|⟨g,c,e,k, -, -,f⟩
 .cases q
 obtain⟨v,j,i⟩:=f 1 s_
 grind [SL]
end
