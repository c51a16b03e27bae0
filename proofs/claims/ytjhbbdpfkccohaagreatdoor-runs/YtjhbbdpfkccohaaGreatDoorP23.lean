import Derived.Test.YtjhbbdpfkccohaaGreatDoorP22
set_option linter.all false
set_option maxRecDepth 100000
set_option maxHeartbeats 4000000
open List renaming length->Ty
open Go.World renaming setCell->Tz,alloc->T6,cell?->T_
open Option renaming some->Ua
open Go.Obj renaming cells->Uy
namespace Go.Proofs.YtjhbbdpfkccohaaGreatDoor
open Hs
open _root_.Go.Proofs.Tryz
open Go.RowKit
section
variable {fs:List aC} {B:aC->aM->dZ (aE × Bool)} {D g k d dd de:Nat} {e_:cY} {F G:bN} {w w0 w1 w2 W wr:aN} {m m1:DM} {s s0:aM} {nv lv u vv:aW} {x:bP} {vs:List aE} {l l':List (bP × aE)}
structure z_(F:bN)(w:aN)(x:bP)(l:List (bP × aE))(wr:aN)(vv:aW):Prop where
 re:R_ w wr
 zb:wr.heap[w.heap.size]?=Ua (Uy #[I_ 0,I_ 0,.string ⟨#[]⟩,bO] 130)
 i_:wr.heap[w.heap.size+1]?=Ua (Uy #[.string (bs x),I_ 0,vv] 162)
 row:Own 5 164 (xN F w) wr vv l
 new:∀b,vv.ownBlock=Ua b->w.heap.size+2<=b
def z_.al(h:z_ F w x l wr vv)(a:R_ wr w2):z_ F w x l w2 vv:=
 ⟨h.re.trans (a.mono h.re.size),(by grind [eg,z_.zb]),(by grind [eg,z_.i_]),h.row.h_ (λb q=>a.block b (h.row.lt b q)) s_,h.new⟩
def z_.grow(h:z_ F w x l wr vv)(a:wr.grownBy w2 vv.ownBlock)(g:Own 5 164 (xN F w) w2 u l')(i:u.ownBlock=vv.ownBlock\/u.ownBlock=Ua (H_ wr)):
 Hid (z_ F w x l' (Tz w2 (aL (H_ w+1) 2) u) u)/\dP w2 (H_ w+1) 2 vv/\w2.frozen? (aL (H_ w+1) 2)=false/\H_ w+1<H_ w2/\Hid (R_ w w2):=by
 have c:=aH h.i_;have d:∀b,b<=H_ w+1->Ua b≠vv.ownBlock:=λb q e=>by have:=h.new b e.symm;exact aD
 have hkb :=(a.block _ c (d _ mJ)).trans h.i_;have hb2 :=h.re.trans ⟨a.os,a.tape,a.output,a.size,mz⟩
 have f:∀b,u.ownBlock=Ua b->H_ w+2<=b:=(by grind)
 refine⟨⟨(by grind [Below.setCell]),(by grind [em,World.grownBy.block,z_.zb]),by rw[aP hkb];rfl,g.h_ (nj) s_,f⟩,(nH hkb).2.2.1,(nH hkb).2.2.2 2,G_,hb2⟩
theorem uo{f c:Type}:∀(l:List f) (m:List c) (i:Nat) (e:i<Ty l) (d:i<Ty m),(l.zip m).take (i+1)=(l.zip m).take i++[(l[i],m[i])]
 |a::l,b::m,0,_,_=>by simp
 |a::l,b::m,i+1,e,d=>by
  have:=uo l m i G_ G_
  simp[this]
def KM(fs:List aC)(F:bN)(W:aN)(mp:DM)(r:(aE × Bool) × aM)(pv sv:aW)(wc:aN):Prop:=
 ∃y lx lc,pv=bF y/\sv=.bool r.1.2/\W.heap.size<=y/\wc.heap[y]?=Ua (Uy #[I_ r.1.1.c_,I_ r.1.1.n,.string (bs r.1.1.s),.slice lx (Ty r.1.1.l) lc] 130)/\sy fs F W mp (r.1.1,r.2) (bY (.agg #[I_ r.1.1.c_,I_ r.1.1.n,.string (bs r.1.1.s),.slice lx (Ty r.1.1.l) lc])) wc
def PB.form{r:(aE × Bool) × aM}{e:Ending}(h:PB fs F w m r e w1):∃b a,e=bY (.tuple #[.agg #[I_ r.1.1.c_,I_ r.1.1.n,Q_ (bs r.1.1.s),P_ b (Ty r.1.1.l) a],.bool r.1.2])/\sy fs F w m (r.1.1,r.2) (bY (.agg #[I_ r.1.1.c_,I_ r.1.1.n,Q_ (bs r.1.1.s),P_ b (Ty r.1.1.l) a])) w1:=by obtain⟨u,rfl,h⟩:=h;have j:=h;obtain⟨v,G,k,c,⟨d,g,i,f⟩, -⟩:=h;grind [LV.slice]
def sy.from{r:aE × aM}{e:Ending}(h:cP fs F w m s)(k:R_ w w1)(a:sy fs F w1 m r e w2):sy fs F w m r e w2:=by obtain⟨u,G,l,f,c,j,d,i,b,g⟩:=a;exact⟨u,G,l,f,c,j,d,i,(h.re k).2.trans b,g⟩
def Tg{Z_:Prop}(Y_:Z_:=by go_wp2_with fail;rw[HD];exact bodyPost_ret (v:=.agg #[I_ r.1.1.c_,I_ r.1.1.n,Q_ (bs r.1.1.s),P_ lx (Ty r.1.1.l) lc]) ni rfl (HF _ _ _ _)):Z_:=Y_
def Hw{f b:aC}{Y:List aC}(h:cP fs F w m s)(hd:Ty s.f_<=15)(h1:x≠[108,101,110])(h2:x≠[114,101,97,100])(hf:dG fs x=Ua f)(hk:f.y_=Y++[b])(hv:LV de F w lv vs)(ae:∀v∈vs,dX v/\aK v<=200)(A:Ty vs=Ty Y)(co:Ty Y<=40000)(cl:Ty fs<=100000){r:(aE × Bool) × aM}
 (HB:∀G w1 m1 nv dd,cP fs G w1 m1 { s with f_:=s.f_++[⟨x,0,(f.y_.map (·.x_)).zip vs⟩] }->eZ dd G w1 nv b->Calls prog 109 #[bF m1.rb,nv] w1 (PB fs G w1 m1 r))
 (P:r.2.stop=0->∃fr f',r.2.f_=fr++[f']):
 Calls prog 60 #[bF m.rb,Q_ (bs x),lv] w (sy fs F w m (r.1.1,if r.2.stop=0 then { r.2 with f_:=r.2.f_.dropLast } else r.2)):=by
 obtain⟨lx,lc,ab⟩:=hv.slice;subst ab;obtain⟨s',bg⟩:∃s',s'=if r.2.stop=0 then { r.2 with f_:=r.2.f_.dropLast } else r.2:=(by simp)
 rw[<-bg];have bk:=aB bg;have cx:(bs x).toList=x:=aX _;have o1:(x==[108,101,110])=false:=G_
 have o2:(x==[114,101,97,100])=false:=G_
 have hW:R_ w (T6 w (cD #[I_ 0,I_ 0,Q_ ⟨#[]⟩,bO] 130)):=(by grind [ep,dz])
 obtain⟨dk,ah⟩:=h.vh;obtain⟨fx,fc,ca⟩:=ah.slice;have HFn:=aB (uF fs x m.fv F _ cl dk (ah.kp ((h.re hW).2.kp h)));rw[hf]at HFn;obtain⟨rx,rc,J, -⟩:=h.uy.slice;obtain⟨c0, -, -, -,c4, -⟩:=iA h.i_;rw[J,h.fr.length]at c4;rw[ca]at c0 HFn;have bp:=h.vw;have db:((Ty s.f_:Int)==16)=false:=G_
 have I:Ty f.y_=Ty Y+1:=G_
 have dm:Ty vs<=40000:=aD;have H:=aB (dy h (dy hv (dy ae (dy hk (dy I (dy A J))))));have HBc:=aB (dy HB P);have HW:=aB hW;clear h h1 h2 hf hk hv ae ah ca J HB P I hW bg A co;go_in
 go_wp2_with fail;refine HFn.mono ?_;rintro e w1 ⟨rfl,nv,rfl,an⟩;have an:eZ dk F _ nv f:=an;obtain⟨bo,fb,kv, -,rfl,p,bl, -, -, -,n3,bt⟩:=an.cells;rcases bt.get with ⟨-,q⟩|⟨gq,cb,rfl,t, -,z,o⟩
 .have:=H.2.2.2.2.1;rw[q]at this;simp at this
 have HK:=aB (dy p (dy t (dy n3 (dy o z))));have M0:z_ F w x [] (T6 (T6 w (cD #[I_ 0,I_ 0,Q_ ⟨#[]⟩,bO] 130)) (cD #[Q_ (bs x),I_ 0,bO] 162)) (bO):=⟨HW.alloc HW.size _,(eh _ _ _ s_).trans (bM w _ rfl),bM _ _ s_,.nil,λb e=>by cases e⟩
 have bv:=aB M0;clear an bt o n3 z M0 HFn p t bl;go_wp2
 go_loopg [11] (Ty vs) (λgk iv wr=>∃i vv,i+gk=Ty vs/\iv=I_ ((i:Nat):Int)/\z_ F w x (((f.y_.map (·.x_)).zip vs).take i) wr vv)
 case atStart=>exact⟨0,_,aD,rfl,bv⟩
 case round=>
  clear bv;obtain⟨i,vv,hi,rfl,hM⟩:=hrel;have HM:=aB hM;have C2:=(nH hM.i_).2.2.1;have df:=aH hM.i_;clear hM;by_cases bc:i<Ty vs
  .obtain⟨h,hv,ae, -,I,A, -⟩:=H.out;have cf:i<Ty f.y_:=aD;obtain⟨p,t,n3,o,z⟩:=HK.out;obtain⟨kp,k0,kr⟩:=o i cf;obtain⟨-,bi, -, -,rfl,ba, -, -, -,t2, -⟩:=kr.cells;obtain⟨ei,gl,ol,kl, -, -,rfl,cv,aj,l0,l1,l2,l3,af⟩:=hv.elem i bc;obtain⟨ax,ac,rfl⟩:=af.slice;have e1:(i:Int)<(Ty vs:Int):=aD;have e2:(0:Int)<=(i:Int):=aD;have e3:(i:Int)<(Ty f.y_:Int):=aD
   obtain⟨S,hS,T⟩:∃S:World->Prop,S=(λn=>T_ n (aL fb 3)=Ua (P_ (Ua (aL gq 0)) (Ty f.y_) cb)/\T_ n (aL gq i)=Ua (bF bi)/\T_ n (aL bi 2)=Ua (Q_ (bs f.y_[i].x_))/\T_ n (aL gl (ol+i*4))=Ua (I_ vs[i].c_)/\T_ n (aL gl (ol+i*4+1))=Ua (I_ vs[i].n)/\T_ n (aL gl (ol+i*4+2))=Ua (Q_ (bs vs[i].s))/\T_ n (aL gl (ol+i*4+3))=Ua (.slice ax vs[i].l.length ac))/\Hid (∀n,R_ w n->S n):=⟨_,rfl,λn q=>by
    have hw:∀{b j:Nat} {v:aW},F b->T_ w (aL b j)=Ua v->T_ n (aL b j)=Ua v:=λq1 q2=>(World.cell?_of_block (q.block _ (h.lt _ q1))).trans q2
    have O:∀{b j:Nat} {v:aW},F b->T_ (T6 w (cD #[I_ 0,I_ 0,Q_ ⟨#[]⟩,bO] 130)) (aL b j)=Ua v->T_ w (aL b j)=Ua v:=λq1 q2=>(World.cell?_of_block (eh _ _ _ (h.lt _ q1))).symm.trans q2
    exact⟨hw p (O p n3),hw t (O t k0),hw ba (O ba t2),hw aj l0,hw aj l1,hw aj l2,hw aj l3⟩⟩
   have HE:=aB (dy af (ae _ (ge bc)));obtain⟨vx,vn,vc,cw⟩:=gI HM.row;subst cw
   have HZ:Hid (((f.y_.map (·.x_)).zip vs).take (i+1)=((f.y_.map (·.x_)).zip vs).take i++[(f.y_[i].x_,vs[i])]):=by
    show _=_
    rw[uo _ _ i (by simpa using cf) bc];simp
   have cg:Ty (((f.y_.map (·.x_)).zip vs).take i)<=50000:=by simp;exact aD
   obtain⟨l,hl⟩:=E_ (((f.y_.map (·.x_)).zip vs).take i)
   rw[<-hl]at HM cg HZ;clear h hv ae I A p t n3 o z k0 kr t2 ba l0 l1 l2 l3 af aj cv hl;go_wp2_with fail;refine wp_region_held_drew (S:=S) k_ (T _ HM.re.drew) (λc=>?_)
   subst hS;refine eU 0 ?_;refine eU 1 ?_;refine eU 2 ?_;refine eU 3 ?_;refine eU 5 ?_;refine eU 6 ?_;refine eU 7 ?_;refine eU 8 ?_;refine eU 9 ?_;refine eU 10 ?_;refine eU 11 ?_;refine eU 12 ?_;refine eU 13 ?_;refine eU 14 ?_;refine eU 15 ?_;refine eU 16 ?_;refine eU 17 ?_;refine eU 18 ?_;refine eU 19 ?_;have hB:∀{n},R_ wr n->R_ w n:=λq=>HM.re.trans (q.mono HM.re.size)
   have cc:=aB λn=> @hB n
   clear hB;refine Az 4 20 (λK g=>?_) (λK g=>?_)
   go_simp;refine g.out _ _ c (λc=>?_)
   clear g K;refine sN 20 (λK g=>?_)
   go_simp;refine g.out _ _ (T _ (cc _ ko)) (λc=>?_)
   clear g K;rotate_left
   go_simp;refine g.out _ _ (T _ (cc _ ko)) (λc=>?_)
   clear g K;refine sN 4 (λK g=>?_)
   go_simp;refine g.out _ _ c (λc=>?_)
   clear g K
   all_goals
    refine sN 21 (λK g=>?_)
    refine rM r_ M4 r_ r_ (HM.al ko).row r_ (Src.one (b:=wr.heap.size) (a:=(f.y_[i].x_,vs[i])) (bM wr.drew _ rfl) rfl ⟨_,rfl,⟨_,HE.1⟩,HE.2⟩ lb) kj kz ?_
    intro v' w5 L al E;obtain⟨Q,m5,da,bz,cu⟩:=(HM.al ko).grow al L E
    obtain⟨ux,un,uc,rfl⟩:=gI L;refine g.out _ _ (T _ cu.out) (λc=>?_)
    clear g K L al E;refine eU 22 ?_;refine eU 23 ?_;refine sN 24 (λK g=>?_)
    go_simp;refine g.out _ _ (T _ Q.re) (λ_=>?_)
    clear g K;refine wpAnyH_done k_ ?_ _
    go_wp2
    go_roundg (gk-1)
    case measure=>exact aD
    case rel=>exact⟨i+1,_,aD,la,by rw[HZ];exact Q⟩
  obtain rfl:i=Ty vs:=aD;obtain⟨h, -, -,hk,I,A,J⟩:=H.out;rw[hQ kj]at HM
  obtain⟨f0,ar⟩:∃f0:iW,f0=⟨x,0,(f.y_.map (·.x_)).zip vs⟩:=⟨_,rfl⟩
  obtain⟨X,hX⟩:=E_ (T6 wr (cD #[bF (w.heap.size+1)] 160));have N:=HM.al (w2:=X) (by rw[hX];exact(dz _ _).alloc mJ _)
  have bm:X.heap[wr.heap.size]?=Ua (cD #[bF (w.heap.size+1)] 160):=by rw[hX];exact bM wr _ aJ
  obtain⟨hR,hp⟩:=h.re N.re;have cd:yK F X (w.heap.size+1,vv) f0:=⟨by rw[ar];exact N.i_,by rw[ar];exact N.row.h_ (λ_ _=>aJ) λ_ _ q=>q.kp (hp.kp h)⟩
  have c4:=(World.cell?_of_block (HM.re.block m.rb bp)).trans (iA h.i_).2.2.2.2.1;rw[J,h.fr.length]at c4;have dg:=ej bp HM.re.size;have cr:=aB J;have U:=aB (dy hR (dy hp (dy N (dy cd (dy bm (dy h.fr.length (dy ar hX)))))));have e1:¬(Ty vs:Int)<(Ty vs:Int):=aD
  have hn:∀b,b=w.heap.size+1\/vv.ownBlock=Ua b->w.heap.size<=b/\b∉m.rl/\¬F b:=λb q=>by
   have:w.heap.size<=b:=q.elim (λq=>aD) λq=>by have:=N.new b q;exact aD
   exact⟨this,λq=>by have:=h.xr _ q;exact aD,λq=>by have:=h.lt _ q;exact aD⟩
  have HN:=aB (dy hn (λe:vv.ownBlock=Ua (w.heap.size+1)=>by have:=N.new _ e;exact aD:vv.ownBlock≠Ua (w.heap.size+1)))
  clear h hk I A J hR hp N bm cd ar hn;go_wp2_with (at_builtin;rw[<-hX];refine nN r_ Kw r_ (by rw[cr,U.2.2.2.2.2.1];rfl) U.1.uy r_ (Src.one (b:=wr.heap.size) (a:=(w.heap.size+1,vv)) U.2.2.2.2.1 rfl rfl lb) (by rw[U.2.2.2.2.2.1];simp;exact aD) (by rw[U.2.2.2.2.2.1];unfold maxLen;simp;exact aD) ?_;intro v' w5 L al E;have hx:=U.1.push al L E U.2.2.2.1 (λb q=>(HN.1 b q).2) HN.2;have au:=hx.2.2.2.1.trans U.1.i_;have m5:=(iA au).2.2.2.2.1;have f5:=(iA au).2.2.2.2.2.2.2 4;have bz:=aH au;obtain⟨ux,un,uc,rfl⟩:=gI L;have Q:=aB hx;clear L al E au hx)
  obtain⟨W,hW⟩:=E_ (Tz w5 (aL m.rb 4) (P_ ux un uc));obtain⟨mp,ak⟩:∃mp:DM,mp={ m with rv:=P_ ux un uc,fs:=m.fs++[(w.heap.size+1,vv)] }:=⟨_,rfl⟩
  rw[<-hW,<-ak]at Q;rw[<-hW];have D:=U.2.2.1.re;have ay:Px F w m F W mp:=⟨λ_ q=>q,λ_ q=>.inl q,λb q q1=>(Q.2.1 b (ej q D.size) q1).trans (D.block b q),λb q=>(Q.2.2.1 b q).imp id λq=>q.elim (λq=>eo D.size q) λq=>(HN.1 b q).1,Q.2.2.2.2.os.trans D.os,Q.2.2.2.2.tape.trans D.tape,Q.2.2.2.2.output.trans D.output,eo D.size Q.2.2.2.2.size,by rw[ak]⟩
  have bn:W.heap[w.heap.size]?=Ua (cD #[I_ 0,I_ 0,Q_ ⟨#[]⟩,bO] 130):=(Q.2.1 _ (aH U.2.2.1.zb) H.1.fresh).trans U.2.2.1.zb
  have ce:w.heap.size∉mp.rl:=λq=>by
   rcases Q.2.2.1 _ q with q|q|q
   .exact H.1.fresh q
   .have:=aH U.2.2.1.zb;exact aD
   rcases q with q|q
   .exact eu (show w.heap.size=w.heap.size+1 from q) aD
   have:=U.2.2.1.new _ q;exact aD
  have M:cP fs F W mp { s with f_:=s.f_++[f0] }:=Q.1
  have am:=ay.kp H.1;obtain⟨p,t,n3,o,z⟩:=HK.out;have I:=H.2.2.2.2.1;obtain⟨kp,k0,kr⟩:=o (Ty Y) aD;have cp:f.y_[Ty Y]'aD=b:=by simp[H.out.2.2.2.1]
  rw[cp]at kr;have O:=(H.1.re HW).2.kp H.1;obtain⟨bb,rfl⟩:=kr.ptr;have bj:eZ bo F w (bF bb) b:=kr.h_ λq k=>(O.h_ q k).symm
  have bh:∀{q j:Nat} {v:aW},F q->T_ (T6 w (cD #[I_ 0,I_ 0,Q_ ⟨#[]⟩,bO] 130)) (aL q j)=Ua v->T_ W (aL q j)=Ua v:=λq1 q2=>am.cell q1 ((World.cell?_of_block (O.h_ _ q1)).symm.trans q2)
  have N3:=bh p n3;have K0:=bh t k0;have dl:=am.lt M.lt p;have dn:=am.lt M.lt t;rw[I]at N3;obtain⟨S,hS,T⟩:∃S:World->Prop,S=(λn=>T_ n (aL fb 3)=Ua (P_ (Ua (aL gq 0)) (Ty Y+1) cb)/\T_ n (aL gq (Ty Y))=Ua (bF bb))/\Hid (∀n,(∀q,F q->n.heap[q]?=W.heap[q]?)->S n):=⟨_,rfl,λn q=>⟨(World.cell?_of_block (q _ p)).trans N3,(World.cell?_of_block (q _ t)).trans K0⟩⟩
  have HQ:=aB λn (q:R_ W n)=>HBc.1 F n mp (bF bb) bo (by rw[<-U.2.2.2.2.2.2.1];exact(M.re q).1) ((bj.kp am).kp ((M.re q).2.kp M))
  have e2:(0:Int)<=(Ty Y:Int):=aD;have e3:(Ty Y:Int)<(Ty Y:Int)+1:=aD;have e4:IntKind.i64.wrap (Ty Y:Int)=(Ty Y:Int):=by have:=H.2.2.2.2.2.1;rw[IntKind.wrap_i64];exact aD
  have bq:mp.rb=m.rb:=by rw[ak]
  rw[bq]at HQ;have B:=aB (dy M (dy ay (dy ce (dy bn (show mp.fs=m.fs++[(w.heap.size+1,vv)] by rw[ak])))))
  clear ay bn ce M am p t n3 o z k0 kr O bj bh N3 K0 D ak hW Q c4 m5 f5 bz hX;go_cut [12,13] (λpv sv wc=>KM fs F W mp r pv sv wc)
  case first=>
   refine wp_region_held_drew (S:=S) k_ (T _ λ_ _=>rfl) (λc=>?_)
   subst hS;refine eU 0 ?_;refine eU 1 ?_;refine eU 2 ?_;refine eU 3 ?_;refine eU 4 ?_;refine eU 5 ?_;refine eU 6 ?_;refine eU 7 ?_;refine eU 8 ?_;refine eU 9 ?_;refine eU 10 ?_;refine eU 11 ?_;refine eU 12 ?_;refine Az 13 17 (λK g=>?_) (λK g=>?_)
   go_simp;go_at_call 109
   refine(HQ _ ko).mono ?_
   intro e w6 k;obtain⟨ap,aq,rfl,aa⟩:=k.form
   have Z:(∀q,F q->w6.heap[q]?=W.heap[q]?)/\W.heap.size<=w6.heap.size:=by obtain⟨-,G,m', -, -, -, -, -,C, -⟩:=aa;exact⟨λq k=>C.uz q (B.1.lt q k) λx=>B.1.nf q x k,C.size⟩
   have V:=aB (dy Z (sy.from B.1 (dz _ _).drew aa))
   clear k aa Z;go_wp2_with fail;refine g.out _ _ (T _ V.1.1) (λc=>?_)
   clear g K;refine eU 14 ?_;refine eU 15 ?_;refine eU 16 ?_;refine sN 17 (λK g=>?_)
   go_simp;refine g.out _ _ (T _ λq k=>(eh _ _ _ (ej (B.1.lt q k) V.1.2)).trans (V.1.1 q k)) (λc=>?_)
   clear g K;refine sN 18 (λK g=>?_)
   go_simp;refine g.out _ _ (T _ λq k=>(eh _ _ _ (ej (B.1.lt q k) V.1.2)).trans (V.1.1 q k)) (λc=>?_)
   clear g K;refine eU 19 ?_;refine wpAnyH_done k_ ?_ _
   go_wp2_with fail;go_meet
   case rel=>exact⟨w6.heap.size,ap,aq,aJ,aJ,V.1.2,bM _ _ aJ,V.2.more ((dz _ _).alloc mJ _)⟩
   go_simp;refine g.out _ _ (T _ λq k=>eh _ _ _ (B.1.lt q k)) (λc=>?_)
   clear g K;refine sN 13 (λK g=>?_)
   go_simp;go_at_call 109
   have ad:R_ W (T6 W (cD #[I_ 0,I_ 0,Q_ ⟨#[]⟩,bO] 130)).drew:=((dz _ W).alloc mJ _).drew;refine(HQ _ ad).mono ?_;intro e w6 k;obtain⟨ap,aq,rfl,aa⟩:=k.form
   have Z:((∀q,F q->w6.heap[q]?=W.heap[q]?/\q≠W.heap.size)/\W.heap.size<=w6.heap.size)/\w6.heap[W.heap.size]?=Ua (cD #[I_ 0,I_ 0,Q_ ⟨#[]⟩,bO] 130)/\∀v0 v1 v2 v3,sy fs F W mp (r.1.1,r.2) (bY (.agg #[I_ r.1.1.c_,I_ r.1.1.n,Q_ (bs r.1.1.s),P_ ap (Ty r.1.1.l) aq])) (Tz (Tz (Tz (Tz w6 (aL W.heap.size 0) v0) (aL W.heap.size 1) v1) (aL W.heap.size 2) v2) (aL W.heap.size 3) v3):=by obtain⟨u6,G,m',cj,⟨d6,ch⟩,br,cn,cq,C,cs⟩:=aa;cases cj;have bw:W.heap.size∉mp.rl:=B.1.fresh;have ci:=C.size;simp at ci;refine⟨⟨λq k=>⟨(C.uz q (ej (B.1.lt q k) ad.size) λx=>B.1.nf q x k).trans (ad.block q (B.1.lt q k)),by have:=B.1.lt q k;exact aD⟩,aD⟩,C.i_ (bM W _ rfl) bw,λv0 v1 v2 v3=>sy.fin cq ((B.1.re ad).2.trans C) ⟨fi _,λq=>(C.mu _ q).elim bw λq=>by simp at q;exact aD,λq=>(C.new _ q).elim (λq=>by have:=B.1.lt _ q;exact aD) λq=>by simp at q;exact aD⟩ ch br cn cs v0 v1 v2 v3⟩
   obtain⟨ct,y0,y1,y2,y3,g0,g1,g2,g3⟩:=kR Z.2.1;have V:=aB Z;clear k aa Z ad;go_wp2_with fail;refine g.out _ _ (T _ λq k=>(V.1.1 q k).1) (λc=>?_)
   clear g K;refine eU 14 ?_;refine eU 15 ?_;refine eU 16 ?_;refine sN 18 (λK g=>?_)
   go_simp;refine g.out _ _ (T _ λq k=>(dF _ (V.1.1 q k).2 _ _ _ _).trans (V.1.1 q k).1) (λc=>?_)
   clear g K;refine eU 19 ?_;refine wpAnyH_done k_ ?_ _
   go_wp2_with fail;go_meet
   case rel=>exact⟨W.heap.size,ap,aq,aJ,aJ,mJ,rC V.2.1 _ _ _ _,V.2.2 _ _ _ _⟩
  case rest=>
   clear hS T HQ;obtain⟨y,lx,lc,rfl,rfl,hy,az,u,G,m2,he,⟨d2,dj,hu,ab⟩,ao,hc,hR,hp,hf⟩:=hcut;cases he;cases hu;have hP:=B.2.1.trans hp;have zb:=hp.i_ B.2.2.2.1 B.2.2.1;have dh:=aH B.2.2.2.1;have hz:w.heap.size<=w.heap.size/\w.heap.size∉m2.rl/\¬G w.heap.size:=⟨fi _,λq=>(hp.mu _ q).elim B.2.2.1 λq=>aD,λq=>(hp.new _ q).elim (λq=>by have:=H.1.lt _ q;exact aD) λq=>aD⟩
   obtain⟨cz,z0,z1,z2,z3,dc,f1,f2,f3⟩:=kR zb;obtain⟨ct,y0,y1,y2,y3, -⟩:=kR az;obtain⟨-, -, -, -,c4, -,c6,fz⟩:=iA hR.i_;have ck:=fz 4;have bu:=hR.vw;rw[hP.rb]at c4 c6 ck bu;by_cases hs:r.2.stop=0
   .obtain⟨fr,f',P⟩:=HBc.2 hs;obtain⟨ai,p2,bd, -, -⟩:=hR.last P;obtain⟨bx,bf⟩:=hR.re (dz _ wc).drew;obtain⟨xx,xc,av,dq,cm,be,ag⟩:=bx.pop bd P;rw[av]at c4;unfold maxLen at cm
    have aw:ai.map (·.1)=m.fs.map (·.1):=by have:=hf hs;rw[bd,B.2.2.2.2,fw,fw]at this;exact(gd this aJ).1
    have e5:((r.2.stop:Int)==0)=true:=by simp[hs]
    have e6:(0:Int)<=(Ty ai:Int):=aD;have e7:(Ty ai:Int)<=(xc:Int):=aD;have e8:IntKind.i64.wrap (Ty ai:Int)=(Ty ai:Int):=by rw[IntKind.wrap_i64];exact aD
    have cy:y≠m.rb:=λe=>by have:=H.1.vw;have:=B.2.1.size;exact aD
    have di:w.heap.size≠m.rb:=λe=>H.1.fresh (show w.heap.size∈m.rl from e▸DM.wg)
    rw[hP.rb]at be ag;have HF:=aB (sy.fin be (hP.trans (bf.trans ag)) ⟨fi _,λq=>(ag.mu _ q).elim hz.2.1 λq=>by have q:wc.heap.size<=w.heap.size:=q;exact aD,hz.2.2⟩ ⟨_,rfl,ab.kp ((bf.trans ag).kp hR)⟩ ao (λ_=>hc hs) λ_=>aw)
    have HD:Hid (s'={ r.2 with f_:=fr }):=by show _=_;rw[bk,ef hs,P];simp
    clear ab ao hc hR hp hf hP zb hz az fz bx bf be ag aw P bd av;go_wp2
    go_region
    go_wp2_with fail;rw[HD];exact bodyPost_ret (v:=.agg #[I_ r.1.1.c_,I_ r.1.1.n,Q_ (bs r.1.1.s),P_ lx (Ty r.1.1.l) lc]) ni rfl (HF _ _ _ _)
   have e5:((r.2.stop:Int)==0)=false:=by simp;exact aD
   have HF:=aB (sy.fin (d:=d2) hR hP hz ⟨_,aJ,ab⟩ ao (λq=>eu q hs) λq=>eu q hs)
   have HD:Hid (s'=r.2):=by show _=_;rw[bk,ea hs]
   clear ab ao hc hR hp hf hP zb hz az fz;go_wp2_with fail;rw[HD];exact bodyPost_ret (v:=.agg #[I_ r.1.1.c_,I_ r.1.1.n,Q_ (bs r.1.1.s),P_ lx (Ty r.1.1.l) lc]) ni rfl (HF _ _ _ _)
end
structure KR(fs:List aC)(D:Nat):Prop where
 ok:∀f∈fs,gX fs D f
 lit:∀f∈fs,∀k∈f.y_,jX k
 kl:∀f∈fs,Ty f.y_<=40000
 fl:Ty fs<=100000
section
variable {fs:List aC} {B:aC->aM->dZ (aE × Bool)} {D g k d dd de:Nat} {e_:cY} {F G:bN} {w w1:aN} {m m1:DM} {s:aM} {nv lv:aW} {x:bP} {vs:List aE} {r:aE × aM}
theorem YX(V:BC fs D g B)(K:vM fs D g B)(P:KR fs D)(h:cP fs F w m s)(hs:s.stop=0)(hd:Ty s.f_+k=16)(E:Ty s.rm<=500)(S:LV de F w lv vs)(L:∀v∈vs,dX v/\aK v<=200)
 (hx:(x=[108,101,110]/\Ty vs=1)\/x=[114,101,97,100]\/(x≠[108,101,110]/\x≠[114,101,97,100]/\gE fs (dV fs x)=Ua (Ty vs))) (hg:k*(D+2)<=g) (d:jV fs B x vs s=Ua r):Calls prog 60 #[bF m.rb,Q_ (bs x),lv] w (sy fs F w m r):=by
 have o:∃y n c,lv=P_ y n c:=by grind [LV.slice]
 rcases hx with ⟨rfl,C⟩|rfl|⟨C,M,h3⟩
 .match vs,C with
  |[a],_=>
   simp[jV]at d;subst d;exact y9 h S G_
 .cases A:s.tape with
  |nil=>
   simp[jV,A]at d;subst d;exact Rf h A o
  |cons i tl=>
   simp[jV,A]at d;subst d;exact Rj h A o
 unfold jV at d;rw[ea G_,ea G_]at d
 by_cases p:Ty s.f_=16
 .rw[ef p]at d;cases d;exact Gk h C M p o
 rw[ea p]at d;obtain⟨f,Q,I,hn⟩:=uT h3;obtain⟨J,b,O,N, -⟩:=(P.ok f I).y_;obtain⟨k,rfl⟩:∃j,k=j+1:=⟨k-1,aD⟩;have Y:Ty J=Ty vs:=G_
 have H:Ty J<=40000:=by grind [KR.kl]
 have u:Hs.rq k (J.map (·.x_)).reverse { s with f_:=s.f_++[⟨x,0,(f.y_.map (·.x_)).zip vs⟩] }:=
  ⟨hs,(by grind [vR,List.map_fst_zip]),G_,E,G_⟩
 have t:k*(D+2)+D+1<=g:=G_
 obtain⟨v,e,Z,T,W⟩:=K k D _ b _ N u t;have l:f.y_.getLast?.getD f=b:=by simp[O]
 rw[Q]at d;simp only[l,T]at d;cases d
 exact Hw (r:=((v,e),Z)) h aD C M Q O S L Y.symm H P.fl (λG U m1 X dd hR z=>V k D dd _ G U m1 _ X b _ hR u (by grind [aM.g_]) z N ((by grind [KR.lit])) t T) λq=>by obtain⟨-,fr,a,a', -,q2, -⟩:=W.go q;grind
theorem D_(a:KR fs D):∀g,VC fs D g (qT fs g).1/\BC fs D g (qT fs g).2
 |0=>(by grind [VC,qT,BC])
 |g+1=>by obtain⟨d,e⟩:=D_ a g;obtain⟨b,c⟩:=sU a.ok a.kl g;exact⟨b9 d b (Qu (by grind [YX,Hs.rq.stop,Hs.rq.deep,Hs.rq.rm,CC])),E6 b c (y8 d b e c)⟩
end
structure PG(F:bN)(w w':aN)(v:aW)(l:List gC):Prop where
 row:∃G:Nat->Prop,Own 6 78 (yt G w') w' v l.zipIdx/\(∀b,G b->(F b\/w.heap.size<=b)/\b<w'.heap.size)/\∀b,v.ownBlock=Ua b->w.heap.size<=b/\¬G b
 re:R_ w w'
 len:Ty l<=1000
section
variable {fs:List aC} {D g k d dd de:Nat} {F G:bN} {w w1 w2:aN} {m m1:DM} {s s1:aM} {nv tv:aW} {n:aC} {tape:List Int} {l:List gC}
def cP.new{c:Nat}{a:aW}(d:nK (eZ c F w) F w a fs)(g:∀b,F b->b<H_ w)(h:mK F w tv tape)(f:Ty tape<=17592186044416):
 cP fs F (eH w #[a,tv,I_ 0,bO,bO,bO,I_ 0] 127) ⟨H_ w,a,tv,0,bO,bO,bO,[]⟩ ⟨[],tape,[],[],0⟩:=by
 have e:Kp F w F (eH w #[a,tv,I_ 0,bO,bO,bO,I_ 0] 127):=⟨s_,qo⟩
 exact⟨bM w _ aJ,⟨c,d.kp e⟩,(by grind [mK.kp]),.nil,.nil,.nil,trivial,by simp[DM.rl,ob,Value.ownBlock],(by grind [DM.rl,ob,Value.ownBlock]),λb q=>by have:=g b q;simp;exact aD,s_⟩
def PG.of{o:Obj}{e:aW}(a:Px F (w.alloc o) ⟨H_ w,e,tv,0,bO,bO,bO,[]⟩ G w1 m1)(c:cP fs G w1 m1 s)(f:Ty s.rm<=1000):PG F w w1 m1.mv s.rm:=by
 have h:∀b,b∈(⟨H_ w,e,tv,0,bO,bO,bO,[]⟩:DM).rl->b=H_ w:=(by grind [DM.rl,ob,Value.ownBlock])
 have g:=a.size;simp at g;refine⟨⟨G,c.vo,λb q=>⟨(a.new b q).imp id λq=>by simp at q;exact aD,c.lt b q⟩,λb q=>?_⟩,⟨a.os,a.tape,a.output,aD,λb q=>(a.uz b kj G_).trans (eh _ _ _ q)⟩,f⟩
 have d:b∈m1.rl:=by simp[DM.rl,mG.2 q]
 exact⟨(a.mu b d).elim (G_) λx=>by simp at x;exact aD,c.nf b d⟩
def Hp(r:KR fs D)(hm:gE fs (dV fs [109,97,105,110])=Ua 0)(hn:eZ dd F w nv n)(hk:n.y_=fs)(hF:∀b,F b->b<H_ w)(Z:mK F w tv tape)(C:Ty tape<=17592186044416)(J:sM fs (16*(D+2)) tape=Ua l):
 Calls prog 20 #[nv,tv] w λe B=>∃v,e=bY v/\PG F w B v l:=by
 obtain⟨d',nb,kv, -,rfl,ac,ag, -, -, -,n3,i⟩:=hn.cells;rw[hk]at i;obtain⟨kx,kc,rfl⟩:=i.slice
 obtain⟨tx,tn,tc,rfl⟩:∃x n c,tv=P_ x n c:=by grind [mK]
 have h0:=cP.new i hF Z C;obtain⟨gV,N⟩:=sU r.ok r.kl (16*(D+2));obtain⟨v,s1,Q,d⟩:=tE N r.ok (k:=16) (s:=⟨[],tape,[],[],0⟩) rfl rfl s_ ⟨s_,s_,by simp[aM.g_]⟩ r.kl (aD) [109,97,105,110] [] (by simp[hm])
 have HC:=aB (YX (de:=0) (lv:=bO) (D_ r _).2 N r h0 aJ (k:=16) aJ s_ (LV.empty _ _ _) s_ (G_) (aD) Q)
 unfold sM at J;rw[Q]at J;have p:=aB (ft J);have g:=d.bd;have ah:=g.fr;have aa:=g.mo;have ab:=g.va;clear J h0 r hn i hF Z C gV N Q d g hk;go_in
 go_wp2_with fail;apply HC.mono
 rintro e w1 ⟨u,G,V,rfl,⟨d1,ae,rfl,m⟩, -, -,E,q, -⟩;obtain⟨ux,uc,rfl⟩:=m.slice;obtain⟨-, -, -, -, -,K,c6,fz⟩:=iA E.i_;have y:=E.vw;have t:=fz 6;obtain⟨mx,mc,j, -⟩:=E.vo.slice;rw[ij]at j;rw[j]at K;rw[q.rb]at K c6 t y;simp only at K c6 t y;have H:=aB (dy E q);have U:=aB j;clear E q m fz HC j
 have a:∀{o:aM},Hid (l=o.notes.rm)->o.rm=s1.rm->∀{L:aN},cP fs G L V o->Px G w1 V G L V->o.f_=s1.f_->Calls prog 61 #[bF (H_ w)] L λe B=>e=fD/\∃x n c,dP B (H_ w) 5 (P_ x n c)/\H_ w<H_ B/\Hid (PG F w B (P_ x n c) l):=λ{o} hl af {L} A T W=>by
  have ad:o.g_=s1.g_:=by simp[aM.g_,W]
  have:=AA A G_ G_ (by have:=A.ol;exact aD) G_
  rw[H.out.2.rb]at this;refine rf this λw3 ⟨G3,mv,f,O⟩=>?_
  have X:=H.2.trans (T.trans O);have hM:=PG.of X f (by grind [aM.notes])
  obtain⟨x,c,e, -⟩:=f.vo.slice;have K:=(iA f.i_).2.2.2.2.2.1;have z:=f.vw;grind [d7]
 by_cases Y:s1.stop=9
 .have e9:((s1.stop:Int)==9)=true:=by simp[Y]
  rw[ef Y]at p;clear a;go_wp2
  go_ret;exact⟨_,aJ,by rw[<-U,<-p];exact PG.of H.2 H.1 aD⟩
 have e9:((s1.stop:Int)==9)=false:=G_
 rw[ea Y]at p;by_cases P:s1.stop=0
 .have ez:((s1.stop:Int)==0)=true:=by simp[P]
  rw[ef P]at p;obtain⟨q1,q2⟩:=H.1.uf 1;have I:=aB (a (o:={ s1 with stop:=1 }) p.symm rfl q1 q2 rfl)
  rw[H.out.2.rb]at I;clear a q1 q2;go_wp2_with fail;refine rf I λw3 ⟨x,xn,c,S,z,M⟩=>?_
  go_wp2
  go_ret;exact⟨_,aJ,M.out⟩
 have ez:((s1.stop:Int)==0)=false:=G_
 rw[ea P]at p;have I:=aB (a (o:=s1) p.symm aJ H.1 .refl aJ);clear a;go_wp2_with fail;refine rf I λw3 ⟨x,xn,c,S,z,M⟩=>?_
 go_wp2
 go_ret;exact⟨_,aJ,M.out⟩
end
section
variable {F:bN} {tape:List Int} {tv:aW} {s:ByteArray} {w:aN} {ks:List aC} {l:List gC}
def mK.sl(a:mK F w tv tape):∃x n c,tv=P_ x n c:=by grind [mK]
def O7(m:fN w)(x:s.size<=maxLen)(l:mK F w tv tape)(g:(dR s.data.toList).1≠0):
 Calls prog 7 #[.string s,tv] w λe y=>e=bY (.tuple #[.pointer none,.agg #[I_ (dR s.data.toList).1,I_ (dR s.data.toList).2]])/\R_ w y:=by
 have d:R_ w (T6 w (Uy #[I_ 0,I_ 0] 43)):=(by grind [ep,dz])
 obtain⟨J,H,B,rfl⟩:=l.sl;have q:=aB (US s _ (m.below d) x);obtain⟨r,k⟩:∃r,r=dR s.data.toList:=(by simp)
 rw[<-k]at g ⊢
 have f:=aB (dy g k);have z:((r.1:Int) != 0)=true:=G_
 clear m x l g k;go_in
 go_wp2_with fail;apply q.mono
 rintro e b ⟨c,p⟩;rw[<-f.2,ea f.1]at p;subst p;have a:b.heap[w.heap.size]?=Ua (Uy #[I_ 0,I_ 0] 43):=(by grind [eg,bM])
 have A:=aF (i:=0) a;have C:=aF (i:=1) a;have G:=aA (i:=0) a aJ;have E:=aA (i:=1) a aJ;have I:=aH a;have D:=aB (d.trans (c.mono d.size));have j:=λo=>(eh _ o _ (by simpa using aH a)).trans (aP (i:=1) (u:=I_ r.2) (aP (i:=0) (u:=I_ r.1) a))
 have t:∀o,T_ ((Tz (Tz b (aL w.heap.size 0) (I_ r.1)) (aL w.heap.size 1) (I_ r.2)).alloc o) (aL w.heap.size 0)=Ua (I_ r.1):=(by grind [aA])
 have n:∀o,T_ ((Tz (Tz b (aL w.heap.size 0) (I_ r.1)) (aL w.heap.size 1) (I_ r.2)).alloc o) (aL w.heap.size 1)=Ua (I_ r.2):=(by grind [aA])
 have Y:=aB (dy t n);clear c a d q f j t n;go_wp2
 go_region
 go_wp2_with fail
 all_goals
  refine bodyPost_ret (v:=.tuple #[.pointer none,.agg #[I_ r.1,I_ r.2]]) (by simp[results,results7,go_sem,Y.out.1,Y.out.2]) rfl ⟨rfl,?_⟩
  grind [Below.drew,ep,Below.setCell,d7,Below.size]
def XU(L:fN w)(Z:s.size<=maxLen)(T:∀b,F b->b<w.heap.size)(E:mK F w tv tape)(u:Ty tape<=17592186044416)(K:dR s.data.toList=(0,0))(V:eA s.data.toList=.ok ks)(hP:KR ks 2001)(ha:gE ks (dV ks [109,97,105,110])=Ua 0)(X:sM ks (16*(2001+2)) tape=Ua l):
 Calls prog 7 #[.string s,tv] w λe r=>∃b v G,e=bY (.tuple #[bF b,.agg #[I_ 0,I_ 0]])/\R_ w r/\r.heap[b]?=Ua (Uy #[v,I_ 0,bO] 29)/\w.heap.size<=b/\Own 6 78 (yt G r) r v l.zipIdx/\(∀x,G x->(F x\/w.heap.size<=x)/\x<r.heap.size)/\(∀x,v.ownBlock=Ua x->w.heap.size<=x)/\Ty l<=1000:=by
 have c:R_ w (T6 w (Uy #[I_ 0,I_ 0] 43)):=(by grind [ep,dz])
 obtain⟨tx,tn,tc,rfl⟩:=E.sl;have S:=aB (US s _ (L.below c) Z);have H:=aB (dy T (dy E (dy u (dy hP (dy ha X)))));have J:=aB (dy K V);clear L Z T E u hP ha X K V;go_in
 go_wp2_with fail;apply S.mono
 rintro e j ⟨A,O⟩;rw[ef (by rw[J.1])]at O
 obtain⟨b,aa,rfl,N,dd,g⟩:=O;rw[J.2]at N;cases N;have d:=c.trans (A.mono c.size);have U:j.heap[w.heap.size]?=Ua (Uy #[I_ 0,I_ 0] 43):=(by grind [eg,bM])
 have z:R_ w (T6 j (Uy #[I_ 0,I_ 0] 43)):=d.alloc d.size _;have t:∀k,k<j.heap.size->(T6 j (Uy #[I_ 0,I_ 0] 43)).heap[k]?=j.heap[k]?:=(by grind [eh])
 have Y:=aB (Hp (F:=λx=>F x\/rn (T6 w (Uy #[I_ 0,I_ 0] 43)).heap.size j.heap.size x) (w:=T6 j (Uy #[I_ 0,I_ 0] 43)) (n:=aV [112,114,111,103,114,97,109] 0 [] ks) (tv:=.slice tx tn tc) H.2.2.2.1 H.2.2.2.2.1 (g.kp ⟨G_,λx q=>t x q.2⟩) rfl ((by grind [d7,rn])) (H.2.1.kp ⟨G_,(by grind [eg,d7])⟩) H.2.2.1 H.2.2.2.2.2)
 have m:=aB (dy U (dy d z));clear g A U d z t c S;go_wp2_with fail;apply Y.mono
 rintro e f ⟨v,rfl,⟨⟨G,p,D,B⟩,C,I⟩⟩;obtain⟨Q,P,y, -⟩:=p.slice;rw[ij]at y;subst y;have a:=(C.block w.heap.size (ej (aH m.1) s_)).trans ((eh _ _ _ (aH m.1)).trans m.1)
 have f0:=aF (i:=0) a;have f1:=aF (i:=1) a;have z0:=aA (i:=0) a aJ;have z1:=aA (i:=1) a aJ;have zl:=aH a;have M:=aB (dy p (dy D (dy B (dy C I))));clear p D B C a Y;obtain⟨W,c⟩:∃W,W=T6 (Tz (Tz f (aL w.heap.size 0) (I_ 0)) (aL w.heap.size 1) (I_ 0)) (Uy #[.slice Q (Ty l) P,I_ 0,bO] 29):=(by simp)
 have HF:Hid (R_ w W/\W.heap[f.heap.size]?=Ua (Uy #[.slice Q (Ty l) P,I_ 0,bO] 29)/\(∀k,k<f.heap.size->k≠w.heap.size->W.heap[k]?=f.heap[k]?)/\f.heap.size<=W.heap.size):=by have hb:=m.2.2.trans (M.2.2.2.1.mono m.2.2.size);rw[c];exact⟨(by grind [ep,Below.setCell,Below.size]),bM _ _ s_,(by grind [eh,em]),s_⟩
 go_wp2_with fail;rw[<-c];have y0:T_ W (aL w.heap.size 0)=Ua (I_ 0):=by rw[c];simp[go_sem,z0,zl]
 have y1:T_ W (aL w.heap.size 1)=Ua (I_ 0):=by rw[c];simp[go_sem,z1,zl]
 obtain⟨p,D,B,C,I⟩:=M.out;obtain⟨g1,g2,g3,g4⟩:=HF.out
 have hG:∀x,G x->x≠w.heap.size/\(F x\/w.heap.size<=x)/\x<f.heap.size:=λx q=>by
  have h1:=m.2.2.size;obtain⟨o,h3⟩:=D x q;rcases o with (o|o)|o
  .grind [d7]
  .have:=o.1;simp at this;exact aD
  simp at o;grind [d7]
 refine bodyPost_ret (v:=.tuple #[bF f.heap.size,.agg #[I_ 0,I_ 0]]) (by simp[results,results7,go_sem,y0,y1]) rfl ⟨_,_,G,rfl,g1,g2,aD,p.h_ (λx q=>g3 x (p.lt x q) ?_) λ_ _ q=>q.kp ⟨s_,G_⟩,G_,λx q=>?_,I⟩
 all_goals
  have:=(B x q).1;have:=aH m.1;simp at*;exact aD
end
