import Derived.Test.YthnhjhlinlhflaaGreatDoorP18
import Derived.Test.YthnhjhlinlhflaaGreatDoorP21
set_option linter.all false
set_option maxRecDepth 100000
set_option maxHeartbeats 0
open List renaming length->aA
open Go.World renaming setCell->c9,alloc->h_,cell?->i9
open Option renaming some->Wj
open Bool renaming false->Wl,true->Wm
open Go renaming Calls->Wn,Value->Wo,World->Wp,TypeId->Wr,Addr->Ws
open Go.Proofs.Tryz renaming prog->Ww
open Go.Value renaming slice->Wz,agg->W1,pointer->W_,tuple->Xa,bool->Xc
open Go.Obj renaming cells->Xe
namespace Go.Proofs.YthnhjhlinlhflaaGreatDoor
open Hs
open _root_.Go.Proofs.Tryz
open Instr(typeAssert)
open Go.RowKit
variable{I:List oo}{e:List Int}{l:List aG}{A:List eI}{E J K:Nat}{d:Type}{f:aG}{w:aL}{g:aM}{v:aU}{R:bI}{s:bL}{m:cU}{H:iD}
def ve(t:Wr)(f:Nat):Prop:=(∀recv w,(Go.method 597 t recv "hindsight/machine.do").run Ww w=.ok (f,recv) w)/\∀a b w,(callFunc f #[a,b]).run Ww w=.ok (.enter f #[a,b]) w
def iQ(t:Wr):Prop:=∀v w,(typeAssert (.iface t v) 271 277 Wm).run Ww w=.ok (Xa #[W1 #[Y 0,W_ none],Xc Wl]) w
def Qh(v:aU)(w:aL):(typeAssert (dA 277 v) 271 277 Wm).run Ww w=.ok (Xa #[v,Xc Wm]) w:=k_
def V6:ve 277 344:=⟨λ_ _=>by kernel_rfl,s_⟩
def Ir:ve 266 341:=⟨λ_ _=>by kernel_rfl,s_⟩
def Lx:ve 398 360:=⟨λ_ _=>by kernel_rfl,s_⟩
def TR:ve 369 348:=⟨λ_ _=>by kernel_rfl,s_⟩
def ZW:ve 371 349:=⟨λ_ _=>by kernel_rfl,s_⟩
def Tr:ve 409 369:=⟨λ_ _=>by kernel_rfl,s_⟩
def ZT:ve 408 368:=⟨λ_ _=>by kernel_rfl,s_⟩
def NV:ve 435 386:=⟨λ_ _=>by kernel_rfl,s_⟩
def U9:ve 433 385:=⟨λ_ _=>by kernel_rfl,s_⟩
def U8:ve 403 365:=⟨λ_ _=>by kernel_rfl,s_⟩
def ZV:ve 432 376:=⟨λ_ _=>by kernel_rfl,s_⟩
def V5:ve 401 363:=⟨λ_ _=>by kernel_rfl,s_⟩
def Vc:ve 400 361:=⟨λ_ _=>by kernel_rfl,s_⟩
def ZU:ve 410 370:=⟨λ_ _=>by kernel_rfl,s_⟩
def Mk:ve 411 373:=⟨λ_ _=>by kernel_rfl,s_⟩
def Jx:ve 413 374:=⟨λ_ _=>by kernel_rfl,s_⟩
def Ml:ve 268 343:=⟨λ_ _=>by kernel_rfl,s_⟩
def Qo:ve 375 359:=⟨λ_ _=>by kernel_rfl,s_⟩
def NW:ve 374 357:=⟨λ_ _=>by kernel_rfl,s_⟩
def Vf:iQ 266:=λ_ _=>by kernel_rfl
def Ng:iQ 398:=λ_ _=>by kernel_rfl
def N5:iQ 369:=λ_ _=>by kernel_rfl
def M_:iQ 371:=λ_ _=>by kernel_rfl
def Lh:iQ 409:=λ_ _=>by kernel_rfl
def On:iQ 408:=λ_ _=>by kernel_rfl
def XP:iQ 435:=λ_ _=>by kernel_rfl
def Ql:iQ 433:=λ_ _=>by kernel_rfl
def Pv:iQ 403:=λ_ _=>by kernel_rfl
def Nq:iQ 432:=λ_ _=>by kernel_rfl
def Og:iQ 401:=λ_ _=>by kernel_rfl
def Om:iQ 400:=λ_ _=>by kernel_rfl
def Vg:iQ 410:=λ_ _=>by kernel_rfl
def Md:iQ 411:=λ_ _=>by kernel_rfl
def Ho:iQ 413:=λ_ _=>by kernel_rfl
def Hm:iQ 268:=λ_ _=>by kernel_rfl
def Um:iQ 375:=λ_ _=>by kernel_rfl
def XQ:iQ 374:=λ_ _=>by kernel_rfl
def Ef(t:Wr)(z:aU)(b:Bool):Prop:=(t=277/\(∃l p,z=W1 #[Y l,W_ p])/\b=Wm)\/(iQ t/\b=Wl)
def Lb(w:aL)(i:Nat)(L:Nat->Wp->Prop)(P:lF)(S:Nat->Wp->Prop)(M:Nat->Nat->Nat->Wp->Prop)(N:Nat->Wr->Wo->Nat->Bool->Wp->Prop)(H:Nat)(o:L H w) (HL:Hid (∀k W,L k W->∃x n c,eJ W i 1 (P_ x n c)/\i<H_ W/\n<=16/\(n=0->S 1 W)/\(n≠0->∃j,k=j+1/\∃f g,M j f g W))) (U:Hid (∀j f g W,M j f g W->Wn Ww 152 #[aW i] W λe d=>e=bP (W_ (Wj (aJ f g)))/\M j f g d)) (X:Hid (∀j f g W,M j f g W->Wn Ww 153 #[W_ (Wj (aJ f g))] W λe d=>∃t z a b,e=bP (dA t z)/\ve t a/\Ef t z b/\N j t z a b d)) (HN:Hid (∀j t z a b W,N j t z a b W->Wn Ww a #[z,aW i] W λe d=>(e=eV/\(b=Wm->∀ob,P (d.alloc ob))/\(b=Wl->∀ob,L j (d.alloc ob)))\/(∃q,e=iY q/\S q d))):Wn Ww 93 #[aW i] w λe d=>(e=eV/\P d)\/(∃q,e=iY q/\S q d):=by
 have T:=O o;clear o;go_in;go_wp2;go_loopg [2,3,4] H (λgk _ _ _ wr=>L gk wr);case atStart=>exact T
 case round=>
  have ⟨x,n,c,c1,hl,hn,hz,hs⟩:=HL _ _ hrel;by_cases o:n=0;.subst o;have HZ:=O (hz i_);clear hrel hz hs;go_wp;exact⟨i_,dv ⟨1,i_,HZ⟩⟩
  obtain⟨j,rfl,f,g,K⟩:=hs o;have C:=O (U _ _ _ _ K);have I:(0:Int)<(n:Int):=Z;clear hrel hz hs K;go_wp;refine rB C λw1 J=>?_;have D:=O (X _ _ _ _ J);clear J;go_wp21;apply D.mono;rintro e Q ⟨t,z,a,b,rfl,v,V,F⟩;have E:=O (HN _ _ _ _ _ _ F);have r:=v.1 z Q;have m:=v.2 z (aW i) Q;clear F v;go_wp21;apply E.mono;rintro e G (⟨rfl,u,y⟩|⟨q,rfl,u⟩)
  .rcases V with ⟨rfl,⟨l,p,rfl⟩,rfl⟩|⟨s,rfl⟩;.have A:=Qh (W1 #[Y l,W_ p]) G;have B:=O (u i_);clear u y r m;go_wp21;exact⟨i_,_,results_none r_ _ _ _,ea ⟨rfl,B _⟩⟩
   have A:=s z G;have B:=O (y i_);clear u y r m s;go_wp2;go_roundg j;case measure=>exact Z
   case rel=>exact B _
  go_wp;exact⟨i_,G_⟩
def Ie(v:aU)(w:aL):(typeAssert (dA 269 v) 20 269 Wm).run Ww w=.ok (Xa #[v,Xc Wm]) w:=k_
def b9(b:Fn)(first a:Array Wo)(w:aL):(Instr.makeFunc b first a).run Ww w=.ok (.func b first a) w:=rfl
def W9(p k:Nat)(a:List PanicEntry)(w:aL)(b:w.heap[p]?=Wj (bM #[Y 0] 52)):CallsD Ww 151 #[aW p] (.panicking ({v:=dA 269 (Y k),recovered:=Wl}::a)) w λe j d=>e=eV/\j=.panicking ({v:=dA 269 (Y k),recovered:=Wm}::a)/\d=c9 w (aJ p 0) (Y k):=by have n:=aB (i:=0) b i_;have o:=aE (i:=0) b;have l:=aH b;have f:=Ie;refine callsD_of_wpS func151 i_ λc m g=>?_;apply wpS_seq;apply wpS_region;simp[wpOpsS,go_sem,recoverD,g,ntmps151,Exit.thenS];apply wpS_of_wp;clear b;go_wp;exact⟨i_,_,i_,Xa #[],by simp[results,results151],rfl,rfl,rfl⟩
def X0(p:Ws)(w:aL):CallsD Ww 151 #[W_ (Wj p)] .returning w λe d c=>e=eV/\d=.returning/\c=w:=by refine callsD_of_wpS func151 i_ λa f b=>?_;apply wpS_seq;apply wpS_region;simp[wpOpsS,recoverD,b,ntmps151];apply wpS_of_wp;go_wp;exact⟨i_,a.mode,i_,Xa #[],by simp[results],rfl,b,rfl⟩
def JC(b:Nat)(p:Ws)(w:aL)(R:Nat->Wp->Prop)(c:∀a W,(callFunc b #[a]).run Ww W=.ok (.enter b #[a]) W) (l:Wn Ww b #[W_ (Wj p)] (dZ w #[Y 0] 52) λe g=>∃k,D3 k e/\R k g/\g.heap[H_ w]?=Wj (bM #[Y 0] 52)):Wn Ww 92 #[.func (.func b) #[W_ (Wj p)] #[]] w λe g=>∃(k:Nat) (d:aL),e=bP (Y k)/\R k d/\g=c9 d (aJ (H_ w) 0) (Y k):=by
 have r:=b9;have s:=c (W_ (Wj p)) (dZ w #[Y 0] 52);have n:=O l;clear l c;go_enter_defers func92,ntmps92;go_wp;apply n.mono;rintro e d ⟨k,o,q,j⟩;have x:=O q;have m:=aB (i:=0) j i_;have v:=aE (i:=0) j;have y:=aH j;clear q n;rcases o with ⟨rfl,rfl⟩|⟨o,rfl⟩;.go_wp21;refine leaves_cons (f:=151) (args:=#[aW (H_ w)]) s_ lg ?_;apply (X0 (aJ (H_ w) 0) _).mono;rintro e t u ⟨rfl,rfl,rfl⟩;simp[Leaves,settle,results,results92,go_sem,m];grind[dz]
 go_wp2_with fail;refine leaves_cons (f:=151) (args:=#[aW (H_ w)]) s_ lg ?_;apply (W9 (H_ w) k [] _ j).mono;rintro e t z ⟨rfl,rfl,rfl⟩;simp[Leaves,settle,results,results92,go_sem,m];grind[dz]
def Tl:(prog.info? 3).map (λi=>(i.zero,i.size,i.bytes))=Wj (Wj (Y 0),1,8):=k_
def OB(g d n c:Nat)(b:List Wo)(w:aL)(s:aA b=n*1)(v:n<=1000000)(x:∀j u,b[j]?=Wj u->i9 w (aJ g (d+j))=Wj u)(q:∀u∈b,u.oneCell'=Wm):Wn Ww 114 #[Wz (Wj (aJ g d)) n c] w λe k=>∃v',e=bP v'/\k.ownsRow w.heap.size 9 1 v' n b/\cB w k:=by have ⟨i0,hi,hz0,hz1,hz2⟩:=info_parts CB;have p:∀(w:aL) (a:Option Ws) (n c l m:Nat),(binOp .eql 51 (Wz a n c) (Wz none l m)).run Ww w=.ok (Xc a.isNone) w:=(by grind[Lib.run_eql_slice_nil,underlying51]);go_in;go_wp2_with (refine wpList_append_own _ r_ _ _ 51 r_ w.heap.size 9 i0 _ 1 16 underlying51 hi hz0 hz1 hz2 rfl d_ (Wz (Wj (aJ w.heap.size 0)) 0 0) 0 [] r_ (nr) (aJ g d) n c b r_ s (nw) q ky Z s_ ?_);intro v' t i f _;have r:=O i;have o:=O f;go_wp2;go_ret;refine⟨_,i_,by simpa using r.out,?_⟩;exact((dw _ w).alloc (Z) _).grown o.out s_ nl
def OA(w:aL):Wn Ww 114 #[bR] w λe d=>e=bP (bR)/\d=w:=by have f:∀(w:aL) (a:Option Ws) (n c b g:Nat),(binOp .eql 51 (P_ a n c) (P_ none b g)).run Ww w=.ok (Xc a.isNone) w:=(by grind[Lib.run_eql_slice_nil,underlying51]);go_in;go_wp2;go_ret;simp
def OE(g d n c:Nat)(b:List Wo)(w:aL)(s:aA b=n*1)(v:n<=17592186044416)(x:∀j u,b[j]?=Wj u->eJ w g (d+j) u)(q:∀u∈b,u.oneCell'=Wm):Wn Ww 53 #[P_ (Wj (aJ g d)) n c] w λe k=>∃v',e=bP v'/\k.ownsRow w.heap.size 3 1 v' n b/\cB w k:=by have ⟨i0,hi,hz0,hz1,hz2⟩:=info_parts Tl;have p:∀(w:aL) (a:Option Ws) (n c l m:Nat),(binOp .eql 22 (P_ a n c) (P_ none l m)).run Ww w=.ok (Xc a.isNone) w:=(by grind[Lib.run_eql_slice_nil,underlying22]);go_in;go_wp2_with (refine wpList_append_own _ r_ _ _ 22 r_ w.heap.size 3 i0 _ 1 8 underlying22 hi hz0 hz1 hz2 rfl d_ (P_ (Wj (aJ w.heap.size 0)) 0 0) 0 [] r_ (nr) (aJ g d) n c b r_ s (nw) q ky Z s_ ?_);intro v' t i f _;have r:=O i;have o:=O f;go_wp2;go_ret;refine⟨_,i_,by simpa using r.out,?_⟩;exact((dw _ w).alloc (Z) _).grown o.out s_ nl
def OD(w:aL):Wn Ww 53 #[bR] w λe d=>e=bP (bR)/\d=w:=by have f:∀(w:aL) (a:Option Ws) (n c b g:Nat),(binOp .eql 22 (P_ a n c) (P_ none b g)).run Ww w=.ok (Xc a.isNone) w:=(by grind[Lib.run_eql_slice_nil,underlying22]);go_in;go_wp2;go_ret;simp
def OF(g d n c:Nat)(b:List Wo)(w:aL)(s:aA b=n*6)(v:n<=1000000)(x:∀j u,b[j]?=Wj u->i9 w (aJ g (d+j))=Wj u)(q:∀u∈b,u.oneCell'=Wm):Wn Ww 275 #[Wz (Wj (aJ g d)) n c] w λe k=>∃v',e=bP v'/\k.ownsRow w.heap.size 112 6 v' n b/\cB w k:=by have ⟨i0,hi,hz0,hz1,hz2⟩:=info_parts QE;have p:∀(w:aL) (a:Option Ws) (n c l m:Nat),(binOp .eql 50 (Wz a n c) (Wz none l m)).run Ww w=.ok (Xc a.isNone) w:=(by grind[Lib.run_eql_slice_nil,underlying50]);go_in;go_wp2_with (refine wpList_append_own _ r_ _ _ 50 r_ w.heap.size 112 i0 _ 6 80 underlying50 hi hz0 hz1 hz2 rfl d_ (Wz (Wj (aJ w.heap.size 0)) 0 0) 0 [] r_ (nr) (aJ g d) n c b r_ s (nw) q ky Z s_ ?_);intro v' t i f _;have r:=O i;have o:=O f;go_wp2;go_ret;refine⟨_,i_,by simpa using r.out,?_⟩;exact((dw _ w).alloc (Z) _).grown o.out s_ nl
structure Cp(fp:iD)(F:bI)(w:aL)(v:oo)(f:aG):Prop where
 fn:UL fp F w v.fp f.fn
 nx:v.nx=Y f.next
 ln:v.ln=Y f.l_
 sp:gR F w v.sp f.e_
 g_:vd F w v.vv f.g_
 Ar:∀a∈f.g_,aI a<=200
 ops:vd F w v.ov f.ops
 C_:∀a∈f.ops,aI a<=200
def Cp.j_{fp:iD}{F:bI}{w':aL}{v:oo}(h:Cp fp F w v f)(a:∀b,F b->w'.heap[b]?=w.heap[b]?)(c:∀b,F b->R b):Cp fp R w' v f:=⟨h.fn.j_ a c,h.nx,h.ln,gR.j_ a c h.sp,(h.g_.j_ a).mono c,h.Ar,(h.ops.j_ a).mono c,h.C_⟩
def yV(fp:iD)(F:bI)(w:aL):List oo->List aG->Prop|[],[]=>True|v::vs,f::fs=>Cp fp F w v f/\yV fp F w vs fs|_,_=>False
def yV.j_{fp:iD}{F:bI}{w':aL}(a:∀b,F b->w'.heap[b]?=w.heap[b]?)(d:∀b,F b->R b):∀{c:List oo}{fs:List aG},yV fp F w c fs->yV fp R w' c fs|[],[],_=>trivial|_::_,_::_,⟨f,e⟩=>⟨f.j_ a d,yV.j_ a d e⟩|[],_::_,h=>h.elim|_::_,[],h=>h.elim
def yV.length{a:iD}{F:bI}:∀{vs:List oo}{fs:List aG},yV a F w vs fs->aA vs=aA fs|[],[],_=>rfl|_::_,_::_,⟨_,h⟩=>by simp[yV.length h]|[],_::_,h=>h.elim|_::_,[],h=>h.elim
def yV.get:∀{vs:List oo}{c:List aG},yV H R w vs c->∀(i:Nat) v f,vs[i]?=Wj v->c[i]?=Wj f->Cp H R w v f|[],[],_,i,v,f,a,_=>by simp at a|_::_,_::_,⟨h,_⟩,0,v,f,a,d=>by grind|_::_,_::_,⟨_,h⟩,i+1,v,f,a,d=>yV.get h i v f G_ G_|[],_::_,h,_,_,_,_,_=>h.elim|_::_,[],h,_,_,_,_,_=>h.elim
def DL(F:bI)(w:aL)(v:aU)(v_:List oo):Prop:=(v_=[]/\∃x c,v=Wz x 0 c)\/∃g c cur,v=Wz (Wj (aJ g 0)) (aA v_) c/\F g/\w.heap[g]?=Wj (Xe cur 112)/\aA v_<=c/\cur.toList.take (aA v_*6)=kY v_
def DL.j_{F:bI}{w':aL}{a:List oo}(h:DL F w v a)(k:∀b,F b->w'.heap[b]?=w.heap[b]?)(j:∀b,F b->R b):DL R w' v a:=by rcases h with h|⟨g,c,d,i,e,l,f⟩;exact ea h;exact dv ⟨g,c,d,i,j g e,G_,f⟩
def GH(F:bI)(w:aL)(v:aU)(l:cU):Prop:=(l=[]/\v=bR)\/∃g c cur,v=Wz (Wj (aJ g 0)) (aA l) c/\F g/\w.heap[g]?=Wj (Xe cur 9)/\aA l<=c/\cur.toList.take (aA l)=sU l
def GH.j_{F:bI}{w':aL}(h:GH F w v m)(j:∀b,F b->w'.heap[b]?=w.heap[b]?)(i:∀b,F b->R b):GH R w' v m:=by rcases h with h|⟨g,c,a,f,d,k,e⟩;exact ea h;exact dv ⟨g,c,a,f,i g d,G_,e⟩
def oZ(fp:iD)(F:bI)(w:aL)(v:aU)(s:bL):Prop:=∃fv tv u_ v_,v=W1 #[Y s.m_,fv,tv,u_,Y s.stop]/\DL F w fv v_/\yV fp F w v_ s.m.f_/\pP F w tv s.m.tape/\GH F w u_ s.m.out
theorem oZ.j_{fp:iD}{F:bI}{w':aL}(h:oZ fp F w v s)(a:∀b,F b->w'.heap[b]?=w.heap[b]?)(c:∀b,F b->R b):oZ fp R w' v s:=by have ⟨fv,tv,u_,v_,h1,h2,h3,h4,h5⟩:=h;exact⟨fv,tv,u_,v_,h1,h2.j_ a c,h3.j_ a c,h4.j_ a c,h5.j_ a c⟩
def lX.kept{G:bI}(d:∀k,R k->G k):∀{c:List oo}{f:List aG},lX Wl H R E w c f->(∀v∈c,∀k∈(v.se Wl),G k)->yV H G w c f|[],[],_,_=>trivial|v::_,_::_,⟨a,g⟩,l=>by have q:=l v (jt ..);obtain⟨⟨n,r,s⟩,j⟩:=a.g_;obtain⟨⟨p,m,o⟩,i⟩:=a.ops;exact⟨⟨a.fn.j_ (s_) d,a.nx,a.ln,gR.j_ (s_) d a.sp,(by grind[vd.ofRow,iG.mono,oo.se]),j,(by grind[vd.ofRow,iG.mono,oo.se]),i⟩,lX.kept d g G_⟩|[],_::_,h,_=>h.elim|_::_,[],h,_=>h.elim
def dJ.kept{G:bI}{f c b:Nat}{p a:aU}{m:cY}(h:dJ Wl H R E w J K f (Y c) p a (Y b) I m)(u:∀k,R k->G k)(C:∀k∈aZ Wl J K a I,k≠J->G k):oZ H G w (W1 #[Y c,Wz (Wj (aJ K 0)) (aA I) f,p,a,Y b]) ⟨c,m,b⟩:=by have ⟨n1,n2⟩:=eu.1 h.nodup;have y:∀k,k∈K::(a.ownBlock.toList++dD Wl I)->G k:=(by grind[aZ]);refine⟨_,p,a,I,i_,?_,lX.kept u h.vu λv D k B=>y k ?_,h.tape.j_ (s_) u,?_⟩;rcases h.row.2 with ⟨i,_⟩|⟨t,e,g,i,x,n,o,A,z,s⟩;cases i;cases i;exact dv ⟨K,f,g,i_,G_,n,o,s⟩;grind[dD];rcases h.out.2 with ⟨i,x⟩|⟨t,e,g,i,x,n,o,A,z,s⟩;grind[GH];exact dv ⟨t,e,g,i,nl,n,o,G_⟩
theorem Kept.setCell{own:List Nat}{W:aL}(h:Kept own w W)(p:Ws)(x:aU)(a:p.block∈own):Kept own w (W.setCell p x):=⟨h.os,h.tape,h.output,by simpa using h.size,(by grind[eh,Kept.block])⟩
def A2(w w2:aL)(b a x0 n c0:Nat)(F r s:aU)(P:Wo->Wp->Prop)(A:Nat->Nat->Wp->Prop)(C E:Nat->Nat->Nat->Wp->Prop)(D1 D2:Nat->Nat->Nat->Option Ws->Nat->Nat->Wp->Prop)(aj:Nat->Nat->Option Ws->Nat->Nat->Wp->Prop)(hn:n<=100) (X:F=Wz (Wj (aJ x0 0)) n c0) (Q:∃xa xl xc,s=Wz xa xl xc) (V:∃L U H,r=Wz L U H) (hW:h_ (h_ w (Xe #[Y b,F,r,s,Y a] 54)) (Xe #[Y 0,bR,bR,bR,Y 0] 54)=w2) (HC:Hid (Wn Ww 275 #[F] w2 λe k=>∃g cap,e=bP (Wz (Wj (aJ g 0)) n cap)/\A g cap k)) (HA:Hid (∀g cap W,A g cap W->(∃u,i9 W (aJ w.heap.size 1)=Wj u)/\W.frozen? (aJ w.heap.size 1)=Wl/\w.heap.size<W.heap.size/\C g cap 0 (c9 W (aJ w.heap.size 1) (Wz (Wj (aJ g 0)) n cap)))) (HR:Hid (∀g cap j W,C g cap j W->i9 W (aJ w.heap.size 1)=Wj (Wz (Wj (aJ g 0)) n cap)/\w.heap.size<W.heap.size/\g<W.heap.size)) (HV:Hid (∀g cap j W,C g cap j W->j<n->∃x l c,i9 W (aJ g (j*6+4))=Wj (Wz x l c)/\Wn Ww 276 #[Wz x l c] W λe k=>∃f d,e=bP (Wz f l d)/\D1 g cap j f l d k)) (S:Hid (∀g cap j x l c W,D1 g cap j x l c W->(∃u,i9 W (aJ g (j*6+4))=Wj u)/\W.frozen? (aJ g (j*6+4))=Wl/\g<W.heap.size/\E g cap j (c9 W (aJ g (j*6+4)) (Wz x l c)))) (HE:Hid (∀g cap j W,E g cap j W->∃x l c,i9 W (aJ g (j*6+5))=Wj (Wz x l c)/\g<W.heap.size/\Wn Ww 276 #[Wz x l c] W λe k=>∃f d,e=bP (Wz f l d)/\D2 g cap j f l d k)) (G:Hid (∀g cap j x l c W,D2 g cap j x l c W->(∃u,i9 W (aJ g (j*6+5))=Wj u)/\W.frozen? (aJ g (j*6+5))=Wl/\g<W.heap.size/\C g cap (j+1) (c9 W (aJ g (j*6+5)) (Wz x l c)))) (HO:Hid (∀g cap W,C g cap n W->i9 W (aJ w.heap.size 3)=Wj s/\Wn Ww 114 #[s] W λe k=>∃f D d,e=bP (Wz f D d)/\aj g cap f D d k)) (HF:Hid (∀g cap x l c W,aj g cap x l c W->(i9 W (aJ w.heap.size 0)=Wj (Y b)/\i9 W (aJ w.heap.size 1)=Wj (Wz (Wj (aJ g 0)) n cap)/\i9 W (aJ w.heap.size 2)=Wj r/\(∃u,i9 W (aJ w.heap.size 3)=Wj u)/\i9 W (aJ w.heap.size 4)=Wj (Y a)/\W.frozen? (aJ w.heap.size 3)=Wl/\w.heap.size+1<W.heap.size)/\(W.heap[w.heap.size+1]?=Wj (Xe #[Y 0,bR,bR,bR,Y 0] 54)))) (HP:Hid (∀g cap x l c W W',aj g cap x l c W->Kept [w.heap.size,w.heap.size+1] W W'->W'.heap.size=W.heap.size->P (W1 #[Y b,Wz (Wj (aJ g 0)) n cap,r,Wz x l c,Y a]) W')):Wn Ww 228 #[W1 #[Y b,F,r,s,Y a]] w λe k=>∃v,e=bP v/\P v k:=by
 obtain⟨xa,xl,xc,rfl⟩:=Q;obtain⟨L,U,H,rfl⟩:=V;subst X;have HW:=O hW;clear hW;go_in;go_wp;rw[HW];apply HC.mono;rintro e w3 ⟨g,cap,rfl,h3⟩;have ⟨⟨u3,a1⟩,a2,a3,h4⟩:=HA _ _ _ h3;have ⟨b1,b2,b3⟩:=HR _ _ _ _ h4;have H4:=O h4;clear h3 h4;generalize t:c9 w3 (aJ w.heap.size 1) (Wz (Wj (aJ g 0)) n cap)=w4 at H4 b1 b2 b3;have J:=O t;clear t;go_wp21;rw[J];go_wp2;go_loopg [3,4,12] n (λgk _ _ i wr=>∃j:Nat,j+gk=n/\i=Y j/\C g cap j wr);case atStart=>grind[dz]
 case round=>
  obtain⟨j,hj,rfl,B⟩:=hrel;have ⟨b1,b2,b3⟩:=HR _ _ _ _ B;by_cases K:j<n
  .obtain⟨m,rfl⟩:∃m,gk=m+1:=⟨gk-1,Z⟩;have ⟨x,l,c,c1,hcl⟩:=HV _ _ _ _ B K;have p:=O hcl;have e1:(0:Int)<=(j:Int):=Z;have e2:(j:Int)<(n:Int):=Z;clear B hcl;go_wp;apply p.mono;rintro e o ⟨f,d,rfl,q⟩;have ⟨⟨u5,d1⟩,d2,d3,h6⟩:=S _ _ _ _ _ _ _ q;have ⟨y,l2,c2,y1,y2,hcl2⟩:=HE _ _ _ _ h6;have z:=O hcl2;have ah:i9 o (aJ g (j*6+5))=Wj (Wz y l2 c2):=by simpa [go_sem]using y1
   clear q h6 hcl2 y1 y2;go_wp21;apply z.mono;rintro e w7 ⟨y',d',rfl,h7⟩;have ⟨⟨u7,f1⟩,f2,f3,h8⟩:=G _ _ _ _ _ _ _ h7;have H8:=O h8;clear h7 h8;go_wp2;go_roundg m;case measure=>exact Z
   case rel=>exact⟨j+1,Z,lj,H8⟩
  have I:j=n:=Z;subst I;have ⟨o1,hcl⟩:=HO _ _ _ B;have p:=O hcl;clear B hcl;go_wp;apply p.mono;rintro e o ⟨f,D,d,rfl,q⟩;have ⟨⟨p0,p1,p2,⟨u3,p3⟩,p4,pf,pl⟩,pb⟩:=HF _ _ _ _ _ _ q;have M:=aB (i:=0) pb i_;have ab:=aB (i:=1) pb i_;have N:=aB (i:=2) pb i_;have T:=aB (i:=3) pb i_;have aa:=aB (i:=4) pb i_;have ag:=aE (i:=0) pb;have ai:=aE (i:=1) pb;have af:=aE (i:=2) pb;have ad:=aE (i:=3) pb;have ae:=aE (i:=4) pb;have H5:=O q;clear q pb;have ac:w.heap.size<o.heap.size:=Z;go_wp21;refine⟨i_,W1 #[Y b,Wz (Wj (aJ g 0)) j cap,Wz L U H,Wz f D d,Y a],?_,_,i_,HP _ _ _ _ _ _ _ H5 ?_ s_⟩;.simp[results,results228,go_sem,M,ab,N,T,aa]
  exact((((((Kept.refl _ _).setCell _ _ s_).setCell _ _ s_).setCell _ _ s_).setCell _ _ s_).setCell _ _ s_).setCell _ _ s_
def YS(a b:List oo)(v:oo)(i:Nat)(c:i<6):(kY (a++v::b))[aA a*6+i]?=v.cells[i]?:=by grind[nG,jU,Nat.add_sub_cancel_left,oo.cells,kY]
def R2(a b:List oo)(v c:oo)(i:Nat)(x:aU)(e:i<6)(d:c.cells=v.cells.set i x):(kY (a++v::b)).set (aA a*6+i) x=kY (a++c::b):=by rw[nG,nG,List.set_append_right _ _ (by rw[jU];exact Z),jU,kg];grind[kY,oo.cells]
structure CI(w:aL)(m_ stop n g cap:Nat)(tv xo:aU)(fvs':List oo)(own:List Nat)(W:aL):Prop where
 row:W.ownsRow (w.heap.size+2) 112 6 (Wz (Wj (aJ g 0)) n cap) n (kY fvs')
 nodup:(g::own).Nodup
 xt:∀k∈g::own,w.heap.size+2<=k/\k<W.heap.size
 rP:cB w W
 b1:W.heap[w.heap.size]?=Wj (Xe #[Y m_,Wz (Wj (aJ g 0)) n cap,tv,xo,Y stop] 54)
 b2:W.heap[w.heap.size+1]?=Wj (Xe #[Y 0,bR,bR,bR,Y 0] 54)
section
variable {w:aL} {m_ stop n g cap:Nat} {tv xo:aU} {own:List Nat} {W W':aL} {a b:List oo} {v v':oo}
def CI.cell(h:CI w m_ stop n g cap tv xo (a++v::b) own W)(i:Nat)(d:i<6):i9 W (aJ g (aA a*6+i))=v.cells[i]?/\W.frozen? (aJ g (aA a*6+i))=Wl/\g<W.heap.size:=by refine⟨?_,h.row.frozenAt _,(h.xt g s_).2⟩;have c:=h.row.1;rw[jU,et,ff]at c;rw[h.row.cellAt (aA a*6+i) Z,YS a b v i d]
def CI.grow{a:List oo}(h:CI w m_ stop n g cap tv xo a own W)(c:cB W W')(o:Option Nat)(l:∀k,o=Wj k->W.heap.size<=k/\k<W'.heap.size):CI w m_ stop n g cap tv xo a (own++o.toList) W':=by have d:=h.rP.size;have i:=aH h.b1;have f:=aH h.b2;refine⟨lD h.row c,?_,λk b=>?_,h.rP.trans (c.mono d),by rw[c.block _ i];exact h.b1,by rw[c.block _ f];exact h.b2⟩;refine jm.2 ⟨h.nodup,G_,λx j y m e=>?_⟩;have:=(h.xt x j).2;grind;rw[<-il]at b;rcases fg.1 b with b|b;exact⟨(h.xt k b).1,ef (h.xt k b).2 c.size⟩;grind
def CI.set(h:CI w m_ stop n g cap tv xo (a++v::b) own W)(i:Nat)(e:i<6)(x:aU)(d:v'.cells=v.cells.set i x):CI w m_ stop n g cap tv xo (a++v'::b) own (c9 W (aJ g (aA a*6+i)) x):=by have f:=(h.xt g s_).1;have c:∀k,k≠g->(c9 W (aJ g (aA a*6+i)) x).heap[k]?=W.heap[k]?:=(by grind[eh]);refine⟨?_,h.nodup,λk c=>⟨(h.xt k c).1,by simpa using (h.xt k c).2⟩,(by grind[Below.setCell,CI.rP]),by grind[CI.b1],by grind[CI.b2]⟩;rw[<-R2 a b v v' i x e d];exact(h.row.stored _ _).1
def CI.j_{a:List oo}(h:CI w m_ stop n g cap tv xo a own W):w.heap.size<W.heap.size/\w.heap.size+1<W.heap.size:=⟨aH h.b1,aH h.b2⟩
end
structure MF(fp:iD)(F:bI)(b_:Nat)(w:aL)(gf cap:Nat)(tv u_:aU)(v_:List oo)(m:cY):Prop where
 row:w.ownsRow b_ 112 6 (Wz (Wj (aJ gf 0)) (aA v_) cap) (aA v_) (kY v_)
 vu:lX Wl fp F b_ w v_ m.f_
 tape:pP F w tv m.tape
 out:w.ownsRow b_ 9 1 u_ (aA m.out) (sU m.out)
 nodup:(gf::(u_.ownBlock.toList++dD Wl v_)).Nodup
 xt:∀k∈gf::(u_.ownBlock.toList++dD Wl v_),b_<=k/\k<w.heap.size
def vd.cells{F:bI}{l:List aD}(h:vd F w v l)(k:aA l<=1000000):∃x c,v=Wz x (aA l) c/\Wn Ww 276 #[Wz x (aA l) c] w λe a=>∃f d j,e=bP (Wz f (aA l) d)/\a.ownsRow w.heap.size 264 1 (Wz f (aA l) d) (aA l) j/\iG F w j l/\cB w a:=by rcases h.row with ⟨rfl,rfl⟩|⟨g,b,m,rfl,o,n,i,p⟩;refine⟨none,0,i_,(zN w).mono ?_⟩;rintro e a ⟨rfl,rfl⟩;exact⟨none,0,[],i_,World.ownsRow_nil _ _ _ _,iG.nil _ _,dw _ _⟩;refine⟨_,_,i_,(zO g 0 (aA l) b m w (by rw[i.1];exact Z) k (G_) (tY i)).mono ?_⟩;grind[gG]
theorem qC{d:aL}(h:lX Wl H R E w I l)(g:∀b,R b->d.heap[b]?=w.heap[b]?)(i:∀k∈dD Wl I,d.heap[k]?=w.heap[k]?):lX Wl H R E d I l:=h.j_ g (s_) (by grind[dD])
def SR(a:List oo)(v:oo):dD Wl (a++[v])=dD Wl a++(v.se Wl):=by simp[dD]
def Uk(w:aL)(b a:Nat)(k i j:aU)(s:a≠0)(f:∃x l c,k=P_ x l c)(d:∃x l c,i=P_ x l c)(g:∃x l c,j=P_ x l c):Wn Ww 174 #[W1 #[Y b,k,i,j,Y a]] w λe m=>e=bP (Xa #[W1 #[Y 0,bR,bR,bR,Y 0],Xc Wl])/\cB w m:=by obtain⟨z,v,o,rfl⟩:=f;obtain⟨t,y,q,rfl⟩:=d;obtain⟨n,p,r,rfl⟩:=g;have u:¬(a:Int)=0:=Z;go_in;go_wp;refine⟨i_,Xa #[W1 #[Y 0,bR,bR,bR,Y 0],Xc Wl],?_,i_,((dw _ w).alloc (Z) _).alloc s_ _⟩;simp[results,results174,go_sem]
def Ol(w w2:aL)(a:Nat)(y u v:aU)(P:Wo->Wp->Prop)(A:Nat->Nat->Nat->Wo->Wo->Wp->Prop)(B:Nat->Wp->Prop)(ht:a<=1000000)(G:∃x l c,y=Wz x l c)(F:∃x l c,u=Wz x l c)(D:∃x l c,v=Wz x l c) (U:h_ (h_ w (Xe #[Y a,y,u,v,Y 0] 54)) (Xe #[Y 0,bR,bR,bR,Y 0] 54)=w2) (HC:Hid (Wn Ww 228 #[W1 #[Y a,y,u,v,Y 0]] w2 λe s=>∃gf n cap d g,e=bP (W1 #[Y a,Wz (Wj (aJ gf 0)) n cap,d,g,Y 0])/\(∃x l c,d=Wz x l c)/\(∃x l c,g=Wz x l c)/\A gf n cap d g s)) (HG:Hid (∀gf n cap d g W,A gf n cap d g W->Wn Ww 54 #[aW (H_ W)] (h_ W (Xe #[Y ((a+1:Nat):Int),Wz (Wj (aJ gf 0)) n cap,d,g,Y 0] 54)) λe s=>e=eV/\B (H_ W) s)) (HB:Hid (∀b W,B b W->∃(q:Nat) (f t o:aU) (r:Nat),W.heap[b]?=Wj (Xe #[Y q,f,t,o,Y r] 54)/\(∃x l c,f=Wz x l c)/\(∃x l c,t=Wz x l c)/\(∃x l c,o=Wz x l c)/\W.heap[H_ w+1]?=Wj (Xe #[Y 0,bR,bR,bR,Y 0] 54)/\b≠H_ w+1/\∀W',Kept [H_ w+1] W W'->H_ W'=H_ W->P (W1 #[Y q,f,t,o,Y r]) W')):Wn Ww 174 #[W1 #[Y a,y,u,v,Y 0]] w λe s=>∃v',e=bP (Xa #[v',Xc Wm])/\P v' s:=by
 obtain⟨x1,l1,c1,rfl⟩:=G;obtain⟨x2,l2,c2,rfl⟩:=F;obtain⟨x3,l3,c3,rfl⟩:=D;have HW:=O U;clear U;go_in;go_wp;rw[HW];apply HC.mono;rintro e w3 ⟨gf,n,cap,d,g,rfl,⟨y2,m2,d2,rfl⟩,⟨y3,m3,d3,rfl⟩,J⟩;have m:=O (HG _ _ _ _ _ _ J);generalize hb:H_ w3=b at m;clear J;rw[show ((a+1:Nat):Int)=(a:Int)+1 by omega]at m;go_wp21;refine rB m λk M=>?_;obtain⟨q,f,t,o,r,p,⟨N,T,Q,rfl⟩,⟨V,r2,X,rfl⟩,⟨K,L,S,rfl⟩,j,q3,q4⟩:=HB _ _ M;have HQ:=O q4;have ah:=aB (i:=0) p i_;have al:=aB (i:=1) p i_;have ae:=aB (i:=2) p i_;have ag:=aB (i:=3) p i_;have ac:=aB (i:=4) p i_;have z:=aB (i:=0) j i_;have I:=aB (i:=1) j i_;have C:=aB (i:=2) j i_;have E:=aB (i:=3) j i_;have H:=aB (i:=4) j i_;have aj:=aE (i:=0) j;have ak:=aE (i:=1) j;have af:=aE (i:=2) j;have ab:=aE (i:=3) j;have ad:=aE (i:=4) j;have aa:=aH p;have ai:=aH j;clear M q4 p j;go_wp21;refine⟨i_,Xa #[W1 #[Y q,Wz N T Q,Wz V r2 X,Wz K L S,Y r],Xc Wm],?_,_,i_,HQ _ ?_ s_⟩;.simp[results,results174,go_sem,z,I,C,E,H]
 grind[Kept.setCell,Kept.refl]
def xL(a:Nat)(p q:Option Ws)(w:aL)(Q:lF)(E:Nat->Nat->Prop) (b:∀W,(callFunc a #[W_ p,W_ q]).run Ww W=.ok (.enter a #[W_ p,W_ q]) W) (x:∀r,r=h_ (h_ w (Xe #[Y 0] 32)) (Xe #[Y 0] 3)->Wn Ww a #[W_ p,W_ q] r λe c=>(e=eV/\c.heap[w.heap.size]?=Wj (Xe #[Y 0] 32)/\c.heap[w.heap.size+1]?=Wj (Xe #[Y 0] 3)/\Q c)\/∃k n,k≠0/\e=.panicked [{v:=.iface 98 (W1 #[Y (k:Nat),Y (n:Nat)]),recovered:=Wl}]/\cB r c/\E k n):Wn Ww 13 #[.func (.func a) #[] #[W_ p,W_ q]] w λe c=>(e=bP (Xa #[Y 0,Y 0])/\∃d,Q d/\c=c9 (c9 d (aJ w.heap.size 0) (Y 0)) (aJ (w.heap.size+1) 0) (Y 0))\/∃k n,k≠0/\e=bP (Xa #[Y (k:Nat),Y (n:Nat)])/\cB w c/\E k n:=by
 have C:=KI;have m:cB w (h_ (h_ w (Xe #[Y 0] 32)) (Xe #[Y 0] 3)):=((dw _ w).alloc (Z) _).alloc s_ _;have A:=O (x _ i_);have G:=b (h_ (h_ w (Xe #[Y 0] 32)) (Xe #[Y 0] 3));clear x b;go_enter_defers func13,ntmps13;go_wp21;apply A.mono;rintro e d (⟨rfl,l,g,y⟩|⟨k,n,z,rfl,o,B⟩);.have K:=O y;clear y;have s:=qV l (i:=0) i_;have t:=qV g (i:=0) i_;have L:=uU (i:=0) l;have M:=uU (i:=0) g;have N:=xG l;have P:=xG g;go_wp21;refine leaves_cons (f:=46) (args:=#[aW w.heap.size,aW (w.heap.size+1)]) s_ lg ?_;apply (X1 (aJ w.heap.size 0) (aJ (w.heap.size+1) 0) _).mono;rintro e F I ⟨rfl,rfl,rfl⟩;simp[Leaves,settle,results,results13,go_sem,s,t];grind[dz]
 have l:d.heap[w.heap.size]?=Wj (Xe #[Y 0] 32):=by grind[ej,oP]
 have g:d.heap[w.heap.size+1]?=Wj (Xe #[Y 0] 3):=by grind[ej,lS]
 have D:cB w d:=m.trans (o.mono ku);have J:=O (du z B);clear o m A B z;go_wp2_with fail;refine leaves_cons (f:=46) (args:=#[aW w.heap.size,aW (w.heap.size+1)]) s_ lg ?_;apply (B3 w.heap.size (w.heap.size+1) k n [] _ l g (Z)).mono;rintro e F r ⟨rfl,rfl,u,s,t⟩;have H:=D.trans u;simp[Leaves,settle,results,results13,go_sem,s,t];obtain⟨j,rfl⟩:∃j,k=j+1:=⟨k-1,by have:=J.1;exact Z⟩;grind[dz]
def A9:∀(n:Nat) (l:bS),aA l<=n->∀c∈eD l,aA c<=aA l:=by intro n;induction n with|zero=>grind[gI]|succ n e=>intro l f c d;by_cases b:l=[];grind;by_cases a:bW l=0;grind[gI];rw[kO b a]at d;grind
def YH(a b:aD)(h:aI a<=200):aI (bY a b).1<=200:=by
 unfold bY;split;exact oK;split;exact oK;have f:∀x∈kU a,aI x<=200:=λx d=>by unfold kU at d;rw[dG]at h;split at d;obtain⟨c,e,rfl⟩:=ig.1 d;have:=A9 _ _ kB c e;rw[oV];exact Z;have:=qE d;exact Z
 grind
def SZ(a:aD):aI (dO a).1<=200:=by
 unfold dO;repeat' split
 all_goals first|(exact Z)|exact oK
section
variable {sh:Bool} {fp:iD} {F:bI} {b_:Nat} {w:aL} {sb gf cap:Nat} {t0 tv u_ s0:aU} {v_:List oo} {below:List aG} {f:aG} {tape:List Int} {out:cU}
def Lw(h:dJ sh fp F b_ w sb gf cap t0 tv u_ s0 v_ ⟨below++[f],tape,out⟩)(p:aA below<=15)(d:b_<=H_ w)(j:aA f.ops<=99000)(x:∃B a b,f.ops=B++[a,b]/\cP a):Wn Ww 363 #[W1 #[],aW sb] w (lO sh fp F b_ sb gf t0 s0 (aZ sh sb gf u_ v_) w below tape out (aO .index f)):=by
 have ⟨B,a,b,s,hut⟩:=x;have s:f.ops=(B++[a])++[b]:=G_;have E:=h.yk d (bM #[] 401);have hf2:=BR s;have n:=j;rw[s,et,et]at n;have D:aA f.pop.ops<=100000:=G_;have A:aA f.pop.pop.ops<=100000:=by rw[BR hf2];exact Z
 have P:aO .index f=if (bY a b).2=0 then (f.pop.pop.push (bY a b).1,0)else (f.pop.pop,(bY a b).2):=by grind[aO,oE]
 have hcl:=YH a b;have m:∀(W:aL) (u v:aU),PV F W u a->PV F W v b->(∀k,F k->k<H_ W)->aI a<=200->aI b<=200->Wn Ww 364 #[u,v] W (jK F W (bY a b)):=λW u v c g o J q=>Qg F u v a b W c g hut Z o;generalize bY a b=r at m P hcl;refine(TG w _ sb gf (aA below*6) r.2 (λi=>r.2=0/\jL sh fp F b_ sb gf t0 s0 (aZ sh sb gf u_ v_) w ⟨below++[f.pop.pop.push r.1],tape,out⟩ i) (λi=>r.2≠0/\jL sh fp F b_ sb gf t0 s0 (aZ sh sb gf u_ v_) w ⟨below++[f.pop.pop],tape,out⟩ i) (λt z W=>PV F W (dA t z) b/\aI b<=200/\eK sh fp b_ sb gf (aA below) t0 s0 (aZ sh sb gf u_ v_) (dZ w #[] 401) F ⟨below++[f.pop],tape,out⟩ W) (λt z H I W=>PV F W (dA t z) b/\aI b<=200/\PV F W (dA H I) a/\aI a<=200/\eK sh fp b_ sb gf (aA below) t0 s0 (aZ sh sb gf u_ v_) (dZ w #[] 401) F ⟨below++[f.pop.pop],tape,out⟩ W) (λt z W=>(r.2=0/\aI r.1<=200)/\∃G,ue F G (H_ w)/\PV G W (dA t z) r.1/\eK sh fp b_ sb gf (aA below) t0 s0 (aZ sh sb gf u_ v_) (dZ w #[] 401) G ⟨below++[f.pop.pop],tape,out⟩ W) rfl (E.vm p) (λW Q=>?_) (λW t z l=>?_) (λW t z H I l=>?_) λW t z l=>?_).mono ?_;apply ((E.same Q).pop s Z).mono;simp;have ⟨c,g,o⟩:=l;apply (o.Ch hf2 D).mono;grind[PV.j_];have ⟨c,g,o,J,q⟩:=l;apply (m W _ _ o c (λk y=>(q.apart k y).1) J g).mono;rintro e i ⟨L,⟨C,u,rfl,K⟩|⟨C,rfl⟩⟩;obtain⟨N,M,rfl⟩:=K.form;exact ea ⟨N,M,i_,Z,tu F W i,⟨λ_=>ea,λk y=>y.imp_right λc=>em (em s_ q.1.size) c.1⟩,K,(by grind[eK.grow,tu])⟩;exact dv ⟨i_,C,(q.grow L (s_) G_).ug (ue.refl _ _)⟩;have ⟨⟨C,hcr⟩,G,hG,c,g⟩:=l;apply (g.push c hcr A).mono;grind[eK.ug];grind[lO.ok,lO.stop]
def Mv(h:dJ sh fp F b_ w sb gf cap t0 tv u_ s0 v_ ⟨below++[f],tape,out⟩)(d:aA below<=15)(b:b_<=H_ w)(k:aA f.ops<=99000)(g:∃l a,f.ops=l++[a]/\cP a):Wn Ww 370 #[W1 #[],aW sb] w (lO sh fp F b_ sb gf t0 s0 (aZ sh sb gf u_ v_) w below tape out (aO .length f)):=by
 have ⟨l,a,hf,hut⟩:=g;have j:=h.yk b (bM #[] 410);have m:aA f.pop.ops<=100000:=by grind[aG.pop]
 have n:aO .length f=if (dO a).2=0 then (f.pop.push (dO a).1,0)else (f.pop,(dO a).2):=by simp[aO,oE hf]
 have e:=SZ a;have c:∀(W:aL) (u:aU),PV F W u a->aI a<=200->Wn Ww 371 #[u] W (jK F W (dO a)):=λW u h1 p=>Ix F u a W h1 hut Z;generalize dO a=r at c n e;refine(NH w _ sb gf (aA below*6) r.2 (λw'=>r.2=0/\jL sh fp F b_ sb gf t0 s0 (aZ sh sb gf u_ v_) w ⟨below++[f.pop.push r.1],tape,out⟩ w') (λw'=>r.2≠0/\jL sh fp F b_ sb gf t0 s0 (aZ sh sb gf u_ v_) w ⟨below++[f.pop],tape,out⟩ w') (λt z W=>PV F W (dA t z) a/\aI a<=200/\eK sh fp b_ sb gf (aA below) t0 s0 (aZ sh sb gf u_ v_) (dZ w #[] 410) F ⟨below++[f.pop],tape,out⟩ W) (λt z W=>r.2=0/\∃G,ue F G (H_ w)/\PV G W (dA t z) r.1/\eK sh fp b_ sb gf (aA below) t0 s0 (aZ sh sb gf u_ v_) (dZ w #[] 410) G ⟨below++[f.pop],tape,out⟩ W) rfl (j.vm d) (λW o=>?_) (λW t z i=>?_) λW t z i=>?_).mono ?_;apply ((j.same o).pop hf Z).mono;simp;have ⟨h1,h2,h5⟩:=i;apply (c W _ h1 h2).mono;exact UT;have ⟨hz,G,hG,h1,h2⟩:=i;apply (h2.push h1 e m).mono;grind[eK.ug];grind[lO.ok,lO.stop]
end
def tL{l:List d}(h:1<=aA l):∃c a,l=c++[a]:=by rcases gz l with e|⟨b,x,e⟩;grind;grind
def RZ{l:List d}{n:Nat}(h:n<=aA l):∃b a,l=b++a/\aA a=n:=⟨l.take (aA l-n),l.drop (aA l-n),s_,G_⟩
def Fs{l:List d}(h:2<=aA l):∃c a b,l=c++[a,b]:=by have ⟨c,us,e,hu⟩:=RZ h;match us,hu with|[a,b],_=>grind
section
variable {fp:iD} {F:bI} {b_:Nat} {w:aL} {sb gf cap:Nat} {t0 tv u_ s0:aU} {v_:List oo} {below:List aG} {f0 f:aG} {tape:List Int} {out:cU}
def Ez{r:Bool}{i:aM}{v:aU}(B:Gi i f)(h:dJ r fp F b_ w sb gf cap t0 tv u_ s0 v_ ⟨below++[f],tape,out⟩)(d:aA below<=15)(c:b_<=H_ w)(j:lP fp F w v i):∃t z m,v=dA t z/\ve t m/\iQ t/\Wn Ww m #[z,aW sb] w (lO r fp F b_ sb gf t0 s0 (aZ r sb gf u_ v_) w below tape out (aO i f)):=by
 obtain⟨G,g,A,o,I,D,T,p,⟨-,-,H⟩,J,K⟩:=B;cases i<;>first|(cases G)|skip
 case push a=>obtain⟨u,rfl,y,x⟩:=j;refine⟨_,_,_,i_,Ir,Vf,(J7 fp F b_ w sb gf cap t0 tv u_ s0 v_ below _ tape out u a h y x Z d c).mono ?_⟩;grind[lO.ok,aO]
 case load k=>obtain rfl:=j;exact⟨_,_,_,i_,Lx,Ng,Mi k h d c g Z⟩
 case sr wh q=>obtain rfl:=j;exact⟨_,_,_,i_,NV,XP,WI wh q h d c g (tL Z)⟩
 case tr=>obtain rfl:=j;exact⟨_,_,_,i_,U9,Ql,Kz h d c g (tL Z)⟩
 case unary op=>obtain rfl:=j;exact⟨_,_,_,i_,U8,Pv,Vi op (A.fn.2 op o) h d c g (tL Z)⟩
 case binary op=>obtain rfl:=j;exact⟨_,_,_,i_,ZV,Nq,Qq op h d c g (Fs Z)⟩
 case index=>obtain rfl:=j;have ⟨s,a,b,e⟩:=Fs (l:=f.ops) Z;exact⟨_,_,_,i_,V5,Og,Lw h d c g (by grind[bU.ops])⟩
 case list n=>obtain rfl:=j;obtain⟨s,C,E,rfl⟩:=RZ (l:=f.ops) (n:=n) Z;exact⟨_,_,_,i_,Vc,Om,Lv s C h d c g E⟩
 case length=>obtain rfl:=j;have ⟨s,a,e⟩:=tL (l:=f.ops) Z;exact⟨_,_,_,i_,ZU,Vg,Mv h d c g (by grind[bU.ops])⟩
def Nn{G:Nat->Option Nat}{m:List eI}{i:aM}{v:aU}(U:mY G m)(L:iT G ⟨below++[f0],tape,out⟩)(ab:f0.su=Wj (i,f))(X:iR ⟨below++[f0],tape,out⟩) (h:dJ Wl fp F b_ w sb gf cap t0 tv u_ s0 v_ ⟨below++[f],tape,out⟩) (W:oN fp F w m) (hp:EM (aZ Wl sb gf u_ v_) w) (c:b_<=H_ w) (J:aA out<=50) (K:aA tape<=17592186044416) (r:lP fp F w v i):∃t z u b,v=dA t z/\ve t u/\Ef t z b/\b=i.sd/\Wn Ww u #[z,aW sb] w (Bk fp F b_ sb t0 s0 (aZ Wl sb gf u_ v_) w (cD m i below f tape out)):=by
 have y:∀x∈below,eQ G x 1:=by have:=L.ok.low;grind
 have E:=L.ok.top f0 (s_);have d:aA below<=15:=by have:=L.ok.deep;grind
 have P:=X f0 s_;have ⟨⟨T,hc,hh,hv,he⟩,hnx,hs,hm⟩:=E;obtain⟨rfl,hi⟩:f={f0 with next:=f0.next+1}/\f0.fn.code[f0.next]?=Wj i:=by grind[aG.su]
 have ⟨hb0,hhp,hio⟩:=hc.ins _ _ hi;have aa:=hc.len;have j:aA f0.ops<=99000:=Z;have N:∀g∈below,aA g.ops<=99000:=λg V=>by obtain⟨⟨T',B,ac,_⟩,M,_⟩:=y g V;have h1:=(B.ins _ _ (ew M)).2.1;have h2:=B.len;exact Z
 have D:i∈f0.fn.code:=(by grind);by_cases o:i.wj=Wm;.have ⟨t,z,u,I,e2,S,e4⟩:=Ez (f:={f0 with next:=f0.next+1}) ⟨o,j,P.next _,D,G,_,T,_,⟨hb0,hhp,hio⟩,hh,hv⟩ h d c r;refine⟨t,z,u,Wl,I,e2,dv G_,(by grind[aM.sd,aM.wj]),e4.mono λ_ _ h=>?_⟩;rw[oT (by rintro rfl;cases o) (by rintro rfl;cases o) (by rintro rfl;cases o) (by rintro k n rfl;cases o)];exact h.Dj
 clear hb0;cases i<;>first|(exact ep i_ o;done)|skip
 case begin l s=>obtain⟨sp,rfl,C⟩:=r;obtain⟨p,rfl⟩:=C.form;exact⟨_,_,_,Wm,i_,V6,(by grind[Ef]),rfl,(Lf l _ s h d c C).mono λ_ _ h=>h.Dj⟩
 case declare k=>obtain rfl:=r;exact⟨_,_,_,Wl,i_,TR,dv ⟨N5,i_⟩,i_,V7 k h d c j (tL G_) G_ hm⟩
 case assign k n=>obtain rfl:=r;have ⟨H,Q,I,e2⟩:=RZ (l:=f0.ops) (n:=n+1) Z;obtain⟨A,b,rfl⟩:=tL (l:=Q) Z;have S:aA A=n:=G_;subst S;exact⟨_,_,_,Wl,i_,ZW,dv ⟨M_,i_⟩,i_,Iq k H A b h d c j G_ G_⟩
 case jump q=>obtain rfl:=r;exact⟨_,_,_,Wl,i_,Tr,dv ⟨Lh,i_⟩,i_,(Ii q h d c).mono λ_ _ h=>h.Dj⟩
 case skip q=>obtain rfl:=r;exact⟨_,_,_,Wl,i_,ZT,dv ⟨On,i_⟩,i_,(Hy q h d c j (tL G_)).mono λ_ _ h=>h.Dj⟩
 case read=>obtain rfl:=r;exact⟨_,_,_,Wl,i_,Mk,dv ⟨Md,i_⟩,i_,Uj m h d c j K⟩
 case call k n=>obtain rfl:=r;obtain⟨H,Q,I,rfl⟩:=RZ (l:=f0.ops) (n:=n) Z;have ⟨fn,_,hfn,_⟩:=U.fn k _ hio.2.1;exact⟨_,_,_,Wl,i_,Jx,dv ⟨Ho,i_⟩,i_,R_ m k fn H Q h d c j I W hfn⟩
 case tj=>obtain rfl:=r;exact⟨_,_,_,Wl,i_,Ml,dv ⟨Hm,i_⟩,i_,Vs m h d c j (tL G_) N⟩
 case drop=>obtain rfl:=r;exact⟨_,_,_,Wl,i_,Qo,dv ⟨Um,i_⟩,i_,(Jl h d c j (tL G_)).mono λ_ _ h=>h.Dj⟩
 case print=>obtain rfl:=r;have ⟨H,a,e⟩:=tL (l:=f0.ops) Z;exact⟨_,_,_,Wl,i_,NW,dv ⟨XQ,i_⟩,i_,Tq m h hp d c j e J⟩
end
def Pf{c:aG}{r:cY×Nat}(h:fB A (E+1) ⟨l++[c],e,m⟩=Wj r)(d:c.su=Wj (g,f)):((cD A g l f e m).2≠0->r=cD A g l f e m)/\((cD A g l f e m).2=0->g.sd=Wm->r=cD A g l f e m)/\((cD A g l f e m).2=0->g.sd=Wl->fB A E (cD A g l f e m).1=Wj r):=by grind[fB]
def m8(c:aA m<=50):(cD A g l f e m).1.out.length<=50:=by cases g<;>simp [cD]<;>(repeat' split)<;>first|exact c|grind
def ZS:(cD A g l f e m).1.tape.length<=aA e:=by cases g<;>simp [cD]<;>(repeat' split)<;>first|exact fk _|simp
section
variable {fp:iD} {F:bI} {b_:Nat} {w:aL} {sb gf cap:Nat} {t0 tv u_ s0:aU} {v_:List oo} {below:List aG} {f0 f:aG} {tape:List Int} {out:cU}
def dJ.zq{c:Bool}{i:aM}(h:dJ c fp F b_ w sb gf cap t0 tv u_ s0 v_ ⟨below++[f0],tape,out⟩)(H:f0.su=Wj (i,f))(z:aA f0.fn.code<=1000000):Wn Ww 153 #[W_ (Wj (aJ gf (aA below*6)))] w λe g=>∃v a,e=bP v/\lP fp F g v i/\dJ c fp F b_ g sb gf cap t0 tv u_ s0 a ⟨below++[f],tape,out⟩/\Kept (aZ c sb gf u_ v_) w g/\aZ c sb gf u_ a=aZ c sb gf u_ v_:=by
 obtain⟨A,v,l,rfl,m,n,y,d,t,s,r,I,E,J,G⟩:=h.top;rw[<-m];obtain⟨B,rfl⟩:f0.fn.code[f0.next]?=Wj i/\f={f0 with next:=f0.next+1}:=by grind[aG.su]
 have ⟨hnl,hie⟩:=ie.1 B;have ⟨fbk,gc,cp,row,e1,e2,e3,e4,e5,e6⟩:=n.fn;have ⟨u,u1,u2⟩:=e6 f0.next hnl;rw[hie]at u2;rw[e1]at s;rw[n.nx]at r;apply (Ug gf (aA A*6) fbk gc (aA f0.fn.code) cp f0.next l _ u w d s r e3 (aB e5 u1) u2.form hnl z).mono;rintro e g ⟨C,q,rfl⟩;have o:=bZ.drewN w q;have p:=h.grow o.below (s_) (λ_ h=>ea h);have hv1:=n.j_ (λb _=>by rw[o.heap]) zW s_;have k:UK c fp F b_ (w.drewN q) {v with nx:=Y ((f0.next+1:Nat):Int)} {f0 with next:=f0.next+1}:=⟨hv1.fn,rfl,hv1.ln,hv1.sp,hv1.g_,hv1.ops⟩;have ⟨q1,q2⟩:=p.wq (j:=1) (x:=Y ((f0.next+1:Nat):Int)) (v':={v with nx:=Y ((f0.next+1:Nat):Int)}) Z rfl rfl k;refine⟨u,_,C,u2.j_ (λb D=>?_) (s_),q1,(Kept.q_ o.below).trans q2 G_,by simp[aZ,dD,oo.se]⟩;grind[eh,dJ.apart,aZ,bZ.heap]
def Fk(fp:iD)(F0:bI)(b_ sb:Nat)(t0 s0:aU)(own0:List Nat)(w0:aL)(ar:Nat->Option Nat)(tg:List eI)(m:cY)(W:aL):Prop:=∃F gf cap tv u_ v_,ue F0 F w0.heap.size/\dJ Wl fp F b_ W sb gf cap t0 tv u_ s0 v_ m/\oN fp F W tg/\Kept own0 w0 W/\(∀x∈aZ Wl sb gf u_ v_,x∈own0\/w0.heap.size<=x)/\iT ar m/\iR m/\aA m.out<=50/\aA m.tape<=17592186044416
def GJ{ar:Nat->Option Nat}{n:List eI}{m:cY}{k:Nat}{r:cY×Nat}(ht:mY ar n)(ad:lN n)(h:dJ Wl fp F b_ w sb gf cap t0 tv u_ s0 v_ m)(hT:oN fp F w n)(hp:EM (aZ Wl sb gf u_ v_) w)(M:b_<=H_ w) (hA:iT ar m) (hU:iR m) (ag:aA m.out<=50) (ah:aA m.tape<=17592186044416) (B:fB n k m=Wj r):Wn Ww 93 #[aW sb] w (Bk fp F b_ sb t0 s0 (aZ Wl sb gf u_ v_) w r):=by
 generalize ae:aZ Wl sb gf u_ v_=d at hp;refine(Lb w sb (λk W=>∃m,Fk fp F b_ sb t0 s0 d w ar n m W/\fB n k m=Wj r) (λW=>r.2=0/\uh fp F b_ sb t0 s0 d w r.1 W) (λq W=>q=r.2/\r.2≠0/\uh fp F b_ sb t0 s0 d w r.1 W) (λj S fj W=>∃y gf cap tv u_ v_ a u c g,S=gf/\fj=aA a*6/\(ue F y (H_ w)/\dJ Wl fp y b_ W sb gf cap t0 tv u_ s0 v_ ⟨a++[u],c,g⟩/\oN fp y W n/\Kept d w W/\(∀x∈aZ Wl sb gf u_ v_,x∈d\/H_ w<=x))/\(iT ar ⟨a++[u],c,g⟩/\iR ⟨a++[u],c,g⟩/\aA g<=50/\aA c<=17592186044416)/\fB n (j+1) ⟨a++[u],c,g⟩=Wj r) (λj t z D b W=>∃y gf cap tv u_ v_ a u f i c g,(ue F y (H_ w)/\dJ Wl fp y b_ W sb gf cap t0 tv u_ s0 v_ ⟨a++[f],c,g⟩/\oN fp y W n/\Kept d w W/\(∀x∈aZ Wl sb gf u_ v_,x∈d\/H_ w<=x))/\(iT ar ⟨a++[u],c,g⟩/\iR ⟨a++[u],c,g⟩/\aA g<=50/\aA c<=17592186044416)/\fB n (j+1) ⟨a++[u],c,g⟩=Wj r/\u.su=Wj (i,f)/\b=i.sd/\Wn Ww D #[z,aW sb] W (Bk fp y b_ sb t0 s0 (aZ Wl sb gf u_ v_) W (cD n i a f c g))) k (by grind[ue.refl,Kept.refl,Fk]) (λk W hL=>?_) (λj S fj W hM=>?_) (λj S fj W hM=>?_) λj t z D b W hN=>?_).mono ?_;have ⟨m,⟨y,gf,cap,tv,u_,v_,U,A,V,E,N,H,X,g8,g9⟩,B⟩:=hL;have Q:=A.count;have hd:=H.ok.deep;refine⟨_,_,_,aB A.n_ i_,aH A.n_,Z,λh0=>?_,λh0=>?_⟩;have hm:m.f_=[]:=(by grind);cases k with|zero=>rw[fB]at B;cases B|succ j=>grind[fB,uh]
 have ⟨b,f,e⟩:=pH (l:=m.f_) (G_);have ⟨fr,t,o⟩:=m;simp only at e;subst e;cases k with|zero=>rw[fB]at B;cases B|succ j=>exact⟨j,i_,gf,aA b*6,y,gf,cap,tv,u_,v_,b,f,t,o,i_,i_,G_,G_,B⟩
 obtain⟨y,gf,cap,tv,u_,v_,b,f,t,o,rfl,rfl,⟨U,A,V,E,N⟩,⟨H,X,g8,g9⟩,B⟩:=hM;have Q:=A.count;have hd:=H.ok.deep;have K:=A.n_;rw[Q,et,ib]at K;simp at hd;apply (uJ sb S (aA b) cap W (aB K i_) Z).mono;rintro e w' ⟨he,q,rfl⟩;have hS:=bZ.drewN W q;exact⟨he,y,S,cap,tv,u_,v_,b,f,t,o,i_,i_,⟨U,A.grow hS.below (s_) (G_),V.j_ (s_) (s_),E.trans (Kept.q_ (own:=[]) hS.below) (s_),N⟩,G_,B⟩;obtain⟨y,gf,cap,tv,u_,v_,b,u,t,o,rfl,rfl,⟨U,A,V,E,N⟩,⟨H,X,g8,g9⟩,B⟩:=hM;have htop:=H.ok.top u (s_);have J:=FW htop.next;obtain⟨T,Q,-⟩:=htop.code;have ai:=Q.len;generalize u.fn.code[u.next]'htop.next=i at J;apply (A.zq J Z).mono;rintro e w' ⟨v,p,he,q1,q2,q3,q4⟩;have g3':=V.j_ (λx C=>q3.block x (A.apart x C).1 (A.apart x C).2) zW;have hk':=E.trans q3 N;have hp':=hp.step hk' (λx C=>N x (by rw[<-q4];exact C));have ⟨t',z,D,bb,e1,e2,e3,e4,e5⟩:=Nn ht H J X q2 g3' hp' (em M hk'.size) g8 g9 q1;exact⟨t',z,D,bb,G_,e2,e3,y,S,cap,tv,u_,p,b,u,_,i,t,o,G_,G_,B,J,e4,e5⟩;have ⟨y,gf,cap,tv,u_,v_,a,u,f,i,tp,o,⟨U,A,V,E,N⟩,⟨H,X,g8,g9⟩,B,J,hb,Q⟩:=hN;have ⟨s1,s2,s3⟩:=Pf B J;apply Q.mono;rintro e w' ⟨he,ab,G,P,I,aa,s,p,d1,d2,d3⟩;have hk':=E.trans ab N;have L:∀x∈aZ Wl sb P s p,x∈d\/H_ w<=x:=λx C=>by rcases d3 x C with h1|h1;grind;exact dv (em E.size h1)
 have hTab:=V.j_ (λx C=>ab.block x (A.apart x C).1 (A.apart x C).2) d1.sub;have hal:=λob=>(dw _ w').alloc kB ob;rcases he with ⟨hz,rfl⟩|⟨hz,rfl⟩;refine ea ⟨i_,λac ob=>?_,λaf ob=>?_⟩;have hr:=s2 hz (by rw[<-hb];exact ac);rw[hr];exact⟨hz,hk'.trans (Kept.q_ (own:=[]) (hal ob)) (s_),G,P,I,aa,s,p,U.trans d1 E.size,d2.grow (hal ob) (s_) (G_),L⟩;refine⟨_,⟨G,P,I,aa,s,p,U.trans d1 E.size,d2.grow (hal ob) (s_) (G_),hTab.j_ (λx C=>(hal ob).block x (d2.apart x C).1) (s_),hk'.trans (Kept.q_ (own:=[]) (hal ob)) (s_),L,(EJ ht H J).2.2 hz,LD ad X J,m8 g8,em ZS g9⟩,G_⟩;grind[ue.trans,Kept.size,uh];rintro e w' (⟨rfl,h1,h2⟩|⟨q,rfl,rfl,h1,h2⟩);exact⟨ea G_,h2⟩;exact⟨dv G_,h2⟩
end
def Pn(w:aL)(b a:Nat)(R:Nat->Wp->Prop)(P:lF)(r:a<=1000000) (n:Hid (Wn Ww 92 #[.func (.func 93) #[aW b] #[]] w λe f=>∃k:Nat,k<=1000/\e=bP (Y k)/\R k f)) (m:Hid (∀k W,R k W->(∃u,eJ W b 4 u)/\W.frozen? (aJ b 4)=Wl/\b<H_ W/\eJ W b 0 (Y a))) (j:Hid (∀k W,R k W->¬(k=0/\a=500)->P (c9 W (aJ b 4) (Y k)))) (p:Hid (∀W,R 0 W->a=500->P (c9 (c9 W (aJ b 4) (Y 0)) (aJ b 4) (Y 9)))):Wn Ww 54 #[aW b] w λe f=>e=eV/\P f:=by
 have l:=b9;go_in;go_wp;apply n.mono;rintro e q ⟨k,s,rfl,c⟩;have ⟨⟨u,c1⟩,f1,l1,c0⟩:=m _ _ c;by_cases g:k=0
 .subst g;by_cases i:a=500;.subst i;have d:=O (p _ c i_);clear c;go_wp2;go_end0;exact⟨i_,d⟩
  have d:=O (j _ _ c λh=>i h.2);have o:¬(a:Int)=500:=Z;clear c;go_wp2;go_end0;exact⟨i_,d⟩
 have d:=O (j _ _ c λh=>g h.1);have o:¬(k:Int)=0:=Z;clear c;go_wp2;go_end0;exact⟨i_,d⟩
section
variable {fp:iD} {F:bI} {b_:Nat} {w:aL} {sb gf cap:Nat} {t0 tv u_ s0:aU} {v_:List oo}
def dJ.yi{m:cY}(h:dJ Wl fp F b_ w sb gf cap t0 tv u_ s0 v_ m)(x:aU):dJ Wl fp F b_ (c9 w (aJ sb 4) x) sb gf cap t0 tv u_ x v_ m/\Kept (aZ Wl sb gf u_ v_) w (c9 w (aJ sb 4) x):=by have ⟨n1,n2⟩:=eu.1 h.nodup;have a:∀k,k≠sb->(c9 w (aJ sb 4) x).heap[k]?=w.heap[k]?:=(by grind[eh]);have hFk:=λb d=>a b λe=>(h.apart b d).2 ml;refine⟨⟨aN h.n_,aX h.row λk e=>a k ?_,h.vu.j_ hFk (s_) λv f k c=>a k ?_,h.tape.j_ hFk (s_),aX h.out λk e=>a k ?_,h.nodup,λk a=>by simpa using h.lt k a,qe⟩,⟨rfl,rfl,rfl,s_,pq⟩⟩;cases e;grind;grind[dD];grind
def Hi(a:aU)(W:aL):(callFunc 93 #[a]).run Ww W=.ok (.enter 93 #[a]) W:=k_
def YK{K:Nat->Option Nat}{j:List eI}{m:cY}{k a:Nat}{r:cY×Nat}(U:mY K j)(D:lN j)(h:dJ Wl fp F b_ w sb gf cap (Y a) tv u_ s0 v_ m)(hT:oN fp F w j)(hp:EM (aZ Wl sb gf u_ v_) w)(o:b_<=w.heap.size) (hA:iT K m) (hU:iR m) (B:aA m.out<=50) (C:aA m.tape<=17592186044416) (L:fB j k m=Wj r) (I:a<=1000000) (ac:r.2<=1000):Wn Ww 54 #[aW sb] w λe z=>e=eV/\uh fp F b_ sb (Y a) (Y (cC a r.2)) (aZ Wl sb gf u_ v_) w r.1 z:=by
 have t:cB w (h_ w (Xe #[Y 0] 52)):=(by grind[eo,dw]);have V:=h.grow t (s_) (λ_ h=>ea h);have E:oN fp F (h_ w (Xe #[Y 0] 52)) j:=hT.j_ ((by grind[ej,dJ.apart])) s_;have n:Kept (aZ Wl sb gf u_ v_) w (h_ w (Xe #[Y 0] 52)):=Kept.q_ t;have X:=GJ U D V E ((by grind[EM.step])) (em o n.size) hA hU B C L;have A:(h_ w (Xe #[Y 0] 52)).heap[w.heap.size]?=Wj (Xe #[Y 0] 52):=aS _ _ i_ _;have M:w.heap.size∉aZ Wl sb gf u_ v_:=λhm=>by have:=h.lt _ hm;exact Z
 have hS:=JC 93 (aJ sb 0) w (λk W=>k=r.2/\uh fp F b_ sb (Y a) s0 (aZ Wl sb gf u_ v_) (h_ w (Xe #[Y 0] 52)) r.1 W) Hi (X.mono λe z J=>by grind[Kept.block,uh,Bk]);generalize ad:h_ w (Xe #[Y 0] 52)=N at*;have hD:∀W x,uh fp F b_ sb (Y a) s0 (aZ Wl sb gf u_ v_) N r.1 W->uh fp F b_ sb (Y a) s0 (aZ Wl sb gf u_ v_) w r.1 (c9 W (aJ w.heap.size 0) x):=λW x J=>by
  obtain⟨p,G,g,f,l,c,d,y,i,s⟩:=J;have ab:w.heap.size<N.heap.size:=G_;have aa:¬F w.heap.size:=λhF=>by have:=(h.apart _ hF).1;exact Z
  have S:w.heap.size∉aZ Wl sb g c d:=(by grind);have P:∀b,G b->b≠w.heap.size:=(by grind[ue.new]);have L:∀k,k≠w.heap.size->(c9 W (aJ w.heap.size 0) x).heap[k]?=W.heap[k]?:=(by grind[eh]);have H:∀k∈aZ Wl sb g c d,(c9 W (aJ w.heap.size 0) x).heap[k]?=W.heap[k]?:=(by grind);have u:∀b,G b->(c9 W (aJ w.heap.size 0) x).heap[b]?=W.heap[b]?:=(by grind);refine⟨⟨p.os.trans n.os,p.tape.trans n.tape,p.output.trans n.output,(by grind[Nat.le_trans,Kept.size]),λk h1 h2=>?_⟩,G,g,f,l,c,d,y.le (Z),⟨by grind[aZ,dJ.n_],aX i.row λk e=>?_,i.vu.j_ u (s_) λv hv k T=>H k ?_,i.tape.j_ u (s_),aX i.out pq,i.nodup,(by grind[dJ.lt]),qe⟩,G_⟩;grind[Kept.block];cases e;grind[aZ];grind[dD,aZ]
 refine(Pn w sb a (λk W=>k=r.2/\uh fp F b_ sb (Y a) s0 (aZ Wl sb gf u_ v_) w r.1 W) (λz=>uh fp F b_ sb (Y a) (Y (cC a r.2)) (aZ Wl sb gf u_ v_) w r.1 z) I (hS.mono ?_) (λk W q=>?_) (λk W q Q=>?_) λW q Q=>?_);grind;have ⟨_,_,G,g,f,l,c,d,_,i,_⟩:=q;exact⟨⟨_,aB i.n_ i_⟩,aE i.n_,aH i.n_,aB i.n_ i_⟩;obtain⟨rfl,p,G,g,f,l,c,d,y,i,s⟩:=q;have ⟨q1,q2⟩:=i.yi (Y r.2);grind[cC,Kept.trans,uh];have ⟨hz,p,G,g,f,l,c,d,y,i,s⟩:=q;have ⟨q1,q2⟩:=i.yi (Y 0);have ⟨q3,q4⟩:=q1.yi (Y 9);have e:cC a r.2=9:=ec ⟨hz.symm,Q⟩;rw[e];exact⟨(p.trans q2 s).trans q4 s,G,g,f,l,c,d,y,q3,s⟩
end
def lV{e:Wr}{n:Nat}{i:List Wo}(h:w.ownsRow E e K v n i)(m:J<=E):w.ownsRow J e K v n i:=by refine⟨h.1,?_⟩;rcases h.2 with h|⟨g,f,d,j,l,k⟩;grind;exact dv ⟨g,f,d,j,Z,k⟩
def Gl(fp:iD)(F:bI)(w:aL)(m_ stop n:Nat)(tv xo:aU)(v_:List oo)(f_:List aG)(g cap j:Nat)(W:aL):Prop:=∃us:List oo,aA us=j/\CI w m_ stop n g cap tv xo (us++v_.drop j) (dD Wl us) W/\lX Wl fp F (w.heap.size+2) W us (f_.take j)
def Nf(fp:iD)(F:bI)(w:aL)(m_ stop n:Nat)(tv xo:aU)(v_:List oo)(f_:List aG)(g cap j:Nat)(W:aL):Prop:=∃(us:List oo) (v:oo) (f:aG) (x:aU),aA us=j/\v_[j]?=Wj v/\f_[j]?=Wj f/\CI w m_ stop n g cap tv xo (us++{v with vv:=x}::v_.drop (j+1)) (dD Wl us++x.ownBlock.toList) W/\lX Wl fp F (w.heap.size+2) W us (f_.take j)/\oM F (w.heap.size+2) W x f.g_
def V9{B:iD}(h:oZ B R w v s)(hF:∀k,R k->k<w.heap.size)(bd:s.m.f_≠[])(bg:aA s.m.f_<=16)(hb:∀f∈s.m.f_,aA f.g_<=90001/\aA f.ops<=99000)(bf:aA s.m.out<=50):Wn Ww 228 #[v] w λe z=>∃v',e=bP v'/\∃gf cap tv u_ v_,v'=W1 #[Y s.m_,Wz (Wj (aJ gf 0)) (aA v_) cap,tv,u_,Y s.stop]/\cB w z/\MF B R w.heap.size z gf cap tv u_ v_ s.m:=by
 obtain⟨fv,tv,I,v_,rfl,aj,J,ax,ar⟩:=h;have ac:=J.length;have L:0<aA v_:=by grind
 rcases aj with ⟨e,_⟩|⟨x0,c0,be,rfl,bi,bc,bb,bh⟩;rw[e]at L;simp at L;have ad:∃ta tl tc,tv=Wz ta tl tc:=by grind[pP]
 have ai:∃xa xl xc,I=Wz xa xl xc:=by grind[GH]
 generalize S:h_ (h_ w (Xe #[Y s.m_,Wz (Wj (aJ x0 0)) (aA v_) c0,tv,I,Y s.stop] 54)) (Xe #[Y 0,bR,bR,bR,Y 0] 54)=w2;have aw:cB w w2:=by rw[<-S];exact((dw _ w).alloc (Z) _).alloc s_ _
 have ap:w2.heap.size=w.heap.size+2:=by rw[<-S];simp
 have an:w2.heap[w.heap.size]?=Wj (Xe #[Y s.m_,Wz (Wj (aJ x0 0)) (aA v_) c0,tv,I,Y s.stop] 54):=by grind[ed,aS]
 have au:w2.heap[w.heap.size+1]?=Wj (Xe #[Y 0,bR,bR,bR,Y 0] 54):=by rw[<-S];exact aS _ _ s_ _
 have hFk2:=λb hb=>aw.block b (hF b hb);have Q:∀{W:aL},cB w W->∀b,R b->W.heap[b]?=w.heap[b]?:=(by grind[ej]);have M:∀u∈kY v_,u.oneCell'=Wm:=by
  have ba:∀(vs:List oo) (G:List aG),yV B R w vs G->∀u∈kY vs,u.oneCell'=Wm:=by
   intro vs;induction vs with|nil=>intro G _ u T;cases T|cons v vs ih=>
    intro G J u T;cases G with|nil=>exact J.elim|cons f G=>
     have ⟨C,h2⟩:=J;rcases fg.1 T with T|T;have ⟨fbk,gc,cp,row,D,_⟩:=C.fn;have ⟨p,hp⟩:=C.sp.form;have az:∃x n c,v.vv=Wz x n c:=by rcases C.g_.row with ⟨_,e⟩|⟨g,c,xs,e,_⟩<;>exact⟨_,_,_,e⟩
     have aq:∃x n c,v.ov=Wz x n c:=by rcases C.ops.row with ⟨_,e⟩|⟨g,c,xs,e,_⟩<;>exact⟨_,_,_,e⟩
     have ⟨x1,n1,c1,N⟩:=az;have ⟨x2,n2,c2,e3⟩:=aq;simp[oo.cells,D,C.nx,C.ln,hp,N,e3,fe,jo,or_false]at T;rcases T with rfl|rfl|rfl|rfl|rfl|rfl<;>rfl;grind
  grind
 have A:∀j (H:j<aA v_),∃v f,v_[j]?=Wj v/\s.m.f_[j]?=Wj f/\Cp B R w v f/\f∈s.m.f_/\v_.drop j=v::v_.drop (j+1)/\s.m.f_.take (j+1)=s.m.f_.take j++[f]:=λj H=>by have ak:j<aA s.m.f_:=Z;refine⟨v_[j],s.m.f_[j],ew H,ew ak,J.get j _ _ (ew H) (ew ak),s_,s_,s_⟩
 have hR:∀g cap j W,Gl B R w s.m_ s.stop (aA v_) tv I v_ s.m.f_ g cap j W->i9 W (aJ w.heap.size 1)=Wj (Wz (Wj (aJ g 0)) (aA v_) cap)/\w.heap.size<W.heap.size/\g<W.heap.size:=λg cap j W t=>by have ⟨i,_,a,_⟩:=t;exact⟨aB a.b1 i_,aH a.b1,(a.xt g s_).2⟩
 refine(A2 w w2 s.m_ s.stop x0 (aA v_) c0 (Wz (Wj (aJ x0 0)) (aA v_) c0) tv I (λv' z=>∃gf cap tv u_ v_,v'=W1 #[Y s.m_,Wz (Wj (aJ gf 0)) (aA v_) cap,tv,u_,Y s.stop]/\cB w z/\MF B R w.heap.size z gf cap tv u_ v_ s.m) (λg cap W=>W.ownsRow (w.heap.size+2) 112 6 (Wz (Wj (aJ g 0)) (aA v_) cap) (aA v_) (kY v_)/\cB w2 W) (Gl B R w s.m_ s.stop (aA v_) tv I v_ s.m.f_) (Nf B R w s.m_ s.stop (aA v_) tv I v_ s.m.f_) (λg cap j x l c W=>∃i v f,aA i=j/\v_[j]?=Wj v/\s.m.f_[j]?=Wj f/\CI w s.m_ s.stop (aA v_) g cap tv I (i++v::v_.drop (j+1)) (dD Wl i++(Value.slice x l c).ownBlock.toList) W/\lX Wl B R (w.heap.size+2) W i (s.m.f_.take j)/\oM R (w.heap.size+2) W (Wz x l c) f.g_) (λg cap j x l c W=>∃i v f y,aA i=j/\v_[j]?=Wj v/\s.m.f_[j]?=Wj f/\CI w s.m_ s.stop (aA v_) g cap tv I (i++{v with vv:=y}::v_.drop (j+1)) (dD Wl i++y.ownBlock.toList++(Value.slice x l c).ownBlock.toList) W/\lX Wl B R (w.heap.size+2) W i (s.m.f_.take j)/\oM R (w.heap.size+2) W y f.g_/\oM R (w.heap.size+2) W (Wz x l c) f.ops) (λg cap x l c W=>∃i,aA i=aA v_/\CI w s.m_ s.stop (aA v_) g cap tv I i (dD Wl i++(Value.slice x l c).ownBlock.toList) W/\lX Wl B R (w.heap.size+2) W i s.m.f_/\W.ownsRow (w.heap.size+2) 9 1 (Wz x l c) (aA s.m.out) (sU s.m.out)) Z rfl ai ad S ?_ (λg cap W t=>?_) hR (λg cap j W t H=>?_) (λg cap j x l c W t=>?_) (λg cap j W t=>?_) (λg cap j x l c W t=>?_) (λg cap W t=>?_) (λg cap x l c W t=>?_) λg cap x l c W W' t o P=>?_);refine(OF x0 0 (aA v_) c0 (kY v_) w2 (by rw[jU]) Z (λj u H=>?_) M).mono ?_;grind[aB];rintro e z ⟨v',rfl,r,m⟩;rw[ap]at r;rcases r.2 with ⟨r1,r2⟩|⟨g,cp,cu,r1,_⟩;exact Z;grind;have ⟨r,m⟩:=t;have hg:=r.lt g i_;have hb1:=(m.block _ Z).trans an;have hb2':=(m.block _ Z).trans au;refine⟨⟨_,aB hb1 i_⟩,aE hb1,Z,[],rfl,⟨?_,by simp[dD],λk o=>?_,?_,aN hb1,?_⟩,trivial⟩;exact aX r λk e=>eh _ _ _ _ (by cases e;grind);simp[dD]at o;subst o;exact⟨hg.1,by simpa using hg.2⟩;grind[Below.setCell,Below.trans,Below.mono];grind[eh];obtain⟨i,rfl,a,q⟩:=t;have ⟨v,f,D,N,hv,hfm,e3,e4⟩:=A (aA i) H;rw[e3]at a;have ⟨c1,c2,c3⟩:=a.cell 4 Z;have aa:=hv.j_ (Q a.rP) zW;have ⟨x,c,e5,hcl⟩:=aa.g_.cells G_;refine⟨x,aA f.g_,c,c1.trans (by rw[<-e5];rfl),hcl.mono ?_⟩;rintro e z ⟨x',c',ys,he,r,hr,m⟩;have hobl:=λk o=>r.lt k o;have P:=a.j_;refine⟨x',c',he,i,v,f,i_,D,N,a.grow m _ hobl,qC q (lm) ((by grind[ej,CI.xt])),⟨ys,lV r Z,hr.j_ lm⟩,hv.Ar⟩;obtain⟨i,v,f,rfl,D,N,a,q,K⟩:=t;have ⟨c1,c2,c3⟩:=a.cell 4 Z;have af:∀k∈dD Wl i++(Value.slice x l c).ownBlock.toList,k≠g:=λk o e=>(eu.1 a.nodup).1 G_;have V:∀k,k≠g->(c9 W (aJ g (aA i*6+4)) (Wz x l c)).heap[k]?=W.heap[k]?:=(by grind[eh]);have ag:∀b,R b->b≠g:=(by grind[CI.xt]);refine⟨⟨_,c1⟩,c2,c3,i,v,f,_,i_,D,N,a.set 4 Z _ rfl,(by grind[qC]),K.j_ (G_) (s_) G_⟩;obtain⟨i,v,f,x,rfl,D,N,a,q,K⟩:=t;have ⟨c1,c2,c3⟩:=a.cell 5 Z;have H:=(ie.1 D).1;have ⟨v',f',e1',e2',hv,hfm,e3,e4⟩:=A (aA i) H;rw[D]at e1';cases e1';rw[N]at e2';cases e2';have aa:=hv.j_ (Q a.rP) zW;have ⟨y,d,e5,hcl⟩:=aa.ops.cells G_;refine⟨y,aA f.ops,d,c1.trans (by rw[<-e5];rfl),c3,hcl.mono ?_⟩;rintro e z ⟨y',d',ys,he,r,hr,m⟩;have hobl:=λk o=>r.lt k o;have P:=a.j_;have hFw:=λb E=>m.block b (ef (hF b E) a.rP.size);refine⟨y',d',he,i,v,f,x,i_,D,N,a.grow m _ hobl,qC q hFw λk o=>m.block k (a.xt k (G_)).2,K.j_ hFw (s_) λk o=>m.block k (a.xt k (by simp[o])).2,⟨ys,lV r Z,hr.j_ hFw⟩,hv.C_⟩;obtain⟨i,v,f,y,rfl,D,N,a,q,K,av⟩:=t;have ⟨c1,c2,c3⟩:=a.cell 5 Z;have H:=(ie.1 D).1;have ⟨v',f',e1',e2',hv,hfm,e3,e4⟩:=A (aA i) H;rw[D]at e1';cases e1';rw[N]at e2';cases e2';have af:∀k∈dD Wl i++y.ownBlock.toList++(Value.slice x l c).ownBlock.toList,k≠g:=λk o e=>(eu.1 a.nodup).1 G_;have V:∀k,k≠g->(c9 W (aJ g (aA i*6+5)) (Wz x l c)).heap[k]?=W.heap[k]?:=λk o=>eh _ _ _ _ o;have ag:∀b,R b->b≠g:=(by grind[CI.xt]);have hFs:=λb E=>V b (ag b E);have ab:=a.set (v':={v with vv:=y,ov:=Wz x l c}) 5 Z (Wz x l c) rfl;have U:=hv.j_ (Q (ab.rP)) zW;refine⟨⟨_,c1⟩,c2,c3,i++[{v with vv:=y,ov:=Wz x l c}],s_,?_,?_⟩;have e5:dD Wl (i++[{v with vv:=y,ov:=Wz x l c}])=dD Wl i++y.ownBlock.toList++(Value.slice x l c).ownBlock.toList:=by rw[SR,gv];rfl
 grind;rw[e4];refine(qC q hFs (G_)).snoc ⟨U.fn,U.nx,U.ln,U.sp,K.j_ hFs (s_) G_,av.j_ hFs (s_) G_⟩;have ⟨i,hul,a,q⟩:=t;rw[List.drop_of_length_le (Z),List.append_nil]at a;rw[ac,ij (Z)]at q;have P:=a.j_;have ae:=ar.j_ (Q a.rP) zW;refine⟨aB a.b1 i_,?_⟩;have ah:∀x' l' c' (z:aL),z.ownsRow W.heap.size 9 1 (Wz x' l' c') (aA s.m.out) (sU s.m.out)->cB W z->∃i,aA i=aA v_/\CI w s.m_ s.stop (aA v_) g cap tv I i (dD Wl i++(Value.slice x' l' c').ownBlock.toList) z/\lX Wl B R (w.heap.size+2) z i s.m.f_/\z.ownsRow (w.heap.size+2) 9 1 (Wz x' l' c') (aA s.m.out) (sU s.m.out):=λx' l' c' z r m=>⟨i,hul,a.grow m _ λk o=>r.lt k o,(by grind[qC,ej,CI.xt]),lV r Z⟩;rcases ae with ⟨D,rfl⟩|⟨go,co,cu,rfl,C,h2,h3,h4⟩;apply pN (OA W);exact⟨none,0,0,i_,ah _ _ _ _ (by grind[World.ownsRow_nil,sU]) (dw _ _)⟩;refine(OB go 0 (aA s.m.out) co (sU s.m.out) W (by simp[sU]) Z (λj u H=>?_) λu T=>?_).mono ?_;grind[aB];obtain⟨y,_,rfl⟩:=ig.1 T;rfl;grind[gG];have ⟨i,hul,a,q,r⟩:=t;exact⟨⟨aB a.b1 i_,aB a.b1 i_,aB a.b1 i_,⟨_,aB a.b1 i_⟩,aB a.b1 i_,aE a.b1,aH a.b2⟩,a.b2⟩;have ⟨i,hul,a,q,r⟩:=t;have al:∀k∈g::(dD Wl i++(Value.slice x l c).ownBlock.toList),k∉[w.heap.size,w.heap.size+1]:=(by grind[CI.xt]);have hkk:=λk X=>o.block k (a.xt k X).2 (al k X);have hFW:=λb E=>o.block b (ef (hF b E) a.rP.size) (by have:=hF b E;simp;exact Z);have ay:cB w W':=⟨o.os.trans a.rP.os,o.tape.trans a.rP.tape,o.output.trans a.rP.output,by rw[P];exact a.rP.size,(by grind[Kept.block,CI.rP,ej])⟩;have ao:∀k,k∈g::((Value.slice x l c).ownBlock.toList++dD Wl i)↔k∈g::(dD Wl i++(Value.slice x l c).ownBlock.toList):=(by grind);have am:∀(u:List oo) (G:List aG),lX Wl B R (w.heap.size+2) W' u G->lX Wl B R w.heap.size W' u G:=by intro u;induction u with|nil=>grind[lX]|cons v vs ih=>intro G h;cases G with|nil=>exact h.elim|cons f G=>have ⟨C,h2⟩:=h;have ⟨⟨xs,a1,a2⟩,a3⟩:=C.g_;have ⟨⟨ys,b1,b2⟩,b3⟩:=C.ops;exact⟨⟨C.fn,C.nx,C.ln,C.sp,⟨⟨xs,lV a1 Z,a2⟩,a3⟩,⟨⟨ys,lV b1 Z,b2⟩,b3⟩⟩,ih G h2⟩
 refine⟨g,cap,tv,Wz x l c,i,by rw[hul],ay,⟨?_,(by grind[qC]),ax.j_ (G_) (s_),?_,?_,λk X=>?_⟩⟩;rw[hul];exact lV (aX a.row λk e=>by cases e;grind) Z;exact lV (aX r λk e=>hkk k (by simp[e])) Z;grind[CI.nodup];grind[CI.xt]
def AP{t:Wr}{b:List Wo}(h:w.ownsRow E t K v J b):∃x l c,v=Wz x l c:=by grind[gG]
theorem EM.of{b:aL}{own:List Nat}(h:oY w)(c:cB w b)(f:∀k∈own,w.heap.size<=k):EM own b:=λW d=>by
 cases e:prog.globalNamed "internal/strconv.uint64pow10" with|none=>grind[oY,Lib.TabIs,World.var?]|some g=>
  have a:g<w.heap.size:=by grind[oY,Lib.TabIs,World.var?]
  apply h.j_ e;rw[d.block g (ef a c.size) (G_),c.block g a]
def oZ.form(h:oZ H R w v s):∃a tv xo,v=W1 #[Y s.m_,a,tv,xo,Y s.stop]/\(∃x l c,a=Wz x l c)/\(∃x l c,tv=Wz x l c)/\(∃x l c,xo=Wz x l c):=by grind[oZ,DL,pP,GH]
def MF.run{j a:aU}{m:cY}(h:MF H R E w J K j a I m)(u:∀b,R b->b<E)(q:E<=H_ w)(p o:aU):dJ Wl H R E (h_ w (Xe #[p,Wz (Wj (aJ J 0)) (aA I) K,j,a,o] 54)) (H_ w) J K p j a o I m/\∀k∈aZ Wl (H_ w) J a I,E<=k:=by
 generalize t:h_ w (Xe #[p,Wz (Wj (aJ J 0)) (aA I) K,j,a,o] 54)=W;have y:cB w W:=by grind[eo,dw]
 have v:H_ W=H_ w+1:=by rw[<-t];simp
 have l:W.heap[H_ w]?=Wj (Xe #[p,Wz (Wj (aJ J 0)) (aA I) K,j,a,o] 54):=by grind[aS]
 have n:∀b,R b->W.heap[b]?=w.heap[b]?:=(by grind[ej]);have x:∀k∈J::(a.ownBlock.toList++dD Wl I),W.heap[k]?=w.heap[k]?:=(by grind[ej,MF.xt]);refine⟨⟨l,aX h.row λk e=>by cases e;grind,qC h.vu n G_,h.tape.j_ n (s_),aX h.out G_,?_,λk g=>?_,λk g=>?_⟩,λk g=>?_⟩;grind[MF.nodup,aZ];rcases fe.1 g with rfl|g;exact Z;have:=(h.xt k g).2;exact Z;have z:=u k g;refine⟨Z,λr=>?_⟩;rcases fe.1 r with rfl|r;exact Z;have:=(h.xt k r).1;exact Z;rcases fe.1 g with rfl|g;exact Z;exact(h.xt k g).1
def H9{ar:Nat->Option Nat}{k:Nat}{r:cY×Nat}(ht:mY ar A)(ad:lN A)(h:oZ H R w v s)(hF:∀b,R b->b<w.heap.size)(hT:oN H R w A)(hp:oY w)(hs:s.stop=0) (hA:iT ar s.m) (N:s.m.f_≠[]) (hU:iR s.m) (P:aA s.m.out<=50) (af:aA s.m.tape<=17592186044416) (hk:fB A k s.m=Wj r) (ap:s.m_+1<=1000000) (hr:r.2<=1000):Wn Ww 174 #[v] w λe D=>∃v',e=bP (Xa #[v',Xc Wm])/\cB w D/\∃G,ue R G w.heap.size/\(∀b,G b->b<D.heap.size)/\oZ H G D v' ⟨s.m_+1,r.1,cC (s.m_+1) r.2⟩:=by
 obtain⟨fv,tv,xo,rfl,f1,f2,f3⟩:=h.form;have U:∀f∈s.m.f_,aA f.g_<=90001/\aA f.ops<=99000:=λf hf=>by
  have X:∃I,eQ ar f I:=by have ⟨b,g,e⟩:=pH N;rw[e]at hf;have ah:=hA.ok.low;have ak:=hA.ok.top;grind[nE]
  have ⟨I,⟨T,J,hh,_⟩,hn,_,hv⟩:=X;have u:=(J.ins _ _ (ew hn)).2.1;grind[oX.len]
 rw[hs]at h⊢;generalize B:h_ (h_ w (bM #[Y s.m_,fv,tv,xo,Y (0:Nat)] 54)) (bM #[Y 0,bR,bR,bR,Y 0] 54)=p;have z:cB w p:=by rw[<-B];exact((dw _ w).alloc (Z) _).alloc s_ _
 have am:p.heap.size=w.heap.size+2:=by rw[<-B];simp
 have an:p.heap[w.heap.size+1]?=Wj (bM #[Y 0,bR,bR,bR,Y 0] 54):=by rw[<-B];exact aS _ _ s_ _
 have ac:∀b,R b->b<p.heap.size:=(by grind);have h2:oZ H R p (W1 #[Y s.m_,fv,tv,xo,Y (0:Nat)]) s:=by have:=h.j_ (λb hb=>z.block b (hF b hb)) zW;exact this
 refine(Ol w p s.m_ fv tv xo (λv' D=>cB w D/\∃G,ue R G w.heap.size/\(∀b,G b->b<D.heap.size)/\oZ H G D v' ⟨s.m_+1,r.1,cC (s.m_+1) r.2⟩) (λt n l j M W=>∃a,n=aA a/\cB p W/\MF H R p.heap.size W t l j M a s.m) (λb W=>∃W0 t l j i a G,(cB p W/\p.heap.size<=b)/\(p.heap.size<=W0/\ue R G W0)/\dJ Wl H G p.heap.size W b t l (Y ((s.m_+1:Nat):Int)) j i (Y (cC (s.m_+1) r.2)) a r.1/\∀k∈aZ Wl b t i a,p.heap.size<=k) Z f1 f2 f3 B ?_ (λt n l j M W X=>?_) λb W X=>?_);apply (V9 h2 ac N hA.ok.deep U P).mono;rintro e D ⟨v',rfl,t,l,j,i,a,rfl,q,J⟩;rw[hs];refine⟨t,aA a,l,j,i,i_,?_,AP J.out,a,i_,q,J⟩;rcases J.tape with ⟨_,x,c,e⟩|⟨g,o,c,e,_⟩<;>exact⟨_,_,_,e⟩;obtain⟨a,rfl,q,J⟩:=X;have ⟨hrun,hown⟩:=J.run ac q.size (Y ((s.m_+1:Nat):Int)) (Y 0);generalize ao:h_ W (bM #[Y ((s.m_+1:Nat):Int),P_ (Wj (aJ t 0)) (aA a) l,j,M,Y 0] 54)=W' at hrun;have ag:cB W W':=by grind[eo,dw]
 have d:=q.trans (ag.mono q.size);have ai:=z.trans (d.mono z.size);have ae:oN H R W' A:=hT.j_ (lm) s_;apply (YK ht ad hrun ae ((by grind[EM.of])) d.size hA hU P af hk Z hr).mono;rintro e D ⟨he,C,G,ab,Q,aa,y,E,d1,d2,d3⟩;have V:∀x∈aZ Wl W.heap.size ab y E,p.heap.size<=x:=λx hx=>by rcases d3 x hx with u|u;grind;exact em d.size u
 refine⟨he,W'.heap.size,ab,Q,aa,y,E,G,⟨⟨C.os.trans d.os,C.tape.trans d.tape,C.output.trans d.output,em d.size C.size,λk m=>?_⟩,q.size⟩,⟨d.size,d1⟩,d2,V⟩;grind[Kept.block,ej];have ⟨W0,t,l,j,i,a,G,⟨g1,g2⟩,⟨g3,g4⟩,g5,g6⟩:=X;have S:=g5.n_;refine⟨_,_,_,_,_,S,s_,?_,AP g5.out,lm,Z,λW' K al=>?_⟩;rcases g5.tape with ⟨_,x,c,e⟩|⟨g,o,c,e,_⟩<;>exact⟨_,_,_,e⟩;have L:=z.trans (g1.mono z.size);have hS:=g5.kept (G:=λk=>G k\/(k∈aZ Wl b t i a/\k≠b)) (G_) (G_);have aj:∀k,(G k\/(k∈aZ Wl b t i a/\k≠b))->k≠w.heap.size+1/\k<W.heap.size:=λk m=>by rcases m with u|⟨u,_⟩;refine⟨?_,(g5.apart k u).1⟩;rcases g4.new k u with h3|h3;grind;exact Z;have:=g6 k u;exact⟨Z,g5.lt k u⟩
 refine⟨⟨K.os.trans L.os,K.tape.trans L.tape,K.output.trans L.output,G_,λk m=>?_⟩,λk=>G k\/(k∈aZ Wl b t i a/\k≠b),⟨λk m=>ea (g4.sub k m),λk m=>?_⟩,G_,hS.j_ ((by grind[Kept.block])) s_⟩;grind[Kept.block,ej];rcases m with u|⟨u,_⟩;rcases g4.new k u with h3|h3;grind;exact Z;grind
def F6(w:aL)(p g:Nat)(L:Nat->Wp->Prop)(P:lF)(S:Nat->Wp->Prop)(N:Nat->Wr->Wo->Nat->Wp->Prop)(B:Nat) (F:Hid (Wn Ww 152 #[aW p] w λe b=>e=bP (aW g)/\L B b)) (J:Hid (∀k W,L k W->∃(f:Nat) (o:Nat) (D:Option Ws) (n c:Nat),eJ W g 1 (Y f)/\eJ W g 0 (aW o)/\eJ W o 1 (P_ D n c)/\g<H_ W/\o<H_ W/\(n<=f->∀q,P (W.drewN q))/\(f<n->∃j,k=j+1/\∀q,Wn Ww 153 #[aW g] (W.drewN q) λe b=>∃t z a,e=bP (dA t z)/\ve t a/\N j t z a b))) (I:Hid (∀j t z a W,N j t z a W->Wn Ww a #[z,aW p] W λe b=>(e=eV/\L j b)\/(∃q,e=iY q/\S q b))):Wn Ww 181 #[aW p] w λe b=>(e=eV/\P b)\/(∃q,e=iY q/\S q b):=by
 go_in;go_wp2_with fail;refine rB F λX l=>?_;have G:=O l;clear l F;go_wp2;go_loopg [] B (λgk wr=>L gk wr);case atStart=>exact G
 case round=>
  have d:=hrel;clear hrel;obtain⟨f,o,D,n,c,V,U,T,l1,l2,u,x⟩:=J _ _ d;by_cases l:n<=f;.have M:=O (u l);have K:¬(f:Int)<(n:Int):=Z;clear d u x;go_wp2_with fail;go_quiet (fail);go_wp2_with fail;exact⟨i_,_,results_none r_ _ _ _,ea ⟨rfl,M _⟩⟩
  obtain⟨j,rfl,C⟩:=x Z;have i:=O C;have K:(f:Int)<(n:Int):=Z;clear d u x C;go_wp2_with fail;go_quiet (fail);go_wp2_with fail;apply (i _).mono;rintro e E ⟨t,z,a,rfl,r,A⟩;have y:=O (I _ _ _ _ _ A);have v:=r.1 z E;have s:=r.2 z (aW p) E;clear A r i;go_wp2_with fail;apply y.mono;rintro e Q (⟨rfl,m⟩|⟨q,rfl,m⟩)
  .have H:=O m;clear m v s;go_wp2;go_roundg j;case measure=>exact Z
   case rel=>exact H
  go_wp2_with fail;exact⟨i_,dv ⟨q,i_,m⟩⟩
