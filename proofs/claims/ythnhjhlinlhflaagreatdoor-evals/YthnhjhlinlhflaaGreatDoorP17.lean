import Derived.Test.YthnhjhlinlhflaaGreatDoorP16
set_option linter.all false
set_option maxRecDepth 100000
set_option maxHeartbeats 0
open List renaming length->aA
open Go.World renaming setCell->c9,alloc->h_,cell?->i9
open Option renaming some->Wj
open Bool renaming false->Wl
open Go renaming Calls->Wn,Value->Wo,World->Wp,TypeId->Wr
open Go.RowKit renaming Hid->Wu
open Go.Proofs.Tryz renaming prog->Ww
open Go.Value renaming slice->Wz,agg->W1,pointer->W_,iface->Xb,bool->Xc
namespace Go.Proofs.YthnhjhlinlhflaaGreatDoor
open Hs _root_.Go.Proofs.Tryz Go.RowKit
variable{L:Bool}{M:List Int}{E:List Wo}{g:List aD}{N Q S:Nat}{d:Prop}{a:aD}{f:aG}{p w:aL}{J T U:aU}{R:bI}{P:cU}{I:iD}
structure Bc(gf:Nat)(row:Option Nat)(w w':aL):Prop where
 os:w'.os=w.os
 tape:w'.tape=w.tape
 output:w'.output=w.output
 size:w.heap.size<=w'.heap.size
 block:∀k,k<w.heap.size->k≠gf->Wj k≠row->w'.heap[k]?=w.heap[k]?
def KG(w:aL)(u:aU):∀j v,([u]:List Wo)[j]?=Wj v->i9 (dZ w #[u] 264) ((⟨H_ w,0,none⟩:Addr).add j)=Wj v:=by intro j v a;match j,a with|0,a=>simp at a;subst a;simp[Addr.add]|j+1,a=>simp at a
def EB(t:Wr)(z:aU):∀u∈([dA t z]:List Wo),u.oneCell'=true:=by intro u a;simp at a;rw[a];rfl
def EH(d l o n:Nat)(cur:Array Wo)(u:aU)(C:List Wo)(t:Wr)(z:aU)(w:aL)(v:w.heap[l]?=Wj (bM cur 112))(G:cur[o+5]?=Wj u)(f:w.ownsRow d 264 1 u n C)(p:u.ownBlock≠Wj l)(y:d<=H_ w)(U:n<=1000000):Wn Ww 342 #[W_ (Wj (aJ l o)),dA t z] w λe w'=>e=eV/\∃m,w'.heap[l]?=Wj (bM (cur.setIfInBounds (o+5) m) 112)/\w'.ownsRow d 264 1 m (n+1) (C++[dA t z])/\(∀k,m.ownBlock=Wj k->u.ownBlock=Wj k\/H_ w<=k)/\Bc l u.ownBlock w w':=by
 have ⟨i0,hi,hz0,hz1,hz2⟩:=info_parts sF;obtain⟨x,c,rfl⟩:=gG f;have E:=aH v;have T:=aB v G;have P:=O f;have M:=O v;have B:=O p;clear f v p;go_in;go_wp2_with (at_builtin;refine wpList_append_lies _ r_ _ _ 110 r_ d 264 i0 _ 1 16 underlying110 hi hz0 hz1 hz2 rfl d_ (P_ x n c) n C r_ (P.alloc _) (aJ (H_ w) 0) 1 1 [dA t z] r_ r_ (KG w _) (EB t z) d_ ky Z ku (H_ w+1) s_ ?_);intro F s I g b j L;have a:I.heap[l]?=Wj (bM cur 112):=by rw[b.block l ku λe=>B e.symm,ed _ _ _ E];exact M
 have Q:=aB a G;have S:=aE a (i:=o+5);have H:=aH a;have D:F≠l:=by grind[dz]
 have HOWN:=O g;have r:=O b;have K:=O j;have A:=O a;clear g b j a;go_wp2;go_end0;refine⟨i_,P_ (Wj (aJ F 0)) (n+1) s,aN A,?_,?_,?_⟩;exact aX HOWN λk q=>eh _ _ _ _ (by cases q;exact D);intro k q;cases q;grind[dz];refine⟨r.os.trans i_,r.tape.trans i_,r.output.trans i_,em s_ (em r.size s_),λk q N J=>?_⟩;rw[eh _ _ _ _ N,r.block k ku J,ed _ _ _ q]
def YR(b v o n:Nat)(l:Array Wo)(y:aU)(m:List Wo)(u:aU)(w:aL)(q:w.heap[v]?=Wj (bM l 112))(B:l[o+5]?=Wj y)(f:w.ownsRow b 264 1 y (n+1) (m++[u]))(J:aA m=n)(C:∃t z,u=dA t z)(K:n<=1000000):Wn Ww 182 #[W_ (Wj (aJ v o))] w λe w'=>e=bP u/\∃j,w'=c9 w (aJ v (o+5)) j/\w.ownsRow b 264 1 j n m/\j.ownBlock=y.ownBlock:=by
 obtain⟨t,z,rfl⟩:=C;rcases f.2 with ⟨F,L⟩|⟨g,c,p,rfl,s,a,A,r,x,k⟩;exact Z;have E:=aH q;have I:=aB q B;have H:=aE q (i:=o+5);have D:=aH a;have d:p[n]?=Wj (dA t z):=by have:(m++[Value.iface t z])[n]?=Wj (dA t z):=G_;grind
 have M:=aB a d;have HOWN:Wu (w.ownsRow b 264 1 (P_ (Wj (aJ g 0)) n c) n m):=by refine⟨Z,dv ⟨g,c,p,rfl,s,a,Z,r,x,?_⟩⟩;have:=ey (List.take n) k;grind
 have N:(0:Int)<=n:=Z;have G:(n:Int)<(n:Int)+1:=Z;have P:(n:Int)<=c:=Z;clear f q B a k d;go_in;go_wp2;go_ret;exact⟨i_,_,i_,HOWN,i_⟩
def uJ(c b n a:Nat)(w:aL)(g:i9 w (aJ c 1)=Wj (Wz (Wj (aJ b 0)) (n+1) a))(i:n<=1000):Wn Ww 152 #[aW c] w λe w'=>e=bP (W_ (Wj (aJ b (n*6))))/\∃q,w'=w.drewN q:=by have d:(0:Int)<=(n:Int):=Z;have f:(n:Int)<(n:Int)+1:=Z;go_in;go_wp;go_quiet (fail);go_wp2;go_ret;exact⟨i_,_,i_⟩
def Ug(f o m l n c k:Nat)(a:Array Wo)(p u:aU)(w:aL)(b:w.heap[f]?=Wj (bM a 112))(g:a[o]?=Wj (aW m))(j:a[o+1]?=Wj (Y k)) (d:w.heap[m]?=Wj (bM #[p,P_ (Wj (aJ l 0)) n c] 199)) (D:eJ w l k u) (s:∃t z,u=dA t z) (x:k<n) (E:n<=1000000):Wn Ww 153 #[W_ (Wj (aJ f o))] w λe w'=>e=bP u/\∃q,w'=c9 (w.drewN q) (aJ f (o+1)) (Y ((k+1:Nat):Int)):=by obtain⟨t,z,rfl⟩:=s;have v:=aH b;have r:=aH d;have G:=aB b g;have C:=aB b j;have y:=aE b (i:=o+1);have A:=aB d (i:=1) i_;have F:(0:Int)<=(k:Int):=Z;have B:(k:Int)<(n:Int):=Z;clear b d g j;go_in;go_wp;go_quiet (fail);go_wp2;go_ret;exact⟨i_,_,by congr 2⟩
def CG(d B o n k:Nat)(r:Array Wo)(K:aU)(y q:List Wo)(w:aL)(x:w.heap[B]?=Wj (bM r 112))(I:r[o+5]?=Wj K)(b:w.ownsRow d 264 1 K (n+k) (y++q))(X:aA y=n)(V:aA q=k)(T:∀u∈q,u.oneCell'=true)(hn:n+k<=1000000):Wn Ww 351 #[W_ (Wj (aJ B o)),Y k] w λe w'=>∃M s m,e=bP M/\cB w m/\m.ownsRow (H_ w) 264 1 M k q/\w'=c9 m (aJ B (o+5)) s/\w.ownsRow d 264 1 s n y/\s.ownBlock=K.ownBlock:=by
 have ab:=aH x;have c5:=aB x I;have f5:=aE x (i:=o+5);have e1:(0:Int)<=(n:Int):=Z;have e2:(n:Int)<=(n:Int)+(k:Int):=Z;rcases b.2 with ⟨rfl,r2⟩|⟨g,c,L,rfl,G,l,N,C,J,v⟩;.obtain⟨rfl,rfl⟩:n=0/\k=0:=Z;obtain rfl:=jp X;obtain rfl:=jp V;have H:=O (zN w);clear b x I;go_in;go_wp2_with fail;refine pN H ?_;go_wp2;go_ret;exact⟨_,_,_,i_,dw _ _,World.ownsRow_nil _ _ _ _,i_,World.ownsRow_nil _ _ _ _,i_⟩
 have e3:(n:Int)<=(c:Int):=Z;have e4:(n:Int)+(k:Int)<=(c:Int):=Z;have e5:((n+k:Nat):Int)-(k:Int)=(n:Int):=Z;have H:Wu (∀f p,f=n\/k=0->Wn Ww 276 #[P_ (Wj (aJ g f)) k p] w λe w'=>∃F D,e=bP (P_ F k D)/\w'.ownsRow (H_ w) 264 1 (P_ F k D) k q/\cB w w'):=λf p A=>by refine(zO g f k p q w Z Z (λj u hj=>?_) T).mono ?_;have Q:j<aA q:=(ie.1 hj).1;rcases A with rfl|h0;refine aB l ?_;have hh:(y++q)[f+j]?=Wj u:=G_;grind;exact Z;grind[gG]
 have HOWN:Wu (∀p,p=c->w.ownsRow d 264 1 (P_ (Wj (aJ g 0)) n p) n y):=by rintro p rfl;refine⟨Z,dv ⟨g,p,L,rfl,G,l,Z,C,J,?_⟩⟩;have:=ey (List.take n) v;grind
 have S:Wu (∀m,cB w m->m.heap[B]?=Wj (bM r 112)):=λm h=>by grind[ej]
 clear b x l v;go_in;go_wp21;all_goals apply (H _ _ Z).mono;rintro e m ⟨F,D,rfl,z,t⟩;have a:=S m t;have P:=aH a;have W:=aB a I;have aa:=aE a (i:=o+5);have U:=O z;have E:=O t;clear z t a;go_wp2;go_ret;exact⟨_,_,m,i_,E,U,i_,mz,rfl⟩
def gR(F:bI)(w:aL):Wo->cU->Prop|v,[]=>v=W_ none|v,x::l=>∃b o,v=aW b/\F b/\w.heap[b]?=Wj (.cells #[.string (bs x),Y (aA l),o] 292)/\gR F w o l
theorem gR.j_{F:bI}{w':aL}(c:∀b,F b->w'.heap[b]?=w.heap[b]?)(a:∀b,F b->R b):∀{l:cU}{v:aU},gR F w v l->gR R w' v l|[],_,h=>h|_::_,_,⟨b,o,f,d,g,e⟩=>⟨b,o,f,a b d,G_,gR.j_ c a e⟩
def gR.form(h:gR R w J P):∃p,J=W_ p:=by cases P with|nil=>exact⟨none,h⟩|cons x P=>grind[gR]
def lP(fp:iD)(F:bI)(w:aL)(v:aU):aM->Prop|.begin l s=>∃sp,v=Xb 277 (W1 #[Y l,sp])/\gR F w sp s|.push a=>∃u,v=Xb 266 (W1 #[u])/\PV F w u a/\aI a<=200|.load k=>v=Xb 398 (W1 #[Y k])|.declare k=>v=Xb 369 (W1 #[Y k])|.assign k n=>v=Xb 371 (W1 #[Y k,Y n])|.jump t=>v=Xb 409 (W1 #[Y t])|.skip t=>v=Xb 408 (W1 #[Y t])|.sr b t=>v=Xb 435 (W1 #[Xc b,Y t])|.tr=>v=Xb 433 (W1 #[])|.unary op=>v=Xb 403 (W1 #[.string (bs op)])|.binary op=>v=Xb 432 (W1 #[.string (bs op)])|.index=>v=Xb 401 (W1 #[])|.list n=>v=Xb 400 (W1 #[Y n])|.length=>v=Xb 410 (W1 #[])|.read=>v=Xb 411 (W1 #[])|.call k n=>v=Xb 413 (W1 #[fp k,Y n])|.tj=>v=Xb 268 (W1 #[])|.drop=>v=Xb 375 (W1 #[])|.print=>v=Xb 374 (W1 #[])
theorem lP.j_{fp:iD}{F:bI}{w':aL}{v:aU}{i:aM}(h:lP fp F w v i)(a:∀b,F b->w'.heap[b]?=w.heap[b]?)(c:∀b,F b->R b):lP fp R w' v i:=by cases i<;>first|exact h|(have ⟨sp,h1,h2⟩:=h;exact⟨sp,h1,gR.j_ a c h2⟩)|(have ⟨u,h1,h2,h3⟩:=h;exact⟨u,h1,(h2.j_ a).mono c,h3⟩)
def lP.form{i:aM}(h:lP I R w J i):∃t z,J=Xb t z:=by cases i<;>first|exact⟨_,_,h⟩|(grind[lP])
def UL(fp:iD)(F:bI)(w:aL)(v:aU)(f:eI):Prop:=∃fb gc cap cur,v=aW fb/\F fb/\w.heap[fb]?=Wj (.cells #[.string (bs f.name),Wz (Wj (aJ gc 0)) (aA f.code) cap] 199)/\F gc/\w.heap[gc]?=Wj (.cells cur 271)/\∀i (h:i<aA f.code),∃u,cur[i]?=Wj u/\lP fp F w u f.code[i]
theorem UL.j_{fp:iD}{F:bI}{w':aL}{v:aU}{f:eI}(h:UL fp F w v f)(a:∀b,F b->w'.heap[b]?=w.heap[b]?)(c:∀b,F b->R b):UL fp R w' v f:=by grind[lP.j_,UL]
def oN(fp:iD)(F:bI)(w:aL)(tg:List eI):Prop:=∀k f,tg[k]?=Wj f->UL fp F w (fp k) f
theorem oN.j_{fp:iD}{F:bI}{w':aL}{a:List eI}(h:oN fp F w a)(c:∀b,F b->w'.heap[b]?=w.heap[b]?)(d:∀b,F b->R b):oN fp R w' a:=(by grind[UL.j_,oN])
structure oo where
 fp:Wo
 nx:Wo
 ln:Wo
 sp:Wo
 vv:Wo
 ov:Wo
def oo.cells(f:oo):List Wo:=[f.fp,f.nx,f.ln,f.sp,f.vv,f.ov]
def kY:List oo->List Wo|[]=>[]|f::l=>f.cells++kY l
theorem nG(l m:List oo):kY (l++m)=kY l++kY m:=by induction l with|nil=>rfl|cons f l a=>simp[kY,a]
theorem jU(l:List oo):aA (kY l)=aA l*6:=by induction l with|nil=>rfl|cons f l a=>simp[kY,oo.cells];exact Z
def oo.se(sh:Bool)(f:oo):List Nat:=(cond sh [] f.vv.ownBlock.toList)++f.ov.ownBlock.toList
def oM(F:bI)(b_:Nat)(w:aL)(v:aU)(l:List aD):Prop:=(∃xs,w.ownsRow b_ 264 1 v (aA l) xs/\iG F w xs l)/\∀a∈l,aI a<=200
theorem oM.j_{F:bI}{a:Nat}{w':aL}{v:aU}(h:oM F a w v g)(c:∀b,F b->w'.heap[b]?=w.heap[b]?)(e:∀b,F b->R b)(d:∀k,v.ownBlock=Wj k->w'.heap[k]?=w.heap[k]?):oM R a w' v g:=by have ⟨⟨xs,h1,h2⟩,h3⟩:=h;exact⟨⟨xs,aX h1 d,(h2.j_ c).mono e⟩,h3⟩
def Y2(sh:Bool)(F:bI)(b_:Nat)(w:aL)(v:aU)(l:List aD):Prop:=cond sh (vd F w v l/\∀a∈l,aI a<=200) (oM F b_ w v l)
def Y2.j_{F:bI}{a:Nat}{w':aL}{v:aU}(h:Y2 L F a w v g)(c:∀b,F b->w'.heap[b]?=w.heap[b]?)(d:∀b,F b->R b)(e:L=Wl->∀k,v.ownBlock=Wj k->w'.heap[k]?=w.heap[k]?):Y2 L R a w' v g:=by cases L;grind[oM.j_,Y2];exact⟨(vd.j_ h.1 c).mono d,h.2⟩
structure UK(sh:Bool)(fp:iD)(F:bI)(b_:Nat)(w:aL)(v:oo)(f:aG):Prop where
 fn:UL fp F w v.fp f.fn
 nx:v.nx=Y f.next
 ln:v.ln=Y f.l_
 sp:gR F w v.sp f.e_
 g_:Y2 sh F b_ w v.vv f.g_
 ops:oM F b_ w v.ov f.ops
theorem UK.j_{fp:iD}{F:bI}{a:Nat}{w':aL}{v:oo}(h:UK L fp F a w v f)(c:∀b,F b->w'.heap[b]?=w.heap[b]?)(d:∀b,F b->R b)(e:∀k∈(v.se L),w'.heap[k]?=w.heap[k]?):UK L fp R a w' v f:=⟨h.fn.j_ c d,h.nx,h.ln,gR.j_ c d h.sp,h.g_.j_ c d ((by grind[oo.se])),h.ops.j_ c d (by grind[oo.se])⟩
def lX(sh:Bool)(fp:iD)(F:bI)(b_:Nat)(w:aL):List oo->List aG->Prop|[],[]=>True|v::vs,f::fs=>UK sh fp F b_ w v f/\lX sh fp F b_ w vs fs|_,_=>False
def lX.j_{fp:iD}{F:bI}{a:Nat}{w':aL}(d:∀b,F b->w'.heap[b]?=w.heap[b]?)(f:∀b,F b->R b):∀{c:List oo}{fs:List aG},lX L fp F a w c fs->(∀v∈c,∀k∈(v.se L),w'.heap[k]?=w.heap[k]?)->lX L fp R a w' c fs|[],[],_,_=>trivial|v::_,_::_,⟨i,e⟩,g=>⟨(by grind[UK.j_]),lX.j_ d f e G_⟩|[],_::_,h,_=>h.elim|_::_,[],h,_=>h.elim
def lX.length{sh:Bool}{a:iD}{F:bI}{b_:Nat}:∀{vs:List oo}{fs:List aG},lX sh a F b_ w vs fs->aA vs=aA fs|[],[],_=>rfl|_::_,_::_,⟨_,h⟩=>by simp[lX.length h]|[],_::_,h=>h.elim|_::_,[],h=>h.elim
def lX.snoc{b_:Nat}{v:oo}:∀{c:List oo}{d:List aG},lX L I R b_ w c d->UK L I R b_ w v f->lX L I R b_ w (c++[v]) (d++[f])|[],[],_,h=>⟨h,trivial⟩|_::_,_::_,⟨g,e⟩,h=>⟨g,lX.snoc e h⟩|[],_::_,h,_=>h.elim|_::_,[],h,_=>h.elim
def lX.uy{d:Bool}{c:iD}{F:bI}{a:Nat}{w:aL}{f:aG}:∀{vs:List oo}{fs:List aG},lX d c F a w vs (fs++[f])->∃b v,vs=b++[v]/\lX d c F a w b fs/\UK d c F a w v f|[],[],h=>h.elim|[v],[],⟨j,i⟩=>(by grind)|_::_::_,[],⟨_,h⟩=>h.elim|v::vs,g::fs,⟨j,i⟩=>by obtain⟨b,u,e,l,k⟩:=lX.uy (vs:=vs) (fs:=fs) i;grind[lX]|[],_::_,h=>h.elim
def dD(sh:Bool)(l:List oo):List Nat:=l.flatMap (oo.se sh)
def aZ(sh:Bool)(sb gf:Nat)(u_:aU)(v_:List oo):List Nat:=sb::gf::(u_.ownBlock.toList++dD sh v_)
def sU(l:cU):List Wo:=l.map λx=>Value.string (bs x)
def pP(F:bI)(w:aL)(v:aU)(l:List Int):Prop:=(l=[]/\∃x c,v=Wz x 0 c)\/∃g o c,v=Wz (Wj (aJ g o)) (aA l) c/\aA l<=c/\F g/\∀i (h:i<aA l),i9 w (aJ g (o+i))=Wj (Y l[i])/\-9223372036854775808<=l[i]/\l[i]<=9223372036854775807
def pP.j_{F:bI}{w':aL}{v:aU}(h:pP F w v M)(a:∀b,F b->w'.heap[b]?=w.heap[b]?)(c:∀b,F b->R b):pP R w' v M:=by grind[World.cell?_of_block,pP]
structure dJ(sh:Bool)(fp:iD)(F:bI)(b_:Nat)(w:aL)(sb gf cap:Nat)(t0 tv u_ s0:aU)(v_:List oo)(m:cY):Prop where
 n_:w.heap[sb]?=Wj (.cells #[t0,Wz (Wj (aJ gf 0)) (aA v_) cap,tv,u_,s0] 54)
 row:w.ownsRow b_ 112 6 (Wz (Wj (aJ gf 0)) (aA v_) cap) (aA v_) (kY v_)
 vu:lX sh fp F b_ w v_ m.f_
 tape:pP F w tv m.tape
 out:w.ownsRow b_ 9 1 u_ (aA m.out) (sU m.out)
 nodup:(aZ sh sb gf u_ v_).Nodup
 lt:∀k∈aZ sh sb gf u_ v_,k<w.heap.size
 apart:∀k,F k->k<w.heap.size/\k∉aZ sh sb gf u_ v_
def dJ.step{c:Bool}{B:iD}{G:bI}{d:Nat}{s:aL}{x n t:Nat}{M E a:aU}{g:List oo}{v p:oo}{m:List aG}{N:aG}{r:List Int}{z:cU} (h:dJ c B R d w x n t M E a J (g++[v]) ⟨m++[f],r,z⟩) (V:H_ w<=H_ s) (hc:∀k,k<H_ w->k≠n->k∉(v.se c)->s.heap[k]?=w.heap[k]?) (Q:s.ownsRow d 112 6 (Wz (Wj (aJ n 0)) (aA g+1) t) (aA g+1) (kY (g++[p]))) (A:UK c B G d s p N) (ho:∀k∈(p.se c),k<H_ s/\(k∈(v.se c)\/H_ w<=k)) (X:(p.se c).Nodup) (L:∀k,R k->G k) (hG:∀k,G k->R k\/(H_ w<=k/\k<H_ s/\k∉(p.se c))):dJ c B G d s x n t M E a J (g++[p]) ⟨m++[N],r,z⟩:=by
 have K:aA (g++[p])=aA (g++[v]):=s_;have C:aA (g++[p])=aA g+1:=s_;have o:∀u:oo,aZ c x n a (g++[u])=(x::n::(a.ownBlock.toList++dD c g))++(u.se c):=(by grind[aZ,dD]);have j:=h.nodup;have q:=h.lt;have l:=h.apart;rw[o]at j q l;generalize P:(x::n::(a.ownBlock.toList++dD c g))=i at j q l o;have ⟨hn1,hn2,hn3⟩:=jm.1 j;have aa:∀k∈i,k<H_ w/\k∉(v.se c):=(by grind);have I:x∈i:=G_;have y:n∈i:=G_;have W:x≠n:=by grind
 have hFk:=λb U=>by have ⟨h1,h2⟩:=l b U;exact hc b h1 (λe=>h2 (List.mem_append_left _ (by rw[e];exact y))) λhv=>h2 (jl _ hv)
 have S:∀u∈g,∀k∈(u.se c),k∈i/\k≠n:=λu hu k H=>by have T:k∈dD c g:=(by grind[dD]);grind
 have D:∀k,a.ownBlock=Wj k->k∈i/\k≠n:=λk H=>by grind
 refine⟨?_,G_,?_,h.tape.j_ hFk L,aX h.out λk H=>?_,?_,?_,?_⟩;grind[dJ.n_];have ⟨vs',u,e,k1,k2⟩:=lX.uy h.vu;obtain⟨rfl,e2⟩:=fw e rfl;exact(k1.j_ hFk L G_).snoc A;grind;grind;grind;grind
structure Kept(own:List Nat)(w w':aL):Prop where
 os:w'.os=w.os
 tape:w'.tape=w.tape
 output:w'.output=w.output
 size:w.heap.size<=w'.heap.size
 block:∀k,k<w.heap.size->k∉own->w'.heap[k]?=w.heap[k]?
structure ue(F G:bI)(n:Nat):Prop where
 sub:∀k,F k->G k
 new:∀k,G k->F k\/n<=k
theorem ue.refl(F:bI)(n:Nat):ue F F n:=⟨s_,G_⟩
theorem ue.trans{F G:bI}{n m:Nat}(h:ue F G n)(k:ue G R m)(c:n<=m):ue F R n:=⟨λx a=>k.sub x (h.sub x a),λx a=>by rcases k.new x a with b|b;exact h.new x b;exact Z⟩
def ue.le{G:bI}{n m:Nat}(h:ue R G n)(b:m<=n):ue R G m:=⟨h.sub,λx a=>(h.new x a).imp_right (Z)⟩
def jL(sh:Bool)(fp:iD)(F:bI)(b_ sb gf:Nat)(t0 s0:aU)(own:List Nat)(w:aL)(m:cY)(w':aL):Prop:=Kept own w w'/\∃G cap tv u_ v_,ue F G w.heap.size/\dJ sh fp G b_ w' sb gf cap t0 tv u_ s0 v_ m/\∀k∈aZ sh sb gf u_ v_,k∈own\/w.heap.size<=k
def uh(fp:iD)(F:bI)(b_:Nat)(sb:Nat)(t0 s0:aU)(own:List Nat)(w:aL)(m:cY)(w':aL):Prop:=Kept own w w'/\∃G gf cap tv u_ v_,ue F G w.heap.size/\dJ Wl fp G b_ w' sb gf cap t0 tv u_ s0 v_ m/\∀k∈aZ Wl sb gf u_ v_,k∈own\/w.heap.size<=k
def jL.done{a:Nat}{d:aU}{own:List Nat}{m:cY}(h:jL Wl I R a N Q J d own w m p):uh I R a N J d own w m p:=by grind[uh,jL]
def BO{j:Nat}{a:List oo}{v:oo}{x:aU}(h:w.ownsRow N 112 6 (P_ (Wj (aJ Q 0)) (aA a+1) S) (aA a+1) (kY (a++[v])))(B:j<6):∃b,w.heap[Q]?=Wj (bM b 112)/\(∀i,i<6->b[aA a*6+i]?=v.cells[i]?)/\∀W:aL,W.heap[Q]?=Wj (bM (b.setIfInBounds (aA a*6+j) x) 112)->∀g:oo,g.cells=v.cells.set j x->W.ownsRow N 112 6 (P_ (Wj (aJ Q 0)) (aA a+1) S) (aA a+1) (kY (a++[g])):=by
 rcases h.2 with ⟨k,_⟩|⟨z,m,b,k,s,n,o,r,y,q⟩;cases k;cases k;have f:∀u:oo,kY (a++[u])=kY a++u.cells:=(by grind[nG,kY]);have t:∀u:oo,aA u.cells=6:=λ_=>i_;refine⟨b,n,λi A=>?_,λW p g l=>?_⟩;have:(kY (a++[v]))[aA a*6+i]?=v.cells[i]?:=by grind
 grind;refine⟨by rw[jU];simp,dv ⟨Q,S,_,rfl,s,p,o,r,G_,?_⟩⟩;rw[Array.toList_setIfInBounds,kt,q,f,f,l,List.set_append_right _ _ (by rw[jU];exact Z),jU,kg]
theorem Kept.refl(own:List Nat)(w:aL):Kept own w w:=⟨rfl,rfl,rfl,Z,s_⟩
theorem Kept.trans{own d:List Nat}{a b c:aL}(h:Kept own a b)(k:Kept d b c)(g:∀x∈d,x∈own\/a.heap.size<=x):Kept own a c:=⟨k.os.trans h.os,k.tape.trans h.tape,k.output.trans h.output,em h.size k.size,λx e f=>by rw[k.block x (ef e h.size) (G_),h.block x e f]⟩
theorem Kept.q_{own:List Nat}(h:cB w p):Kept own w p:=⟨h.os,h.tape,h.output,h.size,λk b _=>h.block k b⟩
def dJ.grow{fp:iD}{F G:bI}{f:aL}{o:Nat}{a:aU}{d:List oo}{m:cY}(h:dJ L fp F N w o Q S J T a U d m)(t:cB w f)(r:∀k,F k->G k)(u:∀k,G k->F k\/(w.heap.size<=k/\k<f.heap.size)):dJ L fp G N f o Q S J T a U d m:=by have hFk:=λb n=>t.block b (h.apart b n).1;have j:∀k,k∈aZ L o Q a d->f.heap[k]?=w.heap[k]?:=(by grind[ej,dJ.lt]);refine⟨by grind[aZ,dJ.n_],aX h.row λk i=>?_,h.vu.j_ hFk r λv x k i=>j k ?_,h.tape.j_ hFk r,aX h.out pq,h.nodup,(by grind[dJ.lt]),λk i=>?_⟩;cases i;grind[aZ];grind[dD,aZ];grind[dJ.apart]
def UQ(Y_:d:=by have:=(eu.1 (eu.1 h.nodup).2).1;grind[dD]):d:=Y_
def dJ.xm{n:Bool}{c:Nat}{C o z:Nat}{M d L:aU}{s:List oo}{v:oo}{l:List aG}{q:List Int}{y:cU}{cur:Array Wo}{g u:aU} (h:dJ n I R c w C o z M J d L (s++[v]) ⟨l++[f],q,y⟩) (N:w.heap[o]?=Wj (bM cur 112)) (D:iG R w E f.ops) (W:PV R w u a) (Q:aI a<=200) (V:p.heap[o]?=Wj (bM (cur.setIfInBounds (aA s*6+5) g) 112)) (p2:p.ownsRow c 264 1 g (aA f.ops+1) (E++[u])) (p3:∀k,g.ownBlock=Wj k->v.ov.ownBlock=Wj k\/H_ w<=k) (t:Bc o v.ov.ownBlock w p):dJ n I R c p C o z M J d L (s++[{v with ov:=g}]) ⟨l++[f.push a],q,y⟩/\Kept (aZ n C o d (s++[v])) w p:=by
 have ⟨vs',v0,e,hfb,hv⟩:=lX.uy h.vu;obtain⟨rfl,U⟩:=fw e rfl;cases U;have r:=h.row;rw[show aA (s++[v])=aA s+1 by simp]at r;have ⟨cur',c1,_,c3⟩:=BO (j:=5) (x:=g) r Z;obtain rfl:cur'=cur:=G_;have T:∀k∈(v.se n),k∈aZ n C o d (s++[v]):=(by grind[aZ,dD]);have aa:o∉(v.se n):=λX=>by exact UQ
 have S:(v.se n).Nodup:=by grind[dJ.nodup,aZ,dD]
 have m:∀b,R b->p.heap[b]?=w.heap[b]?:=(by grind[dJ.apart,Bc.block,aZ,oo.se]);have A:∀k,k<H_ w->k≠o->k∉(v.se n)->p.heap[k]?=w.heap[k]?:=(by grind[Bc.block,oo.se]);have H:∀k,n=Wl->v.vv.ownBlock=Wj k->k<H_ w/\k≠o/\v.ov.ownBlock≠Wj k:=λk P K=>by
  have X:k∈(v.se n):=by simp[oo.se,P,K]
  grind[dJ.lt,oo.se]
 refine⟨h.step (G:=R) t.size A (c3 p V _ i_) ?_ ?_ ?_ (s_) (G_),?_⟩;refine⟨hv.fn.j_ m s_,hv.nx,hv.ln,gR.j_ m (s_) hv.sp,hv.g_.j_ m (s_) λP k K=>?_,⟨E++[u],?_,?_⟩,?_⟩;grind[Bc.block];show p.ownsRow c 264 1 g (aA (f.ops++[a])) _;grind;exact(D.j_ m).append ⟨i_,λi hi=>by obtain rfl:i=0:=G_;exact⟨u,i_,W.j_ m⟩⟩;intro b B;rcases fg.1 B with B|B;exact hv.ops.2 b B;grind;grind[Nat.lt_of_lt_of_le,Bc.size,oo.se,dT];grind[oo.se];exact⟨t.os,t.tape,t.output,t.size,pq⟩
structure bZ(w w':aL):Prop where
 os:w'.os=w.os
 tape:w'.tape=w.tape
 output:w'.output=w.output
 heap:w'.heap=w.heap
abbrev qX(w0:aL)(sb fa fj:Nat):Prop:=∀W,bZ w0 W->Wn Ww 152 #[aW sb] W λe w'=>e=bP (W_ (Wj (aJ fa fj)))/\bZ w0 w'
abbrev AX(w0:aL)(fa fj:Nat)(Q:Wr->Wo->Wp->Prop):Prop:=∀W,bZ w0 W->Wn Ww 182 #[W_ (Wj (aJ fa fj))] W λe w'=>∃t z,e=bP (Xb t z)/\Q t z w'
def bZ.refl(w:aL):bZ w w:=⟨rfl,rfl,rfl,rfl⟩
theorem bZ.drewN(w:aL)(n:Nat):bZ w (w.drewN n):=⟨rfl,rfl,rfl,rfl⟩
theorem bZ.drew(w:aL):bZ w w.drew:=⟨rfl,rfl,rfl,rfl⟩
theorem bZ.trans{a b c:aL}(h:bZ a b)(k:bZ b c):bZ a c:=⟨k.os.trans h.os,k.tape.trans h.tape,k.output.trans h.output,k.heap.trans h.heap⟩
theorem bZ.below{a:aL}(h:bZ w a):cB w a:=⟨h.os,h.tape,h.output,pt,λk _=>by rw[h.heap]⟩
def dJ.top{sh:Bool}{e:Nat}{u:aU}{m:List oo}{c:List aG}(h:dJ sh I R N w Q S e J T U u m ⟨c++[f],M,P⟩):∃b v a,m=b++[v]/\b.length=c.length/\UK sh I R N w v f/\w.heap[Q]?=some (.cells #[J,.slice (some (aJ S 0)) (b.length+1) e,T,U,u] 54)/\w.heap[S]?=some (.cells a 112)/\b.length+1<=e/\a[b.length*6]?=some v.fp/\a[b.length*6+1]?=some v.nx/\a[b.length*6+2]?=some v.ln/\a[b.length*6+3]?=some v.sp/\a[b.length*6+4]?=some v.vv/\a[b.length*6+5]?=some v.ov:=by
 obtain⟨b,v,rfl,B,A⟩:=lX.uy h.vu;have d:=h.row;have i:=h.n_;rw[show (b++[v]).length=b.length+1 by simp]at d i;have ⟨a,c1,c2,_⟩:=BO (j:=0) (x:=undef) d Z;have l:b.length+1<=e:=by
  rcases d.2 with ⟨q,_⟩|⟨E,s,a,q,G,C,D,_⟩;.cases q
  grind
 exact⟨b,v,a,i_,B.length,A,i,c1,l,c2 0 Z,c2 1 Z,c2 2 Z,c2 3 Z,c2 4 Z,c2 5 Z⟩
theorem fW(h:p.heap=w.heap){a:Addr}(b:i9 w a=Wj J):i9 p a=Wj J:=by grind[World.cell?_of_block]
def WR(w c:aL)(j g i:Nat)(t:Wr)(z:aU)(P:lF)(d:h_ w (bM #[dA t z] 266)=c) (o:Wu (qX c j g i)) (n:Wu (∀W,bZ c W->Wn Ww 342 #[W_ (Wj (aJ g i)),dA t z] W λe w'=>e=eV/\P w')):Wn Ww 341 #[W1 #[dA t z],aW j] w λe w'=>e=eV/\P w':=by have a:(h_ w (bM #[dA t z] 266)).heap[w.heap.size]?=Wj (bM #[dA t z] 266):=aS _ _ i_ _;rw[d]at a;have l:=O d;have m:=aB (i:=0) a i_;have f:=O m;clear d a;go_in;go_wp;rw[l];go_region_law (go_simp;first|(apply (o _ (bZ.drew _)).mono;rintro e p ⟨rfl,b⟩;have q:=fW b.heap f)|(apply (n _ b).mono;rintro e r ⟨rfl,k⟩));all_goals go_end0;grind
def J7{j:Bool}(D:iD)(F:bI)(d:Nat)(w:aL)(i g q:Nat)(J M b I:aU)(x:List oo)(c:List aG)(f:aG)(m:List Int)(p:cU)(u:aU)(a:aD) (h:dJ j D F d w i g q J M b I x ⟨c++[f],m,p⟩) (Q:PV F w u a) (C:aI a<=200) (L:aA f.ops<=100000) (S:aA c<=15) (G:d<=w.heap.size):Wn Ww 341 #[W1 #[u],aW i] w λe w'=>e=eV/\jL j D F d i g J I (aZ j i g b x) w ⟨c++[f.push a],m,p⟩ w':=by
 obtain⟨t,z,rfl⟩:=Q.form;have n:cB w (dZ w #[dA t z] 266):=(by grind[eo,dw]);have N:(dZ w #[dA t z] 266).heap[w.heap.size]?=Wj (bM #[dA t z] 266):=aS _ _ i_ _;have E:=h.grow n (s_) (λ_ h=>ea h);have K:=Q.j_ λk H=>n.block k (h.apart k H).1;generalize hW:dZ w #[dA t z] 266=B at*;have HW:=O hW;obtain⟨l,v,cur,rfl,ac,hv,T,o,P,k0,k1,k2,k3,k4,k5⟩:=E.top;have ⟨⟨xs,hown,hxs⟩,hc200⟩:=hv.ops;have A:v.ov.ownBlock≠Wj g:=λe=>by have:=(eu.1 (eu.1 E.nodup).2).1;grind[dD,oo.se]
 have HT:Wu (qX B i g (aA l*6)):=λW r=>by apply (uJ i g (aA l) q W ((by grind[bZ.heap,aB])) Z).mono;grind[bZ.trans,bZ.drewN]
 have HP:Wu (∀W,bZ B W->Wn Ww 342 #[W_ (Wj (aJ g (aA l*6))),dA t z] W λe w'=>e=eV/\jL j D F d i g J I (aZ j i g b (l++[v])) w ⟨c++[f.push a],m,p⟩ w'):=λW r=>by
  have s:=r.below;have hR:=E.grow s (s_) (λ_ h=>ea h);apply (EH d g (aA l*6) (aA f.ops) cur v.ov xs t z W (by rw[r.heap];exact o) k5 ((by grind[aX,bZ.heap])) A pt Z).mono;rintro e w' ⟨he,y,p1,X,U,V⟩;have ⟨q1,q2⟩:=hR.xm (cur:=cur) (by rw[r.heap];exact o) (hxs.j_ λk _=>by rw[r.heap]) (K.j_ λk _=>by rw[r.heap]) C p1 X U V;have H:=(Kept.q_ (own:=aZ j i g b (l++[v])) (n.trans (s.mono n.size))).trans q2 G_;refine⟨he,H,F,q,M,b,_,ue.refl _ _,q1,λk aa=>?_⟩;have ab:W.heap.size=B.heap.size:=by rw[r.heap]
  have h1:aZ j i g b (l++[{v with ov:=y}])=(i::g::(b.ownBlock.toList++dD j l))++({v with ov:=y}:oo).se j:=by simp[aZ,dD]
  have h2:aZ j i g b (l++[v])=(i::g::(b.ownBlock.toList++dD j l))++(v.se j):=by simp[aZ,dD]
  grind[oo.se]
 clear hown hxs hc200 A;exact WR w B i g (aA l*6) t z _ HW HT HP
def iG.split{m:List aD}(h:iG R w E (g++m)):∃b c,E=b++c/\aA b=aA g/\aA c=aA m/\iG R w b g/\iG R w c m:=by have ⟨h1,h2⟩:=h;refine⟨E.take (aA g),E.drop (aA g),s_,G_,G_,⟨G_,λi d=>?_⟩,⟨G_,λi d=>?_⟩⟩;have ⟨u,e1,e2⟩:=h2 i G_;grind;have ⟨u,e1,e2⟩:=h2 (aA g+i) G_;grind
def iG.uy(h:iG R w E (g++[a])):∃b u,E=b++[u]/\aA b=aA g/\iG R w b g/\PV R w u a:=by have ⟨b,zs,e,h1,h2,h3,h4⟩:=h.split;match zs,h2 with|[u],_=>have ⟨u',e1,e2⟩:=h4.2 0 s_;grind
def dJ.wq{t:iD}{p:Nat}{a z:aU}{l:List oo}{v v':oo}{d:List aG}{B:aG}{j:Nat}{x:aU} (h:dJ L t R N w Q S p T U a z (l++[v]) ⟨d++[f],M,P⟩) (J:j<6) (E:v'.cells=v.cells.set j x) (I:(v'.se L)=(v.se L)) (s:UK L t R N w v' B):dJ L t R N (c9 w (aJ S (aA l*6+j)) x) Q S p T U a z (l++[v']) ⟨d++[B],M,P⟩/\Kept (aZ L Q S a (l++[v])) w (c9 w (aJ S (aA l*6+j)) x):=by
 have n:=h.row;rw[show aA (l++[v])=aA l+1 by simp]at n;have ⟨cur,c1,_,c3⟩:=BO (j:=j) (x:=x) n J;have u:∀k∈(v.se L),k∈aZ L Q S a (l++[v]):=(by grind[aZ,dD]);have K:S∉(v.se L):=λq=>by exact UQ
 have C:(v.se L).Nodup:=by grind[dJ.nodup,aZ,dD]
 have H:∀k,k≠S->(c9 w (aJ S (aA l*6+j)) x).heap[k]?=w.heap[k]?:=(by grind[eh]);have hFk:=λb D=>H b λe=>(h.apart b D).2 ml;refine⟨h.step (G:=R) s_ (G_) ((by grind[aN])) (s.j_ hFk (s_) G_) (λk q=>?_) G_ (s_) (G_),⟨rfl,rfl,rfl,s_,pq⟩⟩;rw[I]at q;exact⟨ef (h.lt k (u k q)) s_,ea q⟩
def eK(sh:Bool)(fp:iD)(b_ sb gf n:Nat)(t0 s0:aU)(own:List Nat)(w0:aL)(G:bI)(m:cY)(w:aL):Prop:=Kept own w0 w/\b_<=w.heap.size/\∃cap tv u_ v_,aA v_=n+1/\dJ sh fp G b_ w sb gf cap t0 tv u_ s0 v_ m/\∀k∈aZ sh sb gf u_ v_,k∈own\/w0.heap.size<=k
section
variable {sh:Bool} {fp:iD} {b_ sb gf n:Nat} {t0 s0:aU} {own:List Nat} {w0 w w':aL} {G G':bI} {m:cY} {below:List aG} {f f':aG} {tape:List Int} {out:cU}
def eK.init{c:Nat}{d a:aU}{b:List oo}(h:dJ sh fp G b_ w sb gf c t0 d a s0 b m)(f:aA b=n+1)(e:b_<=H_ w)(ob:Obj):eK sh fp b_ sb gf n t0 s0 (aZ sh sb gf a b) (w.alloc ob) G m (w.alloc ob):=⟨Kept.refl _ _,em e s_,c,d,a,b,f,h.grow (mq) (s_) (G_),G_⟩
theorem eK.same(h:eK sh fp b_ sb gf n t0 s0 own w0 G m w)(a:bZ w w'):eK sh fp b_ sb gf n t0 s0 own w0 G m w':=by have ⟨h1,h2,cap,tv,u_,v_,h3,h4,h5⟩:=h;exact⟨h1.trans (Kept.q_ (own:=[]) a.below) (s_),by rw[a.heap];exact h2,cap,tv,u_,v_,h3,h4.grow a.below (s_) (G_),h5⟩
theorem eK.grow(h:eK sh fp b_ sb gf n t0 s0 own w0 G m w)(a:cB w w')(c:∀k,G k->G' k)(b:∀k,G' k->G k\/(w.heap.size<=k/\k<w'.heap.size)):eK sh fp b_ sb gf n t0 s0 own w0 G' m w':=by have ⟨h1,h2,cap,tv,u_,v_,h3,h4,h5⟩:=h;exact⟨h1.trans (Kept.q_ (own:=[]) a) (s_),em h2 a.size,cap,tv,u_,v_,h3,h4.grow a c b,h5⟩
def eK.wi(h:eK sh fp b_ sb gf n t0 s0 own w0 G m w){k:Nat}(a:k<H_ w0)(b:k∉own):w.heap[k]?=w0.heap[k]?:=h.1.block k a b
theorem eK.ug{F:bI}{ob:Obj}(h:eK sh fp b_ sb gf n t0 s0 own (w.alloc ob) G m w')(b:ue F G w.heap.size):jL sh fp F b_ sb gf t0 s0 own w m w':=by have ⟨h1,h2,cap,tv,u_,v_,h3,h4,h5⟩:=h;exact⟨(Kept.q_ (own:=own) (mq)).trans h1 (G_),G,cap,tv,u_,v_,b,h4,λk a=>by rcases h5 k a with h|h;grind;exact dv (em s_ h)⟩
theorem eK.done{F:bI}{ob:Obj}(h:eK Wl fp b_ sb gf n t0 s0 own (w.alloc ob) G m w')(a:ue F G w.heap.size):uh fp F b_ sb t0 s0 own w m w':=(h.ug a).done
def eK.top(h:eK sh fp b_ sb gf n t0 s0 own w0 G m w)(a:n<=15):Wn Ww 152 #[aW sb] w λe w'=>e=bP (W_ (Wj (aJ gf (n*6))))/\bZ w w':=by have ⟨h1,h2,cap,tv,u_,v_,h3,h4,h5⟩:=h;have:=h4.n_;rw[h3]at this;apply (uJ sb gf n cap w (aB this i_) Z).mono;grind[bZ.drewN]
def eK.cells(h:eK sh fp b_ sb gf n t0 s0 own w0 G ⟨below++[f],tape,out⟩ w):∃v:oo,UK sh fp G b_ w v f/\gf<w.heap.size/\∀j x,v.cells[j]?=Wj x->i9 w (aJ gf (n*6+j))=Wj x/\w.frozen? (aJ gf (n*6+j))=Wl:=by have ⟨h1,h2,cap,tv,u_,v_,h3,h4,h5⟩:=h;obtain⟨p,v,m,rfl,o,r,e,a,c,k,g,q,i,s,l⟩:=h4.top;have b:aA p=n:=G_;subst b;refine⟨v,r,G_,λj x d=>?_⟩;have hj:=(ie.1 d).1;refine⟨aB a ?_,aE a⟩;rw[<-d];match j,hj with|0,_=>exact k|1,_=>exact g|2,_=>exact q|3,_=>exact i|4,_=>exact s|5,_=>exact l
def eK.set(h:eK sh fp b_ sb gf n t0 s0 own w0 G ⟨below++[f],tape,out⟩ w)(j:Nat)(x:aU)(e:j<6)(g:oo->oo)(k:∀v,(g v).cells=v.cells.set j x)(d:∀v,UK sh fp G b_ w v f->(g v).se sh=(v.se sh))(a:∀v,UK sh fp G b_ w v f->UK sh fp G b_ w (g v) f'):eK sh fp b_ sb gf n t0 s0 own w0 G ⟨below++[f'],tape,out⟩ (c9 w (aJ gf (n*6+j)) x):=by have ⟨h1,h2,cap,tv,u_,v_,h3,h4,h5⟩:=h;obtain⟨l,v,c,rfl,i,b,_⟩:=h4.top;have ⟨q1,q2⟩:=h4.wq e (k v) (d v b) (a v b);grind[Kept.trans,Nat.le_trans,Kept.size,aZ,dD,eK]
def Qx{Z_:Prop}(Y_:Z_:=by rcases fg.1 hk' with h3|h3;grind;rcases fg.1 h3 with h3|h3;grind[oo.se];have h4:ov'.ownBlock=Wj k:=G_;rcases p3 k h4 with h6|h6;grind[oo.se];exact dv (em h1.size h6)):Z_:=Y_
def eK.push(h:eK sh fp b_ sb gf n t0 s0 own w0 G ⟨below++[f],tape,out⟩ w){t:Wr}{z:aU}{a:aD}(D:PV G w (Xb t z) a)(l:aI a<=200)(q:aA f.ops<=100000):Wn Ww 342 #[W_ (Wj (aJ gf (n*6))),Xb t z] w λe w'=>e=eV/\eK sh fp b_ sb gf n t0 s0 own w0 G ⟨below++[f.push a],tape,out⟩ w':=by
 have ⟨h1,h2,cap,tv,u_,v_,j,i,h5⟩:=h;obtain⟨d,v,cur,rfl,C,H,u,b,r,K,I,M,J,N,A⟩:=i.top;have m:aA d=n:=G_;subst m;have ⟨⟨xs,hown,hxs⟩,hc200⟩:=H.ops;have o:v.ov.ownBlock≠Wj gf:=λe=>by have:=(eu.1 (eu.1 i.nodup).2).1;grind[dD,oo.se]
 apply (EH b_ gf (aA d*6) (aA f.ops) cur v.ov xs t z w b A hown o h2 Z).mono;rintro e w' ⟨F,c,B,y,p,x⟩;have ⟨q1,q2⟩:=i.xm (cur:=cur) b hxs D l B y p x;refine⟨F,h1.trans q2 h5,em h2 q2.size,cap,tv,u_,_,s_,q1,λk g=>?_⟩;have E:aZ sh sb gf u_ (d++[{v with ov:=c}])=(sb::gf::(u_.ownBlock.toList++dD sh d))++({v with ov:=c}:oo).se sh:=by simp[aZ,dD]
 have L:aZ sh sb gf u_ (d++[v])=(sb::gf::(u_.ownBlock.toList++dD sh d))++(v.se sh):=by simp[aZ,dD]
 rw[E]at g;rcases fg.1 g with j|j;grind;rcases fg.1 j with j|j;grind[oo.se];have i:c.ownBlock=Wj k:=G_;rcases p k i with s|s;grind[oo.se];exact dv (em h1.size s)
def eK.Ch(h:eK sh fp b_ sb gf n t0 s0 own w0 G ⟨below++[f],tape,out⟩ w){m:List aD}{a:aD}(y:f.ops=m++[a])(c:aA f.ops<=100000):Wn Ww 182 #[W_ (Wj (aJ gf (n*6)))] w λe w'=>∃t z,e=bP (dA t z)/\PV G w' (dA t z) a/\aI a<=200/\eK sh fp b_ sb gf n t0 s0 own w0 G ⟨below++[f.pop],tape,out⟩ w'/\∀k,G k->w'.heap[k]?=w.heap[k]?:=by
 have ⟨h1,h2,cap,tv,u_,v_,h3,h4,h5⟩:=h;obtain⟨p,v,o,rfl,H,d,B,g,s,M,J,N,L,P,E⟩:=h4.top;have q:aA p=n:=G_;subst q;have ⟨⟨xs,hown,hxs⟩,hc200⟩:=d.ops;rw[y]at hown hxs hc200 c;obtain⟨i,u,rfl,F,r,I⟩:=iG.uy hxs;obtain⟨t,z,rfl⟩:=I.form;rw[et]at hown c;apply (YR b_ gf (aA p*6) (aA m) o v.ov i _ w g E hown F s_ Z).mono;rintro e w' ⟨rfl,b,rfl,K,C⟩;have A:f.pop.ops=m:=by simp[aG.pop,y]
 have l:UK sh fp G b_ w {v with ov:=b} f.pop:=⟨d.fn,d.nx,d.ln,d.sp,d.g_,G_,G_⟩;have ⟨q1,q2⟩:=h4.wq (j:=5) (x:=b) (v':={v with ov:=b}) Z rfl (by simp[oo.se,C]) l;have D:∀k,G k->(c9 w (aJ gf (aA p*6+5)) b).heap[k]?=w.heap[k]?:=(by grind[eh,dJ.apart,aZ]);grind[PV.j_,Kept.trans,Nat.le_trans,Kept.size,aZ,dD,oo.se,eK]
def eK.pop(h:eK sh fp b_ sb gf n t0 s0 own w0 G ⟨below++[f],tape,out⟩ w){vs:List aD}{a:aD}(c:f.ops=vs++[a])(b:aA f.ops<=100000):Wn Ww 182 #[W_ (Wj (aJ gf (n*6)))] w λe w'=>∃t z,e=bP (Xb t z)/\PV G w' (Xb t z) a/\aI a<=200/\eK sh fp b_ sb gf n t0 s0 own w0 G ⟨below++[f.pop],tape,out⟩ w':=by apply (h.Ch c b).mono;grind
end
def D3(k:Nat)(e:Ending):Prop:=(k=0/\e=eV)\/(k≠0/\e=iY k)
def qJ(h:p.heap=w.heap)(a:N<w.heap.size):N<p.heap.size:=by rw[h];exact a
def xK(h:p.heap=w.heap){a:Addr}(b:w.frozen? a=Wl):p.frozen? a=Wl:=by
 have e:p.frozen? a=w.frozen? a:=by unfold World.frozen?;rw[h]
 rw[e];exact b
def ZO(w b:aL)(g c f:Nat)(P:lF)(d:h_ w (bM #[] 375)=b) (l:Wu (qX b g c f)) (k:Wu (∀W,bZ b W->Wn Ww 182 #[W_ (Wj (aJ c f))] W λe w'=>∃t z,e=bP (dA t z)/\P w')):Wn Ww 359 #[W1 #[],aW g] w λe w'=>e=eV/\P w':=by have j:=O d;clear d;go_in;go_wp;rw[j];apply (l _ (bZ.refl _)).mono;rintro e m ⟨rfl,a⟩;go_wp21;refine(k _ a).mono ?_;rintro e n ⟨t,z,rfl,i⟩;go_wp2;go_end0;exact⟨i_,i⟩
def RN(w g:aL)(n c i:Nat)(P S:lF)(l:Wr->Wo->Wp->Prop)(m:Bool->Wp->Prop)(k:h_ w (bM #[] 433)=g) (s:Wu (qX g n c i)) (r:Wu (AX g c i l)) (q:Wu (∀W t z,l t z W->Wn Ww 367 #[dA t z] W λe w'=>(∃b,e=bP (Xc b)/\m b w')\/(e=iY 2/\S w'))) (o:Wu (∀W b,m b W->Wn Ww 342 #[W_ (Wj (aJ c i)),dA 320 (Xc b)] W λe w'=>e=eV/\P w')):Wn Ww 385 #[W1 #[],aW n] w λe w'=>(e=eV/\P w')\/(e=iY 2/\S w'):=by
 have p:=O k;clear k;go_in;go_wp;rw[p];apply (s _ (bZ.refl _)).mono;rintro e v ⟨rfl,f⟩;go_wp21;refine(r _ f).mono ?_;rintro e y ⟨t,z,rfl,j⟩;have a:=O (q _ t z j);clear j;go_wp21;refine a.mono ?_;rintro e x (⟨b,rfl,a⟩|⟨rfl,a⟩);.have d:=O (o _ b a);clear a;go_wp21;refine d.mono ?_;rintro e u ⟨rfl,d⟩;go_wp2;go_end0;exact ea ⟨i_,d⟩
 go_wp;exact⟨i_,dv ⟨i_,a⟩⟩
def MN(w k:aL)(o c d f:Nat)(P S:lF)(n:Wr->Wo->Wp->Prop)(g:Bool->Wp->Prop)(m:h_ w (bM #[Y f] 408)=k) (y:Wu (qX k o c d)) (x:Wu (AX k c d n)) (v:Wu (∀W t z,n t z W->Wn Ww 367 #[dA t z] W λe w'=>(∃b,e=bP (Xc b)/\g b w')\/(e=iY 2/\S w'))) (p:Wu (∀W,g true W->P W)) (r:Wu (∀W,g Wl W->P (c9 W (aJ c (d+1)) (Y f)))) (q:Wu (∀W b,g b W->i9 W (aJ w.heap.size 0)=Wj (Y f)/\w.heap.size<W.heap.size/\(∃u,i9 W (aJ c (d+1))=Wj u)/\W.frozen? (aJ c (d+1))=Wl/\c<W.heap.size)):Wn Ww 368 #[W1 #[Y f],aW o] w λe w'=>(e=eV/\P w')\/(e=iY 2/\S w'):=by
 have s:=O m;clear m;go_in;go_wp;rw[s];apply (y _ (bZ.refl _)).mono;rintro e A ⟨rfl,j⟩;go_wp21;refine(x _ j).mono ?_;rintro e C ⟨t,z,rfl,l⟩;have a:=O (v _ t z l);clear l;go_wp21;refine a.mono ?_;rintro e B (⟨b,rfl,a⟩|⟨rfl,a⟩);.have ⟨c1,c2,⟨u,c3⟩,c4,c5⟩:=q _ b a;cases b with|false=>have i:=O (r _ a);clear a;go_wp2;go_end0;exact ea ⟨i_,i⟩|true=>have i:=O (p _ a);clear a;go_wp2;go_end0;exact ea ⟨i_,i⟩
 go_wp;exact⟨i_,dv ⟨i_,a⟩⟩
def YF(w c:aL)(n f g d:Nat)(P:lF)(k:h_ w (bM #[Y d] 409)=c) (y:Wu (qX c n f g)) (i:∃u,i9 c (aJ f (g+1))=Wj u) (m:c.frozen? (aJ f (g+1))=Wl) (r:f<c.heap.size) (s:Wu (∀W,bZ c W->P (c9 W (aJ f (g+1)) (Y d)))):Wn Ww 369 #[W1 #[Y d],aW n] w λe w'=>e=eV/\P w':=by have a:(h_ w (bM #[Y d] 409)).heap[w.heap.size]?=Wj (bM #[Y d] 409):=aS _ _ i_ _;rw[k]at a;have t:=O k;have x:=aB (i:=0) a i_;have l:=O x;have j:=aH a;have ⟨u,i⟩:=i;have q:=O i;have o:=O m;clear k a i m;go_in;go_wp;rw[t];go_region_law (go_simp;go_at_call 152;apply (y _ (bZ.drew _)).mono;rintro e z ⟨rfl,b⟩;have A:=fW b.heap l;have B:=fW b.heap q;have C:=xK b.heap o;have v:=qJ b.heap j;have p:=qJ b.heap r);all_goals go_wp2;go_end0;exact⟨i_,s _ b⟩
def GM(w n:aL)(x f g j:Nat)(d:Bool)(P S:lF)(v:Wr->Wo->Wp->Prop)(k l:Bool->Wp->Prop)(q:h_ w (bM #[Xc d,Y j] 435)=n)
 (G:Wu (qX n x f g))
 (F:Wu (AX n f g v))
 (E:Wu (∀W t z,v t z W->Wn Ww 367 #[dA t z] W λe w'=>(∃b,e=bP (Xc b)/\k b w')\/(e=iY 2/\S w')))
 (C:Wu (∀W b,k b W->Wn Ww 342 #[W_ (Wj (aJ f g)),dA 320 (Xc b)] W λe w'=>e=eV/\l b w'))
 (A:Wu (∀W b,k b W->b≠d->P W)) (s:Wu (∀W b,l b W->b=d->P (c9 W (aJ f (g+1)) (Y j))))
 (o:Wu (∀W b,k b W->i9 W (aJ w.heap.size 0)=Wj (Xc d)/\w.heap.size<W.heap.size))
 (r:Wu (∀W b,l b W->i9 W (aJ w.heap.size 1)=Wj (Y j)/\w.heap.size<W.heap.size/\(∃u,i9 W (aJ f (g+1))=Wj u)/\W.frozen? (aJ f (g+1))=Wl/\f<W.heap.size)):
 Wn Ww 386 #[W1 #[Xc d,Y j],aW x] w λe w'=>(e=eV/\P w')\/(e=iY 2/\S w'):=by
 have D:=O q;clear q;go_in
 go_wp
 rw[D];apply (G _ (bZ.refl _)).mono
 rintro e H ⟨rfl,m⟩;go_wp21
 refine(F _ m).mono ?_;rintro e J ⟨t,z,rfl,p⟩;have c:=O (E _ t z p);clear p;go_wp21
 refine c.mono ?_;rintro e I (⟨b,rfl,c⟩|⟨rfl,c⟩)
 .have ⟨c1,c2⟩:=o _ b c;by_cases i:b=d
  .subst i;have a:=O (C _ b c);clear c;cases b with
   |true=>
    go_wp21
    refine a.mono ?_;rintro e y ⟨rfl,a⟩;have ⟨d1,d2,⟨u,d3⟩,d4,d5⟩:=r _ _ a;have B:=O (s _ _ a i_);clear a;go_wp2
    go_end0;grind [dz]
   |false=>
    go_wp21
    refine a.mono ?_;rintro e y ⟨rfl,a⟩;have ⟨d1,d2,⟨u,d3⟩,d4,d5⟩:=r _ _ a;have B:=O (s _ _ a i_);clear a;go_wp2
    go_end0;grind [dz]
  have a:=O (A _ b c i);clear c;cases b<;>cases d<;>first|exact ep i_ i|(clear i;go_wp2;go_end0;grind [dz])
 go_wp
 exact⟨i_,G_⟩
def Ki(Y_:d:=by have h7:=O (HU _ _ _ h6);clear h6;go_wp2_with fail;refine rB h7 λw5 h8=>?_;go_wp2;go_end0;grind):d:=Y_
def OI(w m:aL)(v c f:Nat)(d:bS)(k:Nat)(P S:lF)(u:Wr->Wo->Wp->Prop)(p:Wr->Wo->Wr->Wo->Wp->Prop)(r:Wr->Wo->Wp->Prop)(s:h_ w (bM #[Q_ (bs d)] 432)=m) (G:Wu (qX m v c f)) (F:Wu (AX m c f u)) (o:Wu (∀W t z,u t z W->Wn Ww 182 #[W_ (Wj (aJ c f))] W λe w'=>∃a b,e=bP (dA a b)/\p t z a b w')) (x:Wu (∀W t z a b,p t z a b W->i9 W (aJ w.heap.size 0)=Wj (Q_ (bs d))/\w.heap.size<W.heap.size)) (E:Wu (∀W t z a b,p t z a b W->Wn Ww 377 #[Q_ (bs d),dA a b,dA t z] W λe w'=>(∃j i,e=bP (dA j i)/\r j i w')\/(e=iY k/\S w'))) (C:Wu (∀W t z,r t z W->Wn Ww 342 #[W_ (Wj (aJ c f)),dA t z] W λe w'=>e=eV/\P w')):Wn Ww 376 #[W1 #[Q_ (bs d)],aW v] w λe w'=>(e=eV/\P w')\/(e=iY k/\S w'):=by
 have D:=O s;clear s;go_in;go_wp;rw[D];apply (G _ (bZ.refl _)).mono;rintro e I ⟨rfl,l⟩;go_wp21;refine(F _ l).mono ?_;rintro e L ⟨t,z,rfl,q⟩;have B:=O (o _ t z q);clear q;go_wp21;refine B.mono ?_;rintro e J ⟨a,b,rfl,g⟩;have ⟨c1,c2⟩:=x _ _ _ _ _ g;have A:=O (E _ _ _ _ _ g);clear g;go_wp21;refine A.mono ?_;rintro e H (⟨j,i,rfl,n⟩|⟨rfl,n⟩);.have y:=O (C _ _ _ n);clear n;go_wp21;refine y.mono ?_;rintro e M ⟨rfl,K⟩;go_wp2;go_end0;grind
 go_wp;exact⟨i_,G_⟩
def TG(w j:aL)(u c d:Nat)(k:Nat)(P S:lF)(r:Wr->Wo->Wp->Prop)(s:Wr->Wo->Wr->Wo->Wp->Prop)(o:Wr->Wo->Wp->Prop)(p:h_ w (bM #[] 401)=j) (E:Wu (qX j u c d)) (D:Wu (AX j c d r)) (m:Wu (∀W t z,r t z W->Wn Ww 182 #[W_ (Wj (aJ c d))] W λe w'=>∃a b,e=bP (dA a b)/\s t z a b w')) (C:Wu (∀W t z a b,s t z a b W->Wn Ww 364 #[dA a b,dA t z] W λe w'=>(∃g f,e=bP (dA g f)/\o g f w')\/(e=iY k/\S w'))) (A:Wu (∀W t z,o t z W->Wn Ww 342 #[W_ (Wj (aJ c d)),dA t z] W λe w'=>e=eV/\P w')):Wn Ww 363 #[W1 #[],aW u] w λe w'=>(e=eV/\P w')\/(e=iY k/\S w'):=by
 have B:=O p;clear p;go_in;go_wp;rw[B];apply (E _ (bZ.refl _)).mono;rintro e G ⟨rfl,i⟩;go_wp21;refine(D _ i).mono ?_;rintro e J ⟨t,z,rfl,n⟩;have y:=O (m _ t z n);clear n;go_wp21;refine y.mono ?_;rintro e H ⟨a,b,rfl,q⟩;have x:=O (C _ _ _ _ _ q);clear q;go_wp21;refine x.mono ?_;rintro e F (⟨g,f,rfl,l⟩|⟨rfl,l⟩);.have v:=O (A _ _ _ l);clear l;go_wp21;refine v.mono ?_;rintro e K ⟨rfl,I⟩;go_wp2;go_end0;grind
 go_wp;exact⟨i_,G_⟩
def NH(w f:aL)(n a g:Nat)(k:Nat)(P S:lF)(l i:Wr->Wo->Wp->Prop)(j:h_ w (bM #[] 410)=f) (x:Wu (qX f n a g)) (v:Wu (AX f a g l)) (u:Wu (∀W t z,l t z W->Wn Ww 371 #[dA t z] W λe w'=>(∃c b,e=bP (dA c b)/\i c b w')\/(e=iY k/\S w'))) (r:Wu (∀W t z,i t z W->Wn Ww 342 #[W_ (Wj (aJ a g)),dA t z] W λe w'=>e=eV/\P w')):Wn Ww 370 #[W1 #[],aW n] w λe w'=>(e=eV/\P w')\/(e=iY k/\S w'):=by
 have s:=O j;clear j;go_in;go_wp;rw[s];apply (x _ (bZ.refl _)).mono;rintro e A ⟨rfl,d⟩;go_wp21;refine(v _ d).mono ?_;rintro e C ⟨t,z,rfl,o⟩;have q:=O (u _ t z o);go_wp21;refine q.mono ?_;rintro e y (⟨c,b,rfl,m⟩|⟨rfl,m⟩);.have p:=O (r _ _ _ m);go_wp21;refine p.mono ?_;rintro e D ⟨rfl,B⟩;go_wp2;go_end0;grind
 exact⟨i_,G_⟩
def XW(w n:aL)(u g p c:Nat)(k:Nat)(P S:lF)(s:Option Addr->Nat->Wp->Prop)(r:Wr->Wo->Wp->Prop)(j:h_ w (.cells #[Y c] 400)=n) (D:Wu (qX n u g p)) (C:Wu (∀W,bZ n W->Wn Ww 351 #[W_ (Wj (aJ g p)),Y c] W λe w'=>∃x d,e=bP (Wz x c d)/\s x d w')) (B:Wu (∀W x d,s x d W->Wn Ww 362 #[Wz x c d] W λe w'=>(∃m l,e=bP (Xb m l)/\r m l w')\/(e=iY k/\S w'))) (HU:Wu (∀W t z,r t z W->Wn Ww 342 #[W_ (Wj (aJ g p)),Xb t z] W λe w'=>e=eV/\P w')):Wn Ww 361 #[W1 #[Y c],aW u] w λe w'=>(e=eV/\P w')\/(e=iY k/\S w'):=by have a:(h_ w (.cells #[Y c] 400)).heap[w.heap.size]?=Wj (.cells #[Y c] 400):=aS _ _ i_ _;rw[j]at a;have y:=O j;have o:=O (aB (i:=0) a i_);have f:=aH a;clear j a;go_in;go_wp;rw[y];refine rB (D _ (bZ.refl _)) λF b=>?_;have G:=fW b.heap o;have A:=qJ b.heap f;go_wp2_with fail;apply (C _ b).mono;rintro e H ⟨x,d,rfl,q⟩;have v:=O (B _ x d q);clear q;go_wp21;apply v.mono;rintro e E (⟨m,l,rfl,h6⟩|⟨rfl,h6⟩);exact Ki;go_wp;exact⟨i_,G_⟩
def RP{P:Program}{b:Array Oper}{o:Oper}{a:Act}{K:Act->Wp->Prop}{Q:Exit->Act->Wp->Prop}(c:aU) (h:if Region.wanted o (yielded b a.tmps)=true then Oper.wp P o a w K Q else d) (_d:Wu False->K (a.put o.dst c) w):if Region.wanted o (yielded b a.tmps)=true then Oper.wp P o a w K Q else d:=h
def E8(w m:aL)(s g p:Nat)(d:bS)(P:lF)(n r:Wr->Wo->Wp->Prop)(j:h_ w (bM #[Q_ (bs d)] 403)=m) (D:Wu (qX m s g p)) (C:Wu (AX m g p n)) (u:Wu (∀W t z,n t z W->i9 W (aJ w.heap.size 0)=Wj (Q_ (bs d))/\w.heap.size<W.heap.size)) (B:Wu (∀W t z,n t z W->Wn Ww 366 #[Q_ (bs d),dA t z] W λe w'=>∃l k,e=bP (dA l k)/\r l k w')) (x:Wu (∀W t z,r t z W->Wn Ww 342 #[W_ (Wj (aJ g p)),dA t z] W λe w'=>e=eV/\P w')):Wn Ww 365 #[W1 #[Q_ (bs d)],aW s] w λe w'=>e=eV/\P w':=by have a:(h_ w (bM #[Q_ (bs d)] 403)).heap[w.heap.size]?=Wj (bM #[Q_ (bs d)] 403):=aS _ _ i_ _;rw[j]at a;have y:=O j;have o:=O (aB (i:=0) a i_);have f:=aH a;clear j a;go_in;go_wp;rw[y];apply (D _ (bZ.refl _)).mono;rintro e F ⟨rfl,b⟩;have J:=fW b.heap o;have A:=qJ b.heap f;go_wp2;go_region_law (go_simp;first|(go_at_call 182;apply (C _ (b.trans (bZ.drew _))).mono;rintro e L ⟨t,z,rfl,q⟩;have c:=u _ _ _ q;have G:=c.1;have K:=c.2;clear c)|(go_at_call 366;apply (B _ _ _ q).mono;rintro e H ⟨l,k,rfl,v⟩)|(go_at_call 342;apply (x _ _ _ v).mono;rintro e E ⟨rfl,I⟩));all_goals go_wp2;go_end0;grind
def RI(w m:aL)(s q r:Nat)(f:bS)(k:Nat)(S:lF)(n:Wr->Wo->Wp->Prop)(l:h_ w (bM #[Q_ (bs f)] 403)=m) (C:Wu (qX m s q r)) (B:Wu (AX m q r n)) (u:Wu (∀W t z,n t z W->i9 W (aJ w.heap.size 0)=Wj (Q_ (bs f))/\w.heap.size<W.heap.size)) (A:Wu (∀W t z,n t z W->Wn Ww 366 #[Q_ (bs f),dA t z] W λe w'=>e=iY k/\S w')):Wn Ww 365 #[W1 #[Q_ (bs f)],aW s] w λe w'=>e=iY k/\S w':=by have b:(h_ w (bM #[Q_ (bs f)] 403)).heap[w.heap.size]?=Wj (bM #[Q_ (bs f)] 403):=aS _ _ i_ _;rw[l]at b;have x:=O l;have o:=O (aB (i:=0) b i_);have j:=aH b;clear l b;go_in;go_wp;rw[x];apply (C _ (bZ.refl _)).mono;rintro e D ⟨rfl,c⟩;have G:=fW c.heap o;have y:=qJ c.heap j;go_wp2;go_region_law (first|(go_simp;go_at_call 182;apply (B _ (c.trans (bZ.drew _))).mono;rintro e I ⟨t,z,rfl,p⟩;have d:=u _ _ _ p;have E:=d.1;have H:=d.2;clear d)|(refine RP (Xb 320 (Xc true)) ?_ ?_;(focus go_simp;go_at_call 366;apply (A _ _ _ p).mono;rintro e F ⟨rfl,v⟩;exact⟨i_,i_,v⟩);intro a)|(apply RP (.tuple #[]) a.out.elim;intro g));all_goals exact a.out.elim
def XU(w d:aL)(u l q c g n o:Nat)(t:Wr)(z:aU)(P:lF)(m:h_ w (bM #[Y c] 398)=d) (C:Wu (qX d u l q)) (s:i9 d (aJ l (q+4))=Wj (P_ (Wj (aJ g 0)) n o)) (r:i9 d (aJ g c)=Wj (dA t z)) (v:c<n) (y:Wu (∀W,bZ d W->Wn Ww 342 #[W_ (Wj (aJ l q)),dA t z] W λe w'=>e=eV/\P w')):Wn Ww 360 #[W1 #[Y c],aW u] w λe w'=>e=eV/\P w':=by have a:(h_ w (bM #[Y c] 398)).heap[w.heap.size]?=Wj (bM #[Y c] 398):=aS _ _ i_ _;rw[m]at a;have A:=O m;have f:=O (aB (i:=0) a i_);have j:=aH a;have k:=O s;have p:=O r;have K:(0:Int)<=(c:Int):=Z;have G:(c:Int)<(n:Int):=Z;clear m a s r;go_in;go_wp;rw[A];have F:=f.out;go_region_law (go_simp;first|(go_at_call 152;refine(C _ (by first|assumption|exact bZ.drew _)).mono ?_;rintro e E ⟨rfl,b⟩;have H:=fW b.heap f;have B:=qJ b.heap j;have I:=fW b.heap k;have J:=fW b.heap p)|(go_at_call 342;apply (y _ b).mono;rintro e D ⟨rfl,x⟩));all_goals go_wp2;go_end0;exact⟨i_,x⟩
def UE(w g:aL)(y f j p:Nat)(k:Option Addr)(P:lF)(r:h_ w (bM #[Y p,W_ k] 277)=g) (D:Wu (qX g y f j)) (c:∃u,i9 g (aJ f (j+2))=Wj u) (d:∃u,i9 g (aJ f (j+3))=Wj u) (n:g.frozen? (aJ f (j+2))=Wl) (m:g.frozen? (aJ f (j+3))=Wl) (A:f<g.heap.size) (L:Wu (∀W,bZ g W->P (c9 (c9 W (aJ f (j+2)) (Y p)) (aJ f (j+3)) (W_ k)))):Wn Ww 344 #[W1 #[Y p,W_ k],aW y] w λe w'=>e=eV/\P w':=by have a:(h_ w (bM #[Y p,W_ k] 277)).heap[w.heap.size]?=Wj (bM #[Y p,W_ k] 277):=aS _ _ i_ _;rw[r]at a;have B:=O r;have o:=O (aB (i:=0) a i_);have l:=O (aB (i:=1) a i_);have q:=aH a;have ⟨u2,c⟩:=c;have ⟨u3,d⟩:=d;have x:=O c;have s:=O d;have t:=O n;have v:=O m;have I:=o.out;have J:=l.out;clear r a c d n m;go_in;go_wp;rw[B];go_region_law (go_simp;go_at_call 152;apply (D _ (bZ.drew _)).mono;rintro e E ⟨rfl,b⟩;have K:=fW b.heap o;have H:=fW b.heap l;have F:=fW b.heap x;have G:=fW b.heap s;have N:=xK b.heap t;have M:=xK b.heap v;have C:=qJ b.heap q;have z:=qJ b.heap A);all_goals go_wp2;go_end0;grind[dz]
theorem vA(n:Int):aI (bB n)=1:=r_
theorem qD(b:Bool):aI (cF b)=1:=r_
theorem oK:aI aY<=200:=d_
def Oa(b:bS)(a:aD):aI (dF b a).1<=200:=by
 unfold dF;repeat' split
 all_goals first|(exact Z)|grind[qD]|exact oK
theorem Q7(a:bS)(x y:Int):aI (jJ a x y).1<=200:=by
 unfold jJ;repeat' split
 all_goals first|(exact Z)|(grind[qD])|exact oK
theorem TC(a b:aD):aI (iK a b).1<=200:=by grind[iK,oK]
def Oe(c:bS)(a b:aD):aI (dH c a b).1<=200:=by grind[dH,Q7,TC,qD,oK]
def XY(r:aD×Nat)(h:(jO r).2=0):aI (jO r).1<=200:=by grind[jO]
theorem PV.bool{F:bI}{v:aU}(h:PV F w v a)(d:a.c_=1):a=cF (decide (a.n=1)):=by rcases h.cases with ⟨n,_,rfl,_⟩|⟨b,_,rfl⟩|⟨s,_,rfl⟩|⟨x,c,l,_,rfl,_⟩;simp[bB]at d;cases b<;>rfl;simp[bT]at d;simp[bH]at d
theorem oE(h:f.ops=g++[a]):f.last=a:=by simp[aG.last,h]
def BR(h:f.ops=g++[a]):f.pop.ops=g:=by simp[aG.pop,h]
def lO(sh:Bool)(fp:iD)(F:bI)(b_ sb gf:Nat)(t0 s0:aU)(own:List Nat)(w:aL)(below:List aG)(tape:List Int)(out:cU)(r:aG×Nat)(e:Ending)(w':aL):Prop:=D3 r.2 e/\jL sh fp F b_ sb gf t0 s0 own w ⟨below++[r.1],tape,out⟩ w'
def An(fp:iD)(F:bI)(b_ sb:Nat)(t0 s0:aU)(own:List Nat)(w:aL)(below:List aG)(tape:List Int)(out:cU)(r:aG×Nat)(e:Ending)(w':aL):Prop:=D3 r.2 e/\uh fp F b_ sb t0 s0 own w ⟨below++[r.1],tape,out⟩ w'
section
variable {sh:Bool} {fp:iD} {F:bI} {b_:Nat} {w:aL} {sb gf cap:Nat} {t0 tv u_ s0:aU} {v_:List oo} {below:List aG} {f:aG} {tape:List Int} {out:cU}
theorem lO.ok{own:List Nat}{r:aG×Nat}{g:aG}{a:aL}(b:r=(g,0))(h:jL sh fp F b_ sb gf t0 s0 own w ⟨below++[g],tape,out⟩ a):lO sh fp F b_ sb gf t0 s0 own w below tape out r (eV) a:=by subst b;exact⟨ea s_,h⟩
theorem lO.stop{own:List Nat}{r:aG×Nat}{g:aG}{k:Nat}{a:aL}(b:r=(g,k))(c:k≠0)(h:jL sh fp F b_ sb gf t0 s0 own w ⟨below++[g],tape,out⟩ a):lO sh fp F b_ sb gf t0 s0 own w below tape out r (iY k) a:=by subst b;exact⟨dv G_,h⟩
def lO.Dj{own:List Nat}{r:aG×Nat}{e:Ending}{a:aL}(h:lO Wl fp F b_ sb gf t0 s0 own w below tape out r e a):An fp F b_ sb t0 s0 own w below tape out r e a:=⟨h.1,h.2.done⟩
theorem An.ok{own:List Nat}{r:aG×Nat}{g:aG}{a:aL}(b:r=(g,0))(h:uh fp F b_ sb t0 s0 own w ⟨below++[g],tape,out⟩ a):An fp F b_ sb t0 s0 own w below tape out r (eV) a:=by subst b;exact⟨ea s_,h⟩
theorem An.stop{own:List Nat}{r:aG×Nat}{g:aG}{k:Nat}{a:aL}(b:r=(g,k))(c:k≠0)(h:uh fp F b_ sb t0 s0 own w ⟨below++[g],tape,out⟩ a):An fp F b_ sb t0 s0 own w below tape out r (iY k) a:=by subst b;exact⟨dv G_,h⟩
def dJ.count{m:cY}(h:dJ sh fp F b_ w sb gf cap t0 tv u_ s0 v_ m):aA v_=aA m.f_:=h.vu.length
def dJ.yk(h:dJ sh fp F b_ w sb gf cap t0 tv u_ s0 v_ ⟨below++[f],tape,out⟩)(a:b_<=w.heap.size)(ob:Obj):eK sh fp b_ sb gf (aA below) t0 s0 (aZ sh sb gf u_ v_) (w.alloc ob) F ⟨below++[f],tape,out⟩ (w.alloc ob):=eK.init h (by rw[h.count];simp) a ob
def eK.vm{own:List Nat}{a:aL}{G:bI}{n:Nat}{m:cY}(h:eK sh fp b_ sb gf n t0 s0 own a G m a)(c:n<=15):Wu (qX a sb gf (n*6)):=λW b=>by apply ((h.same b).top c).mono;grind[bZ.trans]
theorem eK.box{n:Nat}{G:bI}{m:cY}{a:Array Wo}{b:Wr}{W:aL}(h:dJ sh fp F b_ w sb gf cap t0 tv u_ s0 v_ ⟨below++[f],tape,out⟩)(d:eK sh fp b_ sb gf n t0 s0 (aZ sh sb gf u_ v_) (dZ w a b) G m W):W.heap[H_ w]?=Wj (bM a b):=by rw[d.wi s_ λc=>Nat.lt_irrefl _ (h.lt _ c)];exact aS _ _ i_ _
def Jl(h:dJ sh fp F b_ w sb gf cap t0 tv u_ s0 v_ ⟨below++[f],tape,out⟩)(c:aA below<=15)(b:b_<=H_ w)(i:aA f.ops<=99000)(d:∃e a,f.ops=e++[a]):Wn Ww 359 #[W1 #[],aW sb] w (lO sh fp F b_ sb gf t0 s0 (aZ sh sb gf u_ v_) w below tape out (aO .drop f)):=by have ⟨e,a,hf⟩:=d;have g:=h.yk b (bM #[] 375);refine(ZO w _ sb gf (aA below*6) (λj=>jL sh fp F b_ sb gf t0 s0 (aZ sh sb gf u_ v_) w ⟨below++[f.pop],tape,out⟩ j) i_ (g.vm c) λW k=>?_).mono ?_;apply ((g.same k).pop hf Z).mono;grind[eK.ug,ue.refl];grind[lO.ok,aO]
def Kz(h:dJ sh fp F b_ w sb gf cap t0 tv u_ s0 v_ ⟨below++[f],tape,out⟩)(d:aA below<=15)(c:b_<=H_ w)(n:aA f.ops<=99000)(j:∃o a,f.ops=o++[a]):Wn Ww 385 #[W1 #[],aW sb] w (lO sh fp F b_ sb gf t0 s0 (aZ sh sb gf u_ v_) w below tape out (aO .tr f)):=by
 have ⟨o,a,hf⟩:=j;have m:=h.yk c (bM #[] 433);have p:aA f.pop.ops<=100000:=by grind[aG.pop]
 refine(RN w _ sb gf (aA below*6) (λg=>a.c_=1/\jL sh fp F b_ sb gf t0 s0 (aZ sh sb gf u_ v_) w ⟨below++[f.pop.push a],tape,out⟩ g) (λg=>a.c_≠1/\jL sh fp F b_ sb gf t0 s0 (aZ sh sb gf u_ v_) w ⟨below++[f.pop],tape,out⟩ g) (λt z W=>PV F W (dA t z) a/\aI a<=200/\eK sh fp b_ sb gf (aA below) t0 s0 (aZ sh sb gf u_ v_) (dZ w #[] 433) F ⟨below++[f.pop],tape,out⟩ W) (λb W=>a.c_=1/\a=cF b/\eK sh fp b_ sb gf (aA below) t0 s0 (aZ sh sb gf u_ v_) (dZ w #[] 433) F ⟨below++[f.pop],tape,out⟩ W) rfl (m.vm d) (λW q=>?_) (λW t z l=>?_) λW b l=>?_).mono ?_;apply ((m.same q).pop hf Z).mono;simp;have ⟨i,k,h3⟩:=l;apply (uP F _ a W i).mono;grind[PV.bool,eK.ug,ue.refl];have ⟨i,k,h3⟩:=l;apply (h3.push (PV.yj F W b) (by rw[qD];exact Z) p).mono;grind[eK.ug,ue.refl];have r:aO .tr f=if a.c_=1 then (f.pop.push a,0)else (f.pop,2):=by simp[aO,oE hf]
 rintro e g (⟨rfl,i,k⟩|⟨rfl,i,k⟩);grind[lO.ok];grind[lO.stop]
end
section
variable {sh:Bool} {fp:iD} {F:bI} {b_:Nat} {w:aL} {sb gf cap:Nat} {t0 tv u_ s0:aU} {v_:List oo} {below:List aG} {f:aG} {tape:List Int} {out:cU}
def eK.next{own:List Nat}{c:aL}{G:bI}{n:Nat}(h:eK sh fp b_ sb gf n t0 s0 own c G ⟨below++[f],tape,out⟩ w)(b:Nat):eK sh fp b_ sb gf n t0 s0 own c G ⟨below++[{f with next:=b}],tape,out⟩ (c9 w (aJ gf (n*6+1)) (Y b)):=h.set 1 (Y b) Z (λv=>{v with nx:=Y b}) (λ_=>rfl) (λ_ _=>rfl) λ_ a=>⟨a.fn,rfl,a.ln,a.sp,a.g_,a.ops⟩
theorem eK.cell{own:List Nat}{b:aL}{G:bI}{n:Nat}(h:eK sh fp b_ sb gf n t0 s0 own b G ⟨below++[f],tape,out⟩ w)(j:Nat)(a:j<6):(∃u,i9 w (aJ gf (n*6+j))=Wj u)/\w.frozen? (aJ gf (n*6+j))=Wl/\gf<w.heap.size:=by have ⟨v,hv,hl,hc⟩:=h.cells;have ⟨h1,h2⟩:=hc j (v.cells[j]'(by simpa [oo.cells]using a)) (ew _);grind
def Ii(b:Nat)(h:dJ sh fp F b_ w sb gf cap t0 tv u_ s0 v_ ⟨below++[f],tape,out⟩)(c:aA below<=15)(a:b_<=H_ w):Wn Ww 369 #[W1 #[Y b],aW sb] w (lO sh fp F b_ sb gf t0 s0 (aZ sh sb gf u_ v_) w below tape out (aO (.jump b) f)):=by
 have d:=h.yk a (bM #[Y b] 409);have ⟨h1,h2,h3⟩:=d.cell 1 Z;refine(YF w _ sb gf (aA below*6) b (λe=>jL sh fp F b_ sb gf t0 s0 (aZ sh sb gf u_ v_) w ⟨below++[{f with next:=b}],tape,out⟩ e) rfl (d.vm c) h1 h2 h3 λW g=>?_).mono ?_;.exact((d.same g).next b).ug (ue.refl _ _)
 grind[lO.ok,aO]
def Hy(c:Nat)(h:dJ sh fp F b_ w sb gf cap t0 tv u_ s0 v_ ⟨below++[f],tape,out⟩)(j:aA below<=15)(d:b_<=H_ w)(o:aA f.ops<=99000)(l:∃p a,f.ops=p++[a]):Wn Ww 368 #[W1 #[Y c],aW sb] w (lO sh fp F b_ sb gf t0 s0 (aZ sh sb gf u_ v_) w below tape out (aO (.skip c) f)):=by
 have ⟨p,a,hf⟩:=l;have n:=h.yk d (bM #[Y c] 408);refine(MN w _ sb gf (aA below*6) c (λk=>a.c_=1/\jL sh fp F b_ sb gf t0 s0 (aZ sh sb gf u_ v_) w ⟨below++[if a.n=1 then f.pop else {f.pop with next:=c}],tape,out⟩ k) (λk=>a.c_≠1/\jL sh fp F b_ sb gf t0 s0 (aZ sh sb gf u_ v_) w ⟨below++[f.pop],tape,out⟩ k) (λt z W=>PV F W (dA t z) a/\aI a<=200/\eK sh fp b_ sb gf (aA below) t0 s0 (aZ sh sb gf u_ v_) (dZ w #[Y c] 408) F ⟨below++[f.pop],tape,out⟩ W) (λb W=>a.c_=1/\b=decide (a.n=1)/\eK sh fp b_ sb gf (aA below) t0 s0 (aZ sh sb gf u_ v_) (dZ w #[Y c] 408) F ⟨below++[f.pop],tape,out⟩ W) rfl (n.vm j) (λW q=>?_) (λW t z g=>?_) (λW g=>?_) (λW g=>?_) λW b g=>?_).mono ?_;apply ((n.same q).pop hf Z).mono;simp;have ⟨i,m,h3⟩:=g;apply (uP F _ a W i).mono;grind[eK.ug,ue.refl];grind[eK.ug,ue.refl];have ⟨i,m,h3⟩:=g;refine⟨i,?_⟩;rw[dy (G_)];exact(h3.next c).ug (ue.refl _ _);grind[eK.box,eK.cell,aB];have r:aO (.skip c) f=if a.c_=1 then (if a.n=1 then f.pop else {f.pop with next:=c},0)else (f.pop,2):=by simp[aO,oE hf]
 rintro e k (⟨rfl,i,m⟩|⟨rfl,i,m⟩);grind[lO.ok];grind[lO.stop]
def WI(d:Bool)(c:Nat)(h:dJ sh fp F b_ w sb gf cap t0 tv u_ s0 v_ ⟨below++[f],tape,out⟩)(l:aA below<=15)(i:b_<=H_ w)(p:aA f.ops<=99000)(k:∃q a,f.ops=q++[a]):Wn Ww 386 #[W1 #[Xc d,Y c],aW sb] w (lO sh fp F b_ sb gf t0 s0 (aZ sh sb gf u_ v_) w below tape out (aO (.sr d c) f)):=by
 have ⟨q,a,hf⟩:=k;have o:=h.yk i (bM #[Xc d,Y c] 435);have r:aA f.pop.ops<=100000:=by grind[aG.pop]
 refine(GM w _ sb gf (aA below*6) c d (λm=>a.c_=1/\jL sh fp F b_ sb gf t0 s0 (aZ sh sb gf u_ v_) w ⟨below++[if decide (a.n=1)=d then {f.pop.push a with next:=c} else f.pop],tape,out⟩ m) (λm=>a.c_≠1/\jL sh fp F b_ sb gf t0 s0 (aZ sh sb gf u_ v_) w ⟨below++[f.pop],tape,out⟩ m) (λt z W=>PV F W (dA t z) a/\aI a<=200/\eK sh fp b_ sb gf (aA below) t0 s0 (aZ sh sb gf u_ v_) (dZ w #[Xc d,Y c] 435) F ⟨below++[f.pop],tape,out⟩ W) (λb W=>a.c_=1/\b=decide (a.n=1)/\a=cF b/\eK sh fp b_ sb gf (aA below) t0 s0 (aZ sh sb gf u_ v_) (dZ w #[Xc d,Y c] 435) F ⟨below++[f.pop],tape,out⟩ W) (λb W=>a.c_=1/\b=decide (a.n=1)/\eK sh fp b_ sb gf (aA below) t0 s0 (aZ sh sb gf u_ v_) (dZ w #[Xc d,Y c] 435) F ⟨below++[f.pop.push a],tape,out⟩ W) rfl (o.vm l) (λW s=>?_) (λW t z g=>?_) (λW b g=>?_) (λW b g k=>?_) (λW b g v=>?_) (λW b g=>?_) λW b g=>?_).mono ?_;apply ((o.same s).pop hf Z).mono;simp;have ⟨j,n,h3⟩:=g;apply (uP F _ a W j).mono;grind[PV.bool,eK.ug,ue.refl];have ⟨j,n,h3,h4⟩:=g;apply (h4.push (a:=a) (by rw[h3];exact PV.yj F W b) (by rw[h3,qD];exact Z) r).mono;grind;grind[eK.ug,ue.refl];have ⟨j,n,h3⟩:=g;refine⟨j,?_⟩;rw[ec G_];exact(h3.next c).ug (ue.refl _ _);grind[eK.box,aB];grind[eK.box,eK.cell,aB];have u:aO (.sr d c) f=if a.c_=1 then (if decide (a.n=1)=d then {f.pop.push a with next:=c} else f.pop,0)else (f.pop,2):=by simp[aO,oE hf]
 rintro e m (⟨rfl,j,n⟩|⟨rfl,j,n⟩);grind[lO.ok];grind[lO.stop]
end
section
variable {sh:Bool} {fp:iD} {F:bI} {b_:Nat} {w:aL} {sb gf cap:Nat} {t0 tv u_ s0:aU} {v_:List oo} {below:List aG} {f:aG} {tape:List Int} {out:cU}
theorem eK.apart{own:List Nat}{b:aL}{G:bI}{n:Nat}{m:cY}(h:eK sh fp b_ sb gf n t0 s0 own b G m w):∀k,G k->k<w.heap.size/\k≠gf:=by have ⟨h1,h2,cap,tv,u_,v_,h3,h4,h5⟩:=h;exact λk a=>⟨(h4.apart k a).1,λe=>(h4.apart k a).2 ml⟩
def oM.cell{G:bI}{v:aU}{l:List aD}{k:Nat}(h:oM G b_ w v l)(f:k<aA l):∃g cap t z,v=Wz (Wj (aJ g 0)) (aA l) cap/\i9 w (aJ g k)=Wj (Xb t z)/\PV G w (Xb t z) l[k]/\aI l[k]<=200:=by have ⟨⟨xs,h1,h2,h3⟩,h4⟩:=h;have ⟨u,e1,e2⟩:=h3 k f;obtain⟨t,z,rfl⟩:=e2.form;rcases h1.2 with ⟨n,o⟩|⟨g,c,m,rfl,i,b,a,d,j,e⟩;exact Z;grind[aB]
def Y2.cell{G:bI}{v:aU}{l:List aD}{k:Nat}(h:Y2 sh G b_ w v l)(a:k<aA l):∃g cap t z,v=Wz (Wj (aJ g 0)) (aA l) cap/\i9 w (aJ g k)=Wj (Xb t z)/\PV G w (Xb t z) l[k]/\aI l[k]<=200:=by cases sh;exact oM.cell h a;have ⟨h1,h2⟩:=h;rcases vd.row h1 with ⟨rfl,_⟩|⟨g,cap,c,e,_,_,⟨_,b⟩,d⟩;cases a;grind[PV.form]
def Mi(k:Nat)(h:dJ sh fp F b_ w sb gf cap t0 tv u_ s0 v_ ⟨below++[f],tape,out⟩)(d:aA below<=15)(a:b_<=H_ w)(m:aA f.ops<=99000)(i:k<aA f.g_):Wn Ww 360 #[W1 #[Y k],aW sb] w (lO sh fp F b_ sb gf t0 s0 (aZ sh sb gf u_ v_) w below tape out (aO (.load k) f)):=by have e:=h.yk a (bM #[Y k] 398);have ⟨v,hv,hl,hc⟩:=e.cells;have ⟨g,c,t,z,e1,e2,e3,e4⟩:=hv.g_.cell i;have j:=(hc 4 v.vv i_).1;rw[e1]at j;refine(XU w _ sb gf (aA below*6) k g (aA f.g_) c t z (λn=>jL sh fp F b_ sb gf t0 s0 (aZ sh sb gf u_ v_) w ⟨below++[f.push f.g_[k]],tape,out⟩ n) i_ (e.vm d) j e2 i λW l=>?_).mono ?_;apply ((e.same l).push (e3.j_ λb _=>by rw[l.heap]) e4 Z).mono;grind[eK.ug,ue.refl];grind[lO.ok,aO]
def Lf(l:Nat)(sp:aU)(s:cU)(h:dJ sh fp F b_ w sb gf cap t0 tv u_ s0 v_ ⟨below++[f],tape,out⟩)(d:aA below<=15)(c:b_<=H_ w)(i:gR F w sp s):Wn Ww 344 #[W1 #[Y l,sp],aW sb] w (lO sh fp F b_ sb gf t0 s0 (aZ sh sb gf u_ v_) w below tape out (aO (.begin l s) f)):=by obtain⟨sp,rfl⟩:=i.form;have e:=h.yk c (bM #[Y l,W_ sp] 277);have ⟨h1,h2,h3⟩:=e.cell 2 Z;have ⟨k1,k2,k3⟩:=e.cell 3 Z;refine(UE w _ sb gf (aA below*6) l sp (λk=>jL sh fp F b_ sb gf t0 s0 (aZ sh sb gf u_ v_) w ⟨below++[{f with l_:=l,e_:=s}],tape,out⟩ k) rfl (e.vm d) h1 k1 h2 k2 h3 λW j=>?_).mono ?_;have n:=e.same j;have hs0:=gR.j_ (λb m=>by rw[j.heap];exact ed _ _ _ (h.apart b m).1) zW i;have o:eK sh fp b_ sb gf (aA below) t0 s0 (aZ sh sb gf u_ v_) _ F ⟨below++[{f with l_:=l}],tape,out⟩ _:=n.set 2 (Y l) Z (λv=>{v with ln:=Y l}) (λ_=>rfl) (λ_ _=>rfl) λ_ a=>⟨a.fn,a.nx,rfl,a.sp,a.g_,a.ops⟩;have g:gR F (c9 W (aJ gf (aA below*6+2)) (Y l)) (W_ sp) s:=(by grind[gR.j_,eh,eK.apart]);have p:eK sh fp b_ sb gf (aA below) t0 s0 (aZ sh sb gf u_ v_) _ F ⟨below++[{f with l_:=l,e_:=s}],tape,out⟩ _:=o.set 3 (W_ sp) Z (λv=>{v with sp:=W_ sp}) (λ_=>rfl) (λ_ _=>rfl) λ_ a=>⟨a.fn,a.nx,a.ln,g,a.g_,a.ops⟩;exact p.ug (ue.refl _ _);grind[lO.ok,aO]
def Vi(b:bS)(s:b=[45]\/b=[33])(h:dJ sh fp F b_ w sb gf cap t0 tv u_ s0 v_ ⟨below++[f],tape,out⟩)(d:aA below<=15)(g:b_<=H_ w)(n:aA f.ops<=99000)(l:∃o a,f.ops=o++[a]):Wn Ww 365 #[W1 #[Q_ (bs b)],aW sb] w (lO sh fp F b_ sb gf t0 s0 (aZ sh sb gf u_ v_) w below tape out (aO (.unary b) f)):=by
 have ⟨o,a,hf⟩:=l;have m:=h.yk g (bM #[Q_ (bs b)] 403);have u:aA f.pop.ops<=100000:=by grind[aG.pop]
 have i:∀(W:aL) (v:aU),PV F W v a->Wn Ww 366 #[Q_ (bs b),v] W (nZ F W (dF (b++[120]) a)):=λW v p=>by rcases s with rfl|rfl;exact JQ 45 (ea i_) F v a W p;exact JQ 33 (dv i_) F v a W p
 have x:aO (.unary b) f=if (dF (b++[120]) a).2=0 then (f.pop.push (dF (b++[120]) a).1,0)else (f.pop,(dF (b++[120]) a).2):=by simp[aO,oE hf]
 have k:=Oa (b++[120]) a;generalize dF (b++[120]) a=r at i x k;have q:Wu (∀W,bZ (dZ w #[Q_ (bs b)] 403) W->Wn Ww 182 #[W_ (Wj (aJ gf (aA below*6)))] W λe j=>∃t z,e=bP (dA t z)/\PV F j (dA t z) a/\eK sh fp b_ sb gf (aA below) t0 s0 (aZ sh sb gf u_ v_) (dZ w #[Q_ (bs b)] 403) F ⟨below++[f.pop],tape,out⟩ j):=λW y=>by apply ((m.same y).pop hf Z).mono;grind
 by_cases A:r.2=0;refine(E8 w _ sb gf (aA below*6) b (λj=>jL sh fp F b_ sb gf t0 s0 (aZ sh sb gf u_ v_) w ⟨below++[f.pop.push r.1],tape,out⟩ j) (λt z W=>PV F W (dA t z) a/\eK sh fp b_ sb gf (aA below) t0 s0 (aZ sh sb gf u_ v_) (dZ w #[Q_ (bs b)] 403) F ⟨below++[f.pop],tape,out⟩ W) (λt z W=>PV F W (dA t z) r.1/\eK sh fp b_ sb gf (aA below) t0 s0 (aZ sh sb gf u_ v_) (dZ w #[Q_ (bs b)] 403) F ⟨below++[f.pop],tape,out⟩ W) i_ (m.vm d) q (λW t z c=>?_) (λW t z c=>?_) λW t z c=>?_).mono ?_;grind[eK.box,aB];apply (i W _ c.1).mono;grind[PV.form,nZ];apply (c.2.push c.1 k u).mono;grind[eK.ug,ue.refl];grind[lO.ok];refine(RI w _ sb gf (aA below*6) b r.2 (λj=>jL sh fp F b_ sb gf t0 s0 (aZ sh sb gf u_ v_) w ⟨below++[f.pop],tape,out⟩ j) (λt z W=>PV F W (dA t z) a/\eK sh fp b_ sb gf (aA below) t0 s0 (aZ sh sb gf u_ v_) (dZ w #[Q_ (bs b)] 403) F ⟨below++[f.pop],tape,out⟩ W) i_ (m.vm d) q (λW t z c=>?_) λW t z c=>?_).mono ?_;grind[eK.box,aB];apply (i W _ c.1).mono;grind[eK.ug,ue.refl,nZ];grind[lO.stop]
def UT{Z_:Prop}(Y_:Z_:=by rintro e w' ⟨hb,⟨hz,u,rfl,hu⟩|⟨hz,rfl⟩⟩;obtain⟨t1,z1,rfl⟩:=hu.form;exact ea ⟨t1,z1,i_,hz,tu F W w',⟨λ_=>ea,λk hk=>hk.imp_right λh1=>em (em s_ h5.1.size) h1.1⟩,hu,(by grind[eK.grow,tu])⟩;exact dv ⟨i_,hz,(h5.grow hb (s_) G_).ug (ue.refl _ _)⟩):Z_:=Y_
def Qq(c:bS)(h:dJ sh fp F b_ w sb gf cap t0 tv u_ s0 v_ ⟨below++[f],tape,out⟩)(n:aA below<=15)(d:b_<=H_ w)(i:aA f.ops<=99000)(q:∃A a b,f.ops=A++[a,b]):Wn Ww 376 #[W1 #[Q_ (bs c)],aW sb] w (lO sh fp F b_ sb gf t0 s0 (aZ sh sb gf u_ v_) w below tape out (aO (.binary c) f)):=by
 have ⟨A,a,b,p⟩:=q;have p:f.ops=(A++[a])++[b]:=G_;have C:=h.yk d (bM #[Q_ (bs c)] 432);have hf2:=BR p;have l:=i;rw[p,et,et]at l;have B:aA f.pop.ops<=100000:=G_;have y:aA f.pop.pop.ops<=100000:=by rw[BR hf2];exact Z
 have E:aO (.binary c) f=if (dH c a b).2=0 then (f.pop.pop.push (dH c a b).1,0)else (f.pop.pop,(dH c a b).2):=by grind[aO,oE]
 have o:=Oe c a b;have j:∀(W:aL) (u v:aU),PV F W u a->PV F W v b->(∀k,F k->k<H_ W)->aI a<=200->aI b<=200->Wn Ww 377 #[Q_ (bs c),u,v] W (jK F W (dH c a b)):=λW u v h1 e m D h5=>XB c F u v a b W h1 e m Z Z;generalize dH c a b=r at j E o;refine(OI w _ sb gf (aA below*6) c r.2 (λw'=>r.2=0/\jL sh fp F b_ sb gf t0 s0 (aZ sh sb gf u_ v_) w ⟨below++[f.pop.pop.push r.1],tape,out⟩ w') (λw'=>r.2≠0/\jL sh fp F b_ sb gf t0 s0 (aZ sh sb gf u_ v_) w ⟨below++[f.pop.pop],tape,out⟩ w') (λt z W=>PV F W (dA t z) b/\aI b<=200/\eK sh fp b_ sb gf (aA below) t0 s0 (aZ sh sb gf u_ v_) (dZ w #[Q_ (bs c)] 432) F ⟨below++[f.pop],tape,out⟩ W) (λt z s x W=>PV F W (dA t z) b/\aI b<=200/\PV F W (dA s x) a/\aI a<=200/\eK sh fp b_ sb gf (aA below) t0 s0 (aZ sh sb gf u_ v_) (dZ w #[Q_ (bs c)] 432) F ⟨below++[f.pop.pop],tape,out⟩ W) (λt z W=>r.2=0/\∃G,ue F G (H_ w)/\PV G W (dA t z) r.1/\eK sh fp b_ sb gf (aA below) t0 s0 (aZ sh sb gf u_ v_) (dZ w #[Q_ (bs c)] 432) G ⟨below++[f.pop.pop],tape,out⟩ W) rfl (C.vm n) (λW H=>?_) (λW t z g=>?_) (λW t z s x g=>?_) (λW t z s x g=>?_) λW t z g=>?_).mono ?_;apply ((C.same H).pop p Z).mono;simp;have ⟨h1,e,m⟩:=g;apply (m.Ch hf2 B).mono;grind[PV.j_];grind[eK.box,aB];have ⟨h1,e,m,D,h5⟩:=g;apply (j W _ _ m h1 (λk hk=>(h5.apart k hk).1) D e).mono;exact UT;have ⟨hz,G,hG,h1,e⟩:=g;apply (e.push h1 o y).mono;grind[eK.ug];grind[lO.ok,lO.stop]
end
section
variable {sh:Bool} {fp:iD} {F G G':bI} {b_:Nat} {w:aL} {sb gf cap:Nat} {t0 tv u_ s0:aU} {v_:List oo} {below:List aG} {f:aG} {tape:List Int} {out:cU}
def dJ.more{m:cY}(h:dJ sh fp G b_ w sb gf cap t0 tv u_ s0 v_ m)(a:∀k,G k->G' k)(b:∀k,G' k->G k\/(k<H_ w/\k∉aZ sh sb gf u_ v_)):dJ sh fp G' b_ w sb gf cap t0 tv u_ s0 v_ m:=⟨h.n_,h.row,h.vu.j_ (s_) a s_,h.tape.j_ (s_) a,h.out,h.nodup,h.lt,qe⟩
def dJ.p_{vs i:List aD}(h:dJ sh fp G b_ w sb gf cap t0 tv u_ s0 v_ ⟨below++[f],tape,out⟩)(A:f.ops=vs++i)(n:aA f.ops<=100000):Wn Ww 351 #[W_ (Wj (aJ gf (aA below*6))),Y (aA i)] w λe w'=>∃v' r c,e=bP v'/\Kept (aZ sh sb gf u_ v_) w w'/\aZ sh sb gf u_ c=aZ sh sb gf u_ v_/\aA c=aA v_/\dJ sh fp G b_ w' sb gf cap t0 tv u_ s0 c ⟨below++[f.p_ (aA i)],tape,out⟩/\w'.ownsRow w.heap.size 264 1 v' (aA i) r/\iG G w' r i/\(∀a∈i,aI a<=200)/\∀k,G k->w'.heap[k]?=w.heap[k]?:=by
 obtain⟨J,v,z,rfl,B,K,M,q,H,X,U,k2,W,k4,Q⟩:=h.top;rw[<-B];have ⟨⟨xs,hown,hxs⟩,hc200⟩:=K.ops;rw[A]at hown hxs hc200;obtain⟨l,r,rfl,D,y,S,m⟩:=hxs.split;rw[A,et]at n;rw[et]at hown;apply (CG b_ gf (aA J*6) (aA vs) (aA i) z v.ov l r w q Q hown D y (tY m) Z).mono;rintro e w' ⟨v',g,s,T,u,I,rfl,V,F⟩;have L:(f.p_ (aA i)).ops=vs:=by simp[aG.p_,A]
 have E:=h.grow u (s_) (λ_ h=>ea h);have t:UK sh fp G b_ s {v with ov:=g} (f.p_ (aA i)):=by have p:∀b,G b->s.heap[b]?=w.heap[b]?:=λb C=>u.block b (h.apart b C).1;have P:∀k∈(v.se sh),k<w.heap.size:=λk p=>h.lt k (by simp[aZ,dD,p]);have d:=K.j_ p zW lm;refine⟨d.fn,d.nx,d.ln,d.sp,d.g_,⟨l,?_,?_⟩,G_⟩;grind[aX,ej,oo.se];grind[iG.j_]
 have ⟨q1,q2⟩:=E.wq (j:=5) (x:=g) (v':={v with ov:=g}) Z rfl (by simp[oo.se,F]) t;have N:gf<w.heap.size:=(by grind);have o:∀k,G k->(c9 s (aJ gf (aA J*6+5)) g).heap[k]?=w.heap[k]?:=(by grind[eh,dJ.apart,aZ,ej]);refine⟨v',r,_,T,(Kept.q_ u).trans q2 G_,by simp[aZ,dD,oo.se,F],s_,q1,aX I λk p=>eh _ _ _ _ ?_,m.j_ o,G_,o⟩;have:=cA I k p;grind
def eK.p_{own:List Nat}{m:aL}{n:Nat}{vs b:List aD}(h:eK sh fp b_ sb gf n t0 s0 own m G ⟨below++[f],tape,out⟩ w)(r:n=aA below)(q:f.ops=vs++b)(g:aA f.ops<=100000):Wn Ww 351 #[W_ (Wj (aJ gf (n*6))),Y (aA b)] w λe w'=>∃x d,e=bP (Wz x (aA b) d)/\∃G',ue G G' w.heap.size/\vd G' w' (Wz x (aA b) d) b/\(∀a∈b,aI a<=200)/\eK sh fp b_ sb gf n t0 s0 own m G' ⟨below++[f.p_ (aA b)],tape,out⟩ w'/\∀k,G k->w'.heap[k]?=w.heap[k]?:=by have ⟨h1,h2,cap,tv,u_,v_,h3,h4,h5⟩:=h;subst r;apply (h4.p_ q g).mono;rintro e w' ⟨u,A,c,s,i,z,v,t,l,y,p,o⟩;obtain⟨x,d,rfl⟩:=gG l;refine⟨x,d,s,λk=>G k\/(Value.slice x (aA b) d).ownBlock=Wj k,⟨G_,λk j=>j.imp_right λe=>cA l k e⟩,(by grind[vd.ofRow,iG.mono]),p,⟨h1.trans i h5,em h2 i.size,cap,tv,u_,c,Z,t.more (G_) λk j=>?_,G_⟩,o⟩;grind[dT,dJ.lt,cA,aZ]
def Lv(s b:List aD)(h:dJ sh fp F b_ w sb gf cap t0 tv u_ s0 v_ ⟨below++[f],tape,out⟩)(i:aA below<=15)(c:b_<=H_ w)(r:aA f.ops<=99000)(o:f.ops=s++b):Wn Ww 361 #[W1 #[Y (aA b)],aW sb] w (lO sh fp F b_ sb gf t0 s0 (aZ sh sb gf u_ v_) w below tape out (aO (.list (aA b)) f)):=by
 have q:=h.yk c (bM #[Y (aA b)] 400);have E:f.many (aA b)=b:=by simp[aG.many,o]
 have y:(f.p_ (aA b)).ops=s:=by simp[aG.p_,o]
 have B:(f.p_ (aA b)).ops.length<=100000:=G_;have D:aO (.list (aA b)) f=if aI (bH b)<=200 then ((f.p_ (aA b)).push (bH b),0)else (f.p_ (aA b),6):=by grind[aO,jO]
 refine(XW w _ sb gf (aA below*6) (aA b) 6 (λj=>aI (bH b)<=200/\jL sh fp F b_ sb gf t0 s0 (aZ sh sb gf u_ v_) w ⟨below++[(f.p_ (aA b)).push (bH b)],tape,out⟩ j) (λj=>¬aI (bH b)<=200/\jL sh fp F b_ sb gf t0 s0 (aZ sh sb gf u_ v_) w ⟨below++[f.p_ (aA b)],tape,out⟩ j) (λx d W=>∃G,ue F G (H_ w)/\vd G W (P_ x (aA b) d) b/\(∀a∈b,aI a<=200)/\eK sh fp b_ sb gf (aA below) t0 s0 (aZ sh sb gf u_ v_) (dZ w #[Y (aA b)] 400) G ⟨below++[f.p_ (aA b)],tape,out⟩ W) (λt z W=>aI (bH b)<=200/\∃G,ue F G (H_ w)/\PV G W (dA t z) (bH b)/\eK sh fp b_ sb gf (aA below) t0 s0 (aZ sh sb gf u_ v_) (dZ w #[Y (aA b)] 400) G ⟨below++[f.p_ (aA b)],tape,out⟩ W) rfl (q.vm i) (λW A=>?_) (λW x d n=>?_) λW t z n=>?_).mono ?_;apply ((q.same A).p_ i_ o Z).mono;rintro e j ⟨x,d,C,G,k,g,v,u,_⟩;exact⟨x,d,C,G,k.le (by rw[A.heap];simp),g,v,u⟩
 .have ⟨G,k,g,v,u⟩:=n;have p:∀l:List aD,(∀a∈l,aI a<=200)->(l.map aI).sum<=200*aA l:=λl=>by induction l with|nil=>simp|cons a l H=>grind
  have m:aI (bH b)<=1000000000:=by grind[dG,bH]
  apply (SN G x d b W g m).mono;grind[PV.vw,eK.ug]
 have ⟨hz,G,hG,k,g⟩:=n;apply (g.push k hz B).mono;grind[eK.ug];grind[lO.ok,lO.stop,aG.p_]
end
