import Derived.Test.YthlhecfcnfjecaaGreatDoorP19
set_option linter.all false
set_option maxRecDepth 100000
set_option maxHeartbeats 0
open List renaming length->aA
open Go.World renaming setCell->c9,alloc->i9,cell?->I_
open Option renaming some->Wy
open Bool renaming false->WD
open Go renaming Calls->W_,Value->Xa,World->Xb,TypeId->Xd
open Go.RowKit renaming Hid->Xg
open Go.Proofs.Tryz renaming prog->Xi
open Go.Value renaming slice->Xl,agg->Xn,pointer->Xo,iface->Xq,bool->Xr
namespace Go.Proofs.YthlhecfcnfjecaaGreatDoor
open Hs _root_.Go.Proofs.Tryz Go.RowKit
variable{L:Bool}{N:List Int}{E:List Xa}{g:List aE}{M Q S:Nat}{d:Prop}{a:aE}{f:aI}{w z:aN}{J T V:aX}{R p:bL}{P:cY}{I:iJ}
structure Bh(gf:Nat)(row:Option Nat)(w w':aN):Prop where
 os:w'.os=w.os
 tape:w'.tape=w.tape
 output:w'.output=w.output
 size:w.heap.size<=w'.heap.size
 block:∀k,k<w.heap.size->k≠gf->Wy k≠row->w'.heap[k]?=w.heap[k]?
def JZ(w:aN)(u:aX):∀j v,([u]:List Xa)[j]?=Wy v->I_ (eF w #[u] 265) ((⟨H_ w,0,none⟩:Addr).add j)=Wy v:=by intro j v a;match j,a with|0,a=>simp at a;subst a;simp[Addr.add]|j+1,a=>simp at a
def DL(t:Xd)(z:aX):∀u∈([dI t z]:List Xa),u.oneCell'=true:=by intro u a;simp at a;rw[a];rfl
def DW(d l o n:Nat)(cur:Array Xa)(u:aX)(C:List Xa)(t:Xd)(z:aX)(w:aN)(v:w.heap[l]?=Wy (bO cur 113))(G:cur[o+5]?=Wy u)(f:w.ownsRow d 265 1 u n C)(p:u.ownBlock≠Wy l)(y:d<=H_ w)(V:n<=1000000):W_ Xi 343 #[Xo (Wy (aL l o)),dI t z] w λe w'=>e=fA/\∃m,w'.heap[l]?=Wy (bO (cur.setIfInBounds (o+5) m) 113)/\w'.ownsRow d 265 1 m (n+1) (C++[dI t z])/\(∀k,m.ownBlock=Wy k->u.ownBlock=Wy k\/H_ w<=k)/\Bh l u.ownBlock w w':=by
 have ⟨i0,hi,hz0,hz1,hz2⟩:=info_parts rU;obtain⟨x,c,rfl⟩:=fV f;have E:=aH v;have T:=aB v G;have P:=O f;have M:=O v;have B:=O p;clear f v p;go_in;go_wp2_with (at_builtin;refine wpList_append_lies _ r_ _ _ 111 r_ d 265 i0 _ 1 16 underlying111 hi hz0 hz1 hz2 rfl d_ (P_ x n c) n C r_ (P.alloc _) (aL (H_ w) 0) 1 1 [dI t z] r_ r_ (JZ w _) (DL t z) d_ lg Z la (H_ w+1) s_ ?_);intro F s I g b j L;have a:I.heap[l]?=Wy (bO cur 113):=by rw[b.block l la λe=>B e.symm,ed _ _ _ E];exact M
 have Q:=aB a G;have S:=aF a (i:=o+5);have H:=aH a;have D:F≠l:=by grind[dw]
 have HOWN:=O g;have r:=O b;have K:=O j;have A:=O a;clear g b j a;go_wp2;go_end0;refine⟨aJ,P_ (Wy (aL F 0)) (n+1) s,aP A,?_,?_,?_⟩;exact bE HOWN λk q=>ej _ _ _ _ (by cases q;exact D);intro k q;cases q;grind[dw];refine⟨r.os.trans aJ,r.tape.trans aJ,r.output.trans aJ,em s_ (em r.size s_),λk q N J=>?_⟩;rw[ej _ _ _ _ N,r.block k la J,ed _ _ _ q]
def YE(b v o n:Nat)(l:Array Xa)(y:aX)(m:List Xa)(u:aX)(w:aN)(q:w.heap[v]?=Wy (bO l 113))(B:l[o+5]?=Wy y)(f:w.ownsRow b 265 1 y (n+1) (m++[u]))(J:aA m=n)(C:∃t z,u=dI t z)(K:n<=1000000):W_ Xi 183 #[Xo (Wy (aL v o))] w λe w'=>e=bR u/\∃j,w'=c9 w (aL v (o+5)) j/\w.ownsRow b 265 1 j n m/\j.ownBlock=y.ownBlock:=by
 obtain⟨t,z,rfl⟩:=C;rcases f.2 with ⟨F,L⟩|⟨g,c,p,rfl,s,a,A,r,x,k⟩;exact Z;have E:=aH q;have I:=aB q B;have H:=aF q (i:=o+5);have D:=aH a;have d:p[n]?=Wy (dI t z):=by have:(m++[Value.iface t z])[n]?=Wy (dI t z):=G_;grind
 have M:=aB a d;have HOWN:Xg (w.ownsRow b 265 1 (P_ (Wy (aL g 0)) n c) n m):=by refine⟨Z,dz ⟨g,c,p,rfl,s,a,Z,r,x,?_⟩⟩;have:=fe (List.take n) k;grind
 have N:(0:Int)<=n:=Z;have G:(n:Int)<(n:Int)+1:=Z;have P:(n:Int)<=c:=Z;clear f q B a k d;go_in;go_wp2;go_ret;exact⟨aJ,_,aJ,HOWN,aJ⟩
def AS(c b n a:Nat)(w:aN)(g:I_ w (aL c 1)=Wy (Xl (Wy (aL b 0)) (n+1) a))(i:n<=1000):W_ Xi 153 #[aY c] w λe w'=>e=bR (Xo (Wy (aL b (n*6))))/\∃q,w'=w.drewN q:=by have d:(0:Int)<=(n:Int):=Z;have f:(n:Int)<(n:Int)+1:=Z;go_in;go_wp;go_quiet (fail);go_wp2;go_ret;exact⟨aJ,_,aJ⟩
def Vz(f o m l n c k:Nat)(a:Array Xa)(p u:aX)(w:aN)(b:w.heap[f]?=Wy (bO a 113))(g:a[o]?=Wy (aY m))(j:a[o+1]?=Wy (Y k)) (d:w.heap[m]?=Wy (bO #[p,P_ (Wy (aL l 0)) n c] 200)) (D:dR w l k u) (s:∃t z,u=dI t z) (x:k<n) (E:n<=1000000):W_ Xi 154 #[Xo (Wy (aL f o))] w λe w'=>e=bR u/\∃q,w'=c9 (w.drewN q) (aL f (o+1)) (Y ((k+1:Nat):Int)):=by obtain⟨t,z,rfl⟩:=s;have v:=aH b;have r:=aH d;have G:=aB b g;have C:=aB b j;have y:=aF b (i:=o+1);have A:=aB d (i:=1) aJ;have F:(0:Int)<=(k:Int):=Z;have B:(k:Int)<(n:Int):=Z;clear b d g j;go_in;go_wp;go_quiet (fail);go_wp2;go_ret;exact⟨aJ,_,by congr 2⟩
def BS(d B o n k:Nat)(r:Array Xa)(K:aX)(y q:List Xa)(w:aN)(x:w.heap[B]?=Wy (bO r 113))(I:r[o+5]?=Wy K)(b:w.ownsRow d 265 1 K (n+k) (y++q))(hx:aA y=n)(W:aA q=k)(T:∀u∈q,u.oneCell'=true)(hn:n+k<=1000000):W_ Xi 352 #[Xo (Wy (aL B o)),Y k] w λe w'=>∃M s m,e=bR M/\R_ w m/\m.ownsRow (H_ w) 265 1 M k q/\w'=c9 m (aL B (o+5)) s/\w.ownsRow d 265 1 s n y/\s.ownBlock=K.ownBlock:=by
 have ab:=aH x;have c5:=aB x I;have f5:=aF x (i:=o+5);have e1:(0:Int)<=(n:Int):=Z;have e2:(n:Int)<=(n:Int)+(k:Int):=Z;rcases b.2 with ⟨rfl,r2⟩|⟨g,c,L,rfl,G,l,N,C,J,v⟩;.obtain⟨rfl,rfl⟩:n=0/\k=0:=Z;obtain rfl:=kf hx;obtain rfl:=kf W;have H:=O (yX w);clear b x I;go_in;go_wp2_with fail;refine mJ H ?_;go_wp2;go_ret;exact⟨_,_,_,aJ,dv _ _,World.ownsRow_nil _ _ _ _,aJ,World.ownsRow_nil _ _ _ _,aJ⟩
 have e3:(n:Int)<=(c:Int):=Z;have e4:(n:Int)+(k:Int)<=(c:Int):=Z;have e5:((n+k:Nat):Int)-(k:Int)=(n:Int):=Z;have H:Xg (∀f p,f=n\/k=0->W_ Xi 277 #[P_ (Wy (aL g f)) k p] w λe w'=>∃F D,e=bR (P_ F k D)/\w'.ownsRow (H_ w) 265 1 (P_ F k D) k q/\R_ w w'):=λf p A=>by refine(yY g f k p q w Z Z (λj u hj=>?_) T).mono ?_;have Q:j<aA q:=(ik.1 hj).1;rcases A with rfl|h0;refine aB l ?_;have hh:(y++q)[f+j]?=Wy u:=G_;grind;exact Z;grind[fV]
 have HOWN:Xg (∀p,p=c->w.ownsRow d 265 1 (P_ (Wy (aL g 0)) n p) n y):=by rintro p rfl;refine⟨Z,dz ⟨g,p,L,rfl,G,l,Z,C,J,?_⟩⟩;have:=fe (List.take n) v;grind
 have S:Xg (∀m,R_ w m->m.heap[B]?=Wy (bO r 113)):=λm h=>by grind[ef]
 clear b x l v;go_in;go_wp21;all_goals apply (H _ _ Z).mono;rintro e m ⟨F,D,rfl,z,t⟩;have a:=S m t;have P:=aH a;have X:=aB a I;have aa:=aF a (i:=o+5);have V:=O z;have E:=O t;clear z t a;go_wp2;go_ret;exact⟨_,_,m,aJ,E,V,aJ,ng,rfl⟩
def gX(F:bL)(w:aN):Xa->cY->Prop|v,[]=>v=Xo none|v,x::l=>∃b o,v=aY b/\F b/\w.heap[b]?=Wy (.cells #[.string (bs x),Y (aA l),o] 293)/\gX F w o l
theorem gX.h_{w':aN}(c:∀b,R b->w'.heap[b]?=w.heap[b]?)(a:∀b,R b->p b):∀{l:cY}{v:aX},gX R w v l->gX p w' v l|[],_,h=>h|_::_,_,⟨b,o,f,d,g,e⟩=>⟨b,o,f,a b d,G_,gX.h_ c a e⟩
def gX.form(h:gX R w J P):∃p,J=Xo p:=by cases P with|nil=>exact⟨none,h⟩|cons x P=>grind[gX]
def lR(fp:iJ)(F:bL)(w:aN)(v:aX):aO->Prop|.begin l s=>∃sp,v=Xq 278 (Xn #[Y l,sp])/\gX F w sp s|.push a=>∃u,v=Xq 267 (Xn #[u])/\PV F w u a/\aK a<=200|.load k=>v=Xq 399 (Xn #[Y k])|.declare k=>v=Xq 370 (Xn #[Y k])|.assign k n=>v=Xq 372 (Xn #[Y k,Y n])|.jump t=>v=Xq 410 (Xn #[Y t])|.skip t=>v=Xq 409 (Xn #[Y t])|.sw b t=>v=Xq 436 (Xn #[Xr b,Y t])|.ue=>v=Xq 434 (Xn #[])|.unary op=>v=Xq 404 (Xn #[.string (bs op)])|.binary op=>v=Xq 433 (Xn #[.string (bs op)])|.index=>v=Xq 402 (Xn #[])|.list n=>v=Xq 401 (Xn #[Y n])|.length=>v=Xq 411 (Xn #[])|.read=>v=Xq 412 (Xn #[])|.call k n=>v=Xq 414 (Xn #[fp k,Y n])|.tw=>v=Xq 269 (Xn #[])|.drop=>v=Xq 376 (Xn #[])|.print=>v=Xq 375 (Xn #[])
theorem lR.h_{w':aN}{v:aX}{i:aO}(h:lR I R w v i)(a:∀b,R b->w'.heap[b]?=w.heap[b]?)(d:∀b,R b->p b):lR I p w' v i:=by cases i<;>first|exact h|(have ⟨sp,h1,h2⟩:=h;exact⟨sp,h1,gX.h_ a d h2⟩)|(have ⟨u,h1,h2,h3⟩:=h;exact⟨u,h1,(h2.h_ a).mono d,h3⟩)
def lR.form{i:aO}(h:lR I R w J i):∃t z,J=Xq t z:=by cases i<;>first|exact⟨_,_,h⟩|(grind[lR])
def B3(fp:iJ)(F:bL)(w:aN)(v:aX)(f:eL):Prop:=∃fb gc cap cur,v=aY fb/\F fb/\w.heap[fb]?=Wy (.cells #[.string (bs f.name),Xl (Wy (aL gc 0)) (aA f.code) cap] 200)/\F gc/\w.heap[gc]?=Wy (.cells cur 272)/\∀i (h:i<aA f.code),∃u,cur[i]?=Wy u/\lR fp F w u f.code[i]
theorem B3.h_{a:iJ}{w':aN}{v:aX}{f:eL}(h:B3 a R w v f)(c:∀b,R b->w'.heap[b]?=w.heap[b]?)(d:∀b,R b->p b):B3 a p w' v f:=by grind[lR.h_,B3]
def oC(fp:iJ)(F:bL)(w:aN)(tz:List eL):Prop:=∀k f,tz[k]?=Wy f->B3 fp F w (fp k) f
theorem oC.h_{w':aN}{a:List eL}(h:oC I R w a)(d:∀b,R b->w'.heap[b]?=w.heap[b]?)(e:∀b,R b->p b):oC I p w' a:=(by grind[B3.h_,oC])
structure j_ where
 fp:Xa
 nx:Xa
 ln:Xa
 sp:Xa
 vv:Xa
 ov:Xa
def j_.cells(f:j_):List Xa:=[f.fp,f.nx,f.ln,f.sp,f.vv,f.ov]
def kP:List j_->List Xa|[]=>[]|f::l=>f.cells++kP l
theorem nC(l m:List j_):kP (l++m)=kP l++kP m:=by induction l with|nil=>rfl|cons f l a=>simp[kP,a]
theorem jL(l:List j_):aA (kP l)=aA l*6:=by induction l with|nil=>rfl|cons f l a=>simp[kP,j_.cells];exact Z
def j_.sf(sh:Bool)(f:j_):List Nat:=(cond sh [] f.vv.ownBlock.toList)++f.ov.ownBlock.toList
def oX(F:bL)(b_:Nat)(w:aN)(v:aX)(l:List aE):Prop:=(∃xs,w.ownsRow b_ 265 1 v (aA l) xs/\iH F w xs l)/\∀a∈l,aK a<=200
theorem oX.h_{a:Nat}{w':aN}{v:aX}(h:oX R a w v g)(c:∀b,R b->w'.heap[b]?=w.heap[b]?)(e:∀b,R b->p b)(d:∀k,v.ownBlock=Wy k->w'.heap[k]?=w.heap[k]?):oX p a w' v g:=by have ⟨⟨xs,h1,h2⟩,h3⟩:=h;exact⟨⟨xs,bE h1 d,(h2.h_ c).mono e⟩,h3⟩
def X5(sh:Bool)(F:bL)(b_:Nat)(w:aN)(v:aX)(l:List aE):Prop:=cond sh (vg F w v l/\∀a∈l,aK a<=200) (oX F b_ w v l)
def X5.h_{a:Nat}{w':aN}{v:aX}(h:X5 L R a w v g)(d:∀b,R b->w'.heap[b]?=w.heap[b]?)(e:∀b,R b->p b)(f:L=WD->∀k,v.ownBlock=Wy k->w'.heap[k]?=w.heap[k]?):X5 L p a w' v g:=by cases L;grind[oX.h_,X5];exact⟨(vg.h_ h.1 d).mono e,h.2⟩
structure TR(sh:Bool)(fp:iJ)(F:bL)(b_:Nat)(w:aN)(v:j_)(f:aI):Prop where
 fn:B3 fp F w v.fp f.fn
 nx:v.nx=Y f.next
 ln:v.ln=Y f.l_
 sp:gX F w v.sp f.e_
 g_:X5 sh F b_ w v.vv f.g_
 ops:oX F b_ w v.ov f.ops
theorem TR.h_{a:Nat}{w':aN}{v:j_}(h:TR L I R a w v f)(c:∀b,R b->w'.heap[b]?=w.heap[b]?)(d:∀b,R b->p b)(i:∀k∈(v.sf L),w'.heap[k]?=w.heap[k]?):TR L I p a w' v f:=⟨h.fn.h_ c d,h.nx,h.ln,gX.h_ c d h.sp,h.g_.h_ c d ((by grind[j_.sf])),h.ops.h_ c d (by grind[j_.sf])⟩
def lS(sh:Bool)(fp:iJ)(F:bL)(b_:Nat)(w:aN):List j_->List aI->Prop|[],[]=>True|v::vs,f::fs=>TR sh fp F b_ w v f/\lS sh fp F b_ w vs fs|_,_=>False
def lS.h_{d:Bool}{a:Nat}{w':aN}(g:∀b,R b->w'.heap[b]?=w.heap[b]?)(j:∀b,R b->p b):∀{c:List j_}{f:List aI},lS d I R a w c f->(∀v∈c,∀k∈(v.sf d),w'.heap[k]?=w.heap[k]?)->lS d I p a w' c f|[],[],_,_=>trivial|v::_,_::_,⟨m,i⟩,l=>⟨(by grind[TR.h_]),lS.h_ g j i G_⟩|[],_::_,h,_=>h.elim|_::_,[],h,_=>h.elim
def lS.length{c:Bool}{b:iJ}{F:bL}{b_:Nat}:∀{vs:List j_}{a:List aI},lS c b F b_ w vs a->aA vs=aA a|[],[],_=>rfl|_::_,_::_,⟨_,h⟩=>by simp[lS.length h]|[],_::_,h=>h.elim|_::_,[],h=>h.elim
def lS.snoc{b_:Nat}{v:j_}:∀{c:List j_}{d:List aI},lS L I R b_ w c d->TR L I R b_ w v f->lS L I R b_ w (c++[v]) (d++[f])|[],[],_,h=>⟨h,trivial⟩|_::_,_::_,⟨g,e⟩,h=>⟨g,lS.snoc e h⟩|[],_::_,h,_=>h.elim|_::_,[],h,_=>h.elim
def lS.vd{d:Bool}{c:iJ}{F:bL}{a:Nat}{w:aN}{f:aI}:∀{vs:List j_}{fs:List aI},lS d c F a w vs (fs++[f])->∃b v,vs=b++[v]/\lS d c F a w b fs/\TR d c F a w v f|[],[],h=>h.elim|[v],[],⟨j,i⟩=>(by grind)|_::_::_,[],⟨_,h⟩=>h.elim|v::vs,g::fs,⟨j,i⟩=>by obtain⟨b,u,e,l,k⟩:=lS.vd (vs:=vs) (fs:=fs) i;grind[lS]|[],_::_,h=>h.elim
def dD(sh:Bool)(l:List j_):List Nat:=l.flatMap (j_.sf sh)
def bF(sh:Bool)(sb gf:Nat)(u_:aX)(v_:List j_):List Nat:=sb::gf::(u_.ownBlock.toList++dD sh v_)
def pB(l:cY):List Xa:=l.map λx=>Value.string (bs x)
def pD(F:bL)(w:aN)(v:aX)(l:List Int):Prop:=(l=[]/\∃x c,v=Xl x 0 c)\/∃g o c,v=Xl (Wy (aL g o)) (aA l) c/\aA l<=c/\F g/\∀i (h:i<aA l),I_ w (aL g (o+i))=Wy (Y l[i])/\-9223372036854775808<=l[i]/\l[i]<=9223372036854775807
def pD.h_{w':aN}{v:aX}(h:pD R w v N)(a:∀b,R b->w'.heap[b]?=w.heap[b]?)(c:∀b,R b->p b):pD p w' v N:=by grind[World.cell?_of_block,pD]
structure dL(sh:Bool)(fp:iJ)(F:bL)(b_:Nat)(w:aN)(sb gf cap:Nat)(t0 tv u_ s0:aX)(v_:List j_)(m:dC):Prop where
 i_:w.heap[sb]?=Wy (.cells #[t0,Xl (Wy (aL gf 0)) (aA v_) cap,tv,u_,s0] 55)
 row:w.ownsRow b_ 113 6 (Xl (Wy (aL gf 0)) (aA v_) cap) (aA v_) (kP v_)
 wb:lS sh fp F b_ w v_ m.f_
 tape:pD F w tv m.tape
 out:w.ownsRow b_ 9 1 u_ (aA m.out) (pB m.out)
 nodup:(bF sh sb gf u_ v_).Nodup
 lt:∀k∈bF sh sb gf u_ v_,k<w.heap.size
 apart:∀k,F k->k<w.heap.size/\k∉bF sh sb gf u_ v_
def dL.step{c:Bool}{B:iJ}{G:bL}{d:Nat}{s:aN}{x n t:Nat}{M E a:aX}{g:List j_}{v p:j_}{m:List aI}{N:aI}{r:List Int}{z:cY} (h:dL c B R d w x n t M E a J (g++[v]) ⟨m++[f],r,z⟩) (W:H_ w<=H_ s) (hc:∀k,k<H_ w->k≠n->k∉(v.sf c)->s.heap[k]?=w.heap[k]?) (Q:s.ownsRow d 113 6 (Xl (Wy (aL n 0)) (aA g+1) t) (aA g+1) (kP (g++[p]))) (A:TR c B G d s p N) (ho:∀k∈(p.sf c),k<H_ s/\(k∈(v.sf c)\/H_ w<=k)) (aa:(p.sf c).Nodup) (L:∀k,R k->G k) (hG:∀k,G k->R k\/(H_ w<=k/\k<H_ s/\k∉(p.sf c))):dL c B G d s x n t M E a J (g++[p]) ⟨m++[N],r,z⟩:=by
 have K:aA (g++[p])=aA (g++[v]):=s_;have C:aA (g++[p])=aA g+1:=s_;have o:∀u:j_,bF c x n a (g++[u])=(x::n::(a.ownBlock.toList++dD c g))++(u.sf c):=(by grind[bF,dD]);have j:=h.nodup;have q:=h.lt;have l:=h.apart;rw[o]at j q l;generalize P:(x::n::(a.ownBlock.toList++dD c g))=i at j q l o;have ⟨hn1,hn2,hn3⟩:=jl.1 j;have ab:∀k∈i,k<H_ w/\k∉(v.sf c):=(by grind);have I:x∈i:=G_;have y:n∈i:=G_;have X:x≠n:=by grind
 have hFk:=λb V=>by have ⟨h1,h2⟩:=l b V;exact hc b h1 (λe=>h2 (List.mem_append_left _ (by rw[e];exact y))) λhv=>h2 (jk _ hv)
 have S:∀u∈g,∀k∈(u.sf c),k∈i/\k≠n:=λu hu k H=>by have T:k∈dD c g:=(by grind[dD]);grind
 have D:∀k,a.ownBlock=Wy k->k∈i/\k≠n:=λk H=>by grind
 refine⟨?_,G_,?_,h.tape.h_ hFk L,bE h.out λk H=>?_,?_,?_,?_⟩;grind[dL.i_];have ⟨vs',u,e,k1,k2⟩:=lS.vd h.wb;obtain⟨rfl,e2⟩:=fw e rfl;exact(k1.h_ hFk L G_).snoc A;grind;grind;grind;grind
structure Kept(own:List Nat)(w w':aN):Prop where
 os:w'.os=w.os
 tape:w'.tape=w.tape
 output:w'.output=w.output
 size:w.heap.size<=w'.heap.size
 block:∀k,k<w.heap.size->k∉own->w'.heap[k]?=w.heap[k]?
structure uj(F G:bL)(n:Nat):Prop where
 sub:∀k,F k->G k
 new:∀k,G k->F k\/n<=k
theorem uj.refl(F:bL)(n:Nat):uj F F n:=⟨s_,G_⟩
theorem uj.trans{F G:bL}{n m:Nat}(h:uj F G n)(k:uj G R m)(c:n<=m):uj F R n:=⟨λx a=>k.sub x (h.sub x a),λx a=>by rcases k.new x a with b|b;exact h.new x b;exact Z⟩
def uj.le{n m:Nat}(h:uj R p n)(b:m<=n):uj R p m:=⟨h.sub,λx a=>(h.new x a).imp_right (Z)⟩
def kS(sh:Bool)(fp:iJ)(F:bL)(b_ sb gf:Nat)(t0 s0:aX)(own:List Nat)(w:aN)(m:dC)(w':aN):Prop:=Kept own w w'/\∃G cap tv u_ v_,uj F G w.heap.size/\dL sh fp G b_ w' sb gf cap t0 tv u_ s0 v_ m/\∀k∈bF sh sb gf u_ v_,k∈own\/w.heap.size<=k
def ur(fp:iJ)(F:bL)(b_:Nat)(sb:Nat)(t0 s0:aX)(own:List Nat)(w:aN)(m:dC)(w':aN):Prop:=Kept own w w'/\∃G gf cap tv u_ v_,uj F G w.heap.size/\dL WD fp G b_ w' sb gf cap t0 tv u_ s0 v_ m/\∀k∈bF WD sb gf u_ v_,k∈own\/w.heap.size<=k
def kS.done{a:Nat}{d:aX}{own:List Nat}{m:dC}(h:kS WD I R a M Q J d own w m z):ur I R a M J d own w m z:=by grind[ur,kS]
def BF{j:Nat}{a:List j_}{v:j_}{x:aX}(h:w.ownsRow M 113 6 (P_ (Wy (aL Q 0)) (aA a+1) S) (aA a+1) (kP (a++[v])))(B:j<6):∃b,w.heap[Q]?=Wy (bO b 113)/\(∀i,i<6->b[aA a*6+i]?=v.cells[i]?)/\∀W:aN,W.heap[Q]?=Wy (bO (b.setIfInBounds (aA a*6+j) x) 113)->∀g:j_,g.cells=v.cells.set j x->W.ownsRow M 113 6 (P_ (Wy (aL Q 0)) (aA a+1) S) (aA a+1) (kP (a++[g])):=by
 rcases h.2 with ⟨k,_⟩|⟨z,m,b,k,s,n,o,r,y,q⟩;cases k;cases k;have f:∀u:j_,kP (a++[u])=kP a++u.cells:=(by grind[nC,kP]);have t:∀u:j_,aA u.cells=6:=λ_=>aJ;refine⟨b,n,λi A=>?_,λW p g l=>?_⟩;have:(kP (a++[v]))[aA a*6+i]?=v.cells[i]?:=by grind
 grind;refine⟨by rw[jL];simp,dz ⟨Q,S,_,rfl,s,p,o,r,G_,?_⟩⟩;rw[Array.toList_setIfInBounds,kz,q,f,f,l,List.set_append_right _ _ (by rw[jL];exact Z),jL,kk]
theorem Kept.refl(own:List Nat)(w:aN):Kept own w w:=⟨rfl,rfl,rfl,Z,s_⟩
theorem Kept.trans{own d:List Nat}{a b c:aN}(h:Kept own a b)(k:Kept d b c)(g:∀x∈d,x∈own\/a.heap.size<=x):Kept own a c:=⟨k.os.trans h.os,k.tape.trans h.tape,k.output.trans h.output,em h.size k.size,λx e f=>by rw[k.block x (eh e h.size) (G_),h.block x e f]⟩
theorem Kept.p_{own:List Nat}(h:R_ w z):Kept own w z:=⟨h.os,h.tape,h.output,h.size,λk b _=>h.block k b⟩
def dL.grow{G:bL}{c:Nat}{o:Nat}{a:aX}{d:List j_}{m:dC}(h:dL L I R c w o M Q J T a V d m)(u:R_ w z)(s:∀k,R k->G k)(x:∀k,G k->R k\/(w.heap.size<=k/\k<z.heap.size)):dL L I G c z o M Q J T a V d m:=by have hFk:=λb n=>u.block b (h.apart b n).1;have j:∀k,k∈bF L o M a d->z.heap[k]?=w.heap[k]?:=(by grind[ef,dL.lt]);refine⟨by grind[bF,dL.i_],bE h.row λk i=>?_,h.wb.h_ hFk s λv y k i=>j k ?_,h.tape.h_ hFk s,bE h.out qd,h.nodup,(by grind[dL.lt]),λk i=>?_⟩;cases i;grind[bF];grind[dD,bF];grind[dL.apart]
def TX(Y_:d:=by have:=(eu.1 (eu.1 h.nodup).2).1;grind[dD]):d:=Y_
def dL.xt{n:Bool}{c:Nat}{p:aN}{C o z:Nat}{M d L:aX}{s:List j_}{v:j_}{l:List aI}{q:List Int}{y:cY}{cur:Array Xa}{g u:aX} (h:dL n I R c w C o z M J d L (s++[v]) ⟨l++[f],q,y⟩) (N:w.heap[o]?=Wy (bO cur 113)) (D:iH R w E f.ops) (X:PV R w u a) (Q:aK a<=200) (W:p.heap[o]?=Wy (bO (cur.setIfInBounds (aA s*6+5) g) 113)) (p2:p.ownsRow c 265 1 g (aA f.ops+1) (E++[u])) (p3:∀k,g.ownBlock=Wy k->v.ov.ownBlock=Wy k\/H_ w<=k) (t:Bh o v.ov.ownBlock w p):dL n I R c p C o z M J d L (s++[{v with ov:=g}]) ⟨l++[f.push a],q,y⟩/\Kept (bF n C o d (s++[v])) w p:=by
 have ⟨vs',v0,e,hfb,hv⟩:=lS.vd h.wb;obtain⟨rfl,V⟩:=fw e rfl;cases V;have r:=h.row;rw[show aA (s++[v])=aA s+1 by simp]at r;have ⟨cur',c1,_,c3⟩:=BF (j:=5) (x:=g) r Z;obtain rfl:cur'=cur:=G_;have T:∀k∈(v.sf n),k∈bF n C o d (s++[v]):=(by grind[bF,dD]);have aa:o∉(v.sf n):=λhm=>by exact TX
 have S:(v.sf n).Nodup:=by grind[dL.nodup,bF,dD]
 have m:∀b,R b->p.heap[b]?=w.heap[b]?:=(by grind[dL.apart,Bh.block,bF,j_.sf]);have A:∀k,k<H_ w->k≠o->k∉(v.sf n)->p.heap[k]?=w.heap[k]?:=(by grind[Bh.block,j_.sf]);have H:∀k,n=WD->v.vv.ownBlock=Wy k->k<H_ w/\k≠o/\v.ov.ownBlock≠Wy k:=λk P K=>by
  have hm:k∈(v.sf n):=by simp[j_.sf,P,K]
  grind[dL.lt,j_.sf]
 refine⟨h.step (G:=R) t.size A (c3 p W _ aJ) ?_ ?_ ?_ (s_) (G_),?_⟩;refine⟨hv.fn.h_ m s_,hv.nx,hv.ln,gX.h_ m (s_) hv.sp,hv.g_.h_ m (s_) λP k K=>?_,⟨E++[u],?_,?_⟩,?_⟩;grind[Bh.block];show p.ownsRow c 265 1 g (aA (f.ops++[a])) _;grind;exact(D.h_ m).append ⟨aJ,λi hi=>by obtain rfl:i=0:=G_;exact⟨u,aJ,X.h_ m⟩⟩;intro b B;rcases fm.1 B with B|B;exact hv.ops.2 b B;grind;grind[Nat.lt_of_lt_of_le,Bh.size,j_.sf,eI];grind[j_.sf];exact⟨t.os,t.tape,t.output,t.size,qd⟩
structure bZ(w w':aN):Prop where
 os:w'.os=w.os
 tape:w'.tape=w.tape
 output:w'.output=w.output
 heap:w'.heap=w.heap
abbrev pV(w0:aN)(sb fa fj:Nat):Prop:=∀W,bZ w0 W->W_ Xi 153 #[aY sb] W λe w'=>e=bR (Xo (Wy (aL fa fj)))/\bZ w0 w'
abbrev AK(w0:aN)(fa fj:Nat)(Q:Xd->Xa->Xb->Prop):Prop:=∀W,bZ w0 W->W_ Xi 183 #[Xo (Wy (aL fa fj))] W λe w'=>∃t z,e=bR (Xq t z)/\Q t z w'
theorem bZ.refl(w:aN):bZ w w:=⟨rfl,rfl,rfl,rfl⟩
theorem bZ.drewN(w:aN)(n:Nat):bZ w (w.drewN n):=⟨rfl,rfl,rfl,rfl⟩
theorem bZ.drew(w:aN):bZ w w.drew:=⟨rfl,rfl,rfl,rfl⟩
theorem bZ.trans{a b c:aN}(h:bZ a b)(k:bZ b c):bZ a c:=⟨k.os.trans h.os,k.tape.trans h.tape,k.output.trans h.output,k.heap.trans h.heap⟩
theorem bZ.below{a:aN}(h:bZ w a):R_ w a:=⟨h.os,h.tape,h.output,pi,λk _=>by rw[h.heap]⟩
def dL.top{e:Nat}{u:aX}{m:List j_}{c:List aI}(h:dL L I R M w Q S e J u T V m ⟨c++[f],N,P⟩):∃b v a,m=b++[v]/\b.length=c.length/\TR L I R M w v f/\w.heap[Q]?=some (.cells #[J,.slice (some (aL S 0)) (b.length+1) e,u,T,V] 55)/\w.heap[S]?=some (.cells a 113)/\b.length+1<=e/\a[b.length*6]?=some v.fp/\a[b.length*6+1]?=some v.nx/\a[b.length*6+2]?=some v.ln/\a[b.length*6+3]?=some v.sp/\a[b.length*6+4]?=some v.vv/\a[b.length*6+5]?=some v.ov:=by
 obtain⟨b,v,rfl,C,B⟩:=lS.vd h.wb;have d:=h.row;have i:=h.i_;rw[show (b++[v]).length=b.length+1 by simp]at d i;have ⟨a,c1,c2,_⟩:=BF (j:=0) (x:=undef) d Z;have l:b.length+1<=e:=by
  rcases d.2 with ⟨q,_⟩|⟨G,s,a,q,H,D,E,_⟩;.cases q
  grind
 exact⟨b,v,a,aJ,C.length,B,i,c1,l,c2 0 Z,c2 1 Z,c2 2 Z,c2 3 Z,c2 4 Z,c2 5 Z⟩
theorem eN(h:z.heap=w.heap){a:Addr}(b:I_ w a=Wy J):I_ z a=Wy J:=by grind[World.cell?_of_block]
def VZ(w c:aN)(j g i:Nat)(t:Xd)(z:aX)(P:lA)(d:i9 w (bO #[dI t z] 267)=c) (o:Xg (pV c j g i)) (n:Xg (∀W,bZ c W->W_ Xi 343 #[Xo (Wy (aL g i)),dI t z] W λe w'=>e=fA/\P w')):W_ Xi 342 #[Xn #[dI t z],aY j] w λe w'=>e=fA/\P w':=by have a:(i9 w (bO #[dI t z] 267)).heap[w.heap.size]?=Wy (bO #[dI t z] 267):=aV _ _ aJ _;rw[d]at a;have l:=O d;have m:=aB (i:=0) a aJ;have f:=O m;clear d a;go_in;go_wp;rw[l];go_region_law (go_simp;first|(apply (o _ (bZ.drew _)).mono;rintro e p ⟨rfl,b⟩;have q:=eN b.heap f)|(apply (n _ b).mono;rintro e r ⟨rfl,k⟩));all_goals go_end0;grind
def J2{j:Bool}(D:iJ)(F:bL)(d:Nat)(w:aN)(i g q:Nat)(J M b I:aX)(x:List j_)(c:List aI)(f:aI)(m:List Int)(p:cY)(u:aX)(a:aE) (h:dL j D F d w i g q J M b I x ⟨c++[f],m,p⟩) (Q:PV F w u a) (C:aK a<=200) (L:aA f.ops<=100000) (S:aA c<=15) (G:d<=w.heap.size):W_ Xi 342 #[Xn #[u],aY i] w λe w'=>e=fA/\kS j D F d i g J I (bF j i g b x) w ⟨c++[f.push a],m,p⟩ w':=by
 obtain⟨t,z,rfl⟩:=Q.form;have n:R_ w (eF w #[dI t z] 267):=(by grind[eo,dv]);have N:(eF w #[dI t z] 267).heap[w.heap.size]?=Wy (bO #[dI t z] 267):=aV _ _ aJ _;have E:=h.grow n (s_) (λ_ h=>ea h);have K:=Q.h_ λk H=>n.block k (h.apart k H).1;generalize hW:eF w #[dI t z] 267=B at*;have HW:=O hW;obtain⟨l,v,cur,rfl,ac,hv,T,o,P,k0,k1,k2,k3,k4,k5⟩:=E.top;have ⟨⟨xs,hown,hxs⟩,hc200⟩:=hv.ops;have A:v.ov.ownBlock≠Wy g:=λe=>by have:=(eu.1 (eu.1 E.nodup).2).1;grind[dD,j_.sf]
 have HT:Xg (pV B i g (aA l*6)):=λW r=>by apply (AS i g (aA l) q W ((by grind[bZ.heap,aB])) Z).mono;grind[bZ.trans,bZ.drewN]
 have HP:Xg (∀W,bZ B W->W_ Xi 343 #[Xo (Wy (aL g (aA l*6))),dI t z] W λe w'=>e=fA/\kS j D F d i g J I (bF j i g b (l++[v])) w ⟨c++[f.push a],m,p⟩ w'):=λW r=>by
  have s:=r.below;have hR:=E.grow s (s_) (λ_ h=>ea h);apply (DW d g (aA l*6) (aA f.ops) cur v.ov xs t z W (by rw[r.heap];exact o) k5 ((by grind[bE,bZ.heap])) A pi Z).mono;rintro e w' ⟨he,y,p1,p2,V,X⟩;have ⟨q1,q2⟩:=hR.xt (cur:=cur) (by rw[r.heap];exact o) (hxs.h_ λk _=>by rw[r.heap]) (K.h_ λk _=>by rw[r.heap]) C p1 p2 V X;have H:=(Kept.p_ (own:=bF j i g b (l++[v])) (n.trans (s.mono n.size))).trans q2 G_;refine⟨he,H,F,q,M,b,_,uj.refl _ _,q1,λk aa=>?_⟩;have ab:W.heap.size=B.heap.size:=by rw[r.heap]
  have h1:bF j i g b (l++[{v with ov:=y}])=(i::g::(b.ownBlock.toList++dD j l))++({v with ov:=y}:j_).sf j:=by simp[bF,dD]
  have h2:bF j i g b (l++[v])=(i::g::(b.ownBlock.toList++dD j l))++(v.sf j):=by simp[bF,dD]
  grind[j_.sf]
 clear hown hxs hc200 A;exact VZ w B i g (aA l*6) t z _ HW HT HP
def iH.split{m:List aE}(h:iH R w E (g++m)):∃b c,E=b++c/\aA b=aA g/\aA c=aA m/\iH R w b g/\iH R w c m:=by have ⟨h1,h2⟩:=h;refine⟨E.take (aA g),E.drop (aA g),s_,G_,G_,⟨G_,λi d=>?_⟩,⟨G_,λi d=>?_⟩⟩;have ⟨u,e1,e2⟩:=h2 i G_;grind;have ⟨u,e1,e2⟩:=h2 (aA g+i) G_;grind
def iH.vd(h:iH R w E (g++[a])):∃b u,E=b++[u]/\aA b=aA g/\iH R w b g/\PV R w u a:=by have ⟨b,zs,e,h1,h2,h3,h4⟩:=h.split;match zs,h2 with|[u],_=>have ⟨u',e1,e2⟩:=h4.2 0 s_;grind
def dL.wv{t:iJ}{p:Nat}{a z:aX}{l:List j_}{v v':j_}{d:List aI}{B:aI}{j:Nat}{x:aX} (h:dL L t R M w Q S p T V a z (l++[v]) ⟨d++[f],N,P⟩) (J:j<6) (E:v'.cells=v.cells.set j x) (I:(v'.sf L)=(v.sf L)) (s:TR L t R M w v' B):dL L t R M (c9 w (aL S (aA l*6+j)) x) Q S p T V a z (l++[v']) ⟨d++[B],N,P⟩/\Kept (bF L Q S a (l++[v])) w (c9 w (aL S (aA l*6+j)) x):=by
 have n:=h.row;rw[show aA (l++[v])=aA l+1 by simp]at n;have ⟨cur,c1,_,c3⟩:=BF (j:=j) (x:=x) n J;have u:∀k∈(v.sf L),k∈bF L Q S a (l++[v]):=(by grind[bF,dD]);have K:S∉(v.sf L):=λq=>by exact TX
 have C:(v.sf L).Nodup:=by grind[dL.nodup,bF,dD]
 have H:∀k,k≠S->(c9 w (aL S (aA l*6+j)) x).heap[k]?=w.heap[k]?:=(by grind[ej]);have hFk:=λb D=>H b λe=>(h.apart b D).2 nh;refine⟨h.step (G:=R) s_ (G_) ((by grind[aP])) (s.h_ hFk (s_) G_) (λk q=>?_) G_ (s_) (G_),⟨rfl,rfl,rfl,s_,qd⟩⟩;rw[I]at q;exact⟨eh (h.lt k (u k q)) s_,ea q⟩
def eK(sh:Bool)(fp:iJ)(b_ sb gf n:Nat)(t0 s0:aX)(own:List Nat)(w0:aN)(G:bL)(m:dC)(w:aN):Prop:=Kept own w0 w/\b_<=w.heap.size/\∃cap tv u_ v_,aA v_=n+1/\dL sh fp G b_ w sb gf cap t0 tv u_ s0 v_ m/\∀k∈bF sh sb gf u_ v_,k∈own\/w0.heap.size<=k
section
variable {sh:Bool} {fp:iJ} {b_ sb gf n:Nat} {t0 s0:aX} {own:List Nat} {w0 w w':aN} {G G':bL} {m:dC} {below:List aI} {f f':aI} {tape:List Int} {out:cY}
def eK.init{c:Nat}{d a:aX}{b:List j_}(h:dL sh fp G b_ w sb gf c t0 d a s0 b m)(f:aA b=n+1)(e:b_<=H_ w)(ob:Obj):eK sh fp b_ sb gf n t0 s0 (bF sh sb gf a b) (w.alloc ob) G m (w.alloc ob):=⟨Kept.refl _ _,em e s_,c,d,a,b,f,h.grow (mn) (s_) (G_),G_⟩
theorem eK.same(h:eK sh fp b_ sb gf n t0 s0 own w0 G m w)(a:bZ w w'):eK sh fp b_ sb gf n t0 s0 own w0 G m w':=by have ⟨h1,h2,cap,tv,u_,v_,h3,h4,h5⟩:=h;exact⟨h1.trans (Kept.p_ (own:=[]) a.below) (s_),by rw[a.heap];exact h2,cap,tv,u_,v_,h3,h4.grow a.below (s_) (G_),h5⟩
theorem eK.grow(h:eK sh fp b_ sb gf n t0 s0 own w0 G m w)(a:R_ w w')(c:∀k,G k->G' k)(b:∀k,G' k->G k\/(w.heap.size<=k/\k<w'.heap.size)):eK sh fp b_ sb gf n t0 s0 own w0 G' m w':=by have ⟨h1,h2,cap,tv,u_,v_,h3,h4,h5⟩:=h;exact⟨h1.trans (Kept.p_ (own:=[]) a) (s_),em h2 a.size,cap,tv,u_,v_,h3,h4.grow a c b,h5⟩
def eK.wg(h:eK sh fp b_ sb gf n t0 s0 own w0 G m w){k:Nat}(a:k<H_ w0)(b:k∉own):w.heap[k]?=w0.heap[k]?:=h.1.block k a b
theorem eK.um{F:bL}{ob:Obj}(h:eK sh fp b_ sb gf n t0 s0 own (w.alloc ob) G m w')(b:uj F G w.heap.size):kS sh fp F b_ sb gf t0 s0 own w m w':=by have ⟨h1,h2,cap,tv,u_,v_,h3,h4,h5⟩:=h;exact⟨(Kept.p_ (own:=own) (mn)).trans h1 (G_),G,cap,tv,u_,v_,b,h4,λk a=>by rcases h5 k a with h|h;grind;exact dz (em s_ h)⟩
theorem eK.done{F:bL}{ob:Obj}(h:eK WD fp b_ sb gf n t0 s0 own (w.alloc ob) G m w')(a:uj F G w.heap.size):ur fp F b_ sb t0 s0 own w m w':=(h.um a).done
def eK.top(h:eK sh fp b_ sb gf n t0 s0 own w0 G m w)(a:n<=15):W_ Xi 153 #[aY sb] w λe w'=>e=bR (Xo (Wy (aL gf (n*6))))/\bZ w w':=by have ⟨h1,h2,cap,tv,u_,v_,h3,h4,h5⟩:=h;have:=h4.i_;rw[h3]at this;apply (AS sb gf n cap w (aB this aJ) Z).mono;grind[bZ.drewN]
def eK.cells(h:eK sh fp b_ sb gf n t0 s0 own w0 G ⟨below++[f],tape,out⟩ w):∃v:j_,TR sh fp G b_ w v f/\gf<w.heap.size/\∀j x,v.cells[j]?=Wy x->I_ w (aL gf (n*6+j))=Wy x/\w.frozen? (aL gf (n*6+j))=WD:=by have ⟨h1,h2,cap,tv,u_,v_,h3,h4,h5⟩:=h;obtain⟨p,v,m,rfl,o,r,e,a,c,k,g,q,i,s,l⟩:=h4.top;have b:aA p=n:=G_;subst b;refine⟨v,r,G_,λj x d=>?_⟩;have hj:=(ik.1 d).1;refine⟨aB a ?_,aF a⟩;rw[<-d];match j,hj with|0,_=>exact k|1,_=>exact g|2,_=>exact q|3,_=>exact i|4,_=>exact s|5,_=>exact l
def eK.set(h:eK sh fp b_ sb gf n t0 s0 own w0 G ⟨below++[f],tape,out⟩ w)(j:Nat)(x:aX)(e:j<6)(g:j_->j_)(k:∀v,(g v).cells=v.cells.set j x)(d:∀v,TR sh fp G b_ w v f->(g v).sf sh=(v.sf sh))(a:∀v,TR sh fp G b_ w v f->TR sh fp G b_ w (g v) f'):eK sh fp b_ sb gf n t0 s0 own w0 G ⟨below++[f'],tape,out⟩ (c9 w (aL gf (n*6+j)) x):=by have ⟨h1,h2,cap,tv,u_,v_,h3,h4,h5⟩:=h;obtain⟨l,v,c,rfl,i,b,_⟩:=h4.top;have ⟨q1,q2⟩:=h4.wv e (k v) (d v b) (a v b);grind[Kept.trans,Nat.le_trans,Kept.size,bF,dD,eK]
def Jk{Z_:Prop}(Y_:Z_:=by rcases fm.1 hk' with h3|h3;grind;rcases fm.1 h3 with h3|h3;grind[j_.sf];have h4:ov'.ownBlock=Wy k:=G_;rcases p3 k h4 with h6|h6;grind[j_.sf];exact dz (em h1.size h6)):Z_:=Y_
def eK.push(h:eK sh fp b_ sb gf n t0 s0 own w0 G ⟨below++[f],tape,out⟩ w){t:Xd}{z:aX}{a:aE}(D:PV G w (Xq t z) a)(l:aK a<=200)(q:aA f.ops<=100000):W_ Xi 343 #[Xo (Wy (aL gf (n*6))),Xq t z] w λe w'=>e=fA/\eK sh fp b_ sb gf n t0 s0 own w0 G ⟨below++[f.push a],tape,out⟩ w':=by
 have ⟨h1,h2,cap,tv,u_,v_,j,i,h5⟩:=h;obtain⟨d,v,cur,rfl,C,H,u,b,r,K,I,M,J,N,A⟩:=i.top;have m:aA d=n:=G_;subst m;have ⟨⟨xs,hown,hxs⟩,hc200⟩:=H.ops;have o:v.ov.ownBlock≠Wy gf:=λe=>by have:=(eu.1 (eu.1 i.nodup).2).1;grind[dD,j_.sf]
 apply (DW b_ gf (aA d*6) (aA f.ops) cur v.ov xs t z w b A hown o h2 Z).mono;rintro e w' ⟨F,c,B,y,p,x⟩;have ⟨q1,q2⟩:=i.xt (cur:=cur) b hxs D l B y p x;refine⟨F,h1.trans q2 h5,em h2 q2.size,cap,tv,u_,_,s_,q1,λk g=>?_⟩;have E:bF sh sb gf u_ (d++[{v with ov:=c}])=(sb::gf::(u_.ownBlock.toList++dD sh d))++({v with ov:=c}:j_).sf sh:=by simp[bF,dD]
 have L:bF sh sb gf u_ (d++[v])=(sb::gf::(u_.ownBlock.toList++dD sh d))++(v.sf sh):=by simp[bF,dD]
 rw[E]at g;rcases fm.1 g with j|j;grind;rcases fm.1 j with j|j;grind[j_.sf];have i:c.ownBlock=Wy k:=G_;rcases p k i with s|s;grind[j_.sf];exact dz (em h1.size s)
def eK.Cl(h:eK sh fp b_ sb gf n t0 s0 own w0 G ⟨below++[f],tape,out⟩ w){m:List aE}{a:aE}(y:f.ops=m++[a])(c:aA f.ops<=100000):W_ Xi 183 #[Xo (Wy (aL gf (n*6)))] w λe w'=>∃t z,e=bR (dI t z)/\PV G w' (dI t z) a/\aK a<=200/\eK sh fp b_ sb gf n t0 s0 own w0 G ⟨below++[f.pop],tape,out⟩ w'/\∀k,G k->w'.heap[k]?=w.heap[k]?:=by
 have ⟨h1,h2,cap,tv,u_,v_,h3,h4,h5⟩:=h;obtain⟨p,v,o,rfl,H,d,B,g,s,M,J,N,L,P,E⟩:=h4.top;have q:aA p=n:=G_;subst q;have ⟨⟨xs,hown,hxs⟩,hc200⟩:=d.ops;rw[y]at hown hxs hc200 c;obtain⟨i,u,rfl,F,r,I⟩:=iH.vd hxs;obtain⟨t,z,rfl⟩:=I.form;rw[et]at hown c;apply (YE b_ gf (aA p*6) (aA m) o v.ov i _ w g E hown F s_ Z).mono;rintro e w' ⟨rfl,b,rfl,K,C⟩;have A:f.pop.ops=m:=by simp[aI.pop,y]
 have l:TR sh fp G b_ w {v with ov:=b} f.pop:=⟨d.fn,d.nx,d.ln,d.sp,d.g_,G_,G_⟩;have ⟨q1,q2⟩:=h4.wv (j:=5) (x:=b) (v':={v with ov:=b}) Z rfl (by simp[j_.sf,C]) l;have D:∀k,G k->(c9 w (aL gf (aA p*6+5)) b).heap[k]?=w.heap[k]?:=(by grind[ej,dL.apart,bF]);grind[PV.h_,Kept.trans,Nat.le_trans,Kept.size,bF,dD,j_.sf,eK]
def eK.pop(h:eK sh fp b_ sb gf n t0 s0 own w0 G ⟨below++[f],tape,out⟩ w){vs:List aE}{a:aE}(c:f.ops=vs++[a])(b:aA f.ops<=100000):W_ Xi 183 #[Xo (Wy (aL gf (n*6)))] w λe w'=>∃t z,e=bR (Xq t z)/\PV G w' (Xq t z) a/\aK a<=200/\eK sh fp b_ sb gf n t0 s0 own w0 G ⟨below++[f.pop],tape,out⟩ w':=by apply (h.Cl c b).mono;grind
end
def Y1(k:Nat)(e:Ending):Prop:=(k=0/\e=fA)\/(k≠0/\e=jC k)
def qA(h:z.heap=w.heap)(a:M<w.heap.size):M<z.heap.size:=by rw[h];exact a
def xA(h:z.heap=w.heap){a:Addr}(b:w.frozen? a=WD):z.frozen? a=WD:=by
 have e:z.frozen? a=w.frozen? a:=by unfold World.frozen?;rw[h]
 rw[e];exact b
def YZ(w b:aN)(g c f:Nat)(P:lA)(d:i9 w (bO #[] 376)=b) (l:Xg (pV b g c f)) (k:Xg (∀W,bZ b W->W_ Xi 183 #[Xo (Wy (aL c f))] W λe w'=>∃t z,e=bR (dI t z)/\P w')):W_ Xi 360 #[Xn #[],aY g] w λe w'=>e=fA/\P w':=by have j:=O d;clear d;go_in;go_wp;rw[j];apply (l _ (bZ.refl _)).mono;rintro e m ⟨rfl,a⟩;go_wp21;refine(k _ a).mono ?_;rintro e n ⟨t,z,rfl,i⟩;go_wp2;go_end0;exact⟨aJ,i⟩
def QR(w g:aN)(n c i:Nat)(P S:lA)(l:Xd->Xa->Xb->Prop)(m:Bool->Xb->Prop)(k:i9 w (bO #[] 434)=g) (s:Xg (pV g n c i)) (r:Xg (AK g c i l)) (q:Xg (∀W t z,l t z W->W_ Xi 368 #[dI t z] W λe w'=>(∃b,e=bR (Xr b)/\m b w')\/(e=jC 2/\S w'))) (o:Xg (∀W b,m b W->W_ Xi 343 #[Xo (Wy (aL c i)),dI 321 (Xr b)] W λe w'=>e=fA/\P w')):W_ Xi 386 #[Xn #[],aY n] w λe w'=>(e=fA/\P w')\/(e=jC 2/\S w'):=by
 have p:=O k;clear k;go_in;go_wp;rw[p];apply (s _ (bZ.refl _)).mono;rintro e v ⟨rfl,f⟩;go_wp21;refine(r _ f).mono ?_;rintro e y ⟨t,z,rfl,j⟩;have a:=O (q _ t z j);clear j;go_wp21;refine a.mono ?_;rintro e x (⟨b,rfl,a⟩|⟨rfl,a⟩);.have d:=O (o _ b a);clear a;go_wp21;refine d.mono ?_;rintro e u ⟨rfl,d⟩;go_wp2;go_end0;exact ea ⟨aJ,d⟩
 go_wp;exact⟨aJ,dz ⟨aJ,a⟩⟩
def LY(w k:aN)(o c d f:Nat)(P S:lA)(n:Xd->Xa->Xb->Prop)(g:Bool->Xb->Prop)(m:i9 w (bO #[Y f] 409)=k) (y:Xg (pV k o c d)) (x:Xg (AK k c d n)) (v:Xg (∀W t z,n t z W->W_ Xi 368 #[dI t z] W λe w'=>(∃b,e=bR (Xr b)/\g b w')\/(e=jC 2/\S w'))) (p:Xg (∀W,g true W->P W)) (r:Xg (∀W,g WD W->P (c9 W (aL c (d+1)) (Y f)))) (q:Xg (∀W b,g b W->I_ W (aL w.heap.size 0)=Wy (Y f)/\w.heap.size<W.heap.size/\(∃u,I_ W (aL c (d+1))=Wy u)/\W.frozen? (aL c (d+1))=WD/\c<W.heap.size)):W_ Xi 369 #[Xn #[Y f],aY o] w λe w'=>(e=fA/\P w')\/(e=jC 2/\S w'):=by
 have s:=O m;clear m;go_in;go_wp;rw[s];apply (y _ (bZ.refl _)).mono;rintro e A ⟨rfl,j⟩;go_wp21;refine(x _ j).mono ?_;rintro e C ⟨t,z,rfl,l⟩;have a:=O (v _ t z l);clear l;go_wp21;refine a.mono ?_;rintro e B (⟨b,rfl,a⟩|⟨rfl,a⟩);.have ⟨c1,c2,⟨u,c3⟩,c4,c5⟩:=q _ b a;cases b with|false=>have i:=O (r _ a);clear a;go_wp2;go_end0;exact ea ⟨aJ,i⟩|true=>have i:=O (p _ a);clear a;go_wp2;go_end0;exact ea ⟨aJ,i⟩
 go_wp;exact⟨aJ,dz ⟨aJ,a⟩⟩
def XQ(w c:aN)(n f g d:Nat)(P:lA)(k:i9 w (bO #[Y d] 410)=c) (y:Xg (pV c n f g)) (i:∃u,I_ c (aL f (g+1))=Wy u) (m:c.frozen? (aL f (g+1))=WD) (r:f<c.heap.size) (s:Xg (∀W,bZ c W->P (c9 W (aL f (g+1)) (Y d)))):W_ Xi 370 #[Xn #[Y d],aY n] w λe w'=>e=fA/\P w':=by have a:(i9 w (bO #[Y d] 410)).heap[w.heap.size]?=Wy (bO #[Y d] 410):=aV _ _ aJ _;rw[k]at a;have t:=O k;have x:=aB (i:=0) a aJ;have l:=O x;have j:=aH a;have ⟨u,i⟩:=i;have q:=O i;have o:=O m;clear k a i m;go_in;go_wp;rw[t];go_region_law (go_simp;go_at_call 153;apply (y _ (bZ.drew _)).mono;rintro e z ⟨rfl,b⟩;have A:=eN b.heap l;have B:=eN b.heap q;have C:=xA b.heap o;have v:=qA b.heap j;have p:=qA b.heap r);all_goals go_wp2;go_end0;exact⟨aJ,s _ b⟩
def GD(w n:aN)(x f g j:Nat)(d:Bool)(P S:lA)(v:Xd->Xa->Xb->Prop)(k l:Bool->Xb->Prop)(q:i9 w (bO #[Xr d,Y j] 436)=n)
 (G:Xg (pV n x f g))
 (F:Xg (AK n f g v))
 (E:Xg (∀W t z,v t z W->W_ Xi 368 #[dI t z] W λe w'=>(∃b,e=bR (Xr b)/\k b w')\/(e=jC 2/\S w')))
 (C:Xg (∀W b,k b W->W_ Xi 343 #[Xo (Wy (aL f g)),dI 321 (Xr b)] W λe w'=>e=fA/\l b w'))
 (A:Xg (∀W b,k b W->b≠d->P W)) (s:Xg (∀W b,l b W->b=d->P (c9 W (aL f (g+1)) (Y j))))
 (o:Xg (∀W b,k b W->I_ W (aL w.heap.size 0)=Wy (Xr d)/\w.heap.size<W.heap.size))
 (r:Xg (∀W b,l b W->I_ W (aL w.heap.size 1)=Wy (Y j)/\w.heap.size<W.heap.size/\(∃u,I_ W (aL f (g+1))=Wy u)/\W.frozen? (aL f (g+1))=WD/\f<W.heap.size)):
 W_ Xi 387 #[Xn #[Xr d,Y j],aY x] w λe w'=>(e=fA/\P w')\/(e=jC 2/\S w'):=by
 have D:=O q;clear q;go_in
 go_wp
 rw[D];apply (G _ (bZ.refl _)).mono
 rintro e H ⟨rfl,m⟩;go_wp21
 refine(F _ m).mono ?_;rintro e J ⟨t,z,rfl,p⟩;have c:=O (E _ t z p);clear p;go_wp21
 refine c.mono ?_;rintro e I (⟨b,rfl,c⟩|⟨rfl,c⟩)
 .have ⟨c1,c2⟩:=o _ b c;by_cases i:b=d
  .subst i;have a:=O (C _ b c);clear c;cases b with
   |true=>
    go_wp21
    refine a.mono ?_;rintro e y ⟨rfl,a⟩;have ⟨d1,d2,⟨u,d3⟩,d4,d5⟩:=r _ _ a;have B:=O (s _ _ a aJ);clear a;go_wp2
    go_end0;grind [dw]
   |false=>
    go_wp21
    refine a.mono ?_;rintro e y ⟨rfl,a⟩;have ⟨d1,d2,⟨u,d3⟩,d4,d5⟩:=r _ _ a;have B:=O (s _ _ a aJ);clear a;go_wp2
    go_end0;grind [dw]
  have a:=O (A _ b c i);clear c;cases b<;>cases d<;>first|exact ep aJ i|(clear i;go_wp2;go_end0;grind [dw])
 go_wp
 exact⟨aJ,G_⟩
def Jz(Y_:d:=by have h7:=O (HU _ _ _ h6);clear h6;go_wp2_with fail;refine sa h7 λw5 h8=>?_;go_wp2;go_end0;grind):d:=Y_
def NP(w m:aN)(v c f:Nat)(d:bQ)(k:Nat)(P S:lA)(u:Xd->Xa->Xb->Prop)(p:Xd->Xa->Xd->Xa->Xb->Prop)(r:Xd->Xa->Xb->Prop)(s:i9 w (bO #[Q_ (bs d)] 433)=m) (G:Xg (pV m v c f)) (F:Xg (AK m c f u)) (o:Xg (∀W t z,u t z W->W_ Xi 183 #[Xo (Wy (aL c f))] W λe w'=>∃a b,e=bR (dI a b)/\p t z a b w')) (x:Xg (∀W t z a b,p t z a b W->I_ W (aL w.heap.size 0)=Wy (Q_ (bs d))/\w.heap.size<W.heap.size)) (E:Xg (∀W t z a b,p t z a b W->W_ Xi 378 #[Q_ (bs d),dI a b,dI t z] W λe w'=>(∃j i,e=bR (dI j i)/\r j i w')\/(e=jC k/\S w'))) (C:Xg (∀W t z,r t z W->W_ Xi 343 #[Xo (Wy (aL c f)),dI t z] W λe w'=>e=fA/\P w')):W_ Xi 377 #[Xn #[Q_ (bs d)],aY v] w λe w'=>(e=fA/\P w')\/(e=jC k/\S w'):=by
 have D:=O s;clear s;go_in;go_wp;rw[D];apply (G _ (bZ.refl _)).mono;rintro e I ⟨rfl,l⟩;go_wp21;refine(F _ l).mono ?_;rintro e L ⟨t,z,rfl,q⟩;have B:=O (o _ t z q);clear q;go_wp21;refine B.mono ?_;rintro e J ⟨a,b,rfl,g⟩;have ⟨c1,c2⟩:=x _ _ _ _ _ g;have A:=O (E _ _ _ _ _ g);clear g;go_wp21;refine A.mono ?_;rintro e H (⟨j,i,rfl,n⟩|⟨rfl,n⟩);.have y:=O (C _ _ _ n);clear n;go_wp21;refine y.mono ?_;rintro e M ⟨rfl,K⟩;go_wp2;go_end0;grind
 go_wp;exact⟨aJ,G_⟩
def SJ(w j:aN)(u c d:Nat)(k:Nat)(P S:lA)(r:Xd->Xa->Xb->Prop)(s:Xd->Xa->Xd->Xa->Xb->Prop)(o:Xd->Xa->Xb->Prop)(p:i9 w (bO #[] 402)=j) (E:Xg (pV j u c d)) (D:Xg (AK j c d r)) (m:Xg (∀W t z,r t z W->W_ Xi 183 #[Xo (Wy (aL c d))] W λe w'=>∃a b,e=bR (dI a b)/\s t z a b w')) (C:Xg (∀W t z a b,s t z a b W->W_ Xi 365 #[dI a b,dI t z] W λe w'=>(∃g f,e=bR (dI g f)/\o g f w')\/(e=jC k/\S w'))) (A:Xg (∀W t z,o t z W->W_ Xi 343 #[Xo (Wy (aL c d)),dI t z] W λe w'=>e=fA/\P w')):W_ Xi 364 #[Xn #[],aY u] w λe w'=>(e=fA/\P w')\/(e=jC k/\S w'):=by
 have B:=O p;clear p;go_in;go_wp;rw[B];apply (E _ (bZ.refl _)).mono;rintro e G ⟨rfl,i⟩;go_wp21;refine(D _ i).mono ?_;rintro e J ⟨t,z,rfl,n⟩;have y:=O (m _ t z n);clear n;go_wp21;refine y.mono ?_;rintro e H ⟨a,b,rfl,q⟩;have x:=O (C _ _ _ _ _ q);clear q;go_wp21;refine x.mono ?_;rintro e F (⟨g,f,rfl,l⟩|⟨rfl,l⟩);.have v:=O (A _ _ _ l);clear l;go_wp21;refine v.mono ?_;rintro e K ⟨rfl,I⟩;go_wp2;go_end0;grind
 go_wp;exact⟨aJ,G_⟩
def MU(w f:aN)(n a g:Nat)(k:Nat)(P S:lA)(l i:Xd->Xa->Xb->Prop)(j:i9 w (bO #[] 411)=f) (x:Xg (pV f n a g)) (v:Xg (AK f a g l)) (u:Xg (∀W t z,l t z W->W_ Xi 372 #[dI t z] W λe w'=>(∃c b,e=bR (dI c b)/\i c b w')\/(e=jC k/\S w'))) (r:Xg (∀W t z,i t z W->W_ Xi 343 #[Xo (Wy (aL a g)),dI t z] W λe w'=>e=fA/\P w')):W_ Xi 371 #[Xn #[],aY n] w λe w'=>(e=fA/\P w')\/(e=jC k/\S w'):=by
 have s:=O j;clear j;go_in;go_wp;rw[s];apply (x _ (bZ.refl _)).mono;rintro e A ⟨rfl,d⟩;go_wp21;refine(v _ d).mono ?_;rintro e C ⟨t,z,rfl,o⟩;have q:=O (u _ t z o);go_wp21;refine q.mono ?_;rintro e y (⟨c,b,rfl,m⟩|⟨rfl,m⟩);.have p:=O (r _ _ _ m);go_wp21;refine p.mono ?_;rintro e D ⟨rfl,B⟩;go_wp2;go_end0;grind
 exact⟨aJ,G_⟩
def XG(w n:aN)(u g p c:Nat)(k:Nat)(P S:lA)(s:Option Addr->Nat->Xb->Prop)(r:Xd->Xa->Xb->Prop)(j:i9 w (.cells #[Y c] 401)=n) (D:Xg (pV n u g p)) (C:Xg (∀W,bZ n W->W_ Xi 352 #[Xo (Wy (aL g p)),Y c] W λe w'=>∃x d,e=bR (Xl x c d)/\s x d w')) (B:Xg (∀W x d,s x d W->W_ Xi 363 #[Xl x c d] W λe w'=>(∃m l,e=bR (Xq m l)/\r m l w')\/(e=jC k/\S w'))) (HU:Xg (∀W t z,r t z W->W_ Xi 343 #[Xo (Wy (aL g p)),Xq t z] W λe w'=>e=fA/\P w')):W_ Xi 362 #[Xn #[Y c],aY u] w λe w'=>(e=fA/\P w')\/(e=jC k/\S w'):=by have a:(i9 w (.cells #[Y c] 401)).heap[w.heap.size]?=Wy (.cells #[Y c] 401):=aV _ _ aJ _;rw[j]at a;have y:=O j;have o:=O (aB (i:=0) a aJ);have f:=aH a;clear j a;go_in;go_wp;rw[y];refine sa (D _ (bZ.refl _)) λF b=>?_;have G:=eN b.heap o;have A:=qA b.heap f;go_wp2_with fail;apply (C _ b).mono;rintro e H ⟨x,d,rfl,q⟩;have v:=O (B _ x d q);clear q;go_wp21;apply v.mono;rintro e E (⟨m,l,rfl,h6⟩|⟨rfl,h6⟩);exact Jz;go_wp;exact⟨aJ,G_⟩
def Y7{P:Program}{b:Array Oper}{o:Oper}{a:Act}{K:Act->Xb->Prop}{Q:Exit->Act->Xb->Prop}(c:aX) (h:if Region.wanted o (yielded b a.tmps)=true then Oper.wp P o a w K Q else d) (_d:Xg False->K (a.put o.dst c) w):if Region.wanted o (yielded b a.tmps)=true then Oper.wp P o a w K Q else d:=h
def D6(w m:aN)(s g p:Nat)(d:bQ)(P:lA)(n r:Xd->Xa->Xb->Prop)(j:i9 w (bO #[Q_ (bs d)] 404)=m) (D:Xg (pV m s g p)) (C:Xg (AK m g p n)) (u:Xg (∀W t z,n t z W->I_ W (aL w.heap.size 0)=Wy (Q_ (bs d))/\w.heap.size<W.heap.size)) (B:Xg (∀W t z,n t z W->W_ Xi 367 #[Q_ (bs d),dI t z] W λe w'=>∃l k,e=bR (dI l k)/\r l k w')) (x:Xg (∀W t z,r t z W->W_ Xi 343 #[Xo (Wy (aL g p)),dI t z] W λe w'=>e=fA/\P w')):W_ Xi 366 #[Xn #[Q_ (bs d)],aY s] w λe w'=>e=fA/\P w':=by have a:(i9 w (bO #[Q_ (bs d)] 404)).heap[w.heap.size]?=Wy (bO #[Q_ (bs d)] 404):=aV _ _ aJ _;rw[j]at a;have y:=O j;have o:=O (aB (i:=0) a aJ);have f:=aH a;clear j a;go_in;go_wp;rw[y];apply (D _ (bZ.refl _)).mono;rintro e F ⟨rfl,b⟩;have J:=eN b.heap o;have A:=qA b.heap f;go_wp2;go_region_law (go_simp;first|(go_at_call 183;apply (C _ (b.trans (bZ.drew _))).mono;rintro e L ⟨t,z,rfl,q⟩;have c:=u _ _ _ q;have G:=c.1;have K:=c.2;clear c)|(go_at_call 367;apply (B _ _ _ q).mono;rintro e H ⟨l,k,rfl,v⟩)|(go_at_call 343;apply (x _ _ _ v).mono;rintro e E ⟨rfl,I⟩));all_goals go_wp2;go_end0;grind
def QP(w m:aN)(s q r:Nat)(f:bQ)(k:Nat)(S:lA)(n:Xd->Xa->Xb->Prop)(l:i9 w (bO #[Q_ (bs f)] 404)=m) (C:Xg (pV m s q r)) (B:Xg (AK m q r n)) (u:Xg (∀W t z,n t z W->I_ W (aL w.heap.size 0)=Wy (Q_ (bs f))/\w.heap.size<W.heap.size)) (A:Xg (∀W t z,n t z W->W_ Xi 367 #[Q_ (bs f),dI t z] W λe w'=>e=jC k/\S w')):W_ Xi 366 #[Xn #[Q_ (bs f)],aY s] w λe w'=>e=jC k/\S w':=by have b:(i9 w (bO #[Q_ (bs f)] 404)).heap[w.heap.size]?=Wy (bO #[Q_ (bs f)] 404):=aV _ _ aJ _;rw[l]at b;have x:=O l;have o:=O (aB (i:=0) b aJ);have j:=aH b;clear l b;go_in;go_wp;rw[x];apply (C _ (bZ.refl _)).mono;rintro e D ⟨rfl,c⟩;have G:=eN c.heap o;have y:=qA c.heap j;go_wp2;go_region_law (first|(go_simp;go_at_call 183;apply (B _ (c.trans (bZ.drew _))).mono;rintro e I ⟨t,z,rfl,p⟩;have d:=u _ _ _ p;have E:=d.1;have H:=d.2;clear d)|(refine Y7 (Xq 321 (Xr true)) ?_ ?_;(focus go_simp;go_at_call 367;apply (A _ _ _ p).mono;rintro e F ⟨rfl,v⟩;exact⟨aJ,aJ,v⟩);intro a)|(apply Y7 (.tuple #[]) a.out.elim;intro g));all_goals exact a.out.elim
def XE(w d:aN)(u l q c g n o:Nat)(t:Xd)(z:aX)(P:lA)(m:i9 w (bO #[Y c] 399)=d) (C:Xg (pV d u l q)) (s:I_ d (aL l (q+4))=Wy (P_ (Wy (aL g 0)) n o)) (r:I_ d (aL g c)=Wy (dI t z)) (v:c<n) (y:Xg (∀W,bZ d W->W_ Xi 343 #[Xo (Wy (aL l q)),dI t z] W λe w'=>e=fA/\P w')):W_ Xi 361 #[Xn #[Y c],aY u] w λe w'=>e=fA/\P w':=by have a:(i9 w (bO #[Y c] 399)).heap[w.heap.size]?=Wy (bO #[Y c] 399):=aV _ _ aJ _;rw[m]at a;have A:=O m;have f:=O (aB (i:=0) a aJ);have j:=aH a;have k:=O s;have p:=O r;have K:(0:Int)<=(c:Int):=Z;have G:(c:Int)<(n:Int):=Z;clear m a s r;go_in;go_wp;rw[A];have F:=f.out;go_region_law (go_simp;first|(go_at_call 153;refine(C _ (by first|assumption|exact bZ.drew _)).mono ?_;rintro e E ⟨rfl,b⟩;have H:=eN b.heap f;have B:=qA b.heap j;have I:=eN b.heap k;have J:=eN b.heap p)|(go_at_call 343;apply (y _ b).mono;rintro e D ⟨rfl,x⟩));all_goals go_wp2;go_end0;exact⟨aJ,x⟩
def TL(w g:aN)(y f j p:Nat)(k:Option Addr)(P:lA)(r:i9 w (bO #[Y p,Xo k] 278)=g) (D:Xg (pV g y f j)) (c:∃u,I_ g (aL f (j+2))=Wy u) (d:∃u,I_ g (aL f (j+3))=Wy u) (n:g.frozen? (aL f (j+2))=WD) (m:g.frozen? (aL f (j+3))=WD) (A:f<g.heap.size) (L:Xg (∀W,bZ g W->P (c9 (c9 W (aL f (j+2)) (Y p)) (aL f (j+3)) (Xo k)))):W_ Xi 345 #[Xn #[Y p,Xo k],aY y] w λe w'=>e=fA/\P w':=by have a:(i9 w (bO #[Y p,Xo k] 278)).heap[w.heap.size]?=Wy (bO #[Y p,Xo k] 278):=aV _ _ aJ _;rw[r]at a;have B:=O r;have o:=O (aB (i:=0) a aJ);have l:=O (aB (i:=1) a aJ);have q:=aH a;have ⟨u2,c⟩:=c;have ⟨u3,d⟩:=d;have x:=O c;have s:=O d;have t:=O n;have v:=O m;have I:=o.out;have J:=l.out;clear r a c d n m;go_in;go_wp;rw[B];go_region_law (go_simp;go_at_call 153;apply (D _ (bZ.drew _)).mono;rintro e E ⟨rfl,b⟩;have K:=eN b.heap o;have H:=eN b.heap l;have F:=eN b.heap x;have G:=eN b.heap s;have N:=xA b.heap t;have M:=xA b.heap v;have C:=qA b.heap q;have z:=qA b.heap A);all_goals go_wp2;go_end0;grind[dw]
theorem uQ(n:Int):aK (bB n)=1:=r_
theorem pR(b:Bool):aK (cG b)=1:=r_
theorem oA:aK aZ<=200:=d_
def Qc(b:bQ)(a:aE):aK (dH b a).1<=200:=by
 unfold dH;repeat' split
 all_goals first|(exact Z)|grind[pR]|exact oA
theorem P5(a:bQ)(x y:Int):aK (jD a x y).1<=200:=by
 unfold jD;repeat' split
 all_goals first|(exact Z)|(grind[pR])|exact oA
theorem SG(a b:aE):aK (fZ a b).1<=200:=by grind[fZ,oA]
def Rb(c:bQ)(a b:aE):aK (dJ c a b).1<=200:=by grind[dJ,P5,SG,pR,oA]
def XI(r:aE×Nat)(h:(jH r).2=0):aK (jH r).1<=200:=by grind[jH]
theorem PV.bool{v:aX}(h:PV R w v a)(d:a.c_=1):a=cG (decide (a.n=1)):=by rcases h.cases with ⟨n,_,rfl,_⟩|⟨b,_,rfl⟩|⟨s,_,rfl⟩|⟨x,c,l,_,rfl,_⟩;simp[bB]at d;cases b<;>rfl;simp[bS]at d;simp[bG]at d
theorem nV(h:f.ops=g++[a]):f.last=a:=by simp[aI.last,h]
def BI(h:f.ops=g++[a]):f.pop.ops=g:=by simp[aI.pop,h]
def lJ(sh:Bool)(fp:iJ)(F:bL)(b_ sb gf:Nat)(t0 s0:aX)(own:List Nat)(w:aN)(below:List aI)(tape:List Int)(out:cY)(r:aI×Nat)(e:Ending)(w':aN):Prop:=Y1 r.2 e/\kS sh fp F b_ sb gf t0 s0 own w ⟨below++[r.1],tape,out⟩ w'
def Bd(fp:iJ)(F:bL)(b_ sb:Nat)(t0 s0:aX)(own:List Nat)(w:aN)(below:List aI)(tape:List Int)(out:cY)(r:aI×Nat)(e:Ending)(w':aN):Prop:=Y1 r.2 e/\ur fp F b_ sb t0 s0 own w ⟨below++[r.1],tape,out⟩ w'
section
variable {sh:Bool} {fp:iJ} {F:bL} {b_:Nat} {w:aN} {sb gf cap:Nat} {t0 tv u_ s0:aX} {v_:List j_} {below:List aI} {f:aI} {tape:List Int} {out:cY}
theorem lJ.ok{own:List Nat}{r:aI×Nat}{g:aI}{a:aN}(b:r=(g,0))(h:kS sh fp F b_ sb gf t0 s0 own w ⟨below++[g],tape,out⟩ a):lJ sh fp F b_ sb gf t0 s0 own w below tape out r (fA) a:=by subst b;exact⟨ea s_,h⟩
theorem lJ.stop{own:List Nat}{r:aI×Nat}{g:aI}{k:Nat}{a:aN}(b:r=(g,k))(c:k≠0)(h:kS sh fp F b_ sb gf t0 s0 own w ⟨below++[g],tape,out⟩ a):lJ sh fp F b_ sb gf t0 s0 own w below tape out r (jC k) a:=by subst b;exact⟨dz G_,h⟩
def lJ.Db{own:List Nat}{r:aI×Nat}{e:Ending}{a:aN}(h:lJ WD fp F b_ sb gf t0 s0 own w below tape out r e a):Bd fp F b_ sb t0 s0 own w below tape out r e a:=⟨h.1,h.2.done⟩
theorem Bd.ok{own:List Nat}{r:aI×Nat}{g:aI}{a:aN}(b:r=(g,0))(h:ur fp F b_ sb t0 s0 own w ⟨below++[g],tape,out⟩ a):Bd fp F b_ sb t0 s0 own w below tape out r (fA) a:=by subst b;exact⟨ea s_,h⟩
theorem Bd.stop{own:List Nat}{r:aI×Nat}{g:aI}{k:Nat}{a:aN}(b:r=(g,k))(c:k≠0)(h:ur fp F b_ sb t0 s0 own w ⟨below++[g],tape,out⟩ a):Bd fp F b_ sb t0 s0 own w below tape out r (jC k) a:=by subst b;exact⟨dz G_,h⟩
def dL.count{m:dC}(h:dL sh fp F b_ w sb gf cap t0 tv u_ s0 v_ m):aA v_=aA m.f_:=h.wb.length
def dL.yp(h:dL sh fp F b_ w sb gf cap t0 tv u_ s0 v_ ⟨below++[f],tape,out⟩)(a:b_<=w.heap.size)(ob:Obj):eK sh fp b_ sb gf (aA below) t0 s0 (bF sh sb gf u_ v_) (w.alloc ob) F ⟨below++[f],tape,out⟩ (w.alloc ob):=eK.init h (by rw[h.count];simp) a ob
def eK.vo{own:List Nat}{a:aN}{G:bL}{n:Nat}{m:dC}(h:eK sh fp b_ sb gf n t0 s0 own a G m a)(c:n<=15):Xg (pV a sb gf (n*6)):=λW b=>by apply ((h.same b).top c).mono;grind[bZ.trans]
theorem eK.box{n:Nat}{G:bL}{m:dC}{a:Array Xa}{b:Xd}{W:aN}(h:dL sh fp F b_ w sb gf cap t0 tv u_ s0 v_ ⟨below++[f],tape,out⟩)(d:eK sh fp b_ sb gf n t0 s0 (bF sh sb gf u_ v_) (eF w a b) G m W):W.heap[H_ w]?=Wy (bO a b):=by rw[d.wg s_ λc=>Nat.lt_irrefl _ (h.lt _ c)];exact aV _ _ aJ _
def Ow(h:dL sh fp F b_ w sb gf cap t0 tv u_ s0 v_ ⟨below++[f],tape,out⟩)(c:aA below<=15)(b:b_<=H_ w)(i:aA f.ops<=99000)(d:∃e a,f.ops=e++[a]):W_ Xi 360 #[Xn #[],aY sb] w (lJ sh fp F b_ sb gf t0 s0 (bF sh sb gf u_ v_) w below tape out (aS .drop f)):=by have ⟨e,a,hf⟩:=d;have g:=h.yp b (bO #[] 376);refine(YZ w _ sb gf (aA below*6) (λj=>kS sh fp F b_ sb gf t0 s0 (bF sh sb gf u_ v_) w ⟨below++[f.pop],tape,out⟩ j) aJ (g.vo c) λW k=>?_).mono ?_;apply ((g.same k).pop hf Z).mono;grind[eK.um,uj.refl];grind[lJ.ok,aS]
def Ik(h:dL sh fp F b_ w sb gf cap t0 tv u_ s0 v_ ⟨below++[f],tape,out⟩)(d:aA below<=15)(c:b_<=H_ w)(n:aA f.ops<=99000)(j:∃o a,f.ops=o++[a]):W_ Xi 386 #[Xn #[],aY sb] w (lJ sh fp F b_ sb gf t0 s0 (bF sh sb gf u_ v_) w below tape out (aS .ue f)):=by
 have ⟨o,a,hf⟩:=j;have m:=h.yp c (bO #[] 434);have p:aA f.pop.ops<=100000:=by grind[aI.pop]
 refine(QR w _ sb gf (aA below*6) (λg=>a.c_=1/\kS sh fp F b_ sb gf t0 s0 (bF sh sb gf u_ v_) w ⟨below++[f.pop.push a],tape,out⟩ g) (λg=>a.c_≠1/\kS sh fp F b_ sb gf t0 s0 (bF sh sb gf u_ v_) w ⟨below++[f.pop],tape,out⟩ g) (λt z W=>PV F W (dI t z) a/\aK a<=200/\eK sh fp b_ sb gf (aA below) t0 s0 (bF sh sb gf u_ v_) (eF w #[] 434) F ⟨below++[f.pop],tape,out⟩ W) (λb W=>a.c_=1/\a=cG b/\eK sh fp b_ sb gf (aA below) t0 s0 (bF sh sb gf u_ v_) (eF w #[] 434) F ⟨below++[f.pop],tape,out⟩ W) rfl (m.vo d) (λW q=>?_) (λW t z l=>?_) λW b l=>?_).mono ?_;apply ((m.same q).pop hf Z).mono;simp;have ⟨i,k,h3⟩:=l;apply (uE F _ a W i).mono;grind[PV.bool,eK.um,uj.refl];have ⟨i,k,h3⟩:=l;apply (h3.push (PV.yo F W b) (by rw[pR];exact Z) p).mono;grind[eK.um,uj.refl];have r:aS .ue f=if a.c_=1 then (f.pop.push a,0)else (f.pop,2):=by simp[aS,nV hf]
 rintro e g (⟨rfl,i,k⟩|⟨rfl,i,k⟩);grind[lJ.ok];grind[lJ.stop]
end
section
variable {sh:Bool} {fp:iJ} {F:bL} {b_:Nat} {w:aN} {sb gf cap:Nat} {t0 tv u_ s0:aX} {v_:List j_} {below:List aI} {f:aI} {tape:List Int} {out:cY}
def eK.next{own:List Nat}{c:aN}{G:bL}{n:Nat}(h:eK sh fp b_ sb gf n t0 s0 own c G ⟨below++[f],tape,out⟩ w)(b:Nat):eK sh fp b_ sb gf n t0 s0 own c G ⟨below++[{f with next:=b}],tape,out⟩ (c9 w (aL gf (n*6+1)) (Y b)):=h.set 1 (Y b) Z (λv=>{v with nx:=Y b}) (λ_=>rfl) (λ_ _=>rfl) λ_ a=>⟨a.fn,rfl,a.ln,a.sp,a.g_,a.ops⟩
theorem eK.cell{own:List Nat}{b:aN}{G:bL}{n:Nat}(h:eK sh fp b_ sb gf n t0 s0 own b G ⟨below++[f],tape,out⟩ w)(j:Nat)(a:j<6):(∃u,I_ w (aL gf (n*6+j))=Wy u)/\w.frozen? (aL gf (n*6+j))=WD/\gf<w.heap.size:=by have ⟨v,hv,hl,hc⟩:=h.cells;have ⟨h1,h2⟩:=hc j (v.cells[j]'(by simpa [j_.cells]using a)) (ey _);grind
def Oq(b:Nat)(h:dL sh fp F b_ w sb gf cap t0 tv u_ s0 v_ ⟨below++[f],tape,out⟩)(c:aA below<=15)(a:b_<=H_ w):W_ Xi 370 #[Xn #[Y b],aY sb] w (lJ sh fp F b_ sb gf t0 s0 (bF sh sb gf u_ v_) w below tape out (aS (.jump b) f)):=by
 have d:=h.yp a (bO #[Y b] 410);have ⟨h1,h2,h3⟩:=d.cell 1 Z;refine(XQ w _ sb gf (aA below*6) b (λe=>kS sh fp F b_ sb gf t0 s0 (bF sh sb gf u_ v_) w ⟨below++[{f with next:=b}],tape,out⟩ e) rfl (d.vo c) h1 h2 h3 λW g=>?_).mono ?_;.exact((d.same g).next b).um (uj.refl _ _)
 grind[lJ.ok,aS]
def Rx(c:Nat)(h:dL sh fp F b_ w sb gf cap t0 tv u_ s0 v_ ⟨below++[f],tape,out⟩)(j:aA below<=15)(d:b_<=H_ w)(o:aA f.ops<=99000)(l:∃p a,f.ops=p++[a]):W_ Xi 369 #[Xn #[Y c],aY sb] w (lJ sh fp F b_ sb gf t0 s0 (bF sh sb gf u_ v_) w below tape out (aS (.skip c) f)):=by
 have ⟨p,a,hf⟩:=l;have n:=h.yp d (bO #[Y c] 409);refine(LY w _ sb gf (aA below*6) c (λk=>a.c_=1/\kS sh fp F b_ sb gf t0 s0 (bF sh sb gf u_ v_) w ⟨below++[if a.n=1 then f.pop else {f.pop with next:=c}],tape,out⟩ k) (λk=>a.c_≠1/\kS sh fp F b_ sb gf t0 s0 (bF sh sb gf u_ v_) w ⟨below++[f.pop],tape,out⟩ k) (λt z W=>PV F W (dI t z) a/\aK a<=200/\eK sh fp b_ sb gf (aA below) t0 s0 (bF sh sb gf u_ v_) (eF w #[Y c] 409) F ⟨below++[f.pop],tape,out⟩ W) (λb W=>a.c_=1/\b=decide (a.n=1)/\eK sh fp b_ sb gf (aA below) t0 s0 (bF sh sb gf u_ v_) (eF w #[Y c] 409) F ⟨below++[f.pop],tape,out⟩ W) rfl (n.vo j) (λW q=>?_) (λW t z g=>?_) (λW g=>?_) (λW g=>?_) λW b g=>?_).mono ?_;apply ((n.same q).pop hf Z).mono;simp;have ⟨i,m,h3⟩:=g;apply (uE F _ a W i).mono;grind[eK.um,uj.refl];grind[eK.um,uj.refl];have ⟨i,m,h3⟩:=g;refine⟨i,?_⟩;rw[dy (G_)];exact(h3.next c).um (uj.refl _ _);grind[eK.box,eK.cell,aB];have r:aS (.skip c) f=if a.c_=1 then (if a.n=1 then f.pop else {f.pop with next:=c},0)else (f.pop,2):=by simp[aS,nV hf]
 rintro e k (⟨rfl,i,m⟩|⟨rfl,i,m⟩);grind[lJ.ok];grind[lJ.stop]
def VQ(d:Bool)(c:Nat)(h:dL sh fp F b_ w sb gf cap t0 tv u_ s0 v_ ⟨below++[f],tape,out⟩)(l:aA below<=15)(i:b_<=H_ w)(p:aA f.ops<=99000)(k:∃q a,f.ops=q++[a]):W_ Xi 387 #[Xn #[Xr d,Y c],aY sb] w (lJ sh fp F b_ sb gf t0 s0 (bF sh sb gf u_ v_) w below tape out (aS (.sw d c) f)):=by
 have ⟨q,a,hf⟩:=k;have o:=h.yp i (bO #[Xr d,Y c] 436);have r:aA f.pop.ops<=100000:=by grind[aI.pop]
 refine(GD w _ sb gf (aA below*6) c d (λm=>a.c_=1/\kS sh fp F b_ sb gf t0 s0 (bF sh sb gf u_ v_) w ⟨below++[if decide (a.n=1)=d then {f.pop.push a with next:=c} else f.pop],tape,out⟩ m) (λm=>a.c_≠1/\kS sh fp F b_ sb gf t0 s0 (bF sh sb gf u_ v_) w ⟨below++[f.pop],tape,out⟩ m) (λt z W=>PV F W (dI t z) a/\aK a<=200/\eK sh fp b_ sb gf (aA below) t0 s0 (bF sh sb gf u_ v_) (eF w #[Xr d,Y c] 436) F ⟨below++[f.pop],tape,out⟩ W) (λb W=>a.c_=1/\b=decide (a.n=1)/\a=cG b/\eK sh fp b_ sb gf (aA below) t0 s0 (bF sh sb gf u_ v_) (eF w #[Xr d,Y c] 436) F ⟨below++[f.pop],tape,out⟩ W) (λb W=>a.c_=1/\b=decide (a.n=1)/\eK sh fp b_ sb gf (aA below) t0 s0 (bF sh sb gf u_ v_) (eF w #[Xr d,Y c] 436) F ⟨below++[f.pop.push a],tape,out⟩ W) rfl (o.vo l) (λW s=>?_) (λW t z g=>?_) (λW b g=>?_) (λW b g k=>?_) (λW b g v=>?_) (λW b g=>?_) λW b g=>?_).mono ?_;apply ((o.same s).pop hf Z).mono;simp;have ⟨j,n,h3⟩:=g;apply (uE F _ a W j).mono;grind[PV.bool,eK.um,uj.refl];have ⟨j,n,h3,h4⟩:=g;apply (h4.push (a:=a) (by rw[h3];exact PV.yo F W b) (by rw[h3,pR];exact Z) r).mono;grind;grind[eK.um,uj.refl];have ⟨j,n,h3⟩:=g;refine⟨j,?_⟩;rw[ec G_];exact(h3.next c).um (uj.refl _ _);grind[eK.box,aB];grind[eK.box,eK.cell,aB];have u:aS (.sw d c) f=if a.c_=1 then (if decide (a.n=1)=d then {f.pop.push a with next:=c} else f.pop,0)else (f.pop,2):=by simp[aS,nV hf]
 rintro e m (⟨rfl,j,n⟩|⟨rfl,j,n⟩);grind[lJ.ok];grind[lJ.stop]
end
section
variable {sh:Bool} {fp:iJ} {F:bL} {b_:Nat} {w:aN} {sb gf cap:Nat} {t0 tv u_ s0:aX} {v_:List j_} {below:List aI} {f:aI} {tape:List Int} {out:cY}
theorem eK.apart{own:List Nat}{b:aN}{G:bL}{n:Nat}{m:dC}(h:eK sh fp b_ sb gf n t0 s0 own b G m w):∀k,G k->k<w.heap.size/\k≠gf:=by have ⟨h1,h2,cap,tv,u_,v_,h3,h4,h5⟩:=h;exact λk a=>⟨(h4.apart k a).1,λe=>(h4.apart k a).2 nh⟩
def oX.cell{G:bL}{v:aX}{l:List aE}{k:Nat}(h:oX G b_ w v l)(f:k<aA l):∃g cap t z,v=Xl (Wy (aL g 0)) (aA l) cap/\I_ w (aL g k)=Wy (Xq t z)/\PV G w (Xq t z) l[k]/\aK l[k]<=200:=by have ⟨⟨xs,h1,h2,h3⟩,h4⟩:=h;have ⟨u,e1,e2⟩:=h3 k f;obtain⟨t,z,rfl⟩:=e2.form;rcases h1.2 with ⟨n,o⟩|⟨g,c,m,rfl,i,b,a,d,j,e⟩;exact Z;grind[aB]
def X5.cell{G:bL}{v:aX}{l:List aE}{k:Nat}(h:X5 sh G b_ w v l)(a:k<aA l):∃g cap t z,v=Xl (Wy (aL g 0)) (aA l) cap/\I_ w (aL g k)=Wy (Xq t z)/\PV G w (Xq t z) l[k]/\aK l[k]<=200:=by cases sh;exact oX.cell h a;have ⟨h1,h2⟩:=h;rcases vg.row h1 with ⟨rfl,_⟩|⟨g,cap,c,e,_,_,⟨_,b⟩,d⟩;cases a;grind[PV.form]
def Qz(k:Nat)(h:dL sh fp F b_ w sb gf cap t0 tv u_ s0 v_ ⟨below++[f],tape,out⟩)(d:aA below<=15)(a:b_<=H_ w)(m:aA f.ops<=99000)(i:k<aA f.g_):W_ Xi 361 #[Xn #[Y k],aY sb] w (lJ sh fp F b_ sb gf t0 s0 (bF sh sb gf u_ v_) w below tape out (aS (.load k) f)):=by have e:=h.yp a (bO #[Y k] 399);have ⟨v,hv,hl,hc⟩:=e.cells;have ⟨g,c,t,z,e1,e2,e3,e4⟩:=hv.g_.cell i;have j:=(hc 4 v.vv aJ).1;rw[e1]at j;refine(XE w _ sb gf (aA below*6) k g (aA f.g_) c t z (λn=>kS sh fp F b_ sb gf t0 s0 (bF sh sb gf u_ v_) w ⟨below++[f.push f.g_[k]],tape,out⟩ n) aJ (e.vo d) j e2 i λW l=>?_).mono ?_;apply ((e.same l).push (e3.h_ λb _=>by rw[l.heap]) e4 Z).mono;grind[eK.um,uj.refl];grind[lJ.ok,aS]
def R2(l:Nat)(sp:aX)(s:cY)(h:dL sh fp F b_ w sb gf cap t0 tv u_ s0 v_ ⟨below++[f],tape,out⟩)(d:aA below<=15)(c:b_<=H_ w)(i:gX F w sp s):W_ Xi 345 #[Xn #[Y l,sp],aY sb] w (lJ sh fp F b_ sb gf t0 s0 (bF sh sb gf u_ v_) w below tape out (aS (.begin l s) f)):=by obtain⟨sp,rfl⟩:=i.form;have e:=h.yp c (bO #[Y l,Xo sp] 278);have ⟨h1,h2,h3⟩:=e.cell 2 Z;have ⟨k1,k2,k3⟩:=e.cell 3 Z;refine(TL w _ sb gf (aA below*6) l sp (λk=>kS sh fp F b_ sb gf t0 s0 (bF sh sb gf u_ v_) w ⟨below++[{f with l_:=l,e_:=s}],tape,out⟩ k) rfl (e.vo d) h1 k1 h2 k2 h3 λW j=>?_).mono ?_;have n:=e.same j;have hs0:=gX.h_ (λb m=>by rw[j.heap];exact ed _ _ _ (h.apart b m).1) LR i;have o:eK sh fp b_ sb gf (aA below) t0 s0 (bF sh sb gf u_ v_) _ F ⟨below++[{f with l_:=l}],tape,out⟩ _:=n.set 2 (Y l) Z (λv=>{v with ln:=Y l}) (λ_=>rfl) (λ_ _=>rfl) λ_ a=>⟨a.fn,a.nx,rfl,a.sp,a.g_,a.ops⟩;have g:gX F (c9 W (aL gf (aA below*6+2)) (Y l)) (Xo sp) s:=(by grind[gX.h_,ej,eK.apart]);have p:eK sh fp b_ sb gf (aA below) t0 s0 (bF sh sb gf u_ v_) _ F ⟨below++[{f with l_:=l,e_:=s}],tape,out⟩ _:=o.set 3 (Xo sp) Z (λv=>{v with sp:=Xo sp}) (λ_=>rfl) (λ_ _=>rfl) λ_ a=>⟨a.fn,a.nx,a.ln,g,a.g_,a.ops⟩;exact p.um (uj.refl _ _);grind[lJ.ok,aS]
def Ku(b:bQ)(s:b=[45]\/b=[33])(h:dL sh fp F b_ w sb gf cap t0 tv u_ s0 v_ ⟨below++[f],tape,out⟩)(d:aA below<=15)(g:b_<=H_ w)(n:aA f.ops<=99000)(l:∃o a,f.ops=o++[a]):W_ Xi 366 #[Xn #[Q_ (bs b)],aY sb] w (lJ sh fp F b_ sb gf t0 s0 (bF sh sb gf u_ v_) w below tape out (aS (.unary b) f)):=by
 have ⟨o,a,hf⟩:=l;have m:=h.yp g (bO #[Q_ (bs b)] 404);have u:aA f.pop.ops<=100000:=by grind[aI.pop]
 have i:∀(W:aN) (v:aX),PV F W v a->W_ Xi 367 #[Q_ (bs b),v] W (nR F W (dH (b++[120]) a)):=λW v p=>by rcases s with rfl|rfl;exact JI 45 (ea aJ) F v a W p;exact JI 33 (dz aJ) F v a W p
 have x:aS (.unary b) f=if (dH (b++[120]) a).2=0 then (f.pop.push (dH (b++[120]) a).1,0)else (f.pop,(dH (b++[120]) a).2):=by simp[aS,nV hf]
 have k:=Qc (b++[120]) a;generalize dH (b++[120]) a=r at i x k;have q:Xg (∀W,bZ (eF w #[Q_ (bs b)] 404) W->W_ Xi 183 #[Xo (Wy (aL gf (aA below*6)))] W λe j=>∃t z,e=bR (dI t z)/\PV F j (dI t z) a/\eK sh fp b_ sb gf (aA below) t0 s0 (bF sh sb gf u_ v_) (eF w #[Q_ (bs b)] 404) F ⟨below++[f.pop],tape,out⟩ j):=λW y=>by apply ((m.same y).pop hf Z).mono;grind
 by_cases A:r.2=0;refine(D6 w _ sb gf (aA below*6) b (λj=>kS sh fp F b_ sb gf t0 s0 (bF sh sb gf u_ v_) w ⟨below++[f.pop.push r.1],tape,out⟩ j) (λt z W=>PV F W (dI t z) a/\eK sh fp b_ sb gf (aA below) t0 s0 (bF sh sb gf u_ v_) (eF w #[Q_ (bs b)] 404) F ⟨below++[f.pop],tape,out⟩ W) (λt z W=>PV F W (dI t z) r.1/\eK sh fp b_ sb gf (aA below) t0 s0 (bF sh sb gf u_ v_) (eF w #[Q_ (bs b)] 404) F ⟨below++[f.pop],tape,out⟩ W) aJ (m.vo d) q (λW t z c=>?_) (λW t z c=>?_) λW t z c=>?_).mono ?_;grind[eK.box,aB];apply (i W _ c.1).mono;grind[PV.form,nR];apply (c.2.push c.1 k u).mono;grind[eK.um,uj.refl];grind[lJ.ok];refine(QP w _ sb gf (aA below*6) b r.2 (λj=>kS sh fp F b_ sb gf t0 s0 (bF sh sb gf u_ v_) w ⟨below++[f.pop],tape,out⟩ j) (λt z W=>PV F W (dI t z) a/\eK sh fp b_ sb gf (aA below) t0 s0 (bF sh sb gf u_ v_) (eF w #[Q_ (bs b)] 404) F ⟨below++[f.pop],tape,out⟩ W) aJ (m.vo d) q (λW t z c=>?_) λW t z c=>?_).mono ?_;grind[eK.box,aB];apply (i W _ c.1).mono;grind[eK.um,uj.refl,nR];grind[lJ.stop]
def UA{Z_:Prop}(Y_:Z_:=by rintro e w' ⟨hb,⟨hz,u,rfl,hu⟩|⟨hz,rfl⟩⟩;obtain⟨t1,z1,rfl⟩:=hu.form;exact ea ⟨t1,z1,aJ,hz,Grow F W w',⟨λ_=>ea,λk hk=>hk.imp_right λh1=>em (em s_ h5.1.size) h1.1⟩,hu,(by grind[eK.grow,Grow])⟩;exact dz ⟨aJ,hz,(h5.grow hb (s_) G_).um (uj.refl _ _)⟩):Z_:=Y_
def Md(c:bQ)(h:dL sh fp F b_ w sb gf cap t0 tv u_ s0 v_ ⟨below++[f],tape,out⟩)(n:aA below<=15)(d:b_<=H_ w)(i:aA f.ops<=99000)(q:∃A a b,f.ops=A++[a,b]):W_ Xi 377 #[Xn #[Q_ (bs c)],aY sb] w (lJ sh fp F b_ sb gf t0 s0 (bF sh sb gf u_ v_) w below tape out (aS (.binary c) f)):=by
 have ⟨A,a,b,p⟩:=q;have p:f.ops=(A++[a])++[b]:=G_;have C:=h.yp d (bO #[Q_ (bs c)] 433);have hf2:=BI p;have l:=i;rw[p,et,et]at l;have B:aA f.pop.ops<=100000:=G_;have y:aA f.pop.pop.ops<=100000:=by rw[BI hf2];exact Z
 have E:aS (.binary c) f=if (dJ c a b).2=0 then (f.pop.pop.push (dJ c a b).1,0)else (f.pop.pop,(dJ c a b).2):=by grind[aS,nV]
 have o:=Rb c a b;have j:∀(W:aN) (u v:aX),PV F W u a->PV F W v b->(∀k,F k->k<H_ W)->aK a<=200->aK b<=200->W_ Xi 378 #[Q_ (bs c),u,v] W (jE F W (dJ c a b)):=λW u v h1 e m D h5=>WK c F u v a b W h1 e m Z Z;generalize dJ c a b=r at j E o;refine(NP w _ sb gf (aA below*6) c r.2 (λw'=>r.2=0/\kS sh fp F b_ sb gf t0 s0 (bF sh sb gf u_ v_) w ⟨below++[f.pop.pop.push r.1],tape,out⟩ w') (λw'=>r.2≠0/\kS sh fp F b_ sb gf t0 s0 (bF sh sb gf u_ v_) w ⟨below++[f.pop.pop],tape,out⟩ w') (λt z W=>PV F W (dI t z) b/\aK b<=200/\eK sh fp b_ sb gf (aA below) t0 s0 (bF sh sb gf u_ v_) (eF w #[Q_ (bs c)] 433) F ⟨below++[f.pop],tape,out⟩ W) (λt z s x W=>PV F W (dI t z) b/\aK b<=200/\PV F W (dI s x) a/\aK a<=200/\eK sh fp b_ sb gf (aA below) t0 s0 (bF sh sb gf u_ v_) (eF w #[Q_ (bs c)] 433) F ⟨below++[f.pop.pop],tape,out⟩ W) (λt z W=>r.2=0/\∃G,uj F G (H_ w)/\PV G W (dI t z) r.1/\eK sh fp b_ sb gf (aA below) t0 s0 (bF sh sb gf u_ v_) (eF w #[Q_ (bs c)] 433) G ⟨below++[f.pop.pop],tape,out⟩ W) rfl (C.vo n) (λW H=>?_) (λW t z g=>?_) (λW t z s x g=>?_) (λW t z s x g=>?_) λW t z g=>?_).mono ?_;apply ((C.same H).pop p Z).mono;simp;have ⟨h1,e,m⟩:=g;apply (m.Cl hf2 B).mono;grind[PV.h_];grind[eK.box,aB];have ⟨h1,e,m,D,h5⟩:=g;apply (j W _ _ m h1 (λk hk=>(h5.apart k hk).1) D e).mono;exact UA;have ⟨hz,G,hG,h1,e⟩:=g;apply (e.push h1 o y).mono;grind[eK.um];grind[lJ.ok,lJ.stop]
end
section
variable {sh:Bool} {fp:iJ} {F G G':bL} {b_:Nat} {w:aN} {sb gf cap:Nat} {t0 tv u_ s0:aX} {v_:List j_} {below:List aI} {f:aI} {tape:List Int} {out:cY}
def dL.more{m:dC}(h:dL sh fp G b_ w sb gf cap t0 tv u_ s0 v_ m)(a:∀k,G k->G' k)(b:∀k,G' k->G k\/(k<H_ w/\k∉bF sh sb gf u_ v_)):dL sh fp G' b_ w sb gf cap t0 tv u_ s0 v_ m:=⟨h.i_,h.row,h.wb.h_ (s_) a s_,h.tape.h_ (s_) a,h.out,h.nodup,h.lt,ql⟩
def dL.n_{vs i:List aE}(h:dL sh fp G b_ w sb gf cap t0 tv u_ s0 v_ ⟨below++[f],tape,out⟩)(A:f.ops=vs++i)(n:aA f.ops<=100000):W_ Xi 352 #[Xo (Wy (aL gf (aA below*6))),Y (aA i)] w λe w'=>∃v' r c,e=bR v'/\Kept (bF sh sb gf u_ v_) w w'/\bF sh sb gf u_ c=bF sh sb gf u_ v_/\aA c=aA v_/\dL sh fp G b_ w' sb gf cap t0 tv u_ s0 c ⟨below++[f.n_ (aA i)],tape,out⟩/\w'.ownsRow w.heap.size 265 1 v' (aA i) r/\iH G w' r i/\(∀a∈i,aK a<=200)/\∀k,G k->w'.heap[k]?=w.heap[k]?:=by
 obtain⟨J,v,z,rfl,B,K,M,q,H,k0,V,k2,X,k4,Q⟩:=h.top;rw[<-B];have ⟨⟨xs,hown,hxs⟩,hc200⟩:=K.ops;rw[A]at hown hxs hc200;obtain⟨l,r,rfl,D,y,S,m⟩:=hxs.split;rw[A,et]at n;rw[et]at hown;apply (BS b_ gf (aA J*6) (aA vs) (aA i) z v.ov l r w q Q hown D y (tO m) Z).mono;rintro e w' ⟨v',g,s,T,u,I,rfl,W,F⟩;have L:(f.n_ (aA i)).ops=vs:=by simp[aI.n_,A]
 have E:=h.grow u (s_) (λ_ h=>ea h);have t:TR sh fp G b_ s {v with ov:=g} (f.n_ (aA i)):=by have p:∀b,G b->s.heap[b]?=w.heap[b]?:=λb C=>u.block b (h.apart b C).1;have P:∀k∈(v.sf sh),k<w.heap.size:=λk p=>h.lt k (by simp[bF,dD,p]);have d:=K.h_ p LR lm;refine⟨d.fn,d.nx,d.ln,d.sp,d.g_,⟨l,?_,?_⟩,G_⟩;grind[bE,ef,j_.sf];grind[iH.h_]
 have ⟨q1,q2⟩:=E.wv (j:=5) (x:=g) (v':={v with ov:=g}) Z rfl (by simp[j_.sf,F]) t;have N:gf<w.heap.size:=(by grind);have o:∀k,G k->(c9 s (aL gf (aA J*6+5)) g).heap[k]?=w.heap[k]?:=(by grind[ej,dL.apart,bF,ef]);refine⟨v',r,_,T,(Kept.p_ u).trans q2 G_,by simp[bF,dD,j_.sf,F],s_,q1,bE I λk p=>ej _ _ _ _ ?_,m.h_ o,G_,o⟩;have:=bX I k p;grind
def eK.n_{own:List Nat}{m:aN}{n:Nat}{vs b:List aE}(h:eK sh fp b_ sb gf n t0 s0 own m G ⟨below++[f],tape,out⟩ w)(r:n=aA below)(q:f.ops=vs++b)(g:aA f.ops<=100000):W_ Xi 352 #[Xo (Wy (aL gf (n*6))),Y (aA b)] w λe w'=>∃x d,e=bR (Xl x (aA b) d)/\∃G',uj G G' w.heap.size/\vg G' w' (Xl x (aA b) d) b/\(∀a∈b,aK a<=200)/\eK sh fp b_ sb gf n t0 s0 own m G' ⟨below++[f.n_ (aA b)],tape,out⟩ w'/\∀k,G k->w'.heap[k]?=w.heap[k]?:=by have ⟨h1,h2,cap,tv,u_,v_,h3,h4,h5⟩:=h;subst r;apply (h4.n_ q g).mono;rintro e w' ⟨u,A,c,s,i,z,v,t,l,y,p,o⟩;obtain⟨x,d,rfl⟩:=fV l;refine⟨x,d,s,λk=>G k\/(Value.slice x (aA b) d).ownBlock=Wy k,⟨G_,λk j=>j.imp_right λe=>bX l k e⟩,(by grind[vg.ofRow,iH.mono]),p,⟨h1.trans i h5,em h2 i.size,cap,tv,u_,c,Z,t.more (G_) λk j=>?_,G_⟩,o⟩;grind[eI,dL.lt,bX,bF]
def Lf(s b:List aE)(h:dL sh fp F b_ w sb gf cap t0 tv u_ s0 v_ ⟨below++[f],tape,out⟩)(i:aA below<=15)(c:b_<=H_ w)(r:aA f.ops<=99000)(o:f.ops=s++b):W_ Xi 362 #[Xn #[Y (aA b)],aY sb] w (lJ sh fp F b_ sb gf t0 s0 (bF sh sb gf u_ v_) w below tape out (aS (.list (aA b)) f)):=by
 have q:=h.yp c (bO #[Y (aA b)] 401);have E:f.many (aA b)=b:=by simp[aI.many,o]
 have y:(f.n_ (aA b)).ops=s:=by simp[aI.n_,o]
 have B:(f.n_ (aA b)).ops.length<=100000:=G_;have D:aS (.list (aA b)) f=if aK (bG b)<=200 then ((f.n_ (aA b)).push (bG b),0)else (f.n_ (aA b),6):=by grind[aS,jH]
 refine(XG w _ sb gf (aA below*6) (aA b) 6 (λj=>aK (bG b)<=200/\kS sh fp F b_ sb gf t0 s0 (bF sh sb gf u_ v_) w ⟨below++[(f.n_ (aA b)).push (bG b)],tape,out⟩ j) (λj=>¬aK (bG b)<=200/\kS sh fp F b_ sb gf t0 s0 (bF sh sb gf u_ v_) w ⟨below++[f.n_ (aA b)],tape,out⟩ j) (λx d W=>∃G,uj F G (H_ w)/\vg G W (P_ x (aA b) d) b/\(∀a∈b,aK a<=200)/\eK sh fp b_ sb gf (aA below) t0 s0 (bF sh sb gf u_ v_) (eF w #[Y (aA b)] 401) G ⟨below++[f.n_ (aA b)],tape,out⟩ W) (λt z W=>aK (bG b)<=200/\∃G,uj F G (H_ w)/\PV G W (dI t z) (bG b)/\eK sh fp b_ sb gf (aA below) t0 s0 (bF sh sb gf u_ v_) (eF w #[Y (aA b)] 401) G ⟨below++[f.n_ (aA b)],tape,out⟩ W) rfl (q.vo i) (λW A=>?_) (λW x d n=>?_) λW t z n=>?_).mono ?_;apply ((q.same A).n_ aJ o Z).mono;rintro e j ⟨x,d,C,G,k,g,v,u,_⟩;exact⟨x,d,C,G,k.le (by rw[A.heap];simp),g,v,u⟩
 .have ⟨G,k,g,v,u⟩:=n;have p:∀l:List aE,(∀a∈l,aK a<=200)->(l.map aK).sum<=200*aA l:=λl=>by induction l with|nil=>simp|cons a l H=>grind
  have m:aK (bG b)<=1000000000:=by grind[dE,bG]
  apply (RL G x d b W g m).mono;grind[PV.wa,eK.um]
 have ⟨hz,G,hG,k,g⟩:=n;apply (g.push k hz B).mono;grind[eK.um];grind[lJ.ok,lJ.stop,aI.n_]
end
