import Derived.Test.YtjhbbdpfkccohaaGreatDoorP13
set_option linter.all false
set_option maxRecDepth 100000
set_option maxHeartbeats 4000000
open List renaming length->Ty
open Go.World renaming setCell->Tz,alloc->T6,cell?->T_
open Option renaming some->Ua,none->Ub
open Bool renaming false->Uc
open Go renaming Calls->Ue,Value->Uf,World->Ug,TypeId->Ui,Addr->Uj
open Go.RowKit renaming Hid->Ul
open Go.Proofs.Tryz renaming prog->Un
open Go.Value renaming slice->Uq,agg->Us,pointer->Ut,iface->Uv,bool->Uw
open Go.Obj renaming cells->Uy
namespace Go.Proofs.YtjhbbdpfkccohaaGreatDoor
open Hs
open _root_.Go.Proofs.Tryz
open Go.RowKit
variable{P:Bool}{o:List Int}{I:List Uf}{l:List aE}{E Q S n:Nat}{d:Prop}{a:aE}{f:aI}{q w:aN}{L N O:aW}{R p:bN}{z:cY}{K:iU}
structure Af(gf:Nat)(row:Option Nat)(w w':aN):Prop where
 os:w'.os=w.os
 tape:w'.tape=w.tape
 output:w'.output=w.output
 size:w.heap.size<=w'.heap.size
 block:∀k,k<w.heap.size->k≠gf->Ua k≠row->w'.heap[k]?=w.heap[k]?
def JH(w:aN)(u:aW):∀j v,([u]:List Uf)[j]?=Ua v->T_ (eH w #[u] 263) ((⟨H_ w,0,Ub⟩:Uj).add j)=Ua v:=by
 intro j v a;match j,a with
 |0,a=>simp at a;subst a;simp[Addr.add]
 |j+1,a=>simp at a
def DG(t:Ui)(z:aW):∀u∈([dH t z]:List Uf),u.oneCell'=true:=by intro u a;simp at a;rw[a];rfl
def DN(d l o n:Nat)(cur:Array Uf)(u:aW)(F:List Uf)(t:Ui)(z:aW)(w:aN)(v:w.heap[l]?=Ua (cD cur 111))(J:cur[o+5]?=Ua u)(f:w.ownsRow d 263 1 u n F)(p:u.ownBlock≠Ua l)(A:d<=H_ w)(Y:n<=1000000):
 Ue Un 342 #[Ut (Ua (aL l o)),dH t z] w λe w'=>e=fD/\∃m,w'.heap[l]?=Ua (cD (cur.setIfInBounds (o+5) m) 111)/\w'.ownsRow d 263 1 m (n+1) (F++[dH t z])/\(∀k,m.ownBlock=Ua k->u.ownBlock=Ua k\/H_ w<=k)/\Af l u.ownBlock w w':=by
 obtain⟨S,V,y,B,C⟩:=info_parts rV;obtain⟨x,c,rfl⟩:=fW f;have H:=aH v;have X:=aA v J;have T:=aB f;have P:=aB v;have E:=aB p;clear f v p;go_in
 go_wp2_with (at_builtin;refine wpList_append_lies _ r_ _ _ 109 r_ d 263 S _ 1 16 underlying109 V y B C rfl d_ (P_ x n c) n F r_ (T.alloc _) (aL (H_ w) 0) 1 1 [dH t z] r_ r_ (JH w _) (DG t z) d_ kk aD kj (H_ w+1) s_ ?_)
 intro I s L g b j O
 have a:L.heap[l]?=Ua (cD cur 111):=by rw[b.block l kj λe=>E e.symm,eh _ _ _ H];exact P
 have U:=aA a J;have W:=aF a (i:=o+5);have K:=aH a
 have G:I≠l:=by grind [d7]
 have HOWN:=aB g;have r:=aB b;have N:=aB j;have D:=aB a;clear g b j a;go_wp2
 go_end0;refine⟨aJ,P_ (Ua (aL I 0)) (n+1) s,aP D,?_,?_,?_⟩
 .exact bC HOWN λk q=>em _ _ _ _ (by cases q;exact G)
 .intro k q;cases q;grind [d7]
 refine⟨r.os.trans aJ,r.tape.trans aJ,r.output.trans aJ,eo s_ (eo r.size s_),λk q Q M=>?_⟩
 rw[em _ _ _ _ Q,r.block k kj M,eh _ _ _ q]
def XA(b v o n:Nat)(l:Array Uf)(y:aW)(m:List Uf)(u:aW)(w:aN)(q:w.heap[v]?=Ua (cD l 111))(B:l[o+5]?=Ua y)(f:w.ownsRow b 263 1 y (n+1) (m++[u]))(J:Ty m=n)(C:∃t z,u=dH t z)(K:n<=1000000):
 Ue Un 182 #[Ut (Ua (aL v o))] w λe w'=>e=bY u/\∃j,w'=Tz w (aL v (o+5)) j/\w.ownsRow b 263 1 j n m/\j.ownBlock=y.ownBlock:=by
 obtain⟨t,z,rfl⟩:=C;rcases f.2 with ⟨F,L⟩|⟨g,c,p,rfl,s,a,A,r,x,k⟩
 .exact aD
 have E:=aH q;have I:=aA q B;have H:=aF q (i:=o+5);have D:=aH a
 have d:p[n]?=Ua (dH t z):=by
  have:(m++[Value.iface t z])[n]?=Ua (dH t z):=G_
  grind
 have M:=aA a d
 have HOWN:Ul (w.ownsRow b 263 1 (P_ (Ua (aL g 0)) n c) n m):=by refine⟨aD,ec ⟨g,c,p,rfl,s,a,aD,r,x,?_⟩⟩;have:=fg (List.take n) k;grind
 have N:(0:Int)<=n:=aD;have G:(n:Int)<(n:Int)+1:=aD;have O:(n:Int)<=c:=aD;clear f q B a k d;go_in
 go_wp2
 go_ret;exact⟨aJ,_,aJ,HOWN,aJ⟩
def AR(c b n a:Nat)(w:aN)(g:T_ w (aL c 1)=Ua (Uq (Ua (aL b 0)) (n+1) a))(i:n<=1000):
 Ue Un 152 #[bF c] w λe w'=>e=bY (Ut (Ua (aL b (n*6))))/\∃q,w'=w.drewN q:=by
 have d:(0:Int)<=(n:Int):=aD;have f:(n:Int)<(n:Int)+1:=aD;go_in
 go_wp2_with fail;go_quiet (fail)
 go_wp2
 go_ret;exact⟨aJ,_,aJ⟩
def Sf(f o m l n c k:Nat)(a:Array Uf)(p u:aW)(w:aN)(b:w.heap[f]?=Ua (cD a 111))(g:a[o]?=Ua (bF m))(j:a[o+1]?=Ua (I_ k))
 (d:w.heap[m]?=Ua (cD #[p,P_ (Ua (aL l 0)) n c] 198)) (D:dP w l k u) (s:∃t z,u=dH t z) (x:k<n) (E:n<=1000000):
 Ue Un 153 #[Ut (Ua (aL f o))] w λe w'=>e=bY u/\∃q,w'=Tz (w.drewN q) (aL f (o+1)) (I_ ((k+1:Nat):Int)):=by
 obtain⟨t,z,rfl⟩:=s;have v:=aH b;have r:=aH d;have G:=aA b g;have C:=aA b j;have y:=aF b (i:=o+1);have A:=aA d (i:=1) aJ;have F:(0:Int)<=(k:Int):=aD;have B:(k:Int)<(n:Int):=aD;clear b d g j;go_in
 go_wp2_with fail;go_quiet (fail)
 go_wp2
 go_ret;exact⟨aJ,_,by congr 2⟩
def BQ(d B o n k:Nat)(r:Array Uf)(K:aW)(y q:List Uf)(w:aN)(x:w.heap[B]?=Ua (cD r 111))(I:r[o+5]?=Ua K)(b:w.ownsRow d 263 1 K (n+k) (y++q))(W:Ty y=n)(U:Ty q=k)(S:∀u∈q,u.oneCell'=true)(hn:n+k<=1000000):
 Ue Un 351 #[Ut (Ua (aL B o)),I_ k] w λe w'=>∃M s m,e=bY M/\R_ w m/\m.ownsRow (H_ w) 263 1 M k q/\w'=Tz m (aL B (o+5)) s/\w.ownsRow d 263 1 s n y/\s.ownBlock=K.ownBlock:=by
 have Z:=aH x;have c5:=aA x I;have f5:=aF x (i:=o+5);have e1:(0:Int)<=(n:Int):=aD;have e2:(n:Int)<=(n:Int)+(k:Int):=aD;rcases b.2 with ⟨rfl,r2⟩|⟨g,c,L,rfl,G,l,N,C,J,v⟩
 .obtain⟨rfl,rfl⟩:n=0/\k=0:=aD;obtain rfl:=jt W;obtain rfl:=jt U;have H:=aB (yX w);clear b x I;go_in
  go_wp2_with fail;refine oN H ?_;go_wp2
  go_ret;exact⟨_,_,_,aJ,dz _ _,World.ownsRow_nil _ _ _ _,aJ,World.ownsRow_nil _ _ _ _,aJ⟩
 have e3:(n:Int)<=(c:Int):=aD;have e4:(n:Int)+(k:Int)<=(c:Int):=aD;have e5:((n+k:Nat):Int)-(k:Int)=(n:Int):=aD
 have H:Ul (∀f p,f=n\/k=0->Ue Un 276 #[P_ (Ua (aL g f)) k p] w λe w'=>∃F D,e=bY (P_ F k D)/\w'.ownsRow (H_ w) 263 1 (P_ F k D) k q/\R_ w w'):=λf p A=>by
  refine(yY g f k p q w aD aD (λj u X=>?_) S).mono ?_
  .have P:j<Ty q:=(hZ.1 X).1;rcases A with rfl|h0
   .refine aA l ?_;have hh:(y++q)[f+j]?=Ua u:=G_
    grind
   exact aD
  grind [fW]
 have HOWN:Ul (∀p,p=c->w.ownsRow d 263 1 (P_ (Ua (aL g 0)) n p) n y):=by rintro p rfl;refine⟨aD,ec ⟨g,p,L,rfl,G,l,aD,C,J,?_⟩⟩;have:=fg (List.take n) v;grind
 have Q:Ul (∀m,R_ w m->m.heap[B]?=Ua (cD r 111)):=λm h=>by grind [eg]
 clear b x l v;go_in
 go_wp2_with fail
 all_goals
  apply (H _ _ aD).mono
  rintro e m ⟨F,D,rfl,z,t⟩;have a:=Q m t;have O:=aH a;have V:=aA a I;have Y:=aF a (i:=o+5);have T:=aB z;have E:=aB t;clear z t a;go_wp2
  go_ret;exact⟨_,_,m,aJ,E,T,aJ,mg,rfl⟩
def gQ(F:bN)(w:aN):Uf->cY->Prop
 |v,[]=>v=Ut Ub
 |v,x::l=>∃b o,v=bF b/\F b/\w.heap[b]?=Ua (Uy #[.string (bs x),I_ (Ty l),o] 291)/\gQ F w o l
theorem gQ.h_{w':aN}(c:∀b,R b->w'.heap[b]?=w.heap[b]?)(a:∀b,R b->p b):∀{l:cY} {v:aW},gQ R w v l->gQ p w' v l
 |[],_,h=>h
 |_::_,_,⟨b,o,f,d,g,e⟩=>⟨b,o,f,a b d,G_,gQ.h_ c a e⟩
def gQ.form(h:gQ R w O z):∃p,O=Ut p:=by
 cases z with
 |nil=>exact⟨Ub,h⟩
 |cons x z=>grind [gQ]
def lR(fp:iU)(F:bN)(w:aN)(v:aW):aO->Prop
 |.begin l s=>∃sp,v=Uv 276 (Us #[I_ l,sp])/\gQ F w sp s
 |.push a=>∃u,v=Uv 265 (Us #[u])/\PV F w u a/\aK a<=200
 |.load k=>v=Uv 397 (Us #[I_ k])
 |.declare k=>v=Uv 368 (Us #[I_ k])
 |.assign k n=>v=Uv 370 (Us #[I_ k,I_ n])
 |.jump t=>v=Uv 408 (Us #[I_ t])
 |.skip t=>v=Uv 407 (Us #[I_ t])
 |.rs b t=>v=Uv 434 (Us #[Uw b,I_ t])
 |.sk=>v=Uv 432 (Us #[])
 |.unary op=>v=Uv 402 (Us #[.string (bs op)])
 |.binary op=>v=Uv 431 (Us #[.string (bs op)])
 |.index=>v=Uv 400 (Us #[])
 |.list n=>v=Uv 399 (Us #[I_ n])
 |.length=>v=Uv 409 (Us #[])
 |.read=>v=Uv 410 (Us #[])
 |.call k n=>v=Uv 412 (Us #[fp k,I_ n])
 |.sg=>v=Uv 267 (Us #[])
 |.drop=>v=Uv 374 (Us #[])
 |.print=>v=Uv 373 (Us #[])
theorem lR.h_{w':aN}{v:aW}{i:aO}(h:lR K R w v i)(d:∀b,R b->w'.heap[b]?=w.heap[b]?)(f:∀b,R b->p b):lR K p w' v i:=by
 cases i<;>first
  |exact h
  |(obtain⟨g,c,a⟩:=h;exact⟨g,c,gQ.h_ d f a⟩)
  |(obtain⟨u,c,a,j⟩:=h;exact⟨u,c,(a.h_ d).mono f,j⟩)
def lR.form{i:aO}(h:lR K R w O i):∃t z,O=Uv t z:=by
 cases i<;>first
  |exact⟨_,_,h⟩
  |(grind [lR])
def ZG(fp:iU)(F:bN)(w:aN)(v:aW)(f:eM):Prop:=
 ∃fb gc cap cur,v=bF fb/\F fb/\w.heap[fb]?=Ua (Uy #[.string (bs f.name),Uq (Ua (aL gc 0)) (Ty f.code) cap] 198)/\F gc/\w.heap[gc]?=Ua (Uy cur 270)/\
  ∀i (h:i<Ty f.code),∃u,cur[i]?=Ua u/\lR fp F w u f.code[i]
theorem ZG.h_{a:iU}{w':aN}{v:aW}{f:eM}(h:ZG a R w v f)(c:∀b,R b->w'.heap[b]?=w.heap[b]?)(d:∀b,R b->p b):ZG a p w' v f:=by grind [lR.h_,ZG]
def oD(fp:iU)(F:bN)(w:aN)(si:List eM):Prop:=∀k f,si[k]?=Ua f->ZG fp F w (fp k) f
theorem oD.h_{w':aN}{a:List eM}(h:oD K R w a)(d:∀b,R b->w'.heap[b]?=w.heap[b]?)(e:∀b,R b->p b):oD K p w' a:=(by grind [ZG.h_,oD])
structure j_ where
 fp:Uf
 nx:Uf
 ln:Uf
 sp:Uf
 vv:Uf
 ov:Uf
def j_.cells(f:j_):List Uf:=[f.fp,f.nx,f.ln,f.sp,f.vv,f.ov]
def kQ:List j_->List Uf
 |[]=>[]
 |f::l=>f.cells++kQ l
theorem nC(l m:List j_):kQ (l++m)=kQ l++kQ m:=by
 induction l with
 |nil=>rfl
 |cons f l a=>simp[kQ,a]
theorem jK(l:List j_):Ty (kQ l)=Ty l*6:=by
 induction l with
 |nil=>rfl
 |cons f l a=>simp[kQ,j_.cells];exact aD
def j_.ri(sh:Bool)(f:j_):List Nat:=(cond sh [] f.vv.ownBlock.toList)++f.ov.ownBlock.toList
def oZ(F:bN)(b_:Nat)(w:aN)(v:aW)(l:List aE):Prop:=(∃xs,w.ownsRow b_ 263 1 v (Ty l) xs/\iE F w xs l)/\∀a∈l,aK a<=200
theorem oZ.h_{a:Nat}{w':aN}{v:aW}(h:oZ R a w v l)(c:∀b,R b->w'.heap[b]?=w.heap[b]?)(j:∀b,R b->p b)(d:∀k,v.ownBlock=Ua k->w'.heap[k]?=w.heap[k]?):oZ p a w' v l:=by obtain⟨⟨g,f,e⟩,i⟩:=h;exact⟨⟨g,bC f d,(e.h_ c).mono j⟩,i⟩
def S7(sh:Bool)(F:bN)(b_:Nat)(w:aN)(v:aW)(l:List aE):Prop:=cond sh (tw F w v l/\∀a∈l,aK a<=200) (oZ F b_ w v l)
def S7.h_{a:Nat}{w':aN}{v:aW}(h:S7 P R a w v l)(d:∀b,R b->w'.heap[b]?=w.heap[b]?)(e:∀b,R b->p b)(f:P=Uc->∀k,v.ownBlock=Ua k->w'.heap[k]?=w.heap[k]?):S7 P p a w' v l:=by
 cases P
 .grind [oZ.h_,S7]
 exact⟨(tw.h_ h.1 d).mono e,h.2⟩
structure SN(sh:Bool)(fp:iU)(F:bN)(b_:Nat)(w:aN)(v:j_)(f:aI):Prop where
 fn:ZG fp F w v.fp f.fn
 nx:v.nx=I_ f.next
 ln:v.ln=I_ f.l_
 sp:gQ F w v.sp f.e_
 g_:S7 sh F b_ w v.vv f.g_
 ops:oZ F b_ w v.ov f.ops
theorem SN.h_{a:Nat}{w':aN}{v:j_}(h:SN P K R a w v f)(c:∀b,R b->w'.heap[b]?=w.heap[b]?)(d:∀b,R b->p b)(i:∀k∈(v.ri P),w'.heap[k]?=w.heap[k]?):SN P K p a w' v f:=
 ⟨h.fn.h_ c d,h.nx,h.ln,gQ.h_ c d h.sp,h.g_.h_ c d ((by grind [j_.ri])),h.ops.h_ c d (by grind [j_.ri])⟩
def lS(sh:Bool)(fp:iU)(F:bN)(b_:Nat)(w:aN):List j_->List aI->Prop
 |[],[]=>True
 |v::vs,f::fs=>SN sh fp F b_ w v f/\lS sh fp F b_ w vs fs
 |_,_=>False
def lS.h_{d:Bool}{a:Nat}{w':aN}(g:∀b,R b->w'.heap[b]?=w.heap[b]?)(j:∀b,R b->p b):∀{c:List j_} {f:List aI},lS d K R a w c f->(∀v∈c,∀k∈(v.ri d),w'.heap[k]?=w.heap[k]?)->lS d K p a w' c f
 |[],[],_,_=>trivial
 |v::_,_::_,⟨m,i⟩,l=>⟨(by grind [SN.h_]),lS.h_ g j i G_⟩
 |[],_::_,h,_=>h.elim
 |_::_,[],h,_=>h.elim
def lS.length{c:Bool}{b:iU}{F:bN}{b_:Nat}:∀{vs:List j_} {a:List aI},lS c b F b_ w vs a->Ty vs=Ty a
 |[],[],_=>rfl
 |_::_,_::_,⟨_,h⟩=>by simp[lS.length h]
 |[],_::_,h=>h.elim
 |_::_,[],h=>h.elim
def lS.snoc{b_:Nat}{v:j_}:∀{c:List j_} {d:List aI},lS P K R b_ w c d->SN P K R b_ w v f->lS P K R b_ w (c++[v]) (d++[f])
 |[],[],_,h=>⟨h,trivial⟩
 |_::_,_::_,⟨g,e⟩,h=>⟨g,lS.snoc e h⟩
 |[],_::_,h,_=>h.elim
 |_::_,[],h,_=>h.elim
def lS.tq{d:Bool}{c:iU}{F:bN}{a:Nat}{w:aN}{f:aI}:∀{vs:List j_} {fs:List aI},lS d c F a w vs (fs++[f])->∃b v,vs=b++[v]/\lS d c F a w b fs/\SN d c F a w v f
 |[],[],h=>h.elim
 |[v],[],⟨j,i⟩=>(by grind)
 |_::_::_,[],⟨_,h⟩=>h.elim
 |v::vs,g::fs,⟨j,i⟩=>by obtain⟨b,u,e,l,k⟩:=lS.tq (vs:=vs) (fs:=fs) i;grind [lS]
 |[],_::_,h=>h.elim
def dD(sh:Bool)(l:List j_):List Nat:=l.flatMap (j_.ri sh)
def bE(sh:Bool)(sb gf:Nat)(u_:aW)(v_:List j_):List Nat:=sb::gf::(u_.ownBlock.toList++dD sh v_)
def pD(l:cY):List Uf:=l.map λx=>Value.string (bs x)
def pF(F:bN)(w:aN)(v:aW)(l:List Int):Prop:=
 (l=[]/\∃x c,v=Uq x 0 c)\/∃g o c,v=Uq (Ua (aL g o)) (Ty l) c/\Ty l<=c/\F g/\∀i (h:i<Ty l),T_ w (aL g (o+i))=Ua (I_ l[i])/\ -9223372036854775808<=l[i]/\l[i]<=9223372036854775807
def pF.h_{w':aN}{v:aW}(h:pF R w v o)(a:∀b,R b->w'.heap[b]?=w.heap[b]?)(c:∀b,R b->p b):pF p w' v o:=by grind [World.cell?_of_block,pF]
structure dM(sh:Bool)(fp:iU)(F:bN)(b_:Nat)(w:aN)(sb gf cap:Nat)(t0 tv u_ s0:aW)(v_:List j_)(m:dA):Prop where
 i_:w.heap[sb]?=Ua (Uy #[t0,Uq (Ua (aL gf 0)) (Ty v_) cap,tv,u_,s0] 57)
 row:w.ownsRow b_ 111 6 (Uq (Ua (aL gf 0)) (Ty v_) cap) (Ty v_) (kQ v_)
 uy:lS sh fp F b_ w v_ m.f_
 tape:pF F w tv m.tape
 out:w.ownsRow b_ 9 1 u_ (Ty m.out) (pD m.out)
 nodup:(bE sh sb gf u_ v_).Nodup
 lt:∀k∈bE sh sb gf u_ v_,k<w.heap.size
 apart:∀k,F k->k<w.heap.size/\k∉bE sh sb gf u_ v_
def dM.step{c:Bool}{B:iU}{G:bN}{d:Nat}{s:aN}{x t:Nat}{H a K:aW}{g:List j_}{v p:j_}{m:List aI}{O:aI}{r:List Int}
 (h:dM c B R d w x n t N H a K (g++[v]) ⟨m++[f],r,z⟩) (Z:H_ w<=H_ s) (hc:∀k,k<H_ w->k≠n->k∉(v.ri c)->s.heap[k]?=w.heap[k]?)
 (Q:s.ownsRow d 111 6 (Uq (Ua (aL n 0)) (Ty g+1) t) (Ty g+1) (kQ (g++[p])))
 (A:SN c B G d s p O) (ho:∀k∈(p.ri c),k<H_ s/\(k∈(v.ri c)\/H_ w<=k)) (ab:(p.ri c).Nodup)
 (M:∀k,R k->G k) (hG:∀k,G k->R k\/(H_ w<=k/\k<H_ s/\k∉(p.ri c))):
 dM c B G d s x n t N H a K (g++[p]) ⟨m++[O],r,z⟩:=by
 have L:Ty (g++[p])=Ty (g++[v]):=s_
 have C:Ty (g++[p])=Ty g+1:=s_
 have o:∀u:j_,bE c x n a (g++[u])=(x::n::(a.ownBlock.toList++dD c g))++(u.ri c):=(by grind [bE,dD])
 have j:=h.nodup;have q:=h.lt;have l:=h.apart;rw[o]at j q l;generalize P:(x::n::(a.ownBlock.toList++dD c g))=i at j q l o;obtain⟨V,ad,Y⟩:=ja.1 j;have ac:∀k∈i,k<H_ w/\k∉(v.ri c):=(by grind)
 have J:x∈i:=G_
 have y:n∈i:=G_
 have aa:x≠n:=by grind
 have hFk :=λb W=>by obtain⟨X,E⟩:=l b W;exact hc b X (λe=>E (List.mem_append_left _ (by rw[e];exact y))) λhv=>E (jb _ hv)
 have S:∀u∈g,∀k∈(u.ri c),k∈i/\k≠n:=λu hu k I=>by
  have U:k∈dD c g:=(by grind [dD])
  grind
 have D:∀k,a.ownBlock=Ua k->k∈i/\k≠n:=λk I=>by grind
 refine⟨?_,G_,?_,h.tape.h_ hFk M,bC h.out λk I=>?_,?_,?_,?_⟩
 .grind [dM.i_]
 .obtain⟨ae,u,e,T,k2⟩:=lS.tq h.uy;obtain⟨rfl,e2⟩:=gd e rfl;exact(T.h_ hFk M G_).snoc A
 .grind
 .grind
 .grind
 grind
structure Kept(own:List Nat)(w w':aN):Prop where
 os:w'.os=w.os
 tape:w'.tape=w.tape
 output:w'.output=w.output
 size:w.heap.size<=w'.heap.size
 block:∀k,k<w.heap.size->k∉own->w'.heap[k]?=w.heap[k]?
structure ss(F G:bN)(n:Nat):Prop where
 sub:∀k,F k->G k
 new:∀k,G k->F k\/n<=k
theorem ss.refl(F:bN)(n:Nat):ss F F n:=⟨s_,G_⟩
theorem ss.trans{F G:bN}{m:Nat}(h:ss F G n)(k:ss G R m)(c:n<=m):ss F R n:=⟨λx a=>k.sub x (h.sub x a),λx a=>by
 rcases k.new x a with b|b
 .exact h.new x b
 exact aD⟩
def ss.le{m:Nat}(h:ss R p n)(b:m<=n):ss R p m:=⟨h.sub,λx a=>(h.new x a).imp_right (aD)⟩
def kS(sh:Bool)(fp:iU)(F:bN)(b_ sb gf:Nat)(t0 s0:aW)(own:List Nat)(w:aN)(m:dA)(w':aN):Prop:=
 Kept own w w'/\∃G cap tv u_ v_,ss F G w.heap.size/\dM sh fp G b_ w' sb gf cap t0 tv u_ s0 v_ m/\∀k∈bE sh sb gf u_ v_,k∈own\/w.heap.size<=k
def sw(fp:iU)(F:bN)(b_:Nat)(sb:Nat)(t0 s0:aW)(own:List Nat)(w:aN)(m:dA)(w':aN):Prop:=
 Kept own w w'/\∃G gf cap tv u_ v_,ss F G w.heap.size/\dM Uc fp G b_ w' sb gf cap t0 tv u_ s0 v_ m/\∀k∈bE Uc sb gf u_ v_,k∈own\/w.heap.size<=k
def kS.done{a:Nat}{d:aW}{own:List Nat}{m:dA}(h:kS Uc K R a E Q O d own w m q):sw K R a E O d own w m q:=by grind [sw,kS]
def BF{j:Nat}{a:List j_}{v:j_}{x:aW}(h:w.ownsRow E 111 6 (P_ (Ua (aL Q 0)) (Ty a+1) S) (Ty a+1) (kQ (a++[v])))(B:j<6):
 ∃b,w.heap[Q]?=Ua (cD b 111)/\(∀i,i<6->b[Ty a*6+i]?=v.cells[i]?)/\
  ∀W:aN,W.heap[Q]?=Ua (cD (b.setIfInBounds (Ty a*6+j) x) 111)->∀g:j_,g.cells=v.cells.set j x->W.ownsRow E 111 6 (P_ (Ua (aL Q 0)) (Ty a+1) S) (Ty a+1) (kQ (a++[g])):=by
 rcases h.2 with ⟨k,_⟩|⟨z,m,b,k,s,n,o,r,y,q⟩
 .cases k
 cases k;have f:∀u:j_,kQ (a++[u])=kQ a++u.cells:=(by grind [nC,kQ])
 have t:∀u:j_,Ty u.cells=6:=λ_=>aJ
 refine⟨b,n,λi A=>?_,λW p g l=>?_⟩
 .have:(kQ (a++[v]))[Ty a*6+i]?=v.cells[i]?:=by grind
  grind
 refine⟨by rw[jK];simp,ec ⟨Q,S,_,rfl,s,p,o,r,G_,?_⟩⟩
 rw[Array.toList_setIfInBounds,kh,q,f,f,l,List.set_append_right _ _ (by rw[jK];exact aD),jK,jy]
theorem Kept.refl(own:List Nat)(w:aN):Kept own w w:=⟨rfl,rfl,rfl,aD,s_⟩
theorem Kept.trans{own d:List Nat}{a b c:aN}(h:Kept own a b)(k:Kept d b c)(g:∀x∈d,x∈own\/a.heap.size<=x):Kept own a c:=
 ⟨k.os.trans h.os,k.tape.trans h.tape,k.output.trans h.output,eo h.size k.size,λx e f=>by rw[k.block x (ej e h.size) (G_),h.block x e f]⟩
theorem Kept.p_{own:List Nat}(h:R_ w q):Kept own w q:=⟨h.os,h.tape,h.output,h.size,λk b _=>h.block k b⟩
def dM.grow{G:bN}{c:Nat}{f:aN}{o:Nat}{a:aW}{d:List j_}{m:dA}(h:dM P K R c w o E Q O N a L d m)(u:R_ w f)(s:∀k,R k->G k)(x:∀k,G k->R k\/(w.heap.size<=k/\k<f.heap.size)):dM P K G c f o E Q O N a L d m:=by
 have hFk :=λb n=>u.block b (h.apart b n).1
 have j:∀k,k∈bE P o E a d->f.heap[k]?=w.heap[k]?:=(by grind [eg,dM.lt])
 refine⟨by grind [bE,dM.i_],bC h.row λk i=>?_,h.uy.h_ hFk s λv y k i=>j k ?_,h.tape.h_ hFk s,bC h.out pi,h.nodup,(by grind [dM.lt]),λk i=>?_⟩
 .cases i;grind [bE]
 .grind [dD,bE]
 grind [dM.apart]
def SX(Y_:d:=by have:=(ey.1 (ey.1 h.nodup).2).1;grind [dD]):d:=Y_
def dM.wa{n:Bool}{c:Nat}{p:aN}{o A:Nat}{d:aW}{s:List j_}{v:j_}{l:List aI}{q:List Int}{cur:Array Uf}{g u:aW}
 (h:dM n K R c w E o A O L d N (s++[v]) ⟨l++[f],q,z⟩) (P:w.heap[o]?=Ua (cD cur 111))
 (H:iE R w I f.ops) (Z:PV R w u a) (T:aK a<=200)
 (X:p.heap[o]?=Ua (cD (cur.setIfInBounds (Ty s*6+5) g) 111)) (p2:p.ownsRow c 263 1 g (Ty f.ops+1) (I++[u])) (p3:∀k,g.ownBlock=Ua k->v.ov.ownBlock=Ua k\/H_ w<=k) (y:Af o v.ov.ownBlock w p):
 dM n K R c p E o A O L d N (s++[{ v with ov:=g }]) ⟨l++[f.push a],q,z⟩/\Kept (bE n E o d (s++[v])) w p:=by
 obtain⟨aa,v0,e,S,t⟩:=lS.tq h.uy;obtain⟨rfl,W⟩:=gd e rfl;cases W;have r:=h.row;rw[show Ty (s++[v])=Ty s+1 by simp]at r
 obtain⟨C,c1,_,Y⟩:=BF (j:=5) (x:=g) r aD;obtain rfl:C=cur:=G_
 have V:∀k∈(v.ri n),k∈bE n E o d (s++[v]):=(by grind [bE,dD])
 have ab:o∉(v.ri n):=λhm=>by exact SX
 have U:(v.ri n).Nodup:=by grind [dM.nodup,bE,dD]
 have m:∀b,R b->p.heap[b]?=w.heap[b]?:=(by grind [dM.apart,Af.block,bE,j_.ri])
 have B:∀k,k<H_ w->k≠o->k∉(v.ri n)->p.heap[k]?=w.heap[k]?:=(by grind [Af.block,j_.ri])
 have J:∀k,n=Uc->v.vv.ownBlock=Ua k->k<H_ w/\k≠o/\v.ov.ownBlock≠Ua k:=λk Q M=>by
  have hm:k∈(v.ri n):=by simp[j_.ri,Q,M]
  grind [dM.lt,j_.ri]
 refine⟨h.step (G:=R) y.size B (Y p X _ aJ) ?_ ?_ ?_ (s_) (G_),?_⟩
 .refine⟨t.fn.h_ m s_,t.nx,t.ln,gQ.h_ m (s_) t.sp,t.g_.h_ m (s_) λQ k M=>?_,⟨I++[u],?_,?_⟩,?_⟩
  .grind [Af.block]
  .show p.ownsRow c 263 1 g (Ty (f.ops++[a])) _
   grind
  .exact(H.h_ m).append ⟨aJ,λi hi=>by
    obtain rfl:i=0:=G_
    exact⟨u,aJ,Z.h_ m⟩⟩
  intro b D;rcases fo.1 D with D|D
  .exact t.ops.2 b D
  grind
 .grind [Nat.lt_of_lt_of_le,Af.size,j_.ri,eG]
 .grind [j_.ri]
 exact⟨y.os,y.tape,y.output,y.size,pi⟩
structure bV(w w':aN):Prop where
 os:w'.os=w.os
 tape:w'.tape=w.tape
 output:w'.output=w.output
 heap:w'.heap=w.heap
abbrev pW(w0:aN)(sb fa fj:Nat):Prop:=∀W,bV w0 W->Ue Un 152 #[bF sb] W λe w'=>e=bY (Ut (Ua (aL fa fj)))/\bV w0 w'
abbrev AJ(w0:aN)(fa fj:Nat)(Q:Ui->Uf->Ug->Prop):Prop:=∀W,bV w0 W->Ue Un 182 #[Ut (Ua (aL fa fj))] W λe w'=>∃t z,e=bY (Uv t z)/\Q t z w'
theorem bV.refl(w:aN):bV w w:=⟨rfl,rfl,rfl,rfl⟩
theorem bV.drewN(w:aN)(n:Nat):bV w (w.drewN n):=⟨rfl,rfl,rfl,rfl⟩
theorem bV.drew(w:aN):bV w w.drew:=⟨rfl,rfl,rfl,rfl⟩
theorem bV.trans{a b c:aN}(h:bV a b)(k:bV b c):bV a c:=⟨k.os.trans h.os,k.tape.trans h.tape,k.output.trans h.output,k.heap.trans h.heap⟩
theorem bV.below{a:aN}(h:bV w a):R_ w a:=⟨h.os,h.tape,h.output,nz,λk _=>by rw[h.heap]⟩
def dM.top{u:Bool}{q e:Nat}{z:aW}{n:List j_}{c:List aI}{p:cY}(h:dM u K R Q w S q e O N L z n ⟨c++[f],o,p⟩):
 ∃b v a,n=b++[v]/\Ty b=Ty c/\SN u K R Q w v f/\w.heap[S]?=Ua (Uy #[O,Uq (Ua (aL q 0)) (Ty b+1) e,N,L,z] 57)/\w.heap[q]?=Ua (Uy a 111)/\Ty b+1<=e/\
  a[Ty b*6]?=Ua v.fp/\a[Ty b*6+1]?=Ua v.nx/\a[Ty b*6+2]?=Ua v.ln/\a[Ty b*6+3]?=Ua v.sp/\a[Ty b*6+4]?=Ua v.vv/\a[Ty b*6+5]?=Ua v.ov:=by
 obtain⟨b,v,rfl,D,C⟩:=lS.tq h.uy;have d:=h.row;have i:=h.i_;rw[show Ty (b++[v])=Ty b+1 by simp]at d i
 obtain⟨a,E,l,_⟩:=BF (j:=0) (x:=undef) d aD
 have m:Ty b+1<=e:=by
  rcases d.2 with ⟨r,_⟩|⟨I,t,a,r,J,G,H,_⟩
  .cases r
  grind
 exact⟨b,v,a,aJ,D.length,C,i,E,m,l 0 aD,l 1 aD,l 2 aD,l 3 aD,l 4 aD,l 5 aD⟩
theorem eO(h:q.heap=w.heap){a:Uj}(b:T_ w a=Ua O):T_ q a=Ua O:=by grind [World.cell?_of_block]
def UW(w c:aN)(j g i:Nat)(t:Ui)(z:aW)(P:mL)(d:T6 w (cD #[dH t z] 265)=c)
 (o:Ul (pW c j g i))
 (n:Ul (∀W,bV c W->Ue Un 342 #[Ut (Ua (aL g i)),dH t z] W λe w'=>e=fD/\P w')):
 Ue Un 341 #[Us #[dH t z],bF j] w λe w'=>e=fD/\P w':=by
 have a:(T6 w (cD #[dH t z] 265)).heap[w.heap.size]?=Ua (cD #[dH t z] 265):=aZ _ _ aJ _;rw[d]at a;have l:=aB d;have m:=aA (i:=0) a aJ;have f:=aB m;clear d a;go_in
 go_wp2_with fail;rw[l];go_region_law (go_simp;first|(refine(o _ (bV.drew _)).mono ?_;rintro e p ⟨rfl,b⟩;have q:=eO b.heap f)|(refine(n _ b).mono ?_;rintro e r ⟨rfl,k⟩))
 all_goals
  go_end0;grind
def E7{j:Bool}(I:iU)(F:bN)(d:Nat)(w:aN)(i g q:Nat)(N Q b M:aW)(D:List j_)(c:List aI)(f:aI)(m:List Int)(p:cY)(u:aW)(a:aE)
 (h:dM j I F d w i g q N Q b M D ⟨c++[f],m,p⟩) (U:PV F w u a) (H:aK a<=200) (P:Ty f.ops<=100000) (V:Ty c<=15) (K:d<=w.heap.size):
 Ue Un 341 #[Us #[u],bF i] w λe w'=>e=fD/\kS j I F d i g N M (bE j i g b D) w ⟨c++[f.push a],m,p⟩ w':=by
 obtain⟨t,z,rfl⟩:=U.form;have n:R_ w (eH w #[dH t z] 265):=(by grind [ep,dz])
 have S:(eH w #[dH t z] 265).heap[w.heap.size]?=Ua (cD #[dH t z] 265):=aZ _ _ aJ _;have J:=h.grow n (s_) (λ_ h=>ed h)
 have O:PV F (eH w #[dH t z] 265) (dH t z) a:=U.h_ λk L=>n.block k (h.apart k L).1
 generalize hW:eH w #[dH t z] 265=G at*;have HW:=aB hW;obtain⟨l,v,s,rfl,ac,hv,X,o,T,k0,k1,k2,k3,k4,k5⟩:=J.top;obtain⟨⟨xs,y,A⟩,r⟩:=hv.ops
 have B:v.ov.ownBlock≠Ua g:=λe=>by have:=(ey.1 (ey.1 J.nodup).2).1;grind [dD,j_.ri]
 have HT:Ul (pW G i g (Ty l*6)):=λW x=>by
  apply (AR i g (Ty l) q W ((by grind [bV.heap,aA])) aD).mono
  grind [bV.trans,bV.drewN]
 have HP:Ul (∀W,bV G W->Ue Un 342 #[Ut (Ua (aL g (Ty l*6))),dH t z] W λe w'=>e=fD/\kS j I F d i g N M (bE j i g b (l++[v])) w ⟨c++[f.push a],m,p⟩ w'):=λW x=>by
  have C:=x.below;have hR:=J.grow C (s_) (λ_ h=>ed h)
  apply (DN d g (Ty l*6) (Ty f.ops) s v.ov xs t z W (by rw[x.heap];exact o) k5 ((by grind [bC,bV.heap])) B nz aD).mono
  rintro e w' ⟨he,E,p1,p2,Y,Z⟩;obtain⟨q1,q2⟩:=hR.wa (cur:=s) (by rw[x.heap];exact o) (A.h_ λk _=>by rw[x.heap]) (O.h_ λk _=>by rw[x.heap]) H p1 p2 Y Z
  have L:Kept (bE j i g b (l++[v])) w w':=(Kept.p_ (own:=bE j i g b (l++[v])) (n.trans (C.mono n.size))).trans q2 G_
  refine⟨he,L,F,q,Q,b,_,ss.refl _ _,q1,λk aa=>?_⟩
  have ab:W.heap.size=G.heap.size:=by rw[x.heap]
  have h1:bE j i g b (l++[{ v with ov:=E }])=(i::g::(b.ownBlock.toList++dD j l))++({ v with ov:=E }:j_).ri j:=by simp[bE,dD]
  have h2:bE j i g b (l++[v])=(i::g::(b.ownBlock.toList++dD j l))++(v.ri j):=by simp[bE,dD]
  grind [j_.ri]
 clear y A r B;exact UW w G i g (Ty l*6) t z _ HW HT HP
def iE.split{m:List aE}(h:iE R w I (l++m)):∃b c,I=b++c/\Ty b=Ty l/\Ty c=Ty m/\iE R w b l/\iE R w c m:=by
 obtain⟨j,d⟩:=h;refine⟨I.take (Ty l),I.drop (Ty l),s_,G_,G_,⟨G_,λi g=>?_⟩,⟨G_,λi g=>?_⟩⟩
 .obtain⟨u,e,f⟩:=d i G_
  grind
 obtain⟨u,e,f⟩:=d (Ty l+i) G_
 grind
def iE.tq(h:iE R w I (l++[a])):∃b u,I=b++[u]/\Ty b=Ty l/\iE R w b l/\PV R w u a:=by
 obtain⟨b,g,e,k,d,n,f⟩:=h.split;match g,d with
 |[u],_=>
  obtain⟨j,i,m⟩:=f.2 0 s_
  grind
def dM.vm{t:iU}{i p:Nat}{y a z:aW}{l:List j_}{v v':j_}{d:List aI}{B:aI}{m:List Int}{o:cY}{j:Nat}{x:aW}
 (h:dM P t R Q w S i p O y a z (l++[v]) ⟨d++[f],m,o⟩) (K:j<6) (E:v'.cells=v.cells.set j x) (J:(v'.ri P)=(v.ri P)) (s:SN P t R Q w v' B):
 dM P t R Q (Tz w (aL i (Ty l*6+j)) x) S i p O y a z (l++[v']) ⟨d++[B],m,o⟩/\Kept (bE P S i a (l++[v])) w (Tz w (aL i (Ty l*6+j)) x):=by
 have n:=h.row;rw[show Ty (l++[v])=Ty l+1 by simp]at n
 obtain⟨I,M,_,N⟩:=BF (j:=j) (x:=x) n K;have u:∀k∈(v.ri P),k∈bE P S i a (l++[v]):=(by grind [bE,dD])
 have L:i∉(v.ri P):=λq=>by exact SX
 have C:(v.ri P).Nodup:=by grind [dM.nodup,bE,dD]
 have H:∀k,k≠i->(Tz w (aL i (Ty l*6+j)) x).heap[k]?=w.heap[k]?:=(by grind [em])
 have hFk :=λb D=>H b λe=>(h.apart b D).2 mi
 refine⟨h.step (G:=R) s_ (G_) ((by grind [aP])) (s.h_ hFk (s_) G_) (λk q=>?_) G_ (s_) (G_),⟨rfl,rfl,rfl,s_,pi⟩⟩
 rw[J]at q;exact⟨ej (h.lt k (u k q)) s_,ed q⟩
def eL(sh:Bool)(fp:iU)(b_ sb gf n:Nat)(t0 s0:aW)(own:List Nat)(w0:aN)(G:bN)(m:dA)(w:aN):Prop:=
 Kept own w0 w/\b_<=w.heap.size/\∃cap tv u_ v_,Ty v_=n+1/\dM sh fp G b_ w sb gf cap t0 tv u_ s0 v_ m/\∀k∈bE sh sb gf u_ v_,k∈own\/w0.heap.size<=k
section
variable {sh:Bool} {fp:iU} {b_ sb gf n:Nat} {t0 s0:aW} {own:List Nat} {w0 w w':aN} {G G':bN} {m:dA} {below:List aI} {f f':aI} {tape:List Int} {out:cY}
def eL.init{c:Nat}{d a:aW}{b:List j_}(h:dM sh fp G b_ w sb gf c t0 d a s0 b m)(f:Ty b=n+1)(e:b_<=H_ w)(ob:Obj):eL sh fp b_ sb gf n t0 s0 (bE sh sb gf a b) (w.alloc ob) G m (w.alloc ob):=
 ⟨Kept.refl _ _,eo e s_,c,d,a,b,f,h.grow (lr) (s_) (G_),G_⟩
theorem eL.same(h:eL sh fp b_ sb gf n t0 s0 own w0 G m w)(d:bV w w'):eL sh fp b_ sb gf n t0 s0 own w0 G m w':=by obtain⟨i,f,b,e,a,c,k,g,j⟩:=h;exact⟨i.trans (Kept.p_ (own:=[]) d.below) (s_),by rw[d.heap];exact f,b,e,a,c,k,g.grow d.below (s_) (G_),j⟩
theorem eL.grow(h:eL sh fp b_ sb gf n t0 s0 own w0 G m w)(d:R_ w w')(p:∀k,G k->G' k)(o:∀k,G' k->G k\/(w.heap.size<=k/\k<w'.heap.size)):eL sh fp b_ sb gf n t0 s0 own w0 G' m w':=by obtain⟨i,f,b,e,a,c,l,g,j⟩:=h;exact⟨i.trans (Kept.p_ (own:=[]) d) (s_),eo f d.size,b,e,a,c,l,g.grow d p o,j⟩
def eL.uz(h:eL sh fp b_ sb gf n t0 s0 own w0 G m w){k:Nat}(a:k<H_ w0)(b:k∉own):w.heap[k]?=w0.heap[k]?:=h.1.block k a b
theorem eL.su{F:bN}{ob:Obj}(h:eL sh fp b_ sb gf n t0 s0 own (w.alloc ob) G m w')(j:ss F G w.heap.size):kS sh fp F b_ sb gf t0 s0 own w m w':=by
 obtain⟨g,l,b,d,a,c,o,f,i⟩:=h
 exact⟨(Kept.p_ (own:=own) (lr)).trans g (G_),G,b,d,a,c,j,f,λk e=>by
  rcases i k e with h|h
  .grind
  exact ec (eo s_ h)⟩
theorem eL.done{F:bN}{ob:Obj}(h:eL Uc fp b_ sb gf n t0 s0 own (w.alloc ob) G m w')(a:ss F G w.heap.size):sw fp F b_ sb t0 s0 own w m w':=(h.su a).done
def eL.top(h:eL sh fp b_ sb gf n t0 s0 own w0 G m w)(l:n<=15):Ue Un 152 #[bF sb] w λe w'=>e=bY (Ut (Ua (aL gf (n*6))))/\bV w w':=by
 obtain⟨j,i,a,g,b,d,f,c,k⟩:=h;have:=c.i_;rw[f]at this;apply (AR sb gf n a w (aA this aJ) aD).mono
 grind [bV.drewN]
def eL.cells(h:eL sh fp b_ sb gf n t0 s0 own w0 G ⟨below++[f],tape,out⟩ w):∃v:j_,SN sh fp G b_ w v f/\gf<w.heap.size/\∀j x,v.cells[j]?=Ua x->T_ w (aL gf (n*6+j))=Ua x/\w.frozen? (aL gf (n*6+j))=Uc:=by
 obtain⟨C,A,o,B,g,s,E,l,D⟩:=h;obtain⟨t,v,q,rfl,r,y,e,a,c,m,i,u,k,z,p⟩:=l.top;have b:Ty t=n:=G_
 subst b;refine⟨v,y,G_,λj x d=>?_⟩
 have hj :=(hZ.1 d).1;refine⟨aA a ?_,aF a⟩;rw[<-d];match j,hj with
 |0,_=>exact m
 |1,_=>exact i
 |2,_=>exact u
 |3,_=>exact k
 |4,_=>exact z
 |5,_=>exact p
def eL.set(h:eL sh fp b_ sb gf n t0 s0 own w0 G ⟨below++[f],tape,out⟩ w)(j:Nat)(x:aW)(p:j<6)(g:j_->j_)(e:∀v,(g v).cells=v.cells.set j x)(l:∀v,SN sh fp G b_ w v f->(g v).ri sh=(v.ri sh))(a:∀v,SN sh fp G b_ w v f->SN sh fp G b_ w (g v) f'):
 eL sh fp b_ sb gf n t0 s0 own w0 G ⟨below++[f'],tape,out⟩ (Tz w (aL gf (n*6+j)) x):=by
 obtain⟨t,q,i,r,d,o,y,b,u⟩:=h;obtain⟨z,v,k,rfl,m,c,_⟩:=b.top;obtain⟨s,A⟩:=b.vm p (e v) (l v c) (a v c);grind [Kept.trans,Nat.le_trans,Kept.size,bE,dD,eL]
def Mn{Z_:Prop}(Y_:Z_:=by
 rcases fo.1 hk' with h3|h3
 .grind
 rcases fo.1 h3 with h3|h3
 .grind [j_.ri]
 have h4:ov'.ownBlock=Ua k:=G_
 rcases p3 k h4 with h6|h6
 .grind [j_.ri]
 exact ec (eo h1.size h6)):Z_:=Y_
def eL.push(h:eL sh fp b_ sb gf n t0 s0 own w0 G ⟨below++[f],tape,out⟩ w){t:Ui}{z:aW}{a:aE}(S:PV G w (Uv t z) a)(p:aK a<=200)(B:Ty f.ops<=100000):Ue Un 342 #[Ut (Ua (aL gf (n*6))),Uv t z] w λe w'=>e=fD/\eL sh fp b_ sb gf n t0 s0 own w0 G ⟨below++[f.push a],tape,out⟩ w':=by
 obtain⟨C,A,s,K,b,T,o,m,M⟩:=h;obtain⟨i,v,d,rfl,P,W,F,c,D,Z,X,k2,Y,k4,N⟩:=m.top;have x:Ty i=n:=G_
 subst x;obtain⟨⟨Q,j,q⟩,u⟩:=W.ops
 have r:v.ov.ownBlock≠Ua gf:=λe=>by have:=(ey.1 (ey.1 m.nodup).2).1;grind [dD,j_.ri]
 apply (DN b_ gf (Ty i*6) (Ty f.ops) d v.ov Q t z w c N j r A aD).mono
 rintro e w' ⟨V,g,O,J,y,I⟩;obtain⟨L,H⟩:=m.wa (cur:=d) c q S p O J y I;refine⟨V,C.trans H M,eo A H.size,s,K,b,_,s_,L,λk l=>?_⟩
 have U:bE sh sb gf b (i++[{ v with ov:=g }])=(sb::gf::(b.ownBlock.toList++dD sh i))++({ v with ov:=g }:j_).ri sh:=by simp[bE,dD]
 have e2:bE sh sb gf b (i++[v])=(sb::gf::(b.ownBlock.toList++dD sh i))++(v.ri sh):=by simp[bE,dD]
 rw[U]at l;rcases fo.1 l with o|o
 .grind
 rcases fo.1 o with o|o
 .grind [j_.ri]
 have m:g.ownBlock=Ua k:=G_
 rcases y k m with E|E
 .grind [j_.ri]
 exact ec (eo C.size E)
def eL.Bb(h:eL sh fp b_ sb gf n t0 s0 own w0 G ⟨below++[f],tape,out⟩ w){q:List aE}{a:aE}(D:f.ops=q++[a])(d:Ty f.ops<=100000):Ue Un 182 #[Ut (Ua (aL gf (n*6)))] w λe w'=>∃t z,e=bY (dH t z)/\PV G w' (dH t z) a/\aK a<=200/\eL sh fp b_ sb gf n t0 s0 own w0 G ⟨below++[f.pop],tape,out⟩ w'/\∀k,G k->w'.heap[k]?=w.heap[k]?:=by
 obtain⟨Y,S,K,U,H,O,h3,B,Z⟩:=h;obtain⟨s,v,r,rfl,N,i,F,m,C,W,Q,k2,V,k4,L⟩:=B.top;have y:Ty s=n:=G_
 subst y;obtain⟨⟨xs,b,l⟩,g⟩:=i.ops;rw[D]at b l g d;obtain⟨o,u,rfl,M,A,P⟩:=iE.tq l;obtain⟨t,z,rfl⟩:=P.form;rw[ew]at b d;apply (XA b_ gf (Ty s*6) (Ty q) r v.ov o _ w m L b M s_ aD).mono
 rintro e w' ⟨rfl,c,rfl,T,I⟩;have E:f.pop.ops=q:=by simp[aI.pop,D]
 have p:SN sh fp G b_ w { v with ov:=c } f.pop:=⟨i.fn,i.nx,i.ln,i.sp,i.g_,G_,G_⟩
 obtain⟨X,q2⟩:=B.vm (j:=5) (x:=c) (v':={ v with ov:=c }) aD rfl (by simp[j_.ri,I]) p
 have J:∀k,G k->(Tz w (aL gf (Ty s*6+5)) c).heap[k]?=w.heap[k]?:=(by grind [em,dM.apart,bE])
 grind [PV.h_,Kept.trans,Nat.le_trans,Kept.size,bE,dD,j_.ri,eL]
def eL.pop(h:eL sh fp b_ sb gf n t0 s0 own w0 G ⟨below++[f],tape,out⟩ w){vs:List aE}{a:aE}(c:f.ops=vs++[a])(b:Ty f.ops<=100000):Ue Un 182 #[Ut (Ua (aL gf (n*6)))] w λe w'=>∃t z,e=bY (Uv t z)/\PV G w' (Uv t z) a/\aK a<=200/\eL sh fp b_ sb gf n t0 s0 own w0 G ⟨below++[f.pop],tape,out⟩ w':=by
 apply (h.Bb c b).mono
 grind
end
def T7(k:Nat)(e:Ending):Prop:=(k=0/\e=fD)\/(k≠0/\e=jD k)
def qB(h:q.heap=w.heap)(a:E<w.heap.size):E<q.heap.size:=by rw[h];exact a
def xB(h:q.heap=w.heap){a:Uj}(b:w.frozen? a=Uc):q.frozen? a=Uc:=by
 have e:q.frozen? a=w.frozen? a:=by unfold World.frozen?;rw[h]
 rw[e];exact b
def XV(w b:aN)(g c f:Nat)(P:mL)(d:T6 w (cD #[] 374)=b)
 (l:Ul (pW b g c f))
 (k:Ul (∀W,bV b W->Ue Un 182 #[Ut (Ua (aL c f))] W λe w'=>∃t z,e=bY (dH t z)/\P w')):
 Ue Un 359 #[Us #[],bF g] w λe w'=>e=fD/\P w':=by
 have j:=aB d;clear d;go_in
 go_wp2_with fail;rw[j];refine(l _ (bV.refl _)).mono ?_;rintro e m ⟨rfl,a⟩;go_wp2_with fail;refine(k _ a).mono ?_;rintro e n ⟨t,z,rfl,i⟩;go_wp2
 go_end0;exact⟨aJ,i⟩
def PR(w g:aN)(n c i:Nat)(P S:mL)(l:Ui->Uf->Ug->Prop)(m:Bool->Ug->Prop)(k:T6 w (cD #[] 432)=g)
 (s:Ul (pW g n c i))
 (r:Ul (AJ g c i l))
 (q:Ul (∀W t z,l t z W->Ue Un 367 #[dH t z] W λe w'=>(∃b,e=bY (Uw b)/\m b w')\/(e=jD 2/\S w')))
 (o:Ul (∀W b,m b W->Ue Un 342 #[Ut (Ua (aL c i)),dH 319 (Uw b)] W λe w'=>e=fD/\P w')):
 Ue Un 385 #[Us #[],bF n] w λe w'=>(e=fD/\P w')\/(e=jD 2/\S w'):=by
 have p:=aB k;clear k;go_in
 go_wp2_with fail;rw[p];refine(s _ (bV.refl _)).mono ?_;rintro e v ⟨rfl,f⟩;go_wp2_with fail;refine(r _ f).mono ?_;rintro e y ⟨t,z,rfl,j⟩;have a:=aB (q _ t z j);clear j;go_wp2_with fail;refine a.mono ?_;rintro e x (⟨b,rfl,a⟩|⟨rfl,a⟩)
 .have d:=aB (o _ b a);clear a;go_wp2_with fail;refine d.mono ?_;rintro e u ⟨rfl,d⟩;go_wp2
  go_end0;exact ed ⟨aJ,d⟩
 go_wp2_with fail;exact⟨aJ,ec ⟨aJ,a⟩⟩
def LE(w k:aN)(o c d f:Nat)(P S:mL)(n:Ui->Uf->Ug->Prop)(g:Bool->Ug->Prop)(m:T6 w (cD #[I_ f] 407)=k)
 (y:Ul (pW k o c d))
 (x:Ul (AJ k c d n))
 (v:Ul (∀W t z,n t z W->Ue Un 367 #[dH t z] W λe w'=>(∃b,e=bY (Uw b)/\g b w')\/(e=jD 2/\S w')))
 (p:Ul (∀W,g true W->P W)) (r:Ul (∀W,g Uc W->P (Tz W (aL c (d+1)) (I_ f))))
 (q:Ul (∀W b,g b W->T_ W (aL w.heap.size 0)=Ua (I_ f)/\w.heap.size<W.heap.size/\(∃u,T_ W (aL c (d+1))=Ua u)/\W.frozen? (aL c (d+1))=Uc/\c<W.heap.size)):
 Ue Un 368 #[Us #[I_ f],bF o] w λe w'=>(e=fD/\P w')\/(e=jD 2/\S w'):=by
 have s:=aB m;clear m;go_in
 go_wp2_with fail;rw[s];refine(y _ (bV.refl _)).mono ?_;rintro e A ⟨rfl,j⟩;go_wp2_with fail;refine(x _ j).mono ?_;rintro e G ⟨t,z,rfl,l⟩;have a:=aB (v _ t z l);clear l;go_wp2_with fail;refine a.mono ?_;rintro e B (⟨b,rfl,a⟩|⟨rfl,a⟩)
 .obtain⟨C,D,⟨u,E⟩,H,F⟩:=q _ b a;cases b with
  |false=>
   have i:=aB (r _ a);clear a;go_wp2
   go_end0;exact ed ⟨aJ,i⟩
  |true=>
   have i:=aB (p _ a);clear a;go_wp2
   go_end0;exact ed ⟨aJ,i⟩
 go_wp2_with fail;exact⟨aJ,ec ⟨aJ,a⟩⟩
def WM(w c:aN)(n f g d:Nat)(P:mL)(k:T6 w (cD #[I_ d] 408)=c)
 (y:Ul (pW c n f g))
 (i:∃u,T_ c (aL f (g+1))=Ua u) (m:c.frozen? (aL f (g+1))=Uc) (s:f<c.heap.size)
 (t:Ul (∀W,bV c W->P (Tz W (aL f (g+1)) (I_ d)))):
 Ue Un 369 #[Us #[I_ d],bF n] w λe w'=>e=fD/\P w':=by
 have a:(T6 w (cD #[I_ d] 408)).heap[w.heap.size]?=Ua (cD #[I_ d] 408):=aZ _ _ aJ _;rw[k]at a;have v:=aB k;have q:=aA (i:=0) a aJ;have l:=aB q;have j:=aH a;obtain⟨u,i⟩:=i;have r:=aB i;have o:=aB m;clear k a i m;go_in
 go_wp2_with fail;rw[v];go_region_law (go_simp;go_at_call 152;refine(y _ (bV.drew _)).mono ?_;rintro e z ⟨rfl,b⟩;have A:=eO b.heap l;have B:=eO b.heap r;have C:=xB b.heap o;have x:=qB b.heap j;have p:=qB b.heap s)
 all_goals
  go_wp2
  go_end0;exact⟨aJ,t _ b⟩
def Tw(Y_:d:=by
 go_wp2_with fail;refine rf h4 λw4 h4=>?_
 obtain⟨d1,d2,⟨u,d3⟩,d4,d5⟩:=HB _ _ h4;have h5:=aB (HN _ _ h4 aJ);clear h4;go_wp2
 go_end0;grind [d7]):d:=Y_
def FR(w n:aN)(x f g j:Nat)(d:Bool)(P S:mL)(v:Ui->Uf->Ug->Prop)(k l:Bool->Ug->Prop)(q:T6 w (cD #[Uw d,I_ j] 434)=n)
 (L:Ul (pW n x f g))
 (K:Ul (AJ n f g v))
 (J:Ul (∀W t z,v t z W->Ue Un 367 #[dH t z] W λe w'=>(∃b,e=bY (Uw b)/\k b w')\/(e=jD 2/\S w')))
 (G:Ul (∀W b,k b W->Ue Un 342 #[Ut (Ua (aL f g)),dH 319 (Uw b)] W λe w'=>e=fD/\l b w'))
 (C:Ul (∀W b,k b W->b≠d->P W)) (s:Ul (∀W b,l b W->b=d->P (Tz W (aL f (g+1)) (I_ j))))
 (o:Ul (∀W b,k b W->T_ W (aL w.heap.size 0)=Ua (Uw d)/\w.heap.size<W.heap.size))
 (r:Ul (∀W b,l b W->T_ W (aL w.heap.size 1)=Ua (I_ j)/\w.heap.size<W.heap.size/\(∃u,T_ W (aL f (g+1))=Ua u)/\W.frozen? (aL f (g+1))=Uc/\f<W.heap.size)):
 Ue Un 386 #[Us #[Uw d,I_ j],bF x] w λe w'=>(e=fD/\P w')\/(e=jD 2/\S w'):=by
 have H:=aB q;clear q;go_in
 go_wp2_with fail;rw[H];refine(L _ (bV.refl _)).mono ?_;rintro e M ⟨rfl,m⟩;go_wp2_with fail;refine(K _ m).mono ?_;rintro e T ⟨t,z,rfl,p⟩;have c:=aB (J _ t z p);clear p;go_wp2_with fail;refine c.mono ?_;rintro e N (⟨b,rfl,c⟩|⟨rfl,c⟩)
 .obtain⟨O,Q⟩:=o _ b c;by_cases i:b=d
  .subst i;have a:=aB (G _ b c);clear c;cases b with
   |true=>
    go_wp2_with fail;refine a.mono ?_;rintro e y ⟨rfl,a⟩;obtain⟨D,A,⟨u,B⟩,I,F⟩:=r _ _ a;have E:=aB (s _ _ a aJ);clear a;go_wp2
    go_end0;grind [d7]
   |false=>
    go_wp2_with fail;refine a.mono ?_;rintro e y ⟨rfl,a⟩;obtain⟨D,A,⟨u,B⟩,I,F⟩:=r _ _ a;have E:=aB (s _ _ a aJ);clear a;go_wp2
    go_end0;grind [d7]
  have a:=aB (C _ b c i);clear c;cases b<;>cases d<;>first|exact eu aJ i|(clear i;go_wp2;go_end0;grind [d7])
 go_wp2_with fail;exact⟨aJ,G_⟩
def Qk(Y_:d:=by
 have h7:=aB (HU _ _ _ h6);clear h6;go_wp2_with fail;refine rf h7 λw5 h8=>?_
 go_wp2
 go_end0;grind):d:=Y_
def MU(w m:aN)(v c f:Nat)(d:bP)(k:Nat)(P S:mL)(u:Ui->Uf->Ug->Prop)(p:Ui->Uf->Ui->Uf->Ug->Prop)(r:Ui->Uf->Ug->Prop)(s:T6 w (cD #[Q_ (bs d)] 431)=m)
 (G:Ul (pW m v c f))
 (F:Ul (AJ m c f u))
 (o:Ul (∀W t z,u t z W->Ue Un 182 #[Ut (Ua (aL c f))] W λe w'=>∃a b,e=bY (dH a b)/\p t z a b w'))
 (x:Ul (∀W t z a b,p t z a b W->T_ W (aL w.heap.size 0)=Ua (Q_ (bs d))/\w.heap.size<W.heap.size))
 (E:Ul (∀W t z a b,p t z a b W->Ue Un 377 #[Q_ (bs d),dH a b,dH t z] W λe w'=>(∃j i,e=bY (dH j i)/\r j i w')\/(e=jD k/\S w')))
 (C:Ul (∀W t z,r t z W->Ue Un 342 #[Ut (Ua (aL c f)),dH t z] W λe w'=>e=fD/\P w')):
 Ue Un 376 #[Us #[Q_ (bs d)],bF v] w λe w'=>(e=fD/\P w')\/(e=jD k/\S w'):=by
 have D:=aB s;clear s;go_in
 go_wp2_with fail;rw[D];refine(G _ (bV.refl _)).mono ?_;rintro e I ⟨rfl,l⟩;go_wp2_with fail;refine(F _ l).mono ?_;rintro e N ⟨t,z,rfl,q⟩;have B:=aB (o _ t z q);clear q;go_wp2_with fail;refine B.mono ?_;rintro e J ⟨a,b,rfl,g⟩;obtain⟨K,L⟩:=x _ _ _ _ _ g;have A:=aB (E _ _ _ _ _ g);clear g;go_wp2_with fail;refine A.mono ?_;rintro e H (⟨j,i,rfl,n⟩|⟨rfl,n⟩)
 .have y:=aB (C _ _ _ n);clear n;go_wp2_with fail;refine y.mono ?_;rintro e O ⟨rfl,M⟩;go_wp2
  go_end0;grind
 go_wp2_with fail;exact⟨aJ,G_⟩
def RB(w j:aN)(u c d:Nat)(k:Nat)(P S:mL)(r:Ui->Uf->Ug->Prop)(s:Ui->Uf->Ui->Uf->Ug->Prop)(o:Ui->Uf->Ug->Prop)(p:T6 w (cD #[] 400)=j)
 (E:Ul (pW j u c d))
 (D:Ul (AJ j c d r))
 (m:Ul (∀W t z,r t z W->Ue Un 182 #[Ut (Ua (aL c d))] W λe w'=>∃a b,e=bY (dH a b)/\s t z a b w'))
 (C:Ul (∀W t z a b,s t z a b W->Ue Un 364 #[dH a b,dH t z] W λe w'=>(∃g f,e=bY (dH g f)/\o g f w')\/(e=jD k/\S w')))
 (A:Ul (∀W t z,o t z W->Ue Un 342 #[Ut (Ua (aL c d)),dH t z] W λe w'=>e=fD/\P w')):
 Ue Un 363 #[Us #[],bF u] w λe w'=>(e=fD/\P w')\/(e=jD k/\S w'):=by
 have B:=aB p;clear p;go_in
 go_wp2_with fail;rw[B];refine(E _ (bV.refl _)).mono ?_;rintro e G ⟨rfl,i⟩;go_wp2_with fail;refine(D _ i).mono ?_;rintro e J ⟨t,z,rfl,n⟩;have y:=aB (m _ t z n);clear n;go_wp2_with fail;refine y.mono ?_;rintro e H ⟨a,b,rfl,q⟩;have x:=aB (C _ _ _ _ _ q);clear q;go_wp2_with fail;refine x.mono ?_;rintro e F (⟨g,f,rfl,l⟩|⟨rfl,l⟩)
 .have v:=aB (A _ _ _ l);clear l;go_wp2_with fail;refine v.mono ?_;rintro e K ⟨rfl,I⟩;go_wp2
  go_end0;grind
 go_wp2_with fail;exact⟨aJ,G_⟩
def LY(w f:aN)(n a g:Nat)(k:Nat)(P S:mL)(l i:Ui->Uf->Ug->Prop)(j:T6 w (cD #[] 409)=f)
 (x:Ul (pW f n a g))
 (v:Ul (AJ f a g l))
 (u:Ul (∀W t z,l t z W->Ue Un 371 #[dH t z] W λe w'=>(∃c b,e=bY (dH c b)/\i c b w')\/(e=jD k/\S w')))
 (r:Ul (∀W t z,i t z W->Ue Un 342 #[Ut (Ua (aL a g)),dH t z] W λe w'=>e=fD/\P w')):
 Ue Un 370 #[Us #[],bF n] w λe w'=>(e=fD/\P w')\/(e=jD k/\S w'):=by
 have s:=aB j;clear j;go_in
 go_wp2_with fail;rw[s];refine(x _ (bV.refl _)).mono ?_;rintro e A ⟨rfl,d⟩;go_wp2_with fail;refine(v _ d).mono ?_;rintro e C ⟨t,z,rfl,o⟩;have q:=aB (u _ t z o);go_wp2_with fail;refine q.mono ?_;rintro e y (⟨c,b,rfl,m⟩|⟨rfl,m⟩)
 .have p:=aB (r _ _ _ m);go_wp2_with fail;refine p.mono ?_;rintro e D ⟨rfl,B⟩;go_wp2
  go_end0;grind
 exact⟨aJ,G_⟩
def WE(w n:aN)(u g p c:Nat)(k:Nat)(P S:mL)(s:Option Uj->Nat->Ug->Prop)(r:Ui->Uf->Ug->Prop)(j:T6 w (Uy #[I_ c] 399)=n)
 (D:Ul (pW n u g p))
 (C:Ul (∀W,bV n W->Ue Un 351 #[Ut (Ua (aL g p)),I_ c] W λe w'=>∃x d,e=bY (Uq x c d)/\s x d w'))
 (B:Ul (∀W x d,s x d W->Ue Un 362 #[Uq x c d] W λe w'=>(∃m l,e=bY (Uv m l)/\r m l w')\/(e=jD k/\S w')))
 (HU:Ul (∀W t z,r t z W->Ue Un 342 #[Ut (Ua (aL g p)),Uv t z] W λe w'=>e=fD/\P w')):
 Ue Un 361 #[Us #[I_ c],bF u] w λe w'=>(e=fD/\P w')\/(e=jD k/\S w'):=by
 have a:(T6 w (Uy #[I_ c] 399)).heap[w.heap.size]?=Ua (Uy #[I_ c] 399):=aZ _ _ aJ _;rw[j]at a;have y:=aB j;have o:=aB (aA (i:=0) a aJ);have f:=aH a;clear j a;go_in
 go_wp2_with fail;rw[y];refine rf (D _ (bV.refl _)) λF b=>?_
 have G:=eO b.heap o;have A:=qB b.heap f;go_wp2_with fail;apply (C _ b).mono
 rintro e H ⟨x,d,rfl,q⟩;have v:=aB (B _ x d q);clear q;go_wp2_with fail;apply v.mono
 rintro e E (⟨m,l,rfl,h6⟩|⟨rfl,h6⟩)
 .exact Qk
 go_wp2_with fail;exact⟨aJ,G_⟩
def U3{P:Program}{b:Array Oper}{o:Oper}{a:Act}{K:Act->Ug->Prop}{Q:Exit->Act->Ug->Prop}(c:aW)
 (h:if Region.wanted o (yielded b a.tmps)=true then Oper.wp P o a w K Q else d) (_d:Ul False->K (a.put o.dst c) w):
 if Region.wanted o (yielded b a.tmps)=true then Oper.wp P o a w K Q else d:=h
def ZW(w m:aN)(s g p:Nat)(d:bP)(P:mL)(n r:Ui->Uf->Ug->Prop)(j:T6 w (cD #[Q_ (bs d)] 402)=m)
 (D:Ul (pW m s g p))
 (C:Ul (AJ m g p n))
 (u:Ul (∀W t z,n t z W->T_ W (aL w.heap.size 0)=Ua (Q_ (bs d))/\w.heap.size<W.heap.size))
 (B:Ul (∀W t z,n t z W->Ue Un 366 #[Q_ (bs d),dH t z] W λe w'=>∃l k,e=bY (dH l k)/\r l k w'))
 (x:Ul (∀W t z,r t z W->Ue Un 342 #[Ut (Ua (aL g p)),dH t z] W λe w'=>e=fD/\P w')):
 Ue Un 365 #[Us #[Q_ (bs d)],bF s] w λe w'=>e=fD/\P w':=by
 have a:(T6 w (cD #[Q_ (bs d)] 402)).heap[w.heap.size]?=Ua (cD #[Q_ (bs d)] 402):=aZ _ _ aJ _;rw[j]at a;have y:=aB j;have o:=aB (aA (i:=0) a aJ);have f:=aH a;clear j a;go_in
 go_wp2_with fail;rw[y];refine(D _ (bV.refl _)).mono ?_;rintro e F ⟨rfl,b⟩;have J:=eO b.heap o;have A:=qB b.heap f;go_wp2
 go_region_law (go_simp;first|(go_at_call 182;refine(C _ (b.trans (bV.drew _))).mono ?_;rintro e L ⟨t,z,rfl,q⟩;have c:=u _ _ _ q;have G:=c.1;have K:=c.2;clear c)|(go_at_call 366;refine(B _ _ _ q).mono ?_;rintro e H ⟨l,k,rfl,v⟩)|(go_at_call 342;refine(x _ _ _ v).mono ?_;rintro e E ⟨rfl,I⟩))
 all_goals
  go_wp2
  go_end0;grind
def PP(w m:aN)(s q r:Nat)(f:bP)(k:Nat)(S:mL)(n:Ui->Uf->Ug->Prop)(l:T6 w (cD #[Q_ (bs f)] 402)=m)
 (C:Ul (pW m s q r))
 (B:Ul (AJ m q r n))
 (u:Ul (∀W t z,n t z W->T_ W (aL w.heap.size 0)=Ua (Q_ (bs f))/\w.heap.size<W.heap.size))
 (A:Ul (∀W t z,n t z W->Ue Un 366 #[Q_ (bs f),dH t z] W λe w'=>e=jD k/\S w')):
 Ue Un 365 #[Us #[Q_ (bs f)],bF s] w λe w'=>e=jD k/\S w':=by
 have b:(T6 w (cD #[Q_ (bs f)] 402)).heap[w.heap.size]?=Ua (cD #[Q_ (bs f)] 402):=aZ _ _ aJ _;rw[l]at b;have x:=aB l;have o:=aB (aA (i:=0) b aJ);have j:=aH b;clear l b;go_in
 go_wp2_with fail;rw[x];refine(C _ (bV.refl _)).mono ?_;rintro e D ⟨rfl,c⟩;have G:=eO c.heap o;have y:=qB c.heap j;go_wp2
 go_region_law (first|(go_simp;go_at_call 182;refine(B _ (c.trans (bV.drew _))).mono ?_;rintro e I ⟨t,z,rfl,p⟩;have d:=u _ _ _ p;have E:=d.1;have H:=d.2;clear d)|(refine U3 (Uv 319 (Uw true)) ?_ ?_;(focus go_simp;go_at_call 366;refine(A _ _ _ p).mono ?_;rintro e F ⟨rfl,v⟩;exact⟨aJ,aJ,v⟩);intro a)|(refine U3 (.tuple #[]) a.out.elim ?_;intro g))
 all_goals exact a.out.elim
def WB(w d:aN)(u l q c g n o:Nat)(t:Ui)(z:aW)(P:mL)(m:T6 w (cD #[I_ c] 397)=d)
 (C:Ul (pW d u l q))
 (s:T_ d (aL l (q+4))=Ua (P_ (Ua (aL g 0)) n o)) (r:T_ d (aL g c)=Ua (dH t z)) (v:c<n)
 (y:Ul (∀W,bV d W->Ue Un 342 #[Ut (Ua (aL l q)),dH t z] W λe w'=>e=fD/\P w')):
 Ue Un 360 #[Us #[I_ c],bF u] w λe w'=>e=fD/\P w':=by
 have a:(T6 w (cD #[I_ c] 397)).heap[w.heap.size]?=Ua (cD #[I_ c] 397):=aZ _ _ aJ _;rw[m]at a;have A:=aB m;have f:=aB (aA (i:=0) a aJ);have j:=aH a;have k:=aB s;have p:=aB r;have K:(0:Int)<=(c:Int):=aD;have G:(c:Int)<(n:Int):=aD;clear m a s r;go_in
 go_wp2_with fail;rw[A];have F:=f.out;go_region_law (go_simp;first|(go_at_call 152;refine(C _ (by first|assumption|exact bV.drew _)).mono ?_;rintro e E ⟨rfl,b⟩;have H:=eO b.heap f;have B:=qB b.heap j;have I:=eO b.heap k;have J:=eO b.heap p)|(go_at_call 342;refine(y _ b).mono ?_;rintro e D ⟨rfl,x⟩))
 all_goals
  go_wp2
  go_end0;exact⟨aJ,x⟩
def SG(w g:aN)(y f j p:Nat)(k:Option Uj)(P:mL)(r:T6 w (cD #[I_ p,Ut k] 276)=g)
 (D:Ul (pW g y f j))
 (c:∃u,T_ g (aL f (j+2))=Ua u) (d:∃u,T_ g (aL f (j+3))=Ua u) (n:g.frozen? (aL f (j+2))=Uc) (m:g.frozen? (aL f (j+3))=Uc) (A:f<g.heap.size)
 (L:Ul (∀W,bV g W->P (Tz (Tz W (aL f (j+2)) (I_ p)) (aL f (j+3)) (Ut k)))):
 Ue Un 344 #[Us #[I_ p,Ut k],bF y] w λe w'=>e=fD/\P w':=by
 have a:(T6 w (cD #[I_ p,Ut k] 276)).heap[w.heap.size]?=Ua (cD #[I_ p,Ut k] 276):=aZ _ _ aJ _;rw[r]at a;have B:=aB r;have o:=aB (aA (i:=0) a aJ);have l:=aB (aA (i:=1) a aJ);have q:=aH a;obtain⟨u2,c⟩:=c;obtain⟨u3,d⟩:=d;have x:=aB c;have s:=aB d;have t:=aB n;have v:=aB m;have I:=o.out;have J:=l.out;clear r a c d n m;go_in
 go_wp2_with fail;rw[B];go_region_law (go_simp;go_at_call 152;refine(D _ (bV.drew _)).mono ?_;rintro e E ⟨rfl,b⟩;have K:=eO b.heap o;have H:=eO b.heap l;have F:=eO b.heap x;have G:=eO b.heap s;have N:=xB b.heap t;have M:=xB b.heap v;have C:=qB b.heap q;have z:=qB b.heap A)
 all_goals
  go_wp2
  go_end0;grind [d7]
theorem uO(n:Int):aK (bA n)=1:=r_
theorem pS(b:Bool):aK (cG b)=1:=r_
theorem oB:aK aY<=200:=d_
def Fy(b:bP)(a:aE):aK (dI b a).1<=200:=by
 unfold dI;repeat' split
 all_goals first|(exact aD)|grind [pS]|exact oB
theorem M1(a:bP)(x y:Int):aK (jE a x y).1<=200:=by
 unfold jE;repeat' split
 all_goals first|(exact aD)|(grind [pS])|exact oB
theorem QY(a b:aE):aK (gA a b).1<=200:=by grind [gA,oB]
def j7(c:bP)(a b:aE):aK (dJ c a b).1<=200:=by grind [dJ,M1,QY,pS,oB]
def WG(r:aE × Nat)(h:(jG r).2=0):aK (jG r).1<=200:=by grind [jG]
theorem PV.bool{v:aW}(h:PV R w v a)(d:a.c_=1):a=cG (decide (a.n=1)):=by
 rcases h.cases with ⟨n,_,rfl,_⟩|⟨b,_,rfl⟩|⟨s,_,rfl⟩|⟨x,c,l,_,rfl,_⟩
 .simp[bA]at d
 .cases b<;>rfl
 .simp[bQ]at d
 simp[bG]at d
theorem nW(h:f.ops=l++[a]):f.last=a:=by simp[aI.last,h]
def BI(h:f.ops=l++[a]):f.pop.ops=l:=by simp[aI.pop,h]
def lJ(sh:Bool)(fp:iU)(F:bN)(b_ sb gf:Nat)(t0 s0:aW)(own:List Nat)(w:aN)(below:List aI)(tape:List Int)(out:cY)(r:aI × Nat)(e:Ending)(w':aN):Prop:=
 T7 r.2 e/\kS sh fp F b_ sb gf t0 s0 own w ⟨below++[r.1],tape,out⟩ w'
def zy(fp:iU)(F:bN)(b_ sb:Nat)(t0 s0:aW)(own:List Nat)(w:aN)(below:List aI)(tape:List Int)(out:cY)(r:aI × Nat)(e:Ending)(w':aN):Prop:=
 T7 r.2 e/\sw fp F b_ sb t0 s0 own w ⟨below++[r.1],tape,out⟩ w'
section
variable {sh:Bool} {fp:iU} {F:bN} {b_:Nat} {w:aN} {sb gf cap:Nat} {t0 tv u_ s0:aW} {v_:List j_} {below:List aI} {f:aI} {tape:List Int} {out:cY}
theorem lJ.ok{own:List Nat}{r:aI × Nat}{g:aI}{a:aN}(b:r=(g,0))(h:kS sh fp F b_ sb gf t0 s0 own w ⟨below++[g],tape,out⟩ a):lJ sh fp F b_ sb gf t0 s0 own w below tape out r (fD) a:=by subst b;exact⟨ed s_,h⟩
theorem lJ.stop{own:List Nat}{r:aI × Nat}{g:aI}{k:Nat}{a:aN}(b:r=(g,k))(c:k≠0)(h:kS sh fp F b_ sb gf t0 s0 own w ⟨below++[g],tape,out⟩ a):lJ sh fp F b_ sb gf t0 s0 own w below tape out r (jD k) a:=by subst b;exact⟨ec G_,h⟩
def lJ.Cm{own:List Nat}{r:aI × Nat}{e:Ending}{a:aN}(h:lJ Uc fp F b_ sb gf t0 s0 own w below tape out r e a):zy fp F b_ sb t0 s0 own w below tape out r e a:=⟨h.1,h.2.done⟩
theorem zy.ok{own:List Nat}{r:aI × Nat}{g:aI}{a:aN}(b:r=(g,0))(h:sw fp F b_ sb t0 s0 own w ⟨below++[g],tape,out⟩ a):zy fp F b_ sb t0 s0 own w below tape out r (fD) a:=by subst b;exact⟨ed s_,h⟩
theorem zy.stop{own:List Nat}{r:aI × Nat}{g:aI}{k:Nat}{a:aN}(b:r=(g,k))(c:k≠0)(h:sw fp F b_ sb t0 s0 own w ⟨below++[g],tape,out⟩ a):zy fp F b_ sb t0 s0 own w below tape out r (jD k) a:=by subst b;exact⟨ec G_,h⟩
def dM.count{m:dA}(h:dM sh fp F b_ w sb gf cap t0 tv u_ s0 v_ m):Ty v_=Ty m.f_:=h.uy.length
def dM.xg(h:dM sh fp F b_ w sb gf cap t0 tv u_ s0 v_ ⟨below++[f],tape,out⟩)(a:b_<=w.heap.size)(ob:Obj):eL sh fp b_ sb gf (Ty below) t0 s0 (bE sh sb gf u_ v_) (w.alloc ob) F ⟨below++[f],tape,out⟩ (w.alloc ob):=
 eL.init h (by rw[h.count];simp) a ob
def eL.uh{own:List Nat}{a:aN}{G:bN}{n:Nat}{m:dA}(h:eL sh fp b_ sb gf n t0 s0 own a G m a)(c:n<=15):Ul (pW a sb gf (n*6)):=λW b=>by
 apply ((h.same b).top c).mono
 grind [bV.trans]
theorem eL.box{n:Nat}{G:bN}{m:dA}{a:Array Uf}{b:Ui}{W:aN}(h:dM sh fp F b_ w sb gf cap t0 tv u_ s0 v_ ⟨below++[f],tape,out⟩)(d:eL sh fp b_ sb gf n t0 s0 (bE sh sb gf u_ v_) (eH w a b) G m W):W.heap[H_ w]?=Ua (cD a b):=by
 rw[d.uz s_ λc=>Nat.lt_irrefl _ (h.lt _ c)]
 exact aZ _ _ aJ _
def Sa(h:dM sh fp F b_ w sb gf cap t0 tv u_ s0 v_ ⟨below++[f],tape,out⟩)(c:Ty below<=15)(b:b_<=H_ w)(i:Ty f.ops<=99000)(d:∃e a,f.ops=e++[a]):
 Ue Un 359 #[Us #[],bF sb] w (lJ sh fp F b_ sb gf t0 s0 (bE sh sb gf u_ v_) w below tape out (aR .drop f)):=by
 obtain⟨e,a,j⟩:=d;have g:=h.xg b (cD #[] 374);refine(XV w _ sb gf (Ty below*6) (λk=>kS sh fp F b_ sb gf t0 s0 (bE sh sb gf u_ v_) w ⟨below++[f.pop],tape,out⟩ k) aJ (g.uh c) λW l=>?_).mono ?_
 .apply ((g.same l).pop j aD).mono
  grind [eL.su,ss.refl]
 grind [lJ.ok,aR]
def Jt(h:dM sh fp F b_ w sb gf cap t0 tv u_ s0 v_ ⟨below++[f],tape,out⟩)(d:Ty below<=15)(c:b_<=H_ w)(n:Ty f.ops<=99000)(j:∃o a,f.ops=o++[a]):
 Ue Un 385 #[Us #[],bF sb] w (lJ sh fp F b_ sb gf t0 s0 (bE sh sb gf u_ v_) w below tape out (aR .sk f)):=by
 obtain⟨o,a,p⟩:=j;have m:=h.xg c (cD #[] 432);have r:Ty f.pop.ops<=100000:=by grind [aI.pop]
 refine(PR w _ sb gf (Ty below*6) (λg=>a.c_=1/\kS sh fp F b_ sb gf t0 s0 (bE sh sb gf u_ v_) w ⟨below++[f.pop.push a],tape,out⟩ g) (λg=>a.c_≠1/\kS sh fp F b_ sb gf t0 s0 (bE sh sb gf u_ v_) w ⟨below++[f.pop],tape,out⟩ g)
  (λt z W=>PV F W (dH t z) a/\aK a<=200/\eL sh fp b_ sb gf (Ty below) t0 s0 (bE sh sb gf u_ v_) (eH w #[] 432) F ⟨below++[f.pop],tape,out⟩ W)
  (λb W=>a.c_=1/\a=cG b/\eL sh fp b_ sb gf (Ty below) t0 s0 (bE sh sb gf u_ v_) (eH w #[] 432) F ⟨below++[f.pop],tape,out⟩ W) rfl (m.uh d) (λW s=>?_) (λW t z l=>?_) λW b l=>?_).mono ?_
 .apply ((m.same s).pop p aD).mono
  simp
 .obtain⟨i,k,q⟩:=l;apply (uC F _ a W i).mono
  grind [PV.bool,eL.su,ss.refl]
 .obtain⟨i,k,q⟩:=l;apply (q.push (PV.xd F W b) (by rw[pS];exact aD) r).mono
  grind [eL.su,ss.refl]
 have u:aR .sk f=if a.c_=1 then (f.pop.push a,0)else (f.pop,2):=by simp[aR,nW p]
 rintro e g (⟨rfl,i,k⟩|⟨rfl,i,k⟩)
 .grind [lJ.ok]
 grind [lJ.stop]
end
section
variable {sh:Bool} {fp:iU} {F:bN} {b_:Nat} {w:aN} {sb gf cap:Nat} {t0 tv u_ s0:aW} {v_:List j_} {below:List aI} {f:aI} {tape:List Int} {out:cY}
def eL.next{own:List Nat}{c:aN}{G:bN}{n:Nat}(h:eL sh fp b_ sb gf n t0 s0 own c G ⟨below++[f],tape,out⟩ w)(b:Nat):eL sh fp b_ sb gf n t0 s0 own c G ⟨below++[{ f with next:=b }],tape,out⟩ (Tz w (aL gf (n*6+1)) (I_ b)):=
 h.set 1 (I_ b) aD (λv=>{ v with nx:=I_ b }) (λ_=>rfl) (λ_ _=>rfl) λ_ a=>⟨a.fn,rfl,a.ln,a.sp,a.g_,a.ops⟩
theorem eL.cell{own:List Nat}{b:aN}{G:bN}{n:Nat}(h:eL sh fp b_ sb gf n t0 s0 own b G ⟨below++[f],tape,out⟩ w)(j:Nat)(a:j<6):(∃u,T_ w (aL gf (n*6+j))=Ua u)/\w.frozen? (aL gf (n*6+j))=Uc/\gf<w.heap.size:=by
 obtain⟨v,d,e,c⟩:=h.cells;obtain⟨i,g⟩:=c j (v.cells[j]'(by simpa [j_.cells]using a)) (fe _)
 grind
def Hl(b:Nat)(h:dM sh fp F b_ w sb gf cap t0 tv u_ s0 v_ ⟨below++[f],tape,out⟩)(c:Ty below<=15)(a:b_<=H_ w):
 Ue Un 369 #[Us #[I_ b],bF sb] w (lJ sh fp F b_ sb gf t0 s0 (bE sh sb gf u_ v_) w below tape out (aR (.jump b) f)):=by
 have d:=h.xg a (cD #[I_ b] 408);obtain⟨j,g,k⟩:=d.cell 1 aD;refine(WM w _ sb gf (Ty below*6) b (λe=>kS sh fp F b_ sb gf t0 s0 (bE sh sb gf u_ v_) w ⟨below++[{ f with next:=b }],tape,out⟩ e) rfl (d.uh c) j g k λW i=>?_).mono ?_
 .exact((d.same i).next b).su (ss.refl _ _)
 grind [lJ.ok,aR]
def i6(c:Nat)(h:dM sh fp F b_ w sb gf cap t0 tv u_ s0 v_ ⟨below++[f],tape,out⟩)(j:Ty below<=15)(d:b_<=H_ w)(o:Ty f.ops<=99000)(l:∃p a,f.ops=p++[a]):
 Ue Un 368 #[Us #[I_ c],bF sb] w (lJ sh fp F b_ sb gf t0 s0 (bE sh sb gf u_ v_) w below tape out (aR (.skip c) f)):=by
 obtain⟨p,a,q⟩:=l;have n:=h.xg d (cD #[I_ c] 407)
 refine(LE w _ sb gf (Ty below*6) c (λk=>a.c_=1/\kS sh fp F b_ sb gf t0 s0 (bE sh sb gf u_ v_) w ⟨below++[if a.n=1 then f.pop else { f.pop with next:=c }],tape,out⟩ k) (λk=>a.c_≠1/\kS sh fp F b_ sb gf t0 s0 (bE sh sb gf u_ v_) w ⟨below++[f.pop],tape,out⟩ k)
  (λt z W=>PV F W (dH t z) a/\aK a<=200/\eL sh fp b_ sb gf (Ty below) t0 s0 (bE sh sb gf u_ v_) (eH w #[I_ c] 407) F ⟨below++[f.pop],tape,out⟩ W)
  (λb W=>a.c_=1/\b=decide (a.n=1)/\eL sh fp b_ sb gf (Ty below) t0 s0 (bE sh sb gf u_ v_) (eH w #[I_ c] 407) F ⟨below++[f.pop],tape,out⟩ W) rfl (n.uh j) (λW s=>?_) (λW t z g=>?_) (λW g=>?_) (λW g=>?_) λW b g=>?_).mono ?_
 .apply ((n.same s).pop q aD).mono
  simp
 .obtain⟨i,m,r⟩:=g;apply (uC F _ a W i).mono
  grind [eL.su,ss.refl]
 .grind [eL.su,ss.refl]
 .obtain⟨i,m,r⟩:=g;refine⟨i,?_⟩;rw[ea (G_)]
  exact(r.next c).su (ss.refl _ _)
 .grind [eL.box,eL.cell,aA]
 have u:aR (.skip c) f=if a.c_=1 then (if a.n=1 then f.pop else { f.pop with next:=c },0)else (f.pop,2):=by simp[aR,nW q]
 rintro e k (⟨rfl,i,m⟩|⟨rfl,i,m⟩)
 .grind [lJ.ok]
 grind [lJ.stop]
def UO(d:Bool)(c:Nat)(h:dM sh fp F b_ w sb gf cap t0 tv u_ s0 v_ ⟨below++[f],tape,out⟩)(m:Ty below<=15)(i:b_<=H_ w)(q:Ty f.ops<=99000)(k:∃r a,f.ops=r++[a]):
 Ue Un 386 #[Us #[Uw d,I_ c],bF sb] w (lJ sh fp F b_ sb gf t0 s0 (bE sh sb gf u_ v_) w below tape out (aR (.rs d c) f)):=by
 obtain⟨r,a,s⟩:=k;have p:=h.xg i (cD #[Uw d,I_ c] 434);have v:Ty f.pop.ops<=100000:=by grind [aI.pop]
 refine(FR w _ sb gf (Ty below*6) c d (λn=>a.c_=1/\kS sh fp F b_ sb gf t0 s0 (bE sh sb gf u_ v_) w ⟨below++[if decide (a.n=1)=d then { f.pop.push a with next:=c } else f.pop],tape,out⟩ n) (λn=>a.c_≠1/\kS sh fp F b_ sb gf t0 s0 (bE sh sb gf u_ v_) w ⟨below++[f.pop],tape,out⟩ n)
  (λt z W=>PV F W (dH t z) a/\aK a<=200/\eL sh fp b_ sb gf (Ty below) t0 s0 (bE sh sb gf u_ v_) (eH w #[Uw d,I_ c] 434) F ⟨below++[f.pop],tape,out⟩ W)
  (λb W=>a.c_=1/\b=decide (a.n=1)/\a=cG b/\eL sh fp b_ sb gf (Ty below) t0 s0 (bE sh sb gf u_ v_) (eH w #[Uw d,I_ c] 434) F ⟨below++[f.pop],tape,out⟩ W)
  (λb W=>a.c_=1/\b=decide (a.n=1)/\eL sh fp b_ sb gf (Ty below) t0 s0 (bE sh sb gf u_ v_) (eH w #[Uw d,I_ c] 434) F ⟨below++[f.pop.push a],tape,out⟩ W) rfl (p.uh m) (λW x=>?_) (λW t z g=>?_) (λW b g=>?_) (λW b g k=>?_) (λW b g A=>?_) (λW b g=>?_) λW b g=>?_).mono ?_
 .apply ((p.same x).pop s aD).mono
  simp
 .obtain⟨j,o,l⟩:=g;apply (uC F _ a W j).mono
  grind [PV.bool,eL.su,ss.refl]
 .obtain⟨j,o,l,u⟩:=g;apply (u.push (a:=a) (by rw[l];exact PV.xd F W b) (by rw[l,pS];exact aD) v).mono
  grind
 .grind [eL.su,ss.refl]
 .obtain⟨j,o,l⟩:=g;refine⟨j,?_⟩;rw[ef G_]
  exact(l.next c).su (ss.refl _ _)
 .grind [eL.box,aA]
 .grind [eL.box,eL.cell,aA]
 have y:aR (.rs d c) f=if a.c_=1 then (if decide (a.n=1)=d then { f.pop.push a with next:=c } else f.pop,0)else (f.pop,2):=by simp[aR,nW s]
 rintro e n (⟨rfl,j,o⟩|⟨rfl,j,o⟩)
 .grind [lJ.ok]
 grind [lJ.stop]
end
section
variable {sh:Bool} {fp:iU} {F:bN} {b_:Nat} {w:aN} {sb gf cap:Nat} {t0 tv u_ s0:aW} {v_:List j_} {below:List aI} {f:aI} {tape:List Int} {out:cY}
theorem eL.apart{own:List Nat}{d:aN}{G:bN}{n:Nat}{m:dA}(h:eL sh fp b_ sb gf n t0 s0 own d G m w):∀k,G k->k<w.heap.size/\k≠gf:=by obtain⟨l,j,f,i,c,g,o,b,p⟩:=h;exact λk a=>⟨(b.apart k a).1,λe=>(b.apart k a).2 mi⟩
def oZ.cell{G:bN}{v:aW}{l:List aE}{k:Nat}(h:oZ G b_ w v l)(f:k<Ty l):∃g cap t z,v=Uq (Ua (aL g 0)) (Ty l) cap/\T_ w (aL g k)=Ua (Uv t z)/\PV G w (Uv t z) l[k]/\aK l[k]<=200:=by
 obtain⟨⟨x,i,q,n⟩,s⟩:=h;obtain⟨u,A,m⟩:=n k f;obtain⟨t,z,rfl⟩:=m.form;rcases i.2 with ⟨r,y⟩|⟨g,c,p,rfl,j,b,a,d,o,e⟩
 .exact aD
 grind [aA]
def S7.cell{G:bN}{v:aW}{l:List aE}{k:Nat}(h:S7 sh G b_ w v l)(a:k<Ty l):∃g cap t z,v=Uq (Ua (aL g 0)) (Ty l) cap/\T_ w (aL g k)=Ua (Uv t z)/\PV G w (Uv t z) l[k]/\aK l[k]<=200:=by
 cases sh
 .exact oZ.cell h a
 obtain⟨b,c⟩:=h;rcases tw.row b with ⟨rfl,_⟩|⟨g,cap,f,e,_,_,⟨_,d⟩,i⟩
 .cases a
 grind [PV.form]
def Jp(k:Nat)(h:dM sh fp F b_ w sb gf cap t0 tv u_ s0 v_ ⟨below++[f],tape,out⟩)(d:Ty below<=15)(a:b_<=H_ w)(i:Ty f.ops<=99000)(j:k<Ty f.g_):
 Ue Un 360 #[Us #[I_ k],bF sb] w (lJ sh fp F b_ sb gf t0 s0 (bE sh sb gf u_ v_) w below tape out (aR (.load k) f)):=by
 have e:=h.xg a (cD #[I_ k] 397);obtain⟨v,q,x,u⟩:=e.cells;obtain⟨g,c,t,z,p,o,r,s⟩:=q.g_.cell j;have l:=(u 4 v.vv aJ).1;rw[p]at l;refine(WB w _ sb gf (Ty below*6) k g (Ty f.g_) c t z (λn=>kS sh fp F b_ sb gf t0 s0 (bE sh sb gf u_ v_) w ⟨below++[f.push f.g_[k]],tape,out⟩ n) aJ (e.uh d) l o j λW m=>?_).mono ?_
 .apply ((e.same m).push (r.h_ λb _=>by rw[m.heap]) s aD).mono
  grind [eL.su,ss.refl]
 grind [lJ.ok,aR]
def Lj(l:Nat)(sp:aW)(s:cY)(h:dM sh fp F b_ w sb gf cap t0 tv u_ s0 v_ ⟨below++[f],tape,out⟩)(d:Ty below<=15)(c:b_<=H_ w)(i:gQ F w sp s):
 Ue Un 344 #[Us #[I_ l,sp],bF sb] w (lJ sh fp F b_ sb gf t0 s0 (bE sh sb gf u_ v_) w below tape out (aR (.begin l s) f)):=by
 obtain⟨sp,rfl⟩:=i.form;have e:=h.xg c (cD #[I_ l,Ut sp] 276);obtain⟨q,n,t⟩:=e.cell 2 aD;obtain⟨k,x,y⟩:=e.cell 3 aD;refine(SG w _ sb gf (Ty below*6) l sp (λm=>kS sh fp F b_ sb gf t0 s0 (bE sh sb gf u_ v_) w ⟨below++[{ f with l_:=l,e_:=s }],tape,out⟩ m) rfl (e.uh d) q k n x t λW j=>?_).mono ?_
 .have p:=e.same j
  have hs0 :=gQ.h_ (λb o=>by rw[j.heap];exact eh _ _ _ (h.apart b o).1) MW i
  have r:eL sh fp b_ sb gf (Ty below) t0 s0 (bE sh sb gf u_ v_) _ F ⟨below++[{ f with l_:=l }],tape,out⟩ _:=p.set 2 (I_ l) aD (λv=>{ v with ln:=I_ l }) (λ_=>rfl) (λ_ _=>rfl) λ_ a=>⟨a.fn,a.nx,rfl,a.sp,a.g_,a.ops⟩
  have g:gQ F (Tz W (aL gf (Ty below*6+2)) (I_ l)) (Ut sp) s:=(by grind [gQ.h_,em,eL.apart])
  have u:eL sh fp b_ sb gf (Ty below) t0 s0 (bE sh sb gf u_ v_) _ F ⟨below++[{ f with l_:=l,e_:=s }],tape,out⟩ _:=r.set 3 (Ut sp) aD (λv=>{ v with sp:=Ut sp }) (λ_=>rfl) (λ_ _=>rfl) λ_ a=>⟨a.fn,a.nx,a.ln,g,a.g_,a.ops⟩
  exact u.su (ss.refl _ _)
 grind [lJ.ok,aR]
def Mj(b:bP)(u:b=[45]\/b=[33])(h:dM sh fp F b_ w sb gf cap t0 tv u_ s0 v_ ⟨below++[f],tape,out⟩)(d:Ty below<=15)(g:b_<=H_ w)(n:Ty f.ops<=99000)(l:∃o a,f.ops=o++[a]):
 Ue Un 365 #[Us #[Q_ (bs b)],bF sb] w (lJ sh fp F b_ sb gf t0 s0 (bE sh sb gf u_ v_) w below tape out (aR (.unary b) f)):=by
 obtain⟨o,a,p⟩:=l;have m:=h.xg g (cD #[Q_ (bs b)] 402);have x:Ty f.pop.ops<=100000:=by grind [aI.pop]
 have i:∀(W:aN) (v:aW),PV F W v a->Ue Un 366 #[Q_ (bs b),v] W (nS F W (dI (b++[120]) a)):=λW v q=>by
  rcases u with rfl|rfl
  .exact IR 45 (ed aJ) F v a W q
  exact IR 33 (ec aJ) F v a W q
 have y:aR (.unary b) f=if (dI (b++[120]) a).2=0 then (f.pop.push (dI (b++[120]) a).1,0)else (f.pop,(dI (b++[120]) a).2):=by simp[aR,nW p]
 have k:=Fy (b++[120]) a;generalize dI (b++[120]) a=r at i y k
 have s:Ul (∀W,bV (eH w #[Q_ (bs b)] 402) W->Ue Un 182 #[Ut (Ua (aL gf (Ty below*6)))] W λe j=>∃t z,e=bY (dH t z)/\PV F j (dH t z) a/\eL sh fp b_ sb gf (Ty below) t0 s0 (bE sh sb gf u_ v_) (eH w #[Q_ (bs b)] 402) F ⟨below++[f.pop],tape,out⟩ j):=λW A=>by
  apply ((m.same A).pop p aD).mono
  grind
 by_cases B:r.2=0
 .refine(ZW w _ sb gf (Ty below*6) b (λj=>kS sh fp F b_ sb gf t0 s0 (bE sh sb gf u_ v_) w ⟨below++[f.pop.push r.1],tape,out⟩ j) (λt z W=>PV F W (dH t z) a/\eL sh fp b_ sb gf (Ty below) t0 s0 (bE sh sb gf u_ v_) (eH w #[Q_ (bs b)] 402) F ⟨below++[f.pop],tape,out⟩ W) (λt z W=>PV F W (dH t z) r.1/\eL sh fp b_ sb gf (Ty below) t0 s0 (bE sh sb gf u_ v_) (eH w #[Q_ (bs b)] 402) F ⟨below++[f.pop],tape,out⟩ W) aJ (m.uh d) s (λW t z c=>?_) (λW t z c=>?_) λW t z c=>?_).mono ?_
  .grind [eL.box,aA]
  .apply (i W _ c.1).mono
   grind [PV.form,nS]
  .apply (c.2.push c.1 k x).mono
   grind [eL.su,ss.refl]
  grind [lJ.ok]
 refine(PP w _ sb gf (Ty below*6) b r.2 (λj=>kS sh fp F b_ sb gf t0 s0 (bE sh sb gf u_ v_) w ⟨below++[f.pop],tape,out⟩ j) (λt z W=>PV F W (dH t z) a/\eL sh fp b_ sb gf (Ty below) t0 s0 (bE sh sb gf u_ v_) (eH w #[Q_ (bs b)] 402) F ⟨below++[f.pop],tape,out⟩ W) aJ (m.uh d) s (λW t z c=>?_) λW t z c=>?_).mono ?_
 .grind [eL.box,aA]
 .apply (i W _ c.1).mono
  grind [eL.su,ss.refl,nS]
 grind [lJ.stop]
def TA{Z_:Prop}(Y_:Z_:=by
 rintro e w' ⟨hb,⟨hz,u,rfl,hu⟩|⟨hz,rfl⟩⟩
 .obtain⟨t1,z1,rfl⟩:=hu.form;exact ed ⟨t1,z1,aJ,hz,Grow F W w',⟨λ_=>ed,λk hk=>hk.imp_right λh1=>eo (eo s_ h5.1.size) h1.1⟩,hu,(by grind [eL.grow,Grow])⟩
 exact ec ⟨aJ,hz,(h5.grow hb (s_) G_).su (ss.refl _ _)⟩):Z_:=Y_
def Hn(c:bP)(h:dM sh fp F b_ w sb gf cap t0 tv u_ s0 v_ ⟨below++[f],tape,out⟩)(n:Ty below<=15)(d:b_<=H_ w)(i:Ty f.ops<=99000)(q:∃A a b,f.ops=A++[a,b]):
 Ue Un 376 #[Us #[Q_ (bs c)],bF sb] w (lJ sh fp F b_ sb gf t0 s0 (bE sh sb gf u_ v_) w below tape out (aR (.binary c) f)):=by
 obtain⟨A,a,b,p⟩:=q;have p:f.ops=(A++[a])++[b]:=G_
 have C:=h.xg d (cD #[Q_ (bs c)] 431);have hf2 :=BI p;have l:=i;rw[p,ew,ew]at l;have B:Ty f.pop.ops<=100000:=G_
 have y:Ty f.pop.pop.ops<=100000:=by rw[BI hf2];exact aD
 have E:aR (.binary c) f=if (dJ c a b).2=0 then (f.pop.pop.push (dJ c a b).1,0)else (f.pop.pop,(dJ c a b).2):=by grind [aR,nW]
 have o:=j7 c a b;have j:∀(W:aN) (u v:aW),PV F W u a->PV F W v b->(∀k,F k->k<H_ W)->aK a<=200->aK b<=200->Ue Un 377 #[Q_ (bs c),u,v] W (jA F W (dJ c a b)):=λW u v h1 e m D h5=>VH c F u v a b W h1 e m aD aD
 generalize dJ c a b=r at j E o
 refine(MU w _ sb gf (Ty below*6) c r.2 (λw'=>r.2=0/\kS sh fp F b_ sb gf t0 s0 (bE sh sb gf u_ v_) w ⟨below++[f.pop.pop.push r.1],tape,out⟩ w') (λw'=>r.2≠0/\kS sh fp F b_ sb gf t0 s0 (bE sh sb gf u_ v_) w ⟨below++[f.pop.pop],tape,out⟩ w')
  (λt z W=>PV F W (dH t z) b/\aK b<=200/\eL sh fp b_ sb gf (Ty below) t0 s0 (bE sh sb gf u_ v_) (eH w #[Q_ (bs c)] 431) F ⟨below++[f.pop],tape,out⟩ W)
  (λt z s x W=>PV F W (dH t z) b/\aK b<=200/\PV F W (dH s x) a/\aK a<=200/\eL sh fp b_ sb gf (Ty below) t0 s0 (bE sh sb gf u_ v_) (eH w #[Q_ (bs c)] 431) F ⟨below++[f.pop.pop],tape,out⟩ W)
  (λt z W=>r.2=0/\∃G,ss F G (H_ w)/\PV G W (dH t z) r.1/\eL sh fp b_ sb gf (Ty below) t0 s0 (bE sh sb gf u_ v_) (eH w #[Q_ (bs c)] 431) G ⟨below++[f.pop.pop],tape,out⟩ W) rfl (C.uh n) (λW H=>?_) (λW t z g=>?_) (λW t z s x g=>?_) (λW t z s x g=>?_) λW t z g=>?_).mono ?_
 .apply ((C.same H).pop p aD).mono
  simp
 .obtain⟨h1,e,m⟩:=g;apply (m.Bb hf2 B).mono
  grind [PV.h_]
 .grind [eL.box,aA]
 .obtain⟨h1,e,m,D,h5⟩:=g;apply (j W _ _ m h1 (λk hk=>(h5.apart k hk).1) D e).mono
  exact TA
 .obtain⟨hz,G,I,h1,e⟩:=g;apply (e.push h1 o y).mono
  grind [eL.su]
 grind [lJ.ok,lJ.stop]
end
section
variable {sh:Bool} {fp:iU} {F G G':bN} {b_:Nat} {w:aN} {sb gf cap:Nat} {t0 tv u_ s0:aW} {v_:List j_} {below:List aI} {f:aI} {tape:List Int} {out:cY}
def dM.more{m:dA}(h:dM sh fp G b_ w sb gf cap t0 tv u_ s0 v_ m)(a:∀k,G k->G' k)(b:∀k,G' k->G k\/(k<H_ w/\k∉bE sh sb gf u_ v_)):dM sh fp G' b_ w sb gf cap t0 tv u_ s0 v_ m:=
 ⟨h.i_,h.row,h.uy.h_ (s_) a s_,h.tape.h_ (s_) a,h.out,h.nodup,h.lt,pw⟩
def Tl{Z_:Prop}(Y_:Z_:=by
 have hv':=hv.h_ hk MW ku
 refine⟨hv'.fn,hv'.nx,hv'.ln,hv'.sp,hv'.g_,⟨xs',?_,?_⟩,G_⟩
 .grind [bC,eg,j_.ri]
 grind [iE.h_]):Z_:=Y_
def dM.n_{vs l:List aE}(h:dM sh fp G b_ w sb gf cap t0 tv u_ s0 v_ ⟨below++[f],tape,out⟩)(E:f.ops=vs++l)(q:Ty f.ops<=100000):
 Ue Un 351 #[Ut (Ua (aL gf (Ty below*6))),I_ (Ty l)] w λe w'=>∃p y d,e=bY p/\Kept (bE sh sb gf u_ v_) w w'/\bE sh sb gf u_ d=bE sh sb gf u_ v_/\Ty d=Ty v_/\dM sh fp G b_ w' sb gf cap t0 tv u_ s0 d ⟨below++[f.n_ (Ty l)],tape,out⟩/\
  w'.ownsRow w.heap.size 263 1 p (Ty l) y/\iE G w' y l/\(∀a∈l,aK a<=200)/\∀k,G k->w'.heap[k]?=w.heap[k]?:=by
 obtain⟨N,v,D,rfl,F,O,Q,u,L,k0,Z,k2,k3,k4,V⟩:=h.top;rw[<-F];obtain⟨⟨xs,c,s⟩,m⟩:=O.ops;rw[E]at c s m;obtain⟨n,y,rfl,I,C,W,o⟩:=s.split;rw[E,ew]at q;rw[ew]at c;apply (BQ b_ gf (Ty N*6) (Ty vs) (Ty l) D v.ov n y w u V c I C (tM o) aD).mono
 rintro e w' ⟨p,i,z,X,B,M,rfl,p2,K⟩;have P:(f.n_ (Ty l)).ops=vs:=by simp[aI.n_,E]
 have J:=h.grow B (s_) (λ_ h=>ed h)
 have A:SN sh fp G b_ z { v with ov:=i } (f.n_ (Ty l)):=by
  have t:∀b,G b->z.heap[b]?=w.heap[b]?:=λb H=>B.block b (h.apart b H).1
  have T:∀k∈(v.ri sh),k<w.heap.size:=λk t=>h.lt k (by simp[bE,dD,t])
  have g:=O.h_ t MW ku
  refine⟨g.fn,g.nx,g.ln,g.sp,g.g_,⟨n,?_,?_⟩,G_⟩
  .grind [bC,eg,j_.ri]
  grind [iE.h_]
 obtain⟨U,Y⟩:=J.vm (j:=5) (x:=i) (v':={ v with ov:=i }) aD rfl (by simp[j_.ri,K]) A
 have S:gf<w.heap.size:=(by grind)
 have r:∀k,G k->(Tz z (aL gf (Ty N*6+5)) i).heap[k]?=w.heap[k]?:=(by grind [em,dM.apart,bE,eg])
 refine⟨p,y,_,X,(Kept.p_ B).trans Y G_,by simp[bE,dD,j_.ri,K],s_,U,bC M λk t=>em _ _ _ _ ?_,o.h_ r,G_,r⟩
 have:=bX M k t;grind
def eL.n_{own:List Nat}{p:aN}{n:Nat}{vs b:List aE}(h:eL sh fp b_ sb gf n t0 s0 own p G ⟨below++[f],tape,out⟩ w)(B:n=Ty below)(z:f.ops=vs++b)(g:Ty f.ops<=100000):
 Ue Un 351 #[Ut (Ua (aL gf (n*6))),I_ (Ty b)] w λe w'=>∃x d,e=bY (Uq x (Ty b) d)/\∃G',ss G G' w.heap.size/\tw G' w' (Uq x (Ty b) d) b/\(∀a∈b,aK a<=200)/\eL sh fp b_ sb gf n t0 s0 own p G' ⟨below++[f.n_ (Ty b)],tape,out⟩ w'/\∀k,G k->w'.heap[k]?=w.heap[k]?:=by
 obtain⟨v,q,j,t,i,A,I,u,y⟩:=h;subst B;apply (u.n_ z g).mono
 rintro e w' ⟨E,K,c,C,l,J,F,D,o,H,s,r⟩;obtain⟨x,d,rfl⟩:=fW o;refine⟨x,d,C,λk=>G k\/(Value.slice x (Ty b) d).ownBlock=Ua k,⟨G_,λk m=>m.imp_right λe=>bX o k e⟩,(by grind [tw.ofRow,iE.mono]),s,⟨v.trans l y,eo q l.size,j,t,i,c,aD,D.more (G_) λk m=>?_,G_⟩,r⟩
 grind [eG,dM.lt,bX,bE]
def Gi(s b:List aE)(h:dM sh fp F b_ w sb gf cap t0 tv u_ s0 v_ ⟨below++[f],tape,out⟩)(i:Ty below<=15)(c:b_<=H_ w)(r:Ty f.ops<=99000)(o:f.ops=s++b):
 Ue Un 361 #[Us #[I_ (Ty b)],bF sb] w (lJ sh fp F b_ sb gf t0 s0 (bE sh sb gf u_ v_) w below tape out (aR (.list (Ty b)) f)):=by
 have q:=h.xg c (cD #[I_ (Ty b)] 399);have I:f.many (Ty b)=b:=by simp[aI.many,o]
 have y:(f.n_ (Ty b)).ops=s:=by simp[aI.n_,o]
 have C:(f.n_ (Ty b)).ops.length<=100000:=G_
 have E:aR (.list (Ty b)) f=if aK (bG b)<=200 then ((f.n_ (Ty b)).push (bG b),0)else (f.n_ (Ty b),6):=by grind [aR,jG]
 refine(WE w _ sb gf (Ty below*6) (Ty b) 6 (λj=>aK (bG b)<=200/\kS sh fp F b_ sb gf t0 s0 (bE sh sb gf u_ v_) w ⟨below++[(f.n_ (Ty b)).push (bG b)],tape,out⟩ j) (λj=>¬aK (bG b)<=200/\kS sh fp F b_ sb gf t0 s0 (bE sh sb gf u_ v_) w ⟨below++[f.n_ (Ty b)],tape,out⟩ j)
  (λx d W=>∃G,ss F G (H_ w)/\tw G W (P_ x (Ty b) d) b/\(∀a∈b,aK a<=200)/\eL sh fp b_ sb gf (Ty below) t0 s0 (bE sh sb gf u_ v_) (eH w #[I_ (Ty b)] 399) G ⟨below++[f.n_ (Ty b)],tape,out⟩ W)
  (λt z W=>aK (bG b)<=200/\∃G,ss F G (H_ w)/\PV G W (dH t z) (bG b)/\eL sh fp b_ sb gf (Ty below) t0 s0 (bE sh sb gf u_ v_) (eH w #[I_ (Ty b)] 399) G ⟨below++[f.n_ (Ty b)],tape,out⟩ W) rfl (q.uh i) (λW A=>?_) (λW x d n=>?_) λW t z n=>?_).mono ?_
 .apply ((q.same A).n_ aJ o aD).mono
  rintro e j ⟨x,d,D,G,k,g,v,u,_⟩;exact⟨x,d,D,G,k.le (by rw[A.heap];simp),g,v,u⟩
 .obtain⟨G,k,g,v,u⟩:=n
  have p:∀l:List aE,(∀a∈l,aK a<=200)->(l.map aK).sum<=200*Ty l:=λl=>by
   induction l with
   |nil=>simp
   |cons a l J=>grind
  have m:aK (bG b)<=1000000000:=by grind [dE,bG]
  apply (QK G x d b W g m).mono
  grind [PV.uw,eL.su]
 .obtain⟨B,G,H,k,g⟩:=n;apply (g.push k B C).mono
  grind [eL.su]
 grind [lJ.ok,lJ.stop,aI.n_]
end
def dM.declared{L:iU}{l:Nat}{B:Nat}{P M c:aW}{s:List j_}{v:j_}{m:List aI}{A:cY}{r:Array Uf}{g u:aW}{xs:List Uf}{d:Nat}
 (h:dM Uc L R l w E n B P M c O (s++[v]) ⟨m++[f],o,A⟩) (Q:w.heap[n]?=Ua (cD r 111))
 (H:iE R w xs (f.g_.take d)) (hd:d<=Ty f.g_) (Z:PV R w u a) (T:aK a<=200)
 (X:q.heap[n]?=Ua (cD (r.setIfInBounds (Ty s*6+4) g) 111)) (p2:q.ownsRow l 263 1 g (d+1) (xs++[u])) (p3:∀k,g.ownBlock=Ua k->v.vv.ownBlock=Ua k\/H_ w<=k) (t:Af n v.vv.ownBlock w q):
 dM Uc L R l q E n B P M c O (s++[{ v with vv:=g }]) ⟨m++[{ f with g_:=f.g_.take d++[a] }],o,A⟩/\Kept (bE Uc E n c (s++[v])) w q:=by
 obtain⟨aa,v0,e,S,y⟩:=lS.tq h.uy;obtain⟨rfl,W⟩:=gd e rfl;cases W;have p:=h.row;rw[show Ty (s++[v])=Ty s+1 by simp]at p
 obtain⟨D,c1,_,Y⟩:=BF (j:=4) (x:=g) p aD;obtain rfl:D=r:=G_
 have I:∀k∈(v.ri Uc),k∈bE Uc E n c (s++[v]):=(by grind [bE,dD])
 have ab:n∉(v.ri Uc):=λhm=>by have:=(ey.1 (ey.1 h.nodup).2).1;grind [dD]
 have U:(v.ri Uc).Nodup:=by grind [dM.nodup,bE,dD]
 have hFk :=λb z=>by obtain⟨V,K⟩:=h.apart b z;exact t.block b V (λe=>K mi) (λe=>K (I b (by simp[j_.ri,<-e])))
 have C:∀k,k<H_ w->k≠n->k∉(v.ri Uc)->q.heap[k]?=w.heap[k]?:=(by grind [Af.block,j_.ri])
 have J:∀k,v.ov.ownBlock=Ua k->k<H_ w/\k≠n/\v.vv.ownBlock≠Ua k:=λk N=>by
  have hm:k∈(v.ri Uc):=by simp[j_.ri,N]
  grind [dM.lt,j_.ri]
 refine⟨h.step (G:=R) t.size C (Y q X _ aJ) ?_ ?_ ?_ (s_) (G_),?_⟩
 .refine⟨y.fn.h_ hFk s_,y.nx,y.ln,gQ.h_ hFk (s_) y.sp,⟨⟨xs++[u],?_,?_⟩,?_⟩,y.ops.h_ hFk (s_) λk N=>?_⟩
  .grind
  .exact(H.h_ hFk).append ⟨aJ,λi hi=>by
    obtain rfl:i=0:=G_
    exact⟨u,aJ,Z.h_ hFk⟩⟩
  .intro b z;rcases fo.1 z with z|z
   .exact y.g_.2 b (G_)
   grind
  grind [Af.block]
 .grind [eG,j_.ri,Nat.lt_of_lt_of_le,Af.size]
 .grind [j_.ri]
 exact⟨t.os,t.tape,t.output,t.size,pi⟩
def MM(w v:aN)(H l p a d:Nat)(g n c:Nat)(U:d<=n)(S:n<=c)(_hn:n<=100001)(P:mL)(Q:Ui->Uf->Ug->Prop)(D:List Uf)(A:T6 w (Uy #[I_ d] 368)=v)(hd:d<=100000)
 (HT:Ul (pW v H l p))
 (G:T_ v (aL l (p+4))=Ua (Uq (Ua (aL g 0)) n c))
 (Z:Ul (AJ v l p Q))
 (J:Ul (∀W t z,Q t z W->T_ W (aL w.heap.size 0)=Ua (I_ d)/\w.heap.size<W.heap.size/\T_ W (aL l (p+4))=Ua (Uq (Ua (aL g 0)) n c)/\l<W.heap.size/\a<=W.heap.size))
 (O:Ul (∀W t z,Q t z W->W.ownsRow a 263 1 (Uq (Ua (aL g 0)) d c) d D))
 (K:Ul (∀W t z,Q t z W->∀k:aN,(T6 W (Uy #[Uv t z] 263)).grownBy k (Ua g)->(∃u,T_ k (aL l (p+4))=Ua u)/\k.frozen? (aL l (p+4))=Uc/\l<k.heap.size))
 (T:Ul (∀W t z,Q t z W->∀r j (k:aN),k.ownsRow a 263 1 (Uq (Ua (aL r 0)) (d+1) j) (d+1) (D++[Uv t z])->(T6 W (Uy #[Uv t z] 263)).grownBy k (Ua g)->((Ua g)=Ua r\/W.heap.size+1<=r)->P (Tz k (aL l (p+4)) (Uq (Ua (aL r 0)) (d+1) j)))):
 Ue Un 348 #[Us #[I_ d],bF H] w λe w'=>e=fD/\P w':=by
 obtain⟨N,V,x,B,C⟩:=info_parts rV;have b:(T6 w (Uy #[I_ d] 368)).heap[w.heap.size]?=Ua (Uy #[I_ d] 368):=aZ _ _ aJ _;rw[A]at b;have X:=aB A;have E:=aB (aA (i:=0) b aJ);have I:=aH b;have y:=aB G;have e3:(d:Int)<=(c:Int):=aD;clear A b G;go_in
 go_wp2_with fail;rw[X];refine rf (HT _ (bV.refl _)) λw1 m=>?_
 have c0:=eO m.heap E;have c1:=eO m.heap y;go_wp2
 go_region_law (first|(go_simp;go_at_call 182;apply (Z _ (m.trans (bV.drew _))).mono;rintro e F ⟨t,z,rfl,s⟩;have L:=J _ _ _ s;have b5:=L.2.2.2.2)|(refine step_append_lies _ r_ _ _ 109 r_ a 263 N _ 1 16 underlying109 V x B C rfl d_ (Uq (Ua (aL g 0)) d c) d D r_ ((O _ _ _ s).alloc _) (aL F.heap.size 0) 1 1 [Uv t z] r_ r_ (JH F _) (DG t z) d_ kk aD kj (F.heap.size+1) s_ ?_;intro r j k o f q Y;have M:=K _ _ _ s k f;obtain⟨⟨u5,y1⟩,y2,y3⟩:=M))
 all_goals
  go_wp2
  go_end0;exact⟨aJ,T _ _ _ s _ _ _ o f (q.imp_right aD)⟩
def MN(w p:aN)(D g l a:Nat)(P:mL)(Q:Ui->Uf->Ug->Prop)(y:List Uf)(s:T6 w (Uy #[I_ 0] 368)=p)
 (T:Ul (pW p D g l))
 (C:T_ p (aL g (l+4))=Ua (Uq Ub 0 0))
 (S:Ul (AJ p g l Q))
 (F:Ul (∀W t z,Q t z W->T_ W (aL w.heap.size 0)=Ua (I_ 0)/\w.heap.size<W.heap.size/\T_ W (aL g (l+4))=Ua (Uq Ub 0 0)/\g<W.heap.size/\a<=W.heap.size))
 (K:Ul (∀W t z,Q t z W->W.ownsRow a 263 1 (Uq Ub 0 0) 0 y))
 (G:Ul (∀W t z,Q t z W->∀f:aN,(T6 W (Uy #[Uv t z] 263)).grownBy f Ub->(∃u,T_ f (aL g (l+4))=Ua u)/\f.frozen? (aL g (l+4))=Uc/\g<f.heap.size))
 (L:Ul (∀W t z,Q t z W->∀n d (f:aN),f.ownsRow a 263 1 (Uq (Ua (aL n 0)) 1 d) 1 (y++[Uv t z])->(T6 W (Uy #[Uv t z] 263)).grownBy f Ub->(Ub=Ua n\/W.heap.size+1<=n)->P (Tz f (aL g (l+4)) (Uq (Ua (aL n 0)) 1 d)))):
 Ue Un 348 #[Us #[I_ 0],bF D] w λe w'=>e=fD/\P w':=by
 obtain⟨J,M,q,v,x⟩:=info_parts rV;have b:(T6 w (Uy #[I_ 0] 368)).heap[w.heap.size]?=Ua (Uy #[I_ 0] 368):=aZ _ _ aJ _;rw[s]at b;have N:=aB s;have A:=aB (aA (i:=0) b aJ);have E:=aH b;have r:=aB C;clear s b C;go_in
 go_wp2_with fail;rw[N];refine rf (T _ (bV.refl _)) λU j=>?_
 have Z:=eO j.heap A;have c1:=eO j.heap r;go_wp2
 go_region_law (first|(go_simp;go_at_call 182;apply (S _ (j.trans (bV.drew _))).mono;rintro e B ⟨t,z,rfl,o⟩;have H:=F _ _ _ o;have V:=H.2.2.2.2)|(refine step_append_lies _ r_ _ _ 109 r_ a 263 J _ 1 16 underlying109 M q v x rfl d_ (Uq Ub 0 0) 0 y r_ ((K _ _ _ o).alloc _) (aL B.heap.size 0) 1 1 [Uv t z] r_ r_ (JH B _) (DG t z) d_ kk aD kj (B.heap.size+1) s_ ?_;intro n d f k c m O;have I:=G _ _ _ o f c;obtain⟨⟨u5,X⟩,y2,Y⟩:=I))
 all_goals
  go_wp2
  go_end0;exact⟨aJ,L _ _ _ o _ _ _ k c (m.imp_right aD)⟩
section
variable {fp:iU} {F:bN} {b_:Nat} {w:aN} {sb gf cap:Nat} {t0 tv u_ s0:aW} {v_:List j_} {below:List aI} {f:aI} {tape:List Int} {out:cY}
def dM.Ag{n:List j_}{v:j_}{vs:List aE}{a:aE}(h:dM Uc fp F b_ w sb gf cap t0 tv u_ s0 (n++[v]) ⟨below++[f],tape,out⟩)(y:f.ops=vs++[a])(d:Ty f.ops<=100000):
 Ue Un 182 #[Ut (Ua (aL gf (Ty n*6)))] w λe w'=>∃t z b,e=.returned (Uv t z)/\PV F w' (Uv t z) a/\aK a<=200/\b.ownBlock=v.ov.ownBlock/\dM Uc fp F b_ w' sb gf cap t0 tv u_ s0 (n++[{ v with ov:=b }]) ⟨below++[f.pop],tape,out⟩/\Kept (bE Uc sb gf u_ (n++[v])) w w'/\∀k,k≠gf->w'.heap[k]?=w.heap[k]?:=by
 obtain⟨G,S,q,e,I,i,B,m,s,N,K,Q,M,T,D⟩:=h.top;obtain⟨rfl,E⟩:=gd e rfl;cases E;obtain⟨⟨P,c,l⟩,g⟩:=i.ops;rw[y]at c l g d;obtain⟨o,u,rfl,H,r,J⟩:=iE.tq l;obtain⟨t,z,rfl⟩:=J.form;rw[ew]at c d;apply (XA b_ gf (Ty n*6) (Ty vs) q v.ov o _ w m D c H s_ aD).mono
 rintro e w' ⟨rfl,b,rfl,L,C⟩;have A:f.pop.ops=vs:=by simp[aI.pop,y]
 have p:SN Uc fp F b_ w { v with ov:=b } f.pop:=⟨i.fn,i.nx,i.ln,i.sp,i.g_,G_,G_⟩
 obtain⟨O,U⟩:=h.vm (j:=5) (x:=b) (v':={ v with ov:=b }) aD rfl (by simp[j_.ri,C]) p
 grind [em,dM.apart,bE,PV.h_]
def Tu{Z_:Prop}(Y_:Z_:=by have:=(ey.1 (ey.1 h.nodup).2).1;grind [dD,j_.ri]):Z_:=Y_
def dM.ym{m:List j_}{v:j_}{d:Nat}{xs:List Uf}{a:aE}{t:Ui}{z:aW}{g b:Nat}{i:aN}{ob:Option Nat}(h:dM Uc fp F b_ w sb gf cap t0 tv u_ s0 (m++[v]) ⟨below++[f],tape,out⟩)(I:PV F w (dH t z) a)(o:aK a<=200)(p:iE F w xs (f.g_.take d))(A:d<=Ty f.g_)(E:ob=v.vv.ownBlock)
 (C:i.ownsRow b_ 263 1 (P_ (Ua (aL g 0)) (d+1) b) (d+1) (xs++[dH t z])) (j:(eH w #[dH t z] 263).grownBy i ob) (D:ob=Ua g\/H_ w+1<=g):
 dM Uc fp F b_ (Tz i (aL gf (Ty m*6+4)) (P_ (Ua (aL g 0)) (d+1) b)) sb gf cap t0 tv u_ s0 (m++[{ v with vv:=P_ (Ua (aL g 0)) (d+1) b }]) ⟨below++[{ f with g_:=f.g_.take d++[a] }],tape,out⟩/\Kept (bE Uc sb gf u_ (m++[v])) w (Tz i (aL gf (Ty m*6+4)) (P_ (Ua (aL g 0)) (d+1) b)):=by
 obtain⟨G,U,q,e,H,T,y,l,x,N,K,S,M,O,P⟩:=h.top
 have J:v.vv.ownBlock≠Ua gf:=λe=>by have:=(ey.1 (ey.1 h.nodup).2).1;grind [dD,j_.ri]
 have r:g≠gf:=by grind
 have L:∀k,k<H_ w->Ua k≠v.vv.ownBlock->i.heap[k]?=w.heap[k]?:=λk s B=>by rw[j.block k kj G_,eh _ _ _ s]
 have n:i.heap[gf]?=Ua (cD q 111):=G_
 refine h.declared (a:=a) (u:=dH t z) (xs:=xs) l p A I o (aP n) (bC C λk c=>em _ _ _ _ (by cases c;exact r)) (λk c=>?_) ⟨j.os.trans aJ,j.tape.trans aJ,j.output.trans aJ,eo s_ (eo j.size s_),λk s B Q=>?_⟩
 .cases c;grind
 grind [em]
def DY(fp:iU)(F:bN)(b_ sb gf cap:Nat)(t0 tv u_ s0:aW)(fb:List j_)(v:j_)(below:List aI)(f:aI)(tape:List Int)(out:cY)(w0:aN)(a:aE)(t:Ui)(z:aW)(W:aN):Prop:=
 ∃ov',ov'.ownBlock=v.ov.ownBlock/\PV F W (Uv t z) a/\aK a<=200/\dM Uc fp F b_ W sb gf cap t0 tv u_ s0 (fb++[{ v with ov:=ov' }]) ⟨below++[f.pop],tape,out⟩/\Kept (bE Uc sb gf u_ (fb++[v])) w0 W/\∀k,k≠gf->W.heap[k]?=w0.heap[k]?
def DY.fin{c:List j_}{v:j_}{s W:aN}{a:aE}{t:Ui}{z:aW}{d:Nat}{n:List Uf}{ob:Obj}(h:dM Uc fp F b_ w sb gf cap t0 tv u_ s0 (c++[v]) ⟨below++[f],tape,out⟩)(u:s=w.alloc ob)(H:DY fp F b_ sb gf cap t0 tv u_ s0 c v below f tape out s a t z W)(C:d<=Ty f.g_)(p:iE F s n (f.g_.take d))(N:f.last=a)
 (g b:Nat) (x:aN) (i:Option Nat) (q:i=v.vv.ownBlock) (E:x.ownsRow b_ 263 1 (Uq (Ua (aL g 0)) (d+1) b) (d+1) (n++[Uv t z])) (G:(T6 W (Uy #[Uv t z] 263)).grownBy x i) (m:i=Ua g\/W.heap.size+1<=g):
 sw fp F b_ sb t0 s0 (bE Uc sb gf u_ (c++[v])) w ⟨below++[(aR (.declare d) f).1],tape,out⟩ (Tz x (aL gf (Ty c*6+4)) (Uq (Ua (aL g 0)) (d+1) b)):=by
 subst u;obtain⟨j,J,D,O,I,A,Q⟩:=H;have L:∀k,F k->k≠gf:=λk y e=>(h.apart k y).2 mi
 obtain⟨P,B⟩:=I.ym (d:=d) (xs:=n) D O (p.h_ G_) C q E G m
 have l:bE Uc sb gf u_ (c++[{ v with ov:=j }])=bE Uc sb gf u_ (c++[v]):=by simp[bE,dD,j_.ri,J]
 rw[l]at B;have K:=((Kept.p_ (own:=bE Uc sb gf u_ (c++[v])) ((dz _ w).alloc mJ ob)).trans A G_).trans B G_
 refine⟨K,F,gf,cap,tv,u_,c++[{ v with ov:=j,vv:=Uq (Ua (aL g 0)) (d+1) b }],ss.refl _ _,?_,λk y=>?_⟩
 .grind [aR,aI.pop]
 have S:bE Uc sb gf u_ (c++[{ v with ov:=j,vv:=Uq (Ua (aL g 0)) (d+1) b }])=(sb::gf::(u_.ownBlock.toList++dD Uc c))++(g::v.ov.ownBlock.toList):=by grind [Value.ownBlock,bE,dD,j_.ri]
 have M:bE Uc sb gf u_ (c++[v])=(sb::gf::(u_.ownBlock.toList++dD Uc c))++(v.ri Uc):=by simp[bE,dD]
 have o:k∈(sb::gf::(u_.ownBlock.toList++dD Uc c))++(g::v.ov.ownBlock.toList):=G_
 rw[M];rcases fo.1 o with r|r
 .grind
 rcases ff.1 r with rfl|r
 .rcases m with e|e
  .grind [j_.ri]
  have:=A.size;exact ec (by simp at this;exact aD)
 grind [j_.ri]
def DY.reads{d:List j_}{v:j_}{W:aN}{a:aE}{t:Ui}{z:aW}{k:Array Uf}{m:Ui}(h:dM Uc fp F b_ w sb gf cap t0 tv u_ s0 (d++[v]) ⟨below++[f],tape,out⟩)(p:b_<=w.heap.size)(r:DY fp F b_ sb gf cap t0 tv u_ s0 d v below f tape out (T6 w (Uy k m)) a t z W):
 W.heap[w.heap.size]?=Ua (Uy k m)/\T_ W (aL gf (Ty d*6+4))=Ua v.vv/\gf<W.heap.size/\b_<=W.heap.size/\
  ∀c:aN,(T6 W (Uy #[Uv t z] 263)).grownBy c v.vv.ownBlock->(∃u,T_ c (aL gf (Ty d*6+4))=Ua u)/\c.frozen? (aL gf (Ty d*6+4))=Uc/\gf<c.heap.size:=by
 obtain⟨j,K,H,N,s,x,O⟩:=r;obtain⟨y,C,i,e,A,Q,o,b,l,J,G,P,I,D,L⟩:=s.top;obtain⟨rfl,M⟩:=gd e rfl;have B:C={ v with ov:=j }:=G_
 subst B;have g:=aH b;have hgw :=h.lt gf (by simp[bE])
 have E:v.vv.ownBlock≠Ua gf:=λe=>by have:=(ey.1 (ey.1 h.nodup).2).1;grind [dD,j_.ri]
 refine⟨by grind [aZ],aA b D,g,eo p (eo s_ x.size),λc q=>?_⟩
 have n:c.heap[gf]?=Ua (Uy i 111):=by rw[q.block gf kj (G_),eh _ _ _ g];exact b
 grind [aA,aF]
def P7(d:Nat)(h:dM Uc fp F b_ w sb gf cap t0 tv u_ s0 v_ ⟨below++[f],tape,out⟩)(s:Ty below<=15)(b:b_<=H_ w)(T:Ty f.ops<=99000)(A:∃V a,f.ops=V++[a])(x:d<=Ty f.g_)(ac:Ty f.g_<=90001):
 Ue Un 348 #[Us #[I_ d],bF sb] w (zy fp F b_ sb t0 s0 (bE Uc sb gf u_ v_) w below tape out (aR (.declare d) f)):=by
 obtain⟨V,a,M⟩:=A;have hM:=h.xg b (cD #[I_ d] 368);obtain⟨k,v,L,rfl,N, -⟩:=h.top;have U:=h.grow ((dz _ w).alloc mJ (cD #[I_ d] 368)) (s_) (λ_ h=>ed h)
 have I:=hM.uh s;rw[<-N]at I;obtain⟨ad,v0,L,e, -,hv,aa,q,X,k0,k1,k2,k3,k4,k5⟩:=U.top;obtain⟨rfl,e2⟩:=gd e rfl;cases e2
 have HP:Ul (∀W,bV (eH w #[I_ d] 368) W->Ue Un 182 #[Ut (Ua (aL gf (Ty k*6)))] W λe l=>∃t z,e=.returned (dH t z)/\DY fp F b_ sb gf cap t0 tv u_ s0 k v below f tape out (eH w #[I_ d] 368) a t z l):=λW hS=>by
  apply ((U.grow hS.below (s_) λ_ h=>ed h).Ag M aD).mono
  rintro e l ⟨t,z,r,he,h1,B,h3,h4,h5,Z⟩;exact⟨t,z,he,r,h3,h1,B,h4,(Kept.p_ (own:=bE Uc sb gf u_ (k++[v])) hS.below).trans h5 G_,nz⟩
 obtain⟨⟨Y,o,G⟩,J⟩:=hv.g_
 have H:v.vv.ownBlock≠Ua gf:=λe=>by have:=(ey.1 (ey.1 h.nodup).2).1;grind [dD,j_.ri]
 have p:iE F (eH w #[I_ d] 368) (Y.take d) (f.g_.take d):=by grind [iE]
 rcases o.2 with ⟨m,r2⟩|⟨g,c,Q,m,K,u,y,C,O,ab⟩
 .obtain rfl:d=0:=aD;refine(MN w _ sb gf (Ty k*6) b_ (λl=>sw fp F b_ sb t0 s0 (bE Uc sb gf u_ (k++[v])) w ⟨below++[(aR (.declare 0) f).1],tape,out⟩ l) (DY fp F b_ sb gf cap t0 tv u_ s0 k v below f tape out (eH w #[I_ 0] 368) a) [] aJ I (by grind [aA]) HP (λW t z i=>?_) (λW t z i=>World.ownsRow_nil _ _ _ _) (λW t z i=>?_) λW t z i=>?_).mono ?_
  .obtain⟨q1,q2,q3,q4,q5⟩:=DY.reads h b i;grind [aA]
  .have:=(DY.reads h b i).2.2.2.2;rw[m]at this;exact this
  .intro P j S D E n;exact DY.fin h aJ i x G_ (nW M) P j S Ub qu D E n
  grind [zy.ok,aR]
 refine(MM w _ sb gf (Ty k*6) b_ d g (Ty f.g_) c x y aD (λl=>sw fp F b_ sb t0 s0 (bE Uc sb gf u_ (k++[v])) w ⟨below++[(aR (.declare d) f).1],tape,out⟩ l) (DY fp F b_ sb gf cap t0 tv u_ s0 k v below f tape out (eH w #[I_ d] 368) a) (Y.take d) rfl aD I (by rw[<-m];exact aA q k4) HP (λW t z i=>?_) (λW t z i=>?_) (λW t z i=>?_) λW t z i=>?_).mono ?_
 .obtain⟨q1,q2,q3,q4,q5⟩:=DY.reads h b i;grind [aA]
 .obtain⟨r,_,_,_,_,_,Z⟩:=i;have hrow' :=(Z g λe=>H (by rw[m,e];rfl)).trans u
  have hxl :=G.1;refine⟨G_,ec ⟨g,c,Q,rfl,K,hrow',aD,C,O,?_⟩⟩
  grind
 .have:=(DY.reads h b i).2.2.2.2;rw[m]at this;exact this
 .intro P j S D E n;exact DY.fin h aJ i x p (nW M) P j S (Ua g) qu D E n
 rintro e l ⟨rfl,B⟩;exact zy.ok aJ B
end
def UU(w a:aN)(b:Nat)(x:Option Uj)(c:Nat)(d:eH w #[] 410=a)(f:dP a b 2 (P_ x 0 c)):
 Ue Un 373 #[Us #[],bF b] w λe w'=>e=jD 7/\w'=a:=by
 go_in
 go_wp2_with fail;exact⟨aJ,aJ,aJ⟩
def UT(w f:aN)(b p q g o n c:Nat)(i:Int)(P k:mL)(D:eH w #[] 410=f)(H:n+1<=c)(_hnn:n<=17592186044416)
 (y:Ul (pW f b p q))
 (x:dP f b 2 (P_ (Ua (aL g o)) (n+1) c)) (v:dP f g o (I_ i))
 (u:Ul (∀W,bV f W->Ue Un 342 #[Ut (Ua (aL p q)),dH 261 (I_ i)] W λe w'=>e=fD/\k w'))
 (s:Ul (∀W,k W->dP W b 2 (P_ (Ua (aL g o)) (n+1) c)/\W.frozen? (aL b 2)=Uc/\b<H_ W))
 (G:Ul (∀W d m,k W->(n=0\/(d=o+1/\m=c-1))->P (Tz W (aL b 2) (P_ (Ua (aL g d)) n m)))):
 Ue Un 373 #[Us #[],bF b] w λe w'=>e=fD/\P w':=by
 have j:=aB x;have l:=aB v;go_in
 go_wp2
 go_region_law (first|(go_simp;go_at_call 152;refine rf (y _ (by first|assumption|exact bV.drew _)) λB a=>?_;have F:=eO a.heap j;have A:=eO a.heap l)|(go_simp;go_at_call 342;refine rf (u _ a) λz t=>?_;have r:=s _ t;obtain⟨C,I,E⟩:=r))
 all_goals
  go_wp2_with fail
  all_goals
   go_end0;first|exact⟨aJ,mg⟩|exact⟨aJ,mg⟩
section
variable {fp:iU} {F:bN} {b_:Nat} {w:aN} {sb gf cap:Nat} {t0 tv u_ s0:aW} {v_:List j_} {below:List aI} {f:aI} {tape:List Int} {out:cY}
def dM.Ap{m:dA}{c:aW}{a:List Int}(h:dM Uc fp F b_ w sb gf cap t0 tv u_ s0 v_ m)(j:pF F w c a):
 dM Uc fp F b_ (Tz w (aL sb 2) c) sb gf cap t0 c u_ s0 v_ ⟨m.f_,a,m.out⟩/\Kept (bE Uc sb gf u_ v_) w (Tz w (aL sb 2) c):=by
 have g:∀k,k≠sb->(Tz w (aL sb 2) c).heap[k]?=w.heap[k]?:=(by grind [em])
 have f:=(ey.1 h.nodup).1;have hFk :=λb l=>g b λe=>(h.apart b l).2 mi
 have hin :=λk i=>g k λe=>f (by rw[<-e];exact i)
 refine⟨⟨?_,bC h.row λk d=>?_,h.uy.h_ hFk (s_) λv n k d=>hin k ?_,j.h_ hFk s_,bC h.out G_,h.nodup,λk d=>ej (h.lt k d) s_,pw⟩,⟨rfl,rfl,rfl,s_,pi⟩⟩
 .rw[aP h.i_];rfl
 .cases d;grind
 grind [dD]
def Ai(fp:iU)(F:bN)(b_ sb:Nat)(t0 s0:aW)(own:List Nat)(w:aN)(r:dA × Nat)(e:Ending)(w':aN):Prop:=
 T7 r.2 e/\sw fp F b_ sb t0 s0 own w r.1 w'
theorem eL.ze{own:List Nat}{d:aN}{G:bN}{n:Nat}{m:dA}(h:eL Uc fp b_ sb gf n t0 s0 own d G m w):∃tv,pF G w tv m.tape/\dP w sb 2 tv/\w.frozen? (aL sb 2)=Uc/\sb<H_ w/\
 ∀b a,pF G w b a->eL Uc fp b_ sb gf n t0 s0 own d G ⟨m.f_,a,m.out⟩ (Tz w (aL sb 2) b):=by
 obtain⟨l,j,g,tv,e,i,p,c,o⟩:=h;refine⟨tv,c.tape,aA c.i_ aJ,aF c.i_,aH c.i_,λb a f=>?_⟩
 obtain⟨k,q⟩:=c.Ap f;grind [Kept.trans,Nat.le_trans,Kept.size,eL]
def eL.Bv{own:List Nat}{D:aN}{G:bN}{n:Nat}(h:eL Uc fp b_ sb gf n t0 s0 own D G ⟨below++[f],tape,out⟩ w){t:Ui}{z:aW}{a:aE}(Q:PV G w (dH t z) a)(l:aK a<=200)(A:Ty f.ops<=100000):Ue Un 342 #[Ut (Ua (aL gf (n*6))),dH t z] w λe w'=>e=fD/\eL Uc fp b_ sb gf n t0 s0 own D G ⟨below++[f.push a],tape,out⟩ w'/\w'.heap[sb]?=w.heap[sb]?/\∀k,G k->w'.heap[k]?=w.heap[k]?:=by
 obtain⟨h1,y,q,J,b,S,h3,h4,B⟩:=h;obtain⟨g,v,d,rfl,O,V,E,c,C,Y,W,Z,X,k4,L⟩:=h4.top;have x:Ty g=n:=G_
 subst x;obtain⟨⟨P,i,m⟩,r⟩:=V.ops;have u:=ey.1 (ey.1 h4.nodup).2;have o:v.ov.ownBlock≠Ua gf:=λe=>u.1 (by simp[dD,j_.ri,e])
 have I:v.ov.ownBlock≠Ua sb:=λe=>(ey.1 h4.nodup).1 (by simp[dD,j_.ri,e])
 have s:sb≠gf:=(by grind)
 apply (DN b_ gf (Ty g*6) (Ty f.ops) d v.ov P t z w c L i o y aD).mono
 rintro e w' ⟨U,ov',N,H,p3,j⟩;obtain⟨K,F⟩:=h4.wa (cur:=d) c m Q l N H p3 j;refine⟨U,⟨h1.trans F B,eo y F.size,q,J,b,_,s_,K,λk hk'=>?_⟩,j.block sb (G_) s (G_),λk p=>j.block k (h4.apart k p).1 (λe=>(h4.apart k p).2 mi) λe=>(h4.apart k p).2 (by simp[bE,dD,j_.ri,<-e])⟩
 have T:bE Uc sb gf b (g++[{ v with ov:=ov' }])=(sb::gf::(b.ownBlock.toList++dD Uc g))++({ v with ov:=ov' }:j_).ri Uc:=by simp[bE,dD]
 have M:bE Uc sb gf b (g++[v])=(sb::gf::(b.ownBlock.toList++dD Uc g))++(v.ri Uc):=by simp[bE,dD]
 rw[T]at hk';rw[M]at B;exact Mn
def Qa(m:List eM)(h:dM Uc fp F b_ w sb gf cap t0 tv u_ s0 v_ ⟨below++[f],tape,out⟩)(d:Ty below<=15)(b:b_<=H_ w)(y:Ty f.ops<=99000)(q:Ty tape<=17592186044416):
 Ue Un 373 #[Us #[],bF sb] w (Ai fp F b_ sb t0 s0 (bE Uc sb gf u_ v_) w (cF m .read below f tape out)):=by
 have n:=h.xg b (cD #[] 410);obtain⟨p,G,t,O,D,B⟩:=n.ze;cases tape with
 |nil=>
  have L:∃x c,p=P_ x 0 c:=by grind [pF]
  obtain⟨x,c,rfl⟩:=L;apply (UU w _ sb x c aJ t).mono
  grind [T7,cF,eL.done,ss.refl,Ai]
 |cons i l=>
  rcases G with ⟨H,_⟩|⟨g,o,c,rfl,C,s,a⟩
  .cases H
  have r:=a 0 s_
  simp at t C q
  refine(UT w _ sb gf (Ty below*6) g o (Ty l) c i (λu=>sw fp F b_ sb t0 s0 (bE Uc sb gf u_ v_) w ⟨below++[f.push (bA i)],l,out⟩ u)
   (λW=>eL Uc fp b_ sb gf (Ty below) t0 s0 (bE Uc sb gf u_ v_) (eH w #[] 410) F ⟨below++[f.push (bA i)],i::l,out⟩ W/\dP W sb 2 (P_ (Ua (aL g o)) (Ty l+1) c)/\∀k,F k->W.heap[k]?=(eH w #[] 410).heap[k]?) rfl C aD (n.uh d) t r.1 (λW M=>?_) (λW z=>?_) λW K P z A=>?_).mono ?_
  .apply ((n.same M).Bv (PV.num F W i r.2.1 r.2.2) (by rw[uO];exact aD) aD).mono
   grind [bV.heap,World.cell?_of_block]
  .grind [eL.ze]
  .obtain⟨I,v,S⟩:=z;obtain⟨E,_,_,_,_,J⟩:=I.ze;refine(J _ l ?_).done (ss.refl _ _);by_cases Q:l=[]
   .grind [pF]
   rcases A with A|⟨rfl,rfl⟩
   .grind
   refine ec ⟨g,o+1,c-1,aJ,aD,s,λj T=>?_⟩
   have N:=a (j+1) kj
   grind [World.cell?_of_block]
  rintro e u ⟨rfl,v⟩;exact⟨ed ⟨aJ,aJ⟩,v⟩
end
def WW(w d:aN)(b g l k a:Nat)(P:mL)(Q:Ui->Uf->Ug->Prop)(i:T6 w (cD #[] 267)=d)(j:1<=a)
 (r:Ul (pW d b g l))
 (q:Ul (AJ d g l Q))
 (m:Ul (∀W t z,Q t z W->T_ W (aL b 1)=Ua (P_ (Ua (aL k 0)) 1 a)/\W.frozen? (aL b 1)=Uc/\b<W.heap.size))
 (n:Ul (∀W t z,Q t z W->P (Tz W.drew (aL b 1) (P_ (Ua (aL k 0)) 0 a)))):
 Ue Un 343 #[Us #[],bF b] w λe w'=>e=fD/\P w':=by
 have p:=aB i;clear i;go_in
 go_wp2_with fail;rw[p];refine(r _ (bV.refl _)).mono ?_;rintro e s ⟨rfl,c⟩;go_wp2_with fail;refine(q _ c).mono ?_;rintro e y ⟨t,z,rfl,f⟩;obtain⟨u,x,v⟩:=m _ _ _ f;have o:=aB (n _ _ _ f);go_wp2
 go_region
 all_goals
  go_wp2
  go_end0;exact⟨aJ,o⟩
def WV(w d:aN)(b j q o a n g l:Nat)(P:mL)(Q p:Ui->Uf->Ug->Prop)(k:T6 w (cD #[] 267)=d)(m:n+2<=a)(I:n<=1000)
 (A:Ul (pW d b j q))
 (y:Ul (AJ d j q Q))
 (r:Ul (∀W t z,Q t z W->T_ W (aL b 1)=Ua (P_ (Ua (aL o 0)) (n+2) a)/\W.frozen? (aL b 1)=Uc/\b<W.heap.size))
 (f:Ul (∀W t z,Q t z W->Ue Un 152 #[bF b] (Tz W.drew (aL b 1) (P_ (Ua (aL o 0)) (n+1) a)) λe w'=>e=bY (Ut (Ua (aL g l)))/\p t z w'))
 (v:Ul (∀W t z,p t z W->Ue Un 342 #[Ut (Ua (aL g l)),dH t z] W λe w'=>e=fD/\P w')):
 Ue Un 343 #[Us #[],bF b] w λe w'=>e=fD/\P w':=by
 have x:=aB k;clear k;go_in
 go_wp2_with fail;rw[x];refine(A _ (bV.refl _)).mono ?_;rintro e C ⟨rfl,c⟩;go_wp2_with fail;refine(y _ c).mono ?_;rintro e J ⟨t,z,rfl,i⟩;obtain⟨D,H,F⟩:=r _ _ _ i;have u:=aB (f _ _ _ i);go_wp2
 go_region
 all_goals
  go_wp2_with fail;refine u.mono ?_;rintro e E ⟨rfl,s⟩;go_wp2_with fail;refine(v _ _ _ s).mono ?_;rintro e B ⟨rfl,G⟩;go_wp2
  go_end0;grind
section
variable {fp:iU} {F:bN} {b_:Nat} {w:aN} {sb gf cap:Nat} {t0 tv u_ s0:aW} {v_:List j_} {below:List aI} {f:aI} {tape:List Int} {out:cY}
def dM.Ah{a:List j_}{v:j_}(h:dM Uc fp F b_ w sb gf cap t0 tv u_ s0 (a++[v]) ⟨below++[f],tape,out⟩):
 dM Uc fp F b_ (Tz w (aL sb 1) (Uq (Ua (aL gf 0)) (Ty a) cap)) sb gf cap t0 tv u_ s0 a ⟨below,tape,out⟩/\Kept (bE Uc sb gf u_ (a++[v])) w (Tz w (aL sb 1) (Uq (Ua (aL gf 0)) (Ty a) cap)):=by
 generalize z:Value.slice (Ua (aL gf 0)) (Ty a) cap=V;have m:∀k,k≠sb->(Tz w (aL sb 1) V).heap[k]?=w.heap[k]?:=(by grind [em])
 have l:=(ey.1 h.nodup).1;have o:dD Uc (a++[v])=dD Uc a++(v.ri Uc):=by simp[dD]
 have d:∀k,k∈bE Uc sb gf u_ a->k∈bE Uc sb gf u_ (a++[v]):=(by grind [bE])
 have hFk :=λb p=>m b λe=>(h.apart b p).2 mi
 have hin :=λk y=>m k λe=>l (by rw[<-e];exact y)
 obtain⟨t,H,e,g,G⟩:=lS.tq h.uy;obtain⟨rfl,D⟩:=gd e rfl;refine⟨⟨?_,?_,g.h_ hFk (s_) λu E k c=>hin k ?_,h.tape.h_ hFk s_,bC h.out G_,?_,λk c=>ej (h.lt k (d k c)) s_,pw⟩,⟨rfl,rfl,rfl,s_,pi⟩⟩
 .rw[aP h.i_,<-z];rfl
 .rcases h.row.2 with ⟨i,_⟩|⟨C,B,j,i,x,A,r,s,q,n⟩
  .cases i
  cases i;rw[ew]at r n;refine⟨by rw[jK],ec ⟨gf,cap,j,rfl,x,?_,aD,s,q,?_⟩⟩
  .grind
  have:=fg (List.take (Ty a*6)) n;grind [nC,jK]
 .grind [dD]
 grind [bE,dM.nodup]
theorem ET(c b:Nat)(a:aW)(d:List j_)(v:j_):∀k,k∈bE Uc c b a d->k∈bE Uc c b a (d++[v]):=(by grind [bE,dD])
def Bu(fp:iU)(F:bN)(b_ sb gf cap:Nat)(t0 tv u_ s0:aW)(fb:List j_)(v:j_)(below:List aI)(f:aI)(tape:List Int)(out:cY)(w0:aN)(a:aE)(t:Ui)(z:aW)(W:aN):Prop:=
 PV F W (Uv t z) a/\aK a<=200/\∃v',(v'.ri Uc)=(v.ri Uc)/\dM Uc fp F b_ W sb gf cap t0 tv u_ s0 (fb++[v']) ⟨below++[f.pop],tape,out⟩/\Kept (bE Uc sb gf u_ (fb++[v])) w0 W
def Bu.gone{b:List j_}{v:j_}{c W:aN}{a:aE}{t:Ui}{z:aW}(i:Bu fp F b_ sb gf cap t0 tv u_ s0 b v below f tape out c a t z W):
 PV F (Tz W.drew (aL sb 1) (P_ (Ua (aL gf 0)) (Ty b) cap)) (dH t z) a/\dM Uc fp F b_ (Tz W.drew (aL sb 1) (P_ (Ua (aL gf 0)) (Ty b) cap)) sb gf cap t0 tv u_ s0 b ⟨below,tape,out⟩/\Kept (bE Uc sb gf u_ (b++[v])) c (Tz W.drew (aL sb 1) (P_ (Ua (aL gf 0)) (Ty b) cap)):=by
 obtain⟨p,o,g,m,j,l⟩:=i;have d:=j.grow (bV.drew W).below (s_) (λ_ h=>ed h)
 obtain⟨k,n⟩:=d.Ah;have e:bE Uc sb gf u_ (b++[g])=bE Uc sb gf u_ (b++[v]):=by simp[bE,dD,m]
 refine⟨(by grind [PV.h_,World.drew,em,dM.apart,bE]),k,(l.trans (Kept.p_ (own:=[]) (bV.drew W).below) (s_)).trans n G_⟩
def Hy(n:List eM)(h:dM Uc fp F b_ w sb gf cap t0 tv u_ s0 v_ ⟨below++[f],tape,out⟩)(s:Ty below<=15)(c:b_<=H_ w)(D:Ty f.ops<=99000)(y:∃E a,f.ops=E++[a])(U:∀g∈below,Ty g.ops<=99000):
 Ue Un 343 #[Us #[],bF sb] w (Ai fp F b_ sb t0 s0 (bE Uc sb gf u_ v_) w (cF n .sg below f tape out)):=by
 obtain⟨E,a,G⟩:=y;have K:=h.xg c (cD #[] 267);obtain⟨b,v,S,rfl,C, -, -, -,p, -⟩:=h.top;have m:R_ w (eH w #[] 267):=(by grind [ep,dz])
 have L:=h.grow m (s_) (λ_ h=>ed h)
 have B:=K.uh s;rw[<-C]at B
 have J:Ul (∀W,bV (eH w #[] 267) W->Ue Un 182 #[Ut (Ua (aL gf (Ty b*6)))] W λe l=>∃t z,e=bY (dH t z)/\Bu fp F b_ sb gf cap t0 tv u_ s0 b v below f tape out (eH w #[] 267) a t z l):=λW H=>by
  apply ((L.grow H.below (s_) λ_ h=>ed h).Ag G aD).mono
  rintro e l ⟨t,z,X,Y,P,o,V,A,Q,h6⟩;exact⟨t,z,Y,P,o,_,by simp[j_.ri,V],A,(Kept.p_ (own:=bE Uc sb gf u_ (b++[v])) H.below).trans Q G_⟩
 have N:∀W t z,Bu fp F b_ sb gf cap t0 tv u_ s0 b v below f tape out (eH w #[] 267) a t z W->dP W sb 1 (P_ (Ua (aL gf 0)) (Ty b+1) cap)/\W.frozen? (aL sb 1)=Uc/\sb<H_ W:=λW t z j=>by obtain⟨_,_,Z,_,A,_⟩:=j;have I:=A.i_;grind [aA,aF]
 rcases gB below with rfl|⟨i,g,r⟩
 .obtain rfl:b=[]:=(by grind)
  refine(WW w _ sb gf 0 gf cap (λl=>sw fp F b_ sb t0 s0 (bE Uc sb gf u_ ([]++[v])) w ⟨[],tape,out⟩ l) _ aJ aD B J N λW t z j=>?_).mono ?_
  .obtain⟨_,x,q⟩:=j.gone;exact⟨(Kept.p_ m).trans q G_,F,gf,cap,tv,u_,[],ss.refl _ _,x,(by grind [ET])⟩
  rintro e l ⟨rfl,o⟩;exact⟨ed ⟨aJ,aJ⟩,o⟩
 rw[jc]at r;subst r;have d:Ty b=Ty i+1:=G_
 rw[d]at p;have T:cF n .sg (i++[g]) f tape out=(⟨i++[g.push a],tape,out⟩,0):=by simp[cF,nW G]
 rw[T];refine(WV w _ sb gf (Ty b*6) gf cap (Ty i) gf (Ty i*6) (λl=>sw fp F b_ sb t0 s0 (bE Uc sb gf u_ (b++[v])) w ⟨i++[g.push a],tape,out⟩ l) _ (λt z W=>PV F W (dH t z) a/\aK a<=200/\eL Uc fp b_ sb gf (Ty i) t0 s0 (bE Uc sb gf u_ (b++[v])) (eH w #[] 267) F ⟨i++[g],tape,out⟩ W) aJ aD aD B J (λW t z j=>?_) (λW t z j=>?_) λW t z j=>?_).mono ?_
 .grind
 .obtain⟨O,x,q⟩:=j.gone;rw[d]at O x q;have u:eL Uc fp b_ sb gf (Ty i) t0 s0 (bE Uc sb gf u_ (b++[v])) (eH w #[] 267) F ⟨i++[g],tape,out⟩ _:=⟨q,eo c (eo m.size q.size),cap,tv,u_,b,d,x,λk M=>ed (ET sb gf u_ b v k M)⟩
  apply (u.top aD).mono
  grind [PV.h_,bV.heap,eL.same,Bu]
 .apply (j.2.2.push j.1 j.2.1 G_).mono
  grind [eL.done,ss.refl]
 rintro e l ⟨rfl,o⟩;exact⟨ed s_,o⟩
end
def YZ(w m:aN)(n o p t l f:Nat)(b:Option Uj)(S:mL)(Q:Option Uj->Nat->Ug->Prop)(k:T6 w (cD #[Ut b,I_ f] 412)=m)
 (z:Ul (pW m n o p))
 (y:Ul (∀W,bV m W->Ue Un 351 #[Ut (Ua (aL o p)),I_ f] W λe w'=>∃x d,e=bY (P_ x f d)/\Q x d w'))
 (s:Ul (∀W x d,Q x d W->T_ W (aL n 1)=Ua (P_ (Ua (aL t 0)) 16 l)/\S W)):
 Ue Un 374 #[Us #[Ut b,I_ f],bF n] w λe w'=>e=jD 5/\S w':=by
 have a:(T6 w (cD #[Ut b,I_ f] 412)).heap[w.heap.size]?=Ua (cD #[Ut b,I_ f] 412):=aZ _ _ aJ _;rw[k]at a;have u:=aB k;have g:=aB (aA (i:=1) a aJ);have E:=g.out;have j:=aH a;clear k a;go_in
 go_wp2_with fail;rw[u];go_region_law (go_simp;first|(go_at_call 152;refine(z _ (bV.drew _)).mono ?_;rintro e A ⟨rfl,c⟩;have D:=eO c.heap g;have B:=qB c.heap j)|(go_at_call 351;refine(y _ c).mono ?_;rintro e F ⟨x,d,rfl,q⟩;have r:=s _ _ _ q;obtain⟨C,v⟩:=r))
 all_goals
  go_wp2_with fail;exact⟨aJ,aJ,v⟩
def OH:(prog.info? 111).map (λi=>(i.zero,i.size,i.bytes))=Ua (Ua (Us #[Ut Ub,I_ 0,I_ 0,Ut Ub,bO,bO]),6,80):=k_
def I5(w:aN)(b c d e a f:aW):∀j u,([b,c,d,e,a,f]:List Uf)[j]?=Ua u->T_ (eH w #[b,c,d,e,a,f] 111) ((⟨H_ w,0,Ub⟩:Uj).add j)=Ua u:=by grind [World.news_of_block,aZ]
def Fc(x y:Option Uj)(c d:Nat):∀u∈([Ut x,I_ 0,I_ 0,Ut Ub,P_ y c d,bO]:List Uf),u.oneCell'=true:=by intro u a;simp at a;rcases a with rfl|rfl|rfl|rfl|rfl<;>rfl
def YY(w E:aN)(m G H r o k b n:Nat)(a:Option Uj)(P:mL)(Q:Option Uj->Nat->List Uf->Ug->Prop)(B:T6 w (cD #[Ut a,I_ k] 412)=E)(hn:n<=15)
 (X:Ul (pW E m G H))
 (V:Ul (∀W,bV E W->Ue Un 351 #[Ut (Ua (aL G H)),I_ k] W λe w'=>∃x d g,e=bY (P_ x k d)/\Q x d g w'))
 (J:Ul (∀W x d g,Q x d g W->T_ W (aL m 1)=Ua (P_ (Ua (aL r 0)) n o)/\T_ W (aL w.heap.size 0)=Ua (Ut a)/\w.heap.size<W.heap.size/\m<W.heap.size/\b<=W.heap.size))
 (N:Ul (∀W x d g,Q x d g W->W.drew.ownsRow b 111 6 (P_ (Ua (aL r 0)) n o) n g))
 (I:Ul (∀W x d g,Q x d g W->∀l:aN,(T6 W.drew (cD #[Ut a,I_ 0,I_ 0,Ut Ub,P_ x k d,bO] 111)).grownBy l (Ua r)->(∃u,T_ l (aL m 1)=Ua u)/\l.frozen? (aL m 1)=Uc/\m<l.heap.size))
 (O:Ul (∀W x d g,Q x d g W->∀t j (l:aN),l.ownsRow b 111 6 (P_ (Ua (aL t 0)) (n+1) j) (n+1) (g++[Ut a,I_ 0,I_ 0,Ut Ub,P_ x k d,bO])->(T6 W.drew (cD #[Ut a,I_ 0,I_ 0,Ut Ub,P_ x k d,bO] 111)).grownBy l (Ua r)->(Ua r=Ua t\/t=W.heap.size+1)->P (Tz l (aL m 1) (P_ (Ua (aL t 0)) (n+1) j)))):
 Ue Un 374 #[Us #[Ut a,I_ k],bF m] w λe w'=>e=fD/\P w':=by
 obtain⟨M,S,A,C,D⟩:=info_parts OH;have c:(T6 w (cD #[Ut a,I_ k] 412)).heap[w.heap.size]?=Ua (cD #[Ut a,I_ k] 412):=aZ _ _ aJ _;rw[B]at c;have T:=aB B;have v:=aB (aA (i:=1) c aJ);have c0:=v.out;have z:=aH c;have Z:((n:Int)==16)=Uc:=G_
 clear B c;go_in
 go_wp2_with fail;rw[T];go_region_law (go_simp;first|(go_at_call 152;refine(X _ (bV.drew _)).mono ?_;rintro e Y ⟨rfl,p⟩;have d1:=eO p.heap v;have d2:=qB p.heap z)|(go_at_call 351;refine(V _ p).mono ?_;rintro e F ⟨x,d,g,rfl,y⟩;have K:=J _ _ _ _ y;obtain⟨y1,y2,y3,y4,y5⟩:=K))
 all_goals
  go_wp2
  go_region_law (refine step_append_lies _ r_ _ _ 53 r_ b 111 M _ 6 80 underlying53 S A C D rfl d_ (P_ (Ua (aL r 0)) n o) n g r_ ((N _ _ _ _ y).alloc _) (aL F.heap.size 0) 1 1 [Ut a,I_ 0,I_ 0,Ut Ub,P_ x k d,bO] r_ r_ (I5 F.drew _ _ _ _ _ _) (Fc _ _ _ _) d_ kk aD kj (F.heap.size+1) s_ ?_;intro t j l q f s U;have L:=I _ _ _ _ y l f;obtain⟨⟨u5,z1⟩,z2,z3⟩:=L)
  all_goals
   go_wp2
   go_end0;exact⟨aJ,O _ _ _ _ y _ _ _ q f s⟩
def QO{e:Ui}(h:w.ownsRow Q e S O n I)(p:E<=Q):w.ownsRow E e S O n I:=by
 rcases h with ⟨f,l|⟨g,c,d,m,o,k⟩⟩
 .exact⟨f,ed l⟩
 exact⟨f,ec ⟨g,c,d,m,aD,k⟩⟩
section
variable {fp:iU} {F:bN} {b_:Nat} {w:aN} {sb gf cap:Nat} {t0 tv u_ s0:aW} {v_:List j_} {below:List aI} {f:aI} {tape:List Int} {out:cY}
def dM.called{m:dA}{P:eM}{g:List aE}{I:List Uf}{x f:Option Uj}{d i c B:Nat}{l:aN}(h:dM Uc fp F b_ w sb gf cap t0 tv u_ s0 v_ m)(K:ZG fp F w (Ut f) P)(U:b_<=B)(E:∀k∈bE Uc sb gf u_ v_,k<B)(W:∀k,F k->k<B)
 (o:w.ownsRow B 263 1 (Uq x (Ty g) d) (Ty g) I) (J:iE F w I g) (G:∀a∈g,aK a<=200)
 (j:l.ownsRow b_ 111 6 (Uq (Ua (aL i 0)) (Ty v_+1) c) (Ty v_+1) (kQ v_++[Ut f,I_ 0,I_ 0,Ut Ub,Uq x (Ty g) d,bO]))
 (r:(T6 w.drew (Uy #[Ut f,I_ 0,I_ 0,Ut Ub,Uq x (Ty g) d,bO] 111)).grownBy l (Ua gf)) (Q:Ua gf=Ua i\/i=w.heap.size+1):
 dM Uc fp F b_ (Tz l (aL sb 1) (Uq (Ua (aL i 0)) (Ty v_+1) c)) sb i c t0 tv u_ s0 (v_++[⟨Ut f,I_ 0,I_ 0,Ut Ub,Uq x (Ty g) d,bO⟩]) ⟨m.f_++[⟨P,0,0,[],g,[]⟩],m.tape,m.out⟩/\
  Kept (bE Uc sb gf u_ v_) w (Tz l (aL sb 1) (Uq (Ua (aL i 0)) (Ty v_+1) c)):=by
 generalize u:Value.slice (Ua (aL i 0)) (Ty v_+1) c=V at*;have q:=ey.1 h.nodup;have s:=ey.1 q.2;have D:sb≠gf:=(by grind)
 have A:=aH h.i_
 have L:i≠sb:=by grind
 have M:i<l.heap.size:=by subst u;exact eG j i aJ
 have y:∀k,k<w.heap.size->k≠gf->l.heap[k]?=w.heap[k]?:=λk S X=>by rw[r.block k kj (G_),eh _ _ _ (by exact S)];rfl
 have N:∀k,k<w.heap.size->k≠gf->k≠sb->(Tz l (aL sb 1) V).heap[k]?=w.heap[k]?:=(by grind [em])
 have hFk :=λb v=>N b (h.apart b v).1 (λe=>(h.apart b v).2 mi) (λe=>(h.apart b v).2 mi)
 have hin :=λk H=>N k (h.lt k (by unfold bE;exact jw _ (jw _ H))) (λe=>s.1 (by rw[<-e];exact H)) (λe=>q.1 (by rw[<-e];exact jw _ H))
 have C:w.heap.size<=(Tz l (aL sb 1) V).heap.size:=eo s_ (eo r.size s_)
 have T:∀k,(Value.slice x (Ty g) d).ownBlock=Ua k->B<=k/\k<w.heap.size:=λk e=>⟨bX o k e,eG o k e⟩
 have O:∀k,(Value.slice x (Ty g) d).ownBlock=Ua k->k≠gf/\k≠sb:=(by grind [bE])
 have p:(⟨Ut f,I_ 0,I_ 0,Ut Ub,Uq x (Ty g) d,bO⟩:j_).ri Uc=(Value.slice x (Ty g) d).ownBlock.toList:=by grind [j_.ri,Value.ownBlock]
 have t:bE Uc sb i u_ (v_++[⟨Ut f,I_ 0,I_ 0,Ut Ub,Uq x (Ty g) d,bO⟩])=sb::i::((u_.ownBlock.toList++dD Uc v_)++(Value.slice x (Ty g) d).ownBlock.toList):=by simp[bE,dD,p]
 have n:Ty (v_++[(⟨Ut f,I_ 0,I_ 0,Ut Ub,Uq x (Ty g) d,bO⟩:j_)])=Ty v_+1:=s_
 refine⟨⟨?_,?_,?_,h.tape.h_ hFk s_,bC h.out G_,?_,?_,?_⟩,?_⟩
 .rw[n,aP (show l.heap[sb]?=_ from (y sb A D).trans h.i_),u];rfl
 .rw[n,nC,u];subst u;exact bC j λk z=>em _ _ _ _ (by cases z;exact L)
 .refine(h.uy.h_ hFk (s_) (by grind [dD])).snoc ⟨K.h_ hFk s_,rfl,rfl,rfl,⟨⟨I,?_,J.h_ hFk⟩,G⟩,⟨⟨[],World.ownsRow_nil _ _ _ _,iE.nil _ _⟩,s_⟩⟩
  exact bC (QO o U) G_
 .rw[t];refine ey.2 ⟨?_,ey.2 ⟨?_,ja.2 ⟨s.2,G_,?_⟩⟩⟩
  .grind
  .grind [dM.lt,bE]
  grind [bE]
 .grind [World.setCell,dM.lt,bE]
 .grind [dM.apart,bE]
 exact⟨r.os.trans aJ,r.tape.trans aJ,r.output.trans aJ,C,pi⟩
def CD(fp:iU)(F:bN)(b_ sb gf cap:Nat)(t0 tv u_ s0:aW)(v_:List j_)(below:List aI)(f:aI)(tape:List Int)(out:cY)(w0:aN)(us:List aE)(x:Option Uj)(d:Nat)(xs:List Uf)(W:aN):Prop:=
 ∃fvs' ys,xs=kQ fvs'/\Kept (bE Uc sb gf u_ v_) w0 W/\bE Uc sb gf u_ fvs'=bE Uc sb gf u_ v_/\Ty fvs'=Ty v_/\dM Uc fp F b_ W sb gf cap t0 tv u_ s0 fvs' ⟨below++[f.n_ (Ty us)],tape,out⟩/\
  W.ownsRow w0.heap.size 263 1 (Uq x (Ty us) d) (Ty us) ys/\iE F W ys us/\(∀a∈us,aK a<=200)/\∀k,F k->W.heap[k]?=w0.heap[k]?
def Fo(o:List eM)(k:Nat)(U:eM)(vs g:List aE)(h:dM Uc fp F b_ w sb gf cap t0 tv u_ s0 v_ ⟨below++[f],tape,out⟩)(C:Ty below<=15)(G:b_<=w.heap.size)(ac:Ty f.ops<=99000)(hf:f.ops=vs++g)(M:oD fp F w o)(hk:o[k]?=Ua U):
 Ue Un 374 #[Us #[fp k,I_ (Ty g)],bF sb] w (Ai fp F b_ sb t0 s0 (bE Uc sb gf u_ v_) w (cF o (.call k (Ty g)) below f tape out)):=by
 have Q:=M k U hk;have I:∃q,fp k=Ut q:=by grind [ZG]
 obtain⟨i,I⟩:=I;rw[I]at Q ⊢
 have hM:=h.xg G (cD #[Ut i,I_ (Ty g)] 412);have H:R_ w (T6 w (cD #[Ut i,I_ (Ty g)] 412)):=(by grind [ep,dz])
 have X:=h.grow H (s_) (λ_ h=>ed h)
 have ab:Ty v_=Ty below+1:=by rw[h.count];simp
 have y:(T6 w (cD #[Ut i,I_ (Ty g)] 412)).heap[w.heap.size]?=Ua (cD #[Ut i,I_ (Ty g)] 412):=aZ _ _ aJ _;have hm:f.many (Ty g)=g:=by simp[aI.many,hf]
 have hr:cF o (.call k (Ty g)) below f tape out=if Ty below+1=16 then (⟨below++[f.n_ (Ty g)],tape,out⟩,5)else (⟨(below++[f.n_ (Ty g)])++[⟨U,0,0,[],g,[]⟩],tape,out⟩,0):=by simp[cF,hm,hk]
 rw[hr];have hwsz :=aH y;generalize T:T6 w (cD #[Ut i,I_ (Ty g)] 412)=A at*
 have HP:∀W,bV A W->Ue Un 351 #[Ut (Ua (aL gf (Ty below*6))),I_ (Ty g)] W λe u=>∃x d z,e=bY (P_ x (Ty g) d)/\CD fp F b_ sb gf cap t0 tv u_ s0 v_ below f tape out A g x d z u:=λW S=>by
  refine((X.grow S.below (s_) λ_ h=>ed h).n_ hf aD).mono ?_
  rintro e u ⟨v',L,c,he,n,t,p,l,s,K,J,N⟩;rw[S.heap]at s;obtain⟨x,d,rfl⟩:=fW s;exact⟨x,d,_,he,c,L,aJ,(Kept.p_ (own:=bE Uc sb gf u_ v_) S.below).trans n G_,t,p,l,s,K,J,nz⟩
 have HK:∀{W W'},Kept (bE Uc sb gf u_ v_) A W->Kept (bE Uc sb gf u_ v_) W W'->Kept (bE Uc sb gf u_ v_) w W':=λa b=>((Kept.p_ (own:=bE Uc sb gf u_ v_) H).trans a G_).trans b G_
 by_cases v:Ty below+1=16
 .rw[ef v];refine(YZ w A sb gf (Ty below*6) gf cap (Ty g) i (λu=>sw fp F b_ sb t0 s0 (bE Uc sb gf u_ v_) w ⟨below++[f.n_ (Ty g)],tape,out⟩ u) (λx d W=>∃z,CD fp F b_ sb gf cap t0 tv u_ s0 v_ below f tape out A g x d z W) T (hM.uh C) (λW S=>?_) λW x d r=>?_).mono ?_
  .refine(HP W S).mono ?_;simp
  .obtain⟨z,c,L,_,n,t,p,l,_⟩:=r;have E:=l.i_;grind [aA,Kept.refl,ss.refl,sw]
  rintro e u ⟨rfl,V⟩;exact⟨(by grind [T7]),V⟩
 rw[ea v];refine(YY w A sb gf (Ty below*6) gf cap (Ty g) b_ (Ty v_) i (λu=>sw fp F b_ sb t0 s0 (bE Uc sb gf u_ v_) w ⟨(below++[f.n_ (Ty g)])++[⟨U,0,0,[],g,[]⟩],tape,out⟩ u) (CD fp F b_ sb gf cap t0 tv u_ s0 v_ below f tape out A g) T aD (hM.uh C) HP (λW x d z r=>?_) (λW x d z r=>?_) (λW x d z r=>?_) λW x d z r=>?_).mono ?_
 .obtain⟨c,L,_,n,t,p,l,s,K,J,N⟩:=r;have E:=l.i_;rw[p]at E;have hb2 :=(n.block w.heap.size hwsz λhm=>Nat.lt_irrefl _ (h.lt _ hm)).trans y
  grind [aA]
 .obtain⟨c,L,rfl,n,t,p,l,s,K,J,N⟩:=r;have:=l.row;rw[p]at this;exact bC this λ_ _=>aJ
 .obtain⟨c,L,_,n,t,p,l,s,K,J,N⟩:=r;intro w5 Y;have aa:=aH l.i_;have ae:sb≠gf:=λe=>(ey.1 l.nodup).1 (by simp[e])
  have hb5 :=(Y.block sb kj (G_)).trans ((eh _ _ _ (by exact aa)).trans l.i_)
  exact⟨⟨_,aA hb5 aJ⟩,aF hb5,G_⟩
 .obtain⟨c,L,rfl,n,t,p,l,s,K,J,N⟩:=r;intro g5 O w5 m Y Z;rw[<-p]at m ⊢
  have hFn :=Q.h_ (λb hb=>by rw[N b hb];exact H.block b (h.apart b hb).1) MW
  obtain⟨q1,q2⟩:=l.called (B:=A.heap.size) hFn aD (λj D=>by rw[t]at D;exact X.lt j D) (λj D=>(X.apart j D).1) s K J m Y Z
  rw[t]at q2;refine⟨HK n q2,F,g5,O,tv,u_,_,ss.refl _ _,q1,λj D=>?_⟩
  have P:bE Uc sb g5 u_ (c++[⟨Ut i,I_ 0,I_ 0,Ut Ub,P_ x (Ty g) d,bO⟩])=sb::g5::((u_.ownBlock.toList++dD Uc c)++(Value.slice x (Ty g) d).ownBlock.toList):=by grind [bE,dD,j_.ri,Value.ownBlock]
  rw[P]at D;rw[<-t];have ad:=n.size;simp only[ff,fo]at D;rcases D with e|e|(e|e)|e
  .exact ed mi
  .grind [bE]
  .exact ed mi
  .exact ed mi
  have:=bX s j G_
  exact aD
 rintro e u ⟨rfl,V⟩;exact⟨ed s_,V⟩
end
