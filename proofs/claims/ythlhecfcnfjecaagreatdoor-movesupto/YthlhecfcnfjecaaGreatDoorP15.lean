import Derived.Test.YthlhecfcnfjecaaGreatDoorP01
import Derived.Test.YthlhecfcnfjecaaGreatDoorP13
set_option linter.all false
set_option maxRecDepth 100000
set_option maxHeartbeats 0
open List renaming length->aA
open Go.World renaming setCell->c9,cell?->I_,cell?_of_block->Wv
open Option renaming some->Wy
open Go renaming Value->Xa,TypeId->Xd
open Go.Value renaming slice->Xl,string->Xm
namespace Go.Proofs.YthlhecfcnfjecaaGreatDoor
open Hs _root_.Go.Proofs.Tryz Go.RowKit
variable{R:List aC}{a n p:Nat}{f:Type}{e:Xd}{s:aM}{o r:aN}{y:aX}{x:bL}
def kZ{α:Type}(k:Nat)(R:List Xa->α->Prop)(xs:List Xa)(l:List α):Prop:=(aA xs)=aA l*k/\∀i (h:i<aA l),R ((xs.drop (i*k)).take k) l[i]
section
variable {α:Type} {k:Nat} {R S:List Xa->α->Prop} {xs ys:List Xa} {l m:List α} {a:α}
def kZ.nil:kZ k R [] []:=(by grind[kZ])
def kZ.mono(h:kZ k R xs l)(f:∀c a,R c a->S c a):kZ k S xs l:=(by grind[kZ])
def kZ.fit{i:Nat}(h:kZ k R xs l)(a:i<aA l):i*k+k<=aA xs:=by rw[h.1,<-Nat.succ_mul];exact im k a
theorem kZ.append(h:kZ k R xs l)(b:kZ k R ys m):kZ k R (xs++ys) (l++m):=by refine⟨by grind[kZ],λi c=>?_⟩;by_cases a:i<aA l;have:=h.fit a;grind[kZ];obtain⟨j,rfl⟩:∃j,i=aA l+j:=⟨i-aA l,Z⟩;rw[List.getElem_append_right Z,Nat.add_mul,<-h.1,List.drop_length_add_append];grind[kZ]
theorem kZ.one(h:aA xs=k)(h':R xs a):kZ k R xs [a]:=⟨rm,λi b=>by obtain rfl:i=0:=G_;grind⟩
def kZ.take(h:kZ k R xs l){m:Nat}(b:m<=aA l):kZ k R (xs.take (m*k)) (l.take m):=by have d:=im k b;refine⟨by grind[kZ],λi c=>?_⟩;have a:i<m:=G_;have:=im k a;grind[List.drop_take,kZ]
def kZ.cell(h:kZ k R xs l){i:Nat}(a:i<aA l):∃c:List Xa,R c l[i]/\∀j u,c[j]?=Wy u->xs[i*k+j]?=Wy u:=⟨_,h.2 i a,λj u b=>by grind⟩
def Own(k:Nat)(ty:Xd)(R:List Xa->α->Prop)(w:aN)(v:aX)(l:List α):Prop:=∃xs,w.ownsRow 0 ty k v (aA l) xs/\kZ k R xs l
variable {ty:Xd} {w w':aN} {v:aX}
theorem Own.nil:Own k ty R w (bP) []:=⟨[],World.ownsRow_nil _ _ _ _,kZ.nil⟩
theorem Own.h_(h:Own k ty R w v l)(d:∀b,v.ownBlock=Wy b->w'.heap[b]?=w.heap[b]?)(f:∀c a,R c a->S c a):Own k ty S w' v l:=by have ⟨xs,h1,h2⟩:=h;exact⟨xs,bE h1 d,h2.mono f⟩
theorem Own.lt(h:Own k ty R w v l):∀b,v.ownBlock=Wy b->b<w.heap.size:=by have ⟨xs,h1,h2⟩:=h;exact λb a=>(h1.lt b a).2
theorem Own.slice(h:Own k ty R w v l):∃x c,v=Xl x (aA l) c/\aA l<=c/\c<=maxLen:=by obtain⟨d,⟨-,b⟩,a⟩:=h;grind
theorem Own.cell(h:Own k ty R w v l){i:Nat}(f:i<aA l):∃g a c,v=Xl (Wy (aL g 0)) (aA l) a/\R c l[i]/\∀j u,c[j]?=Wy u->I_ w (aL g (i*k+j))=Wy u:=by obtain⟨e,⟨-,d⟩,b⟩:=h;grind[aB,kZ]
def Own.cut(h:Own k ty R w v l){n:Nat}(f:n<=aA l):∃x c,v=P_ x (aA l) c/\aA l<=c/\c<=maxLen/\Own k ty R w (P_ x n c) (l.take n):=by have ⟨xs,⟨h0,h1⟩,h2⟩:=h;have m:aA (l.take n)=n:=G_;have r:=im k f;have b:=h2.take f;rcases h1 with ⟨rfl,i⟩|⟨g,a,d,rfl,-,p,o,e,j,q⟩;exact⟨none,0,by rw[i],Z,Z,_,⟨b.1,G_⟩,b⟩;refine⟨_,a,aJ,o,e,_,⟨b.1,dz ⟨g,a,d,re,Z,p,Z,e,j,?_⟩⟩,b⟩;grind
end
def Each{α β:Type}(R:α->β->Prop):List α->List β->Prop|[],[]=>True|a::l,b::m=>R a b/\Each R l m|_,_=>False
section
variable {α β:Type} {R S:α->β->Prop}
def Each.mono:∀{l:List α}{m:List β},Each R l m->(∀a∈l,∀b,R a b->S a b)->Each S l m|[],[],_,_=>trivial|a::l,b::m,h,f=>⟨f a s_ b h.1,Each.mono h.2 G_⟩|[],_::_,h,_=>h.elim|_::_,[],h,_=>h.elim
def Each.length:∀{l:List α}{m:List β},Each R l m->aA l=aA m|[],[],_=>rfl|_::l,_::m,h=>by simp[Each.length h.2]|[],_::_,h=>h.elim|_::_,[],h=>h.elim
def Each.get:∀{l:List α}{m:List β},Each R l m->∀i (b:i<aA m),∃a,l[i]?=Wy a/\R a m[i]|a::_,_::_,h,0,_=>⟨a,rfl,h.1⟩|_::l,_::m,h,i+1,b=>Each.get h.2 i G_|[],_::_,h,_,_=>h.elim
def Each.snoc:∀{l:List α}{m:List β}{a b},Each R l m->R a b->Each R (l++[a]) (m++[b])|[],[],_,_,_,h=>⟨h,trivial⟩|_::_,_::_,_,_,h,c=>⟨h.1,Each.snoc h.2 c⟩|[],_::_,_,_,h,_=>h.elim|_::_,[],_,_,h,_=>h.elim
def Each.vd:∀{l:List α}{m:List β}{b},Each R l (m++[b])->∃c a,l=c++[a]/\Each R c m/\R a b|[a],[],_,h=>(by grind[Each])|a::l,x::m,b,h=>by obtain⟨c,y,rfl,e,d⟩:=Each.vd h.2;grind[Each]|[],[],_,h=>h.elim|[],_::_,_,h=>h.elim|_::_::_,[],_,h=>h.2.elim
end
structure Kp(F:bL)(w:aN)(G:bL)(w':aN):Prop where
 sub:∀b,F b->G b
 h_:∀b,F b->w'.heap[b]?=w.heap[b]?
section
variable {F G H:bL} {w w' w2:aN}
def Kp.refl:Kp F w F w:=⟨s_,s_⟩
def Kp.trans(h:Kp F w G w')(k:Kp G w' H w2):Kp F w H w2:=⟨λb a=>k.sub b (h.sub b a),λb a=>(k.h_ b (h.sub b a)).trans (h.h_ b a)⟩
def LV.kp{d:Nat}{v:aX}{l:List aE}(h:LV d F w v l)(k:Kp F w G w'):LV d G w' v l:=(h.h_ k.h_).mono k.sub (Z)
def RV.kp{d:Nat}{v:aX}{a:aE}(h:RV d F w v a)(k:Kp F w G w'):RV d G w' v a:=(h.h_ k.h_).mono k.sub (Z)
def eY.kp{d:Nat}{v:aX}{a:aC}(h:eY d F w v a)(k:Kp F w G w'):eY d G w' v a:=(h.h_ k.h_).mono k.sub (Z)
def xN(F:bL)(w:aN)(c:List Xa)(b:bQ×aE):Prop:=∃kv,c=[Xm (bs b.1),Y b.2.c_,Y b.2.n,Xm (bs b.2.s),kv]/\(∃d,LV d F w kv b.2.l)/\dY b.2/\aK b.2<=200
theorem xN.kp{c:List Xa}{b:bQ×aE}(h:xN F w c b)(k:Kp F w G w'):xN G w' c b:=by have ⟨kv,h1,⟨d,h2⟩,h3⟩:=h;exact⟨kv,h1,⟨d,h2.kp k⟩,h3⟩
structure yK(F:bL)(w:aN)(p:Nat × Xa)(f:iU):Prop where
 i_:w.heap[p.1]?=Wy (.cells #[Xm (bs f.name),Y f.l_,p.2] 164)
 row:Own 5 166 (xN F w) w p.2 f.g_
theorem yK.kp{p:Nat×Xa}{f:iU}(h:yK F w p f)(k:Kp F w G w')(c:w'.heap[p.1]?=w.heap[p.1]?)(a:∀b,p.2.ownBlock=Wy b->w'.heap[b]?=w.heap[b]?):yK G w' p f:=⟨c.trans h.i_,h.row.h_ a λ_ _ q=>q.kp k⟩
structure Fz{α:Type}(k:Nat)(ty:Xd)(R:List Xa->α->Prop)(F:bL)(w:aN)(v:aX)(l:List α):Prop where
 row:Own k ty R w v l
 i_:∀b,v.ownBlock=Wy b->F b
theorem Fz.kp{a:Type}{n:Nat}{c:Xd}{R:List Xa->a->Prop}{v:aX}{l:List a}(h:Fz n c R F w v l)(k:Kp F w G w'):Fz n c R G w' v l:=⟨h.row.h_ ((by grind[Kp.h_,Fz.i_])) s_,λb d=>k.sub b (h.i_ b d)⟩
def yI(x:bQ×bQ):List (bQ×bQ)->List (bQ×bQ)|[]=>[x]|y::l=>if fC x.1 y.1 then y::yI x l else x::y::l
noncomputable def lL(l:List (bQ×aE)):List (bQ×bQ):=(l.foldl (λr b=>yI (b.1,cM b.2) r) []).reverse
def AZ(c:List Xa)(a:bQ):Prop:=c=[Xm (bs a)]
def i8(c:List Xa)(a:bQ×Nat):Prop:=c=[Xm (bs a.1),Y a.2]
def vN(c:List Xa)(a:bQ×bQ):Prop:=c=[Xm (bs a.1),Xm (bs a.2)]
def Ag(F:bL)(w:aN)(c:List Xa)(p:fK×Nat):Prop:=∃sv vv ov bv,c=[Y p.2,sv,vv,ov,Y p.1.stop,bv]/\Fz 2 135 i8 F w sv p.1.stack/\Fz 2 137 vN F w vv (lL p.1.g_)/\Fz 1 9 AZ F w ov p.1.out
def Ag.kp{c:List Xa}{p:fK×Nat}(h:Ag F w c p)(k:Kp F w G w'):Ag G w' c p:=by grind[Fz.kp,Ag]
end
structure DM where
 rb:Nat
 fv:Xa
 tv:Xa
 rd:Nat
 ov:Xa
 rv:Xa
 mv:Xa
 fs:List (Nat × Xa)
def ob(v:aX):List Nat:=v.ownBlock.toList
def DM.sj(m:DM):List Nat:=m.rb::(ob m.ov++(ob m.rv++(ob m.mv++m.fs.flatMap λp=>p.1::ob p.2)))
def DP(c:List Xa)(p:Nat×Xa):Prop:=c=[aY p.1]
def mK(F:bL)(w:aN)(v:aX)(l:List Int):Prop:=(l=[]/\∃x c,v=Xl x 0 c)\/∃g o c,v=Xl (Wy (aL g o)) (aA l) c/\aA l<=c/\F g/\∀i (h:i<aA l),I_ w (aL g (o+i))=Wy (Y l[i])/\-9223372036854775808<=l[i]/\l[i]<=9223372036854775807
theorem mK.kp{G:bL}{w':aN}{v:aX}{l:List Int}(h:mK x r v l)(k:Kp x r G w'):mK G w' v l:=by rcases h with h|⟨g,o,c,d,a,f,b⟩;exact ea h;exact dz ⟨g,o,c,d,a,k.sub g f,λi e=>⟨by grind[Wv,Kp.h_],(b i e).2⟩⟩
structure cP(fs:List aC)(F:bL)(w:aN)(m:DM)(s:aM):Prop where
 i_:w.heap[m.rb]?=Wy (.cells #[m.fv,m.tv,Y m.rd,m.ov,m.rv,m.mv,Y s.stop] 129)
 wq:∃d,nK (eY d F w) F w m.fv fs
 tape:∃t,mK F w m.tv t/\m.rd<=aA t/\t.drop m.rd=s.tape/\aA t<=17592186044416
 out:Own 1 9 AZ w m.ov s.out
 wb:Own 1 162 DP w m.rv m.fs
 wy:Own 6 80 (Ag F w) w m.mv s.sk.zipIdx
 fr:Each (yK F w) m.fs s.f_
 nd:m.sj.Nodup
 nf:∀b∈m.sj,¬F b
 lt:∀b,F b->b<w.heap.size
 ol:aA s.out<=50
def nK.kp{G:bL}{w':aN}{d:Nat}(h:nK (eY d x r) x r y R)(k:Kp x r G w'):nK (eY d G w') G w' y R:=by rcases h with h|⟨g,a,b,i,l,c,n,j,m,o⟩;exact ea h;exact dz ⟨g,a,b,i,l,k.sub g c,(k.h_ g c).trans n,j,m,o.mono λ_ _ q=>q.kp k⟩
theorem mG:p∈ob y↔y.ownBlock=Wy p:=by simp[ob]
section
variable {fs:List aC} {F G:bL} {w w':aN} {m:DM} {s:aM}
theorem DM.C1{m:DM}{p:Nat×Xa}(h:p∈m.fs){b:Nat}(a:b=p.1\/p.2.ownBlock=Wy b):b∈m.sj:=by grind[DM.sj,mG]
theorem cP.kp(h:cP fs F w m s)(k:Kp F w G w')(e:∀b∈m.sj,w'.heap[b]?=w.heap[b]?)(c:∀b∈m.sj,¬G b)(a:∀b,G b->b<w'.heap.size):cP fs G w' m s:=by have f:∀v,(∀b,b∈ob v->b∈m.sj)->∀b,v.ownBlock=Wy b->w'.heap[b]?=w.heap[b]?:=(by grind[ob]);have ⟨d,hd⟩:=h.wq;have ⟨t,ht,h2⟩:=h.tape;exact⟨(by grind[DM.sj,cP.i_]),⟨d,hd.kp k⟩,⟨t,ht.kp k,h2⟩,h.out.h_ (ph) s_,h.wb.h_ (ph) s_,h.wy.h_ (ph) λ_ _ q=>q.kp k,h.fr.mono (by grind[yK.kp,DM.sj]),h.nd,c,a,h.ol⟩
end
structure Kx(F:bL)(w:aN)(G:bL)(w':aN):Prop where
 kp:Kp F w G w'
 os:w'.os=w.os
 tape:w'.tape=w.tape
 output:w'.output=w.output
 size:w.heap.size<=w'.heap.size
section
variable {fs:List aC} {F G H:bL} {w w' w2:aN} {m:DM} {s:aM}
def Kx.refl:Kx F w F w:=⟨.refl,rfl,rfl,rfl,Z⟩
def Kx.trans(h:Kx F w G w')(k:Kx G w' H w2):Kx F w H w2:=⟨h.kp.trans k.kp,k.os.trans h.os,k.tape.trans h.tape,k.output.trans h.output,em h.size k.size⟩
def Kx.below(h:R_ w w')(a:∀b,F b->b<w.heap.size):Kx F w F w':=⟨⟨s_,lm⟩,h.os,h.tape,h.output,h.size⟩
structure Px(F:bL)(w:aN)(m:DM)(G:bL)(w':aN)(m':DM):Prop where
 sub:∀b,F b->G b
 new:∀b,G b->F b\/w.heap.size<=b
 wg:∀b,b<w.heap.size->b∉m.sj->w'.heap[b]?=w.heap[b]?
 mu:∀b∈m'.sj,b∈m.sj\/w.heap.size<=b
 os:w'.os=w.os
 tape:w'.tape=w.tape
 output:w'.output=w.output
 size:w.heap.size<=w'.heap.size
 rb:m'.rb=m.rb
def Px.refl:Px F w m F w m:=⟨s_,G_,s_,G_,rfl,rfl,rfl,Z,rfl⟩
theorem Px.trans{c a:DM}(h:Px F w m G w' c)(k:Px G w' c H w2 a):Px F w m H w2 a:=have d:=h.size
 ⟨λb q=>k.sub b (h.sub b q),λb q=>(k.new b q).elim (h.new b) Z,(by grind[Px.wg,Px.mu]),(by grind[Px.mu]),k.os.trans h.os,k.tape.trans h.tape,k.output.trans h.output,em d k.size,k.rb.trans h.rb⟩
def Px.below(h:R_ w w'):Px F w m F w' m:=⟨s_,G_,λb a _=>h.block b a,G_,h.os,h.tape,h.output,h.size,rfl⟩
def Px.kp{a:DM}(h:Px F w m G w' a)(b:cP fs F w m s):Kp F w G w':=⟨h.sub,(by grind[Px.wg,cP.lt,cP.nf])⟩
def nH{b:Nat}{d c a:aX}{e:Xd}(h:w.heap[b]?=Wy (.cells #[d,c,a] e)):I_ w (aL b 0)=Wy d/\I_ w (aL b 1)=Wy c/\I_ w (aL b 2)=Wy a/\∀i,w.frozen? (aL b i)=false:=⟨aB h rfl,aB h rfl,aB h rfl,λ_=>aF h⟩
def iA{b:Nat}{f e c a g j d:aX}{k:Xd}(h:w.heap[b]?=Wy (.cells #[f,e,c,a,g,j,d] k)):w.cell? (aL b 0)=Wy f/\I_ w (aL b 1)=Wy e/\I_ w (aL b 2)=Wy c/\I_ w (aL b 3)=Wy a/\I_ w (aL b 4)=Wy g/\I_ w (aL b 5)=Wy j/\I_ w (aL b 6)=Wy d/\∀i,w.frozen? (aL b i)=false:=⟨aB h rfl,aB h rfl,aB h rfl,aB h rfl,aB h rfl,aB h rfl,aB h rfl,λ_=>aF h⟩
def rO{a:List (Nat×Xa)}{p:Nat×Xa}(h:cP fs F w m s)(f:m.fs=a++[p]):Calls prog 111 #[aY m.rb] w λe w'=>e=bR (aY p.1)/\∃q,w'=w.drewN q:=by
 have ⟨g,cap,c,hv,hc,hj⟩:=h.wb.cell (i:=a.length) G_;have d:aA m.fs=aA a+1:=G_;have k:dR w g (aA a) (aY p.1):=by simpa using hj 0 (aY p.1) (by rw[hc];simp[f])
 have j:=(iA h.i_).2.2.2.2.1;rw[hv,d]at j;have b:aA a+1<=maxLen:=by obtain⟨x,o,-,r,l⟩:=h.wb.slice;exact Z
 unfold maxLen at b;have n:(0:Int)<=(aA a:Int):=Z;have t:(aA a:Int)<(aA a:Int)+1:=Z;clear hj hv hc h d;go_in;go_wp;go_quiet (fail);go_wp2;go_ret;exact⟨aJ,_,aJ⟩
def ON{p:Nat×Xa}{f:iU}(h:yK F w p f)(x:bQ):Calls prog 134 #[aY p.1,Q_ (bs x)] w λe w'=>e=bR (Y (jP f.g_ x))/\w'=w:=by
 have ⟨c0,c1,c2,fz⟩:=nH h.i_;have ⟨y,cc,hv,h1,h2⟩:=h.row.slice;rw[hv]at c2;have l:aA f.g_<=maxLen:=Z;unfold maxLen at l;have r:∀i (m:i<aA f.g_),∃g,y=Wy (aL g 0)/\dR w g (i*5) (Q_ (bs f.g_[i].1)):=λi m=>by obtain⟨g,n,c,b,⟨u,rfl,-⟩,d⟩:=h.row.cell m;rw[hv]at b;cases b;exact⟨g,aJ,d 0 _ aJ⟩
 clear h h1 h2 hv;go_in;go_wp2;go_loop [5] (λi=>∃k:Nat,k<=aA f.g_/\i=Y k/\∀j (d:j<aA f.g_),j<k->f.g_[j].1≠x) (λi=>aA f.g_-(intOf i).toNat);case atStart=>grind
 case round=>
  obtain⟨k,t,rfl,q⟩:=hrel;by_cases a:k<aA f.g_
  .obtain⟨g,rfl,s⟩:=r k a;have b:(k:Int)<(aA f.g_:Int):=Z;by_cases o:f.g_[k].1=x;.go_wp2;go_ret;refine⟨nU ?_,aJ⟩;rw[jP,(ky).2 ⟨a,by simpa using o,λj d=>by simpa using q j Z d⟩]
   have v:((bs f.g_[k].1).toList==(bs x).toList)=false:=by grind[bA]
   go_wp;grind[intOf]
  have b:¬(k:Int)<(aA f.g_:Int):=Z;go_wp2;go_ret;refine⟨nU ?_,aJ⟩;grind[jP,List.getElem_of_mem]
end
section
variable {fs:List aC} {F G H:bL} {w w' w2:aN} {m:DM} {s:aM}
theorem DM.xm:m.rb∈m.sj:=by simp[DM.sj]
def cP.Fj(h:cP fs F w m s){rd l:Nat}{j:List Int}(a:∀k,k≠m.rb->k<H_ w->w'.heap[k]?=w.heap[k]?)(o:H_ w<=H_ w') (n:w'.heap[m.rb]?=Wy (bO #[m.fv,m.tv,Y rd,m.ov,m.rv,m.mv,Y l] 129)) (r:∀t:List Int,t.drop m.rd=s.tape->m.rd<=aA t->rd<=aA t/\t.drop rd=j):cP fs F w' {m with rd:=rd} {s with stop:=l,tape:=j}:=by have g:Kp F w F w':=⟨s_,λb c=>a b (λe=>h.nf _ DM.xm (e▸c)) (h.lt b c)⟩;have y:=eu.1 h.nd;have i:∀v,(∀b,b∈ob v->b∈m.sj.tail)->(∀b,v.ownBlock=Wy b->b<H_ w)->∀b,v.ownBlock=Wy b->w'.heap[b]?=w.heap[b]?:=(by grind[ob,DM.sj]);have x:∀p∈m.fs,∀b,(b=p.1\/p.2.ownBlock=Wy b)->b≠m.rb:=(by grind[ob]);have ⟨d,hd⟩:=h.wq;have ⟨t,q1,q2,q3,q4⟩:=h.tape;exact⟨n,⟨d,hd.kp g⟩,(by grind[mK.kp]),h.out.h_ (i _ (ph) h.out.lt) s_,h.wb.h_ (i _ (ph) h.wb.lt) s_,h.wy.h_ (i _ (ph) h.wy.lt) λ_ _ q=>q.kp g,h.fr.mono λp u f q=>q.kp g (a _ (G_) (aH q.i_)) λb e=>a b (G_) (q.row.lt b e),h.nd,h.nf,λb a=>eh (h.lt b a) o,h.ol⟩
def cP.xb(h:cP fs F w m s):m.rb<w.heap.size:=aH h.i_
def cP.below(h:cP fs F w m s)(d:∀b∈m.sj,b<w.heap.size)(c:R_ w w'):cP fs F w' m s:=h.kp ⟨s_,(by grind[ef,cP.lt])⟩ (lm) h.nf λb a=>eh (h.lt b a) c.size
theorem cP.ze(h:cP fs F w m s):∀b∈m.sj,b<w.heap.size:=by
 intro b c;simp only[DM.sj,ew,fm,jw,mG]at c;rcases c with rfl|c|c|c|⟨p,d,c⟩;exact h.xb;exact h.out.lt b c;exact h.wb.lt b c;exact h.wy.lt b c;have:∀{l:List (Nat×Xa)}{k:List iU},Each (yK F w) l k->p∈l->∃f,yK F w p f:=by intro l;induction l with|nil=>simp|cons a l g=>intro k e d;cases k with|nil=>exact e.elim|cons f k=>grind[Each]
 obtain⟨f,q⟩:=this h.fr d;rcases c with rfl|c;exact aH q.i_;exact q.row.lt b c
theorem cP.sd(h:cP fs F w m s)(a:R_ w w'):cP fs F w' m s/\Px F w m F w' m:=⟨h.below h.ze a,.below a⟩
def cP.after{b:aN}{a:DM}(h:cP fs F w m s/\Px G b a F w m)(c:R_ w w'):cP fs F w' m s/\Px G b a F w' m:=(by grind[cP.sd,Px.trans])
theorem Px.set{b:Nat}(a:b∈m.sj)(i:Nat)(v:aX):Px F w m F (c9 w (aL b i) v) m:=⟨s_,G_,oa,G_,rfl,rfl,rfl,s_,rfl⟩
def cP.vm(h:cP fs F w m s)(n:Nat):cP fs F (c9 w (aL m.rb 6) (Y n)) m {s with stop:=n}/\Px F w m F (c9 w (aL m.rb 6) (Y n)) m:=⟨h.Fj (oa) s_ (aP h.i_) G_,.set DM.xm _ _⟩
def Gi{n:Nat}(h:n=0\/s.stop≠0):s.or n=s:=by grind[aM.or]
def pZ(h:cP fs F w m s){v:aX}{a:aE}{d:Nat}(k:RV d F w v a)(n:Nat):Calls prog 108 #[aY m.rb,v,Y n] w λe w'=>e=bR v/\cP fs F w' m (s.or n)/\Px F w m F w' m:=by obtain⟨o,rfl,g⟩:=k;obtain⟨x,c,rfl⟩:=g.slice;obtain⟨-,-,-,-,-,-,p,f⟩:=iA h.i_;have i:=h.xb;have l:=f 6;have H:=O h;clear h g f;go_in;go_wp;subst n;exact bodyPost_ret (v:=.agg #[Y a.c_,Y a.n,Q_ (bs a.s),P_ x (aA a.l) c]) qc rfl ⟨rfl,by rw[Gi (.inl rfl)];exact H.sd lj⟩;rename_i b j;refine bodyPost_ret (v:=.agg #[Y a.c_,Y a.n,Q_ (bs a.s),P_ x (aA a.l) c]) qc rfl ⟨rfl,?_⟩;rw[aM.or,ec ⟨b,G_⟩];exact cP.after (H.vm n) lj;rename_i b j;exact bodyPost_ret (v:=.agg #[Y a.c_,Y a.n,Q_ (bs a.s),P_ x (aA a.l) c]) qc rfl ⟨rfl,by rw[Gi (G_)];exact H.sd lj⟩
end
def yg(t e:Xd)(k bytes:Nat):Prop:=∃i z,prog.underlying t=Wy (.slice e)/\prog.info? e=Wy i/\i.zero=Wy z/\i.size=k/\i.bytes=bytes/\z.cells.size=k/\0<k
def yg.of{t:Xd}{z:aX}(h:prog.underlying t=Wy (.slice e))(c:(prog.info? e).map (λi=>(i.zero,i.size,i.bytes))=Wy (Wy z,p,a))(b:z.cells.size=p)(d:0<p):yg t e p a:=by grind[Option.map_eq_some_iff,yg]
section
variable {α:Type} {k bytes:Nat} {t e:Xd} {R:List Xa->α->Prop} {w:aN} {v xv:aX} {l ys:List α}
def Src(k:Nat)(R:List Xa->α->Prop)(w:aN)(xv:aX)(ys:List α):Prop:=∃y c,xv=Xl y (aA ys) c/\((ys=[]/\(y=none->c=0))\/∃ad news,y=Wy ad/\kZ k R news ys/\(∀j u,news[j]?=Wy u->I_ w (ad.add j)=Wy u)/\∀u∈news,u.oneCell'=true)
def kZ.uu{b:List Xa}(h:kZ k R b l)(d:∀c a,R c a->∀u∈c,u.oneCell'=true):∀u∈b,u.oneCell'=true:=by intro u e;obtain⟨j,m,rfl⟩:=ki e;have n:=h.1;rcases jv k with rfl|g;exact Z;have f:j/k<aA l:=Nat.div_lt_of_lt_mul G_;refine d _ _ (h.2 _ f) _ (jz (i:=j%k) ?_);grind[Nat.mod_lt,Nat.div_add_mod]
def Own.src(h:Own k e R w v l)(f:∀c a,R c a->∀u∈c,u.oneCell'=true):Src k R w v l:=by have ⟨xs,h2,h3⟩:=h;rcases h2.2 with ⟨rfl,j⟩|⟨g,b,d,rfl,i,n,m⟩;grind[Src];exact⟨_,b,aJ,.inr ⟨_,xs,aJ,h3,h2.cells aJ,h3.uu f⟩⟩
def Src.one{b c:Nat}{d:Array Xa}{a:α}(g:w.heap[b]?=Wy (.cells d e))(i:d.size=k)(h:R d.toList a)(f:∀u∈d.toList,u.oneCell'=true):Src k R w (Xl (Wy (aL b 0)) 1 c) [a]:=⟨_,c,rfl,.inr ⟨_,d.toList,rfl,(by grind[kZ.one]),World.news_of_block g,f⟩⟩
def OI{ty:Xd}(j:yg t e k bytes){n:Nat}{l:List Xa}(h:w.ownsRow 0 e k v n l)(y:Option Addr)(c:Nat)(o:y=none->c=0):(Builtin.append_ #[t,t] ty #[v,P_ y 0 c]).run prog w=.ok v w:=by obtain⟨i,z,b,d,-,-,-,-,-⟩:=j;cases y with|none=>grind[run_append_owned_none]|some p=>rcases h.2 with ⟨rfl,rfl⟩|⟨g,m,f,rfl,_,_,a,_⟩;simp[Builtin.append_,run_underlying b,sizeOf,typeInfo,d,Builtin.lenOf,Builtin.firstCells,loadCells,loadCellsFrom,Result.andThen];simp[Builtin.append_,run_underlying b,sizeOf,typeInfo,d,Builtin.lenOf,Builtin.firstCells,a,storeCells,loadCells,loadCellsFrom,Result.andThen]
variable {o:Oper} {a:Act} {K:Act->World->Prop} {Q:Exit->Act->World->Prop} {s x:Operand} {ops:Array Oper} {rest:List Oper} {E:Prop}
def UI{Z_:Prop}(Y_:Z_:=by unfold Oper.wp;simp[execOp,ho,resolve,invoke,builtin,hs,hx,hrun];exact hK v w (by grind[Own]) ⟨rfl,rfl,rfl,Z,s_⟩ (.inl rfl)):Z_:=Y_
def Fo(m:yg t e k bytes)(ho:o.op=.call {callee:=.builtin .append,args:=#[s,x],argTypes:=#[t,t]})(hs:a.eval s=v)(h:Own k e R w v l)(hx:a.eval x=xv)(A:Src k R w xv ys)(n:(aA l+aA ys)*bytes<=140737488355328)(D:aA l+aA ys<=maxLen) (hK:∀d w',Own k e R w' d (l++ys)->w.grownBy w' v.ownBlock->(d.ownBlock=v.ownBlock\/d.ownBlock=Wy (H_ w))->K (a.put o.dst d) w'):o.wp prog a w K Q:=by have ⟨xs,h1,h2⟩:=h;obtain⟨y,c,rfl,⟨rfl,C⟩|⟨j,b,rfl,B,p,r⟩⟩:=A;have hrun:=OI (ty:=o.type) m h1 y c C;exact UI;have ⟨i,z,ht,hi,hz,hz1,hz2,hz3,hz4⟩:=m;rcases jv (aA ys) with f|f;have e0:=kt.1 f;subst e0;have hrun:=OI (ty:=o.type) ⟨i,z,ht,hi,hz,hz1,hz2,hz3,hz4⟩ h1 (Wy j) c (s_);exact UI;apply wp_append_lies w s x t ho 0 e i z k bytes ht hi hz hz1 hz2 hz3 hz4 v (aA l) xs hs h1 j (aA ys) c b hx B.1 p r f D n (Z) _ rfl;intro g q w' F E u _;exact hK _ _ (by grind[kZ.append,Own]) E (u.imp (λe=>e.symm) λe=>fe Wy e)
def rL(c:o.guard=none)(g:yg t e k bytes)(f:o.op=.call {callee:=.builtin .append,args:=#[s,x],argTypes:=#[t,t]})(n:a.eval s=v)(h:Own k e R w v l)(p:a.eval x=xv)(i:Src k R w xv ys)(m:(aA l+aA ys)*bytes<=140737488355328)(d:aA l+aA ys<=maxLen) (j:∀b w',Own k e R w' b (l++ys)->w.grownBy w' v.ownBlock->(b.ownBlock=v.ownBlock\/b.ownBlock=Wy w.heap.size)->K (a.put o.dst b) w'):if Region.wanted o (yielded ops a.tmps)=true then Oper.wp prog o a w K Q else E:=by rw[ec (by simp[Region.wanted,c])];exact Fo g f n h p i m d j
def mP(c:o.guard=none)(g:yg t e k bytes)(f:o.op=.call {callee:=.builtin .append,args:=#[s,x],argTypes:=#[t,t]})(m:a.eval s=v)(h:Own k e R w v l)(n:a.eval x=xv)(i:Src k R w xv ys)(j:(aA l+aA ys)*bytes<=140737488355328)(d:aA l+aA ys<=maxLen) (q:∀b w',Own k e R w' b (l++ys)->w.grownBy w' v.ownBlock->(b.ownBlock=v.ownBlock\/b.ownBlock=Wy w.heap.size)->wpList prog ops Q rest (a.put o.dst b) w'):wpList prog ops Q (o::rest) a w:=wpList_plain c λ_ p=>Fo g f m h n i j d G_
def Own.Fh{w':aN}{g f i:Nat}{b:α}(h:Own k e R w (P_ (Wy (aL g 0)) (aA l) f) l)(B:i<aA l) (q:∀c,w.heap[g]?=Wy (bO c e)->∃a,w'.heap[g]?=Wy (bO a e)/\a.size=c.size/\(∀j,j<i*k\/i*k+k<=j->a[j]?=c[j]?)/\((i*k+k<=c.size)->R ((a.toList.drop (i*k)).take k) b)):Own k e R w' (P_ (Wy (aL g 0)) (aA l) f) (l.set i b):=by
 have ⟨xs,⟨h0,h1⟩,h2⟩:=h;rcases h1 with ⟨s,-⟩|⟨y,n,c,u,-,o,A,v,x,C⟩;cases s;cases u;have ⟨a,q1,q2,q3,q4⟩:=q c o;refine⟨a.toList.take (aA l*k),⟨G_,G_⟩,G_,λj m=>?_⟩;rw[List.length_set]at m;have r:=h2.fit m;have t:((a.toList.take (aA l*k)).drop (j*k)).take k=(a.toList.drop (j*k)).take k:=by grind[List.drop_take]
 rw[t,List.getElem_set];split;grind;have:=h2.2 j m;have z:(a.toList.drop (j*k)).take k=(xs.drop (j*k)).take k:=by
  refine jt λp=>?_;rw[ju,ju];split;have:j*k+p<i*k\/i*k+k<=j*k+p:=by rcases gw j i with d|d;have:=im k d;grind;have:=im k (show i+1<=j by omega);grind
  grind;rfl
 grind
end
def Gm:yg 73 137 2 32:=.of underlying73 (z:=.agg #[Q_ (bs []),Q_ (bs [])]) k_ rfl d_
def XS{x:bQ×bQ}:∀(B A:List (bQ×bQ)),(∀y∈B,fC x.1 y.1=true)->(∀y,A.head?=Wy y->fC x.1 y.1=false)->yI x (B++A)=B++x::A|[],[],_,_=>rfl|[],y::A,_,h=>by simp[yI,h y rfl]|y::B,A,a,b=>by simp[yI,a y s_,XS B A (G_) b]
def D9(l:List (bQ×aE))(b:bQ×aE):lL (l++[b])=(yI (b.1,cM b.2) (lL l).reverse).reverse:=by simp[lL]
theorem XT(x:bQ×bQ):∀l,aA (yI x l)=aA l+1|[]=>rfl|y::l=>by unfold yI;split<;>simp[XT x l]
def NW(l:List (bQ×aE)):aA (lL l)=aA l:=by
 unfold lL;have:∀(l:List (bQ×aE)) r,aA (l.foldl (λr b=>yI (b.1,cM b.2) r) r)=aA r+aA l:=by intro l;induction l with|nil=>simp|cons a l c=>grind[XT]
 grind
structure Way(x:bQ × bQ)(wg A B:List (bQ × bQ)):Prop where
 eq:A++B=wg
 gt:∀y∈B,fC x.1 y.1=true
def Way.done{x:bQ×bQ}{a A B:List (bQ×bQ)}(h:Way x a A B)(b:∀y,A.getLast?=Wy y->fC x.1 y.1=false):A++x::B=(yI x a.reverse).reverse:=by rw[<-h.eq,List.reverse_append,XS _ _ (by simpa using h.gt) G_];simp
theorem nI(h:Below p r o)(n:Nat):Below p r (o.drewN n):=h.trans ⟨rfl,rfl,rfl,s_,s_⟩
def Own.dN{R:List Xa->f->Prop}{l:List f}(h:Own p e R r y l)(n:Nat):Own p e R (r.drewN n) y l:=h.h_ (s_) s_
def Own.Av{b:Type}{R:List Xa->b->Prop}{g i:Nat}{l:List b}(h:Own p e R r (P_ (Wy (aL g 0)) n a) l)(d:i<aA l):∃c,R c l[i]/\∀j u,c[j]?=Wy u->dR r g (i*p+j) u:=by grind[Own.cell]
def Own.yw{b:Type}{R:List Xa->b->Prop}{g:Nat}{l:List b}(h:Own p e R r (P_ (Wy (aL g 0)) n a) l)(i:Nat):r.frozen? (aL g i)=false:=by obtain⟨d,⟨-,c⟩,-⟩:=h;grind[aF]
def Own.Dl{R:List Xa->f->Prop}{i:Nat}{l:List f}{b:f}(h:Own 2 e R r (P_ (Wy (aL p 0)) n a) l)(j:i<aA l)(u0 u1:aX)(o:R [u0,u1] b):Own 2 e R (c9 (c9 r (aL p (i*2)) u0) (aL p (i*2+1)) u1) (P_ (Wy (aL p 0)) n a) (l.set i b):=by
 obtain⟨x,c,e,-⟩:=h.slice;cases e;refine h.Fh j λd k=>⟨_,aP (aP k),s_,G_,λm=>?_⟩;have:(((d.setIfInBounds (i*2) u0).setIfInBounds (i*2+1) u1).toList.drop (i*2)).take 2=[u0,u1]:=by apply jt;grind
 grind
def VJ{F:bL}{w:aN}{lv:aX}{l:List (bQ×aE)}(h:Own 5 166 (xN F w) w lv l)(hF:∀b,F b->b<H_ w)(hl:aA l<=1000000):Calls prog 112 #[lv] w λe w'=>∃v,e=bR v/\Own 2 137 vN w' v (lL l)/\(∀b,v.ownBlock=Wy b->H_ w<=b)/\R_ w w':=by
 obtain⟨y,cc,rfl,h1,h2⟩:=h.slice;unfold maxLen at h2;have H:=O h;have HF:=O hF;go_in;go_wp2;go_loopg [3,4] (aA l) (λgk ov iv wr=>∃k:Nat,k+gk=aA l/\iv=Y k/\Own 2 137 vN wr ov (lL (l.take k))/\(∀b,ov.ownBlock=Wy b->H_ w<=b)/\R_ w wr);case atStart=>exact⟨0,Z,rfl,Own.nil,λb e=>(by cases e),dv _ _⟩
 case round=>
  obtain⟨k,hk,rfl,ho,V,W⟩:=hrel;have n:=O (du ho (du V W));by_cases J:k<aA l
  .obtain⟨g,ad,c,e1,⟨Q,rfl,⟨d,hd⟩,S,ae⟩,G⟩:=H.cell J;cases e1;have I:=H.lt g aJ;have D:=n.2.2.block g I;have c0:=(Wv D).trans (G 0 _ aJ);have c1:=(Wv D).trans (G 1 _ aJ);have c2:=(Wv D).trans (G 2 _ aJ);have c3:=(Wv D).trans (G 3 _ aJ);have c4:=(Wv D).trans (G 4 _ aJ);have e2:(k:Int)<(aA l:Int):=Z;have HW:=O (AP d F (.agg #[Y l[k].2.c_,Y l[k].2.n,Q_ (bs l[k].2.s),Q]) l[k].2 wr ⟨Q,aJ,hd.h_ λb q=>n.2.2.block b (HF b q)⟩ (λb q=>eh (HF b q) n.2.2.size) Z S.fit);have ⟨z,cz,hz⟩:=hd.slice;subst hz;go_wp;refine sa HW λw1 t=>?_;have X:Own 2 137 vN (eF w1 #[Q_ (bs l[k].1),Q_ (bs (cM l[k].2))] 137) u3 (lL (l.take k)):=n.1.h_ (λb q=>(ed _ _ _ (eh (n.1.lt b q) t.size)).trans (t.block b (n.1.lt b q))) s_;have hbw1:=n.2.2.trans (t.mono n.2.2.size);have d0:dR w1 g (k*5) (Q_ (bs l[k].1)):=(Wv (t.block g (eh I n.2.2.size))).trans c0;have u:=O (du X (du n.2.1 hbw1));have E:aA (lL (l.take k))<=1000000:=by rw[NW,ia];exact Z
   go_wp2_with (at_builtin;refine mP r_ Gm r_ r_ u.1 r_ (Src.one (bI w1 _ rfl) rfl (show vN _ (l[k].1,cM l[k].2)from rfl) lu) la lr ?_;intro v' w2 r ab C;obtain⟨o,vc,-,rfl,-,-⟩:=r.cell (i:=(lL (l.take k)).length) s_;rw[et,ib]at r);have P:H_ w<=o:=by rcases C with e|e;exact u.2.1 o e.symm;cases e;exact em u.2.2.size s_
   have hb2:=(u.2.2.alloc u.2.2.size _).trans ⟨‹World.grownBy _ _ _›.os,‹World.grownBy _ _ _›.tape,‹World.grownBy _ _ _›.output,‹World.grownBy _ _ _›.size,λb D=>‹World.grownBy _ _ _›.block b (by have:=u.2.2.size;simp;exact Z) λe=>by have:=u.2.1 b e.symm;exact Z⟩;have H2:=O (du r hb2);have HT:=O (du (D9 (l.take k) l[k]) (hQ J));have ⟨x,hx⟩:∃x:bQ×bQ,x=(l[k].1,cM l[k].2):=(by simp);have ⟨j,hold⟩:∃j,j=lL (l.take k):=(by simp);rw[<-hx,<-hold]at H2 HT;rw[<-hold]at E⊢;clear r hb2 C ab u c0 d0 hold hx;go_loopg [6] (aA j) (λgj Q p=>∃A B,aA A=gj/\Q=Y (aA A)/\Way x j A B/\Own 2 137 vN p (P_ (Wy (aL o 0)) (aA j+1) vc) (A++x::B)/\R_ w p);case atStart=>exact⟨j,[],aJ,aJ,⟨s_,s_⟩,H2.1,H2.2⟩
   case round=>
    obtain⟨A,B,rfl,rfl,hW,hO,hB⟩:=hrel;have f:=O (du hW (du hO hB));have T:aA A<=aA j:=by rw[<-hW.eq];simp
    have K:(∀y,A.getLast?=Wy y->fC x.1 y.1=false)->A++x::B=lL (l.take (k+1)):=λq=>by rw[HT.2,HT.1];exact hW.done q
    have HE:=O K;rcases hH A with rfl|⟨a,y,rfl⟩
    .go_wp;go_quiet (fail);go_wp2;go_roundg (gk-1);case measure=>exact Z
     case rel=>exact⟨k+1,Z,ll,by rw[<-HE s_];exact f.2.1.dN _,λb e=>by cases e;exact P,nI f.2.2 _⟩
    have ac:aA a+1<=aA j:=by simpa using T
    obtain⟨cx,rfl,L⟩:=f.2.1.Av (i:=aA a+1) s_;obtain⟨cy,rfl,N⟩:=f.2.1.Av (i:=a.length) s_;have x0:dR wr o ((aA a+1)*2) (Q_ (bs x.1)):=by simpa using L 0 _ rfl
    have x1:dR wr o ((aA a+1)*2+1) (Q_ (bs x.2)):=by simpa using L 1 _ rfl
    have y0:dR wr o (aA a*2) (Q_ (bs y.1)):=by simpa using N 0 _ rfl
    have y1:dR wr o (aA a*2+1) (Q_ (bs y.2)):=by simpa using N 1 _ rfl
    have M:Op.bytesLess (bs x.1).toList (bs y.1).toList=fC x.1 y.1:=by rw[bA,bA,pU]
    rw[jm,et,ib];cases s:fC x.1 y.1
    .rw[s]at M;go_wp;go_quiet (fail);go_wp2;go_roundg (gk-1);case measure=>exact Z
     case rel=>exact⟨k+1,Z,ll,by rw[<-HE (by simpa using s)];exact f.2.1.dN _,λb e=>by cases e;exact P,nI f.2.2 _⟩
    rw[s]at M;go_wp;go_quiet (fail);have ⟨p,HQ⟩:∃p,Hid (p=wr.drewN nq):=⟨_,rfl⟩;rw[<-HQ];have m:Hid (Own 2 137 vN p (P_ (Wy (aL o 0)) (aA j+1) vc) (a.concat y++x::B)/\R_ w p):=by rw[HQ];exact⟨f.2.1.dN _,nI f.2.2 _⟩
    have x0:dR p o ((aA a+1)*2) (Q_ (bs x.1)):=by rw[HQ];exact x0
    have x1:dR p o ((aA a+1)*2+1) (Q_ (bs x.2)):=by rw[HQ];exact x1
    have y0:dR p o (aA a*2) (Q_ (bs y.1)):=by rw[HQ];exact y0
    have y1:dR p o (aA a*2+1) (Q_ (bs y.2)):=by rw[HQ];exact y1
    have aa:=m.1.lt o aJ;have f0:=m.1.yw ((aA a+1)*2);have f1:=m.1.yw ((aA a+1)*2+1);have f2:=m.1.yw (aA a*2);have f3:=m.1.yw (aA a*2+1);go_wp2;go_roundg (aA a);case measure=>simp
    case rel=>have q:=(m.1.Dl (i:=aA a+1) (b:=y) s_ _ _ rfl).Dl (i:=a.length) (b:=x) s_ _ _ rfl;rw[show ((a.concat y++x::B).set (aA a+1) y).set (aA a) x=a++x::y::B by simp]at q;exact⟨a,y::B,aJ,aJ,⟨by rw[<-f.1.eq];simp,by simpa [s]using f.1.gt⟩,q.h_ (λb e=>by cases e;exact ed _ _ _ (by simpa [World.setCell]using aa)) s_,by have:=m.2;have:=this.size;go_grown⟩
  obtain rfl:k=aA l:=Z;rw[jj]at n;obtain⟨vx,vc,rfl,-⟩:=n.1.slice;go_wp2;go_ret;exact⟨_,aJ,n⟩
def Ft:yg 72 135 2 24:=.of underlying72 (z:=.agg #[Xm (bs []),Y 0]) k_ rfl d_
def P8:yg 78 166 5 72:=.of underlying78 (z:=.agg #[Xm (bs []),Y 0,Y 0,Xm (bs []),bP]) k_ rfl d_
def P7:yg 52 9 1 16:=.of underlying52 (z:=Xm (bs [])) k_ rfl d_
def Ue:yg 67 80 6 112:=.of underlying67 (z:=.agg #[Y 0,bP,bP,bP,Y 0,bP]) k_ rfl d_
def Mf:yg 127 162 1 8:=.of underlying127 (z:=.pointer none) k_ rfl d_
section
variable {α:Type} {k:Nat} {e:Xd} {R:List Xa->α->Prop} {w w':aN} {v:aX} {l:List α}
theorem Own.ty(h:Own k e R w v l){b:Nat}(c:v.ownBlock=Wy b):∃a,w.heap[b]?=Wy (bO a e):=by obtain⟨j,⟨-,d⟩,-⟩:=h;rcases d with ⟨rfl,-⟩|⟨g,f,a,rfl,-,i,-⟩;cases c;cases c;grind
def Own.Be(h:Own k e R w v l){a:Option Nat}(g:w.grownBy w' a)(f:∀b,a=Wy b->∃c d,w.heap[b]?=Wy (.cells c d (0,0))/\d≠e):Own k e R w' v l:=h.h_ ((by grind[World.grownBy.block,Own.ty])) s_
end
def gI{R:List Xa->f->Prop}{w:aN}{l:List f}(h:Own p e R w y l):∃x n c,y=Xl x n c:=by grind[Own.slice]
structure kC(F:bL)(w:aN)(t st:Nat)(wr:aN)(sv vv ov bv:aX)(l1:List (bQ × Nat))(l2:List (bQ × bQ))(l3:cY)(l4:List (bQ × aE)):Prop where
 sd:R_ w wr
 i_:wr.heap[w.heap.size]?=Wy (.cells #[Y t,sv,vv,ov,Y st,bv] 80)
 r1:Own 2 135 i8 wr sv l1
 r2:Own 2 137 vN wr vv l2
 r3:Own 1 9 AZ wr ov l3
 r4:Own 5 166 (xN F w) wr bv l4
 new:∀b,sv.ownBlock=Wy b\/vv.ownBlock=Wy b\/ov.ownBlock=Wy b\/bv.ownBlock=Wy b->w.heap.size<=b
section
variable {F:bL} {w wr w2:aN} {t st:Nat} {sv vv ov bv sv0 vv0 ov0 bv0 u:aX} {l1:List (bQ × Nat)} {l2:List (bQ × bQ)} {l3:cY} {l4:List (bQ × aE)}
theorem kC.al(h:kC F w t st wr sv vv ov bv l1 l2 l3 l4)(a:R_ wr w2):kC F w t st w2 sv vv ov bv l1 l2 l3 l4:=⟨h.sd.trans (a.mono h.sd.size),(by grind[ef,kC.i_]),h.r1.h_ (λb q=>a.block b (h.r1.lt b q)) s_,h.r2.h_ (λb q=>a.block b (h.r2.lt b q)) s_,h.r3.h_ (λb q=>a.block b (h.r3.lt b q)) s_,h.r4.h_ (λb q=>a.block b (h.r4.lt b q)) s_,h.new⟩
theorem kC.set(f:R_ w wr)(a:wr.heap[H_ w]?=Wy (bO #[Y t,sv0,vv0,ov0,Y st,bv0] 80))(m:Own 2 135 i8 wr sv l1)(p:Own 2 137 vN wr vv l2)(j:Own 1 9 AZ wr ov l3)(n:Own 5 166 (xN F w) wr bv l4) (c:∀b,sv.ownBlock=Wy b\/vv.ownBlock=Wy b\/ov.ownBlock=Wy b\/bv.ownBlock=Wy b->H_ w<=b){i:Nat} (g:(#[Y t,sv0,vv0,ov0,Y st,bv0]:Array Xa).setIfInBounds i u=#[Y t,sv,vv,ov,Y st,bv]):kC F w t st (c9 wr (aL (H_ w) i) u) sv vv ov bv l1 l2 l3 l4:=by have o:∀{d:Type}{k:Nat}{e:Xd}{R:List Xa->d->Prop}{v:aX}{l:List d},e≠80->Own k e R wr v l->Own k e R (c9 wr (aL (H_ w) i) u) v l:=λq h=>h.h_ ((by grind[ej,Own.ty])) s_;exact⟨(by grind[Below.setCell]),by rw[aP a,g],G_,G_,G_,G_,c⟩
theorem kC.gb(h:kC F w t st wr sv vv ov bv l1 l2 l3 l4){a:Option Nat}(d:wr.grownBy w2 a)(f:a=sv.ownBlock\/a=ov.ownBlock\/a=bv.ownBlock):R_ w w2/\w2.heap[H_ w]?=wr.heap[H_ w]?:=by
 have i:∀b,a=Wy b->H_ w<=b/\b≠H_ w:=λb e=>by refine⟨h.new b G_,λq=>?_⟩;have g:=h.i_;rcases f with q|q|q<;>rw[q]at e;have ⟨c,hc⟩:=h.r1.ty e;grind;have ⟨c,hc⟩:=h.r3.ty e;grind;have ⟨c,hc⟩:=h.r4.ty e;grind
 have:=h.sd.size;exact⟨h.sd.trans ⟨d.os,d.tape,d.output,d.size,nt⟩,d.block _ (aH h.i_) G_⟩
theorem IC{Z_:Prop}(Y_:Z_:=by rcases hat with e|e;exact h.new b (G_);rw[e]at hb;cases hb;exact h.sd.size):Z_:=Y_
theorem kC.De(h:kC F w t st wr sv vv ov bv l1 l2 l3 l4)(d:wr.grownBy w2 sv.ownBlock){a:List (bQ×Nat)}(j:Own 2 135 i8 w2 u a)(hat:u.ownBlock=sv.ownBlock\/u.ownBlock=Wy (H_ wr)):kC F w t st (c9 w2 (aL (H_ w) 1) u) u vv ov bv a l2 l3 l4:=by
 have ⟨q1,q2⟩:=h.gb d (.inl rfl);have g:∀{e:Xd},135≠e->∀b,sv.ownBlock=Wy b->∃f i,wr.heap[b]?=Wy (.cells f i (0,0))/\i≠e:=λk b hb=>by have ⟨c,hc⟩:=h.r1.ty hb;grind
 refine .set q1 (q2.trans h.i_) j (h.r2.Be d (g d_)) (h.r3.Be d (g d_)) (h.r4.Be d (g d_)) (λb hb=>?_) rfl;rcases hb with hb|hb;exact IC;exact h.new b (.inr hb)
theorem kC.Dh(h:kC F w t st wr sv vv ov bv l1 l2 l3 l4)(d:wr.grownBy w2 ov.ownBlock){a:cY}(j:Own 1 9 AZ w2 u a)(hat:u.ownBlock=ov.ownBlock\/u.ownBlock=Wy (H_ wr)):kC F w t st (c9 w2 (aL (H_ w) 3) u) sv vv u bv l1 l2 a l4:=by
 have ⟨q1,q2⟩:=h.gb d (s_);have g:∀{e:Xd},9≠e->∀b,ov.ownBlock=Wy b->∃f i,wr.heap[b]?=Wy (.cells f i (0,0))/\i≠e:=λk b hb=>by have ⟨c,hc⟩:=h.r3.ty hb;grind
 refine .set q1 (q2.trans h.i_) (h.r1.Be d (g d_)) (h.r2.Be d (g d_)) j (h.r4.Be d (g d_)) (λb hb=>?_) rfl;rcases hb with hb|hb|hb|hb;exact h.new b (.inl hb);exact h.new b (G_);exact IC;exact h.new b (G_)
theorem kC.Di(h:kC F w t st wr sv vv ov bv l1 l2 l3 l4)(d:wr.grownBy w2 bv.ownBlock){a:List (bQ×aE)}(j:Own 5 166 (xN F w) w2 u a)(hat:u.ownBlock=bv.ownBlock\/u.ownBlock=Wy (H_ wr)):kC F w t st (c9 w2 (aL (H_ w) 5) u) sv vv ov u l1 l2 l3 a:=by
 have ⟨q1,q2⟩:=h.gb d (s_);have g:∀{e:Xd},166≠e->∀b,bv.ownBlock=Wy b->∃f i,wr.heap[b]?=Wy (.cells f i (0,0))/\i≠e:=λk b hb=>by have ⟨c,hc⟩:=h.r4.ty hb;grind
 refine .set q1 (q2.trans h.i_) (h.r1.Be d (g d_)) (h.r2.Be d (g d_)) (h.r3.Be d (g d_)) j (λb hb=>?_) rfl;rcases hb with hb|hb|hb|hb;exact h.new b (.inl hb);exact h.new b (G_);exact h.new b (G_);exact IC
def Wb(h:kC F w t st wr sv vv ov bv l1 l2 l3 l4)(c:wr.grownBy w2 sv.ownBlock){a:List (bQ×Nat)}(d:Own 2 135 i8 w2 u a)(b:u.ownBlock=sv.ownBlock\/u.ownBlock=Wy (H_ wr)):Hid (kC F w t st (c9 w2 (aL (H_ w) 1) u) u vv ov bv a l2 l3 l4)/\I_ w2 (aL (H_ w) 1)=Wy sv/\w2.frozen? (aL (H_ w) 1)=false:=have q:=(h.gb c (.inl aJ)).2.trans h.i_
 ⟨h.De c d b,aB q rfl,aF q⟩
def Lj(h:kC F w t st wr sv vv ov bv l1 l2 l3 l4)(c:wr.grownBy w2 bv.ownBlock){a:List (bQ×aE)}(d:Own 5 166 (xN F w) w2 u a)(b:u.ownBlock=bv.ownBlock\/u.ownBlock=Wy (H_ wr)):Hid (kC F w t st (c9 w2 (aL (H_ w) 5) u) sv vv ov u l1 l2 l3 a)/\I_ w2 (aL (H_ w) 5)=Wy bv/\w2.frozen? (aL (H_ w) 5)=false:=have q:=(h.gb c (s_)).2.trans h.i_
 ⟨h.Di c d b,aB q rfl,aF q⟩
def Lg(h:kC F w t st wr sv vv ov bv l1 l2 l3 l4)(c:wr.grownBy w2 ov.ownBlock){a:cY}(d:Own 1 9 AZ w2 u a)(b:u.ownBlock=ov.ownBlock\/u.ownBlock=Wy (H_ wr)):Hid (kC F w t st (c9 w2 (aL (H_ w) 3) u) sv vv u bv l1 l2 a l4)/\I_ w2 (aL (H_ w) 3)=Wy ov/\w2.frozen? (aL (H_ w) 3)=false:=have q:=(h.gb c (s_)).2.trans h.i_
 ⟨h.Dh c d b,aB q rfl,aF q⟩
theorem xN.one(c:List Xa)(a:bQ×aE)(h:xN F w c a):∀v∈c,v.oneCell'=true:=by grind[LV.slice,Value.oneCell',xN]
theorem kC.Ee(h:kC F w t st wr sv vv ov bv l1 l2 l3 l4)(a:R_ wr w2){c:List (bQ×bQ)}(e:Own 2 137 vN w2 u c)(d:∀b,u.ownBlock=Wy b->H_ wr<=b):kC F w t st (c9 w2 (aL (H_ w) 2) u) sv u ov bv l1 c l3 l4:=by have q:=h.al a;refine .set q.sd q.i_ q.r1 e q.r3 q.r4 (λb a=>?_) aJ;rcases a with a|a|a;exact h.new b (.inl a);exact em h.sd.size (d b a);exact h.new b (G_)
end
section
variable {fs:List aC} {F G:bL} {w w2:aN} {m:DM} {s:aM} {u:aX}
def JY{a:List Nat}{x y:List Nat}{b:List Nat}(h:(a++(x++b)).Nodup)(c:y.Nodup)(d:∀k∈y,k∉a/\k∉b):(a++(y++b)).Nodup:=by grind
def cP.swap(h:cP fs F w m s){A B:List Nat}{row u:aX}(e:m.sj=A++(ob row++B))(k:m.rb∈A)(a:w.grownBy w2 row.ownBlock)(g:u.ownBlock=row.ownBlock\/u.ownBlock=Wy (H_ w))(i:Nat):(A++(ob u++B)).Nodup/\(∀b∈A++(ob u++B),¬F b/\(b∈m.sj\/H_ w<=b))/\(∀b,b∈A\/b∈B->b≠m.rb->(c9 w2 (aL m.rb i) u).heap[b]?=w.heap[b]?)/\(∀b,u.ownBlock=Wy b->(c9 w2 (aL m.rb i) u).heap[b]?=w2.heap[b]?)/\(∀b,b<H_ w->b∉m.sj->(c9 w2 (aL m.rb i) u).heap[b]?=w.heap[b]?)/\Kx F w F (c9 w2 (aL m.rb i) u)/\w2.heap[m.rb]?=w.heap[m.rb]?:=by
 have d:=h.nd;rw[e]at d;have l:∀b,b∈A\/b∈B\/row.ownBlock=Wy b->b∈m.sj/\b<H_ w:=λb q=>by
  have:b∈m.sj:=by grind[ob]
  exact⟨this,h.ze b this⟩
 have f:∀b,row.ownBlock=Wy b->b∉A/\b∉B:=(by grind[ob]);have c:∀b,u.ownBlock=Wy b->b∉A/\b∉B/\¬F b/\(b∈m.sj\/H_ w<=b):=λb q=>by have:row.ownBlock=Wy b\/b=H_ w:=(by grind);rcases this with q|rfl;grind[cP.nf];exact⟨G_,G_,λx=>by have:=h.lt _ x;exact Z,Z⟩
 have j:∀b,b<H_ w->b≠m.rb->row.ownBlock≠Wy b->(c9 w2 (aL m.rb i) u).heap[b]?=w.heap[b]?:=(by grind[ej,World.grownBy.block]);refine⟨JY d oy oy,λb q=>?_,G_,oa,G_,⟨⟨s_,(by grind[cP.lt,cP.nf])⟩,a.os,a.tape,a.output,by simpa [World.setCell]using a.size⟩,nt⟩;rcases fm.1 q with q|q;grind[cP.nf];rcases fm.1 q with q|q;grind[ob];grind[cP.nf]
def cP.sk(h:cP fs F w m s)(k:w.grownBy w2 m.mv.ownBlock){d:fK}(j:Own 6 80 (Ag F w) w2 u (s.sk.zipIdx++[(d,aA s.sk)]))(a:u.ownBlock=m.mv.ownBlock\/u.ownBlock=Wy (H_ w)):cP fs F (c9 w2 (aL m.rb 5) u) {m with mv:=u} {s with sk:=s.sk++[d]}/\Px F w m F (c9 w2 (aL m.rb 5) u) {m with mv:=u}/\w2.heap[m.rb]?=w.heap[m.rb]?:=by
 have ⟨n1,n2,n3,n4,n5,n6,n7⟩:=h.swap (A:=m.rb::(ob m.ov++ob m.rv)) (row:=m.mv) (u:=u) (B:=m.fs.flatMap λp=>p.1::ob p.2) (by simp[DM.sj]) s_ k a 5;have i:({m with mv:=u}:DM).sj=m.rb::(ob m.ov++ob m.rv)++(ob u++m.fs.flatMap λp=>p.1::ob p.2):=by simp[DM.sj]
 have g:∀v,(∀b∈ob v,b∈ob m.ov++ob m.rv)->∀b,v.ownBlock=Wy b->(c9 w2 (aL m.rb 5) u).heap[b]?=w.heap[b]?:=(by grind[ob]);have h3:=λp c b x=>by have:b∈m.fs.flatMap (λp=>p.1::ob p.2):=jw.2 ⟨p,c,by simpa [mG]using x⟩;exact n3 b (.inr this) G_
 have ⟨e,hd⟩:=h.wq;have ⟨tp,ht,h2⟩:=h.tape;refine⟨⟨qk,⟨e,hd.kp n6.kp⟩,⟨tp,ht.kp n6.kp,h2⟩,h.out.h_ (g _ G_) s_,h.wb.h_ (g _ G_) s_,?_,h.fr.mono λp c f q=>q.kp n6.kp (G_) G_,i▸n1,G_,(by grind[Nat.lt_of_lt_of_le,cP.lt,Kx.size]),h.ol⟩,⟨s_,G_,n5,G_,n6.os,n6.tape,n6.output,n6.size,rfl⟩,n7⟩;rw[show (s.sk++[d]).zipIdx=s.sk.zipIdx++[(d,aA s.sk)] by grind];exact j.h_ n4 λ_ _ q=>q.kp n6.kp
end
def cP.CA{a:aN}{m:DM}(g:cP R x r m s)(j:R_ r o)(k:o.grownBy a m.mv.ownBlock){d:fK}(i:Own 6 80 (Ag x r) a y (s.sk.zipIdx++[(d,aA s.sk)]))(c:y.ownBlock=m.mv.ownBlock\/y.ownBlock=Wy (H_ o)):Hid (cP R x (c9 a (aL m.rb 5) y) {m with mv:=y} {s with sk:=s.sk++[d]}/\Px x r m x (c9 a (aL m.rb 5) y) {m with mv:=y})/\I_ a (aL m.rb 5)=Wy m.mv/\a.frozen? (aL m.rb 5)=false:=by have ⟨h,hx⟩:=g.sd j;have ⟨q1,q2,q3⟩:=h.sk k (i.h_ (s_) λ_ _ q=>q.kp (hx.kp g)) c;have e:=q3.trans h.i_;exact⟨⟨q1,hx.trans q2⟩,aB e aJ,aF e⟩
def kC.frozen{m:DM}{a d e:aX}(h:kC x r (aA s.sk) s.stop o y a d e (s.f_.map λf=>(f.name,f.l_)) (lL s.g_) ([]++s.out) s.g_)(H:cP R x r m s):cP R (λb=>x b\/y.ownBlock=Wy b\/a.ownBlock=Wy b\/d.ownBlock=Wy b) o m s/\Ag (λb=>x b\/y.ownBlock=Wy b\/a.ownBlock=Wy b\/d.ownBlock=Wy b) o [Y (aA s.sk),y,a,d,Y s.stop,e] (⟨s.f_.map λf=>(f.name,f.l_),s.g_,s.out,s.stop⟩,aA s.sk):=by refine⟨(H.sd h.sd).1.kp ⟨G_,s_⟩ (s_) (λb i q=>?_) λb q=>?_,y,a,d,e,rfl,⟨h.r1,G_⟩,⟨h.r2,G_⟩,⟨h.r3,G_⟩⟩;rcases q with q|q;exact H.nf b i q;have:=h.new b G_;have:=H.ze b i;exact Z;rcases q with q|q|q|q;exact eh (H.lt b q) h.sd.size;exact h.r1.lt b q;exact h.r2.lt b q;exact h.r3.lt b q
def kC.px{m:DM}{i:Nat}{a c l:aX}{j:List (bQ×Nat)}{k:List (bQ×bQ)}{e:cY}{f:List (bQ×aE)}(h:kC x r p i o a y c l j k e f)(_H:cP R x r m s):Px x r m (λb=>x b\/a.ownBlock=Wy b\/y.ownBlock=Wy b\/c.ownBlock=Wy b) o m:=⟨G_,λb q=>q.imp id λq=>h.new b G_,λb q _=>h.sd.block b q,G_,h.sd.os,h.sd.tape,h.sd.output,h.sd.size,rfl⟩
def AA{F:bL}{w:aN}{m:DM}(h:cP R F w m s)(hl:aA s.f_<=1000)(hm:aA s.sk<=1000)(ho:aA s.out<=1000)(hv:aA s.g_<=1000000):Calls prog 62 #[aY m.rb] w λe w'=>e=fA/\∃G mv,cP R G w' {m with mv:=mv} s.notes/\Px F w m G w' {m with mv:=mv}:=by
 have ⟨c0,c1,c2,c3,c4,c5,c6,fz⟩:=iA h.i_;have ⟨mx,mc,hmv,q1,q2⟩:=h.wy.slice;have ⟨rx,rc,hrv,X,q4⟩:=h.wb.slice;rw[hmv]at c5;rw[hrv,h.fr.length]at c4;rw[iz]at c5;have A:=h.xb;have H:=O h;go_in;go_wp2;go_region;go_wp2;go_loopg [3] (aA s.f_) (λgk iv wr=>∃i:Nat,i+gk=aA s.f_/\iv=Y i/\∃sv,kC F w (aA s.sk) s.stop wr sv (bP) (bP) (bP) ((s.f_.take i).map λf=>(f.name,f.l_)) [] [] []);case atStart=>exact⟨0,Z,rfl,_,(dv _ _).alloc (Z) _ |>.trans (by exact⟨aJ,aJ,aJ,s_,λ_ _=>rfl⟩),bI w _ rfl,.nil,.nil,.nil,.nil,od⟩
 case round=>
  obtain⟨i,hi,rfl,sv,hN⟩:=hrel;have j:=O hN;by_cases af:i<aA s.f_
  .have ⟨p,hp,r⟩:=H.out.fr.get i af;have ⟨hil,hpe⟩:=ik.1 hp;have I:=j.out.sd;have ⟨g,cap,c,N,hc,hj⟩:=H.out.wb.cell hil;rw[hrv]at N;cases N;have P:=H.out.wb.lt g (by rw[hrv];rfl);have d0:=(Wv (I.block g P)).trans (by simpa using hj 0 (aY p.1) (by rw[hc,hpe];rfl));have x:=aH r.i_;obtain⟨f0,f1,-,-⟩:=nH ((I.block p.1 x).trans r.i_);have d4:=(Wv (I.block m.rb A)).trans c4;have n1:I_ wr (aL w.heap.size 1)=Wy sv:=aB j.out.i_ aJ;have nf:=aF j.out.i_ (i:=1);have B:=aH j.out.i_;have N:(i:Int)<(aA s.f_:Int):=Z;have aq:m.rb<wr.heap.size:=Z;have ao:g<wr.heap.size:=Z;have ar:p.1<wr.heap.size:=Z;obtain⟨sx,sc,t,-⟩:=j.out.r1.slice;have aa:aA ((s.f_.take i).map λf=>(f.name,f.l_))<=1000:=by simp;exact Z
   have ⟨n,hn⟩:∃n,n=aA ((s.f_.take i).map λf=>(f.name,f.l_)):=(by simp);rw[<-hn]at t aa;subst t;have HL:=O hn;clear I hj hc r hp hn;go_wp;have ay:m.rb≠w.heap.size:=Z;have ax:g≠w.heap.size:=Z;have aw:p.1≠w.heap.size:=Z;have D0:=O ((Wv (j.out.sd.block g P)).symm.trans d0);have D1:=O ((Wv (j.out.sd.block p.1 x)).symm.trans f0);have D2:=O ((Wv (j.out.sd.block p.1 x)).symm.trans f1);have z:∀{w'},R_ w w'->I_ w' (aL m.rb 4)=Wy (Xl (Wy (aL g 0)) (aA s.f_) rc)/\I_ w' (aL g i)=Wy (aY p.1)/\I_ w' (aL p.1 0)=Wy (Xm (bs s.f_[i].name))/\I_ w' (aL p.1 1)=Wy (Y s.f_[i].l_):=λq=>⟨(q.cell (p:=(aL m.rb 4)) A).trans c4,(q.cell (p:=(aL g i)) P).trans D0.out,(q.cell (p:=(aL p.1 0)) x).trans D1.out,(q.cell (p:=(aL p.1 1)) x).trans D2.out⟩;refine wp_region_held_drew (S:=λw'=>I_ w' (aL m.rb 4)=Wy (Xl (Wy (aL g 0)) (aA s.f_) rc)/\I_ w' (aL g i)=Wy (aY p.1)/\I_ w' (aL p.1 0)=Wy (Xm (bs s.f_[i].name))/\I_ w' (aL p.1 1)=Wy (Y s.f_[i].l_)) k_ (z j.out.sd.drew) (λd=>?_);apply eZ 0;apply eZ 1;apply eZ 3;apply eZ 4;apply eZ 5;apply eZ 6;apply eZ 7;apply eZ 8;apply eZ 9;apply eZ 10;apply eZ 11;apply eZ 12;apply eZ 13;apply eZ 14;apply eZ 15;apply eZ 16;apply eZ 17;apply eZ 18;apply eZ 19;apply eZ 20;apply eZ 21;apply eZ 22;apply eZ 23;have E:∀{w'},R_ wr w'->R_ w w':=λq=>j.out.sd.trans (q.mono j.out.sd.size);refine B_ 2 24 (λK D=>?_) (λK D=>?_);go_simp;refine D.out _ _ d (λd=>?_);refine tG 24 (λK D=>?_);go_simp;refine D.out _ _ (z (E lj)) (λd=>?_);rotate_left;go_simp;refine D.out _ _ (z (E lj)) (λd=>?_);refine tG 2 (λK D=>?_);go_simp;refine D.out _ _ d (λd=>?_);all_goals
    refine tG 25 (λK D=>?_);refine rL r_ Ft r_ r_ (j.out.al lj).r1 r_ (Src.one (b:=wr.heap.size) (bI wr _ rfl) rfl (show i8 _ (s.f_[i].name,s.f_[i].l_)from rfl) lu) (by rw[<-HL.out];simp;exact Z) (by rw[<-HL.out];unfold maxLen;simp;exact Z) ?_;intro v' w5 o u k;have ⟨H5,m5,fz5⟩:=Wb (j.out.al lj) u o k;have ai:=((j.out.al lj).gb u (.inl rfl)).1;obtain⟨vx,vn,vc,rfl⟩:=gI o;refine D.out _ _ (z ai) (λd=>?_);apply eZ 26;apply eZ 27;refine tG 28 (λK D=>?_);go_simp;refine D.out _ _ (z (ai.setCell (s_) _)) (λ_=>?_);refine wpAnyH_done k_ ?_ _;go_wp2;go_roundg (gk-1);case measure=>exact Z
    case rel=>exact⟨i+1,Z,ll,_,by rw[hQ af,ft];exact H5.out⟩
  obtain rfl:i=aA s.f_:=Z;rw[jj]at j;have d4:=(Wv (j.out.sd.block m.rb A)).trans c4;go_upto_if 58 with fail;go_cut [4]from 53 to 68 (λf wx=>∃bv,kC F w (aA s.sk) s.stop wx sv (bP) (bP) bv (s.f_.map λf=>(f.name,f.l_)) [] [] s.g_);case first=>
   rcases hH s.f_ with J|⟨fr,f,J⟩
   .have e0:aA s.f_=0:=by rw[J];rfl
    go_wp;go_meet;case rel=>exact⟨_,by rw[show s.g_=[] by simp[aM.g_,J]];exact j.out⟩
   rw[jm]at J;obtain⟨av,⟨pb,pv⟩,hp,-,r⟩:=Each.vd (J▸H.out.fr);have t:s.g_=f.g_:=by simp[aM.g_,J]
   obtain⟨vx,vc,N,-⟩:=r.row.slice;have N:=N;subst N;have x:=aH r.i_;have HT:=O (rO (H.out.sd j.out.sd).1 hp);have HP:=O r;have f2:=(Wv (j.out.sd.block pb x)).trans (nH r.i_).2.2.1;have n5:I_ wr (aL w.heap.size 5)=Wy (bP):=aB j.out.i_ aJ;have B:=aH j.out.i_;have au:0<aA s.f_:=by rw[J];simp
   have az:aA f.g_<=1000000:=by rw[<-t];exact hv
   have HV:=O t;clear hp r J t;go_wp;apply HT.out.mono;rintro e w3 ⟨rfl,q,C⟩;have V:=O (j.out.al (w2:=w3) (by rw[C];exact nI (dv _ _) q));have f3:I_ w3 (aL pb 2)=Wy (Xl vx (aA f.g_) vc):=by rw[C];exact f2
   have n3:I_ w3 (aL w.heap.size 5)=Wy (bP):=by rw[C];exact n5
   have am:w.heap.size<w3.heap.size:=by rw[C];exact B
   clear C j f2 n5 B HT d4;go_wp2;go_region_law (refine rL r_ P8 r_ r_ (V.out.al lj).r4 r_ ((HP.out.row.h_ (λb I=>V.out.sd.block b (HP.out.row.lt b I)) s_).src xN.one) la lr ?_;intro v' w5 o u k;have ⟨H5,m5,fz5⟩:=Lj (V.out.al lj) u o k;obtain⟨ux,un,uc,rfl⟩:=gI o;clear o u k);all_goals go_wp;go_meet;case rel=>exact⟨_,by rw[HV.out];exact H5.out⟩
  case rest=>have ⟨bv,E⟩:=hcut;have HB:=O E;have ⟨bx,bn,bc,hbv⟩:=gI E.r4;subst hbv;have n5:I_ wc (aL w.heap.size 5)=Wy (Xl bx bn bc):=aB E.i_ aJ;have ae:Kp F w F wc:=⟨s_,λb q=>E.sd.block b (H.out.lt b q)⟩;have HS:=O (VJ (F:=F) (w:=wc) (l:=s.g_) (E.r4.h_ (s_) λ_ _ q=>q.kp ae) (λb q=>eh (H.out.lt b q) E.sd.size) hv);clear E j d4 ae;go_wp;apply HS.out.mono;rintro e w3 ⟨v,rfl,W,ag,y⟩;have ⟨vx,vn,vc,hvv⟩:=gI W;subst hvv;have L:=O (HB.out.Ee y W ag);have X:=(HB.out.al y).i_;have m3:=aB X (i:=2) aJ;have ak:=aF X (i:=2);have aj:=aH X;clear W ag y X HB HS n5;go_wp21;obtain⟨w4,ad⟩:∃w4,Hid (w4=c9 w3 (aL w.heap.size 2) (Xl vx vn vc)):=⟨_,rfl⟩;rw[<-ad.out]at L⊢;clear ad m3 ak aj;obtain⟨ox,oc,Q,-⟩:=H.out.out.slice;have r3:I_ w4 (aL m.rb 3)=Wy (Xl ox (aA s.out) oc):=(Wv (L.out.sd.block m.rb A)).trans (by rw[<-Q];exact c3);have n3:I_ w4 (aL w.heap.size 3)=Wy (bP):=aB L.out.i_ aJ;have B:=aH L.out.i_;have ac:m.rb<w4.heap.size:=Z;have ab:=O Q;clear Q;go_region_law (refine rL r_ P7 r_ r_ (L.out.al lj).r3 r_ ((by rw[<-ab.out];exact H.out.out.h_ (λb I=>L.out.sd.block b (H.out.out.lt b I)) (by simp):Own 1 9 AZ w4.drew (Xl ox (aA s.out) oc) s.out).src (by rintro c a rfl;simp[Value.oneCell'])) la lr ?_;intro v' w5 o u k;have ⟨H5,m5,fz5⟩:=Lg (L.out.al lj) u o k;obtain⟨ux,un,uc,rfl⟩:=gI o;clear o u k);all_goals clear c0 c1 c2 c3 c6 q1 q2 X q4 hrv c4;go_wp;have ⟨w6,HW6⟩:∃w6,Hid (w6=c9 w5 (aL w.heap.size 3) (Xl ux un uc)):=⟨_,rfl⟩;rw[<-HW6.out]at H5⊢;clear HW6 m5 fz5;have hG:=H5.out.frozen H.out;have HG:=O hG;have ⟨k1,k2⟩:=hG;have p1:=aB H5.out.i_ (i:=0) aJ;have p2:=aB H5.out.i_ (i:=1) aJ;have p3:=aB H5.out.i_ (i:=2) aJ;have p4:=aB H5.out.i_ (i:=3) aJ;have p5:=aB H5.out.i_ (i:=4) aJ;have p6:=aB H5.out.i_ (i:=5) aJ;have ⟨sx,sn,sc,t⟩:=gI H5.out.r1;subst t;have r5:=(Wv (H5.out.sd.block m.rb A)).trans c5;have ap:=aH H5.out.i_;have an:m.rb<w6.heap.size:=Z;rw[iz]at hmv;have al:=O hmv;clear k1 k2 L r3 n3 B ac ab c5 hmv;go_wp2;go_region_law (refine rL r_ Ue r_ (by rw[al.out];rfl) (HG.out.1.wy.h_ (λb q=>Below.block lj b (HG.out.1.wy.lt b q)) s_) r_ (Src.one (b:=w6.heap.size) (bI w6 _ rfl) rfl HG.out.2 lu) la lr ?_;intro v' w7 T ah M;have ⟨H7,m7,fz7⟩:=cP.CA HG.out.1 lj ah T M;obtain⟨zx,zn,zc,rfl⟩:=gI T;clear T ah M);all_goals go_wp2;go_end0;exact⟨aJ,_,_,H7.out.1,(H5.out.px H.out).trans H7.out.2⟩
section
variable {fs:List aC} {F G:bL} {w w':aN} {m:DM} {s:aM} {fs0:List (Nat × Xa)} {p:Nat × Xa} {fr:List iU} {f f':iU} {u:aX}
theorem Own.Cm{b:Type}{k:Nat}{e:Xd}{R:List Xa->b->Prop}{v:aX}{l a:List b}(h:Own k e R w v l)(d:aA a=aA l)(g:∀i (j:i<aA l) (f:i<aA a) c,R c l[i]->R c a[i]):Own k e R w v a:=by grind[Own,kZ]
theorem cP.last(h:cP fs F w m s)(a:s.f_=fr++[f]):∃fs0 p,m.fs=fs0++[p]/\Each (yK F w) fs0 fr/\yK F w p f:=Each.vd (a▸h.fr)
theorem DM.vz(a:m.fs=fs0++[p]){b:Nat}(c:b=p.1\/p.2.ownBlock=Wy b):b∈m.sj:=(by grind[DM.C1,DM.sj])
theorem cP.wk(h:cP fs F w m s)(a:m.fs=fs0++[p]){b:Nat}(d:b=p.1\/p.2.ownBlock=Wy b):b≠m.rb/\b∉ob m.ov/\b∉ob m.rv/\b∉ob m.mv/\b∉fs0.flatMap (λp=>p.1::ob p.2)/\p.2.ownBlock≠Wy p.1:=by have c:=h.nd;rw[DM.sj,a,List.flatMap_append,List.flatMap_singleton]at c;grind[mG]
theorem cP.top(h:cP fs F w m s)(j:m.fs=fs0++[p])(A:s.f_=fr++[f])(E:∀b,F b\/b∈m.sj->b≠p.1->p.2.ownBlock≠Wy b->w'.heap[b]?=w.heap[b]?)(I:H_ w<=H_ w')(z:yK F w' (p.1,u) f')(C:∀b,u.ownBlock=Wy b->p.2.ownBlock=Wy b\/H_ w<=b):cP fs F w' {m with fs:=fs0++[(p.1,u)]} {s with f_:=fr++[f']}:=by
 have l:=λb t=>h.wk j (b:=b) t;have v:∀b,F b->b≠p.1/\p.2.ownBlock≠Wy b:=(by grind[cP.nf,DM.vz]);have d:Kp F w F w':=⟨s_,G_⟩;have B:∀b∈m.sj,(b=p.1\/p.2.ownBlock=Wy b)\/w'.heap[b]?=w.heap[b]?:=(by grind);have J:∀b∈m.sj,(¬(b=p.1\/p.2.ownBlock=Wy b))->w'.heap[b]?=w.heap[b]?:=(by grind);have ⟨e,hd⟩:=h.wq;have ⟨tp,ht,r⟩:=h.tape;have ⟨fs1,p1,hm1,hE,hp1⟩:=h.last A;have ⟨e0,e1⟩:=fw (hm1.symm.trans j) rfl;cases e0;cases e1;refine⟨(by grind[cP.i_,DM.sj]),⟨e,hd.kp d⟩,⟨tp,ht.kp d,r⟩,h.out.h_ ((by grind[DM.sj,ob])) s_,(h.wb.h_ ((by grind[DM.sj,ob])) s_).Cm (by simp[j]) λi H r c q=>?_,h.wy.h_ ((by grind[DM.sj,ob])) λ_ _ q=>q.kp d,?_,?_,λb t=>?_,(by grind[cP.lt]),h.ol⟩;grind[DP];refine Each.snoc (hE.mono λq G g x=>?_) z;have D:∀b,(b=q.1\/q.2.ownBlock=Wy b)->b∈fs0.flatMap (λp=>p.1::ob p.2):=(by grind[ob]);grind[yK.kp,DM.sj];have n:=h.nd;unfold DM.sj at n⊢;rw[j]at n;have:=JY (a:=m.rb::(ob m.ov++(ob m.rv++(ob m.mv++(fs0.flatMap (λp=>p.1::ob p.2)++[p.1]))))) (x:=ob p.2) (y:=ob u) (b:=[]) (by simpa using n) oy λk o=>by rcases C k (mG.1 o)with q|q;have ⟨p1,p2,p3,p4,p5,p6⟩:=l k (.inr q);refine⟨?_,s_⟩;simp only[ew,fm,not_or];grind;refine⟨λe=>?_,s_⟩;have:=h.ze k (by simp only[DM.sj,j,List.flatMap_append,List.flatMap_singleton,ew,fm]at e⊢;grind);exact Z
 simpa using this;grind[DM.sj,mG,cP.nf,cP.lt]
end
section
variable {fs:List aC} {F G:bL} {w w':aN} {m:DM} {s:aM} {fs0:List (Nat × Xa)} {p:Nat × Xa} {fr:List iU} {f f':iU} {u:aX}
theorem DM.same(a:m.fs=fs0++[p]):{m with fs:=fs0++[(p.1,p.2)]}=m:=by cases m;grind
theorem tM(a:s.f_=fr++[f])(T:iU->iU):s.tj T={s with f_:=fr++[T f]}:=by simp[aM.tj,a]
theorem cP.l_(h:cP fs F w m s)(a:m.fs=fs0++[p])(b:s.f_=fr++[f])(n:Nat):cP fs F (c9 w (aL p.1 1) (Y n)) m (s.tj λf=>{f with l_:=n})/\Px F w m F (c9 w (aL p.1 1) (Y n)) m:=by have ⟨fs1,p1,hm1,hE,hp⟩:=h.last b;have ⟨e0,e1⟩:=fw (hm1.symm.trans a) rfl;cases e1;have c:Px F w m F (c9 w (aL p.1 1) (Y n)) m:=(by grind[Px.set,DM.vz]);have d:=(h.wk a (.inl aJ)).2.2.2.2.2;have:=h.top (w':=c9 w (aL p.1 1) (Y n)) (u:=p.2) (f':={f with l_:=n}) a b (oa) c.size ⟨by rw[aP hp.i_];rfl,hp.row.h_ (oa) λ_ _ q=>q.kp (c.kp h)⟩ G_;grind[DM.same,aM.tj]
def zr(fs:List aC)(F:bL)(w:aN)(m:DM)(s':aM)(w':aN):Prop:=∃G m',cP fs G w' m' s'/\Px F w m G w' m'/\(s'.stop=0->m'.fs.map (·.1)=m.fs.map (·.1))
theorem VY(h:cP fs F w m s)(t:s.f_=fr++[f])(n:Nat)(x:aA s.f_<=1000)(u:aA s.sk<=500)(v:aA s.out<=1000)(z:aA s.g_<=1000000):Calls prog 219 #[aY m.rb,Y n] w λe w'=>e=bR (.bool (decide ((s.q_ n).stop=0)))/\zr fs F w m (s.q_ n) w':=by
 have ⟨fs0,p,hm,hE,hp⟩:=h.last t;have J:=O (rO h hm);have S:=O (h.l_ hm t n);have ⟨f0,f1,f2,ffz⟩:=nH hp.i_;have o:=ffz 1;have M:=aH hp.i_;have H:=O h;clear h hE ffz;go_in;go_wp;refine sa J λg ⟨q,c⟩=>?_;have N:dR g p.1 1 (Y f.l_):=by rw[c];exact f1
 have L:g.frozen? (aL p.1 1)=false:=by rw[c];exact o
 have a:Hid (cP fs F (c9 g (aL p.1 1) (Y n)) m (s.tj λf=>{f with l_:=n})/\Px F w m F (c9 g (aL p.1 1) (Y n)) m):=by rw[c];exact(((H.sd (nI (dv _ _) q)).1.l_ hm t n).imp id ((H.sd (nI (dv _ _) q)).2.trans ·))
 clear c f0 f1 f2 o J S;go_upto_region 3 with fail;obtain⟨I,D⟩:∃I,Hid (I=c9 g (aL p.1 1) (Y n)):=⟨_,rfl⟩;rw[<-D]at a⊢;clear D N L;have ⟨s1,hs1⟩:∃s1,s1=s.tj λf=>{f with l_:=n}:=(by simp);have A:s.q_ n=aM.notes (if aA s1.sk=500 then {s1 with stop:=9} else s1):=by rw[hs1];rfl
 have i:s1.g_=s.g_:=by grind[aM.g_,aM.tj]
 have b:s1.sk=s.sk/\s1.out=s.out/\aA s1.f_=aA s.f_:=by grind[aM.tj]
 rw[<-hs1]at a;rw[<-i]at z;rw[<-b.1]at u;rw[<-b.2.1]at v;rw[<-b.2.2]at x;have r:=O A;clear hs1 A i b t hp H;obtain⟨-,-,-,-,-,Q,E,B⟩:=iA a.1.i_;have P:=a.1.xb;have W:=B 6;obtain⟨mx,X,j,-⟩:=a.1.wy.slice;rw[j,iz]at Q;clear B j;by_cases C:aA s1.sk=500;.have ⟨q1,q2⟩:=a.1.vm 9;have y:=O (AA q1 x G_ v z);have V:=O (a.2.trans q2);rw[ec C]at r;clear q1 q2;go_wp;refine sa y λK ⟨G,T,d,l⟩=>?_;have E:=(iA d.i_).2.2.2.2.2.2.1;have k:=O (du d l);clear d l;go_wp2;go_ret;rw[r];exact⟨gO G_,G,_,k.1,V.trans k.2,s_⟩
 have y:=O (AA a.1 x Z v z);rw[dy C]at r;go_wp;refine sa y λK ⟨G,T,d,l⟩=>?_;have E:=(iA d.i_).2.2.2.2.2.2.1;have k:=O (du d l);clear d l;go_wp2;go_ret;rw[r];exact⟨gO G_,G,_,k.1,a.2.trans k.2,s_⟩
end
