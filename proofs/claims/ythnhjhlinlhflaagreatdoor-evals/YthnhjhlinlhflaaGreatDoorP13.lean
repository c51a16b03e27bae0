import Derived.Test.YthnhjhlinlhflaaGreatDoorP01
import Derived.Test.YthnhjhlinlhflaaGreatDoorP11
set_option linter.all false
set_option maxRecDepth 100000
set_option maxHeartbeats 0
open List renaming length->aA
open Go.World renaming setCell->c9,cell?->i9,cell?_of_block->I_
open Option renaming some->Wj
open Bool renaming false->Wl
open Go renaming Value->Wo,TypeId->Wr
open Go.Value renaming slice->Wz,string->WD
namespace Go.Proofs.YthnhjhlinlhflaaGreatDoor
open Hs _root_.Go.Proofs.Tryz Go.RowKit
variable{R:List aC}{a n p:Nat}{f:Type}{e:Wr}{s:aK}{o r:aL}{y:aU}{x:bI}
def nA{α:Type}(k:Nat)(R:List Wo->α->Prop)(xs:List Wo)(l:List α):Prop:=(aA xs)=aA l*k/\∀i (h:i<aA l),R ((xs.drop (i*k)).take k) l[i]
section
variable {α:Type} {k:Nat} {R S:List Wo->α->Prop} {xs ys:List Wo} {l m:List α} {a:α}
def nA.nil:nA k R [] []:=(by grind[nA])
def nA.mono(h:nA k R xs l)(f:∀c a,R c a->S c a):nA k S xs l:=(by grind[nA])
def nA.fit{i:Nat}(h:nA k R xs l)(a:i<aA l):i*k+k<=aA xs:=by rw[h.1,<-Nat.succ_mul];exact iw k a
theorem nA.append(h:nA k R xs l)(b:nA k R ys m):nA k R (xs++ys) (l++m):=by refine⟨by grind[nA],λi c=>?_⟩;by_cases a:i<aA l;have:=h.fit a;grind[nA];obtain⟨j,rfl⟩:∃j,i=aA l+j:=⟨i-aA l,Z⟩;rw[List.getElem_append_right Z,Nat.add_mul,<-h.1,List.drop_length_add_append];grind[nA]
theorem nA.one(h:aA xs=k)(h':R xs a):nA k R xs [a]:=⟨ra,λi b=>by obtain rfl:i=0:=G_;grind⟩
def nA.take(h:nA k R xs l){m:Nat}(b:m<=aA l):nA k R (xs.take (m*k)) (l.take m):=by have d:=iw k b;refine⟨by grind[nA],λi c=>?_⟩;have a:i<m:=G_;have:=iw k a;grind[List.drop_take,nA]
def nA.cell(h:nA k R xs l){i:Nat}(a:i<aA l):∃c:List Wo,R c l[i]/\∀j u,c[j]?=Wj u->xs[i*k+j]?=Wj u:=⟨_,h.2 i a,λj u b=>by grind⟩
def Own(k:Nat)(ty:Wr)(R:List Wo->α->Prop)(w:aL)(v:aU)(l:List α):Prop:=∃xs,w.ownsRow 0 ty k v (aA l) xs/\nA k R xs l
variable {ty:Wr} {w w':aL} {v:aU}
def Own.nil:Own k ty R w (bR) []:=⟨[],World.ownsRow_nil _ _ _ _,nA.nil⟩
theorem Own.j_(h:Own k ty R w v l)(d:∀b,v.ownBlock=Wj b->w'.heap[b]?=w.heap[b]?)(f:∀c a,R c a->S c a):Own k ty S w' v l:=by have ⟨xs,h1,h2⟩:=h;exact⟨xs,aX h1 d,h2.mono f⟩
def Own.lt(h:Own k ty R w v l):∀b,v.ownBlock=Wj b->b<w.heap.size:=by have ⟨xs,h1,h2⟩:=h;exact λb a=>(h1.lt b a).2
theorem Own.slice(h:Own k ty R w v l):∃x c,v=Wz x (aA l) c/\aA l<=c/\c<=maxLen:=by obtain⟨d,⟨-,b⟩,a⟩:=h;grind
theorem Own.cell(h:Own k ty R w v l){i:Nat}(f:i<aA l):∃g a c,v=Wz (Wj (aJ g 0)) (aA l) a/\R c l[i]/\∀j u,c[j]?=Wj u->i9 w (aJ g (i*k+j))=Wj u:=by obtain⟨e,⟨-,d⟩,b⟩:=h;grind[aB,nA]
def Own.cut(h:Own k ty R w v l){n:Nat}(f:n<=aA l):∃x c,v=P_ x (aA l) c/\aA l<=c/\c<=maxLen/\Own k ty R w (P_ x n c) (l.take n):=by have ⟨xs,⟨h0,h1⟩,h2⟩:=h;have m:aA (l.take n)=n:=G_;have r:=iw k f;have b:=h2.take f;rcases h1 with ⟨rfl,i⟩|⟨g,a,d,rfl,-,p,o,e,j,q⟩;exact⟨none,0,by rw[i],Z,Z,_,⟨b.1,G_⟩,b⟩;refine⟨_,a,i_,o,e,_,⟨b.1,dv ⟨g,a,d,qt,Z,p,Z,e,j,?_⟩⟩,b⟩;grind
end
def Each{α β:Type}(R:α->β->Prop):List α->List β->Prop|[],[]=>True|a::l,b::m=>R a b/\Each R l m|_,_=>False
section
variable {α β:Type} {R S:α->β->Prop}
def Each.mono:∀{l:List α}{m:List β},Each R l m->(∀a∈l,∀b,R a b->S a b)->Each S l m|[],[],_,_=>trivial|a::l,b::m,h,f=>⟨f a s_ b h.1,Each.mono h.2 G_⟩|[],_::_,h,_=>h.elim|_::_,[],h,_=>h.elim
def Each.length:∀{l:List α}{m:List β},Each R l m->aA l=aA m|[],[],_=>rfl|_::l,_::m,h=>by simp[Each.length h.2]|[],_::_,h=>h.elim|_::_,[],h=>h.elim
def Each.get:∀{l:List α}{m:List β},Each R l m->∀i (b:i<aA m),∃a,l[i]?=Wj a/\R a m[i]|a::_,_::_,h,0,_=>⟨a,rfl,h.1⟩|_::l,_::m,h,i+1,b=>Each.get h.2 i G_|[],_::_,h,_,_=>h.elim
def Each.snoc:∀{l:List α}{m:List β}{a b},Each R l m->R a b->Each R (l++[a]) (m++[b])|[],[],_,_,_,h=>⟨h,trivial⟩|_::_,_::_,_,_,h,c=>⟨h.1,Each.snoc h.2 c⟩|[],_::_,_,_,h,_=>h.elim|_::_,[],_,_,h,_=>h.elim
def Each.uy:∀{l:List α}{m:List β}{b},Each R l (m++[b])->∃c a,l=c++[a]/\Each R c m/\R a b|[a],[],_,h=>(by grind[Each])|a::l,x::m,b,h=>by obtain⟨c,y,rfl,e,d⟩:=Each.uy h.2;grind[Each]|[],[],_,h=>h.elim|[],_::_,_,h=>h.elim|_::_::_,[],_,h=>h.2.elim
end
structure Kp(F:bI)(w:aL)(G:bI)(w':aL):Prop where
 sub:∀b,F b->G b
 j_:∀b,F b->w'.heap[b]?=w.heap[b]?
section
variable {F G H:bI} {w w' w2:aL}
def Kp.refl:Kp F w F w:=⟨s_,s_⟩
def Kp.trans(h:Kp F w G w')(k:Kp G w' H w2):Kp F w H w2:=⟨λb a=>k.sub b (h.sub b a),λb a=>(k.j_ b (h.sub b a)).trans (h.j_ b a)⟩
def LV.kp{d:Nat}{v:aU}{l:List aD}(h:LV d F w v l)(k:Kp F w G w'):LV d G w' v l:=(h.j_ k.j_).mono k.sub (Z)
def RV.kp{d:Nat}{v:aU}{a:aD}(h:RV d F w v a)(k:Kp F w G w'):RV d G w' v a:=(h.j_ k.j_).mono k.sub (Z)
def eW.kp{d:Nat}{v:aU}{a:aC}(h:eW d F w v a)(k:Kp F w G w'):eW d G w' v a:=(h.j_ k.j_).mono k.sub (Z)
def vG(F:bI)(w:aL)(c:List Wo)(b:bS×aD):Prop:=∃kv,c=[WD (bs b.1),Y b.2.c_,Y b.2.n,WD (bs b.2.s),kv]/\(∃d,LV d F w kv b.2.l)/\dX b.2/\aI b.2<=200
theorem vG.kp{c:List Wo}{b:bS×aD}(h:vG F w c b)(k:Kp F w G w'):vG G w' c b:=by have ⟨kv,h1,⟨d,h2⟩,h3⟩:=h;exact⟨kv,h1,⟨d,h2.kp k⟩,h3⟩
structure DK(sh:Bool)(F:bI)(w:aL)(p:Nat × Wo)(f:iW):Prop where
 n_:w.heap[p.1]?=Wj (.cells #[WD (bs f.name),Y f.l_,p.2] 163)
 row:Own 5 165 (vG F w) w p.2 f.g_
 fz:sh=true->∀b,p.2.ownBlock=Wj b->F b
def DK.kp{sh:Bool}{p:Nat×Wo}{f:iW}(h:DK sh F w p f)(k:Kp F w G w')(c:w'.heap[p.1]?=w.heap[p.1]?)(a:sh=Wl->∀b,p.2.ownBlock=Wj b->w'.heap[b]?=w.heap[b]?):DK sh G w' p f:=⟨c.trans h.n_,h.row.j_ (λb q=>by cases sh;exact a rfl b q;exact k.j_ b (h.fz rfl b q)) λ_ _ q=>q.kp k,λe b q=>k.sub b (h.fz e b q)⟩
def MU(c:List Wo)(a:bS):Prop:=c=[WD (bs a)]
def CT(c:List Wo)(a:bS×Nat):Prop:=c=[WD (bs a.1),Y a.2]
def RE(c:List Wo)(a:bS×bS):Prop:=c=[WD (bs a.1),WD (bs a.2)]
def Bd(F:bI)(w:aL)(c:List Wo)(p:fO×Nat):Prop:=∃sv vv ov bv,c=[Y p.2,sv,vv,ov,Y p.1.stop,bv]/\Own 5 165 (vG F w) w bv p.1.g_/\∀b,bv.ownBlock=Wj b->F b
def Bd.kp{c:List Wo}{p:fO×Nat}(h:Bd F w c p)(k:Kp F w G w'):Bd G w' c p:=by have ⟨sv,vv,ov,bv,h1,h2,h3⟩:=h;exact⟨sv,vv,ov,bv,h1,h2.j_ (λb q=>k.j_ b (h3 b q)) λ_ _ q=>q.kp k,λb q=>k.sub b (h3 b q)⟩
end
structure DM(sh:Bool) where
 rb:Nat
 fv:Wo
 tv:Wo
 rd:Nat
 ov:Wo
 rv:Wo
 mv:Wo
 fs:List (Nat × Wo)
def ob(v:aU):List Nat:=v.ownBlock.toList
def Ck:Bool->Wo->List Nat|true,_=>[]|false,v=>ob v
@[simp] theorem JL (v:aU):Ck Wl v=ob v:=rfl
def DM.sg{sh:Bool}(m:DM sh):List Nat:=m.rb::(ob m.ov++(ob m.rv++(ob m.mv++m.fs.flatMap λp=>p.1::Ck sh p.2)))
def Ed(c:List Wo)(p:Nat×Wo):Prop:=c=[aW p.1]
def mR(F:bI)(w:aL)(v:aU)(l:List Int):Prop:=(l=[]/\∃x c,v=Wz x 0 c)\/∃g o c,v=Wz (Wj (aJ g o)) (aA l) c/\aA l<=c/\F g/\∀i (h:i<aA l),i9 w (aJ g (o+i))=Wj (Y l[i])/\-9223372036854775808<=l[i]/\l[i]<=9223372036854775807
theorem mR.kp{G:bI}{w':aL}{v:aU}{l:List Int}(h:mR x r v l)(k:Kp x r G w'):mR G w' v l:=by rcases h with h|⟨g,o,c,d,a,f,b⟩;exact ea h;exact dv ⟨g,o,c,d,a,k.sub g f,λi e=>⟨by grind[I_,Kp.j_],(b i e).2⟩⟩
structure cN{sh:Bool}(fs:List aC)(F:bI)(w:aL)(m:DM sh)(s:aK):Prop where
 n_:w.heap[m.rb]?=Wj (.cells #[m.fv,m.tv,Y m.rd,m.ov,m.rv,m.mv,Y s.stop] 128)
 wa:∃d,nQ (eW d F w) F w m.fv fs
 tape:∃t,mR F w m.tv t/\m.rd<=aA t/\t.drop m.rd=s.tape/\aA t<=17592186044416
 out:Own 1 9 MU w m.ov s.out
 vu:Own 1 161 Ed w m.rv m.fs
 wu:Own 6 79 (Bd F w) w m.mv s.sf.zipIdx
 fr:Each (DK sh F w) m.fs s.f_
 nd:m.sg.Nodup
 nf:∀b∈m.sg,¬F b
 lt:∀b,F b->b<w.heap.size
 ol:aA s.out<=50
def nQ.kp{G:bI}{w':aL}{d:Nat}(h:nQ (eW d x r) x r y R)(k:Kp x r G w'):nQ (eW d G w') G w' y R:=by rcases h with h|⟨g,a,b,i,l,c,n,j,m,o⟩;exact ea h;exact dv ⟨g,a,b,i,l,k.sub g c,(k.j_ g c).trans n,j,m,o.mono λ_ _ q=>q.kp k⟩
theorem tN:p∈ob y↔y.ownBlock=Wj p:=by simp[ob]
theorem O0{a:Bool}:p∈Ck a y↔a=Wl/\y.ownBlock=Wj p:=by cases a<;>simp[Ck,ob]
section
variable {sh:Bool} {fs:List aC} {F G:bI} {w w':aL} {m:DM sh} {s:aK}
theorem DM.yu{p:Nat×Wo}(h:p∈m.fs){b:Nat}(a:b=p.1\/(sh=Wl/\p.2.ownBlock=Wj b)):b∈m.sg:=by grind[DM.sg,O0]
theorem cN.kp(h:cN fs F w m s)(k:Kp F w G w')(c:∀b∈m.sg,w'.heap[b]?=w.heap[b]?)(i:∀b∈m.sg,¬G b)(g:∀b,G b->b<w'.heap.size):cN fs G w' m s:=by have j:∀v,(∀b,b∈ob v->b∈m.sg)->∀b,v.ownBlock=Wj b->w'.heap[b]?=w.heap[b]?:=(by grind[ob]);have ⟨d,hd⟩:=h.wa;have ⟨t,ht,h2⟩:=h.tape;exact⟨(by grind[DM.sg,cN.n_]),⟨d,hd.kp k⟩,⟨t,ht.kp k,h2⟩,h.out.j_ (og) s_,h.vu.j_ (og) s_,h.wu.j_ (og) λ_ _ q=>q.kp k,h.fr.mono λp a f q=>q.kp k (c _ (DM.yu a (.inl rfl))) λe b q=>c b (DM.yu a (.inr ⟨e,q⟩)),h.nd,i,g,h.ol⟩
end
structure Kx(F:bI)(w:aL)(G:bI)(w':aL):Prop where
 kp:Kp F w G w'
 os:w'.os=w.os
 tape:w'.tape=w.tape
 output:w'.output=w.output
 size:w.heap.size<=w'.heap.size
section
variable {sh:Bool} {fs:List aC} {F G H:bI} {w w' w2:aL} {m:DM sh} {s:aK}
def Kx.refl:Kx F w F w:=⟨.refl,rfl,rfl,rfl,Z⟩
def Kx.trans(h:Kx F w G w')(k:Kx G w' H w2):Kx F w H w2:=⟨h.kp.trans k.kp,k.os.trans h.os,k.tape.trans h.tape,k.output.trans h.output,em h.size k.size⟩
def Kx.below(h:cB w w')(a:∀b,F b->b<w.heap.size):Kx F w F w':=⟨⟨s_,lm⟩,h.os,h.tape,h.output,h.size⟩
structure Px(F:bI)(w:aL)(m:DM sh)(G:bI)(w':aL)(m':DM sh):Prop where
 sub:∀b,F b->G b
 new:∀b,G b->F b\/w.heap.size<=b
 wi:∀b,b<w.heap.size->b∉m.sg->w'.heap[b]?=w.heap[b]?
 mu:∀b∈m'.sg,b∈m.sg\/w.heap.size<=b
 os:w'.os=w.os
 tape:w'.tape=w.tape
 output:w'.output=w.output
 size:w.heap.size<=w'.heap.size
 rb:m'.rb=m.rb
def Px.refl:Px F w m F w m:=⟨s_,G_,s_,G_,rfl,rfl,rfl,Z,rfl⟩
theorem Px.trans{c a:DM sh}(h:Px F w m G w' c)(k:Px G w' c H w2 a):Px F w m H w2 a:=have d:=h.size
 ⟨λb q=>k.sub b (h.sub b q),λb q=>(k.new b q).elim (h.new b) Z,(by grind[Px.wi,Px.mu]),(by grind[Px.mu]),k.os.trans h.os,k.tape.trans h.tape,k.output.trans h.output,em d k.size,k.rb.trans h.rb⟩
def Px.below(h:cB w w'):Px F w m F w' m:=⟨s_,G_,λb a _=>h.block b a,G_,h.os,h.tape,h.output,h.size,rfl⟩
def Px.kp{a:DM sh}(h:Px F w m G w' a)(b:cN fs F w m s):Kp F w G w':=⟨h.sub,(by grind[Px.wi,cN.lt,cN.nf])⟩
def nO{b:Nat}{d c a:aU}{e:Wr}(h:w.heap[b]?=Wj (.cells #[d,c,a] e)):i9 w (aJ b 0)=Wj d/\i9 w (aJ b 1)=Wj c/\i9 w (aJ b 2)=Wj a/\∀i,w.frozen? (aJ b i)=Wl:=⟨aB h rfl,aB h rfl,aB h rfl,λ_=>aE h⟩
def gU{b:Nat}{f e c a g j d:aU}{k:Wr}(h:w.heap[b]?=Wj (.cells #[f,e,c,a,g,j,d] k)):w.cell? (aJ b 0)=Wj f/\i9 w (aJ b 1)=Wj e/\i9 w (aJ b 2)=Wj c/\i9 w (aJ b 3)=Wj a/\i9 w (aJ b 4)=Wj g/\i9 w (aJ b 5)=Wj j/\i9 w (aJ b 6)=Wj d/\∀i,w.frozen? (aJ b i)=Wl:=⟨aB h rfl,aB h rfl,aB h rfl,aB h rfl,aB h rfl,aB h rfl,aB h rfl,λ_=>aE h⟩
def sB{a:List (Nat×Wo)}{p:Nat×Wo}(h:cN fs F w m s)(f:m.fs=a++[p]):Calls prog 110 #[aW m.rb] w λe w'=>e=bP (aW p.1)/\∃q,w'=w.drewN q:=by
 have ⟨g,cap,c,hv,hc,hj⟩:=h.vu.cell (i:=a.length) G_;have d:aA m.fs=aA a+1:=G_;have k:eJ w g (aA a) (aW p.1):=by simpa using hj 0 (aW p.1) (by rw[hc];simp[f])
 have j:=(gU h.n_).2.2.2.2.1;rw[hv,d]at j;have b:aA a+1<=maxLen:=by obtain⟨x,o,-,r,l⟩:=h.vu.slice;exact Z
 unfold maxLen at b;have n:(0:Int)<=(aA a:Int):=Z;have t:(aA a:Int)<(aA a:Int)+1:=Z;clear hj hv hc h d;go_in;go_wp;go_quiet (fail);go_wp2;go_ret;exact⟨i_,_,i_⟩
def PK{p:Nat×Wo}{f:iW}(h:DK sh F w p f)(x:bS):Calls prog 133 #[aW p.1,Q_ (bs x)] w λe w'=>e=bP (Y (jZ f.g_ x))/\w'=w:=by
 have ⟨c0,c1,c2,fz⟩:=nO h.n_;have ⟨y,cc,hv,h1,h2⟩:=h.row.slice;rw[hv]at c2;have l:aA f.g_<=maxLen:=Z;unfold maxLen at l;have r:∀i (m:i<aA f.g_),∃g,y=Wj (aJ g 0)/\eJ w g (i*5) (Q_ (bs f.g_[i].1)):=λi m=>by obtain⟨g,n,c,b,⟨u,rfl,-⟩,d⟩:=h.row.cell m;rw[hv]at b;cases b;exact⟨g,i_,d 0 _ i_⟩
 clear h h1 h2 hv;go_in;go_wp2;go_loop [5] (λi=>∃k:Nat,k<=aA f.g_/\i=Y k/\∀j (d:j<aA f.g_),j<k->f.g_[j].1≠x) (λi=>aA f.g_-(intOf i).toNat);case atStart=>grind
 case round=>
  obtain⟨k,t,rfl,q⟩:=hrel;by_cases a:k<aA f.g_
  .obtain⟨g,rfl,s⟩:=r k a;have b:(k:Int)<(aA f.g_:Int):=Z;by_cases o:f.g_[k].1=x;.go_wp2;go_ret;refine⟨oD ?_,i_⟩;rw[jZ,(ko).2 ⟨a,by simpa using o,λj d=>by simpa using q j Z d⟩]
   have v:((bs f.g_[k].1).toList==(bs x).toList)=Wl:=by grind[bA]
   go_wp;grind[intOf]
  have b:¬(k:Int)<(aA f.g_:Int):=Z;go_wp2;go_ret;refine⟨oD ?_,i_⟩;grind[jZ,List.getElem_of_mem]
end
section
variable {sh:Bool} {fs:List aC} {F G H:bI} {w w' w2:aL} {m:DM sh} {s:aK}
theorem DM.xr:m.rb∈m.sg:=by simp[DM.sg]
def cN.Gm(h:cN fs F w m s){rd l:Nat}{j:List Int}(a:∀k,k≠m.rb->k<H_ w->w'.heap[k]?=w.heap[k]?)(o:H_ w<=H_ w') (n:w'.heap[m.rb]?=Wj (bM #[m.fv,m.tv,Y rd,m.ov,m.rv,m.mv,Y l] 128)) (r:∀t:List Int,t.drop m.rd=s.tape->m.rd<=aA t->rd<=aA t/\t.drop rd=j):cN (sh:=sh) fs F w' {m with rd:=rd} {s with stop:=l,tape:=j}:=by have g:Kp F w F w':=⟨s_,λb c=>a b (λe=>h.nf _ DM.xr (e▸c)) (h.lt b c)⟩;have y:=eu.1 h.nd;have i:∀v,(∀b,b∈ob v->b∈m.sg.tail)->(∀b,v.ownBlock=Wj b->b<H_ w)->∀b,v.ownBlock=Wj b->w'.heap[b]?=w.heap[b]?:=(by grind[ob,DM.sg]);have x:∀p∈m.fs,∀b,(b=p.1\/(sh=Wl/\p.2.ownBlock=Wj b))->b≠m.rb:=(by grind[O0]);have ⟨d,hd⟩:=h.wa;have ⟨t,q1,q2,q3,q4⟩:=h.tape;exact⟨n,⟨d,hd.kp g⟩,(by grind[mR.kp]),h.out.j_ (i _ (og) h.out.lt) s_,h.vu.j_ (i _ (og) h.vu.lt) s_,h.wu.j_ (i _ (og) h.wu.lt) λ_ _ q=>q.kp g,h.fr.mono λp u f q=>q.kp g (a _ (G_) (aH q.n_)) λz b e=>a b (G_) (q.row.lt b e),h.nd,h.nf,λb a=>ef (h.lt b a) o,h.ol⟩
def cN.wz(h:cN fs F w m s):m.rb<w.heap.size:=aH h.n_
def cN.below(h:cN fs F w m s)(d:∀b∈m.sg,b<w.heap.size)(c:cB w w'):cN fs F w' m s:=h.kp ⟨s_,(by grind[ej,cN.lt])⟩ (lm) h.nf λb a=>ef (h.lt b a) c.size
theorem cN.y7(h:cN fs F w m s):∀b∈m.sg,b<w.heap.size:=by
 intro b c;simp only[DM.sg,fe,fg,jk,tN,O0]at c;rcases c with rfl|c|c|c|⟨p,d,c⟩;exact h.wz;exact h.out.lt b c;exact h.vu.lt b c;exact h.wu.lt b c;have:∀{l:List (Nat×Wo)}{k:List iW},Each (DK sh F w) l k->p∈l->∃f,DK sh F w p f:=by intro l;induction l with|nil=>simp|cons a l g=>intro k e d;cases k with|nil=>exact e.elim|cons f k=>grind[Each]
 obtain⟨f,q⟩:=this h.fr d;rcases c with rfl|c;exact aH q.n_;exact q.row.lt b c.2
theorem cN.rP(h:cN fs F w m s)(a:cB w w'):cN fs F w' m s/\Px F w m F w' m:=⟨h.below h.y7 a,.below a⟩
def cN.after{b:aL}{a:DM sh}(h:cN fs F w m s/\Px G b a F w m)(c:cB w w'):cN fs F w' m s/\Px G b a F w' m:=(by grind[cN.rP,Px.trans])
theorem Px.set{b:Nat}(a:b∈m.sg)(i:Nat)(v:aU):Px F w m F (c9 w (aJ b i) v) m:=⟨s_,G_,np,G_,rfl,rfl,rfl,s_,rfl⟩
def cN.vi(h:cN fs F w m s)(n:Nat):cN fs F (c9 w (aJ m.rb 6) (Y n)) m {s with stop:=n}/\Px F w m F (c9 w (aJ m.rb 6) (Y n)) m:=⟨h.Gm (np) s_ (aN h.n_) G_,.set DM.xr _ _⟩
def Fh{n:Nat}(h:n=0\/s.stop≠0):s.or n=s:=by grind[aK.or]
def qI(h:cN fs F w m s){v:aU}{a:aD}{d:Nat}(k:RV d F w v a)(n:Nat):Calls prog 107 #[aW m.rb,v,Y n] w λe w'=>e=bP v/\cN fs F w' m (s.or n)/\Px F w m F w' m:=by
 obtain⟨o,rfl,g⟩:=k;obtain⟨x,c,rfl⟩:=g.slice;obtain⟨-,-,-,-,-,-,p,f⟩:=gU h.n_;have i:=h.wz;have l:=f 6;have H:=O h;clear h g f;go_in;go_wp;.subst n;exact bodyPost_ret (v:=.agg #[Y a.c_,Y a.n,Q_ (bs a.s),P_ x (aA a.l) c]) pp rfl ⟨rfl,by rw[Fh (.inl rfl)];exact H.rP (by go_grown)⟩
 .rename_i b j;refine bodyPost_ret (v:=.agg #[Y a.c_,Y a.n,Q_ (bs a.s),P_ x (aA a.l) c]) pp rfl ⟨rfl,?_⟩;rw[aK.or,ec ⟨b,G_⟩];exact cN.after (H.vi n) (by go_grown)
 rename_i b j;exact bodyPost_ret (v:=.agg #[Y a.c_,Y a.n,Q_ (bs a.s),P_ x (aA a.l) c]) pp rfl ⟨rfl,by rw[Fh (G_)];exact H.rP (by go_grown)⟩
end
def ze(t e:Wr)(k bytes:Nat):Prop:=∃i z,prog.underlying t=Wj (.slice e)/\prog.info? e=Wj i/\i.zero=Wj z/\i.size=k/\i.bytes=bytes/\z.cells.size=k/\0<k
def ze.of{t:Wr}{z:aU}(h:prog.underlying t=Wj (.slice e))(c:(prog.info? e).map (λi=>(i.zero,i.size,i.bytes))=Wj (Wj z,p,a))(b:z.cells.size=p)(d:0<p):ze t e p a:=by grind[Option.map_eq_some_iff,ze]
section
variable {α:Type} {k bytes:Nat} {t e:Wr} {R:List Wo->α->Prop} {w:aL} {v xv:aU} {l ys:List α}
def Src(k:Nat)(R:List Wo->α->Prop)(w:aL)(xv:aU)(ys:List α):Prop:=∃y c,xv=Wz y (aA ys) c/\((ys=[]/\(y=none->c=0))\/∃ad news,y=Wj ad/\nA k R news ys/\(∀j u,news[j]?=Wj u->i9 w (ad.add j)=Wj u)/\∀u∈news,u.oneCell'=true)
def nA.uo{b:List Wo}(h:nA k R b l)(d:∀c a,R c a->∀u∈c,u.oneCell'=true):∀u∈b,u.oneCell'=true:=by intro u e;obtain⟨j,m,rfl⟩:=ka e;have n:=h.1;rcases ju k with rfl|g;exact Z;have f:j/k<aA l:=Nat.div_lt_of_lt_mul G_;refine d _ _ (h.2 _ f) _ (ir (i:=j%k) ?_);grind[Nat.mod_lt,Nat.div_add_mod]
def Own.src(h:Own k e R w v l)(f:∀c a,R c a->∀u∈c,u.oneCell'=true):Src k R w v l:=by have ⟨xs,h2,h3⟩:=h;rcases h2.2 with ⟨rfl,j⟩|⟨g,b,d,rfl,i,n,m⟩;grind[Src];exact⟨_,b,i_,.inr ⟨_,xs,i_,h3,h2.cells i_,h3.uo f⟩⟩
def Src.one{b c:Nat}{d:Array Wo}{a:α}(g:w.heap[b]?=Wj (.cells d e))(i:d.size=k)(h:R d.toList a)(f:∀u∈d.toList,u.oneCell'=true):Src k R w (Wz (Wj (aJ b 0)) 1 c) [a]:=⟨_,c,rfl,.inr ⟨_,d.toList,rfl,(by grind[nA.one]),World.news_of_block g,f⟩⟩
def PG{ty:Wr}(j:ze t e k bytes){n:Nat}{l:List Wo}(h:w.ownsRow 0 e k v n l)(y:Option Addr)(c:Nat)(o:y=none->c=0):(Builtin.append_ #[t,t] ty #[v,P_ y 0 c]).run prog w=.ok v w:=by obtain⟨i,z,b,d,-,-,-,-,-⟩:=j;cases y with|none=>grind[run_append_owned_none]|some p=>rcases h.2 with ⟨rfl,rfl⟩|⟨g,m,f,rfl,_,_,a,_⟩;simp[Builtin.append_,run_underlying b,sizeOf,typeInfo,d,Builtin.lenOf,Builtin.firstCells,loadCells,loadCellsFrom,Result.andThen];simp[Builtin.append_,run_underlying b,sizeOf,typeInfo,d,Builtin.lenOf,Builtin.firstCells,a,storeCells,loadCells,loadCellsFrom,Result.andThen]
variable {o:Oper} {a:Act} {K:Act->World->Prop} {Q:Exit->Act->World->Prop} {s x:Operand} {ops:Array Oper} {rest:List Oper} {E:Prop}
def VB{Z_:Prop}(Y_:Z_:=by unfold Oper.wp;simp[execOp,ho,resolve,invoke,builtin,hs,hx,hrun];exact hK v w (by grind[Own]) ⟨rfl,rfl,rfl,Z,s_⟩ (.inl rfl)):Z_:=Y_
def Ey(m:ze t e k bytes)(ho:o.op=.call {callee:=.builtin .append,args:=#[s,x],argTypes:=#[t,t]})(hs:a.eval s=v)(h:Own k e R w v l)(hx:a.eval x=xv)(A:Src k R w xv ys)(n:(aA l+aA ys)*bytes<=140737488355328)(D:aA l+aA ys<=maxLen) (hK:∀d w',Own k e R w' d (l++ys)->w.grownBy w' v.ownBlock->(d.ownBlock=v.ownBlock\/d.ownBlock=Wj (H_ w))->K (a.put o.dst d) w'):o.wp prog a w K Q:=by have ⟨xs,h1,h2⟩:=h;obtain⟨y,c,rfl,⟨rfl,C⟩|⟨j,b,rfl,B,p,r⟩⟩:=A;have hrun:=PG (ty:=o.type) m h1 y c C;exact VB;have ⟨i,z,ht,hi,hz,hz1,hz2,hz3,hz4⟩:=m;rcases ju (aA ys) with f|f;have e0:=kk.1 f;subst e0;have hrun:=PG (ty:=o.type) ⟨i,z,ht,hi,hz,hz1,hz2,hz3,hz4⟩ h1 (Wj j) c (s_);exact VB;apply wp_append_lies w s x t ho 0 e i z k bytes ht hi hz hz1 hz2 hz3 hz4 v (aA l) xs hs h1 j (aA ys) c b hx B.1 p r f D n (Z) _ rfl;intro g q w' F E u _;exact hK _ _ (by grind[nA.append,Own]) E (u.imp (λe=>e.symm) λe=>ey Wj e)
def tT(c:o.guard=none)(g:ze t e k bytes)(f:o.op=.call {callee:=.builtin .append,args:=#[s,x],argTypes:=#[t,t]})(n:a.eval s=v)(h:Own k e R w v l)(p:a.eval x=xv)(i:Src k R w xv ys)(m:(aA l+aA ys)*bytes<=140737488355328)(d:aA l+aA ys<=maxLen) (j:∀b w',Own k e R w' b (l++ys)->w.grownBy w' v.ownBlock->(b.ownBlock=v.ownBlock\/b.ownBlock=Wj w.heap.size)->K (a.put o.dst b) w'):if Region.wanted o (yielded ops a.tmps)=true then Oper.wp prog o a w K Q else E:=by rw[ec (by simp[Region.wanted,c])];exact Ey g f n h p i m d j
def tW(c:o.guard=none)(g:ze t e k bytes)(f:o.op=.call {callee:=.builtin .append,args:=#[s,x],argTypes:=#[t,t]})(m:a.eval s=v)(h:Own k e R w v l)(n:a.eval x=xv)(i:Src k R w xv ys)(j:(aA l+aA ys)*bytes<=140737488355328)(d:aA l+aA ys<=maxLen) (q:∀b w',Own k e R w' b (l++ys)->w.grownBy w' v.ownBlock->(b.ownBlock=v.ownBlock\/b.ownBlock=Wj w.heap.size)->wpList prog ops Q rest (a.put o.dst b) w'):wpList prog ops Q (o::rest) a w:=wpList_plain c λ_ p=>Ey g f m h n i j d G_
def Own.Gq{w':aL}{g f i:Nat}{b:α}(h:Own k e R w (P_ (Wj (aJ g 0)) (aA l) f) l)(B:i<aA l) (q:∀c,w.heap[g]?=Wj (bM c e)->∃a,w'.heap[g]?=Wj (bM a e)/\a.size=c.size/\(∀j,j<i*k\/i*k+k<=j->a[j]?=c[j]?)/\((i*k+k<=c.size)->R ((a.toList.drop (i*k)).take k) b)):Own k e R w' (P_ (Wj (aJ g 0)) (aA l) f) (l.set i b):=by
 have ⟨xs,⟨h0,h1⟩,h2⟩:=h;rcases h1 with ⟨s,-⟩|⟨y,n,c,u,-,o,A,v,x,C⟩;cases s;cases u;have ⟨a,q1,q2,q3,q4⟩:=q c o;refine⟨a.toList.take (aA l*k),⟨G_,G_⟩,G_,λj m=>?_⟩;rw[List.length_set]at m;have r:=h2.fit m;have t:((a.toList.take (aA l*k)).drop (j*k)).take k=(a.toList.drop (j*k)).take k:=by grind[List.drop_take]
 rw[t,List.getElem_set];split;grind;have:=h2.2 j m;have z:(a.toList.drop (j*k)).take k=(xs.drop (j*k)).take k:=by
  refine ji λp=>?_;rw[jj,jj];split;have:j*k+p<i*k\/i*k+k<=j*k+p:=by rcases gu j i with d|d;have:=iw k d;grind;have:=iw k (show i+1<=j by omega);grind
  grind;rfl
 grind
end
def Uy:ze 72 136 2 32:=.of underlying72 (z:=.agg #[Q_ (bs []),Q_ (bs [])]) k_ rfl d_
theorem nP(h:Below p r o)(n:Nat):Below p r (o.drewN n):=h.trans ⟨rfl,rfl,rfl,s_,s_⟩
def Own.dN{R:List Wo->f->Prop}{l:List f}(h:Own p e R r y l)(n:Nat):Own p e R (r.drewN n) y l:=h.j_ (s_) s_
def Own.Aj{b:Type}{R:List Wo->b->Prop}{g i:Nat}{l:List b}(h:Own p e R r (P_ (Wj (aJ g 0)) n a) l)(d:i<aA l):∃c,R c l[i]/\∀j u,c[j]?=Wj u->eJ r g (i*p+j) u:=by grind[Own.cell]
def Own.yq{b:Type}{R:List Wo->b->Prop}{g:Nat}{l:List b}(h:Own p e R r (P_ (Wj (aJ g 0)) n a) l)(i:Nat):r.frozen? (aJ g i)=Wl:=by obtain⟨d,⟨-,c⟩,-⟩:=h;grind[aE]
def Own.Cz{R:List Wo->f->Prop}{i:Nat}{l:List f}{b:f}(h:Own 2 e R r (P_ (Wj (aJ p 0)) n a) l)(j:i<aA l)(u0 u1:aU)(o:R [u0,u1] b):Own 2 e R (c9 (c9 r (aJ p (i*2)) u0) (aJ p (i*2+1)) u1) (P_ (Wj (aJ p 0)) n a) (l.set i b):=by
 obtain⟨x,c,e,-⟩:=h.slice;cases e;refine h.Gq j λd k=>⟨_,aN (aN k),s_,G_,λm=>?_⟩;have:(((d.setIfInBounds (i*2) u0).setIfInBounds (i*2+1) u1).toList.drop (i*2)).take 2=[u0,u1]:=by apply ji;grind
 grind
def WC{F:bI}{w:aL}{lv:aU}{l:List (bS×aD)}(h:Own 5 165 (vG F w) w lv l)(hF:∀b,F b->b<H_ w)(hl:aA l<=1000000):Calls prog 111 #[lv] w λe w'=>∃v L,e=bP v/\Own 2 136 RE w' v L/\(∀b,v.ownBlock=Wj b->H_ w<=b)/\cB w w':=by
 obtain⟨y,cc,rfl,h1,h2⟩:=h.slice;unfold maxLen at h2;have H:=O h;have HF:=O hF;go_in;go_wp2;go_loopg [3,4] (aA l) (λgk ov iv wr=>∃(k:Nat) (L:List (bS×bS)),k+gk=aA l/\aA L=k/\iv=Y k/\Own 2 136 RE wr ov L/\(∀b,ov.ownBlock=Wj b->H_ w<=b)/\cB w wr);case atStart=>exact⟨0,[],Z,rfl,rfl,Own.nil,λb e=>(by cases e),dw _ _⟩
 case round=>
  obtain⟨k,L,hk,S,rfl,ho,P,Q⟩:=hrel;have n:=O (du ho (du P Q));by_cases N:k<aA l
  .obtain⟨g,ac,c,e1,⟨J,rfl,⟨d,hd⟩,K,ad⟩,B⟩:=H.cell N;cases e1;have C:=H.lt g i_;have u:=n.2.2.block g C;have c0:=(I_ u).trans (B 0 _ i_);have c1:=(I_ u).trans (B 1 _ i_);have c2:=(I_ u).trans (B 2 _ i_);have c3:=(I_ u).trans (B 3 _ i_);have c4:=(I_ u).trans (B 4 _ i_);have e2:(k:Int)<(aA l:Int):=Z;have HW:=O (uI d F (.agg #[Y l[k].2.c_,Y l[k].2.n,Q_ (bs l[k].2.s),J]) l[k].2 wr ⟨J,i_,hd.j_ λb q=>n.2.2.block b (HF b q)⟩ (λb q=>ef (HF b q) n.2.2.size) Z K.fit);have ⟨z,cz,hz⟩:=hd.slice;subst hz;go_wp;refine rB HW λV r=>?_;have T:Own 2 136 RE (dZ V #[Q_ (bs l[k].1),Q_ (bs (cW l[k].2))] 136) u3 L:=n.1.j_ (λb q=>(ed _ _ _ (ef (n.1.lt b q) r.size)).trans (r.block b (n.1.lt b q))) s_;have hbw1:=n.2.2.trans (r.mono n.2.2.size);have d0:eJ V g (k*5) (Q_ (bs l[k].1)):=(I_ (r.block g (ef C n.2.2.size))).trans c0;have s:=O (du T (du n.2.1 hbw1));go_wp2_with (at_builtin;refine tW r_ Uy r_ r_ s.1 r_ (Src.one (bV V _ rfl) rfl (show RE _ (l[k].1,cW l[k].2)from rfl) ly) ku mm ?_;intro v' w2 p W t;obtain⟨m,X,-,rfl,-,-⟩:=p.cell (i:=L.length) s_;rw[et,ib]at p);have I:H_ w<=m:=by rcases t with e|e;exact s.2.1 m e.symm;cases e;exact em s.2.2.size s_
   have hb2:=(s.2.2.alloc s.2.2.size _).trans ⟨‹World.grownBy _ _ _›.os,‹World.grownBy _ _ _›.tape,‹World.grownBy _ _ _›.output,‹World.grownBy _ _ _›.size,λb u=>‹World.grownBy _ _ _›.block b (by have:=s.2.2.size;simp;exact Z) λe=>by have:=s.2.1 b e.symm;exact Z⟩;have H2:=O (du p hb2);clear p hb2 t W s c0 d0;go_loopg [6] (aA L) (λgj J o=>∃(j:Nat) (M:List (bS×bS)),j=gj/\aA M=aA L+1/\j<=aA L/\J=Y j/\Own 2 136 RE o (P_ (Wj (aJ m 0)) (aA L+1) X) M/\cB w o);case atStart=>exact⟨_,_,i_,s_,fk _,by rw[S],H2.1,H2.2⟩
   case round=>
    obtain⟨j,M,rfl,hM,aa,rfl,hO,hB⟩:=hrel;have a:=O (du hO hB);cases j with
    |zero=>
     go_wp;go_quiet (fail);go_wp2;go_roundg (gk-1);case measure=>exact Z
     case rel=>exact⟨k+1,M,Z,G_,lj,by rw[<-S];exact a.1.dN _,λb e=>by cases e;exact I,nP a.2 _⟩|succ i=>
     obtain⟨cx,A,E⟩:=a.1.Aj (i:=i+1) G_;obtain⟨cy,D,G⟩:=a.1.Aj (i:=i) G_;generalize M[i+1]=x at A;generalize M[i]=y at D;cases A;cases D;have x0:eJ wr m ((i+1)*2) (Q_ (bs x.1)):=by simpa using E 0 _ rfl
     have x1:eJ wr m ((i+1)*2+1) (Q_ (bs x.2)):=by simpa using E 1 _ rfl
     have y0:eJ wr m (i*2) (Q_ (bs y.1)):=by simpa using G 0 _ rfl
     have y1:eJ wr m (i*2+1) (Q_ (bs y.2)):=by simpa using G 1 _ rfl
     cases ab:Op.bytesLess (bs x.1).toList (bs y.1).toList
     .go_wp;go_quiet (fail);go_wp2;go_roundg (gk-1);case measure=>exact Z
      case rel=>exact⟨k+1,M,Z,G_,lj,by rw[<-S];exact a.1.dN _,λb e=>by cases e;exact I,nP a.2 _⟩
     go_wp;go_quiet (fail);have ⟨o,HQ⟩:∃o,Hid (o=wr.drewN nq):=⟨_,rfl⟩;rw[<-HQ];have f:Hid (Own 2 136 RE o (P_ (Wj (aJ m 0)) (aA L+1) X) M/\cB w o):=by rw[HQ];exact⟨a.1.dN _,nP a.2 _⟩
     have x0:eJ o m ((i+1)*2) (Q_ (bs x.1)):=by rw[HQ];exact x0
     have x1:eJ o m ((i+1)*2+1) (Q_ (bs x.2)):=by rw[HQ];exact x1
     have y0:eJ o m (i*2) (Q_ (bs y.1)):=by rw[HQ];exact y0
     have y1:eJ o m (i*2+1) (Q_ (bs y.2)):=by rw[HQ];exact y1
     have U:=f.1.lt m i_;have f0:=f.1.yq ((i+1)*2);have f1:=f.1.yq ((i+1)*2+1);have f2:=f.1.yq (i*2);have f3:=f.1.yq (i*2+1);go_wp2;go_roundg i;case measure=>exact Z
     case rel=>have q:=(f.1.Cz (i:=i+1) (b:=y) G_ _ _ rfl).Cz (i:=i) (b:=x) G_ _ _ rfl;exact⟨_,_,i_,by simpa using hM,Z,lj,q.j_ (λb e=>by cases e;exact ed _ _ _ (by simpa [World.setCell]using U)) s_,by have:=f.2;have:=this.size;go_grown⟩
  obtain⟨vx,X,rfl,-⟩:=n.1.slice;go_wp2;go_ret;exact⟨_,_,i_,n⟩
def Rp:ze 71 134 2 24:=.of underlying71 (z:=.agg #[WD (bs []),Y 0]) k_ rfl d_
def R1:ze 77 165 5 72:=.of underlying77 (z:=.agg #[WD (bs []),Y 0,Y 0,WD (bs []),bR]) k_ rfl d_
def Q9:ze 51 9 1 16:=.of underlying51 (z:=WD (bs [])) k_ rfl d_
def Qv:ze 66 79 6 112:=.of underlying66 (z:=.agg #[Y 0,bR,bR,bR,Y 0,bR]) k_ rfl d_
def Ny:ze 126 161 1 8:=.of underlying126 (z:=.pointer none) k_ rfl d_
section
variable {α:Type} {k:Nat} {e:Wr} {R:List Wo->α->Prop} {w w':aL} {v:aU} {l:List α}
theorem Own.ty(h:Own k e R w v l){b:Nat}(c:v.ownBlock=Wj b):∃a,w.heap[b]?=Wj (bM a e):=by obtain⟨j,⟨-,d⟩,-⟩:=h;rcases d with ⟨rfl,-⟩|⟨g,f,a,rfl,-,i,-⟩;cases c;cases c;grind
def Own.Be(h:Own k e R w v l){a:Option Nat}(g:w.grownBy w' a)(f:∀b,a=Wj b->∃c d,w.heap[b]?=Wj (.cells c d (0,0))/\d≠e):Own k e R w' v l:=h.j_ ((by grind[World.grownBy.block,Own.ty])) s_
end
def iB{R:List Wo->f->Prop}{w:aL}{l:List f}(h:Own p e R w y l):∃x n c,y=Wz x n c:=by grind[Own.slice]
structure kL(F:bI)(w:aL)(t st:Nat)(wr:aL)(sv vv ov bv:aU)(l1:List (bS × Nat))(l2:List (bS × bS))(l3:cU)(l4:List (bS × aD)):Prop where
 rP:cB w wr
 n_:wr.heap[w.heap.size]?=Wj (.cells #[Y t,sv,vv,ov,Y st,bv] 79)
 r1:Own 2 134 CT wr sv l1
 r2:Own 2 136 RE wr vv l2
 r3:Own 1 9 MU wr ov l3
 r4:Own 5 165 (vG F w) wr bv l4
 new:∀b,sv.ownBlock=Wj b\/vv.ownBlock=Wj b\/ov.ownBlock=Wj b\/bv.ownBlock=Wj b->w.heap.size<=b
section
variable {F:bI} {w wr w2:aL} {t st:Nat} {sv vv ov bv sv0 vv0 ov0 bv0 u:aU} {l1:List (bS × Nat)} {l2:List (bS × bS)} {l3:cU} {l4:List (bS × aD)}
def kL.al(h:kL F w t st wr sv vv ov bv l1 l2 l3 l4)(a:cB wr w2):kL F w t st w2 sv vv ov bv l1 l2 l3 l4:=⟨h.rP.trans (a.mono h.rP.size),(by grind[ej,kL.n_]),h.r1.j_ (λb q=>a.block b (h.r1.lt b q)) s_,h.r2.j_ (λb q=>a.block b (h.r2.lt b q)) s_,h.r3.j_ (λb q=>a.block b (h.r3.lt b q)) s_,h.r4.j_ (λb q=>a.block b (h.r4.lt b q)) s_,h.new⟩
def kL.set(f:cB w wr)(a:wr.heap[H_ w]?=Wj (bM #[Y t,sv0,vv0,ov0,Y st,bv0] 79))(m:Own 2 134 CT wr sv l1)(p:Own 2 136 RE wr vv l2)(j:Own 1 9 MU wr ov l3)(n:Own 5 165 (vG F w) wr bv l4) (c:∀b,sv.ownBlock=Wj b\/vv.ownBlock=Wj b\/ov.ownBlock=Wj b\/bv.ownBlock=Wj b->H_ w<=b){i:Nat} (g:(#[Y t,sv0,vv0,ov0,Y st,bv0]:Array Wo).setIfInBounds i u=#[Y t,sv,vv,ov,Y st,bv]):kL F w t st (c9 wr (aJ (H_ w) i) u) sv vv ov bv l1 l2 l3 l4:=by have o:∀{d:Type}{k:Nat}{e:Wr}{R:List Wo->d->Prop}{v:aU}{l:List d},e≠79->Own k e R wr v l->Own k e R (c9 wr (aJ (H_ w) i) u) v l:=λq h=>h.j_ ((by grind[eh,Own.ty])) s_;exact⟨(by grind[Below.setCell]),by rw[aN a,g],G_,G_,G_,G_,c⟩
def kL.gb(h:kL F w t st wr sv vv ov bv l1 l2 l3 l4){a:Option Nat}(d:wr.grownBy w2 a)(f:a=sv.ownBlock\/a=ov.ownBlock\/a=bv.ownBlock):cB w w2/\w2.heap[H_ w]?=wr.heap[H_ w]?:=by
 have i:∀b,a=Wj b->H_ w<=b/\b≠H_ w:=λb e=>by refine⟨h.new b G_,λq=>?_⟩;have g:=h.n_;rcases f with q|q|q<;>rw[q]at e;have ⟨c,hc⟩:=h.r1.ty e;grind;have ⟨c,hc⟩:=h.r3.ty e;grind;have ⟨c,hc⟩:=h.r4.ty e;grind
 have:=h.rP.size;exact⟨h.rP.trans ⟨d.os,d.tape,d.output,d.size,nk⟩,d.block _ (aH h.n_) G_⟩
def IM{Z_:Prop}(Y_:Z_:=by rcases hat with e|e;exact h.new b (G_);rw[e]at hb;cases hb;exact h.rP.size):Z_:=Y_
def kL.Cy(h:kL F w t st wr sv vv ov bv l1 l2 l3 l4)(d:wr.grownBy w2 sv.ownBlock){a:List (bS×Nat)}(j:Own 2 134 CT w2 u a)(hat:u.ownBlock=sv.ownBlock\/u.ownBlock=Wj (H_ wr)):kL F w t st (c9 w2 (aJ (H_ w) 1) u) u vv ov bv a l2 l3 l4:=by
 have ⟨q1,q2⟩:=h.gb d (.inl rfl);have g:∀{e:Wr},134≠e->∀b,sv.ownBlock=Wj b->∃f i,wr.heap[b]?=Wj (.cells f i (0,0))/\i≠e:=λk b hb=>by have ⟨c,hc⟩:=h.r1.ty hb;grind
 refine .set q1 (q2.trans h.n_) j (h.r2.Be d (g d_)) (h.r3.Be d (g d_)) (h.r4.Be d (g d_)) (λb hb=>?_) rfl;rcases hb with hb|hb;exact IM;exact h.new b (.inr hb)
def kL.Dc(h:kL F w t st wr sv vv ov bv l1 l2 l3 l4)(d:wr.grownBy w2 ov.ownBlock){a:cU}(j:Own 1 9 MU w2 u a)(hat:u.ownBlock=ov.ownBlock\/u.ownBlock=Wj (H_ wr)):kL F w t st (c9 w2 (aJ (H_ w) 3) u) sv vv u bv l1 l2 a l4:=by
 have ⟨q1,q2⟩:=h.gb d (s_);have g:∀{e:Wr},9≠e->∀b,ov.ownBlock=Wj b->∃f i,wr.heap[b]?=Wj (.cells f i (0,0))/\i≠e:=λk b hb=>by have ⟨c,hc⟩:=h.r3.ty hb;grind
 refine .set q1 (q2.trans h.n_) (h.r1.Be d (g d_)) (h.r2.Be d (g d_)) j (h.r4.Be d (g d_)) (λb hb=>?_) rfl;rcases hb with hb|hb|hb|hb;exact h.new b (.inl hb);exact h.new b (G_);exact IM;exact h.new b (G_)
def kL.C1(h:kL F w t st wr sv vv ov bv l1 l2 l3 l4)(d:wr.grownBy w2 bv.ownBlock){a:List (bS×aD)}(j:Own 5 165 (vG F w) w2 u a)(hat:u.ownBlock=bv.ownBlock\/u.ownBlock=Wj (H_ wr)):kL F w t st (c9 w2 (aJ (H_ w) 5) u) sv vv ov u l1 l2 l3 a:=by
 have ⟨q1,q2⟩:=h.gb d (s_);have g:∀{e:Wr},165≠e->∀b,bv.ownBlock=Wj b->∃f i,wr.heap[b]?=Wj (.cells f i (0,0))/\i≠e:=λk b hb=>by have ⟨c,hc⟩:=h.r4.ty hb;grind
 refine .set q1 (q2.trans h.n_) (h.r1.Be d (g d_)) (h.r2.Be d (g d_)) (h.r3.Be d (g d_)) j (λb hb=>?_) rfl;rcases hb with hb|hb|hb|hb;exact h.new b (.inl hb);exact h.new b (G_);exact h.new b (G_);exact IM
def Hb(h:kL F w t st wr sv vv ov bv l1 l2 l3 l4)(c:wr.grownBy w2 sv.ownBlock){a:List (bS×Nat)}(d:Own 2 134 CT w2 u a)(b:u.ownBlock=sv.ownBlock\/u.ownBlock=Wj (H_ wr)):Hid (kL F w t st (c9 w2 (aJ (H_ w) 1) u) u vv ov bv a l2 l3 l4)/\i9 w2 (aJ (H_ w) 1)=Wj sv/\w2.frozen? (aJ (H_ w) 1)=Wl:=have q:=(h.gb c (.inl i_)).2.trans h.n_
 ⟨h.Cy c d b,aB q rfl,aE q⟩
def Mj(h:kL F w t st wr sv vv ov bv l1 l2 l3 l4)(c:wr.grownBy w2 bv.ownBlock){a:List (bS×aD)}(d:Own 5 165 (vG F w) w2 u a)(b:u.ownBlock=bv.ownBlock\/u.ownBlock=Wj (H_ wr)):Hid (kL F w t st (c9 w2 (aJ (H_ w) 5) u) sv vv ov u l1 l2 l3 a)/\i9 w2 (aJ (H_ w) 5)=Wj bv/\w2.frozen? (aJ (H_ w) 5)=Wl:=have q:=(h.gb c (s_)).2.trans h.n_
 ⟨h.C1 c d b,aB q rfl,aE q⟩
def Nv(h:kL F w t st wr sv vv ov bv l1 l2 l3 l4)(c:wr.grownBy w2 ov.ownBlock){a:cU}(d:Own 1 9 MU w2 u a)(b:u.ownBlock=ov.ownBlock\/u.ownBlock=Wj (H_ wr)):Hid (kL F w t st (c9 w2 (aJ (H_ w) 3) u) sv vv u bv l1 l2 a l4)/\i9 w2 (aJ (H_ w) 3)=Wj ov/\w2.frozen? (aJ (H_ w) 3)=Wl:=have q:=(h.gb c (s_)).2.trans h.n_
 ⟨h.Dc c d b,aB q rfl,aE q⟩
def vG.one(c:List Wo)(a:bS×aD)(h:vG F w c a):∀v∈c,v.oneCell'=true:=by grind[LV.slice,Value.oneCell',vG]
def kL.Es(h:kL F w t st wr sv vv ov bv l1 l2 l3 l4)(a:cB wr w2){c:List (bS×bS)}(e:Own 2 136 RE w2 u c)(d:∀b,u.ownBlock=Wj b->H_ wr<=b):kL F w t st (c9 w2 (aJ (H_ w) 2) u) sv u ov bv l1 c l3 l4:=by have q:=h.al a;refine .set q.rP q.n_ q.r1 e q.r3 q.r4 (λb a=>?_) i_;rcases a with a|a|a;exact h.new b (.inl a);exact em h.rP.size (d b a);exact h.new b (G_)
end
section
variable {fs:List aC} {F G:bI} {w w2:aL} {m:DM Wl} {s:aK} {u:aU}
def KF{a:List Nat}{x y:List Nat}{b:List Nat}(h:(a++(x++b)).Nodup)(c:y.Nodup)(d:∀k∈y,k∉a/\k∉b):(a++(y++b)).Nodup:=by grind
def cN.swap(h:cN fs F w m s){A B:List Nat}{row u:aU}(e:m.sg=A++(ob row++B))(k:m.rb∈A)(a:w.grownBy w2 row.ownBlock)(g:u.ownBlock=row.ownBlock\/u.ownBlock=Wj (H_ w))(i:Nat):(A++(ob u++B)).Nodup/\(∀b∈A++(ob u++B),¬F b/\(b∈m.sg\/H_ w<=b))/\(∀b,b∈A\/b∈B->b≠m.rb->(c9 w2 (aJ m.rb i) u).heap[b]?=w.heap[b]?)/\(∀b,u.ownBlock=Wj b->(c9 w2 (aJ m.rb i) u).heap[b]?=w2.heap[b]?)/\(∀b,b<H_ w->b∉m.sg->(c9 w2 (aJ m.rb i) u).heap[b]?=w.heap[b]?)/\Kx F w F (c9 w2 (aJ m.rb i) u)/\w2.heap[m.rb]?=w.heap[m.rb]?:=by
 have d:=h.nd;rw[e]at d;have l:∀b,b∈A\/b∈B\/row.ownBlock=Wj b->b∈m.sg/\b<H_ w:=λb q=>by
  have:b∈m.sg:=by grind[ob]
  exact⟨this,h.y7 b this⟩
 have f:∀b,row.ownBlock=Wj b->b∉A/\b∉B:=(by grind[ob]);have c:∀b,u.ownBlock=Wj b->b∉A/\b∉B/\¬F b/\(b∈m.sg\/H_ w<=b):=λb q=>by have:row.ownBlock=Wj b\/b=H_ w:=(by grind);rcases this with q|rfl;grind[cN.nf];exact⟨G_,G_,λx=>by have:=h.lt _ x;exact Z,Z⟩
 have j:∀b,b<H_ w->b≠m.rb->row.ownBlock≠Wj b->(c9 w2 (aJ m.rb i) u).heap[b]?=w.heap[b]?:=(by grind[eh,World.grownBy.block]);refine⟨KF d om om,λb q=>?_,G_,np,G_,⟨⟨s_,(by grind[cN.lt,cN.nf])⟩,a.os,a.tape,a.output,by simpa [World.setCell]using a.size⟩,nk⟩;rcases fg.1 q with q|q;grind[cN.nf];rcases fg.1 q with q|q;grind[ob];grind[cN.nf]
def cN.sf(h:cN fs F w m s)(k:w.grownBy w2 m.mv.ownBlock){d:fO}(j:Own 6 79 (Bd F w) w2 u (s.sf.zipIdx++[(d,aA s.sf)]))(a:u.ownBlock=m.mv.ownBlock\/u.ownBlock=Wj (H_ w)):cN (sh:=Wl) fs F (c9 w2 (aJ m.rb 5) u) {m with mv:=u} {s with sf:=s.sf++[d]}/\Px F w m F (c9 w2 (aJ m.rb 5) u) {m with mv:=u}/\w2.heap[m.rb]?=w.heap[m.rb]?:=by
 have ⟨n1,n2,n3,n4,n5,n6,n7⟩:=h.swap (A:=m.rb::(ob m.ov++ob m.rv)) (row:=m.mv) (u:=u) (B:=m.fs.flatMap λp=>p.1::ob p.2) (by simp[DM.sg]) s_ k a 5;have i:({m with mv:=u}:DM Wl).sg=m.rb::(ob m.ov++ob m.rv)++(ob u++m.fs.flatMap λp=>p.1::ob p.2):=by simp[DM.sg]
 have g:∀v,(∀b∈ob v,b∈ob m.ov++ob m.rv)->∀b,v.ownBlock=Wj b->(c9 w2 (aJ m.rb 5) u).heap[b]?=w.heap[b]?:=(by grind[ob]);have h3:=λp c b x=>by have:b∈m.fs.flatMap (λp=>p.1::ob p.2):=jk.2 ⟨p,c,by simpa [tN]using x⟩;exact n3 b (.inr this) G_
 have ⟨e,hd⟩:=h.wa;have ⟨tp,ht,h2⟩:=h.tape;refine⟨⟨qd,⟨e,hd.kp n6.kp⟩,⟨tp,ht.kp n6.kp,h2⟩,h.out.j_ (g _ G_) s_,h.vu.j_ (g _ G_) s_,?_,h.fr.mono λp c f q=>q.kp n6.kp (G_) λ_=>by grind,i▸n1,G_,(by grind[Nat.lt_of_lt_of_le,cN.lt,Kx.size]),h.ol⟩,⟨s_,G_,n5,G_,n6.os,n6.tape,n6.output,n6.size,rfl⟩,n7⟩;rw[show (s.sf++[d]).zipIdx=s.sf.zipIdx++[(d,aA s.sf)] by grind];exact j.j_ n4 λ_ _ q=>q.kp n6.kp
end
def cN.Dk{a:aL}{m:DM Wl}(g:cN R x r m s)(j:cB r o)(k:o.grownBy a m.mv.ownBlock){d:fO}(i:Own 6 79 (Bd x r) a y (s.sf.zipIdx++[(d,aA s.sf)]))(c:y.ownBlock=m.mv.ownBlock\/y.ownBlock=Wj (H_ o)):Hid (cN (sh:=Wl) R x (c9 a (aJ m.rb 5) y) {m with mv:=y} {s with sf:=s.sf++[d]}/\Px x r m x (c9 a (aJ m.rb 5) y) {m with mv:=y})/\i9 a (aJ m.rb 5)=Wj m.mv/\a.frozen? (aJ m.rb 5)=Wl:=by have ⟨h,hx⟩:=g.rP j;have ⟨q1,q2,q3⟩:=h.sf k (i.j_ (s_) λ_ _ q=>q.kp (hx.kp g)) c;have e:=q3.trans h.n_;exact⟨⟨q1,hx.trans q2⟩,aB e i_,aE e⟩
def kL.frozen{i:List aC}{m:DM Wl}{e d a:aU}{k:List (bS×Nat)}{l:List (bS×bS)}{j:cU}(h:kL x r (aA s.sf) s.stop o y e d a k l j s.g_)(H:cN i x r m s):cN i (λb=>x b\/a.ownBlock=Wj b) o m s/\Bd (λb=>x b\/a.ownBlock=Wj b) o [Y (aA s.sf),y,e,d,Y s.stop,a] (⟨s.f_.map λf=>(f.name,f.l_),s.g_,s.out,s.stop⟩,aA s.sf):=by refine⟨(H.rP h.rP).1.kp ⟨G_,s_⟩ (s_) (λb g q=>?_) λb q=>?_,y,e,d,a,rfl,h.r4.j_ s_ λ_ _ q=>q.kp ⟨G_,λb q=>h.rP.block b (H.lt b q)⟩,G_⟩;rcases q with q|q;exact H.nf b g q;have:=h.new b G_;have:=H.y7 b g;exact Z;rcases q with q|q;exact ef (H.lt b q) h.rP.size;exact h.r4.lt b q
def kL.px{m:DM Wl}{j g a:aU}{k:List (bS×Nat)}{l:List (bS×bS)}{c:cU}{d:List (bS×aD)}(h:kL x r p n o y j g a k l c d)(_H:cN R x r m s):Px x r m (λb=>x b\/a.ownBlock=Wj b) o m:=⟨G_,λb q=>q.imp id λq=>h.new b G_,λb q _=>h.rP.block b q,G_,h.rP.os,h.rP.tape,h.rP.output,h.rP.size,rfl⟩
def AQ{F:bI}{w:aL}{m:DM Wl}(h:cN R F w m s)(hl:aA s.f_<=1000)(hm:aA s.sf<=1000)(ho:aA s.out<=1000)(hv:aA s.g_<=1000000):Calls prog 61 #[aW m.rb] w λe w'=>e=eV/\∃G mv,cN (sh:=Wl) R G w' {m with mv:=mv} s.notes/\Px F w m G w' {m with mv:=mv}:=by
 have ⟨c0,c1,c2,c3,c4,c5,c6,fz⟩:=gU h.n_;have ⟨mx,mc,hmv,q1,q2⟩:=h.wu.slice;have ⟨rx,rc,hrv,X,q4⟩:=h.vu.slice;rw[hmv]at c5;rw[hrv,h.fr.length]at c4;rw[jb]at c5;have A:=h.wz;have H:=O h;go_in;go_wp2;go_region;go_wp2;go_loopg [3] (aA s.f_) (λgk iv wr=>∃i:Nat,i+gk=aA s.f_/\iv=Y i/\∃sv,kL F w (aA s.sf) s.stop wr sv (bR) (bR) (bR) ((s.f_.take i).map λf=>(f.name,f.l_)) [] [] []);case atStart=>exact⟨0,Z,rfl,_,(dw _ _).alloc (Z) _ |>.trans (by exact⟨i_,i_,i_,s_,λ_ _=>rfl⟩),bV w _ rfl,.nil,.nil,.nil,.nil,ng⟩
 case round=>
  obtain⟨i,hi,rfl,sv,hN⟩:=hrel;have j:=O hN;by_cases af:i<aA s.f_
  .have ⟨p,hp,r⟩:=H.out.fr.get i af;have ⟨hil,hpe⟩:=ie.1 hp;have I:=j.out.rP;have ⟨g,cap,c,P,hc,hj⟩:=H.out.vu.cell hil;rw[hrv]at P;cases P;have Q:=H.out.vu.lt g (by rw[hrv];rfl);have d0:=(I_ (I.block g Q)).trans (by simpa using hj 0 (aW p.1) (by rw[hc,hpe];rfl));have x:=aH r.n_;obtain⟨f0,f1,-,-⟩:=nO ((I.block p.1 x).trans r.n_);have d4:=(I_ (I.block m.rb A)).trans c4;have n1:i9 wr (aJ w.heap.size 1)=Wj sv:=aB j.out.n_ i_;have nf:=aE j.out.n_ (i:=1);have B:=aH j.out.n_;have P:(i:Int)<(aA s.f_:Int):=Z;have aq:m.rb<wr.heap.size:=Z;have ao:g<wr.heap.size:=Z;have ar:p.1<wr.heap.size:=Z;obtain⟨sx,sc,t,-⟩:=j.out.r1.slice;have aa:aA ((s.f_.take i).map λf=>(f.name,f.l_))<=1000:=by simp;exact Z
   have ⟨n,hn⟩:∃n,n=aA ((s.f_.take i).map λf=>(f.name,f.l_)):=(by simp);rw[<-hn]at t aa;subst t;have HL:=O hn;clear I hj hc r hp hn;go_wp;have ay:m.rb≠w.heap.size:=Z;have ax:g≠w.heap.size:=Z;have aw:p.1≠w.heap.size:=Z;have D0:=O ((I_ (j.out.rP.block g Q)).symm.trans d0);have D1:=O ((I_ (j.out.rP.block p.1 x)).symm.trans f0);have D2:=O ((I_ (j.out.rP.block p.1 x)).symm.trans f1);have z:∀{w'},cB w w'->i9 w' (aJ m.rb 4)=Wj (Wz (Wj (aJ g 0)) (aA s.f_) rc)/\i9 w' (aJ g i)=Wj (aW p.1)/\i9 w' (aJ p.1 0)=Wj (WD (bs s.f_[i].name))/\i9 w' (aJ p.1 1)=Wj (Y s.f_[i].l_):=λq=>⟨(q.cell (p:=(aJ m.rb 4)) A).trans c4,(q.cell (p:=(aJ g i)) Q).trans D0.out,(q.cell (p:=(aJ p.1 0)) x).trans D1.out,(q.cell (p:=(aJ p.1 1)) x).trans D2.out⟩;refine wp_region_held_drew (S:=λw'=>i9 w' (aJ m.rb 4)=Wj (Wz (Wj (aJ g 0)) (aA s.f_) rc)/\i9 w' (aJ g i)=Wj (aW p.1)/\i9 w' (aJ p.1 0)=Wj (WD (bs s.f_[i].name))/\i9 w' (aJ p.1 1)=Wj (Y s.f_[i].l_)) k_ (z j.out.rP.drew) (λd=>?_);apply fV 0;apply fV 1;apply fV 3;apply fV 4;apply fV 5;apply fV 6;apply fV 7;apply fV 8;apply fV 9;apply fV 10;apply fV 11;apply fV 12;apply fV 13;apply fV 14;apply fV 15;apply fV 16;apply fV 17;apply fV 18;apply fV 19;apply fV 20;apply fV 21;apply fV 22;apply fV 23;have E:∀{w'},cB wr w'->cB w w':=λq=>j.out.rP.trans (q.mono j.out.rP.size);refine Cg 2 24 (λK D=>?_) (λK D=>?_);go_simp;refine D.out _ _ d (λd=>?_);refine yU 24 (λK D=>?_);go_simp;refine D.out _ _ (z (E (by go_grown))) (λd=>?_);rotate_left;go_simp;refine D.out _ _ (z (E (by go_grown))) (λd=>?_);refine yU 2 (λK D=>?_);go_simp;refine D.out _ _ d (λd=>?_);all_goals
    refine yU 25 (λK D=>?_);refine tT r_ Rp r_ r_ (j.out.al (by go_grown)).r1 r_ (Src.one (b:=wr.heap.size) (bV wr _ rfl) rfl (show CT _ (s.f_[i].name,s.f_[i].l_)from rfl) ly) (by rw[<-HL.out];simp;exact Z) (by rw[<-HL.out];unfold maxLen;simp;exact Z) ?_;intro v' w5 o u k;have ⟨H5,m5,fz5⟩:=Hb (j.out.al (by go_grown)) u o k;have ai:=((j.out.al (by go_grown)).gb u (.inl rfl)).1;obtain⟨vx,vn,vc,rfl⟩:=iB o;refine D.out _ _ (z ai) (λd=>?_);apply fV 26;apply fV 27;refine yU 28 (λK D=>?_);go_simp;refine D.out _ _ (z (ai.setCell (s_) _)) (λ_=>?_);refine wpAnyH_done k_ ?_ _;go_wp2;go_roundg (gk-1);case measure=>exact Z
    case rel=>exact⟨i+1,Z,lj,_,by rw[gw af,fo];exact H5.out⟩
  obtain rfl:i=aA s.f_:=Z;rw[iy]at j;have d4:=(I_ (j.out.rP.block m.rb A)).trans c4;go_upto_if 58 with fail;go_cut [4]from 53 to 68 (λf wx=>∃bv,kL F w (aA s.sf) s.stop wx sv (bR) (bR) bv (s.f_.map λf=>(f.name,f.l_)) [] [] s.g_);case first=>
   rcases gz s.f_ with J|⟨fr,f,J⟩
   .have e0:aA s.f_=0:=by rw[J];rfl
    go_wp;go_meet;case rel=>exact⟨_,by rw[show s.g_=[] by simp[aK.g_,J]];exact j.out⟩
   rw[jw]at J;obtain⟨av,⟨pb,pv⟩,hp,-,r⟩:=Each.uy (J▸H.out.fr);have t:s.g_=f.g_:=by simp[aK.g_,J]
   obtain⟨vx,vc,P,-⟩:=r.row.slice;have P:=P;subst P;have x:=aH r.n_;have HT:=O (sB (H.out.rP j.out.rP).1 hp);have HP:=O r;have f2:=(I_ (j.out.rP.block pb x)).trans (nO r.n_).2.2.1;have n5:i9 wr (aJ w.heap.size 5)=Wj (bR):=aB j.out.n_ i_;have B:=aH j.out.n_;have au:0<aA s.f_:=by rw[J];simp
   have az:aA f.g_<=1000000:=by rw[<-t];exact hv
   have HV:=O t;clear hp r J t;go_wp;apply HT.out.mono;rintro e w3 ⟨rfl,q,C⟩;have V:=O (j.out.al (w2:=w3) (by rw[C];exact nP (dw _ _) q));have f3:i9 w3 (aJ pb 2)=Wj (Wz vx (aA f.g_) vc):=by rw[C];exact f2
   have n3:i9 w3 (aJ w.heap.size 5)=Wj (bR):=by rw[C];exact n5
   have am:w.heap.size<w3.heap.size:=by rw[C];exact B
   clear C j f2 n5 B HT d4;go_wp2;go_region_law (refine tT r_ R1 r_ r_ (V.out.al (by go_grown)).r4 r_ ((HP.out.row.j_ (λb I=>V.out.rP.block b (HP.out.row.lt b I)) s_).src vG.one) ku mm ?_;intro v' w5 o u k;have ⟨H5,m5,fz5⟩:=Mj (V.out.al (by go_grown)) u o k;obtain⟨ux,un,uc,rfl⟩:=iB o;clear o u k);all_goals go_wp;go_meet;case rel=>exact⟨_,by rw[HV.out];exact H5.out⟩
  case rest=>have ⟨bv,E⟩:=hcut;have HB:=O E;have ⟨bx,bn,bc,hbv⟩:=iB E.r4;subst hbv;have n5:i9 wc (aJ w.heap.size 5)=Wj (Wz bx bn bc):=aB E.n_ i_;have ae:Kp F w F wc:=⟨s_,λb q=>E.rP.block b (H.out.lt b q)⟩;have HS:=O (WC (F:=F) (w:=wc) (l:=s.g_) (E.r4.j_ (s_) λ_ _ q=>q.kp ae) (λb q=>ef (H.out.lt b q) E.rP.size) hv);clear E j d4 ae;go_wp;apply HS.out.mono;rintro e w3 ⟨v,L,rfl,W,ag,y⟩;have ⟨vx,vn,vc,hvv⟩:=iB W;subst hvv;have M:=O (HB.out.Es y W ag);have X:=(HB.out.al y).n_;have m3:=aB X (i:=2) i_;have ak:=aE X (i:=2);have aj:=aH X;clear W ag y X HB HS n5;go_wp21;obtain⟨w4,ad⟩:∃w4,Hid (w4=c9 w3 (aJ w.heap.size 2) (Wz vx vn vc)):=⟨_,rfl⟩;rw[<-ad.out]at M⊢;clear ad m3 ak aj;obtain⟨ox,oc,T,-⟩:=H.out.out.slice;have r3:i9 w4 (aJ m.rb 3)=Wj (Wz ox (aA s.out) oc):=(I_ (M.out.rP.block m.rb A)).trans (by rw[<-T];exact c3);have n3:i9 w4 (aJ w.heap.size 3)=Wj (bR):=aB M.out.n_ i_;have B:=aH M.out.n_;have ac:m.rb<w4.heap.size:=Z;have ab:=O T;clear T;go_region_law (refine tT r_ Q9 r_ r_ (M.out.al (by go_grown)).r3 r_ ((by rw[<-ab.out];exact H.out.out.j_ (λb I=>M.out.rP.block b (H.out.out.lt b I)) (by simp):Own 1 9 MU w4.drew (Wz ox (aA s.out) oc) s.out).src (by rintro c a rfl;simp[Value.oneCell'])) ku mm ?_;intro v' w5 o u k;have ⟨H5,m5,fz5⟩:=Nv (M.out.al (by go_grown)) u o k;obtain⟨ux,un,uc,rfl⟩:=iB o;clear o u k);all_goals clear c0 c1 c2 c3 c6 q1 q2 X q4 hrv c4;go_wp;have ⟨w6,HW6⟩:∃w6,Hid (w6=c9 w5 (aJ w.heap.size 3) (Wz ux un uc)):=⟨_,rfl⟩;rw[<-HW6.out]at H5⊢;clear HW6 m5 fz5;have hG:=H5.out.frozen H.out;have HG:=O hG;have ⟨k1,k2⟩:=hG;have p1:=aB H5.out.n_ (i:=0) i_;have p2:=aB H5.out.n_ (i:=1) i_;have p3:=aB H5.out.n_ (i:=2) i_;have p4:=aB H5.out.n_ (i:=3) i_;have p5:=aB H5.out.n_ (i:=4) i_;have p6:=aB H5.out.n_ (i:=5) i_;have ⟨sx,sn,sc,t⟩:=iB H5.out.r1;subst t;have r5:=(I_ (H5.out.rP.block m.rb A)).trans c5;have ap:=aH H5.out.n_;have an:m.rb<w6.heap.size:=Z;rw[jb]at hmv;have al:=O hmv;clear k1 k2 M r3 n3 B ac ab c5 hmv;go_wp2;go_region_law (refine tT r_ Qv r_ (by rw[al.out];rfl) (HG.out.1.wu.j_ (λb q=>Below.block (by go_grown) b (HG.out.1.wu.lt b q)) s_) r_ (Src.one (b:=w6.heap.size) (bV w6 _ rfl) rfl HG.out.2 ly) ku mm ?_;intro v' w7 U ah N;have ⟨H7,m7,fz7⟩:=cN.Dk HG.out.1 (by go_grown) ah U N;obtain⟨zx,zn,zc,rfl⟩:=iB U;clear U ah N);all_goals go_wp2;go_end0;exact⟨i_,_,_,H7.out.1,(H5.out.px H.out).trans H7.out.2⟩
section
variable {fs:List aC} {F G:bI} {w w':aL} {m:DM Wl} {s:aK} {fs0:List (Nat × Wo)} {p:Nat × Wo} {fr:List iW} {f f':iW} {u:aU}
theorem Own.Cq{b:Type}{k:Nat}{e:Wr}{R:List Wo->b->Prop}{v:aU}{l a:List b}(h:Own k e R w v l)(d:aA a=aA l)(g:∀i (j:i<aA l) (f:i<aA a) c,R c l[i]->R c a[i]):Own k e R w v a:=by grind[Own,nA]
theorem cN.last{a:Bool}{m:DM a}(h:cN fs F w m s)(b:s.f_=fr++[f]):∃fs0 p,m.fs=fs0++[p]/\Each (DK a F w) fs0 fr/\DK a F w p f:=Each.uy (b▸h.fr)
theorem DM.vt(a:m.fs=fs0++[p]){b:Nat}(c:b=p.1\/p.2.ownBlock=Wj b):b∈m.sg:=(by grind[DM.yu,DM.sg])
theorem cN.wg(h:cN fs F w m s)(c:m.fs=fs0++[p]){b:Nat}(d:b=p.1\/p.2.ownBlock=Wj b):b≠m.rb/\b∉ob m.ov/\b∉ob m.rv/\b∉ob m.mv/\b∉fs0.flatMap (λp=>p.1::ob p.2)/\p.2.ownBlock≠Wj p.1:=by have a:=h.nd;rw[DM.sg,c,List.flatMap_append,List.flatMap_singleton]at a;simp only[JL]at a;grind[tN]
theorem cN.top(h:cN fs F w m s)(n:m.fs=fs0++[p])(D:s.f_=fr++[f])(H:∀b,F b\/b∈m.sg->b≠p.1->p.2.ownBlock≠Wj b->w'.heap[b]?=w.heap[b]?)(K:H_ w<=H_ w')(C:DK Wl F w' (p.1,u) f')(G:∀b,u.ownBlock=Wj b->p.2.ownBlock=Wj b\/H_ w<=b):cN (sh:=Wl) fs F w' {m with fs:=fs0++[(p.1,u)]} {s with f_:=fr++[f']}:=by
 have j:=λb v=>h.wg n (b:=b) v;have B:∀b,F b->b≠p.1/\p.2.ownBlock≠Wj b:=(by grind[cN.nf,DM.vt]);have d:Kp F w F w':=⟨s_,G_⟩;have E:∀b∈m.sg,(b=p.1\/p.2.ownBlock=Wj b)\/w'.heap[b]?=w.heap[b]?:=(by grind);have A:∀b∈m.sg,(¬(b=p.1\/p.2.ownBlock=Wj b))->w'.heap[b]?=w.heap[b]?:=(by grind);have ⟨e,hd⟩:=h.wa;have ⟨tp,ht,t⟩:=h.tape;have ⟨fs1,p1,hm1,hE,hp1⟩:=h.last D;have ⟨e0,e1⟩:=fw (hm1.symm.trans n) rfl;cases e0;cases e1;refine⟨(by grind[cN.n_,DM.sg]),⟨e,hd.kp d⟩,⟨tp,ht.kp d,t⟩,h.out.j_ ((by grind[DM.sg,ob])) s_,(h.vu.j_ ((by grind[DM.sg,ob])) s_).Cq (by simp[n]) λi J t c q=>?_,h.wu.j_ ((by grind[DM.sg,ob])) λ_ _ q=>q.kp d,?_,?_,λb v=>?_,(by grind[cN.lt]),h.ol⟩;grind[Ed];refine Each.snoc (hE.mono λq I g x=>?_) C;have l:∀b,(b=q.1\/q.2.ownBlock=Wj b)->b∈fs0.flatMap (λp=>p.1::ob p.2):=(by grind[ob]);exact x.kp d (A _ (DM.yu (p:=q) G_ (.inl rfl)) λz=>(j _ z).2.2.2.2.1 (l _ (.inl rfl))) λ_ b e=>A b (DM.yu (p:=q) G_ (.inr ⟨rfl,e⟩)) λz=>(j b z).2.2.2.2.1 (l b (.inr e));have o:=h.nd;unfold DM.sg at o⊢;simp only[JL]at o⊢;rw[n]at o;have:=KF (a:=m.rb::(ob m.ov++(ob m.rv++(ob m.mv++(fs0.flatMap (λp=>p.1::ob p.2)++[p.1]))))) (x:=ob p.2) (y:=ob u) (b:=[]) (by simpa using o) om λk r=>by rcases G k (tN.1 r)with q|q;have ⟨p1,p2,p3,p4,p5,p6⟩:=j k (.inr q);refine⟨?_,s_⟩;simp only[fe,fg,not_or];grind;refine⟨λe=>?_,s_⟩;have:=h.y7 k (by simp only[DM.sg,JL,n,List.flatMap_append,List.flatMap_singleton,fe,fg]at e⊢;grind);exact Z
 simpa using this;grind[DM.sg,JL,tN,cN.nf,cN.lt]
end
section
variable {fs:List aC} {F G:bI} {w w':aL} {m:DM Wl} {s:aK} {fs0:List (Nat × Wo)} {p:Nat × Wo} {fr:List iW} {f f':iW} {u:aU}
theorem DM.same(a:m.fs=fs0++[p]):{m with fs:=fs0++[(p.1,p.2)]}=m:=by cases m;grind
theorem tV(a:s.f_=fr++[f])(T:iW->iW):s.td T={s with f_:=fr++[T f]}:=by simp[aK.td,a]
theorem cN.l_(h:cN fs F w m s)(a:m.fs=fs0++[p])(b:s.f_=fr++[f])(n:Nat):cN fs F (c9 w (aJ p.1 1) (Y n)) m (s.td λf=>{f with l_:=n})/\Px F w m F (c9 w (aJ p.1 1) (Y n)) m:=by have ⟨fs1,p1,hm1,hE,hp⟩:=h.last b;have ⟨e0,e1⟩:=fw (hm1.symm.trans a) rfl;cases e1;have c:Px F w m F (c9 w (aJ p.1 1) (Y n)) m:=(by grind[Px.set,DM.vt]);have d:=(h.wg a (.inl i_)).2.2.2.2.2;have:=h.top (w':=c9 w (aJ p.1 1) (Y n)) (u:=p.2) (f':={f with l_:=n}) a b (np) c.size ⟨by rw[aN hp.n_];rfl,hp.row.j_ (np) λ_ _ q=>q.kp (c.kp h),nofun⟩ G_;grind[DM.same,aK.td]
def zr(fs:List aC)(F:bI)(w:aL)(m:DM Wl)(s':aK)(w':aL):Prop:=∃G m',cN fs G w' m' s'/\Px F w m G w' m'/\(s'.stop=0->m'.fs.map (·.1)=m.fs.map (·.1))
theorem WQ(h:cN fs F w m s)(t:s.f_=fr++[f])(n:Nat)(x:aA s.f_<=1000)(u:aA s.sf<=500)(v:aA s.out<=1000)(z:aA s.g_<=1000000):Calls prog 218 #[aW m.rb,Y n] w λe w'=>e=bP (.bool (decide ((s.ry n).stop=0)))/\zr fs F w m (s.ry n) w':=by
 have ⟨fs0,p,hm,hE,hp⟩:=h.last t;have J:=O (sB h hm);have S:=O (h.l_ hm t n);have ⟨f0,f1,f2,ffz⟩:=nO hp.n_;have o:=ffz 1;have M:=aH hp.n_;have H:=O h;clear h hE ffz;go_in;go_wp;refine rB J λg ⟨q,c⟩=>?_;have N:eJ g p.1 1 (Y f.l_):=by rw[c];exact f1
 have L:g.frozen? (aJ p.1 1)=Wl:=by rw[c];exact o
 have a:Hid (cN fs F (c9 g (aJ p.1 1) (Y n)) m (s.td λf=>{f with l_:=n})/\Px F w m F (c9 g (aJ p.1 1) (Y n)) m):=by rw[c];exact(((H.rP (nP (dw _ _) q)).1.l_ hm t n).imp id ((H.rP (nP (dw _ _) q)).2.trans ·))
 clear c f0 f1 f2 o J S;go_upto_region 3 with fail;obtain⟨I,D⟩:∃I,Hid (I=c9 g (aJ p.1 1) (Y n)):=⟨_,rfl⟩;rw[<-D]at a⊢;clear D N L;have ⟨s1,hs1⟩:∃s1,s1=s.td λf=>{f with l_:=n}:=(by simp);have A:s.ry n=aK.notes (if aA s1.sf=500 then {s1 with stop:=9} else s1):=by rw[hs1];rfl
 have i:s1.g_=s.g_:=by grind[aK.g_,aK.td]
 have b:s1.sf=s.sf/\s1.out=s.out/\aA s1.f_=aA s.f_:=by grind[aK.td]
 rw[<-hs1]at a;rw[<-i]at z;rw[<-b.1]at u;rw[<-b.2.1]at v;rw[<-b.2.2]at x;have r:=O A;clear hs1 A i b t hp H;obtain⟨-,-,-,-,-,Q,E,B⟩:=gU a.1.n_;have P:=a.1.wz;have V:=B 6;obtain⟨X,W,j,-⟩:=a.1.wu.slice;rw[j,jb]at Q;clear B j;by_cases C:aA s1.sf=500;.have ⟨q1,q2⟩:=a.1.vi 9;have y:=O (AQ q1 x G_ v z);have U:=O (a.2.trans q2);rw[ec C]at r;clear q1 q2;go_wp;refine rB y λK ⟨G,T,d,l⟩=>?_;have E:=(gU d.n_).2.2.2.2.2.2.1;have k:=O (du d l);clear d l;go_wp2;go_ret;rw[r];exact⟨gP G_,G,_,k.1,U.trans k.2,s_⟩
 have y:=O (AQ a.1 x Z v z);rw[dy C]at r;go_wp;refine rB y λK ⟨G,T,d,l⟩=>?_;have E:=(gU d.n_).2.2.2.2.2.2.1;have k:=O (du d l);clear d l;go_wp2;go_ret;rw[r];exact⟨gP G_,G,_,k.1,a.2.trans k.2,s_⟩
end
