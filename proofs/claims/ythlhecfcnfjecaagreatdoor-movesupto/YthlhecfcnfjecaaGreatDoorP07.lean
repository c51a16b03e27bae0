import Derived.Test.YthlhecfcnfjecaaGreatDoorP02
set_option linter.all false
set_option maxRecDepth 100000
set_option maxHeartbeats 0
open List renaming length->aA
open Go.World renaming setCell->c9
open Go renaming bodyPost_ret->Wx,Calls->W_,Value->Xa,TypeId->Xd
open Option renaming some->Wy
open Bool renaming false->WD,true->W1
open Go.Proofs.Tryz renaming prog->Xi
open Go.Value renaming string->Xm,agg->Xn,bool->Xr
namespace Go.Proofs.YthlhecfcnfjecaaGreatDoor
open Hs
open _root_.Go.Proofs.Tryz
open Instr(typeAssert)
open Go.RowKit
variable{a:ByteArray}{m:Ctx}{H:List aC}{E J l:Nat}{G:aC}{D K:aN}{I:aX}{C:bL}
abbrev Fl:List Xd:=[331,334,336,338,340,341,343,346,348,350,352,354,367,396,398,263,321,323,324]
noncomputable def zD(b:Xd):Xa:=((prog.info? b).bind (·.zero)).getD undef
noncomputable def Cn(b:Xd):Bool:=match prog.underlying b,(prog.info? b).bind (·.zero)with|some (.interface _),_=>WD|some _,Wy _=>W1|_,_=>WD
def Kc{t b g:Xd}(h:Cn b=W1):(typeAssert (dI t I) g b W1).run Xi D=.ok (if t=b then .tuple #[I,Xr W1]else .tuple #[zD b,Xr WD]) D:=by unfold Cn at h;unfold zD;cases a:prog.underlying b with|none=>simp[a]at h|some d=>cases c:prog.info? b with|none=>cases d<;>simp[a,c]at h|some i=>cases f:i.zero with|none=>cases d<;>simp[a,c,f]at h|some z=>cases d<;>simp[a]at h<;>by_cases e:t=b<;>simp[typeAssert,run_underlying a,e,zeroValue,typeInfo,c,f]
@[go_sem] theorem Wq (t b a:Xd) (I:aX) (D:aN) (h:b∈Fl):(typeAssert (.iface t I) a b W1).run Xi D=.ok (if t=b then .tuple #[I,Xr W1]else .tuple #[zD b,Xr WD]) D:=Kc ((show ∀b∈Fl,Cn b=W1 from List.all_eq_true.1 k_) b h)
@[go_sem] theorem Ws:zD 263=Y 0:=k_
@[go_sem] theorem Wr:zD 321=Xr WD:=k_
@[go_sem] theorem Wt:zD 323=Xm ⟨#[]⟩:=k_
@[go_sem] theorem Wu:zD 324=bP:=k_
def Oa{c:UInt8}(h:dM c=W1):48<=c.toNat/\c.toNat<=57:=by grind[dM]
def B9(n:Nat)(c:UInt8)(r:bQ)(h:48<=c.toNat/\c.toNat<=57):dS n (c::r)=if 9223372036854775807<n*10+(c.toNat-48)then none else dS (n*10+(c.toNat-48)) r:=by grind[dS,qZ]
theorem Vd:∀(l:bQ) (a:Nat),(∀c∈l,dM c=W1)->9223372036854775807<a->Lib.parseUintM (2^64-1) a l=.range\/∃u,Lib.parseUintM (2^64-1) a l=.ok u/\9223372036854775808<=u|[],a,_,h=>dz ⟨a,rfl,Z⟩|c::r,a,b,h=>by grind[List.mem_cons_self,Lib.parseUintM,dM]
theorem IP:∀(l:bQ) (a:Nat),(∀c∈l,dM c=W1)->a<=9223372036854775807->(∃v,dS a l=Wy v/\Lib.parseUintM (2^64-1) a l=.ok v/\v<=9223372036854775807)\/(dS a l=none/\(Lib.parseUintM (2^64-1) a l=.range\/∃u,Lib.parseUintM (2^64-1) a l=.ok u/\9223372036854775808<=u))|[],a,_,h=>ea ⟨a,rfl,rfl,h⟩|c::r,a,d,h=>by have b:=Oa (d c (js ..));have e:∀x∈r,dM x=W1:=(by grind);rw[B9 a c r b,Lib.parseUintM,ec b];by_cases f:9223372036854775807<a*10+(c.toNat-48);grind[Vd];rw[dy f,dy Z,dy Z];exact IP r _ e Z
def Ig(l:bQ)(b:∀c∈l,dM c=W1)(a:l≠[]):(∃v,dS 0 l=Wy v/\Lib.parseIntB 64 l=.ok (v:Int))\/(dS 0 l=none/\Lib.parseIntB 64 l=.range):=by cases l with|nil=>grind|cons c r=>grind[List.mem_cons_self,Lib.parseIntB,Lib.parseUintB,IP,dM]
def tu(s:Nat):Nat:=if s=110 then 1 else if s=48 then 2 else if s=115 then 3 else if s=101 then 4 else 0
def vp(t:bH):Nat:=if t.c_=48 then (dS 0 t.x_).getD 0 else 0
def Ai(t:bH):List Xa:=[Y (tu t.c_),Xm (bs t.x_),Y (vp t),Y t.l_]
def uy:List bH->List Xa|[]=>[]|t::ts=>Ai t++uy ts
def JJ(a:List bH)(t:bH):uy (a++[t])=uy a++Ai t:=by induction a with|nil=>simp[uy]|cons x a b=>simp[uy,b]
structure uh(C:Ctx)(w:aN)(p:Nat):Prop where
 i_:w.heap[C.pb]?=Wy (.cells #[.slice (Wy (aL C.g 0)) (aA C.ts) C.cap,Y p] 102)
 row:∃cur,w.heap[C.g]?=Wy (.cells cur 176)/\cur.toList.take (aA C.ts*4)=uy C.ts
 ne:C.g≠C.pb
 lt:p<aA C.ts
 len:aA C.ts<=3000
 cap:aA C.ts<=C.cap
 all:qN C.ts
 Cs:xH C.ts
def Ma(a:List bH)(p:Nat)(h:p<aA a):(uy a)[p*4]?=Wy (Y (tu (aR a p).c_))/\(uy a)[p*4+1]?=Wy (Q_ (bs (aR a p).x_))/\(uy a)[p*4+1+1]?=Wy (Y (vp (aR a p)))/\(uy a)[p*4+1+1+1]?=Wy (Y (aR a p).l_):=by induction a generalizing p with|nil=>simp at h|cons t a b=>cases p with|zero=>simp[uy,Ai,aR]|succ p=>grind[uy,Ai,aR]
def uh.tok(h:uh m D E):dR D m.g (E*4) (Y (tu (aR m.ts E).c_))/\dR D m.g (E*4+1) (Q_ (bs (aR m.ts E).x_))/\dR D m.g (E*4+1+1) (Y (vp (aR m.ts E)))/\dR D m.g (E*4+1+1+1) (Y (aR m.ts E).l_):=by have ⟨cur,h1,h2⟩:=h.row;have ⟨t0,t1,t2,t3⟩:=Ma m.ts E h.lt;grind[aB]
theorem uh.h_{w w':aN}(h:uh m w E)(a:w'.heap[m.pb]?=w.heap[m.pb]?)(b:w'.heap[m.g]?=w.heap[m.g]?):uh m w' E:=by have ⟨cur,r1,r2⟩:=h.row;exact⟨by rw[a];exact h.i_,G_,h.ne,h.lt,h.len,h.cap,h.all,h.Cs⟩
theorem uh.below{C:Ctx}{a:aN}(h:uh C D E)(b:R_ D a):uh C a E:=by have ⟨cur,r1,r2⟩:=h.row;exact h.h_ (b.block _ (aH h.i_)) (b.block _ (G_))
theorem uh.other{b:Nat}(h:uh m D E)(c:b≠m.pb)(a:b≠m.g):uh m (c9 D (aL b J) I) E:=(by grind[uh.h_,ej])
theorem uh.zh(h:uh m D E):m.g<H_ D:=by grind[uh.row]
theorem uh.wj(h:uh m D E):m.pb<H_ D:=aH h.i_
def uh.alloc{w:aN}(h:uh m w E)(o:Obj):uh m (w.alloc o) E:=(by grind[uh.below,eo,dv])
def uh.drew(h:uh m D E):uh m D.drew E:=h.below (dv _ _).drew
def tK(t:bH):Xa:=Xn #[Y (tu t.c_),Xm (bs t.x_),Y (vp t),Y t.l_]
def M2(i g f p n:Nat)(w:aN)(a c d:Int)(b:ByteArray)(s:p<n)(_hn:n<=3000)(_hnc:n<=f)(j:i<H_ w)(l:g<H_ w) (u:dR w i 0 (P_ (Wy (aL g 0)) n f)) (q:dR w i 1 (Y p)) (r:dR w g (p*4) (Y a)) (t:dR w g (p*4+1) (Q_ b)) (m:dR w g (p*4+1+1) (Y c)) (o:dR w g (p*4+1+1+1) (Y d)):W_ Xi 86 #[aY i] w λe k=>e=bR (Xn #[Y a,Q_ b,Y c,Y d])/\R_ w k:=by go_in;go_wp2;go_region;go_wp2;refine Wx (v:=Xn #[Y a,Q_ b,Y c,Y d]) (by simp[results,results86,go_sem]) rfl ⟨rfl,?_⟩;grind[Below.drew,eo,dv]
def rF(C:Ctx)(w:aN)(p:Nat)(h:uh C w p):W_ Xi 86 #[aY C.pb] w λe a=>e=bR (tK (aR C.ts p))/\R_ w a:=M2 C.pb C.g C.cap p (aA C.ts) w _ _ _ _ h.lt h.len h.cap (aH h.i_) (by grind[uh.row]) (aB h.i_ rfl) (aB h.i_ rfl) h.tok.1 h.tok.2.1 h.tok.2.2.1 h.tok.2.2.2
abbrev iE(k n:Nat):Ending:=.panicked [{v:=.iface 99 (Xn #[Y k,Y n]),recovered:=WD}]
def lD(k n:Nat)(w:aN):W_ Xi 89 #[Y k,Y n] w λe a=>e=iE k n/\a=w:=by go_in;go_wp;exact⟨aJ,aJ,aJ⟩
def OR(a c d:Int)(b:ByteArray)(w:aN):(Instr.field 176 (Xn #[Y a,Q_ b,Y c,Y d]) 3).run Xi w=.ok (Y d) w:=k_
def Hv(C:Ctx)(w:aN)(p:Nat)(h:uh C w p):W_ Xi 246 #[aY C.pb] w λe d=>e=bR (Xn #[Y (aR C.ts p).l_])/\R_ w d:=by have a:=O (λo=>rF C (w.alloc o) p (qw));simp[tK]at a;go_in;go_wp;refine sa (a _) λj b=>?_;obtain⟨g,i⟩:=wi b;have c:=O b;have f:=OR;go_wp2;refine Wx (v:=Xn #[Y (aR C.ts p).l_]) (by simp[results,results246,go_sem,g]) rfl ⟨rfl,?_⟩;exact(((dv _ _).alloc (Z) _).trans (c.mono s_)).setCell s_ _
def uh.move(h:uh m D E)(d:R_ D K)(q:Nat)(c:q<aA m.ts):uh m (c9 K (aL m.pb 1) (Y q)) q/\Fr m.pb D (c9 K (aL m.pb 1) (Y q)):=by have b:=h.below d;have ⟨cur,r1,r2⟩:=b.row;refine⟨⟨?_,⟨cur,?_,r2⟩,h.ne,c,h.len,h.cap,h.all,h.Cs⟩,qj⟩;rw[aP b.i_];rfl;grind[ej,uh.ne]
def uh.cells{w a:aN}(h:uh m w E)(c:R_ w a):m.pb<a.heap.size/\a.cell? (aL m.pb 1)=Wy (Y E)/\a.frozen? (aL m.pb 1)=WD:=by have b:=h.below c;exact⟨aH b.i_,aB b.i_ aJ,aF b.i_⟩
def He(h:uh m D E)(x:bQ):cA m.ts E x=(decide (tu (aR m.ts E).c_=0)&&(aR m.ts E).x_==x):=by grind[cA,tu,xH.tk,uh.Cs,aR,oP]
def AJ(C:Ctx)(w:aN)(p:Nat)(x:ByteArray)(h:uh C w p):W_ Xi 199 #[aY C.pb,Xm x] w λe i=>e=bR (Xr (cA C.ts p x.data.toList))/\uh C i (if cA C.ts p x.data.toList then p+1 else p)/\Fr C.pb w i:=by
 have o:=O (He h x.data.toList);have d:=O (rF C w p h);simp[tK]at d;have q:Hid (cA C.ts p x.data.toList=W1->p+1<aA C.ts):=λe=>h.all.ok.zg h.lt e;have g:Hid (((bs (aR C.ts p).x_).toList==x.toList)=((aR C.ts p).x_==x.data.toList)):=by show _=_;rw[bA,Lib.toList_data]
 have l:p<=3000:=by have:=h.lt;have:=h.len;exact Z
 have H:=O h;generalize cA C.ts p x.data.toList=f at*;generalize aR C.ts p=t at*;have ⟨c,te,li⟩:=t;simp only at o d g;generalize vp ⟨c,te,li⟩=v at*;go_in;go_wp;refine sa d λs k=>?_;obtain⟨A,z,y⟩:=H.cells k;have b:=O k;by_cases u:tu c=0
 .have r:((tu c:Int) !=0)=WD:=G_;cases j:(te==x.data.toList)
  .have n:((bs te).toList==x.toList)=WD:=by rw[g,j]
   have a:f=WD:=by grind[dw]
   subst a;go_wp2;go_ret;exact⟨s_,H.below (b.alloc b.size _),Fr.below (b.alloc b.size _)⟩
  have n:((bs te).toList==x.toList)=W1:=by rw[g,j]
  have a:f=W1:=by grind[dw]
  subst a;go_wp2;go_ret;have m:=H.move b (p+1) (q trivial);exact⟨s_,qw,m.2.alloc _⟩
 have a:f=WD:=by grind[dw]
 subst a;go_wp2;go_ret;exact⟨s_,H.below (b.alloc b.size _),Fr.below (b.alloc b.size _)⟩
def S5(C:Ctx)(w:aN)(p:Nat)(x:ByteArray)(h:uh C w p):W_ Xi 142 #[aY C.pb,Q_ x] w λe j=>Fr C.pb w j/\if cA C.ts p (eA x)then e=fA/\uh C j (p+1)else e=iE 4 (aR C.ts p).l_:=by
 have d:=O (AJ C w p x h);cases c:cA C.ts p (eA x);.rw[c]at d;go_in;go_wp21;refine sa d λi ⟨a,b⟩=>?_;have k:=O (rF C i p a);simp [tK]at k;have g:=O b;have m:=OR;go_wp21;refine sa k λq f=>?_;have l:=O f;go_wp2_with (refine sa (lD 4 (aR C.ts p).l_ _) λn o=>?_);exact⟨aJ,g.trans (Fr.below l),aJ⟩
 go_in;go_wp;refine sa d λi ⟨a,b⟩=>?_;go_wp2;go_end0;grind
def Lv(t:bH):tu t.c_=1↔t.c_=110:=by grind[tu]
def Oi(C:Ctx)(w:aN)(p:Nat)(h:uh C w p):W_ Xi 143 #[aY C.pb] w λe m=>Fr C.pb w m/\if (aR C.ts p).c_==110 then e=bR (Xn #[Y (aR C.ts p).l_,Q_ (bs (aR C.ts p).x_)])/\uh C m (p+1)else e=iE 4 (aR C.ts p).l_:=by
 have g:=O (λo=>rF C (w.alloc o) p (qw));simp only[tK]at g;have y:Hid ((aR C.ts p).c_=110->p+1<aA C.ts):=λe=>h.all.ok.next p h.lt Z;have s:=O (Lv (aR C.ts p));have B:p<=3000:=by have:=h.lt;have:=h.len;exact Z
 have H:=O h;have hl0:=aH h.i_;have d:H_ w≠C.g:=by have:=h.zh;exact Z
 generalize aR C.ts p=t at*;obtain⟨c,r,j⟩:=t;simp only at g y s;simp only;generalize vp ⟨c,r,j⟩=L at*;generalize tu c=q at*;by_cases n:c=110
 .obtain rfl:q=1:=s.2 n;have k:=y n;rw[show (c==110)=W1 by grind];go_in;go_wp;refine sa (g _) λl b=>?_;have a:=((dv _ _).alloc lZ _).trans (b.mono s_);obtain⟨G,A,z⟩:=H.cells a;obtain⟨x,F⟩:=wi b;have D:H_ w<H_ l:=by have:=b.size;simp at this;exact Z
  have f:=O a;have i:¬C.pb=H_ w:=Z;have u:¬(H_ w)=C.pb:=Z;go_wp2_with fail;have I:=H.move f (p+1) k;refine Wx (v:=Xn #[Y j,Q_ (bs r)]) (by simp[results,results143,go_sem,World.cell?_alloc_past,D,x]) rfl ?_;refine⟨(by grind[Fr.alloc,Fr.setCell]),rfl,?_⟩;exact((I.1.other Z d).other Z d).below ((dv _ _).alloc lZ _)
 have J:((q:Int) !=1)=W1:=by grind[dw]
 rw[show (c==110)=WD by grind];go_in;go_wp;refine sa (g _) λl b=>?_;have a:=((dv _ _).alloc lZ _).trans (b.mono s_);obtain⟨G,A,z⟩:=H.cells a;obtain⟨x,F⟩:=wi b;have f:=O a;have i:¬C.pb=H_ w:=Z;go_wp2_with (go_at_call 89;refine sa (lD 4 j _) λK E=>?_;obtain rfl:=E.symm);exact⟨aJ,Fr.below (f.alloc f.size _),aJ⟩
def xJ(R:Xa->aC->Prop)(F:bL)(w:aN)(kv:aX)(ks:List aC):Prop:=(kv=bP/\ks=[])\/∃g cap cur vs,kv=.slice (Wy (aL g 0)) (aA ks) cap/\F g/\w.heap[g]?=Wy (.cells cur 149)/\aA ks<=cap/\cur.toList.take (aA ks)=vs/\jN R vs ks
structure vk where
 v:Xa
 ks:List aC
 one:Bool
def sU(R:Xa->aC->Prop)(F:bL)(w:aN)(p:vk):Prop:=(p.one=W1/\∃a,p.ks=[a]/\R p.v a)\/(p.one=WD/\xJ R F w p.v p.ks)
def Shape(T:Xd)(cs:Array Xa)(a:aC)(ps:List vk):Prop:=(T=367/\∃k,cs=#[Y a.l_,Y (k:Nat)]/\a.op=[48]/\dS 0 a.x_=Wy k/\a.y_=[]/\ps=[])\/(T=396/\cs=#[Y a.l_,Xm (bs a.x_)]/\a.op=[115]/\a.y_=[]/\ps=[])\/(T=398/\cs=#[Y a.l_,Xr (a.x_==[116,114,117,101])]/\a.op=[98,111,111,108]/\a.y_=[]/\ps=[])\/(T=348/\∃sv,cs=#[Y a.l_,sv]/\a.op=[108,105,115,116]/\ps=[⟨sv,a.y_,WD⟩])\/(T=343/\∃sv,cs=#[Y a.l_,Xm (bs a.x_),sv]/\a.op=[99,97,108,108]/\ps=[⟨sv,a.y_,WD⟩])\/(T=346/\cs=#[Y a.l_,Xm (bs a.x_)]/\a.op=[110,97,109,101]/\a.y_=[]/\ps=[])\/(T=350/\∃l v1 v2 a1 a2,cs=#[Y (l:Nat),v1,v2]/\a.op=[105,110,100,101,120]/\a.y_=[a1,a2]/\ps=[⟨v1,[a1],W1⟩,⟨v2,[a2],W1⟩])\/(T=352/\∃o v1 a1,cs=#[Y a.l_,Xm (bs [o]),v1]/\(o=45\/o=33)/\a.op=[o,120]/\a.y_=[a1]/\ps=[⟨v1,[a1],W1⟩])\/(T=354/\∃l v1 v2 a1 a2,cs=#[Y (l:Nat),Xm (bs a.op),v1,v2]/\cU a.op≠9/\a.y_=[a1,a2]/\ps=[⟨v1,[a1],W1⟩,⟨v2,[a2],W1⟩])\/(T=331/\∃v1 t a1,cs=#[Y a.l_,Y t.l_,Xm (bs t.x_),v1]/\a.op=[118,97,114]/\a.y_=[t,a1]/\ps=[⟨v1,[a1],W1⟩])\/(T=334/\∃sv v1 l a1,cs=#[Y a.l_,Xm (bs a.x_),sv,v1]/\a.op=[115,101,116]/\a.y_=l++[a1]/\ps=[⟨sv,l,WD⟩,⟨v1,[a1],W1⟩])\/(T=336/\∃v1 s1 a1 b1,cs=#[Y a.l_,v1,s1,bP]/\a.op=[105,102]/\b1.op=[98,108,111,99,107]/\a.y_=[a1,b1]/\ps=[⟨v1,[a1],W1⟩,⟨s1,b1.y_,WD⟩])\/(T=336/\∃v1 s1 s2 a1 b1 b2,cs=#[Y a.l_,v1,s1,s2]/\a.op=[105,102]/\b1.op=[98,108,111,99,107]/\b2.op=[98,108,111,99,107]/\a.y_=[a1,b1,b2]/\ps=[⟨v1,[a1],W1⟩,⟨s1,b1.y_,WD⟩,⟨s2,b2.y_,WD⟩])\/(T=338/\∃v1 s1 a1 b1,cs=#[Y a.l_,v1,s1]/\a.op=[119,104,105,108,101]/\b1.op=[98,108,111,99,107]/\a.y_=[a1,b1]/\ps=[⟨v1,[a1],W1⟩,⟨s1,b1.y_,WD⟩])\/(T=340/\∃l,cs=#[Y a.l_,.iface 367 (Xn #[Y (l:Nat),Y 0])]/\a.op=[114,101,116,117,114,110]/\a.y_=[]/\ps=[])\/(T=340/\∃v1 a1,cs=#[Y a.l_,v1]/\a.op=[114,101,116,117,114,110]/\a.y_=[a1]/\ps=[⟨v1,[a1],W1⟩])\/(T=341/\∃v1 a1,cs=#[Y a.l_,v1]/\a.op=[112,114,105,110,116]/\a.y_=[a1]/\ps=[⟨v1,[a1],W1⟩])\/(T=343/\∃sv c,cs=#[Y c.l_,Xm (bs c.x_),sv]/\a.op=[100,111]/\a.l_=c.l_/\a.x_=c.x_/\a.y_=[c]/\c.op=[99,97,108,108]/\ps=[⟨sv,c.y_,WD⟩])
def yq:Nat->(Nat->Prop)->World->Xa->aC->Prop|0,_,_,_,_=>False|d+1,F,w,v,a=>∃T cs ps,v=.iface T (Xn cs)/\Shape T cs a ps/\∀p∈ps,sU (yq d F w) F w p
def PN(F:bL)(w:aN)(v:aX)(a:aC):Prop:=∃d,yq d F w v a
theorem xJ.mono{R S:Xa->aC->Prop}{F G:bL}{w:aN}{d:aX}(h:xJ R F w d H)(hR:∀v a,R v a->S v a)(hF:∀b,F b->G b):xJ S G w d H:=by exact UH
theorem xJ.h_{R:Xa->aC->Prop}{w w':aN}{d:List aC}(h:xJ R C w I d)(n:∀b,C b->w'.heap[b]?=w.heap[b]?):xJ R C w' I d:=by rcases h with h|⟨g,a,c,i,k,f,o,j,l,m⟩;exact ea h;exact dz ⟨g,a,c,i,k,f,G_,j,l,m⟩
def sU.mono{R S:Xa->aC->Prop}{F G:bL}{w:aN}{p:vk}(h:sU R F w p)(c:∀v a,R v a->S v a)(d:∀b,F b->G b):sU S G w p:=by grind[xJ.mono,sU]
def sU.h_{R:Xa->aC->Prop}{w w':aN}{p:vk}(h:sU R C w p)(a:∀b,C b->w'.heap[b]?=w.heap[b]?):sU R C w' p:=by grind[xJ.h_,sU]
theorem yq.mono{F G:bL}{w:aN}(c:∀b,F b->G b):∀{d e:Nat}{v a},yq d F w v a->d<=e->yq e G w v a|_+1,_+1,_,_,⟨T,k,g,l,j,m⟩,i=>⟨T,k,g,l,j,λp f=>(m p f).mono (λ_ _ h=>yq.mono c h Z) c⟩|0,_,_,_,h,_=>h.elim
def yq.h_{w w':aN}(c:∀b,C b->w'.heap[b]?=w.heap[b]?):∀{d:Nat}{v a},yq d C w v a->yq d C w' v a|_+1,_,_,⟨T,i,f,j,g,k⟩=>⟨T,i,f,j,g,λp e=>((k p e).mono (λ_ _ h=>yq.h_ c h) (s_)).h_ c⟩
theorem PN.mono{F G:bL}{w:aN}{v:aX}{a:aC}(h:PN F w v a)(c:∀b,F b->G b):PN G w v a:=by have ⟨d,h⟩:=h;exact⟨d,h.mono c (Z)⟩
def PN.h_{w w':aN}{v:aX}{a:aC}(h:PN C w v a)(c:∀b,C b->w'.heap[b]?=w.heap[b]?):PN C w' v a:=by have ⟨d,h⟩:=h;exact⟨d,h.h_ c⟩
def PN.form(h:PN C D I G):∃T b,I=.iface T (Xn b):=by have ⟨d,h⟩:=h;cases d with|zero=>exact h.elim|succ d=>grind[yq]
def jN.Aj:∀{a b},jN (PN C D) a b->∃d,jN (yq d C D) a b|[],[],_=>⟨0,trivial⟩|_::_,_::_,⟨⟨d,f⟩,c⟩=>by obtain⟨e,g⟩:=jN.Aj c;exact⟨max d e,(by grind[yq.mono]),(by grind[jN.mono,yq.mono])⟩|[],_::_,h=>h.elim|_::_,[],h=>h.elim
def vk.ok(F:bL)(w:aN)(p:vk):Prop:=sU (PN F w) F w p
def vk.ok.depth{p:vk}(h:p.ok C D):∃d,sU (yq d C D) C D p:=by rcases h with ⟨c,a,i,d,j⟩|⟨c,h|⟨g,e,b,l,f,i,j,m,n,k⟩⟩;grind[sU];exact⟨0,dz ⟨c,ea h⟩⟩;have ⟨d,h7⟩:=k.Aj;exact⟨d,dz ⟨c,dz ⟨g,e,b,l,f,i,j,m,n,h7⟩⟩⟩
def vk.ok.all{F:bL}{w:aN}:∀{ps:List vk},(∀p∈ps,p.ok F w)->∃d,∀p∈ps,sU (yq d F w) F w p|[],_=>(by simp)|p::ps,h=>by obtain⟨d,c⟩:=(h p (s_)).depth;obtain⟨e,b⟩:=vk.ok.all (ps:=ps) λq a=>h q (kh _ a);refine⟨max d e,λq a=>?_⟩;rcases ew.1 a with rfl|a;exact c.mono ((by grind[yq.mono])) (s_);exact(b q a).mono ((by grind[yq.mono])) (s_)
def PN.mk{T:Xd}{c:Array Xa}{b:List vk}(h:Shape T c G b)(e:∀p∈b,p.ok C D):PN C D (dI T (Xn c)) G:=by have ⟨d,hd⟩:=vk.ok.all e;exact⟨d+1,T,c,b,aJ,h,hd⟩
def vk.ok.node(h:PN C D I G):vk.ok C D ⟨I,[G],W1⟩:=ea G_
def th(F:bL)(w:aN)(kv:aX)(ks:List aC):Prop:=xJ (PN F w) F w kv ks
theorem vk.ok.list{l:List aC}(h:th C D I l):vk.ok C D ⟨I,l,WD⟩:=dz ⟨rfl,h⟩
theorem th.h_{G:bL}{w w':aN}{d:aX}(h:th C w d H)(a:∀b,C b->w'.heap[b]?=w.heap[b]?)(e:∀b,C b->G b):th G w' d H:=(xJ.mono h (λ_ _ h=>(h.h_ a).mono e) (s_)).h_ a |>.mono (s_) e
def PN.grow{c d:Nat}{a:aC}(h:PN (sm E J) D I a)(j:∀k,E<=k->k<J->K.heap[k]?=D.heap[k]?)(m:c<=E)(l:J<=d):PN (sm c d) K I a:=(h.h_ λb i=>j b i.1 i.2).mono qp
theorem th.grow{c d a:Nat}(h:th (sm c d) D I H)(f:∀k,c<=k->k<d->K.heap[k]?=D.heap[k]?)(i:a<=c)(g:d<=E):th (sm a E) K I H:=(by grind[th.h_,sm])
def Pk:(prog.info? 149).map (λi=>(i.zero,i.size,i.bytes))=Wy (Wy .nilIface,1,16):=k_
def vt(b_:Nat)(w:aN)(v:aX)(acc:List aC):Prop:=∃vs F,w.ownsRow b_ 149 1 v (aA acc) vs/\jN (PN F w) vs acc/\∀b,F b->b_<=b/\b<w.heap.size/\v.ownBlock≠Wy b
theorem vt.nil(a:Nat)(w:aN):vt a w (bP) []:=⟨[],λ_=>False,World.ownsRow_nil _ _ _ _,trivial,s_⟩
def vt.slice{b:Nat}{w:aN}{v:aX}(h:vt b w v H):∃x c,v=.slice x (aA H) c:=by have ⟨vs,F,h1,_⟩:=h;rcases h1.2 with ⟨e,i⟩|⟨g,f,d,e,_⟩;grind;grind
theorem vt.h_{a d:Nat}{w:aN}{v:aX}{b:List aC}(h:vt a w v b)(hf:Fr d w D)(e:d<a):vt a D v b:=by exact Y5
def vt.snoc{b_ lo:Nat}{j:aN}{l:aX}{m:List Xa}(r:jN (PN C D) m H)(B:∀b,C b->b_<=b/\b<H_ D/\I.ownBlock≠Wy b) (z:PN (sm lo (H_ D)) D l G) (A:b_<=lo) (q:∀k,I.ownBlock=Wy k->k<lo) (y:∀k,k<H_ D->K.heap[k]?=D.heap[k]?) (x:H_ D<=H_ K) (p:j.ownsRow b_ 149 1 (P_ (Wy (aL E 0)) (aA H+1) J) (aA H+1) (m++[l])) (f:K.grownBy j I.ownBlock) (t:I.ownBlock=Wy E\/H_ D<=E):vt b_ j (P_ (Wy (aL E 0)) (aA H+1) J) (H++[G]):=by
 have u:∀b,(C b\/sm lo (H_ D) b)->b_<=b/\b<H_ D/\I.ownBlock≠Wy b:=by grind[sm]
 have d:∀b,(C b\/sm lo (H_ D) b)->j.heap[b]?=D.heap[b]?:=(by grind[World.grownBy.block]);refine⟨m++[l],λb=>C b\/sm lo (H_ D) b,?_,?_,?_⟩;grind;exact jN.snoc (r.mono λ_ _ h=>(h.mono (G_)).h_ d) ((z.mono (G_)).h_ d);intro b s;have n:=u b s;have:=f.size;refine⟨n.1,Z,λe=>?_⟩;have e':=fo e;grind
def vt.uz(h:vt E D I H):th (sm E (H_ D)) D I H:=by have ⟨vs,F,h1,h2,h3⟩:=h;rcases h1.2 with ⟨f,e⟩|⟨g,d,c,f,e,j,i,m,k,l⟩;exact ea G_;exact dz ⟨g,d,c,vs,f,⟨e,G_⟩,j,i,G_,(by grind[jN.mono,PN.mono,sm])⟩
def uh.grown{a:Option Nat}{b_:Nat}(h:uh m D E)(f:D.grownBy K a)(e:∀k,a=Wy k->b_<=k)(d:m.pb<b_)(c:m.g<b_):uh m K E:=(by grind[uh.h_,World.grownBy.block,uh.wj,uh.zh])
def Out{α:Type}(C:Ctx)(w:aN)(r:bU α)(P:World->Xa->α->Prop)(e:Ending)(w':aN):Prop:=Fr C.pb w w'/\match r with|.ok (a,q)=>uh C w' q/\∃v,e=bR v/\P w' v a|.error l=>e=iE 4 l
def CR(C:Ctx)(w:aN)(r:bU aC)(e:Ending)(w':aN):Prop:=Out C w r (λw' v a=>PN (sm w.heap.size w'.heap.size) w' v a) e w'
def ss(C:Ctx)(F:Nat)(X:Nat->bU aC):Prop:=∀w p,uh C w p->X p≠.error 0->W_ Xi F #[aY C.pb] w (CR C w (X p))
def tL(ts:List bH)(p:Nat)(l:cY):bQ:=(l.find? λx=>cA ts p x).getD []
def OS(C:Ctx)(w:aN)(p:Nat)(l:cY)(g v:Nat)(P:g<H_ w)(ab:g≠C.pb)(hl:aA l<=100)(n:∀x∈l,x≠[])(L:∀i (hi:i<aA l),dR w g i (Q_ (bs l[i])))(h:uh C w p):W_ Xi 278 #[aY C.pb,P_ (Wy (aL g 0)) (aA l) v] w λe F=>e=bR (Q_ (bs (tL C.ts p l)))/\uh C F (if tL C.ts p l=[]then p else p+1)/\Fr C.pb w F:=by
 have HC:=O L;have H:=O h;have T:=O n;clear L h n;generalize f:(if tL C.ts p l=[]then p else p+1)=I;generalize s:tL C.ts p l=K at*;have HQ:=O f;have X:=O s;clear f s;go_in;go_wp2;go_loopg [6,9] (aA l) (λgk m i wr=>∃k:Nat,k+gk=aA l/\i=Y k/\Fr C.pb w wr/\uh C wr p/\Hid (∀x∈l.take k,cA C.ts p x=WD));case atStart=>exact⟨0,Z,rfl,Fr.refl _ _,H,λx hx=>by simp at hx⟩
 case round=>
  obtain⟨k,Q,rfl,a,b,D⟩:=hrel;by_cases N:k<aA l
  .obtain⟨j,rfl⟩:∃j,gk=j+1:=⟨gk-1,Z⟩;have A:dR wr g k (Q_ (bs l[k])):=(by grind[iN,Fr.block,dw]);have W:=eh P a.size;have t:=O (AJ C wr p (bs l[k]) b);have E:(bs l[k]).data.toList=l[k]:=by simp[bs]
   rw[E]at t;have J:Hid (l=l.take k++l[k]::l.drop (k+1)):=by show _=_;simp
   have G:Hid (∀y∈l.take (k+1),y∈l.take k\/y=l[k]):=λy hy=>by grind[List.take_succ_eq_append_getElem]
   have q:l[k]≠[]:=(by grind[dw]);have aa:=O q;have u:=O a;clear b a E q;generalize l[k]=y at*;cases c:cA C.ts p y
   .rw[c]at t;have V:Hid (∀z∈l.take (k+1),cA C.ts p z=WD):=λz hz=>by grind[dw]
    clear D G J c;go_wp;refine sa t λM ⟨o,r⟩=>?_;go_wp2;go_roundg j;case measure=>exact Z
    grind[Fr.trans,dw]
   rw[c]at t;have B:Hid (K=y):=by grind[dw,tL]
   clear D G J c;go_wp;refine sa t λM ⟨o,r⟩=>?_;go_wp2;go_ret;have d:I=p+1:=by grind[dw]
   rw[B,d];exact⟨aJ,o,u.trans r⟩
  have B:Hid (K=[]):=by grind[dw,tL,List.take_of_length_le]
  have u:=O a;have S:=O b;clear D a b;go_wp2;go_ret;have d:I=p:=by grind[dw]
  rw[B,d];exact⟨aJ,S,u⟩
def Q7(c:UInt8)(w:aN):W_ Xi 192 #[.int .u8 c.toNat] w λe a=>e=bR (Xr (fT c))/\a=w:=by have d:=mH c;have b:=O (OU c);go_in;go_wp2;all_goals go_ret;exact⟨gO (by rw[b]),rfl⟩
def zY(c:UInt8)(w:aN):W_ Xi 195 #[.int .u8 c.toNat] w λe a=>e=bR (Xr (dM c))/\a=w:=by have d:=mH c;have b:Hid (dM c=(decide (48<=c.toNat)&&decide (c.toNat<=57))):=rfl;go_in;go_wp2;all_goals go_ret;exact⟨gO mi,rfl⟩
def FC(c:UInt8)(w:aN):W_ Xi 193 #[.int .u8 c.toNat] w λe a=>e=bR (Xr (eH c))/\a=w:=by have d:=mH c;have b:Hid (eH c=(c.toNat==95||(decide (97<=c.toNat)&&decide (c.toNat<=122)||decide (65<=c.toNat)&&decide (c.toNat<=90)))):=rfl;go_in;go_wp2;all_goals go_ret;exact⟨gO mi,rfl⟩
def Vg(c:UInt8)(w:aN):W_ Xi 241 #[.int .u8 c.toNat] w λe f=>e=bR (Xr (dK W1 c))/\f=w:=by
 have b:Hid (dK W1 c=(eH c||dM c)):=by show _=_;unfold dK;rw[Bool.true_and,Bool.or_comm]
 have i:=O (FC c);have k:=O (zY c);generalize dK W1 c=r at*;generalize eH c=j at*;generalize dM c=g at*;have h:=b.out;subst h;clear b;cases j<;>cases g;all_goals go_in;go_wp2_with (first|(go_at_call 193;refine sa (i _) λd a=>?_;obtain rfl:=a.symm)|(go_at_call 195;refine sa (k _) λd a=>?_;obtain rfl:=a.symm));go_ret;exact⟨aJ,aJ⟩
def SK(c:UInt8)(w:aN):W_ Xi 245 #[.int .u8 c.toNat] w λe a=>e=bR (Xr (iG c))/\a=w:=by have d:=mH c;have b:Hid (iG c=(c.toNat !=34&&c.toNat !=10)):=rfl;go_in;go_wp2;all_goals go_ret;exact⟨gO mi,rfl⟩
def BB(P:UInt8->Bool)(F:Nat)(r:∀a w,Sem.run Xi (callFunc F a) w=.ok (.enter F a) w)(o:∀c w,W_ Xi F #[.int .u8 (UInt8.toNat c)] w λe k=>e=bR (Xr (P c))/\k=w)(s:ByteArray)(w:aN)(t:s.size<=2000000000):W_ Xi 191 #[Xm s,.func (.func F) #[] #[]] w λe k=>e=bR (Y (bT P s.data.toList))/\k=w:=by
 have n:=O o;clear o;go_in;go_wp2;go_loop [5] (λi=>∃j:Nat,j<=s.size/\i=Y j/\Hid (bT P s.data.toList=j+bT P (s.data.toList.drop j))) (λi=>s.size-(intOf i).toNat);case atStart=>exact⟨0,Nat.zero_le _,aJ,by show _=_;simp⟩
 case round=>
  obtain⟨j,u,rfl,b⟩:=hrel;by_cases g:j<s.size
  .have q:=mH s[j];rw[gE s j g]at b;have f:=O (n s[j]);cases d:P s[j];.rw[IY _ _ _ d]at b;rw[d]at f;clear d;go_wp2_with (refine sa (f _) λp l=>?_;obtain rfl:=l.symm);go_ret;exact⟨nU (by have:=b.out;exact Z),rfl⟩
   rw[pK _ _ _ d]at b;rw[d]at f;clear d;have m:Hid (bT P s.data.toList=j+1+bT P (s.data.toList.drop (j+1))):=by show _=_;rw[b];exact Z
   go_wp2_with (refine sa (f _) λp l=>?_;obtain rfl:=l.symm);go_round;case rel=>exact⟨j+1,Z,ll,m⟩
   case measure=>simp[intOf];exact Z
  rw[gp (by simpa using (by omega:s.size<=j))]at b;go_wp2;go_ret;exact⟨nU (by have:=b.out;simp[bT]at this;exact Z),rfl⟩
def XP(x:bQ)(w:aN):W_ Xi 243 #[Q_ (bs x)] w λe a=>e=bR (Xr (fN.contains x))/\a=w:=by
 have c:=bA x;have b:Hid (fN.contains x=(x==[102,117,110,99]||(x==[118,97,114]||(x==[105,102]||(x==[101,108,115,101]||(x==[119,104,105,108,101]||(x==[114,101,116,117,114,110]||(x==[112,114,105,110,116]||(x==[116,114,117,101]||x==[102,97,108,115,101]))))))))):=by show _=_;rw[ji];simp[fN]
 go_in;go_wp2;all_goals go_ret;exact⟨gO (by rw[b];first|done|simp_all),rfl⟩
def WE(s x:ByteArray)(w:aN)(_hs:s.size<=2000000000)(_hx:x.size<=100):W_ Xi 239 #[Q_ s,Q_ x] w λe b=>e=bR (Xr (eG (eA s) (eA x)))/\b=w:=by
 by_cases h:x.size<=s.size
 .have a:Hid (eG (eA s) (eA x)=((s.extract 0 x.size).toList==x.toList)):=by unfold eG Hid;rw[nW _ _ qn,Lib.extract_toList,Lib.toList_data];congr 3
  go_wp2;go_ret;exact⟨gO (by rw[a]),rfl⟩
 have a:Hid (eG (eA s) (eA x)=WD):=by exact vH _ _ la
 go_wp2;go_ret;exact⟨gO (by rw[a]),rfl⟩
def JM(s x:ByteArray)(w:aN)(b:s.size<=2000000000)(c:x.size<=100):W_ Xi 190 #[Xm s,Xm x] w λe a=>e=bR (Xr (eG s.data.toList x.data.toList))/\a=w:=by have H:=O (WE s x w b c);go_in;go_wp;refine sa H λf d=>?_;go_wp2;go_ret;simp
theorem rW(s:ByteArray)(k:Nat):(s.extract k s.size).data.toList=s.data.toList.drop k:=by rw[rV,jT];exact ii s_
def SC(sb:Nat)(src:ByteArray)(n l:Nat)(w:aN):Prop:=w.heap[sb]?=Wy (.cells #[Xm src,Y n,Y l] 254)
def SC.cells{a:Nat}{b:ByteArray}{n:Nat}{w:aN}(h:SC a b n E w):a<w.heap.size/\w.cell? (aL a 0)=Wy (Xm b)/\w.cell? (aL a 1)=Wy (Y n)/\w.cell? (aL a 2)=Wy (Y E)/\w.frozen? (aL a 1)=WD/\w.frozen? (aL a 2)=WD:=(by grind[aB,aF,SC])
def SC.move(h:SC E a J l D)(m:Nat):SC E a m l (c9 D (aL E 1) (Y m)):=by unfold SC;rw[aP h];rfl
def SC.down(h:SC E a J l D)(m:Nat):SC E a J m (c9 D (aL E 2) (Y m)):=by unfold SC;rw[aP h];rfl
def SC.drewN(h:SC E a J l D)(m:Nat):SC E a J l (D.drewN m):=h
def xP(b:Nat)(a:ByteArray)(n l:Nat)(w:aN)(h:SC b a n l w):W_ Xi 242 #[aY b] w λe c=>e=iE 3 l/\c=w:=by have ⟨h0,c0,c1,c2,f1,f2⟩:=h.cells;go_in;go_wp2_with (refine sa (lD 3 l _) λf d=>?_);exact⟨aJ,aJ,aJ⟩
def tJ(b:Nat)(a:ByteArray)(n l m:Nat)(w:aN)(h:SC b a n l w)(g:a.size<=2000000000)(f:n+m<=a.size):W_ Xi 240 #[aY b,Y m] w λe c=>e=bR (Q_ (bs (((eA a).drop n).take m)))/\SC b a (n+m) l c/\Fr b w c:=by
 have ⟨h0,c0,c1,c2,f1,f2⟩:=h.cells;have H:=O h;have d:Hid (a.extract n (n+m)=bs (((eA a).drop n).take m)):=by grind[rV]
 go_in;go_wp;go_quiet (fail);go_wp2;go_ret;refine⟨by rw[<-d];rfl,?_,?_⟩;exact(H.drewN _).move _;grind[Fr.setCell,Fr.drewN,Fr.refl]
def XH(l:bQ)(k:Nat):bD (l.take (k+bT fT (l.drop k)))=bD (l.take k):=by grind[fT,List.count_eq_zero,lN,bD]
def PG(s:ByteArray)(k:Nat)(h:k<s.size):bD (s.data.toList.take (k+1))=bD (s.data.toList.take k)+if s[k]=10 then 1 else 0:=by grind[NX,bD]
def VN(m:Nat)(a:ByteArray)(n:Nat)(w:aN)(h:SC m a n (bD ((eA a).take n)) w)(hs:a.size<=2000000000)(N:n<=a.size):W_ Xi 140 #[aY m] w λe B=>e=fA/\SC m a (n+cK a.size ((eA a).drop n)) (bD ((eA a).take (n+cK a.size ((eA a).drop n)))) B/\Fr m w B:=by
 have H:=O h;go_in;go_wp2;go_loopg [2] a.size (λgk _ wr=>∃k f:Nat,k<=a.size/\a.size<=k+f/\a.size<=k+gk/\SC m a k (bD ((eA a).take k)) wr/\Fr m w wr/\Hid (n+cK a.size ((eA a).drop n)=k+cK f ((eA a).drop k)));case atStart=>exact⟨n,a.size,N,Z,Z,H,Fr.refl _ _,rfl⟩
 case round=>
  obtain⟨k,f,X,hf,G,t,x,l⟩:=hrel;obtain⟨W,c0,c1,I,f1,f2⟩:=t.cells;have c:=O t;have q:=O x;by_cases d:k<a.size
  .have hb:=mH a[k];obtain⟨f,rfl⟩:∃M,f=M+1:=⟨f-1,Z⟩;obtain⟨j,rfl⟩:∃j,gk=j+1:=⟨gk-1,Z⟩;rw[gE a k d]at l;have K:bD ((eA a).take k)<=k+1:=by have:=BM ((eA a).take k);have:=List.length_take_le k (eA a);exact Z
   have Q:(a.extract k a.size).size=a.size-k:=s_;have E:(a.extract k a.size)[0]=a[k]:=by simp[ByteArray.getElem_extract]
   have p:=O (PG a k d);by_cases i:a[k].toNat=32\/a[k].toNat=9\/a[k].toNat=10
   .rw[CJ _ _ _ i]at l;have u:Hid (n+cK a.size ((eA a).drop n)=k+1+cK f ((eA a).drop (k+1))):=by rw[l];show _=_;exact Z
    by_cases F:a[k].toNat=10
    .have J:((a[k].toNat:Int))=10:=Z;have y:Hid (bD ((eA a).take (k+1))=bD ((eA a).take k)+1):=by show _=_;rw[p,ec (by rw[Ej];exact J)]
     generalize bD ((eA a).take k)=L at*;go_wp21;go_quiet (fail);go_wp;go_quiet (fail);go_wp2;go_roundg j;case measure=>exact Z
     case rel=>refine⟨k+1,f,Z,Z,Z,?_,?_,u⟩;rw[y];exact((c.drewN _).down _).move _;grind[Fr.setCell,Fr.drewN]
    have y:Hid (bD ((eA a).take (k+1))=bD ((eA a).take k)):=by rw[p,dy (by rw[Ej];show ¬((a[k].toNat:Int)=10);exact Z)];rfl
    have h1:((a[k].toNat:Int)==10)=WD:=by simp;exact Z
    have v:a[k].toNat=32\/a[k].toNat=9:=Z;generalize bD ((eA a).take k)=L at*;rcases v with i|i;all_goals
     go_wp;go_quiet (fail);go_wp;go_quiet (fail);go_wp2;go_roundg j;case measure=>exact Z
     case rel=>refine⟨k+1,f,Z,Z,Z,?_,?_,u⟩;rw[y];exact(c.drewN _).move _;grind[Fr.setCell,Fr.drewN]
   have V:((a[k].toNat:Int)==9)=WD:=by simp;exact Z
   have g:=O (λw=>JM (a.extract k a.size) ⟨#[47,47]⟩ w Z d_);rw[rW,show (⟨#[47,47]⟩:ByteArray).data.toList=[47,47]from rfl]at g;cases b:eG (a[k]::(eA a).drop (k+1)) [47,47];.rw[FX _ _ _ i b]at l;rw[<-gE a k d]at b;rw[b]at g;have z:=l;have r:Hid (∀nq:Nat,SC m a k (bD ((eA a).take k)) (wr.drewN nq)):=λnq=>c.drewN nq;generalize hL:bD ((eA a).take k)=L at c I K;go_wp;go_quiet (fail);go_wp;go_quiet (fail);go_wp;refine sa (g _) λD i=>?_;obtain rfl:=i.symm;go_wp21;(try simp only[Exit.inBlock,Exit.then]);refine Wx (results_none aJ _ _ _) aJ ?_;rw[z];exact⟨aJ,r _,q.drewN _⟩
   rw[zH _ _ _ i b]at l;have T:Hid (1<=bT fT ((eA a).drop k)):=by rw[gE a k d,pK _ _ _ (by unfold fT;simp;exact Z)];show _<=_;exact Z
   rw[<-gE a k d]at b l;rw[jp]at l;rw[b]at g;have s:=O (λw=>BB fT 192 (s_) Q7 (a.extract k a.size) w Z);rw[rW]at s;have S:bT fT ((eA a).drop k)<=a.size-k:=by have:=oD fT ((eA a).drop k);simpa using this
   have A:=O (XH (eA a) k);have C:=T.out;generalize P:bT fT ((eA a).drop k)=o at*;have HL2:=A;generalize bD ((eA a).take k)=L at*;have u:Hid (n+cK a.size ((eA a).drop n)=(k+o)+cK f ((eA a).drop (k+o))):=by show _=_;rw[l];exact Z
   go_wp;go_quiet (fail);go_wp;go_quiet (fail);go_wp;refine sa (g _) λD i=>?_;obtain rfl:=i.symm;go_wp2;go_region_law (go_simp;go_at_call 191;refine sa (s _) λw2 i=>?_;obtain rfl:=i.symm);all_goals
    go_wp2;go_roundg j;case measure=>exact Z
    case rel=>
     refine⟨k+o,f,Z,Z,Z,?_,?_,u⟩;have e:Value.int .i64 (IntKind.i64.wrap ((k:Int)+(o:Int)))=Y ((k+o:Nat):Int):=by rw[IntWalk.i64_in _ Z];rfl
     rw[HL2,e];exact(c.drewN _).move _;grind[Fr.setCell,Fr.drewN]
  have z:Hid (n+cK a.size ((eA a).drop n)=k):=by rw[l,gp (by simpa using (by omega:a.size<=k)),LD];rfl
  go_wp;go_quiet (fail);go_wp2;go_end0;rw[z];exact⟨aJ,c,q.drewN _⟩
def Fr.xr{o:Obj}(d:Fr E D K)(h:D.heap[J]?=Wy o)(e:J≠E):K.heap[J]?=Wy o:=by grind[Fr.block]
def Dg(sb:Nat)(src:ByteArray)(n L:Nat)(w:aN)(r:qV)(e:Ending)(w':aN):Prop:=Fr sb w w'/\((r.ok=W1/\e=bR (tK ⟨r.c_,r.x_,L⟩)/\SC sb src (n+r.size) L w')\/(r.ok=WD/\e=iE 3 L))
def tZ{L:Nat}(h:Fr E D K)(j:SC E a l L K)(i:H_ D<=J)(k:J≠E)(g f e d:aX):Fr E D (c9 (c9 (c9 (c9 K (aL J 0) g) (aL J 1) f) (aL J 2) e) (aL J 3) d)/\SC E a l L (c9 (c9 (c9 (c9 K (aL J 0) g) (aL J 1) f) (aL J 2) e) (aL J 3) d):=by grind[Fr.setCell,SC,ej]
def xQ(a:ByteArray)(n:Nat):(a.extract n a.size).size=a.size-n:=s_
def UC{Z_:Prop}(Y_:Z_:=by go_region_law (first|(go_simp;go_at_call 191;refine sa (HSP _) λw1 hw=>?_;obtain rfl:=hw.symm)|(go_simp;go_at_call 240;refine sa HTK λw2 ⟨hs2,hf2⟩=>?_;have HS2:=O hs2;have HF2:=O (HF0.drew.trans hf2);have HZ2:=O (hf2.xr HZD hrb);clear hs2 hf2));all_goals go_wp2_with fail;go_meet;grind[dw]):Z_:=Y_
def Vn(j:Nat)(a:ByteArray)(n L:Nat)(w:aN)(h:SC j a n L w)(N:a.size<=2000000000)(W:n<=a.size):W_ Xi 194 #[aY j] w (Dg j a n L w (iV ((eA a).drop n) W1)):=by
 obtain⟨e,m⟩:∃e,e=bT (dK W1) ((eA a).drop n):=(by simp);have P:e<=a.size-n:=by have:=oD (dK W1) ((eA a).drop n);rw[m];simpa using this
 have K:=(SC.cells h).1;have hrb:H_ w≠j:=Z;have H:Hid ((eF w #[Y 0,Q_ ⟨#[]⟩,Y 0,Y 0] 176).heap[H_ w]?=Wy (bO #[Y 0,Q_ ⟨#[]⟩,Y 0,Y 0] 176)):=aV _ _ aJ _;have r:SC j a n L (eF w #[Y 0,Q_ ⟨#[]⟩,Y 0,Y 0] 176):=by grind[SC,ed]
 obtain⟨t,I,A,C,u,G⟩:=r.cells;have HZD:=H.out;have HSP:=O (λw=>BB (dK W1) 241 (s_) Vg (a.extract n a.size) w rk);rw[rW,<-m]at HSP;have HTK:=O (tJ j a n L e (eF w #[Y 0,Q_ ⟨#[]⟩,Y 0,Y 0] 176).drew r N Z);have l:=O (XP (((eA a).drop n).take e));have ⟨f,htx⟩:∃f,f=((eA a).drop n).take e:=(by simp);rw[<-htx]at HTK l;have z:(bs f).size=e:=by rw[iS,htx,ia];simp;exact Z
 have E:Hid (iV ((eA a).drop n) W1={c_:=if fN.contains f then 107 else 110,x_:=f,size:=e,ok:=decide (e<=16)}):=by grind[iV]
 rw[E];have V:=O r;have HF0:Hid (Fr j w (eF w #[Y 0,Q_ ⟨#[]⟩,Y 0,Y 0] 176)):=(Fr.refl _ _).alloc _;clear h r m htx E;have ⟨o,hkw⟩:∃o,o=fN.contains f:=(by simp);rw[<-hkw]at l⊢;clear hkw;have ⟨q,g⟩:∃q,q=(if o then 107 else 110):=(by simp);rw[show (if o=W1 then 107 else 110)=q from g.symm];have p:=O g;clear g;have ⟨B,d⟩:∃B:qV,B={c_:=q,x_:=f,size:=e,ok:=decide (e<=16)}:=(by simp);rw[<-d];have k:=O d;clear d;go_in;go_wp2;go_cut [3] (λv wc=>v=Q_ (bs f)/\SC j a (n+e) L wc/\Fr j w wc/\wc.heap[H_ w]?=Wy (bO #[Y 0,Q_ ⟨#[]⟩,Y 0,Y 0] 176));case first=>exact UC
 case rest=>
  obtain⟨rfl,hs2,hf2,b⟩:=hcut;clear I A C u G t;obtain⟨t,I,A,C,u,G⟩:=hs2.cells;have HS2:=O hs2;have HF2:=O hf2;have HZ2:=O b;have F:=aB b (i:=0) aJ;have y:=aB b (i:=1) aJ;have x:=aB b (i:=2) aJ;have D:=aB b (i:=3) aJ;have X:=aF (i:=0) b;have S:=aF (i:=1) b;have y2:=aF (i:=2) b;have T:=aF (i:=3) b;have Q:=aH b;clear hs2 hf2 b HTK HSP H;by_cases M:e<=16;.cases o;all_goals have g:=p.out;clear p;subst g;have d:=k.out;clear k;subst d;go_wp;refine sa (l _) λJ hw=>?_;obtain rfl:=hw.symm;go_wp2_with fail;first|(refine Wx (v:=Xn #[Y 1,Xm (bs f),Y 0,Y L]) (by simp[results,results194,go_sem,F,y,x,D]) rfl ?_;have c:=tZ HF2 HS2 lZ hrb (Y 1) (Q_ (bs f)) (Y 0) (Y L);exact⟨c.1,ea ⟨s_,rfl,c.2⟩⟩)|(refine Wx (v:=Xn #[Y 0,Xm (bs f),Y 0,Y L]) (by simp[results,results194,go_sem,F,y,x,D]) rfl ?_;have c:=tZ HF2 HS2 lZ hrb (Y 0) (Q_ (bs f)) (Y 0) (Y L);exact⟨c.1,ea ⟨G_,rfl,c.2⟩⟩)
  have d:=k.out;clear k;subst d;have s:=O (xP j a (n+e) L wc HS2);go_wp2_with fail;refine sa s λJ hw=>?_;obtain rfl:=hw.symm;go_wp2_with fail;exact⟨aJ,HF2,s_⟩
