import Derived.Test.YthnhjhlinlhflaaGreatDoorP02
set_option linter.all false
set_option maxRecDepth 100000
set_option maxHeartbeats 0
open List renaming length->aA
open Go.World renaming setCell->c9
open Go renaming bodyPost_ret->Wi,Calls->Wn,Value->Wo,TypeId->Wr
open Option renaming some->Wj
open Bool renaming false->Wl,true->Wm
open Go.Proofs.Tryz renaming prog->Ww
open Go.Value renaming string->WD,agg->W1,bool->Xc
namespace Go.Proofs.YthnhjhlinlhflaaGreatDoor
open Hs
open _root_.Go.Proofs.Tryz
open Instr(typeAssert)
open Go.RowKit
variable{a:ByteArray}{m:Ctx}{C:List aC}{E J l:Nat}{I:aC}{D K:aL}{H:aU}{G:bI}
abbrev E2:List Wr:=[330,333,335,337,339,340,342,345,347,349,351,353,366,395,397,262,320,322,323]
noncomputable def zD(b:Wr):Wo:=((prog.info? b).bind (·.zero)).getD undef
noncomputable def Cd(b:Wr):Bool:=match prog.underlying b,(prog.info? b).bind (·.zero)with|some (.interface _),_=>Wl|some _,Wj _=>Wm|_,_=>Wl
def Q6{t b g:Wr}(h:Cd b=Wm):(typeAssert (dA t H) g b Wm).run Ww D=.ok (if t=b then .tuple #[H,Xc Wm]else .tuple #[zD b,Xc Wl]) D:=by unfold Cd at h;unfold zD;cases a:prog.underlying b with|none=>simp[a]at h|some d=>cases c:prog.info? b with|none=>cases d<;>simp[a,c]at h|some i=>cases f:i.zero with|none=>cases d<;>simp[a,c,f]at h|some z=>cases d<;>simp[a]at h<;>by_cases e:t=b<;>simp[typeAssert,run_underlying a,e,zeroValue,typeInfo,c,f]
@[go_sem] theorem Wf (t b a:Wr) (H:aU) (D:aL) (h:b∈E2):(typeAssert (.iface t H) a b Wm).run Ww D=.ok (if t=b then .tuple #[H,Xc Wm]else .tuple #[zD b,Xc Wl]) D:=Q6 ((show ∀b∈E2,Cd b=Wm from List.all_eq_true.1 k_) b h)
@[go_sem] theorem Wd:zD 262=Y 0:=k_
@[go_sem] theorem Wc:zD 320=Xc Wl:=k_
@[go_sem] theorem We:zD 322=WD ⟨#[]⟩:=k_
@[go_sem] theorem Wg:zD 323=bR:=k_
def Pq{c:UInt8}(h:dM c=Wm):48<=c.toNat/\c.toNat<=57:=by grind[dM]
def D8(n:Nat)(c:UInt8)(r:bS)(h:48<=c.toNat/\c.toNat<=57):dQ n (c::r)=if 9223372036854775807<n*10+(c.toNat-48)then none else dQ (n*10+(c.toNat-48)) r:=by grind[dQ,rO]
theorem Ps:∀(l:bS) (a:Nat),(∀c∈l,dM c=Wm)->9223372036854775807<a->Lib.parseUintM (2^64-1) a l=.range\/∃u,Lib.parseUintM (2^64-1) a l=.ok u/\9223372036854775808<=u|[],a,_,h=>dv ⟨a,rfl,Z⟩|c::r,a,b,h=>by grind[List.mem_cons_self,Lib.parseUintM,dM]
theorem IX:∀(l:bS) (a:Nat),(∀c∈l,dM c=Wm)->a<=9223372036854775807->(∃v,dQ a l=Wj v/\Lib.parseUintM (2^64-1) a l=.ok v/\v<=9223372036854775807)\/(dQ a l=none/\(Lib.parseUintM (2^64-1) a l=.range\/∃u,Lib.parseUintM (2^64-1) a l=.ok u/\9223372036854775808<=u))|[],a,_,h=>ea ⟨a,rfl,rfl,h⟩|c::r,a,d,h=>by have b:=Pq (d c (jt ..));have e:∀x∈r,dM x=Wm:=(by grind);rw[D8 a c r b,Lib.parseUintM,ec b];by_cases f:9223372036854775807<a*10+(c.toNat-48);grind[Ps];rw[dy f,dy Z,dy Z];exact IX r _ e Z
def Po(l:bS)(b:∀c∈l,dM c=Wm)(a:l≠[]):(∃v,dQ 0 l=Wj v/\Lib.parseIntB 64 l=.ok (v:Int))\/(dQ 0 l=none/\Lib.parseIntB 64 l=.range):=by cases l with|nil=>grind|cons c r=>grind[List.mem_cons_self,Lib.parseIntB,Lib.parseUintB,IX,dM]
def tf(s:Nat):Nat:=if s=110 then 1 else if s=48 then 2 else if s=115 then 3 else if s=101 then 4 else 0
def vk(t:bE):Nat:=if t.c_=48 then (dQ 0 t.x_).getD 0 else 0
def Au(t:bE):List Wo:=[Y (tf t.c_),WD (bs t.x_),Y (vk t),Y t.l_]
def ur:List bE->List Wo|[]=>[]|t::ts=>Au t++ur ts
def JR(a:List bE)(t:bE):ur (a++[t])=ur a++Au t:=by induction a with|nil=>simp[ur]|cons x a b=>simp[ur,b]
structure ud(C:Ctx)(w:aL)(p:Nat):Prop where
 n_:w.heap[C.pb]?=Wj (.cells #[.slice (Wj (aJ C.g 0)) (aA C.ts) C.cap,Y p] 101)
 row:∃cur,w.heap[C.g]?=Wj (.cells cur 175)/\cur.toList.take (aA C.ts*4)=ur C.ts
 ne:C.g≠C.pb
 lt:p<aA C.ts
 len:aA C.ts<=3000
 cap:aA C.ts<=C.cap
 all:qW C.ts
 Ce:xS C.ts
def Nk(a:List bE)(p:Nat)(h:p<aA a):(ur a)[p*4]?=Wj (Y (tf (aP a p).c_))/\(ur a)[p*4+1]?=Wj (Q_ (bs (aP a p).x_))/\(ur a)[p*4+1+1]?=Wj (Y (vk (aP a p)))/\(ur a)[p*4+1+1+1]?=Wj (Y (aP a p).l_):=by induction a generalizing p with|nil=>simp at h|cons t a b=>cases p with|zero=>simp[ur,Au,aP]|succ p=>grind[ur,Au,aP]
def ud.tok(h:ud m D E):eJ D m.g (E*4) (Y (tf (aP m.ts E).c_))/\eJ D m.g (E*4+1) (Q_ (bs (aP m.ts E).x_))/\eJ D m.g (E*4+1+1) (Y (vk (aP m.ts E)))/\eJ D m.g (E*4+1+1+1) (Y (aP m.ts E).l_):=by have ⟨cur,h1,h2⟩:=h.row;have ⟨t0,t1,t2,t3⟩:=Nk m.ts E h.lt;grind[aB]
theorem ud.j_{w w':aL}(h:ud m w E)(a:w'.heap[m.pb]?=w.heap[m.pb]?)(b:w'.heap[m.g]?=w.heap[m.g]?):ud m w' E:=by have ⟨cur,r1,r2⟩:=h.row;exact⟨by rw[a];exact h.n_,G_,h.ne,h.lt,h.len,h.cap,h.all,h.Ce⟩
theorem ud.below{C:Ctx}{a:aL}{p:Nat}(h:ud C D p)(b:cB D a):ud C a p:=by have ⟨cur,r1,r2⟩:=h.row;exact h.j_ (b.block _ (aH h.n_)) (b.block _ (G_))
theorem ud.other{b:Nat}(h:ud m D E)(c:b≠m.pb)(a:b≠m.g):ud m (c9 D (aJ b J) H) E:=(by grind[ud.j_,eh])
theorem ud.zo(h:ud m D E):m.g<H_ D:=by grind[ud.row]
theorem ud.vz(h:ud m D E):m.pb<H_ D:=aH h.n_
def ud.alloc{w:aL}(h:ud m w E)(o:Obj):ud m (w.alloc o) E:=(by grind[ud.below,eo,dw])
def ud.drew(h:ud m D E):ud m D.drew E:=h.below (dw _ _).drew
def sZ(t:bE):Wo:=W1 #[Y (tf t.c_),WD (bs t.x_),Y (vk t),Y t.l_]
def M7(i g f p n:Nat)(w:aL)(a c d:Int)(b:ByteArray)(s:p<n)(_hn:n<=3000)(_hnc:n<=f)(j:i<H_ w)(l:g<H_ w) (u:eJ w i 0 (P_ (Wj (aJ g 0)) n f)) (q:eJ w i 1 (Y p)) (r:eJ w g (p*4) (Y a)) (t:eJ w g (p*4+1) (Q_ b)) (m:eJ w g (p*4+1+1) (Y c)) (o:eJ w g (p*4+1+1+1) (Y d)):Wn Ww 85 #[aW i] w λe k=>e=bP (W1 #[Y a,Q_ b,Y c,Y d])/\cB w k:=by go_in;go_wp2;go_region;go_wp2;refine Wi (v:=W1 #[Y a,Q_ b,Y c,Y d]) (by simp[results,results85,go_sem]) rfl ⟨rfl,?_⟩;grind[Below.drew,eo,dw]
def pY(C:Ctx)(w:aL)(p:Nat)(h:ud C w p):Wn Ww 85 #[aW C.pb] w λe a=>e=bP (sZ (aP C.ts p))/\cB w a:=M7 C.pb C.g C.cap p (aA C.ts) w _ _ _ _ h.lt h.len h.cap (aH h.n_) (by grind[ud.row]) (aB h.n_ rfl) (aB h.n_ rfl) h.tok.1 h.tok.2.1 h.tok.2.2.1 h.tok.2.2.2
abbrev gE(k n:Nat):Ending:=.panicked [{v:=.iface 98 (W1 #[Y k,Y n]),recovered:=Wl}]
def kT(k n:Nat)(w:aL):Wn Ww 88 #[Y k,Y n] w λe a=>e=gE k n/\a=w:=by go_in;go_wp;exact⟨i_,i_,i_⟩
def PQ(a c d:Int)(b:ByteArray)(w:aL):(Instr.field 175 (W1 #[Y a,Q_ b,Y c,Y d]) 3).run Ww w=.ok (Y d) w:=k_
def Ly(C:Ctx)(w:aL)(p:Nat)(h:ud C w p):Wn Ww 245 #[aW C.pb] w λe d=>e=bP (W1 #[Y (aP C.ts p).l_])/\cB w d:=by have a:=O (λo=>pY C (w.alloc o) p (qo));simp[sZ]at a;go_in;go_wp;refine rB (a _) λj b=>?_;obtain⟨g,i⟩:=wk b;have c:=O b;have f:=PQ;go_wp2;refine Wi (v:=W1 #[Y (aP C.ts p).l_]) (by simp[results,results245,go_sem,g]) rfl ⟨rfl,?_⟩;exact(((dw _ _).alloc (Z) _).trans (c.mono s_)).setCell s_ _
def ud.move(h:ud m D E)(d:cB D K)(q:Nat)(c:q<aA m.ts):ud m (c9 K (aJ m.pb 1) (Y q)) q/\Fr m.pb D (c9 K (aJ m.pb 1) (Y q)):=by have b:=h.below d;have ⟨cur,r1,r2⟩:=b.row;refine⟨⟨?_,⟨cur,?_,r2⟩,h.ne,c,h.len,h.cap,h.all,h.Ce⟩,qc⟩;rw[aN b.n_];rfl;grind[eh,ud.ne]
def ud.cells{w a:aL}(h:ud m w E)(c:cB w a):m.pb<a.heap.size/\a.cell? (aJ m.pb 1)=Wj (Y E)/\a.frozen? (aJ m.pb 1)=Wl:=by have b:=h.below c;exact⟨aH b.n_,aB b.n_ i_,aE b.n_⟩
def Mh(h:ud m D E)(x:bS):bX m.ts E x=(decide (tf (aP m.ts E).c_=0)&&(aP m.ts E).x_==x):=by grind[bX,tf,xS.tk,ud.Ce,aP,pD]
def AW(C:Ctx)(w:aL)(p:Nat)(x:ByteArray)(h:ud C w p):Wn Ww 198 #[aW C.pb,WD x] w λe i=>e=bP (Xc (bX C.ts p x.data.toList))/\ud C i (if bX C.ts p x.data.toList then p+1 else p)/\Fr C.pb w i:=by
 have o:=O (Mh h x.data.toList);have d:=O (pY C w p h);simp[sZ]at d;have q:Hid (bX C.ts p x.data.toList=Wm->p+1<aA C.ts):=λe=>h.all.ok.zj h.lt e;have g:Hid (((bs (aP C.ts p).x_).toList==x.toList)=((aP C.ts p).x_==x.data.toList)):=by show _=_;rw[bA,Lib.toList_data]
 have l:p<=3000:=by have:=h.lt;have:=h.len;exact Z
 have H:=O h;generalize bX C.ts p x.data.toList=f at*;generalize aP C.ts p=t at*;have ⟨c,te,li⟩:=t;simp only at o d g;generalize vk ⟨c,te,li⟩=v at*;go_in;go_wp;refine rB d λs k=>?_;obtain⟨A,z,y⟩:=H.cells k;have b:=O k;by_cases u:tf c=0
 .have r:((tf c:Int) !=0)=Wl:=G_;cases j:(te==x.data.toList)
  .have n:((bs te).toList==x.toList)=Wl:=by rw[g,j]
   have a:f=Wl:=by grind[dz]
   subst a;go_wp2;go_ret;exact⟨s_,H.below (b.alloc b.size _),Fr.below (b.alloc b.size _)⟩
  have n:((bs te).toList==x.toList)=Wm:=by rw[g,j]
  have a:f=Wm:=by grind[dz]
  subst a;go_wp2;go_ret;have m:=H.move b (p+1) (q trivial);exact⟨s_,qo,m.2.alloc _⟩
 have a:f=Wl:=by grind[dz]
 subst a;go_wp2;go_ret;exact⟨s_,H.below (b.alloc b.size _),Fr.below (b.alloc b.size _)⟩
def S9(C:Ctx)(w:aL)(p:Nat)(x:ByteArray)(h:ud C w p):Wn Ww 141 #[aW C.pb,Q_ x] w λe j=>Fr C.pb w j/\if bX C.ts p (dL x)then e=eV/\ud C j (p+1)else e=gE 4 (aP C.ts p).l_:=by
 have d:=O (AW C w p x h);cases c:bX C.ts p (dL x);.rw[c]at d;go_in;go_wp21;refine rB d λi ⟨a,b⟩=>?_;have k:=O (pY C i p a);simp [sZ]at k;have g:=O b;have m:=PQ;go_wp21;refine rB k λq f=>?_;have l:=O f;go_wp2_with (refine rB (kT 4 (aP C.ts p).l_ _) λn o=>?_);exact⟨i_,g.trans (Fr.below l),i_⟩
 go_in;go_wp;refine rB d λi ⟨a,b⟩=>?_;go_wp2;go_end0;grind
def Sb(t:bE):tf t.c_=1↔t.c_=110:=by grind[tf]
def Np(C:Ctx)(w:aL)(p:Nat)(h:ud C w p):Wn Ww 142 #[aW C.pb] w λe m=>Fr C.pb w m/\if (aP C.ts p).c_==110 then e=bP (W1 #[Y (aP C.ts p).l_,Q_ (bs (aP C.ts p).x_)])/\ud C m (p+1)else e=gE 4 (aP C.ts p).l_:=by
 have g:=O (λo=>pY C (w.alloc o) p (qo));simp only[sZ]at g;have y:Hid ((aP C.ts p).c_=110->p+1<aA C.ts):=λe=>h.all.ok.next p h.lt Z;have s:=O (Sb (aP C.ts p));have B:p<=3000:=by have:=h.lt;have:=h.len;exact Z
 have H:=O h;have hl0:=aH h.n_;have d:H_ w≠C.g:=by have:=h.zo;exact Z
 generalize aP C.ts p=t at*;obtain⟨c,r,j⟩:=t;simp only at g y s;simp only;generalize vk ⟨c,r,j⟩=L at*;generalize tf c=q at*;by_cases n:c=110
 .obtain rfl:q=1:=s.2 n;have k:=y n;rw[show (c==110)=Wm by grind];go_in;go_wp;refine rB (g _) λl b=>?_;have a:=((dw _ _).alloc kB _).trans (b.mono s_);obtain⟨G,A,z⟩:=H.cells a;obtain⟨x,F⟩:=wk b;have D:H_ w<H_ l:=by have:=b.size;simp at this;exact Z
  have f:=O a;have i:¬C.pb=H_ w:=Z;have u:¬(H_ w)=C.pb:=Z;go_wp2_with fail;have I:=H.move f (p+1) k;refine Wi (v:=W1 #[Y j,Q_ (bs r)]) (by simp[results,results142,go_sem,World.cell?_alloc_past,D,x]) rfl ?_;refine⟨(by grind[Fr.alloc,Fr.setCell]),rfl,?_⟩;exact((I.1.other Z d).other Z d).below ((dw _ _).alloc kB _)
 have J:((q:Int) !=1)=Wm:=by grind[dz]
 rw[show (c==110)=Wl by grind];go_in;go_wp;refine rB (g _) λl b=>?_;have a:=((dw _ _).alloc kB _).trans (b.mono s_);obtain⟨G,A,z⟩:=H.cells a;obtain⟨x,F⟩:=wk b;have f:=O a;have i:¬C.pb=H_ w:=Z;go_wp2_with (go_at_call 88;refine rB (kT 4 j _) λK E=>?_;obtain rfl:=E.symm);exact⟨i_,Fr.below (f.alloc f.size _),i_⟩
def xV(R:Wo->aC->Prop)(F:bI)(w:aL)(kv:aU)(ks:List aC):Prop:=(kv=bR/\ks=[])\/∃g cap cur vs,kv=.slice (Wj (aJ g 0)) (aA ks) cap/\F g/\w.heap[g]?=Wj (.cells cur 148)/\aA ks<=cap/\cur.toList.take (aA ks)=vs/\jW R vs ks
structure vg where
 v:Wo
 ks:List aC
 one:Bool
def tH(R:Wo->aC->Prop)(F:bI)(w:aL)(p:vg):Prop:=(p.one=Wm/\∃a,p.ks=[a]/\R p.v a)\/(p.one=Wl/\xV R F w p.v p.ks)
def Shape(T:Wr)(cs:Array Wo)(a:aC)(ps:List vg):Prop:=(T=366/\∃k,cs=#[Y a.l_,Y (k:Nat)]/\a.op=[48]/\dQ 0 a.x_=Wj k/\a.y_=[]/\ps=[])\/(T=395/\cs=#[Y a.l_,WD (bs a.x_)]/\a.op=[115]/\a.y_=[]/\ps=[])\/(T=397/\cs=#[Y a.l_,Xc (a.x_==[116,114,117,101])]/\a.op=[98,111,111,108]/\a.y_=[]/\ps=[])\/(T=347/\∃sv,cs=#[Y a.l_,sv]/\a.op=[108,105,115,116]/\ps=[⟨sv,a.y_,Wl⟩])\/(T=342/\∃sv,cs=#[Y a.l_,WD (bs a.x_),sv]/\a.op=[99,97,108,108]/\ps=[⟨sv,a.y_,Wl⟩])\/(T=345/\cs=#[Y a.l_,WD (bs a.x_)]/\a.op=[110,97,109,101]/\a.y_=[]/\ps=[])\/(T=349/\∃l v1 v2 a1 a2,cs=#[Y (l:Nat),v1,v2]/\a.op=[105,110,100,101,120]/\a.y_=[a1,a2]/\ps=[⟨v1,[a1],Wm⟩,⟨v2,[a2],Wm⟩])\/(T=351/\∃o v1 a1,cs=#[Y a.l_,WD (bs [o]),v1]/\(o=45\/o=33)/\a.op=[o,120]/\a.y_=[a1]/\ps=[⟨v1,[a1],Wm⟩])\/(T=353/\∃l v1 v2 a1 a2,cs=#[Y (l:Nat),WD (bs a.op),v1,v2]/\cR a.op≠9/\a.y_=[a1,a2]/\ps=[⟨v1,[a1],Wm⟩,⟨v2,[a2],Wm⟩])\/(T=330/\∃v1 t a1,cs=#[Y a.l_,Y t.l_,WD (bs t.x_),v1]/\a.op=[118,97,114]/\a.y_=[t,a1]/\ps=[⟨v1,[a1],Wm⟩])\/(T=333/\∃sv v1 l a1,cs=#[Y a.l_,WD (bs a.x_),sv,v1]/\a.op=[115,101,116]/\a.y_=l++[a1]/\ps=[⟨sv,l,Wl⟩,⟨v1,[a1],Wm⟩])\/(T=335/\∃v1 s1 a1 b1,cs=#[Y a.l_,v1,s1,bR]/\a.op=[105,102]/\b1.op=[98,108,111,99,107]/\a.y_=[a1,b1]/\ps=[⟨v1,[a1],Wm⟩,⟨s1,b1.y_,Wl⟩])\/(T=335/\∃v1 s1 s2 a1 b1 b2,cs=#[Y a.l_,v1,s1,s2]/\a.op=[105,102]/\b1.op=[98,108,111,99,107]/\b2.op=[98,108,111,99,107]/\a.y_=[a1,b1,b2]/\ps=[⟨v1,[a1],Wm⟩,⟨s1,b1.y_,Wl⟩,⟨s2,b2.y_,Wl⟩])\/(T=337/\∃v1 s1 a1 b1,cs=#[Y a.l_,v1,s1]/\a.op=[119,104,105,108,101]/\b1.op=[98,108,111,99,107]/\a.y_=[a1,b1]/\ps=[⟨v1,[a1],Wm⟩,⟨s1,b1.y_,Wl⟩])\/(T=339/\∃l,cs=#[Y a.l_,.iface 366 (W1 #[Y (l:Nat),Y 0])]/\a.op=[114,101,116,117,114,110]/\a.y_=[]/\ps=[])\/(T=339/\∃v1 a1,cs=#[Y a.l_,v1]/\a.op=[114,101,116,117,114,110]/\a.y_=[a1]/\ps=[⟨v1,[a1],Wm⟩])\/(T=340/\∃v1 a1,cs=#[Y a.l_,v1]/\a.op=[112,114,105,110,116]/\a.y_=[a1]/\ps=[⟨v1,[a1],Wm⟩])\/(T=342/\∃sv c,cs=#[Y c.l_,WD (bs c.x_),sv]/\a.op=[100,111]/\a.l_=c.l_/\a.x_=c.x_/\a.y_=[c]/\c.op=[99,97,108,108]/\ps=[⟨sv,c.y_,Wl⟩])
def ym:Nat->(Nat->Prop)->World->Wo->aC->Prop|0,_,_,_,_=>False|d+1,F,w,v,a=>∃T cs ps,v=.iface T (W1 cs)/\Shape T cs a ps/\∀p∈ps,tH (ym d F w) F w p
def PN(F:bI)(w:aL)(v:aU)(a:aC):Prop:=∃d,ym d F w v a
theorem xV.mono{R S:Wo->aC->Prop}{F:bI}{w:aL}{d:aU}{c:List aC}(h:xV R F w d c)(hR:∀v a,R v a->S v a)(hF:∀b,F b->G b):xV S G w d c:=by exact VA
theorem xV.j_{R:Wo->aC->Prop}{F:bI}{w w':aL}{d:List aC}(h:xV R F w H d)(n:∀b,F b->w'.heap[b]?=w.heap[b]?):xV R F w' H d:=by rcases h with h|⟨g,a,c,i,k,f,o,j,l,m⟩;exact ea h;exact dv ⟨g,a,c,i,k,f,G_,j,l,m⟩
def tH.mono{R S:Wo->aC->Prop}{F:bI}{w:aL}{p:vg}(h:tH R F w p)(c:∀v a,R v a->S v a)(d:∀b,F b->G b):tH S G w p:=by grind[xV.mono,tH]
def tH.j_{R:Wo->aC->Prop}{F:bI}{w w':aL}{p:vg}(h:tH R F w p)(a:∀b,F b->w'.heap[b]?=w.heap[b]?):tH R F w' p:=by grind[xV.j_,tH]
theorem ym.mono{F:bI}{w:aL}(c:∀b,F b->G b):∀{d e:Nat}{v a},ym d F w v a->d<=e->ym e G w v a|_+1,_+1,_,_,⟨T,k,g,l,j,m⟩,i=>⟨T,k,g,l,j,λp f=>(m p f).mono (λ_ _ h=>ym.mono c h Z) c⟩|0,_,_,_,h,_=>h.elim
def ym.j_{F:bI}{w w':aL}(c:∀b,F b->w'.heap[b]?=w.heap[b]?):∀{d:Nat}{v a},ym d F w v a->ym d F w' v a|_+1,_,_,⟨T,i,f,j,g,k⟩=>⟨T,i,f,j,g,λp e=>((k p e).mono (λ_ _ h=>ym.j_ c h) (s_)).j_ c⟩
theorem PN.mono{F:bI}{w:aL}{v:aU}{a:aC}(h:PN F w v a)(c:∀b,F b->G b):PN G w v a:=by have ⟨d,h⟩:=h;exact⟨d,h.mono c (Z)⟩
def PN.j_{F:bI}{w w':aL}{v:aU}{a:aC}(h:PN F w v a)(c:∀b,F b->w'.heap[b]?=w.heap[b]?):PN F w' v a:=by have ⟨d,h⟩:=h;exact⟨d,h.j_ c⟩
def PN.form(h:PN G D H I):∃T b,H=.iface T (W1 b):=by have ⟨d,h⟩:=h;cases d with|zero=>exact h.elim|succ d=>grind[ym]
def jW.Aq:∀{a b},jW (PN G D) a b->∃d,jW (ym d G D) a b|[],[],_=>⟨0,trivial⟩|_::_,_::_,⟨⟨d,f⟩,c⟩=>by obtain⟨e,g⟩:=jW.Aq c;exact⟨max d e,(by grind[ym.mono]),(by grind[jW.mono,ym.mono])⟩|[],_::_,h=>h.elim|_::_,[],h=>h.elim
def vg.ok(F:bI)(w:aL)(p:vg):Prop:=tH (PN F w) F w p
def vg.ok.depth{p:vg}(h:p.ok G D):∃d,tH (ym d G D) G D p:=by rcases h with ⟨c,a,i,d,j⟩|⟨c,h|⟨g,e,b,l,f,i,j,m,n,k⟩⟩;grind[tH];exact⟨0,dv ⟨c,ea h⟩⟩;have ⟨d,h7⟩:=k.Aq;exact⟨d,dv ⟨c,dv ⟨g,e,b,l,f,i,j,m,n,h7⟩⟩⟩
def vg.ok.all{F:bI}{w:aL}:∀{ps:List vg},(∀p∈ps,p.ok F w)->∃d,∀p∈ps,tH (ym d F w) F w p|[],_=>(by simp)|p::ps,h=>by obtain⟨d,c⟩:=(h p (s_)).depth;obtain⟨e,b⟩:=vg.ok.all (ps:=ps) λq a=>h q (jy _ a);refine⟨max d e,λq a=>?_⟩;rcases fe.1 a with rfl|a;exact c.mono ((by grind[ym.mono])) (s_);exact(b q a).mono ((by grind[ym.mono])) (s_)
def PN.mk{T:Wr}{c:Array Wo}{b:List vg}(h:Shape T c I b)(e:∀p∈b,p.ok G D):PN G D (dA T (W1 c)) I:=by have ⟨d,hd⟩:=vg.ok.all e;exact⟨d+1,T,c,b,i_,h,hd⟩
def vg.ok.node(h:PN G D H I):vg.ok G D ⟨H,[I],Wm⟩:=ea G_
def sy(F:bI)(w:aL)(kv:aU)(ks:List aC):Prop:=xV (PN F w) F w kv ks
theorem vg.ok.list{l:List aC}(h:sy G D H l):vg.ok G D ⟨H,l,Wl⟩:=dv ⟨rfl,h⟩
theorem sy.j_{F:bI}{w w':aL}{d:aU}(h:sy F w d C)(a:∀b,F b->w'.heap[b]?=w.heap[b]?)(e:∀b,F b->G b):sy G w' d C:=(xV.mono h (λ_ _ h=>(h.j_ a).mono e) (s_)).j_ a |>.mono (s_) e
def PN.grow{lo lo' hi':Nat}{d:aL}{a:aC}(h:PN (si lo E) D H a)(f:∀k,lo<=k->k<E->d.heap[k]?=D.heap[k]?)(i:lo'<=lo)(g:E<=hi'):PN (si lo' hi') d H a:=(h.j_ λb e=>f b e.1 e.2).mono qi
theorem sy.grow{lo a lo' hi':Nat}(h:sy (si lo a) D H C)(c:∀k,lo<=k->k<a->K.heap[k]?=D.heap[k]?)(e:lo'<=lo)(d:a<=hi'):sy (si lo' hi') K H C:=(by grind[sy.j_,si])
def Lk:(prog.info? 148).map (λi=>(i.zero,i.size,i.bytes))=Wj (Wj .nilIface,1,16):=k_
def vr(b_:Nat)(w:aL)(v:aU)(acc:List aC):Prop:=∃vs F,w.ownsRow b_ 148 1 v (aA acc) vs/\jW (PN F w) vs acc/\∀b,F b->b_<=b/\b<w.heap.size/\v.ownBlock≠Wj b
theorem vr.nil(a:Nat)(w:aL):vr a w (bR) []:=⟨[],λ_=>False,World.ownsRow_nil _ _ _ _,trivial,s_⟩
def vr.slice{b:Nat}{w:aL}{v:aU}(h:vr b w v C):∃x c,v=.slice x (aA C) c:=by have ⟨vs,F,h1,_⟩:=h;rcases h1.2 with ⟨e,i⟩|⟨g,f,d,e,_⟩;grind;grind
theorem vr.j_{a d:Nat}{w:aL}{v:aU}{b:List aC}(h:vr a w v b)(hf:Fr d w D)(e:d<a):vr a D v b:=by exact Y8
def vr.snoc{b_ lo:Nat}{j:aL}{l:aU}{m:List Wo}(r:jW (PN G D) m C)(B:∀b,G b->b_<=b/\b<H_ D/\H.ownBlock≠Wj b) (z:PN (si lo (H_ D)) D l I) (A:b_<=lo) (q:∀k,H.ownBlock=Wj k->k<lo) (y:∀k,k<H_ D->K.heap[k]?=D.heap[k]?) (x:H_ D<=H_ K) (p:j.ownsRow b_ 148 1 (P_ (Wj (aJ E 0)) (aA C+1) J) (aA C+1) (m++[l])) (f:K.grownBy j H.ownBlock) (t:H.ownBlock=Wj E\/H_ D<=E):vr b_ j (P_ (Wj (aJ E 0)) (aA C+1) J) (C++[I]):=by
 have u:∀b,(G b\/si lo (H_ D) b)->b_<=b/\b<H_ D/\H.ownBlock≠Wj b:=by grind[si]
 have d:∀b,(G b\/si lo (H_ D) b)->j.heap[b]?=D.heap[b]?:=(by grind[World.grownBy.block]);refine⟨m++[l],λb=>G b\/si lo (H_ D) b,?_,?_,?_⟩;grind;exact jW.snoc (r.mono λ_ _ h=>(h.mono (G_)).j_ d) ((z.mono (G_)).j_ d);intro b s;have n:=u b s;have:=f.size;refine⟨n.1,Z,λe=>?_⟩;have e':=fm e;grind
def vr.uu(h:vr E D H C):sy (si E (H_ D)) D H C:=by have ⟨vs,F,h1,h2,h3⟩:=h;rcases h1.2 with ⟨f,e⟩|⟨g,d,c,f,e,j,i,m,k,l⟩;exact ea G_;exact dv ⟨g,d,c,vs,f,⟨e,G_⟩,j,i,G_,(by grind[jW.mono,PN.mono,si])⟩
def ud.grown{a:Option Nat}{b_:Nat}(h:ud m D E)(f:D.grownBy K a)(e:∀k,a=Wj k->b_<=k)(d:m.pb<b_)(c:m.g<b_):ud m K E:=(by grind[ud.j_,World.grownBy.block,ud.vz,ud.zo])
def Out{α:Type}(C:Ctx)(w:aL)(r:bN α)(P:World->Wo->α->Prop)(e:Ending)(w':aL):Prop:=Fr C.pb w w'/\match r with|.ok (a,q)=>ud C w' q/\∃v,e=bP v/\P w' v a|.error l=>e=gE 4 l
def DF(C:Ctx)(w:aL)(r:bN aC)(e:Ending)(w':aL):Prop:=Out C w r (λw' v a=>PN (si w.heap.size w'.heap.size) w' v a) e w'
def sm(C:Ctx)(F:Nat)(X:Nat->bN aC):Prop:=∀w p,ud C w p->X p≠.error 0->Wn Ww F #[aW C.pb] w (DF C w (X p))
def tU(ts:List bE)(p:Nat)(l:cU):bS:=(l.find? λx=>bX ts p x).getD []
def PR(C:Ctx)(w:aL)(p:Nat)(l:cU)(g v:Nat)(P:g<H_ w)(aa:g≠C.pb)(hl:aA l<=100)(n:∀x∈l,x≠[])(L:∀i (hi:i<aA l),eJ w g i (Q_ (bs l[i])))(h:ud C w p):Wn Ww 277 #[aW C.pb,P_ (Wj (aJ g 0)) (aA l) v] w λe F=>e=bP (Q_ (bs (tU C.ts p l)))/\ud C F (if tU C.ts p l=[]then p else p+1)/\Fr C.pb w F:=by
 have HC:=O L;have H:=O h;have T:=O n;clear L h n;generalize f:(if tU C.ts p l=[]then p else p+1)=I;generalize s:tU C.ts p l=K at*;have HQ:=O f;have W:=O s;clear f s;go_in;go_wp2;go_loopg [6,9] (aA l) (λgk m i wr=>∃k:Nat,k+gk=aA l/\i=Y k/\Fr C.pb w wr/\ud C wr p/\Hid (∀x∈l.take k,bX C.ts p x=Wl));case atStart=>exact⟨0,Z,rfl,Fr.refl _ _,H,λx hx=>by simp at hx⟩
 case round=>
  obtain⟨k,Q,rfl,a,b,D⟩:=hrel;by_cases N:k<aA l
  .obtain⟨j,rfl⟩:∃j,gk=j+1:=⟨gk-1,Z⟩;have A:eJ wr g k (Q_ (bs l[k])):=(by grind[iO,Fr.block,dz]);have V:=ef P a.size;have t:=O (AW C wr p (bs l[k]) b);have E:(bs l[k]).data.toList=l[k]:=by simp[bs]
   rw[E]at t;have J:Hid (l=l.take k++l[k]::l.drop (k+1)):=by show _=_;simp
   have G:Hid (∀y∈l.take (k+1),y∈l.take k\/y=l[k]):=λy hy=>by grind[List.take_succ_eq_append_getElem]
   have q:l[k]≠[]:=(by grind[dz]);have X:=O q;have u:=O a;clear b a E q;generalize l[k]=y at*;cases c:bX C.ts p y
   .rw[c]at t;have U:Hid (∀z∈l.take (k+1),bX C.ts p z=Wl):=λz hz=>by grind[dz]
    clear D G J c;go_wp;refine rB t λM ⟨o,r⟩=>?_;go_wp2;go_roundg j;case measure=>exact Z
    grind[Fr.trans,dz]
   rw[c]at t;have B:Hid (K=y):=by grind[dz,tU]
   clear D G J c;go_wp;refine rB t λM ⟨o,r⟩=>?_;go_wp2;go_ret;have d:I=p+1:=by grind[dz]
   rw[B,d];exact⟨i_,o,u.trans r⟩
  have B:Hid (K=[]):=by grind[dz,tU,List.take_of_length_le]
  have u:=O a;have S:=O b;clear D a b;go_wp2;go_ret;have d:I=p:=by grind[dz]
  rw[B,d];exact⟨i_,S,u⟩
def R6(c:UInt8)(w:aL):Wn Ww 191 #[.int .u8 c.toNat] w λe a=>e=bP (Xc (fT c))/\a=w:=by have d:=mQ c;have b:=O (PT c);go_in;go_wp2;all_goals go_ret;exact⟨gP (by rw[b]),rfl⟩
def AN(c:UInt8)(w:aL):Wn Ww 194 #[.int .u8 c.toNat] w λe a=>e=bP (Xc (dM c))/\a=w:=by have d:=mQ c;have b:Hid (dM c=(decide (48<=c.toNat)&&decide (c.toNat<=57))):=rfl;go_in;go_wp2;all_goals go_ret;exact⟨gP lu,rfl⟩
def FL(c:UInt8)(w:aL):Wn Ww 192 #[.int .u8 c.toNat] w λe a=>e=bP (Xc (eG c))/\a=w:=by have d:=mQ c;have b:Hid (eG c=(c.toNat==95||(decide (97<=c.toNat)&&decide (c.toNat<=122)||decide (65<=c.toNat)&&decide (c.toNat<=90)))):=rfl;go_in;go_wp2;all_goals go_ret;exact⟨gP lu,rfl⟩
def Ll(c:UInt8)(w:aL):Wn Ww 240 #[.int .u8 c.toNat] w λe f=>e=bP (Xc (dI Wm c))/\f=w:=by
 have b:Hid (dI Wm c=(eG c||dM c)):=by show _=_;unfold dI;rw[Bool.true_and,Bool.or_comm]
 have i:=O (FL c);have k:=O (AN c);generalize dI Wm c=r at*;generalize eG c=j at*;generalize dM c=g at*;have h:=b.out;subst h;clear b;cases j<;>cases g;all_goals go_in;go_wp2_with (first|(go_at_call 192;refine rB (i _) λd a=>?_;obtain rfl:=a.symm)|(go_at_call 194;refine rB (k _) λd a=>?_;obtain rfl:=a.symm));go_ret;exact⟨i_,i_⟩
def TH(c:UInt8)(w:aL):Wn Ww 244 #[.int .u8 c.toNat] w λe a=>e=bP (Xc (iI c))/\a=w:=by have d:=mQ c;have b:Hid (iI c=(c.toNat !=34&&c.toNat !=10)):=rfl;go_in;go_wp2;all_goals go_ret;exact⟨gP lu,rfl⟩
def BL(P:UInt8->Bool)(F:Nat)(r:∀a w,Sem.run Ww (callFunc F a) w=.ok (.enter F a) w)(o:∀c w,Wn Ww F #[.int .u8 (UInt8.toNat c)] w λe k=>e=bP (Xc (P c))/\k=w)(s:ByteArray)(w:aL)(t:s.size<=2000000000):Wn Ww 190 #[WD s,.func (.func F) #[] #[]] w λe k=>e=bP (Y (bO P s.data.toList))/\k=w:=by
 have n:=O o;clear o;go_in;go_wp2;go_loop [5] (λi=>∃j:Nat,j<=s.size/\i=Y j/\Hid (bO P s.data.toList=j+bO P (s.data.toList.drop j))) (λi=>s.size-(intOf i).toNat);case atStart=>exact⟨0,Nat.zero_le _,i_,by show _=_;simp⟩
 case round=>
  obtain⟨j,u,rfl,b⟩:=hrel;by_cases g:j<s.size
  .have q:=mQ s[j];rw[gH s j g]at b;have f:=O (n s[j]);cases d:P s[j];.rw[JH _ _ _ d]at b;rw[d]at f;clear d;go_wp2_with (refine rB (f _) λp l=>?_;obtain rfl:=l.symm);go_ret;exact⟨oD (by have:=b.out;exact Z),rfl⟩
   rw[pV _ _ _ d]at b;rw[d]at f;clear d;have m:Hid (bO P s.data.toList=j+1+bO P (s.data.toList.drop (j+1))):=by show _=_;rw[b];exact Z
   go_wp2_with (refine rB (f _) λp l=>?_;obtain rfl:=l.symm);go_round;case rel=>exact⟨j+1,Z,lj,m⟩
   case measure=>simp[intOf];exact Z
  rw[gr (by simpa using (by omega:s.size<=j))]at b;go_wp2;go_ret;exact⟨oD (by have:=b.out;simp[bO]at this;exact Z),rfl⟩
def YE(x:bS)(w:aL):Wn Ww 242 #[Q_ (bs x)] w λe a=>e=bP (Xc (fK.contains x))/\a=w:=by
 have c:=bA x;have b:Hid (fK.contains x=(x==[102,117,110,99]||(x==[118,97,114]||(x==[105,102]||(x==[101,108,115,101]||(x==[119,104,105,108,101]||(x==[114,101,116,117,114,110]||(x==[112,114,105,110,116]||(x==[116,114,117,101]||x==[102,97,108,115,101]))))))))):=by show _=_;rw[jh];simp[fK]
 go_in;go_wp2;all_goals go_ret;exact⟨gP (by rw[b];first|done|simp_all),rfl⟩
def WV(s x:ByteArray)(w:aL)(_hs:s.size<=2000000000)(_hx:x.size<=100):Wn Ww 238 #[Q_ s,Q_ x] w λe b=>e=bP (Xc (eF (dL s) (dL x)))/\b=w:=by
 by_cases h:x.size<=s.size
 .have a:Hid (eF (dL s) (dL x)=((s.extract 0 x.size).toList==x.toList)):=by unfold eF Hid;rw[oF _ _ qg,Lib.extract_toList,Lib.toList_data];congr 3
  go_wp2;go_ret;exact⟨gP (by rw[a]),rfl⟩
 have a:Hid (eF (dL s) (dL x)=Wl):=by exact vR _ _ ku
 go_wp2;go_ret;exact⟨gP (by rw[a]),rfl⟩
def JU(s x:ByteArray)(w:aL)(b:s.size<=2000000000)(c:x.size<=100):Wn Ww 189 #[WD s,WD x] w λe a=>e=bP (Xc (eF s.data.toList x.data.toList))/\a=w:=by have H:=O (WV s x w b c);go_in;go_wp;refine rB H λf d=>?_;go_wp2;go_ret;simp
theorem sH(s:ByteArray)(k:Nat):(s.extract k s.size).data.toList=s.data.toList.drop k:=by rw[sG,kH];exact ij s_
def SC(sb:Nat)(src:ByteArray)(n l:Nat)(w:aL):Prop:=w.heap[sb]?=Wj (.cells #[WD src,Y n,Y l] 253)
def SC.cells{a:Nat}{b:ByteArray}{n:Nat}{w:aL}(h:SC a b n E w):a<w.heap.size/\w.cell? (aJ a 0)=Wj (WD b)/\w.cell? (aJ a 1)=Wj (Y n)/\w.cell? (aJ a 2)=Wj (Y E)/\w.frozen? (aJ a 1)=Wl/\w.frozen? (aJ a 2)=Wl:=(by grind[aB,aE,SC])
def SC.move(h:SC E a J l D)(m:Nat):SC E a m l (c9 D (aJ E 1) (Y m)):=by unfold SC;rw[aN h];rfl
def SC.down(h:SC E a J l D)(m:Nat):SC E a J m (c9 D (aJ E 2) (Y m)):=by unfold SC;rw[aN h];rfl
def SC.drewN(h:SC E a J l D)(m:Nat):SC E a J l (D.drewN m):=h
def yA(b:Nat)(a:ByteArray)(n l:Nat)(w:aL)(h:SC b a n l w):Wn Ww 241 #[aW b] w λe c=>e=gE 3 l/\c=w:=by have ⟨h0,c0,c1,c2,f1,f2⟩:=h.cells;go_in;go_wp2_with (refine rB (kT 3 l _) λf d=>?_);exact⟨i_,i_,i_⟩
def tS(b:Nat)(a:ByteArray)(n l m:Nat)(w:aL)(h:SC b a n l w)(g:a.size<=2000000000)(f:n+m<=a.size):Wn Ww 239 #[aW b,Y m] w λe c=>e=bP (Q_ (bs (((dL a).drop n).take m)))/\SC b a (n+m) l c/\Fr b w c:=by
 have ⟨h0,c0,c1,c2,f1,f2⟩:=h.cells;have H:=O h;have d:Hid (a.extract n (n+m)=bs (((dL a).drop n).take m)):=by grind[sG]
 go_in;go_wp;go_quiet (fail);go_wp2;go_ret;refine⟨by rw[<-d];rfl,?_,?_⟩;exact(H.drewN _).move _;grind[Fr.setCell,Fr.drewN,Fr.refl]
def XX(l:bS)(k:Nat):bD (l.take (k+bO fT (l.drop k)))=bD (l.take k):=by grind[fT,List.count_eq_zero,lR,bD]
def QC(s:ByteArray)(k:Nat)(h:k<s.size):bD (s.data.toList.take (k+1))=bD (s.data.toList.take k)+if s[k]=10 then 1 else 0:=by grind[OS,bD]
def WG(m:Nat)(a:ByteArray)(n:Nat)(w:aL)(h:SC m a n (bD ((dL a).take n)) w)(hs:a.size<=2000000000)(N:n<=a.size):Wn Ww 139 #[aW m] w λe B=>e=eV/\SC m a (n+cJ a.size ((dL a).drop n)) (bD ((dL a).take (n+cJ a.size ((dL a).drop n)))) B/\Fr m w B:=by
 have H:=O h;go_in;go_wp2;go_loopg [2] a.size (λgk _ wr=>∃k f:Nat,k<=a.size/\a.size<=k+f/\a.size<=k+gk/\SC m a k (bD ((dL a).take k)) wr/\Fr m w wr/\Hid (n+cJ a.size ((dL a).drop n)=k+cJ f ((dL a).drop k)));case atStart=>exact⟨n,a.size,N,Z,Z,H,Fr.refl _ _,rfl⟩
 case round=>
  obtain⟨k,f,W,hf,G,t,x,l⟩:=hrel;obtain⟨V,c0,c1,I,X,f2⟩:=t.cells;have c:=O t;have q:=O x;by_cases d:k<a.size
  .have hb:=mQ a[k];obtain⟨f,rfl⟩:∃M,f=M+1:=⟨f-1,Z⟩;obtain⟨j,rfl⟩:∃j,gk=j+1:=⟨gk-1,Z⟩;rw[gH a k d]at l;have K:bD ((dL a).take k)<=k+1:=by have:=BX ((dL a).take k);have:=List.length_take_le k (dL a);exact Z
   have Q:(a.extract k a.size).size=a.size-k:=s_;have E:(a.extract k a.size)[0]=a[k]:=by simp[ByteArray.getElem_extract]
   have p:=O (QC a k d);by_cases i:a[k].toNat=32\/a[k].toNat=9\/a[k].toNat=10
   .rw[CX _ _ _ i]at l;have u:Hid (n+cJ a.size ((dL a).drop n)=k+1+cJ f ((dL a).drop (k+1))):=by rw[l];show _=_;exact Z
    by_cases F:a[k].toNat=10
    .have J:((a[k].toNat:Int))=10:=Z;have y:Hid (bD ((dL a).take (k+1))=bD ((dL a).take k)+1):=by show _=_;rw[p,ec (by rw[Em];exact J)]
     generalize bD ((dL a).take k)=L at*;go_wp21;go_quiet (fail);go_wp;go_quiet (fail);go_wp2;go_roundg j;case measure=>exact Z
     case rel=>refine⟨k+1,f,Z,Z,Z,?_,?_,u⟩;rw[y];exact((c.drewN _).down _).move _;grind[Fr.setCell,Fr.drewN]
    have y:Hid (bD ((dL a).take (k+1))=bD ((dL a).take k)):=by rw[p,dy (by rw[Em];show ¬((a[k].toNat:Int)=10);exact Z)];rfl
    have h1:((a[k].toNat:Int)==10)=Wl:=by simp;exact Z
    have v:a[k].toNat=32\/a[k].toNat=9:=Z;generalize bD ((dL a).take k)=L at*;rcases v with i|i;all_goals
     go_wp;go_quiet (fail);go_wp;go_quiet (fail);go_wp2;go_roundg j;case measure=>exact Z
     case rel=>refine⟨k+1,f,Z,Z,Z,?_,?_,u⟩;rw[y];exact(c.drewN _).move _;grind[Fr.setCell,Fr.drewN]
   have U:((a[k].toNat:Int)==9)=Wl:=by simp;exact Z
   have g:=O (λw=>JU (a.extract k a.size) ⟨#[47,47]⟩ w Z d_);rw[sH,show (⟨#[47,47]⟩:ByteArray).data.toList=[47,47]from rfl]at g;cases b:eF (a[k]::(dL a).drop (k+1)) [47,47];.rw[GE _ _ _ i b]at l;rw[<-gH a k d]at b;rw[b]at g;have z:=l;have r:Hid (∀nq:Nat,SC m a k (bD ((dL a).take k)) (wr.drewN nq)):=λnq=>c.drewN nq;generalize hL:bD ((dL a).take k)=L at c I K;go_wp;go_quiet (fail);go_wp;go_quiet (fail);go_wp;refine rB (g _) λD i=>?_;obtain rfl:=i.symm;go_wp21;(try simp only[Exit.inBlock,Exit.then]);refine Wi (results_none i_ _ _ _) i_ ?_;rw[z];exact⟨i_,r _,q.drewN _⟩
   rw[zU _ _ _ i b]at l;have T:Hid (1<=bO fT ((dL a).drop k)):=by rw[gH a k d,pV _ _ _ (by unfold fT;simp;exact Z)];show _<=_;exact Z
   rw[<-gH a k d]at b l;rw[jr]at l;rw[b]at g;have s:=O (λw=>BL fT 191 (s_) R6 (a.extract k a.size) w Z);rw[sH]at s;have S:bO fT ((dL a).drop k)<=a.size-k:=by have:=oO fT ((dL a).drop k);simpa using this
   have A:=O (XX (dL a) k);have C:=T.out;generalize P:bO fT ((dL a).drop k)=o at*;have HL2:=A;generalize bD ((dL a).take k)=L at*;have u:Hid (n+cJ a.size ((dL a).drop n)=(k+o)+cJ f ((dL a).drop (k+o))):=by show _=_;rw[l];exact Z
   go_wp;go_quiet (fail);go_wp;go_quiet (fail);go_wp;refine rB (g _) λD i=>?_;obtain rfl:=i.symm;go_wp2;go_region_law (go_simp;go_at_call 190;refine rB (s _) λw2 i=>?_;obtain rfl:=i.symm);all_goals
    go_wp2;go_roundg j;case measure=>exact Z
    case rel=>
     refine⟨k+o,f,Z,Z,Z,?_,?_,u⟩;have e:Value.int .i64 (IntKind.i64.wrap ((k:Int)+(o:Int)))=Y ((k+o:Nat):Int):=by rw[IntWalk.i64_in _ Z];rfl
     rw[HL2,e];exact(c.drewN _).move _;grind[Fr.setCell,Fr.drewN]
  have z:Hid (n+cJ a.size ((dL a).drop n)=k):=by rw[l,gr (by simpa using (by omega:a.size<=k)),LP];rfl
  go_wp;go_quiet (fail);go_wp2;go_end0;rw[z];exact⟨i_,c,q.drewN _⟩
def Fr.xp{o:Obj}(d:Fr E D K)(h:D.heap[J]?=Wj o)(e:J≠E):K.heap[J]?=Wj o:=by grind[Fr.block]
def Dg(sb:Nat)(src:ByteArray)(n L:Nat)(w:aL)(r:rG)(e:Ending)(w':aL):Prop:=Fr sb w w'/\((r.ok=Wm/\e=bP (sZ ⟨r.c_,r.x_,L⟩)/\SC sb src (n+r.size) L w')\/(r.ok=Wl/\e=gE 3 L))
def uK{L:Nat}(h:Fr E D K)(j:SC E a l L K)(i:H_ D<=J)(k:J≠E)(g f e d:aU):Fr E D (c9 (c9 (c9 (c9 K (aJ J 0) g) (aJ J 1) f) (aJ J 2) e) (aJ J 3) d)/\SC E a l L (c9 (c9 (c9 (c9 K (aJ J 0) g) (aJ J 1) f) (aJ J 2) e) (aJ J 3) d):=by grind[Fr.setCell,SC,eh]
def yB(a:ByteArray)(n:Nat):(a.extract n a.size).size=a.size-n:=s_
def UV{Z_:Prop}(Y_:Z_:=by go_region_law (first|(go_simp;go_at_call 190;refine rB (HSP _) λw1 hw=>?_;obtain rfl:=hw.symm)|(go_simp;go_at_call 239;refine rB HTK λw2 ⟨hs2,hf2⟩=>?_;have HS2:=O hs2;have HF2:=O (HF0.drew.trans hf2);have HZ2:=O (hf2.xp HZD hrb);clear hs2 hf2));all_goals go_wp2_with fail;go_meet;grind[dz]):Z_:=Y_
def Qk(j:Nat)(a:ByteArray)(n L:Nat)(w:aL)(h:SC j a n L w)(N:a.size<=2000000000)(V:n<=a.size):Wn Ww 193 #[aW j] w (Dg j a n L w (iX ((dL a).drop n) Wm)):=by
 obtain⟨e,m⟩:∃e,e=bO (dI Wm) ((dL a).drop n):=(by simp);have P:e<=a.size-n:=by have:=oO (dI Wm) ((dL a).drop n);rw[m];simpa using this
 have K:=(SC.cells h).1;have hrb:H_ w≠j:=Z;have H:Hid ((dZ w #[Y 0,Q_ ⟨#[]⟩,Y 0,Y 0] 175).heap[H_ w]?=Wj (bM #[Y 0,Q_ ⟨#[]⟩,Y 0,Y 0] 175)):=aS _ _ i_ _;have r:SC j a n L (dZ w #[Y 0,Q_ ⟨#[]⟩,Y 0,Y 0] 175):=by grind[SC,ed]
 obtain⟨t,I,A,C,u,G⟩:=r.cells;have HZD:=H.out;have HSP:=O (λw=>BL (dI Wm) 240 (s_) Ll (a.extract n a.size) w qu);rw[sH,<-m]at HSP;have HTK:=O (tS j a n L e (dZ w #[Y 0,Q_ ⟨#[]⟩,Y 0,Y 0] 175).drew r N Z);have l:=O (YE (((dL a).drop n).take e));have ⟨f,htx⟩:∃f,f=((dL a).drop n).take e:=(by simp);rw[<-htx]at HTK l;have z:(bs f).size=e:=by rw[iU,htx,ia];simp;exact Z
 have E:Hid (iX ((dL a).drop n) Wm={c_:=if fK.contains f then 107 else 110,x_:=f,size:=e,ok:=decide (e<=16)}):=by grind[iX]
 rw[E];have U:=O r;have HF0:Hid (Fr j w (dZ w #[Y 0,Q_ ⟨#[]⟩,Y 0,Y 0] 175)):=(Fr.refl _ _).alloc _;clear h r m htx E;have ⟨o,hkw⟩:∃o,o=fK.contains f:=(by simp);rw[<-hkw]at l⊢;clear hkw;have ⟨q,g⟩:∃q,q=(if o then 107 else 110):=(by simp);rw[show (if o=Wm then 107 else 110)=q from g.symm];have p:=O g;clear g;have ⟨B,d⟩:∃B:rG,B={c_:=q,x_:=f,size:=e,ok:=decide (e<=16)}:=(by simp);rw[<-d];have k:=O d;clear d;go_in;go_wp2;go_cut [3] (λv wc=>v=Q_ (bs f)/\SC j a (n+e) L wc/\Fr j w wc/\wc.heap[H_ w]?=Wj (bM #[Y 0,Q_ ⟨#[]⟩,Y 0,Y 0] 175));case first=>exact UV
 case rest=>
  obtain⟨rfl,hs2,hf2,b⟩:=hcut;clear I A C u G t;obtain⟨t,I,A,C,u,G⟩:=hs2.cells;have HS2:=O hs2;have HF2:=O hf2;have HZ2:=O b;have F:=aB b (i:=0) i_;have y:=aB b (i:=1) i_;have x:=aB b (i:=2) i_;have D:=aB b (i:=3) i_;have W:=aE (i:=0) b;have S:=aE (i:=1) b;have X:=aE (i:=2) b;have T:=aE (i:=3) b;have Q:=aH b;clear hs2 hf2 b HTK HSP H;by_cases M:e<=16;.cases o;all_goals have g:=p.out;clear p;subst g;have d:=k.out;clear k;subst d;go_wp;refine rB (l _) λJ hw=>?_;obtain rfl:=hw.symm;go_wp2_with fail;first|(refine Wi (v:=W1 #[Y 1,WD (bs f),Y 0,Y L]) (by simp[results,results193,go_sem,F,y,x,D]) rfl ?_;have c:=uK HF2 HS2 kB hrb (Y 1) (Q_ (bs f)) (Y 0) (Y L);exact⟨c.1,ea ⟨s_,rfl,c.2⟩⟩)|(refine Wi (v:=W1 #[Y 0,WD (bs f),Y 0,Y L]) (by simp[results,results193,go_sem,F,y,x,D]) rfl ?_;have c:=uK HF2 HS2 kB hrb (Y 0) (Q_ (bs f)) (Y 0) (Y L);exact⟨c.1,ea ⟨G_,rfl,c.2⟩⟩)
  have d:=k.out;clear k;subst d;have s:=O (yA j a (n+e) L wc HS2);go_wp2_with fail;refine rB s λJ hw=>?_;obtain rfl:=hw.symm;go_wp2_with fail;exact⟨i_,HF2,s_⟩
