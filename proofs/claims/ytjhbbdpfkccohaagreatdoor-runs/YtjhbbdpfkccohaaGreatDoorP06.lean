import Derived.Test.YtjhbbdpfkccohaaGreatDoorP02
set_option linter.all false
set_option maxRecDepth 100000
set_option maxHeartbeats 4000000
open List renaming length->Ty
open Go.World renaming setCell->Tz
open Option renaming some->Ua
open Bool renaming false->Uc,true->Ud
open Go renaming Calls->Ue,Value->Uf
open Go.Value renaming string->Ur,agg->Us,bool->Uw
namespace Go.Proofs.YtjhbbdpfkccohaaGreatDoor
open Hs
open _root_.Go.Proofs.Tryz
open Go.RowKit
variable{a:ByteArray}{m:Ctx}{H:List aC}{D J l:Nat}{q:Uf->aC->Prop}{G:aC}{E K:aN}{I:aW}{C:bN}
def sf(s:Nat):Nat:=if s=110 then 1 else if s=48 then 2 else if s=115 then 3 else if s=101 then 4 else 0
def ug(t:bH):Nat:=if t.c_=48 then (dS 0 t.x_).getD 0 else 0
def Aa(t:bH):List Uf:=[I_ (sf t.c_),Ur (bs t.x_),I_ (ug t),I_ t.l_]
def th:List bH->List Uf
 |[]=>[]
 |t::ts=>Aa t++th ts
def IS(a:List bH)(t:bH):th (a++[t])=th a++Aa t:=by
 induction a with
 |nil=>simp[th]
 |cons x a b=>simp[th,b]
structure sr(C:Ctx)(w:aN)(p:Nat):Prop where
 i_:w.heap[C.pb]?=Ua (.cells #[.slice (Ua (aL C.g 0)) (Ty C.ts) C.cap,I_ p] 100)
 row:∃cur,w.heap[C.g]?=Ua (.cells cur 174)/\cur.toList.take (Ty C.ts*4)=th C.ts
 ne:C.g≠C.pb
 lt:p<Ty C.ts
 len:Ty C.ts<=3000
 cap:Ty C.ts<=C.cap
 all:qO C.ts
 Bn:xI C.ts
def z7(a:List bH)(p:Nat)(h:p<Ty a):(th a)[p*4]?=Ua (I_ (sf (aS a p).c_))/\(th a)[p*4+1]?=Ua (Q_ (bs (aS a p).x_))/\(th a)[p*4+1+1]?=Ua (I_ (ug (aS a p)))/\(th a)[p*4+1+1+1]?=Ua (I_ (aS a p).l_):=by
 induction a generalizing p with
 |nil=>simp at h
 |cons t a b=>
  cases p with
  |zero=>simp[th,Aa,aS]
  |succ p=>
   grind [th,Aa,aS]
def sr.tok(h:sr m E D):dP E m.g (D*4) (I_ (sf (aS m.ts D).c_))/\dP E m.g (D*4+1) (Q_ (bs (aS m.ts D).x_))/\dP E m.g (D*4+1+1) (I_ (ug (aS m.ts D)))/\dP E m.g (D*4+1+1+1) (I_ (aS m.ts D).l_):=by obtain⟨a,f,e⟩:=h.row;obtain⟨g,d,b,c⟩:=z7 m.ts D h.lt;grind [aA]
theorem sr.h_{w w':aN}(h:sr m w D)(b:w'.heap[m.pb]?=w.heap[m.pb]?)(d:w'.heap[m.g]?=w.heap[m.g]?):sr m w' D:=by obtain⟨a,e,c⟩:=h.row;exact⟨by rw[b];exact h.i_,G_,h.ne,h.lt,h.len,h.cap,h.all,h.Bn⟩
theorem sr.below{a:aN}(h:sr m E D)(b:R_ E a):sr m a D:=by obtain⟨c,e,d⟩:=h.row;exact h.h_ (b.block _ (aH h.i_)) (b.block _ (G_))
theorem sr.other{b:Nat}(h:sr m E D)(c:b≠m.pb)(a:b≠m.g):sr m (Tz E (aL b J) I) D:=
 (by grind [sr.h_,em])
theorem sr.xt(h:sr m E D):m.g<H_ E:=by grind [sr.row]
theorem sr.vd(h:sr m E D):m.pb<H_ E:=aH h.i_
def sr.alloc{w:aN}(h:sr m w D)(o:Obj):sr m (w.alloc o) D:=(by grind [sr.below,ep,dz])
def sr.drew(h:sr m E D):sr m E.drew D:=h.below (dz _ _).drew
def tI(t:bH):Uf:=Us #[I_ (sf t.c_),Ur (bs t.x_),I_ (ug t),I_ t.l_]
def I4(i g f p n:Nat)(w:aN)(a c d:Int)(b:ByteArray)(s:p<n)(_hn:n<=3000)(_hnc:n<=f)(j:i<H_ w)(l:g<H_ w)
 (u:dP w i 0 (P_ (Ua (aL g 0)) n f)) (q:dP w i 1 (I_ p))
 (r:dP w g (p*4) (I_ a)) (t:dP w g (p*4+1) (Q_ b)) (m:dP w g (p*4+1+1) (I_ c)) (o:dP w g (p*4+1+1+1) (I_ d)):
  Ue prog 85 #[bF i] w λe k=>e=bY (Us #[I_ a,Q_ b,I_ c,I_ d])/\R_ w k:=by
 go_in
 go_wp2
 go_region
 go_wp2
 refine bodyPost_ret (v:=Us #[I_ a,Q_ b,I_ c,I_ d]) (by simp[results,results85,go_sem]) rfl ⟨rfl,?_⟩
 grind [Below.drew,ep,dz]
def rG(C:Ctx)(w:aN)(p:Nat)(h:sr C w p):
 Ue prog 85 #[bF C.pb] w λe a=>e=bY (tI (aS C.ts p))/\R_ w a:=
 I4 C.pb C.g C.cap p (Ty C.ts) w _ _ _ _ h.lt h.len h.cap (aH h.i_) (by grind [sr.row]) (aA h.i_ rfl) (aA h.i_ rfl) h.tok.1 h.tok.2.1 h.tok.2.2.1 h.tok.2.2.2
abbrev iD(k n:Nat):Ending:=.panicked [{ v:=.iface 97 (Us #[I_ k,I_ n]),recovered:=Uc }]
def lD(k n:Nat)(w:aN):
 Ue prog 88 #[I_ k,I_ n] w λe a=>e=iD k n/\a=w:=by
 go_in
 go_wp2_with fail;exact⟨aJ,aJ,aJ⟩
def NS(a c d:Int)(b:ByteArray)(w:aN):(Instr.field 174 (Us #[I_ a,Q_ b,I_ c,I_ d]) 3).run prog w=.ok (I_ d) w:=k_
def Oq(C:Ctx)(w:aN)(p:Nat)(h:sr C w p):
 Ue prog 245 #[bF C.pb] w λe d=>e=bY (Us #[I_ (aS C.ts p).l_])/\R_ w d:=by
 have a:=aB (λo=>rG C (w.alloc o) p (qh))
 simp only[tI]at a;go_in
 go_wp2_with fail;refine rf (a _) λj b=>?_
 obtain⟨g,i⟩:=ve b;have c:=aB b;have f:=NS;go_wp2
 refine bodyPost_ret (v:=Us #[I_ (aS C.ts p).l_]) (by simp[results,results245,go_sem,g]) rfl ⟨rfl,?_⟩
 exact(((dz _ _).alloc (aD) _).trans (c.mono s_)).setCell s_ _
def sr.move(h:sr m E D)(f:R_ E K)(q:Nat)(e:q<Ty m.ts):
 sr m (Tz K (aL m.pb 1) (I_ q)) q/\Fr m.pb E (Tz K (aL m.pb 1) (I_ q)):=by
 have c:=h.below f;obtain⟨a,g,d⟩:=c.row;refine⟨⟨?_,⟨a,?_,d⟩,h.ne,e,h.len,h.cap,h.all,h.Bn⟩,pu⟩
 .rw[aP c.i_];rfl
 grind [em,sr.ne]
def sr.cells{w a:aN}(h:sr m w D)(c:R_ w a):
 m.pb<a.heap.size/\a.cell? (aL m.pb 1)=Ua (I_ D)/\a.frozen? (aL m.pb 1)=Uc:=by
 have b:=h.below c;exact⟨aH b.i_,aA b.i_ aJ,aF b.i_⟩
def Mv(h:sr m E D)(x:bP):bZ m.ts D x=(decide (sf (aS m.ts D).c_=0) && (aS m.ts D).x_==x):=by grind [bZ,sf,xI.tk,sr.Bn,aS,oR]
def AI(C:Ctx)(w:aN)(p:Nat)(x:ByteArray)(h:sr C w p):
 Ue prog 198 #[bF C.pb,Ur x] w λe j=>e=bY (Uw (bZ C.ts p x.data.toList))/\sr C j (if bZ C.ts p x.data.toList then p+1 else p)/\Fr C.pb w j:=by
 have r:=aB (Mv h x.data.toList);have f:=aB (rG C w p h);simp only[tI]at f;have s:Hid (bZ C.ts p x.data.toList=Ud->p+1<Ty C.ts):=λe=>h.all.ok.xu h.lt e
 have i:Hid (((bs (aS C.ts p).x_).toList==x.toList)=((aS C.ts p).x_==x.data.toList)):=by show _=_;rw[aX,Lib.toList_data]
 have m:p<=3000:=by have:=h.lt;have:=h.len;exact aD
 have H:=aB h;generalize bZ C.ts p x.data.toList=g at*;generalize aS C.ts p=t at*;obtain⟨d,c,n⟩:=t;simp only at r f i;generalize ug ⟨d,c,n⟩=z at*;go_in
 go_wp2_with fail;refine rf f λv l=>?_
 obtain⟨D,B,A⟩:=H.cells l;have b:=aB l;by_cases y:sf d=0
 .have u:((sf d:Int) != 0)=Uc:=G_
  cases k:(c==x.data.toList)
  .have q:((bs c).toList==x.toList)=Uc:=by rw[i,k]
   have a:g=Uc:=by grind [d7]
   subst a;go_wp2
   go_ret;exact⟨s_,H.below (b.alloc b.size _),Fr.below (b.alloc b.size _)⟩
  have q:((bs c).toList==x.toList)=Ud:=by rw[i,k]
  have a:g=Ud:=by grind [d7]
  subst a;go_wp2
  go_ret;have o:=H.move b (p+1) (s trivial);exact⟨s_,qh,o.2.alloc _⟩
 have a:g=Uc:=by grind [d7]
 subst a;go_wp2
 go_ret;exact⟨s_,H.below (b.alloc b.size _),Fr.below (b.alloc b.size _)⟩
def O2(C:Ctx)(w:aN)(p:Nat)(x:ByteArray)(h:sr C w p):
 Ue prog 141 #[bF C.pb,Q_ x] w λe j=>Fr C.pb w j/\if bZ C.ts p (dY x)then e=fD/\sr C j (p+1)else e=iD 4 (aS C.ts p).l_:=by
 have d:=aB (AI C w p x h);cases c:bZ C.ts p (dY x)
 .rw[c]at d;go_in
  go_wp2_with fail;refine rf d λi ⟨a,b⟩=>?_
  have k:=aB (rG C i p a);simp [tI]at k;have g:=aB b;have m:=NS;go_wp2_with fail;refine rf k λq f=>?_
  have l:=aB f;go_wp2_with (refine rf (lD 4 (aS C.ts p).l_ _) λn o=>?_)
  exact⟨aJ,g.trans (Fr.below l),aJ⟩
 go_in
 go_wp2_with fail;refine rf d λi ⟨a,b⟩=>?_
 go_wp2
 go_end0;grind
def Ry(t:bH):sf t.c_=1↔t.c_=110:=by grind [sf]
def Sn(C:Ctx)(w:aN)(p:Nat)(h:sr C w p):
 Ue prog 142 #[bF C.pb] w λe m=>Fr C.pb w m/\if (aS C.ts p).c_==110 then e=bY (Us #[I_ (aS C.ts p).l_,Q_ (bs (aS C.ts p).x_)])/\sr C m (p+1)else e=iD 4 (aS C.ts p).l_:=by
 have g:=aB (λo=>rG C (w.alloc o) p (qh))
 simp only[tI]at g;have y:Hid ((aS C.ts p).c_=110->p+1<Ty C.ts):=λe=>h.all.ok.next p h.lt aD
 have s:=aB (Ry (aS C.ts p));have B:p<=3000:=by have:=h.lt;have:=h.len;exact aD
 have H:=aB h;have hl0 :=aH h.i_;have d:H_ w≠C.g:=by have:=h.xt;exact aD
 generalize aS C.ts p=t at*;obtain⟨c,r,j⟩:=t;simp only at g y s;simp only;generalize ug ⟨c,r,j⟩=L at*;generalize sf c=q at*;by_cases n:c=110
 .obtain rfl:q=1:=s.2 n;have k:=y n;rw[show (c==110)=Ud by grind]
  go_in
  go_wp2_with fail;refine rf (g _) λl b=>?_
  have a:=((dz _ _).alloc mJ _).trans (b.mono s_)
  obtain⟨G,A,z⟩:=H.cells a;obtain⟨x,F⟩:=ve b;have D:H_ w<H_ l:=by have:=b.size;simp at this;exact aD
  have f:=aB a;have i:¬C.pb=H_ w:=aD;have u:¬(H_ w)=C.pb:=aD;go_wp2_with fail;have I:=H.move f (p+1) k;refine bodyPost_ret (v:=Us #[I_ j,Q_ (bs r)]) (by simp[results,results142,go_sem,World.cell?_alloc_past,D,x]) rfl ?_
  refine⟨(by grind [Fr.alloc,Fr.setCell]),rfl,?_⟩
  exact((I.1.other aD d).other aD d).below ((dz _ _).alloc mJ _)
 have J:((q:Int) != 1)=Ud:=by grind [d7]
 rw[show (c==110)=Uc by grind]
 go_in
 go_wp2_with fail;refine rf (g _) λl b=>?_
 have a:=((dz _ _).alloc mJ _).trans (b.mono s_)
 obtain⟨G,A,z⟩:=H.cells a;obtain⟨x,F⟩:=ve b;have f:=aB a;have i:¬C.pb=H_ w:=aD;go_wp2_with (go_at_call 88;refine rf (lD 4 j _) λK E=>?_;obtain rfl:=E.symm)
 exact⟨aJ,Fr.below (f.alloc f.size _),aJ⟩
def xJ(R:Uf->aC->Prop)(F:bN)(w:aN)(kv:aW)(ks:List aC):Prop:=
 (kv=bO/\ks=[])\/
 ∃g cap cur vs,kv=.slice (Ua (aL g 0)) (Ty ks) cap/\F g/\w.heap[g]?=Ua (.cells cur 147)/\Ty ks<=cap/\cur.toList.take (Ty ks)=vs/\jM R vs ks
structure ua where
 v:Uf
 ks:List aC
 one:Bool
def sV(R:Uf->aC->Prop)(F:bN)(w:aN)(p:ua):Prop:=
 (p.one=Ud/\∃a,p.ks=[a]/\R p.v a)\/(p.one=Uc/\xJ R F w p.v p.ks)
def Shape(T:TypeId)(cs:Array Uf)(a:aC)(ps:List ua):Prop:=
 (T=365/\∃k,cs= #[I_ a.l_,I_ (k:Nat)]/\a.op=[48]/\dS 0 a.x_=Ua k/\a.y_=[]/\ps=[])\/
 (T=394/\cs= #[I_ a.l_,Ur (bs a.x_)]/\a.op=[115]/\a.y_=[]/\ps=[])\/
 (T=396/\cs= #[I_ a.l_,Uw (a.x_==[116,114,117,101])]/\a.op=[98,111,111,108]/\a.y_=[]/\ps=[])\/
 (T=346/\∃sv,cs= #[I_ a.l_,sv]/\a.op=[108,105,115,116]/\ps=[⟨sv,a.y_,Uc⟩])\/
 (T=341/\∃sv,cs= #[I_ a.l_,Ur (bs a.x_),sv]/\a.op=[99,97,108,108]/\ps=[⟨sv,a.y_,Uc⟩])\/
 (T=344/\cs= #[I_ a.l_,Ur (bs a.x_)]/\a.op=[110,97,109,101]/\a.y_=[]/\ps=[])\/
 (T=348/\∃l v1 v2 a1 a2,cs= #[I_ (l:Nat),v1,v2]/\a.op=[105,110,100,101,120]/\a.y_=[a1,a2]/\ps=[⟨v1,[a1],Ud⟩,⟨v2,[a2],Ud⟩])\/
 (T=350/\∃o v1 a1,cs= #[I_ a.l_,Ur (bs [o]),v1]/\(o=45\/o=33)/\a.op=[o,120]/\a.y_=[a1]/\ps=[⟨v1,[a1],Ud⟩])\/
 (T=352/\∃l v1 v2 a1 a2,cs= #[I_ (l:Nat),Ur (bs a.op),v1,v2]/\cU a.op≠9/\a.y_=[a1,a2]/\ps=[⟨v1,[a1],Ud⟩,⟨v2,[a2],Ud⟩])\/
 (T=329/\∃v1 t a1,cs= #[I_ a.l_,I_ t.l_,Ur (bs t.x_),v1]/\a.op=[118,97,114]/\a.y_=[t,a1]/\ps=[⟨v1,[a1],Ud⟩])\/
 (T=332/\∃sv v1 l a1,cs= #[I_ a.l_,Ur (bs a.x_),sv,v1]/\a.op=[115,101,116]/\a.y_=l++[a1]/\ps=[⟨sv,l,Uc⟩,⟨v1,[a1],Ud⟩])\/
 (T=334/\∃v1 s1 a1 b1,cs= #[I_ a.l_,v1,s1,bO]/\a.op=[105,102]/\b1.op=[98,108,111,99,107]/\a.y_=[a1,b1]/\ps=[⟨v1,[a1],Ud⟩,⟨s1,b1.y_,Uc⟩])\/
 (T=334/\∃v1 s1 s2 a1 b1 b2,cs= #[I_ a.l_,v1,s1,s2]/\a.op=[105,102]/\b1.op=[98,108,111,99,107]/\b2.op=[98,108,111,99,107]/\a.y_=[a1,b1,b2]/\ps=[⟨v1,[a1],Ud⟩,⟨s1,b1.y_,Uc⟩,⟨s2,b2.y_,Uc⟩])\/
 (T=336/\∃v1 s1 a1 b1,cs= #[I_ a.l_,v1,s1]/\a.op=[119,104,105,108,101]/\b1.op=[98,108,111,99,107]/\a.y_=[a1,b1]/\ps=[⟨v1,[a1],Ud⟩,⟨s1,b1.y_,Uc⟩])\/
 (T=338/\∃l,cs= #[I_ a.l_,.iface 365 (Us #[I_ (l:Nat),I_ 0])]/\a.op=[114,101,116,117,114,110]/\a.y_=[]/\ps=[])\/
 (T=338/\∃v1 a1,cs= #[I_ a.l_,v1]/\a.op=[114,101,116,117,114,110]/\a.y_=[a1]/\ps=[⟨v1,[a1],Ud⟩])\/
 (T=339/\∃v1 a1,cs= #[I_ a.l_,v1]/\a.op=[112,114,105,110,116]/\a.y_=[a1]/\ps=[⟨v1,[a1],Ud⟩])\/
 (T=341/\∃sv c,cs= #[I_ c.l_,Ur (bs c.x_),sv]/\a.op=[100,111]/\a.l_=c.l_/\a.x_=c.x_/\a.y_=[c]/\c.op=[99,97,108,108]/\ps=[⟨sv,c.y_,Uc⟩])
def xe:Nat->(Nat->Prop)->World->Uf->aC->Prop
 |0,_,_,_,_=>False
 |d+1,F,w,v,a=>∃T cs ps,v=.iface T (Us cs)/\Shape T cs a ps/\∀p∈ps,sV (xe d F w) F w p
def PN(F:bN)(w:aN)(v:aW)(a:aC):Prop:=∃d,xe d F w v a
theorem xJ.mono{S:Uf->aC->Prop}{F G:bN}{w:aN}{d:aW}(h:xJ q F w d H)(hR:∀v a,q v a->S v a)(hF:∀b,F b->G b):xJ S G w d H:=by exact TH
theorem xJ.h_{w w':aN}{d:List aC}(h:xJ q C w I d)(n:∀b,C b->w'.heap[b]?=w.heap[b]?):xJ q C w' I d:=by
 rcases h with h|⟨g,a,c,i,k,f,o,j,l,m⟩
 .exact ed h
 exact ec ⟨g,a,c,i,k,f,G_,j,l,m⟩
def sV.mono{S:Uf->aC->Prop}{F G:bN}{w:aN}{p:ua}(h:sV q F w p)(c:∀v a,q v a->S v a)(d:∀b,F b->G b):sV S G w p:=by grind [xJ.mono,sV]
def sV.h_{w w':aN}{p:ua}(h:sV q C w p)(a:∀b,C b->w'.heap[b]?=w.heap[b]?):sV q C w' p:=by grind [xJ.h_,sV]
theorem xe.mono{F G:bN}{w:aN}(c:∀b,F b->G b):∀{d e:Nat} {v a},xe d F w v a->d<=e->xe e G w v a
 |_+1,_+1,_,_,⟨T,k,g,l,j,m⟩,i=>⟨T,k,g,l,j,λp f=>(m p f).mono (λ_ _ h=>xe.mono c h aD) c⟩
 |0,_,_,_,h,_=>h.elim
def xe.h_{w w':aN}(c:∀b,C b->w'.heap[b]?=w.heap[b]?):∀{d:Nat} {v a},xe d C w v a->xe d C w' v a
 |_+1,_,_,⟨T,i,f,j,g,k⟩=>⟨T,i,f,j,g,λp e=>((k p e).mono (λ_ _ h=>xe.h_ c h) (s_)).h_ c⟩
theorem PN.mono{F G:bN}{w:aN}{v:aW}{a:aC}(h:PN F w v a)(c:∀b,F b->G b):PN G w v a:=by obtain⟨d,h⟩:=h;exact⟨d,h.mono c (aD)⟩
def PN.h_{w w':aN}{v:aW}{a:aC}(h:PN C w v a)(c:∀b,C b->w'.heap[b]?=w.heap[b]?):PN C w' v a:=by obtain⟨d,h⟩:=h;exact⟨d,h.h_ c⟩
def PN.form(h:PN C E I G):∃T b,I=.iface T (Us b):=by
 obtain⟨d,h⟩:=h;cases d with
 |zero=>exact h.elim
 |succ d=>grind [xe]
def jM.zr:∀{a b},jM (PN C E) a b->∃d,jM (xe d C E) a b
 |[],[],_=>⟨0,trivial⟩
 |_::_,_::_,⟨⟨d,f⟩,c⟩=>by obtain⟨e,g⟩:=jM.zr c;exact⟨max d e,(by grind [xe.mono]),(by grind [jM.mono,xe.mono])⟩
 |[],_::_,h=>h.elim
 |_::_,[],h=>h.elim
def ua.ok(F:bN)(w:aN)(p:ua):Prop:=sV (PN F w) F w p
def ua.ok.depth{p:ua}(h:p.ok C E):∃d,sV (xe d C E) C E p:=by
 rcases h with ⟨c,a,i,d,j⟩|⟨c,h|⟨g,e,b,l,f,i,j,m,o,k⟩⟩
 .grind [sV]
 .exact⟨0,ec ⟨c,ed h⟩⟩
 obtain⟨d,n⟩:=k.zr;exact⟨d,ec ⟨c,ec ⟨g,e,b,l,f,i,j,m,o,n⟩⟩⟩
def ua.ok.all{F:bN}{w:aN}:∀{ps:List ua},(∀p∈ps,p.ok F w)->∃d,∀p∈ps,sV (xe d F w) F w p
 |[],_=>(by simp)
 |p::ps,h=>by
  obtain⟨d,c⟩:=(h p (s_)).depth
  obtain⟨e,b⟩:=ua.ok.all (ps:=ps) λq a=>h q (jw _ a)
  refine⟨max d e,λq a=>?_⟩
  rcases ff.1 a with rfl|a
  .exact c.mono ((by grind [xe.mono])) (s_)
  exact(b q a).mono ((by grind [xe.mono])) (s_)
def PN.mk{T:TypeId}{c:Array Uf}{b:List ua}(h:Shape T c G b)(e:∀p∈b,p.ok C E):PN C E (dH T (Us c)) G:=by obtain⟨d,f⟩:=ua.ok.all e;exact⟨d+1,T,c,b,aJ,h,f⟩
def ua.ok.node(h:PN C E I G):ua.ok C E ⟨I,[G],Ud⟩:=ed G_
def rP(F:bN)(w:aN)(kv:aW)(ks:List aC):Prop:=xJ (PN F w) F w kv ks
theorem ua.ok.list{l:List aC}(h:rP C E I l):ua.ok C E ⟨I,l,Uc⟩:=ec ⟨rfl,h⟩
theorem rP.h_{G:bN}{w w':aN}{d:aW}(h:rP C w d H)(a:∀b,C b->w'.heap[b]?=w.heap[b]?)(e:∀b,C b->G b):rP G w' d H:=
 (xJ.mono h (λ_ _ h=>(h.h_ a).mono e) (s_)).h_ a |>.mono (s_) e
def PN.grow{c d:Nat}{a:aC}(h:PN (rn D J) E I a)(j:∀k,D<=k->k<J->K.heap[k]?=E.heap[k]?)(m:c<=D)(l:J<=d):PN (rn c d) K I a:=
 (h.h_ λb i=>j b i.1 i.2).mono qa
theorem rP.grow{c d a:Nat}(h:rP (rn c d) E I H)(f:∀k,c<=k->k<d->K.heap[k]?=E.heap[k]?)(i:a<=c)(g:d<=D):rP (rn a D) K I H:=
 (by grind [rP.h_,rn])
def Qv:(prog.info? 147).map (λi=>(i.zero,i.size,i.bytes))=Ua (Ua .nilIface,1,16):=k_
def ur(b_:Nat)(w:aN)(v:aW)(acc:List aC):Prop:=
 ∃vs F,w.ownsRow b_ 147 1 v (Ty acc) vs/\jM (PN F w) vs acc/\∀b,F b->b_<=b/\b<w.heap.size/\v.ownBlock≠Ua b
theorem ur.nil(a:Nat)(w:aN):ur a w (bO) []:=⟨[],λ_=>False,World.ownsRow_nil _ _ _ _,trivial,s_⟩
def ur.slice{b:Nat}{w:aN}{v:aW}(h:ur b w v H):∃x c,v=.slice x (Ty H) c:=by
 obtain⟨k,F,f,_⟩:=h;rcases f.2 with ⟨e,j⟩|⟨g,i,d,e,_⟩
 .grind
 grind
theorem ur.h_{a d:Nat}{w:aN}{v:aW}{b:List aC}(h:ur a w v b)(hf:Fr d w E)(e:d<a):ur a E v b:=by exact U1
def ur.snoc{b_ lo:Nat}{j:aN}{l:aW}{m:List Uf}(r:jM (PN C E) m H)(B:∀b,C b->b_<=b/\b<H_ E/\I.ownBlock≠Ua b)
 (z:PN (rn lo (H_ E)) E l G) (A:b_<=lo) (q:∀k,I.ownBlock=Ua k->k<lo) (y:∀k,k<H_ E->K.heap[k]?=E.heap[k]?) (x:H_ E<=H_ K)
 (p:j.ownsRow b_ 147 1 (P_ (Ua (aL D 0)) (Ty H+1) J) (Ty H+1) (m++[l]))
 (f:K.grownBy j I.ownBlock) (t:I.ownBlock=Ua D\/H_ E<=D):ur b_ j (P_ (Ua (aL D 0)) (Ty H+1) J) (H++[G]):=by
 have u:∀b,(C b\/rn lo (H_ E) b)->b_<=b/\b<H_ E/\I.ownBlock≠Ua b:=by grind [rn]
 have d:∀b,(C b\/rn lo (H_ E) b)->j.heap[b]?=E.heap[b]?:=(by grind [World.grownBy.block])
 refine⟨m++[l],λb=>C b\/rn lo (H_ E) b,?_,?_,?_⟩
 .grind
 .exact jM.snoc (r.mono λ_ _ h=>(h.mono (G_)).h_ d) ((z.mono (G_)).h_ d)
 intro b s;have n:=u b s;have:=f.size;refine⟨n.1,aD,λe=>?_⟩
 have e' :=ft e;grind
def ur.tm(h:ur D E I H):rP (rn D (H_ E)) E I H:=by
 obtain⟨k,F,l,m,q⟩:=h;rcases l.2 with ⟨e,f⟩|⟨g,c,d,e,f,i,j,p,n,o⟩
 .exact ed G_
 exact ec ⟨g,c,d,k,e,⟨f,G_⟩,i,j,G_,(by grind [jM.mono,PN.mono,rn])⟩
def sr.grown{a:Option Nat}{b_:Nat}(h:sr m E D)(f:E.grownBy K a)(e:∀k,a=Ua k->b_<=k)(d:m.pb<b_)(c:m.g<b_):sr m K D:=
 (by grind [sr.h_,World.grownBy.block,sr.vd,sr.xt])
def Out{α:Type}(C:Ctx)(w:aN)(r:bS α)(P:World->Uf->α->Prop)(e:Ending)(w':aN):Prop:=
 Fr C.pb w w'/\match r with
  |.ok (a,q)=>sr C w' q/\∃v,e=bY v/\P w' v a
  |.error l=>e=iD 4 l
def CM(C:Ctx)(w:aN)(r:bS aC)(e:Ending)(w':aN):Prop:=Out C w r (λw' v a=>PN (rn w.heap.size w'.heap.size) w' v a) e w'
def ru(C:Ctx)(F:Nat)(X:Nat->bS aC):Prop:=∀w p,sr C w p->X p≠.error 0->Ue prog F #[bF C.pb] w (CM C w (X p))
def tJ(ts:List bH)(p:Nat)(l:cY):bP:=(l.find? λx=>bZ ts p x).getD []
def NT(C:Ctx)(w:aN)(p:Nat)(l:cY)(g v:Nat)(O:g<H_ w)(Y:g≠C.pb)(hl:Ty l<=100)(n:∀x∈l,x≠[])(L:∀i (hi:i<Ty l),dP w g i (Q_ (bs l[i])))(h:sr C w p):
 Ue prog 277 #[bF C.pb,P_ (Ua (aL g 0)) (Ty l) v] w λe F=>e=bY (Q_ (bs (tJ C.ts p l)))/\sr C F (if tJ C.ts p l=[]then p else p+1)/\Fr C.pb w F:=by
 have HC:=aB L;have H:=aB h;have S:=aB n;clear L h n;generalize f:(if tJ C.ts p l=[]then p else p+1)=I
 generalize s:tJ C.ts p l=K at*;have Z:=aB f;have V:=aB s;clear f s;go_in
 go_wp2
 go_loopg [6,9] (Ty l) (λgk m i wr=>∃k:Nat,k+gk=Ty l/\i=I_ k/\Fr C.pb w wr/\sr C wr p/\Hid (∀x∈l.take k,bZ C.ts p x=Uc))
 case atStart=>exact⟨0,aD,rfl,Fr.refl _ _,H,λx X=>by simp at X⟩
 case round=>
  obtain⟨k,P,rfl,a,b,D⟩:=hrel;by_cases N:k<Ty l
  .obtain⟨j,rfl⟩:∃j,gk=j+1:=⟨gk-1,aD⟩;have A:dP wr g k (Q_ (bs l[k])):=(by grind [iN,Fr.block,d7])
   have U:g<H_ wr:=ej O a.size;have t:=aB (AI C wr p (bs l[k]) b);have E:(bs l[k]).data.toList=l[k]:=by simp[bs]
   rw[E]at t
   have J:Hid (l=l.take k++l[k]::l.drop (k+1)):=by
    show _=_
    simp
   have G:Hid (∀y∈l.take (k+1),y∈l.take k\/y=l[k]):=λy hy=>by grind [List.take_succ_eq_append_getElem]
   have q:l[k]≠[]:=(by grind [d7])
   have W:=aB q;have u:=aB a;clear b a E q;generalize l[k]=y at*;cases c:bZ C.ts p y
   .rw[c]at t
    have T:Hid (∀z∈l.take (k+1),bZ C.ts p z=Uc):=λz hz=>by grind [d7]
    clear D G J c;go_wp2_with fail;refine rf t λM ⟨o,r⟩=>?_
    go_wp2
    go_roundg j
    case measure=>exact aD
    grind [Fr.trans,d7]
   rw[c]at t
   have B:Hid (K=y):=by grind [d7,tJ]
   clear D G J c;go_wp2_with fail;refine rf t λM ⟨o,r⟩=>?_
   go_wp2
   go_ret;have d:I=p+1:=by grind [d7]
   rw[B,d];exact⟨aJ,o,u.trans r⟩
  have B:Hid (K=[]):=by grind [d7,tJ,List.take_of_length_le]
  have u:=aB a;have Q:=aB b;clear D a b;go_wp2
  go_ret;have d:I=p:=by grind [d7]
  rw[B,d];exact⟨aJ,Q,u⟩
def M7(c:UInt8)(w:aN):
 Ue prog 191 #[.int .u8 c.toNat] w λe a=>e=bY (Uw (fT c))/\a=w:=by
 have d:(c.toNat:Int)<=255:=mH c;have b:=aB (NV c);go_in
 go_wp2
 all_goals
  go_ret;exact⟨gO (by rw[b]),rfl⟩
def zY(c:UInt8)(w:aN):
 Ue prog 194 #[.int .u8 c.toNat] w λe a=>e=bY (Uw (dL c))/\a=w:=by
 have d:(c.toNat:Int)<=255:=mH c;have b:Hid (dL c=(decide (48<=c.toNat) && decide (c.toNat<=57))):=rfl;go_in
 go_wp2
 all_goals
  go_ret;exact⟨gO ll,rfl⟩
def ES(c:UInt8)(w:aN):
 Ue prog 192 #[.int .u8 c.toNat] w λe a=>e=bY (Uw (eF c))/\a=w:=by
 have d:(c.toNat:Int)<=255:=mH c;have b:Hid (eF c=(c.toNat==95 || (decide (97<=c.toNat) && decide (c.toNat<=122) || decide (65<=c.toNat) && decide (c.toNat<=90)))):=rfl
 go_in
 go_wp2
 all_goals
  go_ret;exact⟨gO ll,rfl⟩
def z6(c:UInt8)(w:aN):
 Ue prog 240 #[.int .u8 c.toNat] w λe f=>e=bY (Uw (dK Ud c))/\f=w:=by
 have b:Hid (dK Ud c=(eF c || dL c)):=by show _=_;unfold dK;rw[Bool.true_and,Bool.or_comm]
 have i:=aB (ES c);have k:=aB (zY c);generalize dK Ud c=r at*;generalize eF c=j at*;generalize dL c=g at*;have h:=b.out;subst h;clear b;cases j<;>cases g
 all_goals
  go_in
  go_wp2_with (first|(go_at_call 192;refine rf (i _) λd a=>?_;obtain rfl:=a.symm)|(go_at_call 194;refine rf (k _) λd a=>?_;obtain rfl:=a.symm))
  go_ret;exact⟨aJ,aJ⟩
def RD(c:UInt8)(w:aN):
 Ue prog 244 #[.int .u8 c.toNat] w λe a=>e=bY (Uw (iG c))/\a=w:=by
 have d:(c.toNat:Int)<=255:=mH c;have b:Hid (iG c=(c.toNat != 34 && c.toNat != 10)):=rfl;go_in
 go_wp2
 all_goals
  go_ret;exact⟨gO ll,rfl⟩
def BB(P:UInt8->Bool)(F:Nat)(r:∀a w,Sem.run prog (callFunc F a) w=.ok (.enter F a) w)(o:∀c w,Ue prog F #[.int .u8 (UInt8.toNat c)] w λe k=>e=bY (Uw (P c))/\k=w)(s:ByteArray)(w:aN)(t:s.size<=2000000000):
 Ue prog 190 #[Ur s,.func (.func F) #[] #[]] w λe k=>e=bY (I_ (bR P s.data.toList))/\k=w:=by
 have n:=aB o;clear o;go_in
 go_wp2
 go_loop [5] (λi=>∃j:Nat,j<=s.size/\i=I_ j/\Hid (bR P s.data.toList=j+bR P (s.data.toList.drop j))) (λi=>s.size-(intOf i).toNat)
 case atStart=>exact⟨0,Nat.zero_le _,aJ,by show _=_;simp⟩
 case round=>
  obtain⟨j,u,rfl,b⟩:=hrel;by_cases g:j<s.size
  .have q:(s[j].toNat:Int)<=255:=mH s[j];rw[gF s j g]at b;have f:=aB (n s[j]);cases d:P s[j]
   .rw[IJ _ _ _ d]at b;rw[d]at f;clear d;go_wp2_with (refine rf (f _) λp l=>?_;obtain rfl:=l.symm)
    go_ret;exact⟨nV (by have:=b.out;exact aD),rfl⟩
   rw[pL _ _ _ d]at b;rw[d]at f;clear d;have m:Hid (bR P s.data.toList=j+1+bR P (s.data.toList.drop (j+1))):=by show _=_;rw[b];exact aD
   go_wp2_with (refine rf (f _) λp l=>?_;obtain rfl:=l.symm)
   go_round
   case rel=>exact⟨j+1,aD,la,m⟩
   case measure=>simp[intOf];exact aD
  rw[gp (by simpa using (by omega:s.size<=j))]at b
  go_wp2
  go_ret;exact⟨nV (by have:=b.out;simp[bR]at this;exact aD),rfl⟩
def WL(x:bP)(w:aN):
 Ue prog 242 #[Q_ (bs x)] w λe a=>e=bY (Uw (fC.contains x))/\a=w:=by
 have c:(bs x).toList=x:=aX x
 have b:Hid (fC.contains x=(x==[102,117,110,99] || (x==[118,97,114] || (x==[105,102] || (x==[101,108,115,101] || (x==[119,104,105,108,101] || (x==[114,101,116,117,114,110] || (x==[112,114,105,110,116] || (x==[116,114,117,101] || x==[102,97,108,115,101]))))))))):=by
  show _=_
  rw[jg];simp[fC]
 go_in
 go_wp2
 all_goals
  go_ret;exact⟨gO (by rw[b];first|done|simp_all),rfl⟩
def VA(s x:ByteArray)(w:aN)(_hs:s.size<=2000000000)(_hx:x.size<=100):
 Ue prog 238 #[Q_ s,Q_ x] w λe b=>e=bY (Uw (eE (dY s) (dY x)))/\b=w:=by
 by_cases h:x.size<=s.size
 .have a:Hid (eE (dY s) (dY x)=((s.extract 0 x.size).toList==x.toList)):=by
   unfold eE Hid;rw[nX _ _ qm,Lib.extract_toList,Lib.toList_data]
   congr 3
  go_wp2
  go_ret;exact⟨gO (by rw[a]),rfl⟩
 have a:Hid (eE (dY s) (dY x)=Uc):=by exact vF _ _ kj
 go_wp2
 go_ret;exact⟨gO (by rw[a]),rfl⟩
def IV(s x:ByteArray)(w:aN)(b:s.size<=2000000000)(c:x.size<=100):
 Ue prog 189 #[Ur s,Ur x] w λe a=>e=bY (Uw (eE s.data.toList x.data.toList))/\a=w:=by
 have H:=aB (VA s x w b c);go_in
 go_wp2_with fail;refine rf H λf d=>?_
 go_wp2
 go_ret;simp
theorem rX(s:ByteArray)(k:Nat):(s.extract k s.size).data.toList=s.data.toList.drop k:=by rw[rW,jT];exact hQ s_
def SC(sb:Nat)(src:ByteArray)(n l:Nat)(w:aN):Prop:=w.heap[sb]?=Ua (.cells #[Ur src,I_ n,I_ l] 252)
def SC.cells{a:Nat}{b:ByteArray}{n:Nat}{w:aN}(h:SC a b n D w):
 a<w.heap.size/\w.cell? (aL a 0)=Ua (Ur b)/\w.cell? (aL a 1)=Ua (I_ n)/\w.cell? (aL a 2)=Ua (I_ D)/\w.frozen? (aL a 1)=Uc/\w.frozen? (aL a 2)=Uc:=
 (by grind [aA,aF,SC])
def SC.move(h:SC D a J l E)(m:Nat):SC D a m l (Tz E (aL D 1) (I_ m)):=by unfold SC;rw[aP h];rfl
def SC.down(h:SC D a J l E)(m:Nat):SC D a J m (Tz E (aL D 2) (I_ m)):=by unfold SC;rw[aP h];rfl
def SC.drewN(h:SC D a J l E)(m:Nat):SC D a J l (E.drewN m):=h
def xP(b:Nat)(a:ByteArray)(n l:Nat)(w:aN)(h:SC b a n l w):
 Ue prog 241 #[bF b] w λe c=>e=iD 3 l/\c=w:=by
 obtain⟨k,m,o,f,i,d⟩:=h.cells;go_in
 go_wp2_with (refine rf (lD 3 l _) λj g=>?_)
 exact⟨aJ,aJ,aJ⟩
def tH(b:Nat)(a:ByteArray)(n l m:Nat)(w:aN)(h:SC b a n l w)(o:a.size<=2000000000)(q:n+m<=a.size):
 Ue prog 239 #[bF b,I_ m] w λe c=>e=bY (Q_ (bs (((dY a).drop n).take m)))/\SC b a (n+m) l c/\Fr b w c:=by
 obtain⟨f,i,j,k,g,p⟩:=h.cells;have H:=aB h;have d:Hid (a.extract n (n+m)=bs (((dY a).drop n).take m)):=by grind [rW]
 go_in
 go_wp2_with fail;go_quiet (fail)
 go_wp2
 go_ret;refine⟨by rw[<-d];rfl,?_,?_⟩
 .exact(H.drewN _).move _
 grind [Fr.setCell,Fr.drewN,Fr.refl]
def WF(l:bP)(k:Nat):bD (l.take (k+bR fT (l.drop k)))=bD (l.take k):=by grind [fT,List.count_eq_zero,lN,bD]
def OE(s:ByteArray)(k:Nat)(h:k<s.size):bD (s.data.toList.take (k+1))=bD (s.data.toList.take k)+if s[k]=10 then 1 else 0:=by grind [ND,bD]
def UM(m:Nat)(a:ByteArray)(n:Nat)(w:aN)(h:SC m a n (bD ((dY a).take n)) w)(hs:a.size<=2000000000)(N:n<=a.size):
 Ue prog 139 #[bF m] w λe B=>e=fD/\SC m a (n+cJ a.size ((dY a).drop n)) (bD ((dY a).take (n+cJ a.size ((dY a).drop n)))) B/\Fr m w B:=by
 have H:=aB h;go_in
 go_wp2
 go_loopg [2] a.size (λgk _ wr=>∃k f:Nat,k<=a.size/\a.size<=k+f/\a.size<=k+gk/\SC m a k (bD ((dY a).take k)) wr/\Fr m w wr/\Hid (n+cJ a.size ((dY a).drop n)=k+cJ f ((dY a).drop k)))
 case atStart=>exact⟨n,a.size,N,aD,aD,H,Fr.refl _ _,rfl⟩
 case round=>
  obtain⟨k,f,V,hf,G,t,x,l⟩:=hrel;obtain⟨U,c0,Z,I,W,f2⟩:=t.cells;have c:=aB t;have q:=aB x;by_cases d:k<a.size
  .have hb :=mH a[k];obtain⟨f,rfl⟩:∃M,f=M+1:=⟨f-1,aD⟩;obtain⟨j,rfl⟩:∃j,gk=j+1:=⟨gk-1,aD⟩;rw[gF a k d]at l
   have K:bD ((dY a).take k)<=k+1:=by have:=BM ((dY a).take k);have:=List.length_take_le k (dY a);exact aD
   have P:(a.extract k a.size).size=a.size-k:=s_
   have E:(a.extract k a.size)[0]=a[k]:=by simp[ByteArray.getElem_extract]
   have p:=aB (OE a k d);by_cases i:a[k].toNat=32\/a[k].toNat=9\/a[k].toNat=10
   .rw[CG _ _ _ i]at l
    have u:Hid (n+cJ a.size ((dY a).drop n)=k+1+cJ f ((dY a).drop (k+1))):=by rw[l];show _=_;exact aD
    by_cases F:a[k].toNat=10
    .have J:((a[k].toNat:Int))=10:=aD
     have y:Hid (bD ((dY a).take (k+1))=bD ((dY a).take k)+1):=by
      show _=_
      rw[p,ef (by rw[Cz];exact J)]
     generalize bD ((dY a).take k)=L at*;go_wp2_with fail;go_quiet (fail)
     go_wp2_with fail;go_quiet (fail)
     go_wp2
     go_roundg j
     case measure=>exact aD
     case rel=>
      refine⟨k+1,f,aD,aD,aD,?_,?_,u⟩
      .rw[y];exact((c.drewN _).down _).move _
      grind [Fr.setCell,Fr.drewN]
    have y:Hid (bD ((dY a).take (k+1))=bD ((dY a).take k)):=by rw[p,ea (by rw[Cz];show ¬((a[k].toNat:Int)=10);exact aD)];rfl
    have X:((a[k].toNat:Int)==10)=Uc:=by simp;exact aD
    have v:a[k].toNat=32\/a[k].toNat=9:=aD;generalize bD ((dY a).take k)=L at*;rcases v with i|i
    all_goals
     go_wp2_with fail;go_quiet (fail)
     go_wp2_with fail;go_quiet (fail)
     go_wp2
     go_roundg j
     case measure=>exact aD
     case rel=>
      refine⟨k+1,f,aD,aD,aD,?_,?_,u⟩
      .rw[y];exact(c.drewN _).move _
      grind [Fr.setCell,Fr.drewN]
   have T:((a[k].toNat:Int)==9)=Uc:=by simp;exact aD
   have g:=aB (λw=>IV (a.extract k a.size) ⟨#[47,47]⟩ w aD d_)
   rw[rX,show (⟨#[47,47]⟩:ByteArray).data.toList=[47,47]from rfl]at g
   cases b:eE (a[k]::(dY a).drop (k+1)) [47,47]
   .rw[FL _ _ _ i b]at l;rw[<-gF a k d]at b;rw[b]at g;have z :=l;have r:Hid (∀nq:Nat,SC m a k (bD ((dY a).take k)) (wr.drewN nq)):=λnq=>c.drewN nq
    generalize Y:bD ((dY a).take k)=L at c I K;go_wp2_with fail;go_quiet (fail)
    go_wp2_with fail;go_quiet (fail)
    go_wp2_with fail;refine rf (g _) λD i=>?_
    obtain rfl:=i.symm;go_wp2_with fail;(try simp only[Exit.inBlock,Exit.then])
    refine bodyPost_ret (results_none aJ _ _ _) aJ ?_;rw[z];exact⟨aJ,r _,q.drewN _⟩
   rw[zH _ _ _ i b]at l
   have S:Hid (1<=bR fT ((dY a).drop k)):=by rw[gF a k d,pL _ _ _ (by unfold fT;simp;exact aD)];show _<=_;exact aD
   rw[<-gF a k d]at b l;rw[jh]at l;rw[b]at g;have s:=aB (λw=>BB fT 191 (s_) M7 (a.extract k a.size) w aD)
   rw[rX]at s
   have Q:bR fT ((dY a).drop k)<=a.size-k:=by have:=oE fT ((dY a).drop k);simpa using this
   have A:=aB (WF (dY a) k);have C:=S.out;generalize O:bR fT ((dY a).drop k)=o at*;have HL2 :=A;generalize bD ((dY a).take k)=L at*;have u:Hid (n+cJ a.size ((dY a).drop n)=(k+o)+cJ f ((dY a).drop (k+o))):=by show _=_;rw[l];exact aD
   go_wp2_with fail;go_quiet (fail)
   go_wp2_with fail;go_quiet (fail)
   go_wp2_with fail;refine rf (g _) λD i=>?_
   obtain rfl:=i.symm;go_wp2
   go_region_law (go_simp;go_at_call 190;refine rf (s _) λw2 i=>?_;obtain rfl:=i.symm)
   all_goals
    go_wp2
    go_roundg j
    case measure=>exact aD
    case rel=>
     refine⟨k+o,f,aD,aD,aD,?_,?_,u⟩
     .have e:Value.int .i64 (IntKind.i64.wrap ((k:Int)+(o:Int)))=I_ ((k+o:Nat):Int):=by rw[IntWalk.i64_in _ aD];rfl
      rw[HL2,e];exact(c.drewN _).move _
     grind [Fr.setCell,Fr.drewN]
  have z:Hid (n+cJ a.size ((dY a).drop n)=k):=by rw[l,gp (by simpa using (by omega:a.size<=k)),KH];rfl
  go_wp2_with fail;go_quiet (fail)
  go_wp2
  go_end0;rw[z];exact⟨aJ,c,q.drewN _⟩
def Fr.we{o:Obj}(d:Fr D E K)(h:E.heap[J]?=Ua o)(e:J≠D):K.heap[J]?=Ua o:=by grind [Fr.block]
def Ci(sb:Nat)(src:ByteArray)(n L:Nat)(w:aN)(r:qV)(e:Ending)(w':aN):Prop:=
 Fr sb w w'/\((r.ok=Ud/\e=bY (tI ⟨r.c_,r.x_,L⟩)/\SC sb src (n+r.size) L w')\/(r.ok=Uc/\e=iD 3 L))
def tX{L:Nat}(h:Fr D E K)(j:SC D a l L K)(i:H_ E<=J)(k:J≠D)(g f e d:aW):
 Fr D E (Tz (Tz (Tz (Tz K (aL J 0) g) (aL J 1) f) (aL J 2) e) (aL J 3) d)/\SC D a l L (Tz (Tz (Tz (Tz K (aL J 0) g) (aL J 1) f) (aL J 2) e) (aL J 3) d):=by
 grind [Fr.setCell,SC,em]
def xQ(a:ByteArray)(n:Nat):(a.extract n a.size).size=a.size-n:=s_
def TC{Z_:Prop}(Y_:Z_:=by
 go_region_law (first|(go_simp;go_at_call 190;refine rf (HSP _) λw1 hw=>?_;obtain rfl:=hw.symm)|(go_simp;go_at_call 239;refine rf HTK λw2 ⟨hs2,hf2⟩=>?_;have HS2:=aB hs2;have HF2:=aB (HF0.drew.trans hf2);have HZ2:=aB (hf2.we HZD hrb);clear hs2 hf2))
 all_goals
  go_wp2_with fail;go_meet
  grind [d7]):Z_:=Y_
def m6(j:Nat)(a:ByteArray)(n L:Nat)(w:aN)(h:SC j a n L w)(P:a.size<=2000000000)(X:n<=a.size):
 Ue prog 193 #[bF j] w (Ci j a n L w (iX ((dY a).drop n) Ud)):=by
 obtain⟨e,o⟩:∃e,e=bR (dK Ud) ((dY a).drop n):=(by simp)
 have Q:e<=a.size-n:=by have:=oE (dK Ud) ((dY a).drop n);rw[o];simpa using this
 have N:=(SC.cells h).1;have hrb:H_ w≠j:=aD;have J:Hid ((eH w #[I_ 0,Q_ ⟨#[]⟩,I_ 0,I_ 0] 174).heap[H_ w]?=Ua (cD #[I_ 0,Q_ ⟨#[]⟩,I_ 0,I_ 0] 174)):=aZ _ _ aJ _;have t:SC j a n L (eH w #[I_ 0,Q_ ⟨#[]⟩,I_ 0,I_ 0] 174):=by grind [SC,eh]
 obtain⟨x,K,C,E,y,I⟩:=t.cells;have HZD:Hid ((eH w #[I_ 0,Q_ ⟨#[]⟩,I_ 0,I_ 0] 174).drew.heap[H_ w]?=Ua (cD #[I_ 0,Q_ ⟨#[]⟩,I_ 0,I_ 0] 174)):=J.out;have HSP:=aB (λw=>BB (dK Ud) 240 (s_) z6 (a.extract n a.size) w qq)
 rw[rX,<-o]at HSP;have HTK:=aB (tH j a n L e (eH w #[I_ 0,Q_ ⟨#[]⟩,I_ 0,I_ 0] 174).drew t P aD);have m:=aB (WL (((dY a).drop n).take e));obtain⟨f,l⟩:∃f,f=((dY a).drop n).take e:=(by simp)
 rw[<-l]at HTK m;have B:(bs f).size=e:=by rw[iT,l,hH];simp;exact aD
 have G:Hid (iX ((dY a).drop n) Ud={ c_:=if fC.contains f then 107 else 110,x_:=f,size:=e,ok:=decide (e<=16) }):=by
  show _=_
  grind [iX]
 rw[G];have V:=aB t;have HF0:Hid (Fr j w (eH w #[I_ 0,Q_ ⟨#[]⟩,I_ 0,I_ 0] 174)):=(Fr.refl _ _).alloc _;clear h t o l G;obtain⟨q,p⟩:∃q,q=fC.contains f:=(by simp)
 rw[<-p]at m ⊢
 clear p;obtain⟨s,g⟩:∃s,s=(if q then 107 else 110):=(by simp)
 rw[show (if q=Ud then 107 else 110)=s from g.symm]
 have r:=aB g;clear g;obtain⟨D,d⟩:∃D:qV,D={ c_:=s,x_:=f,size:=e,ok:=decide (e<=16) }:=(by simp)
 rw[<-d];have k:=aB d;clear d;go_in
 go_wp2
 go_cut [3] (λv wc=>v=Q_ (bs f)/\SC j a (n+e) L wc/\Fr j w wc/\wc.heap[H_ w]?=Ua (cD #[I_ 0,Q_ ⟨#[]⟩,I_ 0,I_ 0] 174))
 case first=>
  exact TC
 case rest=>
  obtain⟨rfl,hs2,hf2,b⟩:=hcut;clear K C E y I x;obtain⟨x,K,C,E,y,I⟩:=hs2.cells;have HS2:=aB hs2;have HF2:=aB hf2;have HZ2:=aB b;have H:=aA b (i:=0) aJ;have A:=aA b (i:=1) aJ;have z:=aA b (i:=2) aJ;have F:=aA b (i:=3) aJ;have Y:=aF (i:=0) b;have T:=aF (i:=1) b;have W:=aF (i:=2) b;have U:=aF (i:=3) b;have S:=aH b;clear hs2 hf2 b HTK HSP J;by_cases O:e<=16
  .cases q
   all_goals
    have g:=r.out;clear r;subst g;have d:=k.out;clear k;subst d;go_wp2_with fail;refine rf (m _) λM hw=>?_
    obtain rfl:=hw.symm;go_wp2_with fail
    first
     |(refine bodyPost_ret (v:=Us #[I_ 1,Ur (bs f),I_ 0,I_ L]) (by simp[results,results193,go_sem,H,A,z,F]) rfl ?_
       have c:=tX HF2 HS2 mJ hrb (I_ 1) (Q_ (bs f)) (I_ 0) (I_ L);exact⟨c.1,ed ⟨s_,rfl,c.2⟩⟩)
     |(refine bodyPost_ret (v:=Us #[I_ 0,Ur (bs f),I_ 0,I_ L]) (by simp[results,results193,go_sem,H,A,z,F]) rfl ?_
       have c:=tX HF2 HS2 mJ hrb (I_ 0) (Q_ (bs f)) (I_ 0) (I_ L);exact⟨c.1,ed ⟨G_,rfl,c.2⟩⟩)
  have d:=k.out;clear k;subst d;have u:=aB (xP j a (n+e) L wc HS2);go_wp2_with fail;refine rf u λM hw=>?_
  obtain rfl:=hw.symm;go_wp2_with fail;exact⟨aJ,HF2,s_⟩
